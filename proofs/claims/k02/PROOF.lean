import PyProof.Rows.All
import Wide.All
import OpenK.AllK
import Wide.FinOn
import HandS.Comp
import HandS.Ends
import HandS.AnyAll
import HandS.GenOver
import PyProof.GenQ
import PyProof.CodeObjX
import HandS.Base
import HandS.Call
import HandS.List
import HandS.Iter
import HandS.Text
import HandS.Words
import HandS.ForMost
import HandS.IsInst
import HandS.Style
import HandS.TupAny
import HandS.Deep
import PyProof.ConsumeS
import HandS.EndTab
import KE.KNest
import PyProof.TypeEq
import PyProof.InstEq
import HandS.More
import PyProof.AutoSeq1
import HandS.SetFor
import HandS.Strs
import HandS.Flow
import PyProof.Rows.SortStr
import HandS.TupMul
import HandS.WordsExc
import HandS.ExcOwn
import HandS.ExcIs
import PyProof.Draws
import HandS.Zip
import PyProof.StrOps2
import PyProof.Rows.TupAdd
import PyProof.StrLaws
import PyProof.StrLawsIn
import PySem.Challenge.RW_soonsaid_k02_written_and_read
set_option Elab.async false
set_option linter.all false
set_option maxRecDepth 100000
set_option maxHeartbeats 1000000
namespace Gx
open PySem L2 PySem.Spec PyProof.Rows GenW

/-! ### a generator expression's frame as a context -/
abbrev gcx (X : Cx) (s : Shared) (H : Hp) (cenv : Env) (N : List Str) (A : Around) (fp : List Addr) : Cx := { X with A := A, N := N, s_0 := s, H_0 := H, env := cenv, outer := X.stack, stack := cenv :: X.stack, ex := fp, fn := fun _ => false, calm := true, pn := [], xe := fun _ _ => False }
/-- js: for each name of N' its slot outside, where it is taken from there -/
structure GScp (N N' : List Str) (js : List (Option Nat)) (sc scope : Scope) : Prop where
  kind : scope.kind = .function
  co : scope.isCoroutine = false
  cell : ∀ y ∈ scope.names, y.2 ≠ .cell
  dot : scope.names.lookup (".0" : Str) = some NameKind.local
  uniq : ∀ y ∈ scope.names, scope.names.lookup y.1 = some y.2
  free : ∀ y ∈ scope.names, y.2 = .free → sc.names.lookup y.1 = some .cell ∨ sc.names.lookup y.1 = some .free
  len : js.length = N'.length
  ix : ∀ (i j : Nat) (x : Str), N'[i]? = some x → js[i]? = some (some j) → N[j]? = some x ∧ scope.names.lookup x = some .free
def pick (σ : L2.St) (js : List (Option Nat)) : L2.St := js.map fun o => o.bind fun j => (σ[j]?).join
theorem pick_some {σ : L2.St} {js : List (Option Nat)} {i : Nat} {v : V} (h : (pick σ js)[i]? = some (some v)) : ∃ j, js[i]? = some (some j) ∧ σ[j]? = some (some v) := by
  unfold pick at h
  rw [List.getElem?_map] at h
  obtain ⟨o, ho, e⟩ := Option.map_eq_some_iff.mp h
  cases o with
  | none => cases e
  | some j =>
    refine ⟨j, ho, ?_⟩
    have e : (σ[j]?).join = some v := e
    cases q : σ[j]? with
    | none => rw [q] at e; cases e
    | some z =>
      rw [q] at e
      have e : z = some v := e
      rw [e]
theorem Inv.gens {X : Cx} {pins : List (Addr × Obj)} {σ : L2.St} {H : Hp} {s : Shared} (I : Inv X pins σ H s) {g' : Array GenState} (h : AllBare g') : Inv X pins σ H { s with gens := g' } :=
  ⟨I.ok, I.os, h, I.base, I.loc, I.cell, I.free, I.freeC, I.pin, I.hok, I.len⟩
theorem AllBare.set {s : Shared} (h : AllBare s.gens) {g : Nat} {x : GenState} (hx : x.bare = true) : AllBare (s.setGen g x).gens := by
  intro y hy
  have hy : y ∈ s.gens.setIfInBounds g x := hy
  rcases Array.mem_or_eq_of_mem_setIfInBounds hy with z | z
  · exact h y z
  · rw [z]; exact hx
section
variable {X : Cx} {pins : List (Addr × Obj)} {σ : L2.St} {H : Hp} {s s5 : Shared} {N' : List Str} {js : List (Option Nat)} {scope : Scope} {code : Value} {cenv : Env} {A : Around} {fp : List Addr} {a : Addr} {ob : Obj} {m : Str → Option Value}
theorem gen_start (I : Inv X pins σ H s) (S : GScp X.N N' js X.env.scope scope) (he : cenv = genEnv scope (cloFrom X.env.cells scope.names []) s.heap.objs.size code builtinsNs X.env)
    (hA : A.handled = none) (hAf : A.frames = some (cenv :: X.stack)) (hfp : ∀ b ∈ fp, FpOk X pins H b ∧ b < s.heap.objs.size) (hos : s5.os = s.os) (hb : AllBare s5.gens)
    (hk : ∀ b o, s.heap.get? b = some o → s5.heap.get? b = some o) (hn : s5.heap.Ns s.heap.objs.size m) (ha : s5.heap.get? a = some ob) (hal : s.heap.objs.size < a) (hac : ∀ v, ob.data ≠ .cell v) :
    Inv (gcx X s H cenv N' A fp) [(a, ob)] (pick σ js) H s5 := by
  have hL : cenv.locals = s.heap.objs.size := by rw [he]; rfl
  have hcl : cenv.cells = cloFrom X.env.cells scope.names [] := by rw [he]; rfl
  have hsc : cenv.scope = scope := by rw [he]; rfl
  have hfree : ∀ y ∈ scope.names, y.2 = .free → ∃ c, X.env.cells.lookup y.1 = some c := fun y hy e => by
    rcases S.free y hy e with k | k
    · exact I.ok.has _ (.inl k)
    · exact I.ok.has _ (.inr k)
  have cm : ∀ {y c}, cenv.cells.lookup y = some c → X.env.cells.lookup y = some c := fun {y c} e => by
    rw [hcl] at e
    rcases cloFrom_mem (PySem.mem_of_lookup e) with hm | ⟨h1, rfl⟩
    · cases hm
    · obtain ⟨c, hc⟩ := hfree _ h1 rfl
      rw [hc]
      rfl
  have look : ∀ {y}, scope.names.lookup y = some .free → ∃ c, cenv.cells.lookup y = some c ∧ X.env.cells.lookup y = some c := fun {y} hl => by
    obtain ⟨c', e'⟩ := mem_lookup (cloFrom_has (cells := X.env.cells) (acc := []) (PySem.mem_of_lookup hl))
    rw [← hcl] at e'
    exact ⟨c', e', cm e'⟩
  have clt : ∀ {y c}, cenv.cells.lookup y = some c → c < s.heap.objs.size := fun {y c} e => by
    obtain ⟨v, q⟩ := I.cell y c (cm e)
    exact q.lt
  have okG : (gcx X s H cenv N' A fp).Ok := by
    refine ⟨I.ok.mod, by show cenv.scope.kind = _; rw [hsc]; exact S.kind, by show cenv.globals = _; rw [he]; exact I.ok.glob, by show cenv.builtins = _; rw [he]; rfl, by show s.heap.objs.size ≤ cenv.locals; rw [hL]; exact Nat.le_refl _,
      fun y z c e1 e2 => I.ok.inj y z c (cm e1) (cm e2), fun y hy => ?_, fun y c z => ?_, fun _ => hA, hAf, .inr ⟨rfl, by show cenv.frame = some cenv.locals; rw [he]; rfl⟩, fun b hb => ⟨?_, fun y c e z => ?_⟩, I.bs, Nat.le_trans I.ok.bsz I.sz, fun b o e hb => ?_, fun b hb z => ?_, I.stack, I.stkFree⟩
    · have hy : scope.names.lookup y = some .cell ∨ scope.names.lookup y = some .free := by rw [← hsc]; exact hy
      rcases hy with hy | hy
      · exact absurd rfl (S.cell _ (PySem.mem_of_lookup hy))
      · obtain ⟨c, h1, _⟩ := look hy
        exact ⟨c, h1⟩
    · cases z
    · show b ≠ cenv.locals
      rw [hL]; exact Nat.ne_of_lt (hfp b hb).2
    · exact (hfp b hb).1.2.2.2.2.1 y c (cm e) z
    · rcases (hfp b hb).1.2.2.2.1 with z | z
      · exact I.ok.noex b o e z
      · exact absurd (Nat.lt_of_lt_of_le (Heap.lt_size e) (Nat.le_trans I.ok.bsz z)) (Nat.lt_irrefl _)
    · rcases List.mem_cons.mp (I.stkSub b z) with z | z
      · exact (hfp b hb).1.2.1 z
      · exact (hfp b hb).1.2.2.1 z
  refine ⟨okG, hos, hb, Un.kept hk, ⟨m, by show s5.heap.Ns cenv.locals m; rw [hL]; exact hn, fun i y v e1 e2 e3 => ?_⟩, fun y c e => ?_, ?_, fun y c e => I.freeC y c (cm e), fun p hp => ?_, I.hok.kept hk, by show (pick σ js).length = N'.length; unfold pick; rw [List.length_map]; exact S.len⟩
  · obtain ⟨j, hj, hv⟩ := pick_some e2
    obtain ⟨h1, h2⟩ := S.ix i j y e1 hj
    obtain ⟨m0, hn0, hl⟩ := I.loc
    have hk0 : X.env.scope.names.lookup y = some .cell ∨ X.env.scope.names.lookup y = some .free := S.free _ (PySem.mem_of_lookup h2) rfl
    obtain ⟨u, ru, lu⟩ := hl j y v h1 hv (.inr hk0)
    refine ⟨u, ru, .inr ⟨.inr (by show cenv.scope.names.lookup y = _; rw [hsc]; exact h2), ?_⟩⟩
    obtain ⟨c, hc1, hc2⟩ := look h2
    refine ⟨c, hc1, ?_⟩
    rcases lu with ⟨l1, _⟩ | ⟨_, c', l2, l3⟩
    · have l1 : X.env.scope.names.lookup y = some .local := l1
      rcases hk0 with q | q
      · rw [q] at l1; cases l1
      · rw [q] at l1; cases l1
    · rw [hc2] at l2
      cases l2
      obtain ⟨o, ho, hd⟩ := l3
      exact ⟨o, hk _ o ho, hd⟩
  · obtain ⟨v, o, ho, hd⟩ := I.cell y c (cm e)
    exact ⟨v, o, hk _ o ho, hd⟩
  · show H cenv.locals = none
    rw [hL]
    exact I.hok.fresh (Nat.le_refl _)
  · have hp : p ∈ [(a, ob)] := hp
    rcases List.mem_cons.mp hp with rfl | hp
    · refine ⟨ha, I.hok.fresh (Nat.le_of_lt hal), by show a ≠ cenv.locals; rw [hL]; exact Nat.ne_of_gt hal, fun z => ?_, hac⟩
      have z : a ∈ frs X.stack := z
      have h1 := I.stkSub a z
      rcases List.mem_cons.mp h1 with q | q
      · exact absurd (Nat.lt_of_lt_of_le hal (by rw [q]; exact Nat.le_of_lt I.lt)) (Nat.lt_irrefl _)
      · exact I.nofs (Nat.le_of_lt hal) q
    · cases hp
/-- back outside -/
theorem gen_back {s6 : Shared} {σ' : L2.St} {H' : Hp} {pl : List (Addr × Obj)} (I : Inv X pins σ H s) (hfp : ∀ b ∈ fp, FpOk X pins H b) (J : Inv (gcx X s H cenv N' A fp) pl σ' H' s6) : Inv X pins σ H' s6 :=
  I.call' (ch := fp) J.os J.base J.hok J.bare fun b hb => ⟨(hfp b hb).2.2.2.1, (hfp b hb).2.1, (hfp b hb).2.2.2.2.1, (hfp b hb).2.2.2.2.2⟩
end
end Gx

namespace Dn
open PySem L2 PySem.Spec PyProof.Rows

/-- T: the tables of the tracked code objects; Cl: where the own classes stand -/
class Tbs where
  T : List Addr
  Cl : Str → Addr
mutual
/-- data; an empty dict; an instance of an own class that no more changes -/
inductive Dq [Tbs] (K : PySem.W.Frag) (H : Hp) : V → PyData → Prop
  | non : Dq K H .non .none
  | bl (b : Bool) : Dq K H (.bl b) (.bool b)
  | int (i : Int) : Dq K H (.int i) (.int i)
  | str (x : Str) : Dq K H (.str x) (.str x)
  | lst {a : Addr} {xs : List V} {ds : List PyData} : SqL K H a xs → DqAll K H xs ds → Dq K H (.ref a) (.list ds)
  | tup {a : Addr} {xs : List V} {ds : List PyData} : SqT K H a xs → DqAll K H xs ds → Dq K H (.ref a) (.tuple ds)
  | emp {a : Addr} : H a = some (.dK []) → Dq K H (.ref a) (.dict [])
  | ins {a dx : Addr} {n : Str} {fs : List (Str × V)} {ds : List (PyData × PyData)} : H a = some (.ins (Tbs.Cl n) dx fs) → DqF K H fs ds → Dq K H (.ref a) (.dict ((.none, .str n) :: ds))
inductive DqAll [Tbs] (K : PySem.W.Frag) (H : Hp) : List V → List PyData → Prop
  | nil : DqAll K H [] []
  | cons {v : V} {vs : List V} {d : PyData} {ds : List PyData} : Dq K H v d → DqAll K H vs ds → DqAll K H (v :: vs) (d :: ds)
inductive DqF [Tbs] (K : PySem.W.Frag) (H : Hp) : List (Str × V) → List (PyData × PyData) → Prop
  | nil : DqF K H [] []
  | cons {x : Str} {v : V} {d : PyData} {fs : List (Str × V)} {ds : List (PyData × PyData)} : Dq K H v d → DqF K H fs ds → DqF K H ((x, v) :: fs) ((.str x, d) :: ds)
end
section
variable {K : PySem.W.Frag} {H : Hp}
mutual
theorem dq_dp [Tbs] : ∀ {v : V} {d : PyData}, Dq K H v d → d.canLay0 = true → Dp K H v d
  | _, _, .non, _ => .non
  | _, _, .bl b, _ => .bl b
  | _, _, .int i, _ => .int i
  | _, _, .str x, _ => .str x
  | _, _, .lst h a, e => .lst h (dqAll_dp a (by simpa only [PyData.canLay0] using e))
  | _, _, .tup h a, e => .tup h (dqAll_dp a (by simpa only [PyData.canLay0] using e))
  | _, _, .emp h, e => by simp [PyData.canLay0] at e
  | _, _, .ins h a, e => by simp [PyData.canLay0] at e
theorem dqAll_dp [Tbs] : ∀ {vs : List V} {ds : List PyData}, DqAll K H vs ds → PyData.canLayAll0 ds = true → DpAll K H vs ds
  | _, _, .nil, _ => .nil
  | _, _, .cons h t, e => by
    rw [PyData.canLayAll0, Bool.and_eq_true] at e
    exact .cons (dq_dp h e.1) (dqAll_dp t e.2)
end
theorem dq_sh [Tbs] {v : V} {d : PyData} (h : Dq K H v d) (e : SeqAt.shaped d = true) : Dp K H v d := dq_dp h (SeqAt.canLay_of_shaped e)
end

/-! ### heaps: B the part that never changes again, H all -/
/-- no table within -/
def NT (B : Hp) : Prop := ∀ a ps, B a ≠ some (.tbl ps)
/-- all is kept; tables may grow -/
structure Gw (H H' : Hp) : Prop where
  k : ∀ a o, H a = some o → (∀ ps, o ≠ .tbl ps) → H' a = some o
  g : ∀ a ps, H a = some (.tbl ps) → ∃ more, H' a = some (.tbl (ps ++ more)) ∧ (TriplesOk ps.toList → TriplesOk (ps ++ more).toList)
theorem Gw.of {H H' : Hp} (s : Same H H') : Gw H H' := ⟨fun a o e _ => s a o e, fun a ps e => ⟨#[], by rw [Array.append_empty]; exact ⟨s a _ e, id⟩⟩⟩
theorem Gw.refl (H : Hp) : Gw H H := .of (Same.refl H)
theorem Gw.trans {H H1 H2 : Hp} (p : Gw H H1) (q : Gw H1 H2) : Gw H H2 := ⟨fun a o e n => q.k a o (p.k a o e n) n, fun a ps e => by
  obtain ⟨m1, e1, t1⟩ := p.g a ps e
  obtain ⟨m2, e2, t2⟩ := q.g a _ e1
  exact ⟨m1 ++ m2, by rw [e2, Array.append_assoc], fun t => by rw [← Array.append_assoc]; exact t2 (t1 t)⟩⟩
theorem Gw.free {H H' : Hp} (p : Gw H H') {a : Addr} (h : H' a = none) : H a = none := by
  cases e : H a with
  | none => rfl
  | some o =>
    by_cases n : ∃ ps, o = .tbl ps
    · obtain ⟨ps, rfl⟩ := n
      obtain ⟨m, e1, _⟩ := p.g a ps e
      rw [e1] at h; cases h
    · have := p.k a o e (fun ps z => n ⟨ps, z⟩)
      rw [this] at h; cases h
theorem Gw.put {H H' : Hp} {D : Addr} {o : HO} (p : Gw H H') (h : H D = none) : Gw H (upd H' D o) := ⟨fun a u e n => by rw [upd_ne (ne_of_none e h)]; exact p.k a u e n, fun a ps e => by
  obtain ⟨m, e1, t⟩ := p.g a ps e
  exact ⟨m, by rw [upd_ne (ne_of_none e h)]; exact e1, t⟩⟩
theorem Gw.l {H H' : Hp} (p : Gw H H') {a : Addr} {xs : List V} (e : H a = some (.lst xs)) : H' a = some (.lst xs) := p.k a _ e (fun ps z => by cases z)
theorem Gw.tab {H H' : Hp} (p : Gw H H') {a : Addr} (t : GxR.TabG H a) : GxR.TabG H' a := by
  obtain ⟨ps, e, h⟩ := t
  obtain ⟨m, e1, t1⟩ := p.g a ps e
  exact ⟨ps ++ m, e1, t1 h⟩
theorem Gw.same {B H H' : Hp} (n : NT B) (s : Same B H) (p : Gw H H') : Same B H' := fun a o e => p.k a o (s a o e) (fun ps z => n a ps (by rw [e, z]))
structure Tr (B H B' H' : Hp) : Prop where
  b : Same B B'
  t : Same B' H'
  h : Gw H H'
  n : NT B → NT B'
  f : ∀ a o, B' a = some o → B a = none → H a = none
theorem Tr.refl {B H : Hp} (h : Same B H) : Tr B H B H := ⟨Same.refl _, h, Gw.refl _, id, fun a o x y => by rw [y] at x; cases x⟩
theorem Tr.trans {B H B1 H1 B2 H2 : Hp} (p : Tr B H B1 H1) (q : Tr B1 H1 B2 H2) : Tr B H B2 H2 := ⟨p.b.trans q.b, q.t, p.h.trans q.h, fun z => q.n (p.n z), fun a o x y => by
  cases e : B1 a with
  | none => exact p.h.free (q.f a o x e)
  | some u => exact p.f a u e y⟩
theorem same_upd {H : Hp} {p : Addr} {o : HO} (h : H p = none) : Same H (upd H p o) := fun b u e => by rw [upd_ne (ne_of_none e h)]; exact e
theorem same_upd2 {B H : Hp} {p : Addr} {o : HO} (s : Same B H) (h : H p = none) : Same B (upd H p o) := s.trans (same_upd h)
theorem nt_upd {B : Hp} {p : Addr} {o : HO} (n : NT B) (ho : ∀ ps, o ≠ .tbl ps) : NT (upd B p o) := fun a ps e => by
  by_cases z : a = p
  · subst z; rw [upd_same] at e; exact ho ps (Option.some.inj e)
  · rw [upd_ne z] at e; exact n a ps e
theorem Tr.new {B H : Hp} {p : Addr} {o : HO} (s : Same B H) (h : H p = none) (ho : ∀ ps, o ≠ .tbl ps := by intro _ z; cases z) : Tr B H (upd B p o) (upd H p o) := ⟨same_upd (s.free h), fun b u e => by
    by_cases z : b = p
    · subst z; rw [upd_same] at e ⊢; exact e
    · rw [upd_ne z] at e ⊢; exact s b u e, .of (same_upd h), fun n => nt_upd n ho, fun a u x y => by
    by_cases z : a = p
    · subst z; exact h
    · rw [upd_ne z, y] at x; cases x⟩
/-- an object that the data do not know -/
theorem Tr.junk {B H : Hp} {p : Addr} {o : HO} (s : Same B H) (h : H p = none) : Tr B H B (upd H p o) := ⟨Same.refl _, same_upd2 s h, .of (same_upd h), id, fun a u x y => by rw [y] at x; cases x⟩
theorem rd_mono {H H' : Hp} {a : Addr} {u : HO} (e : Same H H') (h : Rd H a u) : Rd H' a u := by
  rcases h with h | ⟨o, h⟩
  · exact Or.inl (e a _ h)
  · exact Or.inr ⟨o, e a _ h⟩
theorem sqL_mono {K : PySem.W.Frag} {H H' : Hp} {a : Addr} {xs : List V} (e : Same H H') (h : SqL K H a xs) : SqL K H' a xs := by
  rcases h with h | h
  · exact Or.inl (rd_mono e h)
  · exact Or.inr h
theorem sqT_mono {K : PySem.W.Frag} {H H' : Hp} {a : Addr} {xs : List V} (e : Same H H') (h : SqT K H a xs) : SqT K H' a xs := by
  rcases h with h | h
  · exact Or.inl (rd_mono e h)
  · exact Or.inr h
section
variable {K : PySem.W.Frag} {H H' : Hp}
mutual
theorem dp_mono [Tbs] (e : Same H H') : ∀ {v : V} {d : PyData}, Dq K H v d → Dq K H' v d
  | _, _, .non => .non
  | _, _, .bl b => .bl b
  | _, _, .int i => .int i
  | _, _, .str x => .str x
  | _, _, .lst h a => .lst (sqL_mono e h) (dpAll_mono e a)
  | _, _, .tup h a => .tup (sqT_mono e h) (dpAll_mono e a)
  | _, _, .emp h => .emp (e _ _ h)
  | _, _, .ins h a => .ins (e _ _ h) (dpF_mono e a)
theorem dpAll_mono [Tbs] (e : Same H H') : ∀ {vs : List V} {ds : List PyData}, DqAll K H vs ds → DqAll K H' vs ds
  | _, _, .nil => .nil
  | _, _, .cons h t => .cons (dp_mono e h) (dpAll_mono e t)
theorem dpF_mono [Tbs] (e : Same H H') : ∀ {vs : List (Str × V)} {ds : List (PyData × PyData)}, DqF K H vs ds → DqF K H' vs ds
  | _, _, .nil => .nil
  | _, _, .cons h t => .cons (dp_mono e h) (dpF_mono e t)
end
theorem dpAll_len [Tbs] {us : List V} {ds : List PyData} (h : DqAll K H us ds) : us.length = ds.length := by
  induction us generalizing ds with
  | nil => cases h; rfl
  | cons v us ih => cases h with | cons a b => simp [ih b]
theorem dpAll_append [Tbs] {us ws : List V} {ds es : List PyData} (h : DqAll K H us ds) (g : DqAll K H ws es) : DqAll K H (us ++ ws) (ds ++ es) := by
  induction us generalizing ds with
  | nil => cases h; exact g
  | cons v us ih => cases h with | cons a b => exact .cons a (ih b)
theorem dpAll_get [Tbs] {vs : List V} {ds : List PyData} (h : DqAll K H vs ds) {i : Nat} {d : PyData} (e : ds[i]? = some d) : ∃ v, vs[i]? = some v ∧ Dq K H v d := by
  induction vs generalizing ds i with
  | nil => cases h; simp at e
  | cons v vs ih => cases h with
    | cons a b =>
      cases i with
      | zero => simp at e; subst e; exact ⟨v, rfl, a⟩
      | succ i => simp at e; simpa using ih b e
theorem dpAll_getV [Tbs] {vs : List V} {ds : List PyData} (h : DqAll K H vs ds) {i : Nat} {v : V} (e : vs[i]? = some v) : ∃ d, ds[i]? = some d ∧ Dq K H v d := by
  induction vs generalizing ds i with
  | nil => simp at e
  | cons w vs ih => cases h with
    | cons a b =>
      cases i with
      | zero => simp at e; subst e; exact ⟨_, rfl, a⟩
      | succ i => simp at e; simpa using ih b e
theorem dpAll_take [Tbs] {vs : List V} {ds : List PyData} (h : DqAll K H vs ds) (n : Nat) : DqAll K H (vs.take n) (ds.take n) := by
  induction vs generalizing ds n with
  | nil => cases h; simp; exact .nil
  | cons w vs ih => cases h with
    | cons a b =>
      cases n with
      | zero => exact .nil
      | succ n => exact .cons a (ih b n)
theorem dpAll_drop [Tbs] {vs : List V} {ds : List PyData} (h : DqAll K H vs ds) (n : Nat) : DqAll K H (vs.drop n) (ds.drop n) := by
  induction vs generalizing ds n with
  | nil => cases h; simp; exact .nil
  | cons w vs ih => cases h with
    | cons a b =>
      cases n with
      | zero => exact .cons a b
      | succ n => exact ih b n
theorem dpAll_rev [Tbs] {us : List V} {ds : List PyData} (h : DqAll K H us ds) : DqAll K H us.reverse ds.reverse := by
  induction us generalizing ds with
  | nil => cases h; exact .nil
  | cons w us ih => cases h with
    | cons a b => rw [List.reverse_cons, List.reverse_cons]; exact dpAll_append (ih b) (.cons a .nil)
end

/-! ### slots -/
/-- what a slot holds: data; or a list that only this slot knows, and that may grow -/
inductive Sv | d (x : PyData) | own (o : Option Addr) (xs : List PyData) | ob (a : Addr) (n : Str) (fs : List (PyData × PyData))
abbrev Rho := List (Option Sv)
/-- self while it is made: slot 0 alone knows it -/
def Obs [Tbs] (K : PySem.W.Frag) (H0 B : Hp) (ρ : Rho) (σ : L2.St) (H : Hp) : Prop := ∀ (i : Nat) (a : Addr) (n : Str) (fs : List (PyData × PyData)), ρ[i]? = some (some (.ob a n fs)) →
  i = 0 ∧ ∃ dx vs, σ[0]? = some (some (V.ref a)) ∧ B a = none ∧ H0 a = none ∧ H a = some (.ins (Tbs.Cl n) dx vs) ∧ DqF K B vs fs
theorem Obs.none [Tbs] {K : PySem.W.Frag} {H0 B H : Hp} {ρ : Rho} {σ : L2.St} (h : ∀ (i : Nat) (a : Addr) (n : Str) (fs : List (PyData × PyData)), ρ[i]? ≠ some (some (.ob a n fs))) : Obs K H0 B ρ σ H := fun i a n fs e => absurd e (h i a n fs)
theorem Obs.set [Tbs] {K : PySem.W.Frag} {H0 B H : Hp} {ρ : Rho} {σ : L2.St} (s : Obs K H0 B ρ σ H) {i : Nat} {x : Option Sv} {y : Option V} (hx : ∀ a n fs, x ≠ some (.ob a n fs)) : Obs K H0 B (ρ.set i x) (σ.set i y) H := fun j a n fs e => by
  by_cases z : i = j
  · subst z
    by_cases hl : i < ρ.length
    · rw [List.getElem?_set_self hl] at e; exact absurd (Option.some.inj e) (hx a n fs)
    · rw [List.getElem?_eq_none (by simpa using hl)] at e; cases e
  · rw [List.getElem?_set_ne z] at e
    obtain ⟨rfl, h⟩ := s j a n fs e
    rw [List.getElem?_set_ne z]
    exact ⟨rfl, h⟩
theorem Obs.setR [Tbs] {K : PySem.W.Frag} {H0 B H : Hp} {ρ : Rho} {σ : L2.St} (s : Obs K H0 B ρ σ H) {i : Nat} {x : Option Sv} (hx : ∀ a n fs, x ≠ some (.ob a n fs)) : Obs K H0 B (ρ.set i x) σ H := fun j a n fs e => by
  by_cases z : i = j
  · subst z
    by_cases hl : i < ρ.length
    · rw [List.getElem?_set_self hl] at e; exact absurd (Option.some.inj e) (hx a n fs)
    · rw [List.getElem?_eq_none (by simpa using hl)] at e; cases e
  · rw [List.getElem?_set_ne z] at e
    exact s j a n fs e
/-- the heap goes on, this instance is kept -/
theorem Obs.go [Tbs] {K : PySem.W.Frag} {H0 B H B' H' : Hp} {ρ : Rho} {σ : L2.St} (s : Obs K H0 B ρ σ H) (b : Same B B') (h : ∀ a C dx vs, B a = .none → H0 a = .none → H a = some (.ins C dx vs) → B' a = .none ∧ H' a = some (.ins C dx vs)) : Obs K H0 B' ρ σ H' := fun j a n fs e => by
  obtain ⟨rfl, dx, vs, e1, e2, e3, e4, e5⟩ := s j a n fs e
  obtain ⟨h1, h2⟩ := h a _ _ _ e2 e3 e4
  exact ⟨rfl, dx, vs, e1, h1, e3, h2, dpF_mono b e5⟩
structure Sl [Tbs] (K : PySem.W.Frag) (H0 B : Hp) (ρ : Rho) (σ : L2.St) (H : Hp) : Prop where
  bh : Same B H
  nt : NT B
  tb : ∀ P ∈ Tbs.T, GxR.TabG H P
  len : ρ.length = σ.length
  dv : ∀ {i : Nat} {x : PyData}, ρ[i]? = some (some (.d x)) → ∃ v, σ[i]? = some (some v) ∧ Dq K B v x
  ow : ∀ {i : Nat} {o : Option Addr} {xs : List PyData}, ρ[i]? = some (some (.own o xs)) → ∃ a us, σ[i]? = some (some (V.ref a)) ∧ B a = none ∧ H0 a = none ∧ H a = some (.lst us) ∧ DqAll K B us xs ∧ ∀ b, o = some b → a = b
  ap : ∀ {i j : Nat} {o o' : Option Addr} {xs ys : List PyData} {a : Addr}, ρ[i]? = some (some (.own o xs)) → ρ[j]? = some (some (.own o' ys)) → σ[i]? = some (some (V.ref a)) → σ[j]? = some (some (V.ref a)) → i = j
  ob : Obs K H0 B ρ σ H
theorem Sl.tr [Tbs] {K : PySem.W.Frag} {H0 B B' H H' : Hp} {ρ : Rho} {σ : L2.St} (s : Sl K H0 B ρ σ H) (t : Tr B H B' H') : Sl K H0 B' ρ σ H' := by
  refine ⟨t.t, t.n s.nt, fun P hP => t.h.tab (s.tb P hP), s.len, fun h => ?_, fun h => ?_, fun a b c d => s.ap a b c d, s.ob.go t.b fun a C dx vs h1 _ h2 => ⟨?_, t.h.k a _ h2 (fun ps z => by cases z)⟩⟩
  · obtain ⟨v, h1, h2⟩ := s.dv h
    exact ⟨v, h1, dp_mono t.b h2⟩
  · obtain ⟨a, vs, h1, h2, h3, h4, h5, h6⟩ := s.ow h
    refine ⟨a, vs, h1, ?_, h3, t.h.l h4, dpAll_mono t.b h5, h6⟩
    cases e : B' a with
    | none => rfl
    | some o => rw [t.f a o e h2] at h4; cases h4
  · cases e : B' a with
    | none => rfl
    | some o => rw [t.f a o e h1] at h2; cases h2

structure Bs [Tbs] (B H : Hp) : Prop where
  s : Same B H
  nt : NT B
  tb : ∀ P ∈ Tbs.T, GxR.TabG H P
theorem Sl.bs [Tbs] {K : PySem.W.Frag} {H0 B H : Hp} {ρ : Rho} {σ : L2.St} (s : Sl K H0 B ρ σ H) : Bs B H := ⟨s.bh, s.nt, s.tb⟩
theorem rd_gw {H H' : Hp} {a : Addr} {u : HO} (e : Gw H H') (n : ∀ ps, u ≠ .tbl ps) (h : Rd H a u) : Rd H' a u := by
  rcases h with h | ⟨o, h⟩
  · exact Or.inl (e.k a _ h n)
  · exact Or.inr ⟨o, e.k a _ h (fun ps z => by cases z)⟩
theorem sqL_gw {K : PySem.W.Frag} {H H' : Hp} {a : Addr} {xs : List V} (e : Gw H H') (h : SqL K H a xs) : SqL K H' a xs := by
  rcases h with h | h
  · exact Or.inl (rd_gw e (fun ps z => by cases z) h)
  · exact Or.inr h
theorem sqT_gw {K : PySem.W.Frag} {H H' : Hp} {a : Addr} {xs : List V} (e : Gw H H') (h : SqT K H a xs) : SqT K H' a xs := by
  rcases h with h | h
  · exact Or.inl (rd_gw e (fun ps z => by cases z) h)
  · exact Or.inr h
mutual
theorem dp_gw [Tbs] {K : PySem.W.Frag} {H H' : Hp} (e : Gw H H') : ∀ {v : V} {d : PyData}, Dq K H v d → Dq K H' v d
  | _, _, .non => .non
  | _, _, .bl b => .bl b
  | _, _, .int i => .int i
  | _, _, .str x => .str x
  | _, _, .lst h a => .lst (sqL_gw e h) (dpAll_gw e a)
  | _, _, .tup h a => .tup (sqT_gw e h) (dpAll_gw e a)
  | _, _, .emp h => .emp (e.k _ _ h (fun ps z => by cases z))
  | _, _, .ins h a => .ins (e.k _ _ h (fun ps z => by cases z)) (dpF_gw e a)
theorem dpAll_gw [Tbs] {K : PySem.W.Frag} {H H' : Hp} (e : Gw H H') : ∀ {vs : List V} {ds : List PyData}, DqAll K H vs ds → DqAll K H' vs ds
  | _, _, .nil => .nil
  | _, _, .cons h t => .cons (dp_gw e h) (dpAll_gw e t)
theorem dpF_gw [Tbs] {K : PySem.W.Frag} {H H' : Hp} (e : Gw H H') : ∀ {vs : List (Str × V)} {ds : List (PyData × PyData)}, DqF K H vs ds → DqF K H' vs ds
  | _, _, .nil => .nil
  | _, _, .cons h t => .cons (dp_gw e h) (dpF_gw e t)
end
/-- H without its tables -/
def unt (H : Hp) : Hp := fun a => match H a with
  | some (.tbl _) => none
  | x => x
theorem unt_same (H : Hp) : Same (unt H) H := fun a o e => by
  unfold unt at e
  split at e
  · cases e
  · exact e
theorem unt_nt (H : Hp) : NT (unt H) := fun a ps e => by
  have h := unt_same H a _ e
  unfold unt at e
  rw [h] at e
  cases e
theorem unt_gw (H : Hp) {a : Addr} {u : HO} (h : H a = some u) (n : ∀ ps, u ≠ .tbl ps) : unt H a = some u := by
  unfold unt
  rw [h]
  cases u <;> first | rfl | exact absurd rfl (n _)

/-! ### readings by data -/
def tD [Tbs] (K : PySem.W.Frag) (f : Rho → Option PyData) : TE := fun σ H Q => ∃ H0 B ρ d, Sl K H0 B ρ σ H ∧ f ρ = some d ∧ ∀ v B' H', Tr B H B' H' → Dq K B' v d → Q v H'
def tDT [Tbs] (K : PySem.W.Frag) (f : Rho → Option Bool) : TT := fun σ H Q => ∃ H0 B ρ d, Sl K H0 B ρ σ H ∧ f ρ = some d ∧ ∀ B' H', Tr B H B' H' → Q d H'
def tDA [Tbs] (K : PySem.W.Frag) (f : Rho → Option (List PyData)) : TA := fun σ H Q => ∃ H0 B ρ d, Sl K H0 B ρ σ H ∧ f ρ = some d ∧ ∀ v B' H', Tr B H B' H' → DqAll K B' v d → Q v H'
abbrev PD [Tbs] (X : Cx) (e : Expr) (f : Rho → Option PyData) : Prop := PE X e (tD X.K f)
abbrev PDT [Tbs] (X : Cx) (e : Expr) (f : Rho → Option Bool) : Prop := PT X e (tDT X.K f)
abbrev PDA [Tbs] (X : Cx) (es : List Expr) (f : Rho → Option (List PyData)) : Prop := PA X es (tDA X.K f)
theorem pe_imp {X : Cx} {e : Expr} {t t' : TE} (h : PE X e t) (i : ∀ σ H Q, t' σ H Q → t σ H Q) : PE X e t' := ⟨fun pins s σ H Q I q => h.run pins s σ H Q I (i σ H Q q)⟩
theorem pt_imp {X : Cx} {e : Expr} {t t' : TT} (h : PT X e t) (i : ∀ σ H Q, t' σ H Q → t σ H Q) : PT X e t' := ⟨fun pins s σ H Q I q => h.run pins s σ H Q I (i σ H Q q)⟩
theorem pw_imp {X : Cx} {e : Expr} {t t' : TT} (h : PW X e t) (i : ∀ σ H Q, t' σ H Q → t σ H Q) : PW X e t' := ⟨fun w pins s σ H Q I q => h.run w pins s σ H Q I (i σ H Q q)⟩
theorem pa_imp {X : Cx} {e : List Expr} {t t' : TA} (h : PA X e t) (i : ∀ σ H Q, t' σ H Q → t σ H Q) : PA X e t' := ⟨fun p pins s σ H Q I q => h.run p pins s σ H Q I (i σ H Q q)⟩
theorem ps_imp {X : Cx} {e : Stmt} {t t' : TS} (h : PS X e t) (i : ∀ D σ H, t' D σ H → t D σ H) : PS X e t' := ⟨fun pins s σ H D I q => h.run pins s σ H D I (i D σ H q)⟩
theorem pss_imp {X : Cx} {e : List Stmt} {t t' : TS} (h : PSs X e t) (i : ∀ D σ H, t' D σ H → t D σ H) : PSs X e t' := ⟨fun pins s σ H D I q => h.run pins s σ H D I (i D σ H q)⟩

section
variable {X : Cx} {e a b c : Expr} {es : List Expr} {pos : Pos} {f g h : Rho → Option PyData} {fs : Rho → Option (List PyData)} {x : Str} {i : Nat} {k : PySem.W.Frag}

/-! ### names, constants -/
def fV (i : Nat) : Rho → Option PyData := fun ρ => match ρ[i]? with
  | some (some (.d x)) => some x
  | _ => none
def fC (d : PyData) : Rho → Option PyData := fun _ => some d
theorem fV_some {ρ : Rho} {d : PyData} (h : fV i ρ = some d) : ρ[i]? = some (some (.d d)) := by
  unfold fV at h
  split at h
  · rename_i y e; rw [e, Option.some.inj h]
  · cases h
theorem pd_v [Tbs] (h : PE X e (tVar i)) : PD X e (fV i) := pe_imp h fun σ H Q ⟨H0, B, ρ, d, s, hf, q⟩ => by
  obtain ⟨v, h1, h2⟩ := s.dv (fV_some hf)
  exact ⟨v, h1, q v B H (Tr.refl s.bh) h2⟩
theorem pd_c [Tbs] {v : V} {d : PyData} (h : PE X e (tC v)) (hd : ∀ K H, Dq K H v d) : PD X e (fC d) := pe_imp h fun σ H Q ⟨H0, B, ρ, d', s, hf, q⟩ => by
  cases hf
  exact q v B H (Tr.refl s.bh) (hd _ _)
theorem pd_int [Tbs] {n : Int} {j pos} : PD X (.Constant (.int n) j pos) (fC (.int n)) := pd_c pe_int fun _ _ => .int n
theorem pd_bl [Tbs] {n : Bool} {j pos} : PD X (.Constant (.bool n) j pos) (fC (.bool n)) := pd_c pe_bl fun _ _ => .bl n
theorem pd_str [Tbs] {n : Str} {j pos} : PD X (.Constant (.str n) j pos) (fC (.str n)) := pd_c pe_str fun _ _ => .str n
theorem pd_non [Tbs] {j pos} : PD X (.Constant .none j pos) (fC .none) := pd_c pe_non fun _ _ => .non

/-! ### two operands -/
def f2 (g : PyData → PyData → Option PyData) (fa fb : Rho → Option PyData) : Rho → Option PyData := fun ρ => (fa ρ).bind fun x => (fb ρ).bind fun y => g x y
def RD [Tbs] (K : PySem.W.Frag) (r : R2) (g : PyData → PyData → Option PyData) : Prop := ∀ (B H : Hp) (x y : V) (dx dy d : PyData) (Q : VK), Same B H → Dq K B x dx → Dq K B y dy → g dx dy = some d → (∀ v B' H', Tr B H B' H' → Dq K B' v d → Q v H') → r x y H Q
theorem bind_some {α β : Type} {o : Option α} {k : α → Option β} {z : β} (h : o.bind k = some z) : ∃ a, o = some a ∧ k a = some z := by
  cases o with
  | none => cases h
  | some a => exact ⟨a, rfl, h⟩
theorem two [Tbs] {K : PySem.W.Frag} {r : R2} {g : PyData → PyData → Option PyData} {fa fb : Rho → Option PyData} (hr : RD K r g) : ∀ σ H Q, tD K (f2 g fa fb) σ H Q → tOp r (tD K fa) (tD K fb) σ H Q := fun σ H Q ⟨H0, B, ρ, d, s, hf, q⟩ => by
  obtain ⟨x, hx, hf⟩ := bind_some hf
  obtain ⟨y, hy, hf⟩ := bind_some hf
  refine ⟨H0, B, ρ, x, s, hx, fun v B1 H1 t1 d1 => ?_⟩
  refine ⟨H0, B1, ρ, y, s.tr t1, hy, fun w B2 H2 t2 d2 => ?_⟩
  exact hr B2 H2 v w x y d Q t2.t (dp_mono t2.b d1) d2 hf fun z B3 H3 t3 d3 => q z B3 H3 ((t1.trans t2).trans t3) d3
theorem pd_op [Tbs] {op : Operator} {r : R2} {g : PyData → PyData → Option PyData} {fa fb : Rho → Option PyData} (ho : OpR X (binaryOp op) r) (hr : RD X.K r g) (ha : PD X a fa) (hb : PD X b fb) : PD X (.BinOp a op b pos) (f2 g fa fb) := pe_imp (pe_op ho ha hb) (two hr)
theorem pd_cmp [Tbs] {op : CmpOp} {r : R2} {g : PyData → PyData → Option PyData} {fa fb : Rho → Option PyData} (ho : OpR X (compareOp op) r) (hr : RD X.K r g) (ha : PD X a fa) (hb : PD X b fb) (hm : behindInMarks op b = false) : PD X (.Compare a [op] [b] pos) (f2 g fa fb) := pe_imp (pe_cmpR ho ha hb hm) (two hr)
def fB (f : Rho → Option PyData) : Rho → Option Bool := fun ρ => match f ρ with
  | some (.bool b) => some b
  | _ => none
theorem fB_some {ρ : Rho} {d : Bool} (h : fB f ρ = some d) : f ρ = some (.bool d) := by
  unfold fB at h
  split at h
  · rename_i y e; rw [e, Option.some.inj h]
  · cases h
theorem of_test [Tbs] {K : PySem.W.Frag} {te : TE} (hi : ∀ σ H Q, tD K f σ H Q → te σ H Q) : ∀ σ H Q, tDT K (fB f) σ H Q → tTest te σ H Q := fun σ H Q ⟨H0, B, ρ, d, s, hf, q⟩ =>
  hi σ H _ ⟨H0, B, ρ, .bool d, s, fB_some hf, fun v B' H' t dd => by cases dd; exact ⟨d, rfl, q B' H' t⟩⟩
theorem pdt_cmp [Tbs] {op : CmpOp} {r : R2} {g : PyData → PyData → Option PyData} {fa fb : Rho → Option PyData} (ho : OpR X (compareOp op) r) (hr : RD X.K r g) (ha : PD X a fa) (hb : PD X b fb) (hm : behindInMarks op b = false) : PDT X (.Compare a [op] [b] pos) (fB (f2 g fa fb)) := pt_imp (pt_cmpR ho ha hb hm) (of_test (two hr))
theorem pdt_val [Tbs] (h : PD X e f) (he : ∀ whole, isTrue e X.env whole = (do let v ← whole; standAt e.pos; holding [v] (truthy v)) := by intro _; rfl) : PDT X e (fB f) := pt_imp (pt_val h he) fun σ H Q q => (of_test (te := tD X.K f) (fun _ _ _ z => z) σ H Q q)

/-! ### and, or, not, if -/
def fAndT (f g : Rho → Option Bool) : Rho → Option Bool := fun ρ => (f ρ).bind fun c => if c then g ρ else some false
def fOrT (f g : Rho → Option Bool) : Rho → Option Bool := fun ρ => (f ρ).bind fun c => if c then some true else g ρ
def fNotT (f : Rho → Option Bool) : Rho → Option Bool := fun ρ => (f ρ).bind fun c => some (!c)
variable {ft gt : Rho → Option Bool}
abbrev PDW [Tbs] (X : Cx) (e : Expr) (f : Rho → Option Bool) : Prop := PW X e (tDT X.K f)
theorem pdw_and1 [Tbs] (ha : PDT X a ft) : PDW X (.BoolOp .And [a] pos) ft := pw_and1 ha
theorem pdw_or1 [Tbs] (ha : PDT X a ft) : PDW X (.BoolOp .Or [a] pos) ft := pw_or1 ha
theorem pdw_and [Tbs] {rest} (ha : PDT X a ft) (hb : PDW X (.BoolOp .And (b :: rest) pos) gt) : PDW X (.BoolOp .And (a :: b :: rest) pos) (fAndT ft gt) := pw_imp (pw_and ha hb) fun σ H Q ⟨H0, B, ρ, d, s, hf, q⟩ => by
  obtain ⟨x, hx, hf⟩ := bind_some hf
  refine ⟨H0, B, ρ, x, s, hx, fun B1 H1 t1 => ?_⟩
  cases x with
  | true => exact ⟨H0, B1, ρ, d, s.tr t1, hf, fun B2 H2 t2 => q B2 H2 (t1.trans t2)⟩
  | false => cases hf; exact q B1 H1 t1
theorem pdw_or [Tbs] {rest} (ha : PDT X a ft) (hb : PDW X (.BoolOp .Or (b :: rest) pos) gt) : PDW X (.BoolOp .Or (a :: b :: rest) pos) (fOrT ft gt) := pw_imp (pw_or ha hb) fun σ H Q ⟨H0, B, ρ, d, s, hf, q⟩ => by
  obtain ⟨x, hx, hf⟩ := bind_some hf
  refine ⟨H0, B, ρ, x, s, hx, fun B1 H1 t1 => ?_⟩
  cases x with
  | true => cases hf; exact q B1 H1 t1
  | false => exact ⟨H0, B1, ρ, d, s.tr t1, hf, fun B2 H2 t2 => q B2 H2 (t1.trans t2)⟩
theorem pdt_w [Tbs] (h : PDW X e ft) : PDT X e ft := h.pt
theorem pdt_not [Tbs] (ha : PDT X a ft) : PDT X (.UnaryOp .Not a pos) (fNotT ft) := pt_imp (pt_not ha) fun σ H Q ⟨H0, B, ρ, d, s, hf, q⟩ => by
  obtain ⟨x, hx, hf⟩ := bind_some hf
  cases hf
  exact ⟨H0, B, ρ, x, s, hx, fun B1 H1 t1 => q B1 H1 t1⟩
def fAnd (f g : Rho → Option PyData) : Rho → Option PyData := fun ρ => (fB f ρ).bind fun c => if c then g ρ else some (.bool false)
def fOr (f g : Rho → Option PyData) : Rho → Option PyData := fun ρ => (fB f ρ).bind fun c => if c then some (.bool true) else g ρ
def fNot (f : Rho → Option PyData) : Rho → Option PyData := fun ρ => (fB f ρ).bind fun c => some (.bool (!c))
theorem pd_one [Tbs] {op} (ha : PD X a f) : PD X (.BoolOp op [a] pos) f := pe_one ha
theorem pd_and [Tbs] {rest} (ha : PD X a f) (hb : PD X (.BoolOp .And (b :: rest) pos) g) : PD X (.BoolOp .And (a :: b :: rest) pos) (fAnd f g) := pe_imp (pe_and ha hb) fun σ H Q ⟨H0, B, ρ, d, s, hf, q⟩ => by
  obtain ⟨x, hx, hf⟩ := bind_some hf
  refine ⟨H0, B, ρ, .bool x, s, fB_some hx, fun v B1 H1 t1 d1 => ?_⟩
  cases d1
  refine ⟨x, rfl, ?_⟩
  cases x with
  | true => exact ⟨H0, B1, ρ, d, s.tr t1, hf, fun v B2 H2 t2 d2 => q v B2 H2 (t1.trans t2) d2⟩
  | false => cases hf; exact q _ B1 H1 t1 (.bl false)
theorem pd_or [Tbs] {rest} (ha : PD X a f) (hb : PD X (.BoolOp .Or (b :: rest) pos) g) : PD X (.BoolOp .Or (a :: b :: rest) pos) (fOr f g) := pe_imp (pe_or ha hb) fun σ H Q ⟨H0, B, ρ, d, s, hf, q⟩ => by
  obtain ⟨x, hx, hf⟩ := bind_some hf
  refine ⟨H0, B, ρ, .bool x, s, fB_some hx, fun v B1 H1 t1 d1 => ?_⟩
  cases d1
  refine ⟨x, rfl, ?_⟩
  cases x with
  | true => cases hf; exact q _ B1 H1 t1 (.bl true)
  | false => exact ⟨H0, B1, ρ, d, s.tr t1, hf, fun v B2 H2 t2 d2 => q v B2 H2 (t1.trans t2) d2⟩
theorem pd_not [Tbs] (ha : PD X a f) : PD X (.UnaryOp .Not a pos) (fNot f) := pe_imp (pe_not ha) fun σ H Q ⟨H0, B, ρ, d, s, hf, q⟩ => by
  obtain ⟨x, hx, hf⟩ := bind_some hf
  cases hf
  refine ⟨H0, B, ρ, .bool x, s, fB_some hx, fun v B1 H1 t1 d1 => ?_⟩
  cases d1
  exact ⟨x, rfl, q _ B1 H1 t1 (.bl _)⟩
def fIf (c : Rho → Option Bool) (f g : Rho → Option PyData) : Rho → Option PyData := fun ρ => (c ρ).bind fun z => if z then f ρ else g ρ
theorem pd_if [Tbs] (hc : PDT X c ft) (ha : PD X a f) (hb : PD X b g) : PD X (.IfExp c a b pos) (fIf ft f g) := pe_imp (pe_ifExp hc ha hb) fun σ H Q ⟨H0, B, ρ, d, s, hf, q⟩ => by
  obtain ⟨x, hx, hf⟩ := bind_some hf
  refine ⟨H0, B, ρ, x, s, hx, fun B1 H1 t1 => ?_⟩
  cases x with
  | true => exact ⟨H0, B1, ρ, d, s.tr t1, hf, fun v B2 H2 t2 d2 => q v B2 H2 (t1.trans t2) d2⟩
  | false => exact ⟨H0, B1, ρ, d, s.tr t1, hf, fun v B2 H2 t2 d2 => q v B2 H2 (t1.trans t2) d2⟩

/-! ### lists of arguments, displays -/
def fNil : Rho → Option (List PyData) := fun _ => some []
def fCons (f : Rho → Option PyData) (fs : Rho → Option (List PyData)) : Rho → Option (List PyData) := fun ρ => (f ρ).bind fun x => (fs ρ).bind fun xs => some (x :: xs)
theorem pda_nil [Tbs] : PDA X [] fNil := pa_imp pa_nil fun σ H Q ⟨H0, B, ρ, d, s, hf, q⟩ => by cases hf; exact q _ B H (Tr.refl s.bh) .nil
theorem pda_cons [Tbs] (ha : PD X e f) (hr : PDA X es fs) (hs : starEach (e :: es) X.env = (false, eval e X.env) :: starEach es X.env := by rfl) : PDA X (e :: es) (fCons f fs) := pa_imp (pa_cons ha hr hs) fun σ H Q ⟨H0, B, ρ, d, s, hf, q⟩ => by
  obtain ⟨x, hx, hf⟩ := bind_some hf
  obtain ⟨xs, hxs, hf⟩ := bind_some hf
  cases hf
  refine ⟨H0, B, ρ, x, s, hx, fun v B1 H1 t1 d1 => ?_⟩
  exact ⟨H0, B1, ρ, xs, s.tr t1, hxs, fun vs B2 H2 t2 d2 => q _ B2 H2 (t1.trans t2) (.cons (dp_mono t2.b d1) d2)⟩
/-- the largest list that is made here -/
abbrev bigL : Nat := 100000
theorem bigL_le {n : Nat} (h : n ≤ bigL) : n ≤ sizeLine := Nat.le_trans h (by decide)
def fLst (fs : Rho → Option (List PyData)) : Rho → Option PyData := fun ρ => (fs ρ).bind fun xs => if xs.length ≤ bigL then some (.list xs) else none
def fTup (fs : Rho → Option (List PyData)) : Rho → Option PyData := fun ρ => (fs ρ).bind fun xs => if xs.length ≤ bigL then some (.tuple xs) else none
theorem ite_some {c : Prop} [Decidable c] {α : Type} {x z : α} (h : (if c then some x else none) = some z) : c ∧ x = z := by
  by_cases hc : c
  · rw [if_pos hc] at h; exact ⟨hc, Option.some.inj h⟩
  · rw [if_neg hc] at h; cases h
theorem pd_lst [Tbs] {x1} (h : PDA X es fs) : PD X (.List es x1) (fLst fs) := pe_imp (pe_lst h) fun σ H Q ⟨H0, B, ρ, d, s, hf, q⟩ => by
  obtain ⟨xs, hxs, hf⟩ := bind_some hf
  obtain ⟨hl, rfl⟩ := ite_some hf
  refine ⟨H0, B, ρ, xs, s, hxs, fun vs B1 H1 t1 d1 => ⟨by rw [dpAll_len d1]; exact bigL_le hl, fun p hp => ?_⟩⟩
  exact q _ _ _ (t1.trans (Tr.new t1.t hp)) (.lst (SqL.of upd_same) (dpAll_mono (same_upd (t1.t.free hp)) d1))
theorem pd_tup [Tbs] {x1} (h : PDA X es fs) : PD X (.Tuple es x1 pos) (fTup fs) := pe_imp (pe_tup h) fun σ H Q ⟨H0, B, ρ, d, s, hf, q⟩ => by
  obtain ⟨xs, hxs, hf⟩ := bind_some hf
  obtain ⟨hl, rfl⟩ := ite_some hf
  refine ⟨H0, B, ρ, xs, s, hxs, fun vs B1 H1 t1 d1 => ⟨by rw [dpAll_len d1]; exact bigL_le hl, fun p hp => ?_⟩⟩
  exact q _ _ _ (t1.trans (Tr.new t1.t hp)) (.tup (SqT.of upd_same) (dpAll_mono (same_upd (t1.t.free hp)) d1))
end
end Dn

namespace Dn
open PySem L2 PySem.Spec PyProof.Rows
section
variable {X : Cx}
/-! ### list + list, list * int, whatever the lists are -/
def rCatL (K : PySem.W.Frag) : R2 := fun x y H Q => ∃ l m xs ys, x = .ref l ∧ y = .ref m ∧ SqL K H l xs ∧ SqL K H m ys ∧ xs.length + ys.length ≤ sizeLine ∧ ∀ p, H p = none → Q (.ref p) (upd H p (.lst (xs ++ ys)))
theorem op_catL : OpR X (binaryOp .Add) (rCatL X.K) := by
  intro pins s σ H x y v u Q I hx hy ⟨l, m, xs, ys, e1, e2, h1, h2, hsz, q⟩
  subst e1 e2
  cases hx
  cases hy
  obtain ⟨its, r, p1, z1⟩ := I.list h1
  obtain ⟨jts, r2, p2, z2⟩ := I.list h2
  obtain ⟨⟨c1, d1, t1, s1⟩, o1, hc, n, hd⟩ := p1.isList
  obtain ⟨⟨c2, d2, t2, s2⟩, o2, hc2, n2, hd2⟩ := p2.isList
  simp only at hc hd hc2 hd2
  subst hc hd hc2 hd2
  have g1 := r.length
  have g2 := r2.length
  refine concat_meets ⟨_, o1, rfl⟩ ⟨_, o2, rfl⟩ noFill_list_add seq_list_add PySem.F.slot_list_add PySem.F.entry_list_add (PySem.F.args_list_add_2 _ _) (list_addW l m its.toArray jts.toArray n n2 d1 d2 s1 s2 (by simp; omega)) ⟨o1, o2, ?_⟩
  rw [show its.toArray ++ jts.toArray = (its ++ jts).toArray by simp]
  exact ⟨.ref _, _, I.lnew (t' := s.toks) (r.append r2) (by simp; omega), rfl, q _ I.fresh⟩
def rRepL (K : PySem.W.Frag) : R2 := fun x y H Q => ∃ l k xs, x = .ref l ∧ y = .int k ∧ SqL K H l xs ∧ -(2 ^ 63) ≤ k ∧ k < 2 ^ 63 ∧ xs.length * k.toNat ≤ sizeLine ∧ ∀ p, H p = none → Q (.ref p) (upd H p (.lst (List.replicate k.toNat xs).flatten))
theorem op_repL : OpR X (binaryOp .Mult) (rRepL X.K) := by
  intro pins s σ H x y v u Q I hx hy ⟨l, k, xs, e1, e2, h1, lo, hi, hsz, q⟩
  subst e1 e2
  cases hx
  obtain ⟨t, rfl⟩ := hy
  obtain ⟨its, r, p1, z1⟩ := I.list h1
  obtain ⟨⟨c1, d1, t1, s1⟩, o1, hc, n, hd⟩ := p1.isList
  simp only at hc hd
  subst hc hd
  have g1 := r.length
  have g2 := sizeLine_eq
  have g3 : its.toArray.size * k.toNat ≤ sizeLine := by simpa [← g1] using hsz
  refine wpAny_binaryOp_repeat_ref (T := "list") (U := "int") (by decide) ⟨_, o1, rfl⟩ (fun s' => typeIs_int s' k t) noFill_list_mul F.fills_int_mul F.slot_int_rmul repeat_list F.slot_int_index.lookup (call_meets F.slot_int_rmul (typeIs_int s k t) F.entry_int_rmul (F.args_int_rmul_2 _ _) (lm_int_rmul_list_any k t l its.toArray n d1 s1) ⟨o1, rfl, ⟨_, o1, rfl⟩, call_meets F.slot_list_mul ⟨_, o1, rfl⟩ F.entry_list_mul (F.args_list_mul_2 _ _) (lm_list_mul_any l its.toArray n d1 s1 k t (by simp [Builtin.List.listFitsIndex]; omega) (by omega) (by simp [Builtin.List.listTooLong]; simp at g3; omega)) ⟨o1, ?_⟩⟩)
  rw [listMul_foldl_if]
  exact ⟨.ref _, _, I.lnew (t' := s.toks) (r.rep k.toNat) (by rw [PyProof.Rows.lm_len_rep_flat, Nat.mul_comm] <;> exact hsz), rfl, q _ I.fresh⟩
end

section
variable {K : PySem.W.Frag} {B H : Hp}
theorem dpAll_rep [Tbs] {vs : List V} {ds : List PyData} (h : DqAll K H vs ds) : ∀ n : Nat, DqAll K H (List.replicate n vs).flatten (List.replicate n ds).flatten
  | 0 => .nil
  | n + 1 => by
    simp only [List.replicate_succ, List.flatten_cons]
    exact dpAll_append h (dpAll_rep h n)
/-- what is scalar, as a value -/
theorem newL [Tbs] {Q : VK} {vs : List V} {ds : List PyData} (s : Same B H) (h : DqAll K B vs ds) (q : ∀ v B' H', Tr B H B' H' → Dq K B' v (.list ds) → Q v H') {p : Addr} (hp : H p = none) : Q (.ref p) (upd H p (.lst vs)) :=
  q _ _ _ (Tr.new s hp) (.lst (SqL.of upd_same) (dpAll_mono (same_upd (s.free hp)) h))
theorem newT [Tbs] {Q : VK} {vs : List V} {ds : List PyData} (s : Same B H) (h : DqAll K B vs ds) (q : ∀ v B' H', Tr B H B' H' → Dq K B' v (.tuple ds) → Q v H') {p : Addr} (hp : H p = none) : Q (.ref p) (upd H p (.tup vs)) :=
  q _ _ _ (Tr.new s hp) (.tup (SqT.of upd_same) (dpAll_mono (same_upd (s.free hp)) h))

/-! ### the operators, by data -/
def ri (op : Int → Int → Int) : PyData → PyData → Option PyData
  | .int a, .int b => some (.int (op a b))
  | _, _ => none
theorem rd_ri [Tbs] {op : Int → Int → Int} : RD K (rI0 fun i j => .int (op i j)) (ri op) := fun B H x y dx dy d Q s hx hy hg q => by
  unfold ri at hg
  split at hg
  · cases hx; cases hy; cases hg; exact ⟨_, _, rfl, rfl, q _ B H (Tr.refl s) (.int _)⟩
  · cases hg
def rb (op : Int → Int → Bool) : PyData → PyData → Option PyData
  | .int a, .int b => some (.bool (op a b))
  | _, _ => none
theorem rd_rb [Tbs] {op : Int → Int → Bool} : RD K (rI0 fun i j => .bl (op i j)) (rb op) := fun B H x y dx dy d Q s hx hy hg q => by
  unfold rb at hg
  split at hg
  · cases hx; cases hy; cases hg; exact ⟨_, _, rfl, rfl, q _ B H (Tr.refl s) (.bl _)⟩
  · cases hg
theorem rd_or [Tbs] {r r' : R2} {g : PyData → PyData → Option PyData} (h : ∀ (B H : Hp) (x y : V) (dx dy d : PyData) (Q : VK), Same B H → Dq K B x dx → Dq K B y dy → g dx dy = some d → (∀ v B' H', Tr B H B' H' → Dq K B' v d → Q v H') → r x y H Q ∨ r' x y H Q) : RD K (fun x y H Q => r x y H Q ∨ r' x y H Q) g := h

def addD : PyData → PyData → Option PyData
  | .int a, .int b => some (.int (a + b))
  | .str a, .str b => if a.length + b.length ≤ bigL then some (.str (a ++ b)) else none
  | .list a, .list b => if a.length + b.length ≤ bigL then some (.list (a ++ b)) else none
  | _, _ => none
def rAddD (K : PySem.W.Frag) : R2 := fun x y H Q => (rI0 fun i j => .int (i + j)) x y H Q ∨ (∃ i j, x = .str i ∧ y = .str j ∧ i.length + j.length ≤ sizeLine ∧ Q (.str (i ++ j)) H) ∨ rCatL K x y H Q
theorem op_addD {X : Cx} : OpR X (binaryOp .Add) (rAddD X.K) := op_add.or (op_add_str.or op_catL)
theorem rd_add [Tbs] : RD K (rAddD K) addD := fun B H x y dx dy d Q s hx hy hg q => by
  unfold addD at hg
  split at hg
  · cases hx; cases hy; cases hg; exact .inl ⟨_, _, rfl, rfl, q _ B H (Tr.refl s) (.int _)⟩
  · cases hx; cases hy; obtain ⟨hl, rfl⟩ := ite_some hg; exact .inr (.inl ⟨_, _, rfl, rfl, bigL_le hl, q _ B H (Tr.refl s) (.str _)⟩)
  · cases hx with
    | lst h1 a1 => cases hy with
      | lst h2 a2 =>
        obtain ⟨hl, rfl⟩ := ite_some hg
        exact .inr (.inr ⟨_, _, _, _, rfl, rfl, sqL_mono s h1, sqL_mono s h2, by rw [dpAll_len a1, dpAll_len a2]; exact bigL_le hl, fun p hp => newL s (dpAll_append a1 a2) q hp⟩)
  · cases hg
theorem rd_sub [Tbs] : RD K (rI0 fun i j => .int (i - j)) (ri fun i j => i - j) := rd_ri
def mulD : PyData → PyData → Option PyData
  | .int a, .int b => if (-(2 ^ 64) < a ∧ a < 2 ^ 64) ∨ (-(2 ^ 64) < b ∧ b < 2 ^ 64) then some (.int (a * b)) else none
  | .list a, .int k => if (0 ≤ k ∧ k ≤ bigL) ∧ a.length * k.toNat ≤ bigL then some (.list (List.replicate k.toNat a).flatten) else none
  | _, _ => none
def rMulD (K : PySem.W.Frag) : R2 := fun x y H Q => (rI CMul fun i j => .int (i * j)) x y H Q ∨ rRepL K x y H Q
theorem op_mulD {X : Cx} : OpR X (binaryOp .Mult) (rMulD X.K) := op_mul.or op_repL
theorem rd_mul [Tbs] : RD K (rMulD K) mulD := fun B H x y dx dy d Q s hx hy hg q => by
  unfold mulD at hg
  split at hg
  · cases hx; cases hy; obtain ⟨hl, rfl⟩ := ite_some hg; exact .inl ⟨_, _, rfl, rfl, hl, q _ B H (Tr.refl s) (.int _)⟩
  · cases hy
    cases hx with
    | lst h1 a1 =>
      obtain ⟨⟨⟨hk0, hk1⟩, hl⟩, rfl⟩ := ite_some hg
      have : (bigL : Int) = 100000 := rfl
      exact .inr ⟨_, _, _, rfl, rfl, sqL_mono s h1, by omega, by omega, by rw [dpAll_len a1]; exact bigL_le hl, fun p hp => newL s (dpAll_rep a1 _) q hp⟩
  · cases hg
def modD : PyData → PyData → Option PyData
  | .int a, .int b => if 0 < b then some (.int (a % b)) else none
  | _, _ => none
theorem rd_mod [Tbs] : RD K (rI (fun _ j => 0 < j) fun i j => .int (i % j)) modD := fun B H x y dx dy d Q s hx hy hg q => by
  unfold modD at hg
  split at hg
  · cases hx; cases hy; obtain ⟨hl, rfl⟩ := ite_some hg; exact ⟨_, _, rfl, rfl, hl, q _ B H (Tr.refl s) (.int _)⟩
  · cases hg
def fdivD : PyData → PyData → Option PyData
  | .int a, .int b => if 0 < b ∧ b < 1073741824 then some (.int (a / b)) else none
  | _, _ => none
theorem rd_fdiv [Tbs] : RD K (rI CDiv fun i j => .int (i / j)) fdivD := fun B H x y dx dy d Q s hx hy hg q => by
  unfold fdivD at hg
  split at hg
  · cases hx; cases hy; obtain ⟨hl, rfl⟩ := ite_some hg; exact ⟨_, _, rfl, rfl, hl, q _ B H (Tr.refl s) (.int _)⟩
  · cases hg

/-! ### ==, in -/
def eqD : PyData → PyData → Option Bool
  | .str a, .str b => some (a == b)
  | .int a, .int b => some (a == b)
  | .bool a, .bool b => some (a == b)
  | .none, .none => some true
  | x, y => if (SeqAt.shaped x && SeqAt.shaped y) = true then some (PyData.eqv x y) else none
def eqP (x y : PyData) : Option PyData := (eqD x y).map .bool
def neP (x y : PyData) : Option PyData := (eqD x y).map fun b => .bool (!b)
def rEqA (K : PySem.W.Frag) : R2 := fun x y H Q => rEq x y H Q ∨ rEqD K x y H Q
def rNeA (K : PySem.W.Frag) : R2 := fun x y H Q => rNe x y H Q ∨ rNeD K x y H Q
theorem op_eqA {X : Cx} (hu : X.A.units + 64 < cLine) : OpR X (compareOp .Eq) (rEqA X.K) := op_eq.or (op_eqD hu)
theorem op_neA {X : Cx} (hu : X.A.units + 64 < cLine) : OpR X (compareOp .NotEq) (rNeA X.K) := op_ne.or (op_neD hu)
theorem eqA_of [Tbs] {x y : V} {dx dy : PyData} {b : Bool} (s : Same B H) (hx : Dq K B x dx) (hy : Dq K B y dy) (h : eqD dx dy = some b) :
    (∀ Q : VK, Q (.bl b) H → rEqA K x y H Q) ∧ (∀ Q : VK, Q (.bl (!b)) H → rNeA K x y H Q) := by
  unfold eqD at h
  split at h
  · cases hx; cases hy; cases h
    constructor
    · intro Q q; exact .inl ⟨rfl, by rw [dec_str]; exact q⟩
    · intro Q q; exact .inl ⟨rfl, by rw [dec_str]; exact q⟩
  · cases hx; cases hy; cases h
    constructor
    · intro Q q; exact .inl ⟨rfl, by rw [dec_int]; exact q⟩
    · intro Q q; exact .inl ⟨rfl, by rw [dec_int]; exact q⟩
  · cases hx; cases hy; cases h
    constructor
    · intro Q q; exact .inl ⟨rfl, by rw [dec_bl]; exact q⟩
    · intro Q q; exact .inl ⟨rfl, by rw [dec_bl]; exact q⟩
  · cases hx; cases hy; cases h
    exact ⟨fun Q q => .inl ⟨rfl, q⟩, fun Q q => .inl ⟨rfl, q⟩⟩
  · obtain ⟨hs, rfl⟩ := ite_some h
    rw [Bool.and_eq_true] at hs
    exact ⟨fun Q q => .inr ⟨_, _, dq_sh (dp_mono s hx) hs.1, dq_sh (dp_mono s hy) hs.2, hs.1, hs.2, q⟩, fun Q q => .inr ⟨_, _, dq_sh (dp_mono s hx) hs.1, dq_sh (dp_mono s hy) hs.2, hs.1, hs.2, q⟩⟩
theorem rd_eq [Tbs] : RD K (rEqA K) eqP := fun B H x y dx dy d Q s hx hy hg q => by
  unfold eqP at hg
  cases e : eqD dx dy with
  | none => rw [e] at hg; cases hg
  | some b => rw [e] at hg; cases hg; exact (eqA_of s hx hy e).1 Q (q _ B H (Tr.refl s) (.bl b))
theorem rd_ne [Tbs] : RD K (rNeA K) neP := fun B H x y dx dy d Q s hx hy hg q => by
  unfold neP at hg
  cases e : eqD dx dy with
  | none => rw [e] at hg; cases hg
  | some b => rw [e] at hg; cases hg; exact (eqA_of s hx hy e).2 Q (q _ B H (Tr.refl s) (.bl _))

/-! ### items -/
theorem dpAll_at [Tbs] {vs : List V} {ds : List PyData} (h : DqAll K H vs ds) {i : Int} {d : PyData} (e : atI ds i = some d) : ∃ v, atI vs i = some v ∧ Dq K H v d := by
  unfold atI at e ⊢
  rw [dpAll_len h]
  obtain ⟨j, hj, e⟩ := bind_some e
  obtain ⟨v, hv, hd⟩ := dpAll_get h e
  exact ⟨v, by rw [hj]; exact hv, hd⟩
def ixD : PyData → PyData → Option PyData
  | .list xs, .int i => atI xs i
  | .tuple xs, .int i => atI xs i
  | .str z, .int i => if z.length ≤ bigL then (atI z.cps.toList i).map fun c => .str ⟨#[c]⟩ else none
  | _, _ => none
theorem rd_ix [Tbs] : RD K (rIx K) ixD := fun B H x y dx dy d Q s hx hy hg q => by
  unfold ixD at hg
  split at hg
  · cases hy
    cases hx with
    | lst h a =>
      obtain ⟨v, e, hd⟩ := dpAll_at a hg
      exact .inl ⟨_, _, _, v, rfl, rfl, sqL_mono s h, e, q v B H (Tr.refl s) hd⟩
  · cases hy
    cases hx with
    | tup h a =>
      obtain ⟨v, e, hd⟩ := dpAll_at a hg
      exact .inr (.inl ⟨_, _, _, v, rfl, rfl, sqT_mono s h, e, q v B H (Tr.refl s) hd⟩)
  · cases hy
    cases hx
    split at hg
    · rename_i hl
      obtain ⟨c, hc, rfl⟩ := Option.map_eq_some_iff.mp hg
      exact .inr (.inr ⟨_, _, c, rfl, rfl, bigL_le hl, hc, q _ B H (Tr.refl s) (.str _)⟩)
    · cases hg
  · cases hg
variable {X : Cx} {a b e : Expr} {es : List Expr} {pos : Pos} {f g : Rho → Option PyData} {fs : Rho → Option (List PyData)}
theorem pd_ix [Tbs] (ha : PD X a f) (hb : PD X b g) (hs : PlainIx b) : PD X (.Subscript a b pos) (f2 ixD f g) := pe_imp (pe_ix ix_seq ha hb hs) (two rd_ix)

/-! ### slices -/
def cutL {α : Type} (xs : List α) (lo hi : Option Int) : List α := (xs.drop (HT.sIx xs.length 0 lo)).take (HT.sIx xs.length xs.length hi - HT.sIx xs.length 0 lo)
theorem dpAll_cut [Tbs] {vs : List V} {ds : List PyData} (h : DqAll K H vs ds) (lo hi : Option Int) : DqAll K H (cutV vs lo hi) (cutL ds lo hi) := by
  unfold cutV cutL
  rw [dpAll_len h]
  exact dpAll_take (dpAll_drop h _) _
def tDO [Tbs] (K : PySem.W.Frag) (f : Rho → Option (Option Int)) : TO := fun σ H Q => ∃ H0 B ρ d, Sl K H0 B ρ σ H ∧ f ρ = some d ∧ ∀ B' H', Tr B H B' H' → Q d H'
abbrev PDO [Tbs] (X : Cx) (e : Option Expr) (f : Rho → Option (Option Int)) : Prop := PO X e (tDO X.K f)
theorem po_imp {X : Cx} {e : Option Expr} {t t' : TO} (h : PO X e t) (i : ∀ σ H Q, t' σ H Q → t σ H Q) : PO X e t' := ⟨fun pins s σ H Q I q => h.run pins s σ H Q I (i σ H Q q)⟩
def fO0 : Rho → Option (Option Int) := fun _ => some none
def fO (f : Rho → Option PyData) : Rho → Option (Option Int) := fun ρ => match f ρ with
  | some (.int i) => some (some i)
  | _ => none
theorem pdo_none [Tbs] : PDO X none fO0 := po_imp po_none fun σ H Q ⟨H0, B, ρ, d, s, hf, q⟩ => by cases hf; exact q B H (Tr.refl s.bh)
theorem pdo_some [Tbs] (h : PD X e f) : PDO X (some e) (fO f) := po_imp (po_some h) fun σ H Q ⟨H0, B, ρ, d, s, hf, q⟩ => by
  unfold fO at hf
  split at hf
  · rename_i i ei
    cases hf
    exact ⟨H0, B, ρ, _, s, ei, fun v B' H' t dd => by cases dd; exact ⟨i, rfl, q B' H' t⟩⟩
  · cases hf
def slD (lo hi : Option Int) : PyData → Option PyData
  | .list xs => some (.list (cutL xs lo hi))
  | .tuple xs => if ¬ (HT.sIx xs.length 0 lo = 0 ∧ HT.sIx xs.length xs.length hi = xs.length) then some (.tuple (cutL xs lo hi)) else none
  | .str z => if z.length ≤ bigL then some (.str (cutS z lo hi)) else none
  | _ => none
def fSl (f : Rho → Option PyData) (lo hi : Rho → Option (Option Int)) : Rho → Option PyData := fun ρ => (f ρ).bind fun x => (lo ρ).bind fun l => (hi ρ).bind fun h => slD l h x
def rSlD (K : PySem.W.Frag) : V → Option Int → Option Int → Hp → VK → Prop := fun x lo hi H Q => rSlL K x lo hi H Q ∨ rSlT K x lo hi H Q ∨ rSlS x lo hi H Q
theorem sl_D {X : Cx} : SlR X (rSlD X.K) := sl_list.or (sl_tup.or sl_str)
theorem pd_sl [Tbs] {lo hi : Option Expr} {fl fh : Rho → Option (Option Int)} {p2 : Pos} (he : PD X e f) (hl : PDO X lo fl) (hh : PDO X hi fh) : PD X (.Subscript e (.Slice lo hi none p2) pos) (fSl f fl fh) := pe_imp (pe_slice sl_D he hl hh) fun σ H Q ⟨H0, B, ρ, d, s, hf, q⟩ => by
  obtain ⟨x, hx, hf⟩ := bind_some hf
  obtain ⟨l, hl, hf⟩ := bind_some hf
  obtain ⟨u, hu, hf⟩ := bind_some hf
  refine ⟨H0, B, ρ, x, s, hx, fun v B1 H1 t1 d1 => ⟨H0, B1, ρ, l, s.tr t1, hl, fun B2 H2 t2 => ⟨H0, B2, ρ, u, (s.tr t1).tr t2, hu, fun B3 H3 t3 => ?_⟩⟩⟩
  have d3 := dp_mono t3.b (dp_mono t2.b d1)
  have T := (t1.trans t2).trans t3
  have q3 : ∀ v B' H', Tr B3 H3 B' H' → Dq X.K B' v d → Q v H' := fun v B' H' t dd => q v B' H' (T.trans t) dd
  unfold slD at hf
  split at hf
  · cases hf
    cases d3 with
    | lst h a => exact .inl ⟨_, _, rfl, sqL_mono t3.t h, fun p hp => newL t3.t (dpAll_cut a l u) q3 hp⟩
  · obtain ⟨hw, rfl⟩ := ite_some hf
    cases d3 with
    | tup h a => exact .inr (.inl ⟨_, _, rfl, sqT_mono t3.t h, by rw [dpAll_len a]; exact hw, fun p hp => newT t3.t (dpAll_cut a l u) q3 hp⟩)
  · obtain ⟨hw, rfl⟩ := ite_some hf
    cases d3
    exact .inr (.inr ⟨_, rfl, bigL_le hw, q _ B3 H3 T (.str _)⟩)
  · cases hf

/-! ### built-ins by name -/
def RC [Tbs] (K : PySem.W.Frag) (r : List V → Hp → VK → Prop) (g : List PyData → Option PyData) : Prop := ∀ (B H : Hp) (vs : List V) (ds : List PyData) (d : PyData) (Q : VK), Same B H → DqAll K B vs ds → g ds = some d → (∀ v B' H', Tr B H B' H' → Dq K B' v d → Q v H') → r vs H Q
def fCl (g : List PyData → Option PyData) (fs : Rho → Option (List PyData)) : Rho → Option PyData := fun ρ => (fs ρ).bind g
theorem cb_imp [Tbs] {r : List V → Hp → VK → Prop} {g : List PyData → Option PyData} (hr : RC X.K r g) : ∀ σ H Q, tD X.K (fCl g fs) σ H Q → tCB r (tDA X.K fs) σ H Q := fun σ H Q ⟨H0, B, ρ, d, s, hf, q⟩ => by
  obtain ⟨xs, hxs, hf⟩ := bind_some hf
  exact ⟨H0, B, ρ, xs, s, hxs, fun v B1 H1 t1 d1 => hr B1 H1 v xs d Q t1.t d1 hf fun z B2 H2 t2 d2 => q z B2 H2 (t1.trans t2) d2⟩
theorem pd_bi [Tbs] {x : Str} {id : String} {r : List V → Hp → VK → Prop} {g : List PyData → Option PyData} {p : Pos} (hc : CallR X (.builtin id) r) (hr : RC X.K r g) (hg : Gl X x) (hm : X.mg x = none) (hv : bootBuiltins x = some (.builtin id)) (ha : PDA X (e :: es) fs)
    (hn : x ≠ "__name__" := by decide) (hdb : (x == ("__debug__" : Str)) = false := by decide) (he : starEach (e :: es) X.env = (false, eval e X.env) :: starEach es X.env := by rfl) (hpl : (backTo pos (starEach es X.env)).any (·.1) = false := by rfl) : PD X (.Call (.Name x p) (e :: es) [] pos) (fCl g fs) :=
  pe_imp (pe_callB hc hg hm hv ha hn hdb he hpl) (cb_imp hr)
theorem pd_ty [Tbs] {x : Str} {T : String} {r : List V → Hp → VK → Prop} {g : List PyData → Option PyData} {p : Pos} (hc : CallR X (.type T) r) (hr : RC X.K r g) (hg : Gl X x) (hm : X.mg x = none) (hv : bootBuiltins x = some (.type T)) (ha : PDA X (e :: es) fs)
    (hn : x ≠ "__name__" := by decide) (hdb : (x == ("__debug__" : Str)) = false := by decide) (he : starEach (e :: es) X.env = (false, eval e X.env) :: starEach es X.env := by rfl) (hpl : (backTo pos (starEach es X.env)).any (·.1) = false := by rfl) : PD X (.Call (.Name x p) (e :: es) [] pos) (fCl g fs) :=
  pe_imp (pe_callTy hc hg hm hv ha hn hdb he hpl) (cb_imp hr)
def one1 (g : PyData → Option PyData) : List PyData → Option PyData
  | [x] => g x
  | _ => none
theorem rc_one [Tbs] {r : List V → Hp → VK → Prop} {g : PyData → Option PyData} (h : ∀ (B H : Hp) (v : V) (x d : PyData) (Q : VK), Same B H → Dq K B v x → g x = some d → (∀ v B' H', Tr B H B' H' → Dq K B' v d → Q v H') → r [v] H Q) : RC K r (one1 g) := fun B H vs ds d Q s hd hg q => by
  unfold one1 at hg
  split at hg
  · cases hd with
    | cons a b => cases b; exact h B H _ _ d Q s a hg q
  · cases hg
def lenD : PyData → Option PyData
  | .list xs => some (.int xs.length)
  | .tuple xs => some (.int xs.length)
  | .str z => if z.length ≤ bigL then some (.int z.length) else none
  | _ => none
def rLenD (K : PySem.W.Frag) : List V → Hp → VK → Prop := fun xs H Q => (∃ p ys, xs = [.ref p] ∧ (SqL K H p ys ∨ SqT K H p ys) ∧ Q (.int ys.length) H) ∨ (∃ z, xs = [.str z] ∧ z.length ≤ sizeLine ∧ Q (.int z.length) H)
theorem call_lenD0 {X : Cx} : CallR X (.builtin "len") (rLenD X.K) := call_len_seq.or call_len_str
theorem rc_len [Tbs] : RC K (rLenD K) (one1 lenD) := rc_one fun B H v x d Q s hx hg q => by
  unfold lenD at hg
  split at hg
  · cases hg; cases hx with
    | lst h a => exact .inl ⟨_, _, rfl, .inl (sqL_mono s h), by rw [dpAll_len a]; exact q _ B H (Tr.refl s) (.int _)⟩
  · cases hg; cases hx with
    | tup h a => exact .inl ⟨_, _, rfl, .inr (sqT_mono s h), by rw [dpAll_len a]; exact q _ B H (Tr.refl s) (.int _)⟩
  · obtain ⟨hl, rfl⟩ := ite_some hg; cases hx; exact .inr ⟨_, rfl, bigL_le hl, q _ B H (Tr.refl s) (.int _)⟩
  · cases hg
/-- a list of truth values -/
def boolsD : List PyData → Option (List Bool)
  | [] => some []
  | .bool b :: r => (boolsD r).map (b :: ·)
  | _ => none
theorem bools_of [Tbs] {vs : List V} : ∀ {ds : List PyData} {bs : List Bool}, DqAll K H vs ds → boolsD ds = some bs → vs = bs.map V.bl := by
  induction vs with
  | nil => intro ds bs h e; cases h; cases e; rfl
  | cons v vs ih =>
    intro ds bs h e
    cases h with
    | cons a b =>
      unfold boolsD at e
      split at e
      · rename_i z; cases z
      · rename_i k r hz
        cases hz
        cases a
        obtain ⟨bs', e', rfl⟩ := Option.map_eq_some_iff.mp e
        rw [ih b e']; rfl
      · cases e
theorem boolsD_map (bs : List Bool) : boolsD (bs.map PyData.bool) = some bs := by
  induction bs with
  | nil => rfl
  | cons b r ih => rw [List.map_cons, boolsD, ih]; rfl
def anyD : PyData → Option PyData
  | .list xs => (boolsD xs).map fun bs => .bool (bs.any id)
  | _ => none
theorem rc_any [Tbs] : RC K (rAny K) (one1 anyD) := rc_one fun B H v x d Q s hx hg q => by
  unfold anyD at hg
  split at hg
  · obtain ⟨bs, e, rfl⟩ := Option.map_eq_some_iff.mp hg
    cases hx with
    | lst h a => exact ⟨_, bs, rfl, by rw [← bools_of a e]; exact sqL_mono s h, q _ B H (Tr.refl s) (.bl _)⟩
  · cases hg
def allD : PyData → Option PyData
  | .list xs => (boolsD xs).map fun bs => .bool (bs.all id)
  | _ => none
theorem rc_all [Tbs] : RC K (rAll K) (one1 allD) := rc_one fun B H v x d Q s hx hg q => by
  unfold allD at hg
  split at hg
  · obtain ⟨bs, e, rfl⟩ := Option.map_eq_some_iff.mp hg
    cases hx with
    | lst h a => exact ⟨_, bs, rfl, by rw [← bools_of a e]; exact sqL_mono s h, q _ B H (Tr.refl s) (.bl _)⟩
  · cases hg
def listD : PyData → Option PyData
  | .list xs => some (.list xs)
  | .tuple xs => some (.list xs)
  | _ => none
theorem rc_list [Tbs] : RC K (fun xs H Q => ∃ p ys, xs = [.ref p] ∧ (SqL K H p ys ∨ SqT K H p ys) ∧ ∀ l, H l = none → Q (.ref l) (upd H l (.lst ys))) (one1 listD) := rc_one fun B H v x d Q s hx hg q => by
  unfold listD at hg
  split at hg
  · cases hg; cases hx with
    | lst h a => exact ⟨_, _, rfl, .inl (sqL_mono s h), fun p hp => newL s a q hp⟩
  · cases hg; cases hx with
    | tup h a => exact ⟨_, _, rfl, .inr (sqT_mono s h), fun p hp => newL s a q hp⟩
  · cases hg
def tupleD : PyData → Option PyData
  | .list xs => some (.tuple xs)
  | .tuple xs => some (.tuple xs)
  | _ => none
theorem rc_tuple [Tbs] : RC K (fun xs H Q => ∃ p ys, xs = [.ref p] ∧ ((SqL K H p ys ∧ ∀ l, H l = none → Q (.ref l) (upd H l (.tup ys))) ∨ (SqT K H p ys ∧ Q (.ref p) H))) (one1 tupleD) := rc_one fun B H v x d Q s hx hg q => by
  unfold tupleD at hg
  split at hg
  · cases hg; cases hx with
    | lst h a => exact ⟨_, _, rfl, .inl ⟨sqL_mono s h, fun p hp => newT s a q hp⟩⟩
  · cases hg; cases hx with
    | tup h a => exact ⟨_, _, rfl, .inr ⟨sqT_mono s h, q _ B H (Tr.refl s) (.tup h a)⟩⟩
  · cases hg
def intD : PyData → Option PyData
  | .int i => some (.int i)
  | .bool c => some (.int (if c then 1 else 0))
  | _ => none
theorem rc_int [Tbs] : RC K (fun xs H Q => (∃ i, xs = [.int i] ∧ Q (.int i) H) ∨ ∃ k, xs = [.bl k] ∧ Q (.int (if k then 1 else 0)) H) (one1 intD) := rc_one fun B H v x d Q s hx hg q => by
  unfold intD at hg
  split at hg
  · cases hg; cases hx; exact .inl ⟨_, rfl, q _ B H (Tr.refl s) (.int _)⟩
  · cases hg; cases hx; exact .inr ⟨_, rfl, q _ B H (Tr.refl s) (.int _)⟩
  · cases hg

/-! ### texts -/
def strsD : List PyData → Option (List Str)
  | [] => some []
  | .str b :: r => (strsD r).map (b :: ·)
  | _ => none
theorem strs_of [Tbs] {vs : List V} : ∀ {ds : List PyData} {bs : List Str}, DqAll K H vs ds → strsD ds = some bs → vs = bs.map V.str := by
  induction vs with
  | nil => intro ds bs h e; cases h; cases e; rfl
  | cons v vs ih =>
    intro ds bs h e
    cases h with
    | cons a b =>
      unfold strsD at e
      split at e
      · rename_i z; cases z
      · rename_i k r hz
        cases hz
        cases a
        obtain ⟨bs', e', rfl⟩ := Option.map_eq_some_iff.mp e
        rw [ih b e']; rfl
      · cases e
theorem strsD_map (bs : List Str) : strsD (bs.map PyData.str) = some bs := by
  induction bs with
  | nil => rfl
  | cons b r ih => rw [List.map_cons, strsD, ih]; rfl
def joinD : PyData → List PyData → Option PyData
  | .str a, [.list xs] => (strsD xs).bind fun ys => if (ys.map (·.length)).sum + ys.length * a.length ≤ bigL then some (.str (Txt.join a ys)) else none
  | _, _ => none
def splitD : PyData → List PyData → Option PyData
  | .str a, [.str b] => if (b.length == 0) = false ∧ a.length + 2 ≤ bigL then some (.list ((Txt.split a b).map .str)) else none
  | _, _ => none
def fMt (g : PyData → List PyData → Option PyData) (f : Rho → Option PyData) (fs : Rho → Option (List PyData)) : Rho → Option PyData := fun ρ => (f ρ).bind fun x => (fs ρ).bind fun xs => g x xs
def RM [Tbs] (K : PySem.W.Frag) (T : String) (r : V → List V → Hp → VK → Prop) (g : PyData → List PyData → Option PyData) : Prop := ∀ (B H : Hp) (v : V) (vs : List V) (x : PyData) (ds : List PyData) (d : PyData) (Q : VK), Same B H → Dq K B v x → DqAll K B vs ds → g x ds = some d → (∀ v B' H', Tr B H B' H' → Dq K B' v d → Q v H') → r v vs H Q
def TyD [Tbs] (K : PySem.W.Frag) (T : String) (g : PyData → List PyData → Option PyData) : Prop := ∀ (B H : Hp) (v : V) (x : PyData) (ds : List PyData) (d : PyData), Same B H → Dq K B v x → g x ds = some d → tyV K T v H
theorem pd_bm [Tbs] {o : Expr} {name : Str} {apos cpos : Pos} {T id : String} {r : V → List V → Hp → VK → Prop} {g : PyData → List PyData → Option PyData} (pa : PlainAttrs T) (slot : Slot T name id) (hty : typeOf (.builtin id) = pure (.type "method_descriptor")) (hm : MtR X id r) (hr : RM X.K T r g) (hT : TyD X.K T g) (ho : PD X o f) (ha : PDA X (e :: es) fs) (hbase : attributeBase o name X.env (eval o X.env) = eval o X.env := by rfl) (hfew : ((backTo cpos (starEach (e :: es) X.env)).all (fun x => !x.1) && (backToKw cpos (keywordEach [] X.env)).all (fun x => x.1.isSome) && decide ((e :: es).length + ([] : List Keyword).length + (if ([] : List Keyword).isEmpty then 0 else 1) < 30)) = true := by rfl) (hline : (apos.endLine == cpos.line) = true := by rfl) (hs : starEach (e :: es) X.env = (false, eval e X.env) :: starEach es X.env := by rfl) (hplain : (backTo cpos (starEach es X.env)).any (·.1) = false := by rfl) : PD X (.Call (.Attribute o name apos) (e :: es) [] cpos) (fMt g f fs):= pe_imp (pe_bm pa slot hty hm ho ha hbase hfew hline hs hplain) fun σ H Q ⟨H0, B, ρ, d, s, hf, q⟩ => by
  obtain ⟨x, hx, hf⟩ := bind_some hf
  obtain ⟨xs, hxs, hf⟩ := bind_some hf
  refine ⟨H0, B, ρ, x, s, hx, fun v B1 H1 t1 d1 => ⟨hT B1 H1 v x xs d t1.t d1 hf, H0, B1, ρ, xs, s.tr t1, hxs, fun vs B2 H2 t2 d2 => ?_⟩⟩
  exact hr B2 H2 v vs x xs d Q t2.t (dp_mono t2.b d1) d2 hf fun z B3 H3 t3 d3 => q z B3 H3 ((t1.trans t2).trans t3) d3
theorem ty_join [Tbs] : TyD K "str" joinD := fun B H v x ds d s hx hg => by
  unfold joinD at hg
  split at hg
  · cases hx; rfl
  · cases hg
theorem ty_split [Tbs] : TyD K "str" splitD := fun B H v x ds d s hx hg => by
  unfold splitD at hg
  split at hg
  · cases hx; rfl
  · cases hg
theorem rm_join [Tbs] : RM K "str" (fun x xs H Q => ∃ a p, ∃ ys : List Str, x = .str a ∧ xs = [.ref p] ∧ (SqL K H p (ys.map V.str) ∨ SqT K H p (ys.map V.str)) ∧
    (ys.map (·.length)).sum + ys.length * a.length ≤ 16777216 ∧ Q (.str (Txt.join a ys)) H) joinD := fun B H v vs x ds d Q s hx hds hg q => by
  unfold joinD at hg
  split at hg
  · cases hx
    cases hds with
    | cons h1 h2 =>
      cases h2
      obtain ⟨ys, hy, hg⟩ := bind_some hg
      obtain ⟨hl, rfl⟩ := ite_some hg
      cases h1 with
      | lst h a => exact ⟨_, _, ys, rfl, rfl, .inl (by rw [← strs_of a hy]; exact sqL_mono s h), Nat.le_trans hl (by decide), q _ B H (Tr.refl s) (.str _)⟩
  · cases hg
theorem dp_strs [Tbs] (ys : List Str) : DqAll K H (ys.map V.str) (ys.map PyData.str) := by
  induction ys with
  | nil => exact .nil
  | cons y r ih => exact .cons (.str y) ih
theorem rm_split [Tbs] : RM K "str" (fun x xs H Q => ∃ a b, x = .str a ∧ xs = [.str b] ∧ (b.length == 0) = false ∧ a.length + 2 ≤ sizeLine ∧ rNewStrs (Txt.split a b) H Q) splitD := fun B H v vs x ds d Q s hx hds hg q => by
  unfold splitD at hg
  split at hg
  · cases hx
    cases hds with
    | cons h1 h2 =>
      cases h2
      cases h1
      obtain ⟨⟨h1, h2⟩, rfl⟩ := ite_some hg
      exact ⟨_, _, rfl, rfl, h1, bigL_le h2, fun p hp => newL s (dp_strs _) q hp⟩
  · cases hg
end
end Dn

namespace Dn
open PySem L2 PySem.Spec PyProof.Rows

/-! ### what is walked, by data -/
def ItD [Tbs] (K : PySem.W.Frag) (B : Hp) (J : It) (xs : List PyData) : Prop :=
  (∀ H, Same B H → J.stop xs.length H) ∧ ∀ (i : Nat) (d : PyData), xs[i]? = some d → ∀ H, Same B H → J.go i H ∧ ∀ x H', J.yld i H x H' → ∀ B1, Same B B1 → Same B1 H → ∃ B2, Tr B1 H B2 H' ∧ Dq K B2 x d
def tDI [Tbs] (K : PySem.W.Frag) (f : Rho → Option (List PyData)) : TI := fun σ H R => ∃ H0 B ρ d, Sl K H0 B ρ σ H ∧ f ρ = some d ∧ ∀ J B' H', Tr B H B' H' → ItD K B' J d → R J H'
abbrev PDI [Tbs] (X : Cx) (tg e : Expr) (f : Rho → Option (List PyData)) : Prop := PI X tg e (tDI X.K f)
theorem pi_imp {X : Cx} {tg e : Expr} {t t' : TI} (h : PI X tg e t) (i : ∀ σ H Q, t' σ H Q → t σ H Q) : PI X tg e t' := ⟨fun pins s σ H Q I q => h.run pins s σ H Q I (i σ H Q q)⟩
section
variable {K : PySem.W.Frag} {B H : Hp}
theorem itD_list [Tbs] {a : Addr} {vs : List V} {ds : List PyData} (h : SqL K B a vs) (hd : DqAll K B vs ds) : ItD K B (Itl K a) ds := by
  refine ⟨fun H s => ⟨vs, sqL_mono s h, Nat.le_of_eq (dpAll_len hd)⟩, fun i d e H s => ?_⟩
  obtain ⟨v, hv, hdv⟩ := dpAll_get hd e
  refine ⟨⟨vs, v, sqL_mono s h, hv⟩, fun x H' y B1 s1 s2 => ?_⟩
  obtain ⟨rfl, y⟩ := y
  have z := y vs (sqL_mono s h)
  rw [hv] at z
  cases z
  exact ⟨B1, Tr.refl s2, dp_mono s1 hdv⟩
theorem itD_tup [Tbs] {a : Addr} {vs : List V} {ds : List PyData} (h : SqT K B a vs) (hd : DqAll K B vs ds) : ItD K B (Itt K a) ds := by
  refine ⟨fun H s => ⟨vs, sqT_mono s h, Nat.le_of_eq (dpAll_len hd)⟩, fun i d e H s => ?_⟩
  obtain ⟨v, hv, hdv⟩ := dpAll_get hd e
  refine ⟨⟨vs, v, sqT_mono s h, hv⟩, fun x H' y B1 s1 s2 => ?_⟩
  obtain ⟨rfl, y⟩ := y
  have z := y vs (sqT_mono s h)
  rw [hv] at z
  cases z
  exact ⟨B1, Tr.refl s2, dp_mono s1 hdv⟩
def signsD (z : Str) : List PyData := z.cps.toList.map fun c => .str ⟨#[c]⟩
theorem itD_str [Tbs] {z : Str} : ItD K B (Its z) (signsD z) := by
  refine ⟨fun H s => by show z.cps.size ≤ (signsD z).length; simp [signsD], fun i d e H s => ?_⟩
  unfold signsD at e
  rw [List.getElem?_map] at e
  obtain ⟨c, hc, rfl⟩ := Option.map_eq_some_iff.mp e
  have hi : i < z.cps.size := by
    have := (List.getElem?_eq_some_iff.mp hc).1
    simpa using this
  refine ⟨hi, fun x H' y B1 s1 s2 => ?_⟩
  obtain ⟨rfl, c', hc', rfl⟩ := y
  have : z.cps.toList[i]? = some c' := by simpa using hc'
  rw [hc] at this
  cases this
  exact ⟨B1, Tr.refl s2, .str _⟩
def intsFrom (lo : Int) (n : Nat) : List PyData := (List.range n).map fun i => .int (lo + (i : Nat))
theorem itD_range [Tbs] {lo : Int} {n : Nat} : ItD K B (Itr lo n) (intsFrom lo n) := by
  refine ⟨fun H s => by show n ≤ (intsFrom lo n).length; simp [intsFrom], fun i d e H s => ?_⟩
  unfold intsFrom at e
  rw [List.getElem?_map] at e
  obtain ⟨c, hc, rfl⟩ := Option.map_eq_some_iff.mp e
  have hi : i < n := by
    have := (List.getElem?_eq_some_iff.mp hc).1
    simpa using this
  rw [List.getElem?_range hi] at hc
  cases hc
  refine ⟨hi, fun x H' y B1 s1 s2 => ?_⟩
  obtain ⟨rfl, rfl⟩ := y
  exact ⟨B1, Tr.refl s2, .int _⟩
def zipD (xs ys : List PyData) : List PyData := (xs.zip ys).map fun p => .tuple [p.1, p.2]
theorem itD_zip [Tbs] {a b : Addr} {vs ws : List V} {ds es : List PyData} (h : SqL K B a vs) (hd : DqAll K B vs ds) (h' : SqL K B b ws) (hd' : DqAll K B ws es) : ItD K B (Itz K a b) (zipD ds es) := by
  refine ⟨fun H s => ⟨vs, ws, sqL_mono s h, sqL_mono s h', ?_⟩, fun i d e H s => ?_⟩
  · have h1 := dpAll_len hd
    have h2 := dpAll_len hd'
    have h3 : (zipD ds es).length = min ds.length es.length := by simp [zipD, List.length_zip]
    omega
  · unfold zipD at e
    rw [List.getElem?_map] at e
    obtain ⟨⟨c1, c2⟩, hc, rfl⟩ := Option.map_eq_some_iff.mp e
    rw [List.getElem?_zip_eq_some] at hc
    obtain ⟨v, hv, hdv⟩ := dpAll_get hd hc.1
    obtain ⟨w, hw, hdw⟩ := dpAll_get hd' hc.2
    refine ⟨⟨vs, ws, v, w, sqL_mono s h, sqL_mono s h', hv, hw⟩, fun x H' y B1 s1 s2 => ?_⟩
    obtain ⟨T, x1, y1, rfl, hT, rfl, z1, z2⟩ := y
    have z1 := z1 vs (sqL_mono s h)
    have z2 := z2 ws (sqL_mono s h')
    rw [hv] at z1
    rw [hw] at z2
    cases z1
    cases z2
    exact ⟨_, Tr.new s2 hT, .tup (SqT.of upd_same) (.cons (dp_mono (s1.trans (same_upd (s2.free hT))) hdv) (.cons (dp_mono (s1.trans (same_upd (s2.free hT))) hdw) .nil))⟩
variable {X : Cx} {tg e e2 : Expr} {f g : Rho → Option PyData}
def seqD : PyData → Option (List PyData)
  | .list xs => some xs
  | .tuple xs => some xs
  | .str z => some (signsD z)
  | _ => none
def fSeq (f : Rho → Option PyData) : Rho → Option (List PyData) := fun ρ => (f ρ).bind seqD
theorem pdi_seq [Tbs] (he : PD X e f) : PDI X tg e (fSeq f) := ⟨fun pins s σ H R I ⟨H0, B, ρ, d, sl, hf, q⟩ => by
  obtain ⟨x, hx, hf⟩ := bind_some hf
  unfold seqD at hf
  split at hf
  · cases hf
    exact (pi_list he).run pins s σ H R I ⟨H0, B, ρ, _, sl, hx, fun v B1 H1 t1 d1 => by
      cases d1 with | lst h a => exact ⟨_, rfl, ⟨_, sqL_mono t1.t h⟩, q _ B1 H1 t1 (itD_list h a)⟩⟩
  · cases hf
    exact (pi_tup he).run pins s σ H R I ⟨H0, B, ρ, _, sl, hx, fun v B1 H1 t1 d1 => by
      cases d1 with | tup h a => exact ⟨_, rfl, ⟨_, sqT_mono t1.t h⟩, q _ B1 H1 t1 (itD_tup h a)⟩⟩
  · cases hf
    exact (pi_str he).run pins s σ H R I ⟨H0, B, ρ, _, sl, hx, fun v B1 H1 t1 d1 => by
      cases d1; exact ⟨_, rfl, q _ B1 H1 t1 itD_str⟩⟩
  · cases hf⟩
def range1D : PyData → Option (List PyData)
  | .int n => if n.natAbs ≤ 1000000 then some (intsFrom 0 n.toNat) else none
  | _ => none
def fR1 (f : Rho → Option PyData) : Rho → Option (List PyData) := fun ρ => (f ρ).bind range1D
theorem pdi_range1 [Tbs] {a : Expr} {p pos : Pos} (hg : Gl X "range") (hm : X.mg "range" = none) (ha : PD X a f) (h0 : starEach [a] X.env = (false, eval a X.env) :: starEach [] X.env := by rfl) (hs : starEach [a] X.env = [(false, eval a X.env)] := by rfl) : PDI X tg (.Call (.Name "range" p) [a] [] pos) (fR1 f) := pi_imp (pi_range1 hg hm (pa_cons ha pa_nil h0) hs) fun σ H R ⟨H0, B, ρ, d, sl, hf, q⟩ => by
  obtain ⟨x, hx, hf⟩ := bind_some hf
  refine ⟨H0, B, ρ, x, sl, hx, fun v B1 H1 t1 d1 => ?_⟩
  unfold range1D at hf
  split at hf
  · obtain ⟨hn, rfl⟩ := ite_some hf
    cases d1
    exact ⟨_, rfl, by omega, by omega, q _ B1 H1 t1 itD_range⟩
  · cases hf
def range2D : PyData → PyData → Option (List PyData)
  | .int i, .int j => if i.natAbs ≤ 1000000 ∧ j.natAbs ≤ 1000000 then some (intsFrom i (j - i).toNat) else none
  | _, _ => none
def fR2 (f g : Rho → Option PyData) : Rho → Option (List PyData) := fun ρ => (f ρ).bind fun x => (g ρ).bind fun y => range2D x y
theorem pdi_range2 [Tbs] {a b : Expr} {p pos : Pos} (hg : Gl X "range") (hm : X.mg "range" = none) (ha : PD X a f) (hb : PD X b g) (h0 : starEach [b] X.env = (false, eval b X.env) :: starEach [] X.env := by rfl) (h1 : starEach [a, b] X.env = (false, eval a X.env) :: starEach [b] X.env := by rfl)
    (hs : starEach [a, b] X.env = [(false, eval a X.env), (false, eval b X.env)] := by rfl) (hs2 : starEach [b] X.env = [(false, eval b X.env)] := by rfl) : PDI X tg (.Call (.Name "range" p) [a, b] [] pos) (fR2 f g) := pi_imp (pi_range2 hg hm (pa_cons ha (pa_cons hb pa_nil h0) h1) hs hs2) fun σ H R ⟨H0, B, ρ, d, sl, hf, q⟩ => by
  obtain ⟨x, hx, hf⟩ := bind_some hf
  obtain ⟨y, hy, hf⟩ := bind_some hf
  refine ⟨H0, B, ρ, x, sl, hx, fun v B1 H1 t1 d1 => ⟨H0, B1, ρ, y, sl.tr t1, hy, fun w B2 H2 t2 d2 => ?_⟩⟩
  have d3 := dp_mono t2.b d1
  unfold range2D at hf
  split at hf
  · obtain ⟨hn, rfl⟩ := ite_some hf
    cases d3
    cases d2
    exact ⟨_, _, rfl, ⟨by omega, by omega, by omega, by omega⟩, q _ B2 H2 (t1.trans t2) itD_range⟩
  · cases hf
def zip2D : PyData → PyData → Option (List PyData)
  | .list xs, .list ys => some (zipD xs ys)
  | _, _ => none
def fZ (f g : Rho → Option PyData) : Rho → Option (List PyData) := fun ρ => (f ρ).bind fun x => (g ρ).bind fun y => zip2D x y
theorem pdi_zip [Tbs] {a b : Expr} {p pos tpos : Pos} {elts : List Expr} {kk : Nat} (hg : Gl X "zip") (hm : X.mg "zip" = none) (ha : PD X a f) (hb : PD X b g) (h0 : starEach [b] X.env = (false, eval b X.env) :: starEach [] X.env := by rfl)
    (hs : starEach [a, b] X.env = (false, eval a X.env) :: starEach [b] X.env := by rfl) (hpl : (backTo pos (starEach [b] X.env)).any (·.1) = false := by rfl) : PDI X (.Tuple elts kk tpos) (.Call (.Name "zip" p) [a, b] [] pos) (fZ f g) := pi_imp (pi_zip hg hm (pa_cons ha (pa_cons hb pa_nil h0) hs) hs hpl) fun σ H R ⟨H0, B, ρ, d, sl, hf, q⟩ => by
  obtain ⟨x, hx, hf⟩ := bind_some hf
  obtain ⟨y, hy, hf⟩ := bind_some hf
  refine ⟨H0, B, ρ, x, sl, hx, fun v B1 H1 t1 d1 => ⟨H0, B1, ρ, y, sl.tr t1, hy, fun w B2 H2 t2 d2 => ?_⟩⟩
  have d3 := dp_mono t2.b d1
  unfold zip2D at hf
  split at hf
  · cases hf
    cases d3 with
    | lst h1 a1 => cases d2 with
      | lst h2 a2 => exact ⟨_, _, _, _, rfl, sqL_mono t2.t h1, sqL_mono t2.t h2, q _ B2 H2 (t1.trans t2) (itD_zip h1 a1 h2 a2)⟩
  · cases hf
end

/-! ### slots set -/
section
variable {K : PySem.W.Frag} {H0 B H : Hp} {ρ : Rho} {σ : L2.St}
theorem get_set {α : Type} {l : List α} {i j : Nat} {x y : α} (h : (l.set i x)[j]? = some y) : (i = j ∧ j < l.length ∧ x = y) ∨ (i ≠ j ∧ l[j]? = some y) := by
  by_cases e : i = j
  · subst e
    by_cases hl : i < l.length
    · rw [List.getElem?_set_self hl] at h; exact .inl ⟨rfl, hl, Option.some.inj h⟩
    · rw [List.getElem?_eq_none (by simpa using hl)] at h; cases h
  · rw [List.getElem?_set_ne e] at h; exact .inr ⟨e, h⟩
theorem sl_setD [Tbs] (s : Sl K H0 B ρ σ H) {i : Nat} {v : V} {x : PyData} (h : Dq K B v x) : Sl K H0 B (ρ.set i (some (.d x))) (σ.set i (some v)) H := by
  refine ⟨s.bh, s.nt, s.tb, by simp [s.len], fun {j y} e => ?_, fun {j o ys} e => ?_, fun {j k o o' xs ys a} e1 e2 e3 e4 => ?_, s.ob.set fun _ _ _ z => by cases z⟩
  · rcases get_set e with ⟨rfl, hl, z⟩ | ⟨hn, e⟩
    · cases z
      exact ⟨v, List.getElem?_set_self (by rw [← s.len]; exact hl), h⟩
    · obtain ⟨w, h1, h2⟩ := s.dv e
      exact ⟨w, by rw [List.getElem?_set_ne hn]; exact h1, h2⟩
  · rcases get_set e with ⟨rfl, hl, z⟩ | ⟨hn, e⟩
    · cases z
    · obtain ⟨a, vs, h1, h2⟩ := s.ow e
      exact ⟨a, vs, by rw [List.getElem?_set_ne hn]; exact h1, h2⟩
  · rcases get_set e1 with ⟨_, _, z⟩ | ⟨n1, e1⟩
    · cases z
    · rcases get_set e2 with ⟨_, _, z⟩ | ⟨n2, e2⟩
      · cases z
      · rw [List.getElem?_set_ne n1] at e3
        rw [List.getElem?_set_ne n2] at e4
        exact s.ap e1 e2 e3 e4
/-- a new list, known to this slot alone -/
theorem sl_setO [Tbs] (s : Sl K H0 B ρ σ H) {i : Nat} {a : Addr} {vs : List V} {xs : List PyData} {o : Option Addr} (hb : B a = none) (h0 : H0 a = none) (ha : H a = some (.lst vs)) (hd : DqAll K B vs xs) (ho : ∀ b, o = some b → a = b)
    (new : ∀ {j : Nat} {o' : Option Addr} {ys : List PyData}, j ≠ i → ρ[j]? = some (some (.own o' ys)) → σ[j]? ≠ some (some (V.ref a))) : Sl K H0 B (ρ.set i (some (.own o xs))) (σ.set i (some (.ref a))) H := by
  refine ⟨s.bh, s.nt, s.tb, by simp [s.len], fun {j y} e => ?_, fun {j oj ys} e => ?_, fun {j k oj ok us ys c} e1 e2 e3 e4 => ?_, s.ob.set fun _ _ _ z => by cases z⟩
  · rcases get_set e with ⟨rfl, hl, z⟩ | ⟨hn, e⟩
    · cases z
    · obtain ⟨w, h1, h2⟩ := s.dv e
      exact ⟨w, by rw [List.getElem?_set_ne hn]; exact h1, h2⟩
  · rcases get_set e with ⟨rfl, hl, z⟩ | ⟨hn, e⟩
    · cases z
      exact ⟨a, vs, List.getElem?_set_self (by rw [← s.len]; exact hl), hb, h0, ha, hd, ho⟩
    · obtain ⟨c, ws, h1, h2⟩ := s.ow e
      exact ⟨c, ws, by rw [List.getElem?_set_ne hn]; exact h1, h2⟩
  · rcases get_set e1 with ⟨rfl, l1, z1⟩ | ⟨n1, e1⟩
    · rcases get_set e2 with ⟨rfl, l2, z2⟩ | ⟨n2, e2⟩
      · rfl
      · rw [List.getElem?_set_ne n2] at e4
        rw [List.getElem?_set_self (by rw [← s.len]; exact l1)] at e3
        cases e3
        exact absurd e4 (new (fun z => n2 z.symm) e2)
    · rcases get_set e2 with ⟨rfl, l2, z2⟩ | ⟨n2, e2⟩
      · rw [List.getElem?_set_ne n1] at e3
        rw [List.getElem?_set_self (by rw [← s.len]; exact l2)] at e4
        cases e4
        exact absurd e3 (new (fun z => n1 z.symm) e1)
      · rw [List.getElem?_set_ne n1] at e3
        rw [List.getElem?_set_ne n2] at e4
        exact s.ap e1 e2 e3 e4
def wipeR (ρ : Rho) : List Nat → Rho
  | [] => ρ
  | v :: vs => (wipeR ρ vs).set v none
theorem sl_none [Tbs] (s : Sl K H0 B ρ σ H) (i : Nat) : Sl K H0 B (ρ.set i none) (σ.set i none) H := by
  refine ⟨s.bh, s.nt, s.tb, by simp [s.len], fun {j y} e => ?_, fun {j oj ys} e => ?_, fun {j k oj ok us ys c} e1 e2 e3 e4 => ?_, s.ob.set fun _ _ _ z => by cases z⟩
  · rcases get_set e with ⟨rfl, hl, z⟩ | ⟨hn, e⟩
    · cases z
    · rw [List.getElem?_set_ne hn]; exact s.dv e
  · rcases get_set e with ⟨rfl, hl, z⟩ | ⟨hn, e⟩
    · cases z
    · rw [List.getElem?_set_ne hn]; exact s.ow e
  · rcases get_set e1 with ⟨_, _, z⟩ | ⟨n1, e1⟩
    · cases z
    · rcases get_set e2 with ⟨_, _, z⟩ | ⟨n2, e2⟩
      · cases z
      · rw [List.getElem?_set_ne n1] at e3
        rw [List.getElem?_set_ne n2] at e4
        exact s.ap e1 e2 e3 e4
theorem sl_wipe [Tbs] (s : Sl K H0 B ρ σ H) : ∀ vs : List Nat, Sl K H0 B (wipeR ρ vs) (wipe σ vs) H
  | [] => s
  | v :: vs => sl_none (sl_wipe s vs) v
theorem set_none_comm {l : List (Option V)} {i j : Nat} {x : Option V} (h : i ≠ j) : (l.set i x).set j none = (l.set j none).set i x := List.set_comm _ _ h
theorem wipe_set {σ : L2.St} {i : Nat} {x : Option V} : ∀ {vs : List Nat}, i ∈ vs → wipe (σ.set i x) vs = wipe σ vs
  | v :: vs, h => by
    unfold wipe
    by_cases e : i ∈ vs
    · rw [wipe_set e]
    · have e2 : i = v := by
        cases List.mem_cons.mp h with | inl z => exact z | inr z => exact absurd z e
      subst e2
      have q : ∀ {us : List Nat}, i ∉ us → wipe (σ.set i x) us = (wipe σ us).set i x := by
        intro us
        induction us with
        | nil => intro _; rfl
        | cons u us ih =>
          intro hu
          unfold wipe
          rw [ih (fun z => hu (List.mem_cons_of_mem _ z)), set_none_comm (fun z => hu (by rw [z]; exact List.mem_cons_self))]
      rw [q e, List.set_set]

/-! ### targets -/
def GD [Tbs] (K : PySem.W.Frag) (g : TG) (bd : PyData → Rho → Option Rho) (is : List Nat) : Prop := ∀ (H0 B H : Hp) (ρ ρ' : Rho) (σ : L2.St) (v : V) (x : PyData) (Q : L2.St → Hp → Prop), Sl K H0 B ρ σ H → Dq K B v x → bd x ρ = some ρ' →
  (∀ σ', (∀ vs : List Nat, (∀ i ∈ is, i ∈ vs) → wipe σ' vs = wipe σ vs) → Sl K H0 B ρ' σ' H → Q σ' H) → g v σ H Q
def b1 (i : Nat) : PyData → Rho → Option Rho := fun x ρ => some (ρ.set i (some (.d x)))
theorem gd_1 [Tbs] {i : Nat} : GD K (gName i) (b1 i) [i] := fun H0 B H ρ ρ' σ v x Q s h hb q => by
  cases hb
  exact q _ (fun vs hv => wipe_set (hv i (by simp))) (sl_setD s h)
def b2 (i j : Nat) : PyData → Rho → Option Rho
  | .tuple [x, y], ρ => some ((ρ.set i (some (.d x))).set j (some (.d y)))
  | _, _ => none
theorem gd_2 [Tbs] {i j : Nat} : GD K (gTup K 2 (gCons (gName i) (gCons (gName j) gNil))) (b2 i j) [i, j] := fun H0 B H ρ ρ' σ v x Q s h hb q => by
  unfold b2 at hb
  split at hb
  · cases hb
    cases h with
    | tup h a =>
      cases a with
      | cons a1 a =>
        cases a with
        | cons a2 a =>
          cases a
          refine ⟨_, _, rfl, sqT_mono s.bh h, rfl, _, _, rfl, _, _, rfl, rfl, q _ (fun vs hv => ?_) (sl_setD (sl_setD s a1) a2)⟩
          rw [wipe_set (hv j (by simp)), wipe_set (hv i (by simp))]
  · cases hb
def b3 (i j k : Nat) : PyData → Rho → Option Rho
  | .tuple [x, y, z], ρ => some (((ρ.set i (some (.d x))).set j (some (.d y))).set k (some (.d z)))
  | _, _ => none
theorem gd_3 [Tbs] {i j k : Nat} : GD K (gTup K 3 (gCons (gName i) (gCons (gName j) (gCons (gName k) gNil)))) (b3 i j k) [i, j, k] := fun H0 B H ρ ρ' σ v x Q s h hb q => by
  unfold b3 at hb
  split at hb
  · cases hb
    cases h with
    | tup h a =>
      cases a with
      | cons a1 a =>
        cases a with
        | cons a2 a =>
          cases a with
          | cons a3 a =>
            cases a
            refine ⟨_, _, rfl, sqT_mono s.bh h, rfl, _, _, rfl, _, _, rfl, _, _, rfl, rfl, q _ (fun vs hv => ?_) (sl_setD (sl_setD (sl_setD s a1) a2) a3)⟩
            rw [wipe_set (hv k (by simp)), wipe_set (hv j (by simp)), wipe_set (hv i (by simp))]
  · cases hb

/-! ### comprehensions -/
def lcGo (bd : PyData → Rho → Option Rho) (t : Rho → Option Bool) (f : Rho → Option PyData) (ρ : Rho) : List PyData → Option (List PyData)
  | [] => some []
  | x :: xs => (bd x ρ).bind fun ρ1 => (t ρ1).bind fun b => if b then (f ρ1).bind fun y => (lcGo bd t f ρ xs).bind fun r => some (y :: r) else lcGo bd t f ρ xs
def fLc (fi : Rho → Option (List PyData)) (bd : PyData → Rho → Option Rho) (t : Rho → Option Bool) (f : Rho → Option PyData) (vs : List Nat) : Rho → Option PyData := fun ρ => (fi ρ).bind fun xs => if xs.length ≤ bigL then (lcGo bd t f (wipeR ρ vs) xs).map .list else none
theorem lcGo_len {bd : PyData → Rho → Option Rho} {t : Rho → Option Bool} {f : Rho → Option PyData} {ρ : Rho} : ∀ {xs ys : List PyData}, lcGo bd t f ρ xs = some ys → ys.length ≤ xs.length
  | [], ys, h => by cases h; exact Nat.le_refl _
  | x :: xs, ys, h => by
    unfold lcGo at h
    obtain ⟨ρ1, h1, h⟩ := bind_some h
    obtain ⟨b, h2, h⟩ := bind_some h
    cases b with
    | true =>
      obtain ⟨y, h3, h⟩ := bind_some h
      obtain ⟨r, h4, h⟩ := bind_some h
      cases h
      exact Nat.succ_le_succ (lcGo_len h4)
    | false => exact Nat.le_succ_of_le (lcGo_len h)
def tYesD : Rho → Option Bool := fun _ => some true
abbrev PDTs [Tbs] (X : Cx) (ifs : List Expr) (f : Rho → Option Bool) : Prop := PTs X ifs (tDT X.K f)
theorem pts_imp {X : Cx} {e : List Expr} {t t' : TT} (h : PTs X e t) (i : ∀ σ H Q, t' σ H Q → t σ H Q) : PTs X e t' := ⟨fun pins s σ H Q I q => h.run pins s σ H Q I (i σ H Q q)⟩
theorem pdts_nil [Tbs] {X : Cx} : PDTs X [] tYesD := pts_imp pts_nil fun σ H Q ⟨H0, B, ρ, d, s, hf, q⟩ => by cases hf; exact q B H (Tr.refl s.bh)
theorem pdts_one [Tbs] {X : Cx} {c : Expr} {f : Rho → Option Bool} (h : PDT X c f) : PDTs X [c] f := pts_one h
theorem Tr.put {B H B' H' : Hp} {D : Addr} {o : HO} (t : Tr B H B' H') (hb : B' D = none) (h : H D = none) : Tr B H B' (upd H' D o) := ⟨t.b, fun a u e => by rw [upd_ne (ne_of_none e hb)]; exact t.t a u e, t.h.put h, t.n, t.f⟩
theorem Tr.stay {B H B' H' : Hp} {D : Addr} {o : HO} (t : Tr B H B' H') (hb : B D = none) (h : H D = some o) : B' D = none := by
  cases e : B' D with
  | none => rfl
  | some u => rw [t.f D u e hb] at h; cases h
theorem set_none_none {l : List (Option V)} {i j : Nat} : (l.set i none).set j none = (l.set j none).set i none := by
  by_cases e : i = j
  · rw [e]
  · exact List.set_comm _ _ e
theorem wipe_none {σ : L2.St} {i : Nat} : ∀ vs : List Nat, wipe (σ.set i none) vs = (wipe σ vs).set i none
  | [] => rfl
  | v :: vs => by unfold wipe; rw [wipe_none vs, set_none_none]
theorem wipe_idem {σ : L2.St} : ∀ vs : List Nat, wipe (wipe σ vs) vs = wipe σ vs
  | [] => rfl
  | v :: vs => by
    show (wipe ((wipe σ vs).set v none) vs).set v none = (wipe σ vs).set v none
    rw [wipe_none, wipe_idem vs, List.set_set]
theorem lc_imp [Tbs] {fi : Rho → Option (List PyData)} {g : TG} {bd : PyData → Rho → Option Rho} {is : List Nat} {t : Rho → Option Bool} {f : Rho → Option PyData} {vs : List Nat} (hg : GD K g bd is) (hv : ∀ i ∈ is, i ∈ vs) :
    ∀ σ H Q, tD K (fLc fi bd t f vs) σ H Q → tLc (tDI K fi) g (tDT K t) (tD K f) vs σ H Q := fun σ H Q ⟨H0, B, ρ, d, s, hf, q⟩ => by
  obtain ⟨xs, hxs, hf⟩ := bind_some hf
  split at hf
  case isFalse => cases hf
  rename_i hlen
  obtain ⟨ys, hys, rfl⟩ := Option.map_eq_some_iff.mp hf
  refine ⟨H0, B, ρ, xs, s, hxs, fun J B1 H1 t1 it D hD => ?_⟩
  have s1 := s.tr t1
  have hBD1 : B1 D = none := t1.t.free hD
  refine ⟨fun i m H' => ∃ B2 acc accD rest, Tr B1 H1 B2 H' ∧ m = xs.length - i ∧ i ≤ xs.length ∧ B2 D = none ∧ H' D = some (.lst acc) ∧ DqAll K B2 acc accD ∧ lcGo bd t f (wipeR ρ vs) (xs.drop i) = some rest ∧ accD ++ rest = ys ∧ accD.length ≤ i,
    ⟨xs.length, B1, [], [], ys, Tr.junk t1.t hD, rfl, Nat.zero_le _, hBD1, upd_same, .nil, hys, rfl, Nat.le_refl _⟩, ?_⟩
  rintro i m H' ⟨B2, acc, accD, rest, t2, rfl, hi, hB, hDl, hacc, hgo, hr, hl⟩
  by_cases hlt : i < xs.length
  · have hx : xs[i]? = some xs[i] := by simp [hlt]
    obtain ⟨go, yld⟩ := it.2 i xs[i] hx H' (t2.b.trans t2.t)
    rw [List.drop_eq_getElem_cons hlt] at hgo
    unfold lcGo at hgo
    obtain ⟨ρ1, h1, hgo⟩ := bind_some hgo
    obtain ⟨b, h2, hgo⟩ := bind_some hgo
    refine .inr ⟨go, _, fun H'' nx => ⟨xs.length - (i + 1), by omega, nx⟩, fun x H3 y => ?_⟩
    obtain ⟨B3, t3, d3⟩ := yld x H3 y B2 t2.b t2.t
    refine hg H0 B3 H3 (wipeR ρ vs) ρ1 (wipe σ vs) x xs[i] _ (sl_wipe ((s1.tr t2).tr t3) vs) d3 h1 fun σ' hw s3 => ⟨by rw [hw vs hv, wipe_idem], ?_⟩
    refine ⟨H0, B3, ρ1, b, s3, h2, fun B4 H4 t4 => ?_⟩
    have t24 := (t2.trans t3).trans t4
    have hD4 := (t3.trans t4).h.l hDl
    have hB4 := (t3.trans t4).stay hB hDl
    cases b with
    | true =>
      obtain ⟨z, h3, hgo⟩ := bind_some hgo
      obtain ⟨rs, h4, hgo⟩ := bind_some hgo
      cases hgo
      refine ⟨H0, B4, ρ1, z, s3.tr t4, h3, fun v B5 H5 t5 d5 => ?_⟩
      have hD5 := t5.h.l hD4
      have hB5 := t5.stay hB4 hD4
      refine ⟨acc, hD5, ?_, B5, acc ++ [v], accD ++ [z], rs, (t24.trans t5).put hB5 hD, rfl, hlt, hB5, upd_same, dpAll_append (dpAll_mono ((t3.trans t4).trans t5).b hacc) (.cons d5 .nil), h4, by rw [← hr]; simp, by simp; omega⟩
      have := dpAll_len hacc
      have h6 : (bigL : Nat) < sizeLine := by decide
      omega
    | false =>
      exact ⟨B4, acc, accD, rest, t24, rfl, hlt, hB4, hD4, dpAll_mono (t3.trans t4).b hacc, hgo, hr, by omega⟩
  · have e : xs.length = i := by omega
    subst e
    rw [List.drop_length] at hgo
    cases hgo
    rw [List.append_nil] at hr
    subst hr
    refine .inl ⟨it.1 H' (t2.b.trans t2.t), q _ (upd B2 D (.lst acc)) H' ?_ (.lst (SqL.of upd_same) (dpAll_mono (same_upd hB) hacc))⟩
    have T := t1.trans t2
    refine ⟨T.b.trans (same_upd hB), fun a u e => ?_, T.h, fun n => nt_upd (T.n n) (fun _ z => by cases z), fun a u e1 e2 => ?_⟩
    · by_cases z : a = D
      · subst z; rw [upd_same] at e; cases e; exact hDl
      · rw [upd_ne z] at e; exact T.t a u e
    · by_cases z : a = D
      · subst z; exact t1.h.free hD
      · rw [upd_ne z] at e1; exact T.f a u e1 e2
end
section
variable {X : Cx} {elt tg iter : Expr} {ifs : List Expr} {scope : Scope} {own : List (Str × Nat)} {pos : Pos} {fi : Rho → Option (List PyData)} {g : TG} {bd : PyData → Rho → Option Rho} {is : List Nat} {t : Rho → Option Bool} {f : Rho → Option PyData}
theorem pd_lc [Tbs] {vs : List Nat} (hgd : GD X.K g bd is) (hv : ∀ i ∈ is, i ∈ vs) (hc : X.calm = true) (hN : X.N.Nodup) (hi : PDI X tg iter fi) (ok : BlkOk X.N X.env.scope scope own)
    (hg : ∀ (s : Shared) (H : Hp) (C : Addr) (cl : List (Str × Addr)) (fp : List Addr), PG (X.blk s H scope (compEnvC scope cl C X.env) fp) tg g) (ht : ∀ (s : Shared) (H : Hp) (C : Addr) (cl : List (Str × Addr)) (fp : List Addr), PDTs (X.blk s H scope (compEnvC scope cl C X.env) fp) ifs t)
    (he : ∀ (s : Shared) (H : Hp) (C : Addr) (cl : List (Str × Addr)) (fp : List Addr), PD (X.blk s H scope (compEnvC scope cl C X.env) fp) elt f) (hw : own.map (·.2) = vs := by rfl) (hs : ∀ x, foldedSetIterable iter X.env x = pure x := by intro _; rfl) :
    PD X (.ListComp elt [⟨tg, iter, ifs, 0⟩] scope pos) (fLc fi bd t f vs) := by
  subst hw
  exact pe_imp (pe_lc hc hN hi ok hg ht he hs) (lc_imp hgd hv)
end

/-! ### statements -/
inductive Out | nx (ρ : Rho) | rt (d : PyData) (ρ : Rho) | bk (ρ : Rho) | ct (ρ : Rho) | rf (xs : List PyData)
section
variable {K : PySem.W.Frag}
/-- B0, H0: at the entry -/
def Stt [Tbs] (K : PySem.W.Frag) (B0 H0 : Hp) (ρ : Rho) (σ : L2.St) (H : Hp) : Prop := ∃ B, Tr B0 H0 B H ∧ Sl K H0 B ρ σ H
def Post [Tbs] (K : PySem.W.Frag) (B0 H0 : Hp) (D : Ends) : Out → Prop
  | .nx ρ => ∀ σ H, Stt K B0 H0 ρ σ H → D.nx σ H
  | .bk ρ => ∀ σ H, Stt K B0 H0 ρ σ H → D.bk σ H
  | .ct ρ => ∀ σ H, Stt K B0 H0 ρ σ H → D.ct σ H
  | .rt d ρ => ∀ v σ B H, Tr B0 H0 B H → Sl K H0 B ρ σ H → Dq K B v d → D.rt v H
  | .rf xs => ∀ a us B H, Tr B0 H0 B H → B a = none → H0 a = none → H a = some (.lst us) → DqAll K B us xs → D.rt (.ref a) H
def tS [Tbs] (K : PySem.W.Frag) (g : Rho → Option Out) : TS := fun D σ H => ∃ B0 H0 ρ o, Stt K B0 H0 ρ σ H ∧ g ρ = some o ∧ Post K B0 H0 D o
abbrev PSD [Tbs] (X : Cx) (st : Stmt) (g : Rho → Option Out) : Prop := PS X st (tS X.K g)
abbrev PSDs [Tbs] (X : Cx) (st : List Stmt) (g : Rho → Option Out) : Prop := PSs X st (tS X.K g)
def gNx : Rho → Option Out := fun ρ => some (.nx ρ)
def gSeq (g h : Rho → Option Out) : Rho → Option Out := fun ρ => (g ρ).bind fun o => match o with
  | .nx ρ' => h ρ'
  | o => some o
variable {X : Cx} {st : Stmt} {rest : List Stmt} {g h : Rho → Option Out} {e a b : Expr} {pos : Pos} {f : Rho → Option PyData} {ft : Rho → Option Bool}
theorem psd_nil [Tbs] : PSDs X [] gNx := pss_imp pss_nil fun D σ H ⟨B0, H0, ρ, o, s, hf, q⟩ => by cases hf; exact q σ H s
theorem psd_cons [Tbs] (h1 : PSD X st g) (h2 : PSDs X rest h) : PSDs X (st :: rest) (gSeq g h) := pss_imp (pss_cons h1 h2) fun D σ H ⟨B0, H0, ρ, o, s, hf, q⟩ => by
  obtain ⟨o1, ho, hf⟩ := bind_some hf
  refine ⟨B0, H0, ρ, o1, s, ho, ?_⟩
  cases o1 with
  | nx ρ' => exact fun σ' H' s' => ⟨B0, H0, ρ', o, s', hf, q⟩
  | rt d ρ' => cases hf; exact q
  | rf d => cases hf; exact q
  | bk d => cases hf; exact q
  | ct d => cases hf; exact q
theorem psd_one [Tbs] (h1 : PSD X st g) : PSDs X [st] g := pss_one h1
def gRet (f : Rho → Option PyData) : Rho → Option Out := fun ρ => (f ρ).map fun d => .rt d ρ
theorem psd_ret [Tbs] (he : PD X e f) : PSD X (.Return (some e) pos) (gRet f) := ps_imp (ps_ret he) fun D σ H ⟨B0, H0, ρ, o, ⟨B, t, s⟩, hf, q⟩ => by
  obtain ⟨d, hd, rfl⟩ := Option.map_eq_some_iff.mp hf
  exact ⟨H0, B, ρ, d, s, hd, fun v B1 H1 t1 d1 => q v σ B1 H1 (t.trans t1) (s.tr t1) d1⟩
/-- the slot's own list becomes data -/
def frz (i : Nat) (ρ : Rho) : Rho := match ρ[i]? with
  | some (some (.own _ xs)) => ρ.set i (some (.d (.list xs)))
  | _ => ρ
theorem set_self_get {l : L2.St} {i : Nat} {x : Option V} (h : l[i]? = some x) : l.set i x = l := by
  apply List.ext_getElem?
  intro j
  by_cases e : i = j
  · subst e
    rw [List.getElem?_set_self (List.getElem?_eq_some_iff.mp h).1, h]
  · rw [List.getElem?_set_ne e]
theorem stt_frz [Tbs] {B0 H0 : Hp} {ρ : Rho} {σ : L2.St} {H : Hp} (s : Stt K B0 H0 ρ σ H) (i : Nat) : Stt K B0 H0 (frz i ρ) σ H := by
  unfold frz
  split
  · rename_i o xs hx
    obtain ⟨B, t, s⟩ := s
    obtain ⟨p, vs, h1, h2, h3, h4, h5, h6⟩ := s.ow hx
    have t2 : Tr B0 H0 (upd B p (.lst vs)) H := ⟨t.b.trans (same_upd h2), fun c u e => by
      by_cases z : c = p
      · subst z; rw [upd_same] at e; cases e; exact h4
      · rw [upd_ne z] at e; exact t.t c u e, t.h, fun n => nt_upd (t.n n) (fun _ z => by cases z), fun c u e1 e2 => by
      by_cases z : c = p
      · subst z; exact h3
      · rw [upd_ne z] at e1; exact t.f c u e1 e2⟩
    refine ⟨_, t2, ?_⟩
    -- all other lists stay apart
    have sw : Sl K H0 B (ρ.set i none) σ H := by
      refine ⟨s.bh, s.nt, s.tb, by simp [s.len], fun {j y} e => ?_, fun {j oj ys} e => ?_, fun {j k oj ok us ys c} e1 e2 e3 e4 => ?_, s.ob.setR fun _ _ _ z => by cases z⟩
      · rcases get_set e with ⟨_, _, z⟩ | ⟨_, e⟩
        · cases z
        · exact s.dv e
      · rcases get_set e with ⟨_, _, z⟩ | ⟨_, e⟩
        · cases z
        · exact s.ow e
      · rcases get_set e1 with ⟨_, _, z⟩ | ⟨_, e1⟩
        · cases z
        · rcases get_set e2 with ⟨_, _, z⟩ | ⟨_, e2⟩
          · cases z
          · exact s.ap e1 e2 e3 e4
    have s2 : Sl K H0 (upd B p (.lst vs)) (ρ.set i none) σ H := by
      refine ⟨t2.t, nt_upd sw.nt (fun _ z => by cases z), sw.tb, sw.len, fun {j y} e => ?_, fun {j oj ys} e => ?_, fun a b c d => sw.ap a b c d, sw.ob.go (same_upd h2) fun a C dx vs e1 _ e2 => ⟨by rw [upd_ne (fun z => by rw [z, h4] at e2; cases e2)]; exact e1, e2⟩⟩
      · obtain ⟨v, e1, e2⟩ := sw.dv e
        exact ⟨v, e1, dp_mono (same_upd h2) e2⟩
      · obtain ⟨c, ws, e1, e2, e3, e4, e5, e6⟩ := sw.ow e
        refine ⟨c, ws, e1, ?_, e3, e4, dpAll_mono (same_upd h2) e5, e6⟩
        have hne : c ≠ p := fun z => by
          subst z
          rcases get_set e with ⟨_, _, z⟩ | ⟨n, e⟩
          · cases z
          · exact n (s.ap hx e h1 e1)
        rw [upd_ne hne]
        exact e2
    have s3 := sl_setD (i := i) (v := V.ref p) (x := PyData.list xs) s2 (.lst (SqL.of upd_same) (dpAll_mono (same_upd h2) h5))
    rw [List.set_set, set_self_get h1] at s3
    exact s3
  · exact s
theorem psd_frz [Tbs] (i : Nat) (h : PSD X st g) : PSD X st (fun ρ => g (frz i ρ)) := ps_imp h fun D σ H ⟨B0, H0, ρ, o, s, hf, q⟩ => ⟨B0, H0, frz i ρ, o, stt_frz s i, hf, q⟩
theorem psds_frz [Tbs] (i : Nat) (h : PSDs X rest g) : PSDs X rest (fun ρ => g (frz i ρ)) := pss_imp h fun D σ H ⟨B0, H0, ρ, o, s, hf, q⟩ => ⟨B0, H0, frz i ρ, o, stt_frz s i, hf, q⟩
def gSet (i : Nat) (f : Rho → Option PyData) : Rho → Option Out := fun ρ => (f ρ).map fun x => .nx (ρ.set i (some (.d x)))
theorem psd_asg [Tbs] {i : Nat} (h : PS X st (tAsg (tD X.K f) (gName i))) : PSD X st (gSet i f) := ps_imp h fun D σ H ⟨B0, H0, ρ, o, ⟨B, t, s⟩, hf, q⟩ => by
  obtain ⟨d, hd, rfl⟩ := Option.map_eq_some_iff.mp hf
  exact ⟨H0, B, ρ, d, s, hd, fun v B1 H1 t1 d1 => q _ _ ⟨B1, t.trans t1, sl_setD (s.tr t1) d1⟩⟩
/-- x = [..]: x alone knows it -/
def gOwn (i : Nat) (fs : Rho → Option (List PyData)) : Rho → Option Out := fun ρ => (fs ρ).bind fun xs => if xs.length ≤ bigL then some (.nx (ρ.set i (some (.own none xs)))) else none
theorem psd_own [Tbs] {i : Nat} {fs : Rho → Option (List PyData)} (h : PS X st (tAsg (tLst (tDA X.K fs)) (gName i))) : PSD X st (gOwn i fs) := ps_imp h fun D σ H ⟨B0, H0, ρ, o, ⟨B, t, s⟩, hf, q⟩ => by
  obtain ⟨xs, hd, hf⟩ := bind_some hf
  obtain ⟨hl, rfl⟩ := ite_some hf
  refine ⟨H0, B, ρ, xs, s, hd, fun vs B1 H1 t1 d1 => ⟨by rw [dpAll_len d1]; exact bigL_le hl, fun p hp => ?_⟩⟩
  have T := t.trans t1
  have s1 := s.tr t1
  refine q _ _ ⟨B1, T.trans (Tr.junk T.t hp), sl_setO (s1.tr (Tr.junk T.t hp)) (T.t.free hp) (T.h.free hp) upd_same d1 (fun b e => nomatch e) fun {j oj ys} n e z => ?_⟩
  obtain ⟨c, ws, e1, _, _, e4, _⟩ := s1.ow e
  rw [z] at e1
  cases e1
  rw [hp] at e4
  cases e4
def gDrop (f : Rho → Option PyData) : Rho → Option Out := fun ρ => (f ρ).map fun _ => .nx ρ
theorem psd_drop [Tbs] (h : PS X st (tDrop (tD X.K f))) : PSD X st (gDrop f) := ps_imp h fun D σ H ⟨B0, H0, ρ, o, ⟨B, t, s⟩, hf, q⟩ => by
  obtain ⟨d, hd, rfl⟩ := Option.map_eq_some_iff.mp hf
  exact ⟨H0, B, ρ, d, s, hd, fun v B1 H1 t1 d1 => q _ _ ⟨B1, t.trans t1, s.tr t1⟩⟩
def gIf (c : Rho → Option Bool) (g h : Rho → Option Out) : Rho → Option Out := fun ρ => (c ρ).bind fun z => if z then g ρ else h ρ
theorem psd_if [Tbs] {c : Expr} {p q : List Stmt} (hc : PDT X c ft) (hp : PSDs X p g) (hq : PSDs X q h) : PSD X (.If c p q pos) (gIf ft g h) := ps_imp (ps_if hc hp hq) fun D σ H ⟨B0, H0, ρ, o, ⟨B, t, s⟩, hf, k⟩ => by
  obtain ⟨z, hz, hf⟩ := bind_some hf
  refine ⟨H0, B, ρ, z, s, hz, fun B1 H1 t1 => ?_⟩
  cases z with
  | true => exact ⟨B0, H0, ρ, o, ⟨B1, t.trans t1, s.tr t1⟩, hf, k⟩
  | false => exact ⟨B0, H0, ρ, o, ⟨B1, t.trans t1, s.tr t1⟩, hf, k⟩
/-- x.append(e), x knows its list alone -/
def gApp (i : Nat) (f : Rho → Option PyData) : Rho → Option Out := fun ρ => match ρ[i]? with
  | some (some (.own o xs)) => (f ρ).bind fun y => if xs.length < bigL then some (.nx (ρ.set i (some (.own o (xs ++ [y]))))) else none
  | _ => none
theorem Gw.put2 [Tbs] {H0 B H : Hp} {ρ : Rho} {σ : L2.St} {ws : List V} (_ : Gw H H) (s : Sl K H0 B ρ σ H) {i : Nat} {a P : Addr} {xs : List PyData} {o : Option Addr} (hx : ρ[i]? = some (some (.own o xs))) (h1 : σ[i]? = some (some (V.ref a))) (t : GxR.TabG H P) : GxR.TabG (upd H a (.lst ws)) P := by
  obtain ⟨a', us', z1, _, _, z4, _⟩ := s.ow hx
  rw [h1] at z1; cases z1
  obtain ⟨ps, e, h⟩ := t
  exact ⟨ps, by rw [upd_ne (fun z => by rw [z, z4] at e; cases e)]; exact e, h⟩
theorem sl_grow [Tbs] {H0 B H : Hp} {ρ : Rho} {σ : L2.St} (s : Sl K H0 B ρ σ H) {i : Nat} {a : Addr} {xs ys : List PyData} {ws : List V} {o : Option Addr} (hx : ρ[i]? = some (some (.own o xs))) (h1 : σ[i]? = some (some (V.ref a))) (hb : B a = none) (h0 : H0 a = none) (hd : DqAll K B ws ys) (ho : ∀ b, o = some b → a = b) :
    Sl K H0 B (ρ.set i (some (.own o ys))) σ (upd H a (.lst ws)) := by
  have hi := (List.getElem?_eq_some_iff.mp h1).1
  have hnl : ∀ C dx vs, H a ≠ some (.ins C dx vs) := fun C dx vs z => by
    obtain ⟨a', us', z1, _, _, z4, _⟩ := s.ow hx
    rw [h1] at z1; cases z1
    rw [z] at z4; cases z4
  refine ⟨fun c u e => ?_, s.nt, fun P hP => (Gw.refl H).put2 s hx h1 (s.tb P hP), by simp [s.len], fun {j y} e => ?_, fun {j oj us} e => ?_, fun {j k oj ok us vs c} e1 e2 e3 e4 => ?_, (s.ob.setR fun _ _ _ z => by cases z).go (Same.refl B) fun a' C dx vs e1 _ e2 => ⟨e1, by rw [upd_ne (fun z => by subst z; exact absurd e2 (hnl _ _ _))]; exact e2⟩⟩
  · rw [upd_ne (ne_of_none e hb)]; exact s.bh c u e
  · rcases get_set e with ⟨_, _, z⟩ | ⟨_, e⟩
    · cases z
    · exact s.dv e
  · rcases get_set e with ⟨rfl, _, z⟩ | ⟨n, e⟩
    · cases z; exact ⟨a, ws, h1, hb, h0, upd_same, hd, ho⟩
    · obtain ⟨c, vs, e1, e2, e3, e4, e5⟩ := s.ow e
      refine ⟨c, vs, e1, e2, e3, ?_, e5⟩
      rw [upd_ne]
      · exact e4
      · intro z; subst z; exact n (s.ap hx e h1 e1)
  · have f1 : ∃ o' us', ρ[j]? = some (some (.own o' us')) := by
      rcases get_set e1 with ⟨rfl, _, _⟩ | ⟨_, e⟩
      · exact ⟨_, _, hx⟩
      · exact ⟨_, _, e⟩
    have f2 : ∃ o' us', ρ[k]? = some (some (.own o' us')) := by
      rcases get_set e2 with ⟨rfl, _, _⟩ | ⟨_, e⟩
      · exact ⟨_, _, hx⟩
      · exact ⟨_, _, e⟩
    obtain ⟨_, _, f1⟩ := f1
    obtain ⟨_, _, f2⟩ := f2
    exact s.ap f1 f2 e3 e4
theorem psd_app [Tbs] {i : Nat} (h : PS X st (tDrop (tBM X.K "list" rAppend (tVar i) (tCons (tD X.K f) tNil)))) : PSD X st (gApp i f) := ps_imp h fun D σ H ⟨B0, H0, ρ, o, ⟨B, t, s⟩, hf, q⟩ => by
  unfold gApp at hf
  split at hf
  · rename_i o xs hx
    obtain ⟨y, hy, hf⟩ := bind_some hf
    obtain ⟨hl, rfl⟩ := ite_some hf
    obtain ⟨a, vs, h1, h2, h3, h4, h5, h6⟩ := s.ow hx
    refine ⟨.ref a, h1, .inl ⟨rfl, vs, SqL.of h4⟩, H0, B, ρ, y, s, hy, fun v B1 H1 t1 d1 => ?_⟩
    have s1 := s.tr t1
    have hb := t1.stay h2 h4
    refine ⟨a, vs, v, rfl, rfl, t1.h.l h4, by rw [dpAll_len h5]; exact Nat.lt_of_lt_of_le hl (by decide), ?_⟩
    refine q _ _ ⟨B1, (t.trans t1).put hb h3, sl_grow s1 hx h1 hb h3 (dpAll_append (dpAll_mono t1.b h5) (.cons d1 .nil)) h6⟩
  · cases hf
end
end Dn

namespace Dn
open PySem L2 PySem.Spec PyProof.Rows
theorem Tr.glue {B0 H0 B1 H1 B H : Hp} (p : Tr B0 H0 B1 H1) (q : Tr B1 H0 B H) : Tr B0 H0 B H := ⟨p.b.trans q.b, q.t, q.h, fun z => q.n (p.n z), fun a o x y => by
  cases e : B1 a with
  | none => exact q.f a o x e
  | some u => exact p.f a u e y⟩
section
variable {K : PySem.W.Frag}
/-! ### loops -/
def forGo (bd : PyData → Rho → Option Rho) (g : Rho → Option Out) : List PyData → Rho → Option Out
  | [], ρ => some (.nx ρ)
  | x :: xs, ρ => (bd x ρ).bind fun ρ1 => (g ρ1).bind fun o => match o with
    | .nx ρ2 => forGo bd g xs ρ2
    | .ct ρ2 => forGo bd g xs ρ2
    | .bk ρ2 => some (.nx ρ2)
    | .rt d ρ2 => some (.rt d ρ2)
    | .rf zs => some (.rf zs)
def gFor (fi : Rho → Option (List PyData)) (bd : PyData → Rho → Option Rho) (g : Rho → Option Out) : Rho → Option Out := fun ρ => (fi ρ).bind fun xs => forGo bd g xs ρ
def whileGo (c : Rho → Option Bool) (g : Rho → Option Out) : Nat → Rho → Option Out
  | 0, _ => none
  | n + 1, ρ => (c ρ).bind fun b => if b then (g ρ).bind fun o => match o with
    | .nx ρ2 => whileGo c g n ρ2
    | .ct ρ2 => whileGo c g n ρ2
    | .bk ρ2 => some (.nx ρ2)
    | .rt d ρ2 => some (.rt d ρ2)
    | .rf zs => some (.rf zs) else some (.nx ρ)
variable {X : Cx} {st : Stmt} {rest body : List Stmt} {g h : Rho → Option Out} {e a b tg iter : Expr} {pos : Pos} {f : Rho → Option PyData} {ft : Rho → Option Bool} {fi : Rho → Option (List PyData)} {bd : PyData → Rho → Option Rho} {is : List Nat} {tgt : TG}
theorem psd_for [Tbs] (hgd : GD X.K tgt bd is) (hp : PassesOwn (model X.prog X.w) X.A X.env X.xe) (hc : X.calm = true) (hi : PDI X tg iter fi) (hg : PG X tg tgt) (hb : PSDs X body g)
    (hs : ∀ x, foldedSetIterable iter X.env x = pure x := by intro _; rfl) : PSD X (.For tg iter body [] pos) (gFor fi bd g) := ps_imp (ps_for hp hc hi hg hb hs) fun D σ H ⟨B0, H0, ρ, o, ⟨B, t, s⟩, hf, q⟩ => by
  obtain ⟨xs, hxs, hf⟩ := bind_some hf
  refine ⟨H0, B, ρ, xs, s, hxs, fun J B1 H1 t1 it => ?_⟩
  have T := t.trans t1
  have T0 : Tr B1 H0 B1 H1 := ⟨Same.refl _, T.t, T.h, id, fun c u e1 e2 => by rw [e2] at e1; cases e1⟩
  refine ⟨fun i m σ' H' => ∃ ρ', Stt X.K B1 H0 ρ' σ' H' ∧ m = xs.length - i ∧ i ≤ xs.length ∧ forGo bd g (xs.drop i) ρ' = some o, ⟨xs.length, ρ, ⟨B1, T0, s.tr t1⟩, rfl, Nat.zero_le _, hf⟩, ?_⟩
  rintro i m σ' H' ⟨ρ', ⟨B2, t2, s2⟩, rfl, hle, hgo⟩
  by_cases hlt : i < xs.length
  · have hx : xs[i]? = some xs[i] := by simp [hlt]
    obtain ⟨go, yld⟩ := it.2 i xs[i] hx H' (t2.b.trans t2.t)
    rw [List.drop_eq_getElem_cons hlt] at hgo
    unfold forGo at hgo
    obtain ⟨ρ1, h1, hgo⟩ := bind_some hgo
    obtain ⟨o1, h2, hgo⟩ := bind_some hgo
    refine .inr ⟨go, _, fun σ'' H'' nx => ⟨xs.length - (i + 1), by omega, nx⟩, fun x H3 y => ?_⟩
    obtain ⟨B3, t3, d3⟩ := yld x H3 y B2 t2.b t2.t
    refine hgd H0 B3 H3 ρ' ρ1 σ' x xs[i] _ (s2.tr t3) d3 h1 fun σ3 _ s3 => ⟨B1, H0, ρ1, o1, ⟨B3, t2.trans t3, s3⟩, h2, ?_⟩
    cases o1 with
    | nx ρ2 => exact fun σ4 H4 s4 => ⟨ρ2, s4, rfl, hlt, hgo⟩
    | ct ρ2 => exact fun σ4 H4 s4 => ⟨ρ2, s4, rfl, hlt, hgo⟩
    | bk ρ2 => cases hgo; exact fun σ4 H4 ⟨B4, t4, s4⟩ => q _ _ ⟨B4, T.glue t4, s4⟩
    | rt d ρ2 => cases hgo; exact fun v σ4 B4 H4 t4 s4 d4 => q v σ4 B4 H4 (T.glue t4) s4 d4
    | rf zs => cases hgo; exact fun a us B4 H4 t4 w1 w2 w3 w4 => q a us B4 H4 (T.glue t4) w1 w2 w3 w4
  · have e : xs.length = i := by omega
    subst e
    rw [List.drop_length] at hgo
    cases hgo
    exact .inl ⟨it.1 H' (t2.b.trans t2.t), q _ _ ⟨B2, T.glue t2, s2⟩⟩
theorem psd_while [Tbs] (n : Nat) {c : Expr} (hp : PassesOwn (model X.prog X.w) X.A X.env X.xe) (hc : PDT X c ft) (hb : PSDs X body g) : PSD X (.While c body [] pos) (whileGo ft g n) := ps_imp (ps_while hp hc hb) fun D σ H ⟨B0, H0, ρ, o, s, hf, q⟩ => by
  refine ⟨fun m σ' H' => ∃ ρ', Stt X.K B0 H0 ρ' σ' H' ∧ whileGo ft g m ρ' = some o, ⟨n, ρ, s, hf⟩, ?_⟩
  rintro m σ' H' ⟨ρ', ⟨B2, t2, s2⟩, hgo⟩
  cases m with
  | zero => cases hgo
  | succ m =>
    unfold whileGo at hgo
    obtain ⟨z, h1, hgo⟩ := bind_some hgo
    refine ⟨H0, B2, ρ', z, s2, h1, fun B3 H3 t3 => ?_⟩
    cases z with
    | true =>
      obtain ⟨o1, h2, hgo⟩ := bind_some hgo
      refine ⟨_, fun σ'' H'' nx => ⟨m, Nat.lt_succ_self m, nx⟩, B0, H0, ρ', o1, ⟨B3, t2.trans t3, s2.tr t3⟩, h2, ?_⟩
      cases o1 with
      | nx ρ2 => exact fun σ4 H4 s4 => ⟨ρ2, s4, hgo⟩
      | ct ρ2 => exact fun σ4 H4 s4 => ⟨ρ2, s4, hgo⟩
      | bk ρ2 => cases hgo; exact fun σ4 H4 s4 => q _ _ s4
      | rt d ρ2 => cases hgo; exact fun v σ4 B4 H4 t4 s4 d4 => q v σ4 B4 H4 t4 s4 d4
      | rf zs => cases hgo; exact fun a us B4 H4 t4 w1 w2 w3 w4 => q a us B4 H4 t4 w1 w2 w3 w4
    | false =>
      cases hgo
      exact q _ _ ⟨B3, t2.trans t3, s2.tr t3⟩
/-! ### more statements -/
def gBk : Rho → Option Out := fun ρ => some (.bk ρ)
def gCt : Rho → Option Out := fun ρ => some (.ct ρ)
theorem psd_pass [Tbs] : PSD X (.Pass pos) gNx := ps_imp ps_pass fun D σ H ⟨B0, H0, ρ, o, s, hf, q⟩ => by cases hf; exact q σ H s
theorem psd_break [Tbs] : PSD X (.Break pos) gBk := ps_imp ps_break fun D σ H ⟨B0, H0, ρ, o, s, hf, q⟩ => by cases hf; exact q σ H s
theorem psd_cont [Tbs] : PSD X (.Continue pos) gCt := ps_imp ps_continue fun D σ H ⟨B0, H0, ρ, o, s, hf, q⟩ => by cases hf; exact q σ H s
theorem psd_doc [Tbs] {x j pos'} : PSD X (.Expr (.Constant (.str x) j pos) pos') gNx := ps_imp ps_doc fun D σ H ⟨B0, H0, ρ, o, s, hf, q⟩ => by cases hf; exact q σ H s
theorem psd_never [Tbs] (g : Rho → Option Out) (hg : ∀ ρ, g ρ = none) : PSD X st g := ps_imp ps_never fun D σ H ⟨B0, H0, ρ, o, s, hf, q⟩ => by rw [hg] at hf; cases hf
/-- i += e, i -= e of ints -/
def gAug (i : Nat) (op : Int → Int → Int) (f : Rho → Option PyData) : Rho → Option Out := fun ρ => (fV i ρ).bind fun x => (f ρ).bind fun y => (ri op x y).map fun z => .nx (ρ.set i (some (.d z)))
theorem psd_aug [Tbs] {i : Nat} {op : Int → Int → Int} (h : PS X st (tAug i (tD X.K f) (ipI op))) : PSD X st (gAug i op f) := ps_imp h fun D σ H ⟨B0, H0, ρ, o, ⟨B, t, s⟩, hf, q⟩ => by
  obtain ⟨x, hx, hf⟩ := bind_some hf
  obtain ⟨y, hy, hf⟩ := bind_some hf
  obtain ⟨z, hz, rfl⟩ := Option.map_eq_some_iff.mp hf
  unfold ri at hz
  split at hz
  · cases hz
    obtain ⟨v, h1, h2⟩ := s.dv (fV_some hx)
    cases h2
    refine ⟨_, h1, H0, B, ρ, _, s, hy, fun w B1 H1 t1 d1 => ?_⟩
    cases d1
    exact ⟨_, _, rfl, rfl, q _ _ ⟨B1, t.trans t1, sl_setD (s.tr t1) (.int _)⟩⟩
  · cases hz
/-- x.extend(e) -/
def gExt (i : Nat) (f : Rho → Option PyData) : Rho → Option Out := fun ρ => match ρ[i]? with
  | some (some (.own o xs)) => (f ρ).bind fun y => match y with
    | .list ys => if xs.length + ys.length ≤ bigL then some (.nx (ρ.set i (some (.own o (xs ++ ys))))) else none
    | _ => none
  | _ => none
def rExtL (K : PySem.W.Frag) : V → List V → Hp → VK → Prop := fun x vs H Q => ∃ l b xs zs, x = .ref l ∧ vs = [.ref b] ∧ H l = some (.lst xs) ∧ H b = some (.lst zs) ∧ xs.length + zs.length ≤ sizeLine ∧ Q .non (upd H l (.lst (xs ++ zs)))
/-! ### isinstance -/
def tyN : PyData → String
  | .none => "NoneType"
  | .bool _ => "bool"
  | .int _ => "int"
  | .str _ => "str"
  | .list _ => "list"
  | .tuple _ => "tuple"
  | .dict _ => "dict"
/-- no instance -/
def bareD : PyData → Bool
  | .dict (_ :: _) => false
  | _ => true
def isiD (T : String) (x : PyData) : Option PyData := if bareD x = true then (kitB (tyN x) T).map .bool else none
theorem tyX_of [Tbs] {B H : Hp} {v : V} {d : PyData} (s : Same B H) (h : Dq K B v d) (hb : bareD d = true) : TyX K H v (.type (tyN d)) := by
  cases h with
  | non => exact .base .non
  | bl b => exact .base (.bl b)
  | int i => exact .base (.int i)
  | str x => exact .base (.str x)
  | lst h a =>
    rcases sqL_mono s h with (h | ⟨o, h⟩) | ⟨o, its, n, h, c, _⟩
    · exact .base (.lst h)
    · exact .base (.frz h)
    · exact .kList h c
  | tup h a =>
    rcases sqT_mono s h with (h | ⟨o, h⟩) | ⟨o, its, n, h, c, _⟩
    · exact .base (.tup h)
    · exact .fTuple h
    · exact .kTuple h c
  | emp h => exact .base (.dK (s _ _ h))
  | ins h a => cases hb
def f1 (g : PyData → Option PyData) (f : Rho → Option PyData) : Rho → Option PyData := fun ρ => (f ρ).bind g
theorem pd_isi [Tbs] {T : String} {e2 : Expr} {p : Pos} (hg : Gl X "isinstance") (hm : X.mg "isinstance" = none) (he : PD X e f) (h2 : PE X e2 (tC (.ty T)))
    (h0 : starEach [e2] X.env = (false, eval e2 X.env) :: starEach [] X.env := by rfl) (hs : starEach [e, e2] X.env = (false, eval e X.env) :: starEach [e2] X.env := by rfl) (hpl : (backTo pos (starEach [e2] X.env)).any (·.1) = false := by rfl)
    (hv : bootBuiltins "isinstance" = some (.builtin "isinstance") := by decide +kernel) : PD X (.Call (.Name "isinstance" p) [e, e2] [] pos) (f1 (isiD T) f) :=
  pe_imp (pe_callB call_isi hg hm hv (pa_cons he (pa_cons h2 pa_nil h0) hs) (by decide) (by decide) hs hpl) fun σ H Q ⟨H0, B, ρ, d, s, hf, q⟩ => by
  obtain ⟨x, hx, hf⟩ := bind_some hf
  unfold isiD at hf
  split at hf
  case isFalse => cases hf
  rename_i hbr
  obtain ⟨r, er, rfl⟩ := Option.map_eq_some_iff.mp hf
  exact ⟨H0, B, ρ, x, s, hx, fun v B1 H1 t1 d1 => ⟨v, .ty T, _, _, r, rfl, .ty T, tyX_of t1.t d1 hbr, kit_ty er, q _ B1 H1 t1 (.bl r)⟩⟩
/-! ### in -/
def flatD : PyData → Bool
  | .str _ | .int _ | .bool _ | .none => true
  | _ => false
theorem flatV_of [Tbs] {B : Hp} {v : V} {d : PyData} (h : Dq K B v d) (f : flatD d = true) : flatV v = true := by cases h <;> first | rfl | cases f
theorem eqV_of [Tbs] {B : Hp} {v w : V} {d e : PyData} (h : Dq K B v d) (f : flatD d = true) (h' : Dq K B w e) (f' : flatD e = true) : eqV v w = PyData.eqv d e := by
  cases h <;> cases h' <;> first | (simp only [eqV, PyData.eqv]; done) | cases f | cases f'
theorem inV_of [Tbs] {B : Hp} {v : V} {d : PyData} (h : Dq K B v d) (f : flatD d = true) {vs : List V} : ∀ {ds : List PyData}, DqAll K B vs ds → ds.all flatD = true → (inV v vs = ds.any fun z => PyData.eqv z d) ∧ vs.all flatV = true := by
  induction vs with
  | nil => intro ds h2 _; cases h2; exact ⟨rfl, rfl⟩
  | cons w vs ih =>
    intro ds h2 h3
    cases h2 with
    | cons a b =>
      rw [List.all_cons, Bool.and_eq_true] at h3
      obtain ⟨e1, e2⟩ := ih b h3.2
      refine ⟨?_, by rw [List.all_cons, flatV_of a h3.1, e2]; rfl⟩
      unfold inV at e1 ⊢
      rw [List.any_cons, List.any_cons, e1, eqV_of a h3.1 h f]
def inD : PyData → PyData → Option Bool
  | x, .tuple ys => if (flatD x && ys.all flatD) = true then some (ys.any fun z => PyData.eqv z x) else none
  | x, .list ys => if (SeqAt.shaped x && SeqAt.shaped (.list ys)) = true then some (ys.any fun z => PyData.eqv z x) else none
  | .str i, .str j => some (!(Builtin.Str.occurrences j i 0 j.length 1).isEmpty)
  | _, _ => none
def inP (x y : PyData) : Option PyData := (inD x y).map .bool
def niP (x y : PyData) : Option PyData := (inD x y).map fun b => .bool (!b)
def rInA (K : PySem.W.Frag) : R2 := fun x y H Q => rIn K false x y H Q ∨ rInD K x y H Q ∨ (∃ i j, x = .str i ∧ y = .str j ∧ Q (.bl (!(Builtin.Str.occurrences j i 0 j.length 1).isEmpty)) H)
def rNiA (K : PySem.W.Frag) : R2 := fun x y H Q => rIn K true x y H Q ∨ rNotInD K x y H Q ∨ (∃ i j, x = .str i ∧ y = .str j ∧ Q (.bl (!(!(Builtin.Str.occurrences j i 0 j.length 1).isEmpty))) H)
theorem op_inA (hu : X.A.units + 65 < cLine) : OpR X (compareOp .In) (rInA X.K) := op_in_seq.or ((op_inD hu).or op_in_str)
theorem op_niA (hu : X.A.units + 65 < cLine) : OpR X (compareOp .NotIn) (rNiA X.K) := op_notIn_seq.or ((op_notInD hu).or op_notin_str)
theorem inA_of [Tbs] {B H : Hp} {x y : V} {dx dy : PyData} {r : Bool} (s : Same B H) (hx : Dq K B x dx) (hy : Dq K B y dy) (h : inD dx dy = some r) :
    (∀ Q : VK, Q (.bl r) H → rInA K x y H Q) ∧ (∀ Q : VK, Q (.bl (!r)) H → rNiA K x y H Q) := by
  unfold inD at h
  split at h
  · obtain ⟨hs, rfl⟩ := ite_some h
    rw [Bool.and_eq_true] at hs
    cases hy with
    | tup hq a =>
      obtain ⟨e1, e2⟩ := inV_of hx hs.1 a hs.2
      refine ⟨fun Q q => .inl ⟨_, _, rfl, .inr (sqT_mono s hq), flatV_of hx hs.1, e2, ?_⟩, fun Q q => .inl ⟨_, _, rfl, .inr (sqT_mono s hq), flatV_of hx hs.1, e2, ?_⟩⟩
      · rw [if_neg Bool.false_ne_true, e1]; exact q
      · rw [if_pos rfl, e1]; exact q
  · obtain ⟨hs, rfl⟩ := ite_some h
    rw [Bool.and_eq_true] at hs
    exact ⟨fun Q q => .inr (.inl ⟨_, _, dq_sh (dp_mono s hx) hs.1, dq_sh (dp_mono s hy) hs.2, hs.1, hs.2, q⟩), fun Q q => .inr (.inl ⟨_, _, dq_sh (dp_mono s hx) hs.1, dq_sh (dp_mono s hy) hs.2, hs.1, hs.2, q⟩)⟩
  · cases hx; cases hy; cases h
    exact ⟨fun Q q => .inr (.inr ⟨_, _, rfl, rfl, q⟩), fun Q q => .inr (.inr ⟨_, _, rfl, rfl, q⟩)⟩
  · cases h
theorem rd_in [Tbs] : RD K (rInA K) inP := fun B H x y dx dy d Q s hx hy hg q => by
  unfold inP at hg
  obtain ⟨r, e, rfl⟩ := Option.map_eq_some_iff.mp hg
  exact (inA_of s hx hy e).1 Q (q _ B H (Tr.refl s) (.bl r))
theorem rd_ni [Tbs] : RD K (rNiA K) niP := fun B H x y dx dy d Q s hx hy hg q => by
  unfold niP at hg
  obtain ⟨r, e, rfl⟩ := Option.map_eq_some_iff.mp hg
  exact (inA_of s hx hy e).2 Q (q _ B H (Tr.refl s) (.bl _))
/-- e in x, x a slot that may still grow -/
def fOwn (i : Nat) : Rho → Option PyData := fun ρ => match ρ[i]? with
  | some (some (.d x)) => some x
  | some (some (.own _ xs)) => some (.list xs)
  | _ => none
/-- what is asked of a slot's list, whether it may still grow or not: the answer hangs on no address -/
theorem own_read [Tbs] {H0 B H : Hp} {ρ : Rho} {σ : L2.St} {i : Nat} {d : PyData} (s : Sl K H0 B ρ σ H) (h : fOwn i ρ = some d) : ∃ v, σ[i]? = some (some v) ∧ Dq K H v d := by
  unfold fOwn at h
  split at h
  · rename_i x e
    cases h
    obtain ⟨v, h1, h2⟩ := s.dv e
    exact ⟨v, h1, dp_mono s.bh h2⟩
  · rename_i o xs e
    cases h
    obtain ⟨p, vs, h1, h2, h3, h4, h5, _⟩ := s.ow e
    exact ⟨.ref p, h1, .lst (SqL.of h4) (dpAll_mono s.bh h5)⟩
  · cases h
/-- flat answers -/
theorem flat_dp [Tbs] {B H : Hp} {v : V} {d : PyData} (h : Dq K H v d) (f : flatD d = true) : Dq K B v d := by
  cases h <;> first | exact .non | exact .bl _ | exact .int _ | exact .str _ | cases f
def fO2 (g : PyData → PyData → Option PyData) (fa fb : Rho → Option PyData) : Rho → Option PyData := fun ρ => (fa ρ).bind fun x => (fb ρ).bind fun y => (g x y).bind fun z => if flatD z = true then some z else none
theorem two_own [Tbs] {r : R2} {g : PyData → PyData → Option PyData} {fa : Rho → Option PyData} {i : Nat} (hr : RD K r g) : ∀ σ H Q, tD K (fO2 g fa (fOwn i)) σ H Q → tOp r (tD K fa) (tVar i) σ H Q := fun σ H Q ⟨H0, B, ρ, d, s, hf, q⟩ => by
  obtain ⟨x, hx, hf⟩ := bind_some hf
  obtain ⟨y, hy, hf⟩ := bind_some hf
  obtain ⟨z, hz, hf⟩ := bind_some hf
  obtain ⟨hfl, rfl⟩ := ite_some hf
  refine ⟨H0, B, ρ, x, s, hx, fun v B1 H1 t1 d1 => ?_⟩
  obtain ⟨w, e1, e2⟩ := own_read (s.tr t1) hy
  refine ⟨w, e1, hr H1 H1 v w x y z Q (Same.refl _) (dp_mono t1.t d1) e2 hz fun u B2 H2 t2 d2 => q u B1 H2 (t1.trans ⟨Same.refl _, t1.t.trans (t2.b.trans t2.t), t2.h, id, fun c o e1 e2 => by rw [e2] at e1; cases e1⟩) (flat_dp d2 hfl)⟩
theorem pd_cmpO [Tbs] {op : CmpOp} {r : R2} {g : PyData → PyData → Option PyData} {fa : Rho → Option PyData} {i : Nat} (ho : OpR X (compareOp op) r) (hr : RD X.K r g) (ha : PD X a fa) (hb : PE X b (tVar i)) (hm : behindInMarks op b = false) : PD X (.Compare a [op] [b] pos) (fO2 g fa (fOwn i)) := pe_imp (pe_cmpR ho ha hb hm) (two_own hr)
theorem pdt_cmpO [Tbs] {op : CmpOp} {r : R2} {g : PyData → PyData → Option PyData} {fa : Rho → Option PyData} {i : Nat} (ho : OpR X (compareOp op) r) (hr : RD X.K r g) (ha : PD X a fa) (hb : PE X b (tVar i)) (hm : behindInMarks op b = false) : PDT X (.Compare a [op] [b] pos) (fB (fO2 g fa (fOwn i))) := pt_imp (pt_cmpR ho ha hb hm) (of_test (two_own hr))
/-! ### xs[::-1] -/
def revD : PyData → Option PyData
  | .list xs => some (.list xs.reverse)
  | _ => none
theorem pd_rev [Tbs] {k : Nat} {p1 p2 p3 : Pos} (he : PD X e f) : PD X (.Subscript e (.Slice none none (some (.UnaryOp .USub (.Constant (.int 1) k p1) p2)) p3) pos) (f1 revD f) := pe_imp (pe_revL he) fun σ H Q ⟨H0, B, ρ, d, s, hf, q⟩ => by
  obtain ⟨x, hx, hf⟩ := bind_some hf
  refine ⟨H0, B, ρ, x, s, hx, fun v B1 H1 t1 d1 => ?_⟩
  unfold revD at hf
  split at hf
  · cases hf
    cases d1 with
    | lst h a => exact ⟨_, _, rfl, sqL_mono t1.t h, fun p hp => newL t1.t (dpAll_rev a) (fun v B' H' t dd => q v B' H' (t1.trans t) dd) hp⟩
  · cases hf
/-! ### -n -/
def negD : PyData → Option PyData
  | .int i => some (.int (-i))
  | _ => none
theorem pd_neg [Tbs] (he : PD X e f) : PD X (.UnaryOp .USub e pos) (f1 negD f) := pe_imp (pe_un un_neg he) fun σ H Q ⟨H0, B, ρ, d, s, hf, q⟩ => by
  obtain ⟨x, hx, hf⟩ := bind_some hf
  refine ⟨H0, B, ρ, x, s, hx, fun v B1 H1 t1 d1 => ?_⟩
  unfold negD at hf
  split at hf
  · cases hf; cases d1; exact ⟨_, rfl, q _ B1 H1 t1 (.int _)⟩
  · cases hf

/-! ### what a def is worth -/
/-- the promise: data in, data out, nothing that stood is changed -/
def spD [Tbs] (K : PySem.W.Frag) (n : Nat) (F : List PyData → Option PyData) : Sp := fun vs H Q _ => ∃ B ds d, Bs B H ∧ DqAll K B vs ds ∧ ds.length = n ∧ F ds = some d ∧ ∀ v B' H', Tr B H B' H' → Dq K B' v d → Q v H'
def startR (n : Nat) (ds : List PyData) : Rho := ds.map (fun d => some (.d d)) ++ List.replicate (n - ds.length) none
def retD : Option Out → Option PyData
  | some (.rt d _) => some d
  | some (.nx _) => some .none
  | _ => none
def fnD (n : Nat) (g : Rho → Option Out) : List PyData → Option PyData := fun ds => retD (g (startR n ds))
theorem sl_start [Tbs] {B H : Hp} {vs : List V} {ds : List PyData} {N : List Str} (s : Bs B H) (h : DqAll K B vs ds) : Sl K H B (startR N.length ds) (L2.start N vs) H := by
  have hl := dpAll_len h
  refine ⟨s.s, s.nt, s.tb, by simp [startR, L2.start, hl], fun {i x} e => ?_, fun {i o xs} e => ?_, fun {i j o o' xs ys c} e _ _ _ => ?_, fun i a n fs e => ?_⟩
  · unfold startR at e
    by_cases hi : i < ds.length
    · rw [List.getElem?_append_left (by simpa using hi), List.getElem?_map] at e
      obtain ⟨d, hd, e⟩ := Option.map_eq_some_iff.mp e
      cases e
      obtain ⟨v, hv, hdv⟩ := dpAll_get h hd
      refine ⟨v, ?_, hdv⟩
      unfold L2.start
      rw [List.getElem?_append_left (by simpa [hl] using hi), List.getElem?_map, hv]
      rfl
    · rw [List.getElem?_append_right (by simpa using hi), List.getElem?_replicate] at e
      split at e <;> cases e
  all_goals
    unfold startR at e
    by_cases hi : i < ds.length
    · rw [List.getElem?_append_left (by simpa using hi), List.getElem?_map] at e
      obtain ⟨d, hd, e⟩ := Option.map_eq_some_iff.mp e
      cases e
    · rw [List.getElem?_append_right (by simpa using hi), List.getElem?_replicate] at e
      split at e <;> cases e
end
section
variable {P : Program} {w : World} {K : PySem.W.Frag} {mg : Str → Option Value} {base : Heap}
/-- THE RULE for a def over data -/
theorem fn_ok [Tbs] {x qual : Str} {st : Stmt} {f : Addr} {fd : FuncData} {N ps : List Str} {k : Nat} {g : Rho → Option Out} (F : Fun K x qual st f fd) (S : FnScope N ps (defScope st))
    (hb : ∀ (cdv : Value) (A : Around) (outer : List Env) (s : Shared) (H : Hp) (E : XK), Room k (A.deeper (envOfC qual (defScope st) s.heap.objs.size f cdv)) → PSDs (cxOf CX0 P w K mg base N qual (defScope st) f cdv A outer s H E).nox (defBody st) g) :
    FnOk P w K mg base CX0 (k + 1) f fd ps (spD K ps.length (fnD N.length g)) := by
  refine F.ok S (fun vs H Q E ⟨B, ds, d, h1, h2, h3, _⟩ => by rw [dpAll_len h2, h3]) (fun cdv A outer s H vs Q E hr ⟨B, ds, d, h1, h2, h3, h4, q⟩ => ?_)
  refine ⟨_, hb cdv A outer s H E hr, B, H, startR N.length ds, ?_⟩
  unfold fnD retD at h4
  split at h4
  · rename_i o ρ' e
    cases h4
    exact ⟨_, ⟨B, Tr.refl h1.s, sl_start h1 h2⟩, e, fun v σ' B' H' t _ dd => q v B' H' t dd⟩
  · rename_i o ρ e
    cases h4
    exact ⟨_, ⟨B, Tr.refl h1.s, sl_start h1 h2⟩, e, fun σ' H' ⟨B', t, _⟩ => q .non B' H' t .non⟩
  · cases h4
theorem no_fn [Tbs] {n k : Nat} {f : Addr} {fd : FuncData} {ps : List Str} : FnOk P w K mg base CX0 k f fd ps (spD K n fun _ => none) := by
  have no : ∀ vs H Q E, ¬ spD K n (fun _ => none) vs H Q E := fun vs H Q E ⟨B, ds, d, h1, h2, h3, h4, _⟩ => nomatch h4
  exact ⟨fun vs H Q E h => absurd h (no vs H Q E), fun A outer s H args us vs Q E _ _ _ _ h => absurd h (no vs H Q E)⟩
end
section
variable {X : Cx} {k n : Nat} {f : Addr} {fd : FuncData} {ps : List Str} {x : Str} {p pos : Pos} {e : Expr} {es : List Expr} {fs : Rho → Option (List PyData)} {F : List PyData → Option PyData}
def fCa (n : Nat) (F : List PyData → Option PyData) (fs : Rho → Option (List PyData)) : Rho → Option PyData := fun ρ => (fs ρ).bind fun ds => if ds.length = n then F ds else none
theorem pd_call [Tbs] (G : FnOk X.prog X.w X.K X.mg X.base CX0 k f fd ps (spD X.K n F)) (hr : Room k X.A) (hm : X.mg x = some (.ref f)) (hk : PySem.W.keepIn X.K (.ref f) = true) (hb : Binds X.K fd ps []) (ha : PDA X (e :: es) fs) (hg : Gl X x := by rfl) (hdb : (x == ("__debug__" : Str)) = false := by decide) (he : starEach (e :: es) X.env = (false, eval e X.env) :: starEach es X.env := by rfl) (hpl : (backTo pos (starEach es X.env)).any (·.1) = false := by rfl) : PD X (.Call (.Name x p) (e :: es) [] pos) (fCa n F fs):= pe_imp (pe_call (E := E0) G hr hg hm hk hb .nil pass0 ha hdb he hpl) fun σ H Q ⟨H0, B, ρ, d, s, hf, q⟩ => by
  obtain ⟨ds, hds, hf⟩ := bind_some hf
  split at hf
  · rename_i hl
    refine ⟨H0, B, ρ, ds, s, hds, fun vs B1 H1 t1 d1 => ?_⟩
    show spD X.K n F (vs ++ []) H1 Q E0
    rw [List.append_nil]
    exact ⟨B1, ds, d, (s.tr t1).bs, d1, hl, hf, fun v B' H' t dd => q v B' H' (t1.trans t) dd⟩
  · cases hf
end
end Dn

namespace Dn
open PySem L2 PySem.Spec PyProof.Rows
/-- a def that is known by what it is worth: k its level, n how many arguments -/
structure Kn [Tbs] (P : Program) (w : World) (K : PySem.W.Frag) (mg : Str → Option Value) (base : Heap) (k n : Nat) (x : Str) (F : List PyData → Option PyData) : Prop where
  ex : ∃ f fd ps, FnOk P w K mg base CX0 k f fd ps (spD K n F) ∧ mg x = some (.ref f) ∧ PySem.W.keepIn K (.ref f) = true ∧ L2.Binds K fd ps []
/-- a def as it stands behind the top -/
structure Df (K : PySem.W.Frag) (mg : Str → Option Value) (x : Str) (st : Stmt) (ps : List Str) : Prop where
  ex : ∃ f fd, Fun K x x st f fd ∧ mg x = some (.ref f) ∧ L2.Binds K fd ps []
section
variable {P : Program} {w : World} {K : PySem.W.Frag} {mg : Str → Option Value} {base : Heap} {x : Str} {st : Stmt}
theorem Kn.mono [Tbs] {j k n : Nat} {F : List PyData → Option PyData} (h : Kn P w K mg base j n x F) (l : j ≤ k) : Kn P w K mg base k n x F := by
  obtain ⟨f, fd, ps, a, b⟩ := h.ex
  exact ⟨f, fd, ps, a.mono l, b⟩
theorem Kn.none [Tbs] (D : Df K mg x st ps) {k n : Nat} : Kn P w K mg base k n x fun _ => .none := by
  obtain ⟨f, fd, F, m, b⟩ := D.ex
  exact ⟨f, fd, ps, no_fn, m, F.kp, b⟩
theorem kn_of [Tbs] {N ps : List Str} {k : Nat} {g : Rho → Option Out} (D : Df K mg x st ps) (S : FnScope N ps (defScope st))
    (hb : ∀ (f : Addr) (cdv : Value) (A : Around) (outer : List Env) (s : Shared) (H : Hp) (E : XK), Room k (A.deeper (envOfC x (defScope st) s.heap.objs.size f cdv)) → PSDs (cxOf CX0 P w K mg base N x (defScope st) f cdv A outer s H E).nox (defBody st) g) :
    Kn P w K mg base (k + 1) ps.length x (fnD N.length g) := by
  obtain ⟨f, fd, F, m, b⟩ := D.ex
  exact ⟨f, fd, ps, fn_ok F S (hb f), m, F.kp, b⟩
theorem df_mk {h : Heap} (X : K.In h) (G : h.Ns mainGlobals mg) {ps : List Str} {f : Addr} {oc : Value} {od an : Option Addr} {osl : Array (Option Value)} {kV doc pm cdv ct : Value}
    (a : PySem.W.nsIn K mainGlobals x = some (some (.ref f))) (l : K.lookup f = some ⟨oc, od, .func (PySem.W.fnOf x x (defArgs st) (defBody st) (defScope st) .none kV doc pm an cdv ct), osl⟩)
    (c : PySem.W.codeIn K cdv x = true) (k : PySem.W.keepIn K (.ref f) = true)
    (hb : ∀ (kV doc pm : Value) (an : Option Addr) (cdv ct : Value) (us : List Value), us.length = ps.length → bindArgs (PySem.W.fnOf x x (defArgs st) (defBody st) (defScope st) .none kV doc pm an cdv ct) ⟨us, []⟩ = pure (ps.zip us)) : Df K mg x st ps := by
  have F := fun_mk (st := st) l c k
  exact ⟨f, _, F, PySem.W.mg_of X G a, F.binds hb⟩
end
section
variable {X : Cx} {k n : Nat} {x : Str} {p pos : Pos} {e : Expr} {es : List Expr} {fs : Rho → Option (List PyData)} {F : List PyData → Option PyData}
theorem pd_kn [Tbs] (h : Kn X.prog X.w X.K X.mg X.base k n x F) (hr : Room k X.A) (ha : PDA X (e :: es) fs) (hg : Gl X x := by rfl) (hdb : (x == ("__debug__" : Str)) = false := by decide) (he : starEach (e :: es) X.env = (false, eval e X.env) :: starEach es X.env := by rfl) (hpl : (backTo pos (starEach es X.env)).any (·.1) = false := by rfl) : PD X (.Call (.Name x p) (e :: es) [] pos) (fCa n F fs):= by
  obtain ⟨f, fd, ps, a, b, c, d⟩ := h.ex
  exact pd_call a hr b c d ha hg hdb he hpl
theorem units65 {A : Around} (r : Room k A) : A.units + 65 < cLine := by have := r.un; omega
theorem psd_retN [Tbs] : PSD X (.Return none pos) (gRet (fC .none)) := ps_imp ps_retN fun D σ H ⟨B0, H0, ρ, o, ⟨B, t, s⟩, hf, q⟩ => by
  cases hf
  exact q .non σ B H t s .non
theorem psd_setLc [Tbs] {vs : List Nat} {i : Nat} {y : Str} {py : Pos} {elt tg iter : Expr} {ifs : List Expr} {scope : Scope} {own : List (Str × Nat)} {spos : Pos} {fi : Rho → Option (List PyData)} {g : TG} {bd : PyData → Rho → Option Rho} {is : List Nat} {t : Rho → Option Bool} {f : Rho → Option PyData}
    (hgd : GD X.K g bd is) (hv : ∀ i ∈ is, i ∈ vs) (hc : X.calm = true) (hN : X.N.Nodup) (hy : X.N[i]? = some y) (hyl : X.env.scope.names.lookup y = some .local)
    (hsw : swapsWith (.ListComp elt [⟨tg, iter, ifs, 0⟩] scope pos) (some (.Name y py)) spos.line X.env = pure true) (hi : PDI X tg iter fi) (ok : BlkOk X.N X.env.scope scope own)
    (hg : ∀ (s : Shared) (H : Hp) (C : Addr) (cl : List (Str × Addr)) (fp : List Addr), PG (X.blk s H scope (compEnvC scope cl C X.env) fp) tg g) (ht : ∀ (s : Shared) (H : Hp) (C : Addr) (cl : List (Str × Addr)) (fp : List Addr), PDTs (X.blk s H scope (compEnvC scope cl C X.env) fp) ifs t)
    (he : ∀ (s : Shared) (H : Hp) (C : Addr) (cl : List (Str × Addr)) (fp : List Addr), PD (X.blk s H scope (compEnvC scope cl C X.env) fp) elt f) (hw : own.map (·.2) = vs := by rfl) (hs : ∀ x, foldedSetIterable iter X.env x = pure x := by intro _; rfl) :
    PSD X (.Assign [.Name y py] (.ListComp elt [⟨tg, iter, ifs, 0⟩] scope pos) spos) (gSet i (fLc fi bd t f vs)) := by
  subst hw
  exact psd_asg (ps_imp (ps_setLc hc hN hy hyl hsw hi ok hg ht he hs) fun D σ H h => lc_imp hgd hv σ H _ h)
/-- reading a list that may still grow: its length, an item of it -/
theorem rc_own [Tbs] {r : List V → Hp → VK → Prop} {g : PyData → Option PyData} {i : Nat} (hr : RC X.K r (one1 g)) : ∀ σ H Q, tD X.K (fun ρ => (fOwn i ρ).bind fun x => (g x).bind fun z => if flatD z = true then some z else none) σ H Q → tCB r (tCons (tVar i) tNil) σ H Q := fun σ H Q ⟨H0, B, ρ, d, s, hf, q⟩ => by
  obtain ⟨x, hx, hf⟩ := bind_some hf
  obtain ⟨z, hz, hf⟩ := bind_some hf
  obtain ⟨hfl, rfl⟩ := ite_some hf
  obtain ⟨w, e1, e2⟩ := own_read s hx
  refine ⟨w, e1, hr H H [w] [x] z Q (Same.refl _) (.cons e2 .nil) hz fun u B2 H2 t2 d2 => q u B H2 ⟨Same.refl _, s.bh.trans (t2.b.trans t2.t), t2.h, id, fun c o e1 e2 => by rw [e2] at e1; cases e1⟩ (flat_dp d2 hfl)⟩
end
end Dn

namespace Dn
open PySem L2 PySem.Spec PyProof.Rows
/-! ### lists that change: an item stored, an item read -/
section
variable {K : PySem.W.Frag} {H0 B H : Hp} {ρ : Rho} {σ : L2.St}
theorem dpAll_set [Tbs] {vs : List V} {ds : List PyData} (h : DqAll K H vs ds) {v : V} {d : PyData} (hv : Dq K H v d) : ∀ j : Nat, DqAll K H (vs.set j v) (ds.set j d) := by
  induction vs generalizing ds with
  | nil => intro j; cases h; exact .nil
  | cons w vs ih =>
    intro j
    cases h with
    | cons a b =>
      cases j with
      | zero => exact .cons hv b
      | succ j => exact .cons a (ih b j)
variable {X : Cx} {st : Stmt} {e a b : Expr} {es : List Expr} {pos : Pos} {f g : Rho → Option PyData}
/-- x[e] = y, x knows its list alone -/
def gSeti (i : Nat) (f g : Rho → Option PyData) : Rho → Option Out := fun ρ => match ρ[i]? with
  | some (some (.own o xs)) => (f ρ).bind fun y => (g ρ).bind fun k => match k with
    | .int n => (ixN xs.length n).map fun j => .nx (ρ.set i (some (.own o (xs.set j y))))
    | _ => none
  | _ => none
theorem psd_seti [Tbs] {i : Nat} (h : PS X st (tAsg (tD X.K f) (gSub (tVar i) (tD X.K g) rSetL))) : PSD X st (gSeti i f g) := ps_imp h fun D σ H ⟨B0, H0, ρ, o, ⟨B, t, s⟩, hf, q⟩ => by
  unfold gSeti at hf
  split at hf
  · rename_i ow xs hx
    obtain ⟨y, hy, hf⟩ := bind_some hf
    obtain ⟨k, hk, hf⟩ := bind_some hf
    split at hf
    · rename_i n
      obtain ⟨j, hj, rfl⟩ := Option.map_eq_some_iff.mp hf
      refine ⟨H0, B, ρ, y, s, hy, fun v B1 H1 t1 d1 => ?_⟩
      have s1 := s.tr t1
      obtain ⟨p, vs, h1, h2, h3, h4, h5, h6⟩ := s1.ow hx
      refine ⟨.ref p, h1, H0, B1, ρ, _, s1, hk, fun w B2 H2 t2 d2 => ?_⟩
      cases d2
      have s2 := s1.tr t2
      have hb := t2.stay h2 h4
      refine ⟨p, vs, n, j, rfl, rfl, t2.h.l h4, by rw [dpAll_len h5]; exact hj, ?_⟩
      exact q _ _ ⟨B2, ((t.trans t1).trans t2).put hb h3, sl_grow s2 hx h1 hb h3 (dpAll_set (dpAll_mono t2.b h5) (dp_mono t2.b d1) j) h6⟩
    · cases hf
  · cases hf
/-- x[e], x a list that may still change, the item flat -/
def fIxO (i : Nat) (g : Rho → Option PyData) : Rho → Option PyData := fun ρ => (fOwn i ρ).bind fun x => (g ρ).bind fun y => (ixD x y).bind fun z => if flatD z = true then some z else none
theorem pd_ixO [Tbs] {i : Nat} (ha : PE X a (tVar i)) (hb : PD X b g) (hs : PlainIx b) : PD X (.Subscript a b pos) (fIxO i g) := pe_imp (pe_ix ix_seq ha hb hs) fun σ H Q ⟨H0, B, ρ, d, s, hf, q⟩ => by
  obtain ⟨x, hx, hf⟩ := bind_some hf
  obtain ⟨y, hy, hf⟩ := bind_some hf
  obtain ⟨z, hz, hf⟩ := bind_some hf
  obtain ⟨hfl, rfl⟩ := ite_some hf
  obtain ⟨w, e1, e2⟩ := own_read s hx
  refine ⟨w, e1, H0, B, ρ, y, s, hy, fun v B1 H1 t1 d1 => ?_⟩
  exact rd_ix H1 H1 w v x y z Q (Same.refl _) (dp_gw t1.h e2) (dp_mono t1.t d1) hz fun u B2 H2 t2 d2 => q u B1 H2 (t1.trans ⟨Same.refl _, t1.t.trans (t2.b.trans t2.t), t2.h, id, fun c o e1 e2 => by rw [e2] at e1; cases e1⟩) (flat_dp d2 hfl)

/-! ### expressions that change a slot's list -/
structure TrX (H0 B H B' H' : Hp) : Prop where
  b : Same B B'
  t : Same B' H'
  n : NT B → NT B'
  h : Gw H0 H → Gw H0 H' ∧ ∀ a o, B' a = some o → B a = none → H0 a = none
theorem TrX.of {H0 B H B' H' : Hp} (t : Tr B H B' H') : TrX H0 B H B' H' := ⟨t.b, t.t, t.n, fun s => ⟨s.trans t.h, fun a o x y => s.free (t.f a o x y)⟩⟩
theorem TrX.trans {H0 B H B1 H1 B2 H2 : Hp} (p : TrX H0 B H B1 H1) (q : TrX H0 B1 H1 B2 H2) : TrX H0 B H B2 H2 := ⟨p.b.trans q.b, q.t, fun z => q.n (p.n z), fun s => by
  obtain ⟨p1, p2⟩ := p.h s
  obtain ⟨q1, q2⟩ := q.h p1
  refine ⟨q1, fun a o x y => ?_⟩
  cases e : B1 a with
  | none => exact q2 a o x e
  | some u => exact p2 a u e y⟩
theorem Tr.cell {B0 H0 B H B' H' : Hp} (t : Tr B0 H0 B H) (x : TrX H0 B H B' H') : Tr B0 H0 B' H' := by
  obtain ⟨p1, p2⟩ := x.h t.h
  refine ⟨t.b.trans x.b, x.t, p1, fun z => x.n (t.n z), fun a o u y => ?_⟩
  cases e : B a with
  | none => exact p2 a o u e
  | some w => exact t.f a w e y
def tDE [Tbs] (K : PySem.W.Frag) (f : Rho → Option (PyData × Rho)) : TE := fun σ H Q => ∃ H0 B ρ d ρ', Sl K H0 B ρ σ H ∧ f ρ = some (d, ρ') ∧ ∀ v B' H', TrX H0 B H B' H' → Sl K H0 B' ρ' σ H' → Dq K B' v d → Q v H'
def tDAE [Tbs] (K : PySem.W.Frag) (f : Rho → Option (List PyData × Rho)) : TA := fun σ H Q => ∃ H0 B ρ d ρ', Sl K H0 B ρ σ H ∧ f ρ = some (d, ρ') ∧ ∀ v B' H', TrX H0 B H B' H' → Sl K H0 B' ρ' σ H' → DqAll K B' v d → Q v H'
abbrev PDE [Tbs] (X : Cx) (e : Expr) (f : Rho → Option (PyData × Rho)) : Prop := PE X e (tDE X.K f)
abbrev PDAE [Tbs] (X : Cx) (es : List Expr) (f : Rho → Option (List PyData × Rho)) : Prop := PA X es (tDAE X.K f)
variable {fe : Rho → Option (PyData × Rho)} {fa : Rho → Option (List PyData × Rho)} {fs : Rho → Option (List PyData)}
def fE1 (fe : Rho → Option (PyData × Rho)) (fs : Rho → Option (List PyData)) : Rho → Option (List PyData × Rho) := fun ρ => (fe ρ).bind fun p => (fs p.2).bind fun xs => some (p.1 :: xs, p.2)
theorem pdae_first [Tbs] (he : PDE X e fe) (hr : PDA X es fs) (hs : starEach (e :: es) X.env = (false, eval e X.env) :: starEach es X.env := by rfl) : PDAE X (e :: es) (fE1 fe fs) := pa_imp (pa_cons he hr hs) fun σ H Q ⟨H0, B, ρ, d, ρ', s, hf, q⟩ => by
  obtain ⟨⟨x, ρ1⟩, hx, hf⟩ := bind_some hf
  obtain ⟨xs, hxs, hf⟩ := bind_some hf
  cases hf
  refine ⟨H0, B, ρ, x, ρ1, s, hx, fun v B1 H1 t1 s1 d1 => ⟨H0, B1, ρ1, xs, s1, hxs, fun vs B2 H2 t2 d2 => ?_⟩⟩
  exact q _ B2 H2 (t1.trans (TrX.of t2)) (s1.tr t2) (.cons (dp_mono t2.b d1) d2)
def fE2 (f : Rho → Option PyData) (fa : Rho → Option (List PyData × Rho)) : Rho → Option (List PyData × Rho) := fun ρ => (f ρ).bind fun x => (fa ρ).bind fun p => some (x :: p.1, p.2)
theorem pdae_cons [Tbs] (he : PD X e f) (hr : PDAE X es fa) (hs : starEach (e :: es) X.env = (false, eval e X.env) :: starEach es X.env := by rfl) : PDAE X (e :: es) (fE2 f fa) := pa_imp (pa_cons he hr hs) fun σ H Q ⟨H0, B, ρ, d, ρ', s, hf, q⟩ => by
  obtain ⟨x, hx, hf⟩ := bind_some hf
  obtain ⟨⟨xs, ρ1⟩, hxs, hf⟩ := bind_some hf
  cases hf
  refine ⟨H0, B, ρ, x, s, hx, fun v B1 H1 t1 d1 => ⟨H0, B1, ρ, xs, ρ1, s.tr t1, hxs, fun vs B2 H2 t2 s2 d2 => ?_⟩⟩
  exact q _ B2 H2 ((TrX.of t1).trans t2) s2 (.cons (dp_mono t2.b d1) d2)
def fTupE (fa : Rho → Option (List PyData × Rho)) : Rho → Option (PyData × Rho) := fun ρ => (fa ρ).bind fun p => if p.1.length ≤ bigL then some (.tuple p.1, p.2) else none
theorem pde_tup [Tbs] {x1} (h : PDAE X es fa) : PDE X (.Tuple es x1 pos) (fTupE fa) := pe_imp (pe_tup h) fun σ H Q ⟨H0, B, ρ, d, ρ', s, hf, q⟩ => by
  obtain ⟨⟨xs, ρ1⟩, hxs, hf⟩ := bind_some hf
  obtain ⟨hl, e⟩ := ite_some hf
  cases e
  refine ⟨H0, B, ρ, xs, _, s, hxs, fun vs B1 H1 t1 s1 d1 => ⟨by rw [dpAll_len d1]; exact bigL_le hl, fun p hp => ?_⟩⟩
  have t2 := Tr.new (o := .tup vs) s1.bh hp
  exact q _ _ _ (t1.trans (TrX.of t2)) (s1.tr t2) (.tup (SqT.of upd_same) (dpAll_mono t2.b d1))
/-- a call of a def over data, one of its arguments changing a list -/
def fCaE (n : Nat) (F : List PyData → Option PyData) (fa : Rho → Option (List PyData × Rho)) : Rho → Option (PyData × Rho) := fun ρ => (fa ρ).bind fun p => if p.1.length = n then (F p.1).map fun d => (d, p.2) else none
theorem pde_kn [Tbs] {n k : Nat} {x : Str} {p : Pos} {F : List PyData → Option PyData} (h : Kn X.prog X.w X.K X.mg X.base k n x F) (hr : Room k X.A) (ha : PDAE X (e :: es) fa) (hg : Gl X x := by rfl) (hdb : (x == ("__debug__" : Str)) = false := by decide)
    (he : starEach (e :: es) X.env = (false, eval e X.env) :: starEach es X.env := by rfl) (hpl : (backTo pos (starEach es X.env)).any (·.1) = false := by rfl) : PDE X (.Call (.Name x p) (e :: es) [] pos) (fCaE n F fa) := by
  obtain ⟨f, fd, ps, G, hm, hk, hb⟩ := h.ex
  refine pe_imp (pe_call (E := E0) G hr hg hm hk hb .nil pass0 ha hdb he hpl) fun σ H Q ⟨H0, B, ρ, d, ρ', s, hf, q⟩ => ?_
  obtain ⟨⟨ds, ρ1⟩, hds, hf⟩ := bind_some hf
  split at hf
  · rename_i hl
    obtain ⟨r, hF, e⟩ := Option.map_eq_some_iff.mp hf
    cases e
    refine ⟨H0, B, ρ, ds, _, s, hds, fun vs B1 H1 t1 s1 d1 => ?_⟩
    show spD X.K n F (vs ++ []) H1 Q E0
    rw [List.append_nil]
    exact ⟨B1, ds, _, s1.bs, d1, hl, hF, fun v B' H' t dd => q v B' H' (t1.trans (TrX.of t)) (s1.tr t) dd⟩
  · cases hf
def gSetE (i : Nat) (fe : Rho → Option (PyData × Rho)) : Rho → Option Out := fun ρ => (fe ρ).map fun p => .nx (p.2.set i (some (.d p.1)))
theorem psd_asgE [Tbs] {i : Nat} (h : PS X st (tAsg (tDE X.K fe) (gName i))) : PSD X st (gSetE i fe) := ps_imp h fun D σ H ⟨B0, H0, ρ, o, ⟨B, t, s⟩, hf, q⟩ => by
  obtain ⟨⟨d, ρ1⟩, hd, rfl⟩ := Option.map_eq_some_iff.mp hf
  exact ⟨H0, B, ρ, d, ρ1, s, hd, fun v B1 H1 t1 s1 d1 => q _ _ ⟨B1, t.cell t1, sl_setD s1 d1⟩⟩
def gRetE (fe : Rho → Option (PyData × Rho)) : Rho → Option Out := fun ρ => (fe ρ).map fun p => .rt p.1 p.2
theorem psd_retE [Tbs] (he : PDE X e fe) : PSD X (.Return (some e) pos) (gRetE fe) := ps_imp (ps_ret he) fun D σ H ⟨B0, H0, ρ, o, ⟨B, t, s⟩, hf, q⟩ => by
  obtain ⟨⟨d, ρ1⟩, hd, rfl⟩ := Option.map_eq_some_iff.mp hf
  exact ⟨H0, B, ρ, d, ρ1, s, hd, fun v B1 H1 t1 s1 d1 => q v σ B1 H1 (t.cell t1) s1 d1⟩

/-! ### a def that changes the list that is its second argument -/
def rm (H : Hp) (a : Addr) : Hp := fun b => if b = a then none else H b
theorem rm_ne {H : Hp} {a b : Addr} (h : b ≠ a) : rm H a b = H b := by unfold rm; rw [if_neg h]
theorem rm_same {H : Hp} {a : Addr} : rm H a a = none := by unfold rm; rw [if_pos rfl]
theorem rm_le {H : Hp} {a : Addr} : Same (rm H a) H := fun b o e => by
  by_cases z : b = a
  · subst z; rw [rm_same] at e; cases e
  · rw [rm_ne z] at e; exact e
theorem same_rm {B H : Hp} {a : Addr} (s : Same B H) (h : B a = none) : Same B (rm H a) := fun b o e => by
  rw [rm_ne (ne_of_none e h)]
  exact s b o e
theorem Gw.rm {H0 H : Hp} {a : Addr} (s : Gw H0 H) (h0 : H0 a = none) : Gw H0 (rm H a) := ⟨fun c o e n => by rw [rm_ne (ne_of_none e h0)]; exact s.k c o e n, fun c ps e => by
  obtain ⟨m, e1, t⟩ := s.g c ps e
  exact ⟨m, by rw [rm_ne (ne_of_none e h0)]; exact e1, t⟩⟩
def spC [Tbs] (K : PySem.W.Frag) (n : Nat) (F : List PyData → List PyData → Option (PyData × List PyData)) : Sp := fun vs H Q _ => ∃ (B : Hp) (v0 : V) (a : Addr) (rest : List V) (ds xs : List PyData) (us : List V) (d : PyData) (xs' : List PyData),
  vs = v0 :: .ref a :: rest ∧ Bs B H ∧ B a = none ∧ H a = some (.lst us) ∧ DqAll K B us xs ∧ DqAll K B (v0 :: rest) ds ∧ ds.length + 1 = n ∧ F ds xs = some (d, xs') ∧
  ∀ v B' H' ws, Tr B (rm H a) B' H' → B' a = none → H' a = some (.lst ws) → DqAll K B' ws xs' → Dq K B' v d → Q v H'
def startC (n : Nat) (a : Addr) (ds xs : List PyData) : Rho := match ds with
  | [] => []
  | d :: r => some (.d d) :: some (.own (some a) xs) :: (r.map (fun d => some (.d d)) ++ List.replicate (n - (r.length + 2)) none)
def retC (a : Addr) : Option Out → Option (PyData × List PyData)
  | some (.rt d ρ) => match (ρ[1]? : Option (Option Sv)) with
    | some (some (.own (some b) xs)) => if b = a then some (d, xs) else none
    | _ => none
  | _ => none
theorem sl_startC [Tbs] {v0 : V} {a : Addr} {rest us : List V} {ds xs : List PyData} {N : List Str} (s : Bs B H) (hb : B a = none) (ha : H a = some (.lst us)) (hx : DqAll K B us xs) (h : DqAll K B (v0 :: rest) ds) :
    Sl K (rm H a) B (startC N.length a ds xs) (L2.start N (v0 :: .ref a :: rest)) H := by
  cases h with
  | @cons _ _ d r h1 h2 =>
    have hl := dpAll_len h2
    have hN : L2.start N (v0 :: .ref a :: rest) = some v0 :: some (.ref a) :: (rest.map some ++ List.replicate (N.length - (rest.length + 2)) none) := rfl
    rw [hN]
    have own1 : ∀ {i : Nat} {o : Option Addr} {ys : List PyData}, (startC N.length a (d :: r) xs)[i]? = some (some (.own o ys)) → i = 1 ∧ o = some a ∧ ys = xs := by
      intro i o ys e
      unfold startC at e
      match i, e with
      | 0, e => cases e
      | 1, e => cases e; exact ⟨rfl, rfl, rfl⟩
      | i + 2, e =>
        simp only [List.getElem?_cons_succ] at e
        by_cases hi : i < r.length
        · rw [List.getElem?_append_left (by simpa using hi), List.getElem?_map] at e
          obtain ⟨d', hd, e⟩ := Option.map_eq_some_iff.mp e
          cases e
        · rw [List.getElem?_append_right (by simpa using hi), List.getElem?_replicate] at e
          split at e <;> cases e
    refine ⟨s.s, s.nt, s.tb, by simp [startC, hl], fun {i x} e => ?_, fun {i o ys} e => ?_, fun {i j o o' ys zs c} e e' _ _ => ?_, fun i a n fs e => ?_⟩
    · unfold startC at e
      match i, e with
      | 0, e => cases e; exact ⟨v0, rfl, h1⟩
      | 1, e => cases e
      | i + 2, e =>
        simp only [List.getElem?_cons_succ] at e ⊢
        by_cases hi : i < r.length
        · rw [List.getElem?_append_left (by simpa using hi), List.getElem?_map] at e
          obtain ⟨d', hd, e⟩ := Option.map_eq_some_iff.mp e
          cases e
          obtain ⟨v, hv, hdv⟩ := dpAll_get h2 hd
          refine ⟨v, ?_, hdv⟩
          rw [List.getElem?_append_left (by simpa [hl] using hi), List.getElem?_map, hv]
          rfl
        · rw [List.getElem?_append_right (by simpa using hi), List.getElem?_replicate] at e
          split at e <;> cases e
    · obtain ⟨rfl, rfl, rfl⟩ := own1 e
      exact ⟨a, us, rfl, hb, rm_same, ha, hx, fun b e => Option.some.inj e⟩
    · rw [(own1 e).1, (own1 e').1]
    · unfold startC at e
      match i, e with
      | 0, e => cases e
      | 1, e => cases e
      | i + 2, e =>
        simp only [List.getElem?_cons_succ] at e
        by_cases hi : i < r.length
        · rw [List.getElem?_append_left (by simpa using hi), List.getElem?_map] at e
          obtain ⟨d', hd, e⟩ := Option.map_eq_some_iff.mp e
          cases e
        · rw [List.getElem?_append_right (by simpa using hi), List.getElem?_replicate] at e
          split at e <;> cases e
structure KnC [Tbs] (P : Program) (w : World) (K : PySem.W.Frag) (mg : Str → Option Value) (base : Heap) (k n : Nat) (x : Str) (F : List PyData → List PyData → Option (PyData × List PyData)) : Prop where
  ex : ∃ f fd ps, FnOk P w K mg base CX0 k f fd ps (spC K n F) ∧ mg x = some (.ref f) ∧ PySem.W.keepIn K (.ref f) = true ∧ L2.Binds K fd ps []
end
section
variable {P : Program} {w : World} {K : PySem.W.Frag} {mg : Str → Option Value} {base : Heap} {x : Str} {st : Stmt} {F : List PyData → List PyData → Option (PyData × List PyData)}
theorem KnC.mono [Tbs] {j k n : Nat} (h : KnC P w K mg base j n x F) (l : j ≤ k) : KnC P w K mg base k n x F := by
  obtain ⟨f, fd, ps, a, b⟩ := h.ex
  exact ⟨f, fd, ps, a.mono l, b⟩
theorem KnC.none [Tbs] {ps : List Str} (D : Df K mg x st ps) {k n : Nat} : KnC P w K mg base k n x fun _ _ => .none := by
  obtain ⟨f, fd, Fu, m, b⟩ := D.ex
  have no : ∀ vs H Q E, ¬ spC K n (fun _ _ => Option.none) vs H Q E := fun vs H Q E ⟨_, _, _, _, _, _, _, _, _, _, _, _, _, _, _, _, h, _⟩ => nomatch h
  exact ⟨f, fd, ps, ⟨fun vs H Q E h => absurd h (no vs H Q E), fun A outer s H args us vs Q E _ _ _ _ h => absurd h (no vs H Q E)⟩, m, Fu.kp, b⟩
theorem knC_of [Tbs] {N ps : List Str} {k : Nat} {g : Rho → Option Out} (D : Df K mg x st ps) (S : FnScope N ps (defScope st)) (hF : ∀ a ds xs r, ds.length + 1 = ps.length → F ds xs = some r → retC a (g (startC N.length a ds xs)) = some r)
    (hb : ∀ (f : Addr) (cdv : Value) (A : Around) (outer : List Env) (s : Shared) (H : Hp) (E : XK), Room k (A.deeper (envOfC x (defScope st) s.heap.objs.size f cdv)) → PSDs (cxOf CX0 P w K mg base N x (defScope st) f cdv A outer s H E).nox (defBody st) g) :
    KnC P w K mg base (k + 1) ps.length x F := by
  obtain ⟨f, fd, Fu, m, b⟩ := D.ex
  refine ⟨f, fd, ps, Fu.ok S (fun vs H Q E ⟨B, v0, a, rest, ds, xs, us, d, xs', e, _, _, _, _, h5, h6, _⟩ => ?_) (fun cdv A outer s H vs Q E hr ⟨B, v0, a, rest, ds, xs, us, d, xs', e, h1, h2, h3, h4, h5, h6, h7, q⟩ => ?_), m, Fu.kp, b⟩
  · rw [e, ← h6, ← dpAll_len h5]; rfl
  · subst e
    refine ⟨_, hb f cdv A outer s H E hr, B, rm H a, startC N.length a ds xs, ?_⟩
    have h8 := hF a ds xs _ h6 h7
    unfold retC at h8
    split at h8
    · rename_i o d1 ρ1 e1
      split at h8
      · rename_i b1 ys e2
        obtain ⟨rfl, e3⟩ := ite_some h8
        cases e3
        refine ⟨_, ⟨B, ⟨Same.refl _, h1.s, .of rm_le, id, fun c o e1 e2 => by rw [e2] at e1; cases e1⟩, ?_⟩, e1, fun v σ' B' H' t s' dd => ?_⟩
        · exact sl_startC h1 h2 h3 h4 h5
        · obtain ⟨c, ws, z1, z2, z3, z4, z5, z6⟩ := s'.ow e2
          have := z6 _ rfl
          subst this
          exact q v B' H' ws t z2 z4 z5 dd
      · cases h8
    · cases h8
end
section
variable {X : Cx} {k n : Nat} {x : Str} {p pos : Pos} {e es0 : Expr} {es : List Expr} {f : Rho → Option PyData} {fs : Rho → Option (List PyData)} {F : List PyData → List PyData → Option (PyData × List PyData)}
def fCaC (n : Nat) (F : List PyData → List PyData → Option (PyData × List PyData)) (j : Nat) (f : Rho → Option PyData) (fs : Rho → Option (List PyData)) : Rho → Option (PyData × Rho) := fun ρ => (f ρ).bind fun d0 => (fs ρ).bind fun ds => match ρ[j]? with
  | some (some (.own o xs)) => if ds.length + 2 = n then (F (d0 :: ds) xs).map fun p => (p.1, ρ.set j (some (.own o p.2))) else none
  | _ => none
theorem sl_cell [Tbs] {K : PySem.W.Frag} {H0 B H B' H' : Hp} {ρ : Rho} {σ : L2.St} (s : Sl K H0 B ρ σ H) {j : Nat} {a : Addr} {o : Option Addr} {xs ys : List PyData} {ws : List V} (hx : ρ[j]? = some (some (.own o xs))) (h1 : σ[j]? = some (some (V.ref a)))
    (h0 : H0 a = none) (t : Tr B (rm H a) B' H') (hb : B' a = none) (ha : H' a = some (.lst ws)) (hd : DqAll K B' ws ys) (ho : ∀ b, o = some b → a = b) : Sl K H0 B' (ρ.set j (some (.own o ys))) σ H' := by
  refine ⟨t.t, t.n s.nt, fun P hP => ?_, by simp [s.len], fun {i y} e => ?_, fun {i oi us} e => ?_, fun {i m oi om us vs c} e1 e2 e3 e4 => ?_, (s.ob.setR fun _ _ _ z => by cases z).go t.b fun c C dx vs e1 _ e2 => ?_⟩
  · obtain ⟨a', us', z1, _, _, z4, _⟩ := s.ow hx
    rw [h1] at z1; cases z1
    obtain ⟨ps, e, h⟩ := s.tb P hP
    exact t.h.tab ⟨ps, by rw [rm_ne (fun z => by rw [z, z4] at e; cases e)]; exact e, h⟩
  · rcases get_set e with ⟨_, _, z⟩ | ⟨_, e⟩
    · cases z
    · obtain ⟨v, e1, e2⟩ := s.dv e
      exact ⟨v, e1, dp_mono t.b e2⟩
  · rcases get_set e with ⟨rfl, _, z⟩ | ⟨n, e⟩
    · cases z; exact ⟨a, ws, h1, hb, h0, ha, hd, ho⟩
    · obtain ⟨c, vs, e1, e2, e3, e4, e5, e6⟩ := s.ow e
      have hne : c ≠ a := fun z => by subst z; exact n (s.ap hx e h1 e1)
      have hr : rm H a c = some (.lst vs) := by rw [rm_ne hne]; exact e4
      exact ⟨c, vs, e1, t.stay e2 hr, e3, t.h.l hr, dpAll_mono t.b e5, e6⟩
  · have f1 : ∃ o' us', ρ[i]? = some (some (.own o' us')) := by
      rcases get_set e1 with ⟨rfl, _, _⟩ | ⟨_, e⟩
      · exact ⟨_, _, hx⟩
      · exact ⟨_, _, e⟩
    have f2 : ∃ o' us', ρ[m]? = some (some (.own o' us')) := by
      rcases get_set e2 with ⟨rfl, _, _⟩ | ⟨_, e⟩
      · exact ⟨_, _, hx⟩
      · exact ⟨_, _, e⟩
    obtain ⟨_, _, f1⟩ := f1
    obtain ⟨_, _, f2⟩ := f2
    exact s.ap f1 f2 e3 e4
  · have hne : c ≠ a := fun z => by
      subst z
      obtain ⟨a', us', z1, _, _, z4, _⟩ := s.ow hx
      rw [h1] at z1; cases z1
      rw [e2] at z4; cases z4
    have hr : rm H a c = some (.ins C dx vs) := by rw [rm_ne hne]; exact e2
    exact ⟨t.stay e1 hr, t.h.k c _ hr (fun ps z => by cases z)⟩
theorem trX_cell {H0 B H B' H' : Hp} {a : Addr} (h0 : H0 a = none) (t : Tr B (rm H a) B' H') (hb : B' a = none) : TrX H0 B H B' H' := ⟨t.b, t.t, t.n, fun s => ⟨(s.rm h0).trans t.h, fun c o e1 e2 => by
  have z := t.f c o e1 e2
  have hne : c ≠ a := fun w => by subst w; rw [hb] at e1; cases e1
  rw [rm_ne hne] at z
  exact s.free z⟩⟩
theorem pde_knC [Tbs] {j : Nat} (h : KnC X.prog X.w X.K X.mg X.base k n x F) (hr : Room k X.A) (h0 : PD X e f) (hj : PE X es0 (tVar j)) (ha : PDA X es fs) (hg : Gl X x := by rfl) (hdb : (x == ("__debug__" : Str)) = false := by decide)
    (he : starEach (e :: es0 :: es) X.env = (false, eval e X.env) :: starEach (es0 :: es) X.env := by rfl) (he2 : starEach (es0 :: es) X.env = (false, eval es0 X.env) :: starEach es X.env := by rfl) (hpl : (backTo pos (starEach (es0 :: es) X.env)).any (·.1) = false := by rfl) :
    PDE X (.Call (.Name x p) (e :: es0 :: es) [] pos) (fCaC n F j f fs) := by
  obtain ⟨fa, fd, ps, G, hm, hk, hb⟩ := h.ex
  refine pe_imp (pe_call (E := E0) G hr hg hm hk hb .nil pass0 (pa_cons h0 (pa_cons hj ha he2) he) hdb he hpl) fun σ H Q ⟨H0, B, ρ, d, ρ', s, hf, q⟩ => ?_
  obtain ⟨d0, hd0, hf⟩ := bind_some hf
  obtain ⟨ds, hds, hf⟩ := bind_some hf
  split at hf
  · rename_i o xs hx
    split at hf
    · rename_i hl
      obtain ⟨⟨r, xs'⟩, hF, e⟩ := Option.map_eq_some_iff.mp hf
      cases e
      refine ⟨H0, B, ρ, d0, s, hd0, fun v B1 H1 t1 d1 => ?_⟩
      have s1 := s.tr t1
      obtain ⟨a, us, z1, z2, z3, z4, z5, z6⟩ := s1.ow hx
      refine ⟨.ref a, z1, H0, B1, ρ, ds, s1, hds, fun vs B2 H2 t2 d2 => ?_⟩
      have s2 := s1.tr t2
      have hb2 := t2.stay z2 z4
      show spC X.K n F ((v :: V.ref a :: vs) ++ []) H2 Q E0
      rw [List.append_nil]
      refine ⟨B2, v, a, vs, d0 :: ds, xs, us, r, xs', rfl, s2.bs, hb2, t2.h.l z4, dpAll_mono t2.b z5, .cons (dp_mono t2.b d1) d2, hl, hF, fun u B' H' ws t hb' ha' dw du => ?_⟩
      exact q u B' H' ((TrX.of (t1.trans t2)).trans (trX_cell z3 t hb')) (sl_cell s2 hx z1 z3 t hb' ha' dw z6) du
    · cases hf
  · cases hf
end
end Dn

set_option maxHeartbeats 1000000
namespace Gx
open PySem L2 PySem.Spec PyProof.Rows GenW

/-- the turns: what is walked, the target, the tests, the element; Fin: at the end; Yd: an item is handed out, Nx what is to hold when it goes on -/
def Turns (J : It) (g : TG) (tt : TT) (te : TE) (σ0 : L2.St) (own : List Nat) (Fin : Hp → Prop) (Yd : V → Hp → (Hp → Prop) → Prop) (W : Nat → Nat → Hp → Prop) : Prop :=
  ∀ i m H, W i m H → (J.stop i H ∧ Fin H) ∨ (J.go i H ∧ ∃ Nx : Hp → Prop, (∀ H', Nx H' → ∃ m', m' < m ∧ W (i + 1) m' H') ∧ ∀ x H', J.yld i H x H' → g x σ0 H' fun σ2 H2 => wipe σ2 own = σ0 ∧ tt σ2 H2 fun b H3 =>
    if b = true then te σ2 H3 fun y H4 => Yd y H4 Nx else Nx H3)
/-- the generator rests -/
structure Rest (Z : Cx) (pl : List (Addr × Obj)) (σ0 : L2.St) (fp : List Addr) (tn : Nat → Heap → Prop) (g i : Nat) (H : Hp) (s : Shared) : Prop where
  inv : Inv Z pl σ0 H s
  tn : tn i s.heap
  fp : ∀ b ∈ fp, H b = none
  sz : g < s.gens.size
def PEnd (Z : Cx) (pl : List (Addr × Obj)) (σ0 : L2.St) (g : Nat) (Fin : Hp → Prop) : Nat → Shared → Shared → Prop := fun _ _ s₁ => ∃ H, Inv Z pl σ0 H s₁ ∧ g < s₁.gens.size ∧ Fin H
def YOut (Z : Cx) (pl : List (Addr × Obj)) (σ0 : L2.St) (fp : List Addr) (tn : Nat → Heap → Prop) (g : Nat) (Yd : V → Hp → (Hp → Prop) → Prop) (W : Nat → Nat → Hp → Prop) : Protocol := fun n _ v s kap =>
  ∃ i H y Nx m, RelV y v ∧ Rest Z pl σ0 fp tn g (i + 1) H s ∧ Yd y H Nx ∧ m ≤ n ∧ (∀ H', Nx H' → ∃ m', m' < m ∧ W (i + 1) m' H') ∧ ∀ H'' s'', Rest Z pl σ0 fp tn g (i + 1) H'' s'' → Nx H'' → kap (.send .none) s''

section
variable {X : Cx} {s4 : Shared} {H4 : Hp} {N' : List Str} {cenv : Env} {A2 : Around} {fp : List Addr} {a it : Addr} {ob : Obj} {tn : Nat → Heap → Prop} {σ0 : L2.St} {own : List Nat} {elt tg iter : Expr} {ifs : List Expr} {scope : Scope} {pos : Pos}
variable {J : It} {g : TG} {tt : TT} {te : TE} {Fin : Hp → Prop} {Yd : V → Hp → (Hp → Prop) → Prop} {W : Nat → Nat → Hp → Prop} {gn : Nat}
abbrev gcode (elt tg iter : Expr) (ifs : List Expr) (scope : Scope) (pos : Pos) (it : Addr) (cenv : Env) : Code := .compLoop (.GeneratorExp elt [⟨tg, iter, ifs, 0⟩] scope pos) 0 (.ref it) .none cenv
theorem stat {Z : Cx} {σ' : L2.St} {H' : Hp} {s' : Shared} {pl : List (Addr × Obj)} (hx : Z.ex = fp) (hp : ∀ p ∈ Z.pn ++ pl, p.1 ∉ fp) (I' : Inv Z pl σ' H' s') (hn : ∀ b ∈ fp, H' b = none) : ∀ b ∈ fp, FpOk Z pl H' b := fun b hb =>
  ⟨hn b hb, (I'.ok.exf b (by rw [hx]; exact hb)).1, I'.ok.exfs b (by rw [hx]; exact hb), .inl (by rw [hx]; exact hb), fun x c e => (I'.ok.exf b (by rw [hx]; exact hb)).2 x c e, fun p q z => hp p q (by rw [z]; exact hb)⟩
theorem seg_gl (hac : a ∉ fp) (T : Turn X.prog X.w X.K tg J fp it tn) (hco : cenv.scope.isCoroutine = false)
    (pg : PG (gcx X s4 H4 cenv N' (A2.over (gcode elt tg iter ifs scope pos it cenv) []) fp) tg g) (pt : PTs (gcx X s4 H4 cenv N' (A2.over (gcode elt tg iter ifs scope pos it cenv) []) fp) ifs tt) (pe : PE (gcx X s4 H4 cenv N' (A2.over (gcode elt tg iter ifs scope pos it cenv) []) fp) elt te)
    (turn : Turns J g tt te σ0 own Fin Yd W) :
    ∀ (m n i : Nat) (H : Hp) (s₀ s : Shared), m < n → W i m H → Rest (gcx X s4 H4 cenv N' (A2.over (gcode elt tg iter ifs scope pos it cenv) []) fp) [(a, ob)] σ0 fp tn gn i H s →
      Seg (model X.prog X.w) A2 (fun n s₀ r s₁ => r = .ok .next ∧ PEnd (gcx X s4 H4 cenv N' (A2.over (gcode elt tg iter ifs scope pos it cenv) []) fp) [(a, ob)] σ0 gn Fin n s₀ s₁)
        (YOut (gcx X s4 H4 cenv N' (A2.over (gcode elt tg iter ifs scope pos it cenv) []) fp) [(a, ob)] σ0 fp tn gn Yd W) n s₀ (gcode elt tg iter ifs scope pos it cenv) ((model X.prog X.w).den (gcode elt tg iter ifs scope pos it cenv)) [] s := by
  generalize hZ : gcx X s4 H4 cenv N' (A2.over (gcode elt tg iter ifs scope pos it cenv) []) fp = Z at pg pt pe ⊢
  have zx : Z.ex = fp := by rw [← hZ]
  have zp : ∀ p ∈ Z.pn ++ [(a, ob)], p.1 ∉ fp := fun p hp => by
    have : Z.pn = [] := by rw [← hZ]
    rw [this] at hp
    rcases List.mem_cons.mp hp with rfl | hp
    · exact hac
    · cases hp
  have zpr : Z.prog = X.prog := by rw [← hZ]
  have zw : Z.w = X.w := by rw [← hZ]
  have zK : Z.K = X.K := by rw [← hZ]
  have zc : Z.calm = true := by rw [← hZ]
  have zA : Z.A = A2.over (gcode elt tg iter ifs scope pos it cenv) [] := by rw [← hZ]
  have ze : Z.env = cenv := by rw [← hZ]
  have zxe : Z.xe = fun _ _ => False := by rw [← hZ]
  intro m
  induction m using Nat.strongRecOn with
  | ind m ih =>
  intro n i H s₀ s hmn w R
  obtain ⟨I, st, nf, hg⟩ := R
  show Seg _ A2 _ _ _ s₀ _ ((compTurn (.GeneratorExp elt [⟨tg, iter, ifs, 0⟩] scope pos) 0 (.ref it) .none cenv).onRaise (leaving cenv)) [] s
  rw [compTurn_gen, Sem.onRaise_eq_wrap]
  refine seg_bind_wrap (wpAny_standAt ?_)
  rcases turn i m H w with ⟨stop, fin⟩ | ⟨go, Nx, hNx, step⟩
  · have td := T.done Z zpr zw zK zc i _ s σ0 H (fun _ _ => False) I (stat zx zp I nf) st stop
    rw [zA] at td
    refine seg_bind_wrap (wpAny_gsz hg (thnF td fun r s1 hx hsz => ?_))
    obtain ⟨hr, I1⟩ := hx
    subst hr
    exact seg_end (.ok .next) ⟨rfl, H, I1, hsz, fin⟩
  · have ti := T.item Z zpr zw zK zc i _ s σ0 H (fun _ _ => False) I (stat zx zp I nf) st go
    rw [zA] at ti
    refine seg_bind_wrap (wpAny_gsz hg (thnF ti fun r s1 hx hsz1 => ?_))
    obtain ⟨u, hr, h1⟩ := hx
    subst hr
    refine seg_bind_wrap (wpAny_gsz hsz1 (thnF h1 fun _ s2 hx hsz2 => ?_))
    obtain ⟨x, H2, I2, r2, y2, st2, n2⟩ := hx
    have I2' := I2.pinned (stat zx zp I2 n2) (T.obj _ _ st2)
    have hpg := pg.run _ s2 σ0 H2 x u _ I2' r2 (step x H2 y2)
    rw [zA, ze, zpr, zw, zxe] at hpg
    refine seg_bind_wrap (wpAny_gsz hsz2 (thnF hpg fun _ s3 hx hsz3 => ?_))
    obtain ⟨σ3, H3, I3, hw3, q3⟩ := hx
    have hpt := pt.run _ s3 σ3 H3 _ I3 q3
    rw [zA, ze, zpr, zw, zxe] at hpt
    refine seg_bind_wrap (wpAny_gsz hsz3 (thnF hpt fun b s5 hx hsz5 => ?_))
    obtain ⟨H5, I5, q5⟩ := hx
    -- the turn's end
    have fin : ∀ {s' : Shared} {H' : Hp}, Inv Z ([(a, ob)] ++ pinsAt fp s2.heap) σ3 H' s' → gn < s'.gens.size → Rest Z [(a, ob)] σ0 fp tn gn (i + 1) H' s' := fun {s' H'} I' hz => by
      have pin' : ∀ b ∈ fp, ∀ o, s2.heap.get? b = some o → s'.heap.get? b = some o ∧ H' b = none := fun b hb o e =>
        let z := I'.pin (b, o) (List.mem_append_right _ (List.mem_append_right _ (mem_pinsAt hb e)))
        ⟨z.1, z.2.1⟩
      refine ⟨I'.unpinned.weak (by rw [← hw3, wipe_length]) (fun j v e => ?_), T.keep _ _ _ st2 fun b hb o e => (pin' b hb o e).1, fun b hb => ?_, hz⟩
      · rw [← hw3] at e
        exact (wipe_some e).1
      · obtain ⟨o, e, _⟩ := T.obj _ _ st2 b hb
        exact (pin' b hb o e).2
    cases b with
    | false =>
      simp only [Bool.false_eq_true, if_false] at q5 ⊢
      obtain ⟨m', hm, w'⟩ := hNx H5 q5
      exact seg_again rfl (ih m' hm n (i + 1) H5 s₀ s5 (by omega) w' (fin I5 hsz5))
    | true =>
      simp only [if_true] at q5 ⊢
      have hy : ∀ v, yieldOut cenv v = yieldValue v := fun v => by simp only [yieldOut, hco, Bool.false_eq_true, if_false]
      simp only [hy]
      rw [Sem.bind_eq_wrap', Sem.bind_eq_wrap', Sem.wrap_wrap, Sem.wrap_wrap]
      have hpe := pe.run _ s5 σ3 H5 _ I5 q5
      rw [zA, ze, zpr, zw, zxe] at hpe
      refine seg_wrap (wpAny_gsz hsz5 (thnF hpe fun v s6 hx hsz6 => ?_))
      obtain ⟨y, H6, I6, r6, q6⟩ := hx
      obtain ⟨n', rfl⟩ : ∃ k, n = k + 1 := ⟨n - 1, by omega⟩
      refine seg_at (seg_yield rfl rfl rfl ⟨i, H6, y, Nx, m, r6, fin I6 hsz6, q6, by omega, hNx, fun H'' s'' R'' nx => ?_⟩)
      obtain ⟨m', hm, w'⟩ := hNx H'' nx
      exact seg_again rfl (ih m' hm n' (i + 1) H'' s'' s'' (by omega) w' R'')
end
end Gx

set_option maxHeartbeats 1000000
namespace Gx
open PySem L2 PySem.Spec PyProof.Rows GenW

section
variable {X : Cx} {s4 : Shared} {H4 : Hp} {N' : List Str} {cenv : Env} {A2 : Around} {fp : List Addr} {a it : Addr} {ob : Obj} {tn : Nat → Heap → Prop} {σ0 : L2.St} {own : List Nat} {elt tg iter : Expr} {ifs : List Expr} {scope : Scope} {pos : Pos}
variable {J : It} {g : TG} {tt : TT} {te : TE} {Fin : Hp → Prop} {Yd : V → Hp → (Hp → Prop) → Prop} {W : Nat → Nat → Hp → Prop} {gn : Nat}
abbrev scode (elt tg iter : Expr) (ifs : List Expr) (scope : Scope) (pos : Pos) (it : Addr) (cenv : Env) : Code := .compStart (.GeneratorExp elt [⟨tg, iter, ifs, 0⟩] scope pos) 0 (.ref it) .none cenv
/-- the segment's start, from that of its loop -/
theorem seg_gs {R : GenEnd} {Y : Protocol} {n : Nat} {s₀ s : Shared} (T : Turn X.prog X.w X.K tg J fp it tn) (st : tn 0 s.heap)
    (loop : Seg (model X.prog X.w) A2 R Y n s₀ (gcode elt tg iter ifs scope pos it cenv) ((model X.prog X.w).den (gcode elt tg iter ifs scope pos it cenv)) [] s) :
    Seg (model X.prog X.w) A2 R Y n s₀ (scode elt tg iter ifs scope pos it cenv) ((model X.prog X.w).den (scode elt tg iter ifs scope pos it cenv)) [] s := by
  show Seg _ A2 _ _ _ s₀ _ ((compStart (.GeneratorExp elt [⟨tg, iter, ifs, 0⟩] scope pos) 0 (.ref it) .none cenv).onRaise (leaving cenv)) [] s
  unfold compStart
  rw [Sem.onRaise_eq_wrap]
  show Seg _ A2 _ _ _ s₀ _ ((ask >>= _).wrap _ _ _ _) [] s
  refine seg_bind_wrap (wpAny_askSetting ?_)
  split
  · exact seg_again rfl loop
  · first
      | exact seg_bind_wrap (wpAny_rule (seg_bind_wrap (wpAny_standAt (seg_bind_wrap (T.self _ 0 s _ _ st (seg_again rfl loop))))))
      | (refine seg_bind_wrap (wpAny_rule ?_); show Seg _ A2 _ _ _ s₀ _ ((standAt iter.pos >>= _).wrap _ _ _ _) [] s; exact seg_bind_wrap (wpAny_standAt (seg_bind_wrap (T.self _ 0 s _ _ st (seg_again rfl loop)))))
end

/-- it may be asked for the next item -/
structure Rdy (P : Program) (w : World) (Z : Cx) (pl : List (Addr × Obj)) (σ0 : L2.St) (fp : List Addr) (tn : Nat → Heap → Prop) (gn : Nat) (Fin : Hp → Prop) (Yd : V → Hp → (Hp → Prop) → Prop) (W : Nat → Nat → Hp → Prop) (A2 : Around) (n i : Nat) (H : Hp) (s : Shared) : Prop where
  rest : Rest Z pl σ0 fp tn gn i H s
  goes : ∃ gs, s.gens[gn]? = some gs ∧ gs.Goes (model P w) A2 (fun n s₀ r s₁ => r = .ok .next ∧ PEnd Z pl σ0 gn Fin n s₀ s₁) (YOut Z pl σ0 fp tn gn Yd W) n (.send .none) (s.setGen gn .running)
section
variable {P : Program} {w : World} {Z : Cx} {pl : List (Addr × Obj)} {σ0 : L2.St} {fp : List Addr} {tn : Nat → Heap → Prop} {gn : Nat} {Fin : Hp → Prop} {Yd : V → Hp → (Hp → Prop) → Prop} {W : Nat → Nat → Hp → Prop} {A : Around} {a : Addr} {n i : Nat} {H : Hp} {s : Shared}
theorem Rest.set (r : Rest Z pl σ0 fp tn gn i H s) {g : Nat} {x : GenState} (hx : x.bare = true) : Rest Z pl σ0 fp tn gn i H (s.setGen g x) :=
  ⟨Inv.gens r.inv (AllBare.set r.inv.bare hx), r.tn, r.fp, by rw [setGen_size]; exact r.sz⟩
/-- the next item -/
theorem next_g (hh : A.handled = none) (hd : A.depth < recursionLimit) (hob : ∀ σ' H' s', Inv Z pl σ' H' s' → s'.heap.IsGen a gn) (hl : ∀ σ' H' s', Inv Z pl σ' H' s' → s'.heap.NoLimit) (R : Rdy P w Z pl σ0 fp tn gn Fin Yd W A.in1 n i H s) {Q : Option Value → Shared → Prop} {E : Value → Shared → Prop}
    (hY : ∀ v s₁ y H1 i1 m1 Nx, RelV y v → Rest Z pl σ0 fp tn gn (i1 + 1) H1 s₁ → Yd y H1 Nx → m1 ≤ n - 1 → (∀ H', Nx H' → ∃ m', m' < m1 ∧ W (i1 + 1) m' H') →
      (∀ H'' s'', Rest Z pl σ0 fp tn gn (i1 + 1) H'' s'' → s''.gens[gn]? = s₁.gens[gn]? → Nx H'' → Rdy P w Z pl σ0 fp tn gn Fin Yd W A.in1 (n - 1) (i1 + 1) H'' s'') → Q (some v) s₁)
    (hE : ∀ s₁ H1, Inv Z pl σ0 H1 s₁ → Fin H1 → Q none s₁) :
    wpAny (model P w) A (pyNext (.ref a)) Q E s := by
  obtain ⟨rest, gs, hgs, hgo⟩ := R
  refine wpAny_pyNext_genexpQ hh (hl _ _ _ rest.inv) hd (hob _ _ _ rest.inv) hgs hgo (fun v s₁ gs' hb hv => ?_) (fun s₁ hp h' hk => ?_)
  · obtain ⟨i1, H1, y, Nx, m1, rv, r1, yd, hm, hNx, hkap⟩ := hv
    have lt : gn < s₁.gens.size := r1.sz
    have self : (s₁.setGen gn gs').gens[gn]? = some gs' := by simp [Shared.setGen, lt]
    refine hY v _ y H1 i1 m1 Nx rv (r1.set hb) yd hm hNx fun H'' s'' R'' e nx => ?_
    rw [self] at e
    have hk := hkap H'' (s''.setGen gn .running) (R''.set rfl) nx
    cases n with
    | zero => exact hk.elim
    | succ n => exact ⟨R'', gs', e, hk⟩
  · obtain ⟨H1, I1, hz, hf⟩ := hp
    have I2 : Inv Z pl σ0 H1 (s₁.setGen gn .finished) := Inv.gens I1 (AllBare.set I1.bare rfl)
    exact hE _ H1 (I2.kept (h' := h') (t' := s₁.toks) hk) hf

/-! ### any, all -/
def YAny (QT : Hp → Prop) : V → Hp → (Hp → Prop) → Prop := fun y H Nx => ∃ b, y = .bl b ∧ if b = true then QT H else Nx H
def YAll (QF : Hp → Prop) : V → Hp → (Hp → Prop) → Prop := fun y H Nx => ∃ b, y = .bl b ∧ if b = true then Nx H else QF H
theorem any_loop {QT QF : Hp → Prop} {R : Result → Shared → Prop} (hh : A.handled = none) (hd : A.depth < recursionLimit) (hob : ∀ σ' H' s', Inv Z pl σ' H' s' → s'.heap.IsGen a gn) (hl : ∀ σ' H' s', Inv Z pl σ' H' s' → s'.heap.NoLimit)
    (hT : ∀ s' H', Inv Z pl σ0 H' s' → QT H' → R (.ok (.ret (.bool true))) s') (hF : ∀ s' H', Inv Z pl σ0 H' s' → QF H' → R (.ok (.ret (.bool false))) s') :
    ∀ (n i : Nat) (H : Hp) (s : Shared), Rdy P w Z pl σ0 fp tn gn QF (YAny QT) W A.in1.in1 n i H s → codeAny (model P w) A (.builtin "any.loop" ⟨[.ref a], []⟩) R s := by
  intro n
  induction n with
  | zero =>
    intro i H s r
    refine codeAny_builtin F.entry_any_loop ?_
    rw [Around.under_plainId F.plain_any_loop _]
    show wpAny _ A.in1 (pyNext (.ref a) >>= _) _ _ s
    refine wpAny_bind (next_g (A := A.in1) hh hd hob hl r (fun v s₁ y H1 i1 m1 Nx rv r1 yd hm hNx cont => ?_) fun s₁ H1 I1 hf => ?_)
    · obtain ⟨b, rfl, hb⟩ := yd
      obtain rfl : v = Value.bool b := rv
      refine wpAny_bind (wpAny_holding (wpAny_truthy_bool ?_))
      refine wpAny_bind (wpAny_letGo ?_)
      cases b with
      | true =>
        simp only [if_true] at hb ⊢
        exact wpAny_bind (wpAny_rule (wpAny_pure (hT _ H1 r1.inv hb)))
      | false =>
        simp only [Bool.false_eq_true, if_false] at hb
        obtain ⟨m', h1, _⟩ := hNx H1 hb
        omega
    · exact wpAny_bind (wpAny_rule (wpAny_pure (hF _ H1 I1 hf)))
  | succ n ih =>
    intro i H s r
    refine codeAny_builtin F.entry_any_loop ?_
    rw [Around.under_plainId F.plain_any_loop _]
    show wpAny _ A.in1 (pyNext (.ref a) >>= _) _ _ s
    refine wpAny_bind (next_g (A := A.in1) hh hd hob hl r (fun v s₁ y H1 i1 m1 Nx rv r1 yd hm hNx cont => ?_) fun s₁ H1 I1 hf => ?_)
    · obtain ⟨b, rfl, hb⟩ := yd
      obtain rfl : v = Value.bool b := rv
      refine wpAny_bind (wpAny_holding (wpAny_truthy_bool ?_))
      refine wpAny_bind (wpAny_letGo ?_)
      cases b with
      | true =>
        simp only [if_true] at hb ⊢
        exact wpAny_bind (wpAny_rule (wpAny_pure (hT _ H1 r1.inv hb)))
      | false =>
        simp only [Bool.false_eq_true, if_false] at hb ⊢
        exact wpAny_pure ⟨plainId_quiet F.plain_any_loop _, ih _ _ _ (cont H1 _ r1 rfl hb)⟩
    · exact wpAny_bind (wpAny_rule (wpAny_pure (hF _ H1 I1 hf)))
theorem all_loop {QT QF : Hp → Prop} {R : Result → Shared → Prop} (hh : A.handled = none) (hd : A.depth < recursionLimit) (hob : ∀ σ' H' s', Inv Z pl σ' H' s' → s'.heap.IsGen a gn) (hl : ∀ σ' H' s', Inv Z pl σ' H' s' → s'.heap.NoLimit)
    (hT : ∀ s' H', Inv Z pl σ0 H' s' → QT H' → R (.ok (.ret (.bool true))) s') (hF : ∀ s' H', Inv Z pl σ0 H' s' → QF H' → R (.ok (.ret (.bool false))) s') :
    ∀ (n i : Nat) (H : Hp) (s : Shared), Rdy P w Z pl σ0 fp tn gn QT (YAll QF) W A.in1.in1 n i H s → codeAny (model P w) A (.builtin "all.loop" ⟨[.ref a], []⟩) R s := by
  intro n
  induction n with
  | zero =>
    intro i H s r
    refine codeAny_builtin F.entry_all_loop ?_
    rw [Around.under_plainId F.plain_all_loop _]
    show wpAny _ A.in1 (pyNext (.ref a) >>= _) _ _ s
    refine wpAny_bind (next_g (A := A.in1) hh hd hob hl r (fun v s₁ y H1 i1 m1 Nx rv r1 yd hm hNx cont => ?_) fun s₁ H1 I1 hf => ?_)
    · obtain ⟨b, rfl, hb⟩ := yd
      obtain rfl : v = Value.bool b := rv
      refine wpAny_bind (wpAny_holding (wpAny_truthy_bool ?_))
      refine wpAny_bind (wpAny_letGo ?_)
      cases b with
      | false =>
        simp only [Bool.false_eq_true, if_false] at hb ⊢
        exact wpAny_bind (wpAny_rule (wpAny_pure (hF _ H1 r1.inv hb)))
      | true =>
        simp only [if_true] at hb
        obtain ⟨m', h1, _⟩ := hNx H1 hb
        omega
    · exact wpAny_bind (wpAny_rule (wpAny_pure (hT _ H1 I1 hf)))
  | succ n ih =>
    intro i H s r
    refine codeAny_builtin F.entry_all_loop ?_
    rw [Around.under_plainId F.plain_all_loop _]
    show wpAny _ A.in1 (pyNext (.ref a) >>= _) _ _ s
    refine wpAny_bind (next_g (A := A.in1) hh hd hob hl r (fun v s₁ y H1 i1 m1 Nx rv r1 yd hm hNx cont => ?_) fun s₁ H1 I1 hf => ?_)
    · obtain ⟨b, rfl, hb⟩ := yd
      obtain rfl : v = Value.bool b := rv
      refine wpAny_bind (wpAny_holding (wpAny_truthy_bool ?_))
      refine wpAny_bind (wpAny_letGo ?_)
      cases b with
      | false =>
        simp only [Bool.false_eq_true, if_false] at hb ⊢
        exact wpAny_bind (wpAny_rule (wpAny_pure (hF _ H1 r1.inv hb)))
      | true =>
        simp only [if_true] at hb ⊢
        exact wpAny_pure ⟨plainId_quiet F.plain_all_loop _, ih _ _ _ (cont H1 _ r1 rfl hb)⟩
    · exact wpAny_bind (wpAny_rule (wpAny_pure (hT _ H1 I1 hf)))
/-- the calls -/
theorem call_anyG {QT QF : Hp → Prop} {Q : Value → Shared → Prop} {E : Value → Shared → Prop} (hh : A.handled = none) (hd : A.depth < recursionLimit) (hob : ∀ σ' H' s', Inv Z pl σ' H' s' → s'.heap.IsGen a gn) (hl : ∀ σ' H' s', Inv Z pl σ' H' s' → s'.heap.NoLimit)
    (r : Rdy P w Z pl σ0 fp tn gn QF (YAny QT) W A.in1.in1 n i H s) (hT : ∀ s' H', Inv Z pl σ0 H' s' → QT H' → Q (.bool true) s') (hF : ∀ s' H', Inv Z pl σ0 H' s' → QF H' → Q (.bool false) s') :
    wpAny (model P w) A (call (.builtin "any") [.ref a]) Q E s := by
  refine call_function_tree F.kind_any F.plain_any F.entry_any (F.args_any1 _) ?_
  unfold Builtin.«any»
  refine wpAny_bind (m := oneArg "any" _) (wpAny_pure ?_)
  refine wpAny_bind (wpAny_pyIter_gen (hob _ _ _ r.rest.inv) ?_)
  exact wpAny_pure ⟨plainId_quiet F.plain_any_loop _, any_loop hh hd hob hl (fun s' H' I q => by first | exact hT s' H' I q | exact ⟨_, rfl, hT s' H' I q⟩) (fun s' H' I q => by first | exact hF s' H' I q | exact ⟨_, rfl, hF s' H' I q⟩) n i H s r⟩
theorem call_allG {QT QF : Hp → Prop} {Q : Value → Shared → Prop} {E : Value → Shared → Prop} (hh : A.handled = none) (hd : A.depth < recursionLimit) (hob : ∀ σ' H' s', Inv Z pl σ' H' s' → s'.heap.IsGen a gn) (hl : ∀ σ' H' s', Inv Z pl σ' H' s' → s'.heap.NoLimit)
    (r : Rdy P w Z pl σ0 fp tn gn QT (YAll QF) W A.in1.in1 n i H s) (hT : ∀ s' H', Inv Z pl σ0 H' s' → QT H' → Q (.bool true) s') (hF : ∀ s' H', Inv Z pl σ0 H' s' → QF H' → Q (.bool false) s') :
    wpAny (model P w) A (call (.builtin "all") [.ref a]) Q E s := by
  refine call_function_tree F.kind_all F.plain_all F.entry_all (F.args_all1 _) ?_
  unfold Builtin.«all»
  refine wpAny_bind (m := oneArg "all" _) (wpAny_pure ?_)
  refine wpAny_bind (wpAny_pyIter_gen (hob _ _ _ r.rest.inv) ?_)
  exact wpAny_pure ⟨plainId_quiet F.plain_all_loop _, all_loop hh hd hob hl (fun s' H' I q => by first | exact hT s' H' I q | exact ⟨_, rfl, hT s' H' I q⟩) (fun s' H' I q => by first | exact hF s' H' I q | exact ⟨_, rfl, hF s' H' I q⟩) n i H s r⟩
end
end Gx

set_option maxHeartbeats 1000000
namespace Gx
open PySem L2 PySem.Spec PyProof.Rows GenW GxR

/-- the table at P has grown, all else stands -/
structure Grown (P : Addr) (H H' : Hp) : Prop where
  at_ : ∃ ps more, H P = some (.tbl ps) ∧ H' P = some (.tbl (ps ++ more)) ∧ TriplesOk (ps ++ more).toList
  else_ : ∀ b, b ≠ P → H' b = H b
abbrev gAround (X : Cx) (elt tg iter : Expr) (ifs : List Expr) (scope : Scope) (pos : Pos) (it : Addr) (cenv : Env) : Around := X.A.in1.in1.over (gcode elt tg iter ifs scope pos it cenv) []
theorem g_frames {X : Cx} {elt tg iter : Expr} {ifs : List Expr} {scope : Scope} {pos : Pos} {it : Addr} {cenv : Env} (h : X.A.frames = some X.stack) : (gAround X elt tg iter ifs scope pos it cenv).frames = some (cenv :: X.stack) := by
  have e : (gAround X elt tg iter ifs scope pos it cenv).frames = X.A.frames.map ([cenv] ++ ·) := rfl
  rw [e, h]
  rfl
theorem g_room {X : Cx} {elt tg iter : Expr} {ifs : List Expr} {scope : Scope} {pos : Pos} {it : Addr} {cenv : Env} {k : Nat} (hr : Room (k + 1) X.A) : Room k (gAround X elt tg iter ifs scope pos it cenv) := by
  have e1 : (gAround X elt tg iter ifs scope pos it cenv).depth = X.A.depth + 1 := rfl
  have e2 : (gAround X elt tg iter ifs scope pos it cenv).units = X.A.units + 5 := rfl
  refine ⟨hr.hd, ?_, ?_⟩
  · rw [e1]; have := hr.dp; omega
  · rw [e2]; have := hr.un; omega
section
variable {X : Cx} {pins : List (Addr × Obj)} {σ : L2.St} {H : Hp} {s : Shared} {N' : List Str} {js : List (Option Nat)} {own : List Nat} {elt tg iter : Expr} {ifs : List Expr} {scope : Scope} {pos : Pos} {c P : Addr} {k : Nat}
variable {wi : TI} {g : TG} {tt : TT} {te : TE} {Fin : Hp → Prop} {Yd : V → Hp → (Hp → Prop) → Prop}
/-- what a generator expression is to do -/
def tGenX (P : Addr) (wi : TI) (g : TG) (tt : TT) (te : TE) (js : List (Option Nat)) (own : List Nat) (Fin : Hp → Prop) (Yd : V → Hp → (Hp → Prop) → Prop) : L2.St → Hp → Prop := fun σ H =>
  wi σ H fun J H1 => TabG H1 P ∧ ∀ H2, Grown P H1 H2 → ∃ W : Nat → Nat → Hp → Prop, (∃ m, W 0 m H2) ∧ Turns J g tt te (pick σ js) own Fin Yd W
/-- a generator has come -/
def GenCame (X : Cx) (pins : List (Addr × Obj)) (σ : L2.St) (Fin : Hp → Prop) (Yd : V → Hp → (Hp → Prop) → Prop) (u : Value) (s5 : Shared) : Prop :=
  ∃ (Z : Cx) (a : Addr) (pl : List (Addr × Obj)) (σ0 : L2.St) (fp : List Addr) (tn : Nat → Heap → Prop) (gn n i : Nat) (H : Hp) (W : Nat → Nat → Hp → Prop), u = .ref a ∧ (∀ σ' H' s', Inv Z pl σ' H' s' → s'.heap.IsGen a gn) ∧ (∀ σ' H' s', Inv Z pl σ' H' s' → s'.heap.NoLimit) ∧
    (∀ σ' H' s', Inv Z pl σ' H' s' → Inv X pins σ H' s') ∧ Rdy X.prog X.w Z pl σ0 fp tn gn Fin Yd W X.A.in1.in1 n i H s5
theorem gen_make (hr : Room (k + 1) X.A) (TB : TabB X.base X.mg c P) (hcode : X.env.code = .ref c) (S : GScp X.N N' js X.env.scope scope) (hi : PI X tg iter wi) (hs : ∀ v, genFold iter X.env v = pure v)
    (hg : ∀ (s : Shared) (H : Hp) (C : Addr) (cl : List (Str × Addr)) (code : Value) (A : Around) (fp : List Addr), Room k A → PG (gcx X s H (genEnv scope cl C code builtinsNs X.env) N' A fp) tg g)
    (ht : ∀ (s : Shared) (H : Hp) (C : Addr) (cl : List (Str × Addr)) (code : Value) (A : Around) (fp : List Addr), Room k A → PTs (gcx X s H (genEnv scope cl C code builtinsNs X.env) N' A fp) ifs tt)
    (he : ∀ (s : Shared) (H : Hp) (C : Addr) (cl : List (Str × Addr)) (code : Value) (A : Around) (fp : List Addr), Room k A → PE (gcx X s H (genEnv scope cl C code builtinsNs X.env) N' A fp) elt te)
    (I : Inv X pins σ H s) (h : tGenX P wi g tt te js own Fin Yd σ H) :
    wpAny (model X.prog X.w) X.A (eval (.GeneratorExp elt [⟨tg, iter, ifs, 0⟩] scope pos) X.env) (GenCame X pins σ Fin Yd) X.xe s := by
  have hfree : ∀ y ∈ scope.names, y.2 = .free → ∃ c, X.env.cells.lookup y.1 = some c := fun y hy e => by
    rcases S.free y hy e with k | k
    · exact I.ok.has _ (.inl k)
    · exact I.ok.has _ (.inr k)
  refine wpAny_GeneratorExp_make S.co (closure_ok hfree) S.cell S.dot S.kind hr.depth ?_ hs
  refine thn (hi.run pins s σ H _ I h) fun xv s1 hx => thn hx fun itv s2 h2 => ?_
  obtain ⟨it, fp, tn, J, H1, rfl, I1, T, st1, f1, ⟨ps, hP, htr⟩, q⟩ := h2
  refine ⟨I1.nolimit, ?_⟩
  have hPs : s2.heap.get? P = some { cls := .none, data := .fields ps } := I1.hok P _ hP
  have cd : PySem.W.CodeHd s2.heap c P := TB.code.keeps fun b u e => I1.bk b u e
  have cont : ∀ (code : Value) (h3 : Heap) (tk : Nat) (ps' : Array Value), Heap.ExtBut P s2.heap h3 → s2.heap.objs.size ≤ h3.objs.size → h3.get? P = some { cls := .none, data := .fields ps' } → (∃ more, ps' = ps ++ more) → TriplesOk ps'.toList →
      wpAny (model X.prog X.w) X.A (builtinsFor X.env.globals X.env.builtins) (fun bi s₄ =>
        ∀ h', h'.Ns s₄.heap.objs.size (fun y => if y = ".0" then some (Value.ref it) else none) → Heap.SameBut s₄.heap.objs.size (s₄.heap.push { cls := .type "frame", data := .dict #[] }) h' →
          GenCame X pins σ Fin Yd (.ref h'.objs.size) { s₄ with
            gens := s₄.gens.push (.fresh (.compStart (.GeneratorExp elt [⟨tg, iter, ifs, 0⟩] scope pos) 0 (.ref it) .none (genEnv scope (cloFrom X.env.cells scope.names []) s₄.heap.objs.size code bi X.env))),
            toks := s₄.toks + 1 + 1 + 1,
            heap := h'.push { cls := .type "generator", data := .fields #[.int s₄.gens.size 0, .str "<genexpr>" (s₄.toks + 1), .str (X.env.qual ++ "<genexpr>") (s₄.toks + 1 + 1)] } }) X.xe { s2 with heap := h3, toks := tk } := by
    intro code h3 tk ps' hx hsz hP3 hmore ht3
    obtain ⟨bm, ob, e1, e2, e3, e4, e5, e6, e7, e8⟩ := TB.bm
    have keep3 : ∀ b u, b ≠ P → s2.heap.get? b = some u → h3.get? b = some u := fun b u hb e => hx b u hb e
    obtain ⟨more, em⟩ := hmore
    have J3 : Inv X pins σ (upd H1 P (.tbl (ps ++ more))) { s2 with heap := h3, toks := tk } := inv_tab (more := more) (h' := h3) (g' := s2.gens) (d' := s2.drawn) (t' := tk) I1 hP (fun b u hb e => keep3 b u hb e) (by rw [← em]; exact hP3) I1.bare
    have tb : Grown P H1 (upd H1 P (.tbl (ps ++ more))) := ⟨⟨ps, more, hP, upd_same, by rw [← em]; exact ht3⟩, fun b hb => upd_ne hb⟩
    generalize upd H1 P (.tbl (ps ++ more)) = H2 at J3 tb
    refine wpAny_builtinsFor (m := X.mg) (by rw [I1.ok.glob]; exact (I1.mod.glob.keeps I1.bk).extBut hx TB.gP) e1 e2 (keep3 _ _ e4 (I1.bk _ _ e5)) e6 e7 e8 ?_
    intro h' hn' hs'
    generalize hs3 : ({ s2 with heap := h3, toks := tk } : Shared) = s3 at J3 hn' hs' ⊢
    have h3e : s3.heap = h3 := by rw [← hs3]
    have hsz' : h'.objs.size = s3.heap.objs.size + 1 := by rw [hs'.1, Heap.size_push]
    have keep' : ∀ b o, s3.heap.get? b = some o → h'.get? b = some o := fun b o e => hs'.extBut b o (Nat.ne_of_lt (Heap.lt_size e)) (Heap.get?_push_of_some _ e)
    obtain ⟨W, ⟨m0, w0⟩, turn⟩ := q H2 tb
    have nP : ∀ b ∈ fp, b ≠ P := fun b hb z => by
      have := (f1 b hb).1
      rw [z, hP] at this
      cases this
    have hfp : ∀ b ∈ fp, FpOk X pins H2 b ∧ b < s3.heap.objs.size := fun b hb => by
      refine ⟨⟨?_, (f1 b hb).2⟩, ?_⟩
      · rw [tb.else_ b (nP b hb)]; exact (f1 b hb).1
      · obtain ⟨o, e, _⟩ := T.obj _ _ st1 b hb
        rw [h3e]
        exact Heap.lt_size (keep3 b o (nP b hb) e)
    have stt : ∀ b ∈ fp, ∀ o, s2.heap.get? b = some o → s3.heap.get? b = some o := fun b hb o e => by rw [h3e]; exact keep3 b o (nP b hb) e
    generalize hce : genEnv scope (cloFrom X.env.cells scope.names []) s3.heap.objs.size code builtinsNs X.env = cenv
    have hsc : cenv.scope = scope := by rw [← hce]; rfl
    generalize hob : ({ cls := .type "generator", data := .fields #[.int s3.gens.size 0, .str "<genexpr>" (s3.toks + 1), .str (X.env.qual ++ "<genexpr>") (s3.toks + 1 + 1)] } : Obj) = ob
    have key : ∀ b o, s3.heap.get? b = some o → (h'.push ob).get? b = some o := fun b o e => Heap.get?_push_of_some _ (keep' b o e)
    have hob1 : ob.isFreed = false := by rw [← hob]; rfl
    have ha : (h'.push ob).get? h'.objs.size = some ob := Heap.get?_push_size _ hob1
    have J5 := gen_start (N' := N') (js := js) (scope := scope) (code := code) (cenv := cenv) (A := gAround X elt tg iter ifs scope pos it cenv) (fp := fp) (a := h'.objs.size) (ob := ob) (m := fun y => if y = ".0" then some (Value.ref it) else none)
      (s5 := { s3 with gens := s3.gens.push (.fresh (.compStart (.GeneratorExp elt [⟨tg, iter, ifs, 0⟩] scope pos) 0 (.ref it) .none cenv)), toks := s3.toks + 1 + 1 + 1, heap := h'.push ob }) J3 S hce.symm hr.hd
      (g_frames I.ok.frames) hfp rfl (AllBare.push J3.bare rfl) key (hn'.push _) ha (by rw [hsz']; exact Nat.lt_succ_self _) (fun v z => by rw [← hob] at z; cases z)
    refine ⟨gcx X s3 H2 cenv N' (gAround X elt tg iter ifs scope pos it cenv) fp, h'.objs.size, [(h'.objs.size, ob)], pick σ js, fp, tn, s3.gens.size, m0 + 1, 0, H2, W, rfl, fun σ' H' s' Ij => ?_, fun σ' H' s' Ij => Ij.nolimit, fun σ' H' s' Ij => gen_back J3 (fun b hb => (hfp b hb).1) Ij, ?_⟩
    · have hp := (Ij.pin (h'.objs.size, ob) (List.mem_append_right _ List.mem_cons_self)).1
      rw [← hob] at hp
      exact ⟨_, _, _, hp, rfl, rfl, rfl⟩
    · have rest : Rest (gcx X s3 H2 cenv N' (gAround X elt tg iter ifs scope pos it cenv) fp) [(h'.objs.size, ob)] (pick σ js) fp tn s3.gens.size 0 H2 ({ s3 with gens := s3.gens.push (.fresh (.compStart (.GeneratorExp elt [⟨tg, iter, ifs, 0⟩] scope pos) 0 (.ref it) .none cenv)), toks := s3.toks + 1 + 1 + 1, heap := h'.push ob }) :=
        ⟨J5, T.keep _ _ _ st1 fun b hb o e => key b o (stt b hb o e), fun b hb => (hfp b hb).1.1, by show s3.gens.size < (s3.gens.push _).size; rw [Array.size_push]; exact Nat.lt_succ_self _⟩
      refine ⟨rest, _, Array.getElem?_push_size .., rfl, ?_⟩
      refine seg_gs T ?_ (seg_gl (fun z => ?_) T (by rw [hsc]; exact S.co) ?_ ?_ ?_ turn m0 (m0 + 1) 0 H2 _ _ (Nat.lt_succ_self _) w0 (rest.set rfl))
      · exact (rest.set (g := s3.gens.size) (x := .running) rfl).tn
      · have h1 := (hfp _ z).2
        rw [hsz'] at h1
        exact absurd (Nat.lt_of_succ_lt h1) (Nat.lt_irrefl _)
      · rw [← hce]; exact hg _ _ _ _ _ _ _ (g_room hr)
      · rw [← hce]; exact ht _ _ _ _ _ _ _ (g_room hr)
      · rw [← hce]; exact he _ _ _ _ _ _ _ (g_room hr)
  cases hf : codeAmong pos ps.toList with
  | none =>
    refine wpAny_genexprCodeX hcode (cd.code hPs htr) (cd.tab hPs) hf fun c' h' tk hx hge hlt hco' _ htab' _ => ?_
    obtain ⟨o1, vs, f1, tf, fl, tg, inF, tx, tt, op, _, _, _, _, _, _, _, _, _, htr2, _⟩ := hco'
    exact cont _ h' tk _ hx (Nat.le_trans hge (Nat.le_of_lt hlt)) htab'.2 ⟨_, rfl⟩ htr2
  | some cv =>
    refine wpAny_genexprCode_hit hcode (cd.code hPs htr) hf ?_
    exact cont cv s2.heap s2.toks ps (Heap.ExtBut.refl _ _) (Nat.le_refl _) hPs ⟨#[], by simp⟩ htr

/-- any(elt for tg in iter if ..) -/
def tAnyG (P : Addr) (wi : TI) (g : TG) (tt : TT) (te : TE) (js : List (Option Nat)) (own : List Nat) : TE := fun σ H Q => tGenX P wi g tt te js own (Q (.bl false)) (YAny (Q (.bl true))) σ H
def tAllG (P : Addr) (wi : TI) (g : TG) (tt : TT) (te : TE) (js : List (Option Nat)) (own : List Nat) : TE := fun σ H Q => tGenX P wi g tt te js own (Q (.bl true)) (YAll (Q (.bl false))) σ H
theorem pe_anyG {p cpos : Pos} (hr : Room (k + 1) X.A) (TB : TabB X.base X.mg c P) (hcode : X.env.code = .ref c) (S : GScp X.N N' js X.env.scope scope) (hgl : Gl X "any") (hm : X.mg "any" = none) (hi : PI X tg iter wi)
    (hg : ∀ (s : Shared) (H : Hp) (C : Addr) (cl : List (Str × Addr)) (code : Value) (A : Around) (fp : List Addr), Room k A → PG (gcx X s H (genEnv scope cl C code builtinsNs X.env) N' A fp) tg g)
    (ht : ∀ (s : Shared) (H : Hp) (C : Addr) (cl : List (Str × Addr)) (code : Value) (A : Around) (fp : List Addr), Room k A → PTs (gcx X s H (genEnv scope cl C code builtinsNs X.env) N' A fp) ifs tt)
    (he : ∀ (s : Shared) (H : Hp) (C : Addr) (cl : List (Str × Addr)) (code : Value) (A : Around) (fp : List Addr), Room k A → PE (gcx X s H (genEnv scope cl C code builtinsNs X.env) N' A fp) elt te)
    (hs : ∀ v, genFold iter X.env v = pure v := by intro _; rfl)
    (hst : starEach [.GeneratorExp elt [⟨tg, iter, ifs, 0⟩] scope pos] X.env = (false, eval (.GeneratorExp elt [⟨tg, iter, ifs, 0⟩] scope pos) X.env) :: starEach [] X.env := by rfl) :
    PE X (.Call (.Name "any" p) [.GeneratorExp elt [⟨tg, iter, ifs, 0⟩] scope pos] [] cpos) (tAnyG P wi g tt te js own) := by
  refine ⟨fun pins s σ H Q I h => ?_⟩
  refine wpAny_Call_Name_kw (ld_blt I hgl hm boot_any ?_)
  refine PyProof.Rows.callWith_builtin1 ?_ hst (by rfl)
  rw [hst]
  show wpAny _ _ (spliced ((false, eval (.GeneratorExp elt [⟨tg, iter, ifs, 0⟩] scope pos) X.env) :: backTo cpos (starEach [] X.env))) _ _ s
  refine Calls.spliced_cons (thn (gen_make hr TB hcode S hi hs hg ht he I h) fun u s5 hc => ?_)
  obtain ⟨Z, a, pl, σ0, fp, tn, gn, n, i, H5, W, rfl, hob, hl, back, R⟩ := hc
  refine Calls.spliced_nil ?_
  exact call_anyG hr.hd hr.depth hob hl R (fun s' H' J q => ⟨.bl true, H', back _ _ _ J, rfl, q⟩) fun s' H' J q => ⟨.bl false, H', back _ _ _ J, rfl, q⟩
theorem pe_allG {p cpos : Pos} (hr : Room (k + 1) X.A) (TB : TabB X.base X.mg c P) (hcode : X.env.code = .ref c) (S : GScp X.N N' js X.env.scope scope) (hgl : Gl X "all") (hm : X.mg "all" = none) (hb : bootBuiltins "all" = some (.builtin "all")) (hi : PI X tg iter wi)
    (hg : ∀ (s : Shared) (H : Hp) (C : Addr) (cl : List (Str × Addr)) (code : Value) (A : Around) (fp : List Addr), Room k A → PG (gcx X s H (genEnv scope cl C code builtinsNs X.env) N' A fp) tg g)
    (ht : ∀ (s : Shared) (H : Hp) (C : Addr) (cl : List (Str × Addr)) (code : Value) (A : Around) (fp : List Addr), Room k A → PTs (gcx X s H (genEnv scope cl C code builtinsNs X.env) N' A fp) ifs tt)
    (he : ∀ (s : Shared) (H : Hp) (C : Addr) (cl : List (Str × Addr)) (code : Value) (A : Around) (fp : List Addr), Room k A → PE (gcx X s H (genEnv scope cl C code builtinsNs X.env) N' A fp) elt te)
    (hs : ∀ v, genFold iter X.env v = pure v := by intro _; rfl)
    (hst : starEach [.GeneratorExp elt [⟨tg, iter, ifs, 0⟩] scope pos] X.env = (false, eval (.GeneratorExp elt [⟨tg, iter, ifs, 0⟩] scope pos) X.env) :: starEach [] X.env := by rfl) :
    PE X (.Call (.Name "all" p) [.GeneratorExp elt [⟨tg, iter, ifs, 0⟩] scope pos] [] cpos) (tAllG P wi g tt te js own) := by
  refine ⟨fun pins s σ H Q I h => ?_⟩
  refine wpAny_Call_Name_kw (ld_blt I hgl hm hb ?_)
  refine PyProof.Rows.callWith_builtin1 ?_ hst (by rfl)
  rw [hst]
  show wpAny _ _ (spliced ((false, eval (.GeneratorExp elt [⟨tg, iter, ifs, 0⟩] scope pos) X.env) :: backTo cpos (starEach [] X.env))) _ _ s
  refine Calls.spliced_cons (thn (gen_make hr TB hcode S hi hs hg ht he I h) fun u s5 hc => ?_)
  obtain ⟨Z, a, pl, σ0, fp, tn, gn, n, i, H5, W, rfl, hob, hl, back, R⟩ := hc
  refine Calls.spliced_nil ?_
  exact call_allG hr.hd hr.depth hob hl R (fun s' H' J q => ⟨.bl true, H', back _ _ _ J, rfl, q⟩) fun s' H' J q => ⟨.bl false, H', back _ _ _ J, rfl, q⟩
end
end Gx

namespace Dn
open PySem L2 PySem.Spec PyProof.Rows Gx GxR

/-! ### any, all of a generator expression, by data -/
def pickR (ρ : Rho) (js : List (Option Nat)) : Rho := js.map fun o => match o with
  | some j => match ρ[j]? with
    | some (some (.d x)) => some (.d x)
    | _ => none
  | none => none
theorem pickR_get {ρ : Rho} {js : List (Option Nat)} {i : Nat} {z : Sv} (h : (pickR ρ js)[i]? = some (some z)) : ∃ j x, js[i]? = some (some j) ∧ ρ[j]? = some (some (.d x)) ∧ z = .d x := by
  unfold pickR at h
  rw [List.getElem?_map] at h
  obtain ⟨o, ho, e⟩ := Option.map_eq_some_iff.mp h
  cases o with
  | none => cases e
  | some j =>
    simp only at e
    split at e
    · rename_i x hx
      cases e
      exact ⟨j, x, ho, hx, rfl⟩
    · cases e
theorem sl_pick [Tbs] {K : PySem.W.Frag} {H0 B H : Hp} {ρ : Rho} {σ : L2.St} (s : Sl K H0 B ρ σ H) (js : List (Option Nat)) : Sl K H0 B (pickR ρ js) (pick σ js) H := by
  refine ⟨s.bh, s.nt, s.tb, by simp [pickR, pick], fun {i x} e => ?_, fun {i o xs} e => ?_, fun {i j o o' xs ys a} e _ _ _ => ?_, fun i a n fs e => ?_⟩
  · obtain ⟨j, y, h1, h2, h3⟩ := pickR_get e
    cases h3
    obtain ⟨v, hv, hd⟩ := s.dv h2
    refine ⟨v, ?_, hd⟩
    unfold pick
    rw [List.getElem?_map, h1]
    show some ((σ[j]?).join) = _
    rw [hv]
    rfl
  · obtain ⟨j, y, h1, h2, h3⟩ := pickR_get e
    cases h3
  · obtain ⟨j, y, h1, h2, h3⟩ := pickR_get e
    cases h3
  · obtain ⟨j, y, h1, h2, h3⟩ := pickR_get e
    cases h3
theorem wipe_fix {σ : L2.St} : ∀ {vs : List Nat}, (∀ i ∈ vs, σ[i]? = some none) → wipe σ vs = σ
  | [], _ => rfl
  | v :: vs, h => by
    unfold wipe
    rw [wipe_fix (fun i hi => h i (List.mem_cons_of_mem _ hi))]
    exact set_self_get (h v List.mem_cons_self)
theorem pick_own {σ : L2.St} {js : List (Option Nat)} {vs : List Nat} (h : ∀ i ∈ vs, js[i]? = some none) : ∀ i ∈ vs, (pick σ js)[i]? = some none := fun i hi => by
  unfold pick
  rw [List.getElem?_map, h i hi]
  rfl
/-- stop: the answer that ends the walk early -/
def gAny (stop : Bool) (bd : PyData → Rho → Option Rho) (t : Rho → Option Bool) (f : Rho → Option PyData) (ρ : Rho) : List PyData → Option Bool
  | [] => some (!stop)
  | x :: xs => (bd x ρ).bind fun ρ1 => (t ρ1).bind fun b => if b then (fB f ρ1).bind fun c => if c = stop then some stop else gAny stop bd t f ρ xs else gAny stop bd t f ρ xs
def fAnyG (stop : Bool) (fi : Rho → Option (List PyData)) (bd : PyData → Rho → Option Rho) (t : Rho → Option Bool) (f : Rho → Option PyData) (js : List (Option Nat)) : Rho → Option PyData := fun ρ => (fi ρ).bind fun xs => (gAny stop bd t f (pickR ρ js) xs).map .bool
theorem tr_tab [Tbs] {B H H2 : Hp} {P : Addr} (n : NT B) (s : Same B H) (t : Grown P H H2) : Tr B H B H2 := by
  obtain ⟨⟨ps, more, e1, e2, ht⟩, k⟩ := t
  have g : Gw H H2 := ⟨fun a o e nn => by
    by_cases z : a = P
    · subst z; rw [e1] at e; cases e; exact absurd rfl (nn ps)
    · rw [k a z]; exact e, fun a qs e => by
    by_cases z : a = P
    · subst z; rw [e1] at e; cases e; exact ⟨more, e2, fun _ => ht⟩
    · exact ⟨#[], by rw [Array.append_empty, k a z]; exact ⟨e, id⟩⟩⟩
  exact ⟨Same.refl _, Gw.same n s g, g, id, fun a o x y => by rw [y] at x; cases x⟩
theorem any_imp [Tbs] {K : PySem.W.Frag} {fi : Rho → Option (List PyData)} {g : TG} {bd : PyData → Rho → Option Rho} {is own : List Nat} {t : Rho → Option Bool} {f : Rho → Option PyData} {js : List (Option Nat)} {P : Addr} {stop : Bool} (hP : P ∈ Tbs.T) (hg : GD K g bd is) (hv : ∀ i ∈ is, i ∈ own) (hj : ∀ i ∈ own, js[i]? = some none)
    {Yd : V → Hp → (Hp → Prop) → Prop} {σ : L2.St} {H : Hp} {Q : VK} (hY : ∀ (b : Bool) (H' : Hp) (Nx : Hp → Prop), (if b = stop then Q (.bl stop) H' else Nx H') → Yd (.bl b) H' Nx) (h : tD K (fAnyG stop fi bd t f js) σ H Q) :
    tGenX P (tDI K fi) g (tDT K t) (tD K f) js own (Q (.bl (!stop))) Yd σ H := by
  obtain ⟨H0, B, ρ, d, s, hf, q⟩ := h
  obtain ⟨xs, hxs, hf⟩ := bind_some hf
  obtain ⟨r, hr, rfl⟩ := Option.map_eq_some_iff.mp hf
  refine ⟨H0, B, ρ, xs, s, hxs, fun J B1 H1 t1 it => ⟨(s.tr t1).tb P hP, fun H2 gr => ?_⟩⟩
  have s1 := s.tr t1
  have t2 := tr_tab s1.nt s1.bh gr
  have s2 := s1.tr t2
  have fix : wipe (pick σ js) own = pick σ js := wipe_fix (pick_own hj)
  refine ⟨fun i m H' => ∃ B2, Tr B1 H2 B2 H' ∧ m = xs.length - i ∧ i ≤ xs.length ∧ gAny stop bd t f (pickR ρ js) (xs.drop i) = some r, ⟨xs.length, B1, Tr.refl s2.bh, rfl, Nat.zero_le _, hr⟩, ?_⟩
  rintro i m H' ⟨B2, t3, rfl, hi, hgo⟩
  have T3 := (t1.trans t2).trans t3
  by_cases hlt : i < xs.length
  · have hx : xs[i]? = some xs[i] := by simp [hlt]
    obtain ⟨go, yld⟩ := it.2 i xs[i] hx H' (t3.b.trans t3.t)
    rw [List.drop_eq_getElem_cons hlt] at hgo
    unfold gAny at hgo
    obtain ⟨ρ1, h1, hgo⟩ := bind_some hgo
    obtain ⟨b, h2, hgo⟩ := bind_some hgo
    refine .inr ⟨go, _, fun H'' nx => ⟨xs.length - (i + 1), by omega, nx⟩, fun x H3 y => ?_⟩
    obtain ⟨B3, t4, d4⟩ := yld x H3 y B2 t3.b t3.t
    refine hg H0 B3 H3 (pickR ρ js) ρ1 (pick σ js) x xs[i] _ (sl_pick ((s2.tr t3).tr t4) js) d4 h1 fun σ' hw s4 => ⟨by rw [hw own hv, fix], ?_⟩
    refine ⟨H0, B3, ρ1, b, s4, h2, fun B4 H4 t5 => ?_⟩
    have T5 := (t3.trans t4).trans t5
    cases b with
    | true =>
      simp only [if_true] at hgo ⊢
      obtain ⟨c, h3, hgo⟩ := bind_some hgo
      refine ⟨H0, B4, ρ1, .bool c, s4.tr t5, fB_some h3, fun v B5 H5 t6 d6 => ?_⟩
      cases d6
      refine hY c H5 _ ?_
      by_cases hc : c = stop
      · rw [if_pos hc] at hgo ⊢
        cases hgo
        exact q _ B5 H5 ((t1.trans t2).trans (T5.trans t6)) (.bl _)
      · rw [if_neg hc] at hgo ⊢
        exact ⟨B5, T5.trans t6, (by trivial), hlt, hgo⟩
    | false =>
      simp only [Bool.false_eq_true, if_false] at hgo ⊢
      exact ⟨B4, T5, (by trivial), hlt, hgo⟩
  · have e : xs.length = i := by omega
    subst e
    rw [List.drop_length] at hgo
    cases hgo
    exact .inl ⟨it.1 H' (t3.b.trans t3.t), q _ B2 H' T3 (.bl _)⟩
section
variable {X : Cx} {N' : List Str} {js : List (Option Nat)} {own is : List Nat} {elt tg iter : Expr} {ifs : List Expr} {scope : Scope} {pos p cpos : Pos} {c P : Addr} {k : Nat} {fi : Rho → Option (List PyData)} {g : TG} {bd : PyData → Rho → Option Rho} {t : Rho → Option Bool} {f : Rho → Option PyData}
theorem pd_anyG [Tbs] (hgd : GD X.K g bd is) (hv : ∀ i ∈ is, i ∈ own) (hj : ∀ i ∈ own, js[i]? = some none) (hr : Room (k + 1) X.A) (TB : TabB X.base X.mg c P ∧ P ∈ Tbs.T) (hcode : X.env.code = .ref c) (S : GScp X.N N' js X.env.scope scope) (hgl : Gl X "any") (hm : X.mg "any" = none) (hi : PDI X tg iter fi)
    (hg : ∀ (s : Shared) (H : Hp) (C : Addr) (cl : List (Str × Addr)) (code : Value) (A : Around) (fp : List Addr), Room k A → PG (gcx X s H (genEnv scope cl C code builtinsNs X.env) N' A fp) tg g)
    (ht : ∀ (s : Shared) (H : Hp) (C : Addr) (cl : List (Str × Addr)) (code : Value) (A : Around) (fp : List Addr), Room k A → PDTs (gcx X s H (genEnv scope cl C code builtinsNs X.env) N' A fp) ifs t)
    (he : ∀ (s : Shared) (H : Hp) (C : Addr) (cl : List (Str × Addr)) (code : Value) (A : Around) (fp : List Addr), Room k A → PD (gcx X s H (genEnv scope cl C code builtinsNs X.env) N' A fp) elt f)
    (hs : ∀ v, genFold iter X.env v = pure v := by intro _; rfl)
    (hst : starEach [.GeneratorExp elt [⟨tg, iter, ifs, 0⟩] scope pos] X.env = (false, eval (.GeneratorExp elt [⟨tg, iter, ifs, 0⟩] scope pos) X.env) :: starEach [] X.env := by rfl) :
    PD X (.Call (.Name "any" p) [.GeneratorExp elt [⟨tg, iter, ifs, 0⟩] scope pos] [] cpos) (fAnyG true fi bd t f js) :=
  pe_imp (pe_anyG hr TB.1 hcode S hgl hm hi hg ht he hs hst) fun σ H Q h => any_imp TB.2 hgd hv hj (fun b H' Nx z => ⟨b, rfl, by cases b <;> simpa using z⟩) h
theorem pd_allG [Tbs] (hgd : GD X.K g bd is) (hv : ∀ i ∈ is, i ∈ own) (hj : ∀ i ∈ own, js[i]? = some none) (hr : Room (k + 1) X.A) (TB : TabB X.base X.mg c P ∧ P ∈ Tbs.T) (hcode : X.env.code = .ref c) (S : GScp X.N N' js X.env.scope scope) (hgl : Gl X "all") (hm : X.mg "all" = none) (hi : PDI X tg iter fi)
    (hg : ∀ (s : Shared) (H : Hp) (C : Addr) (cl : List (Str × Addr)) (code : Value) (A : Around) (fp : List Addr), Room k A → PG (gcx X s H (genEnv scope cl C code builtinsNs X.env) N' A fp) tg g)
    (ht : ∀ (s : Shared) (H : Hp) (C : Addr) (cl : List (Str × Addr)) (code : Value) (A : Around) (fp : List Addr), Room k A → PDTs (gcx X s H (genEnv scope cl C code builtinsNs X.env) N' A fp) ifs t)
    (he : ∀ (s : Shared) (H : Hp) (C : Addr) (cl : List (Str × Addr)) (code : Value) (A : Around) (fp : List Addr), Room k A → PD (gcx X s H (genEnv scope cl C code builtinsNs X.env) N' A fp) elt f)
    (hs : ∀ v, genFold iter X.env v = pure v := by intro _; rfl)
    (hb : bootBuiltins "all" = some (.builtin "all") := by decide +kernel)
    (hst : starEach [.GeneratorExp elt [⟨tg, iter, ifs, 0⟩] scope pos] X.env = (false, eval (.GeneratorExp elt [⟨tg, iter, ifs, 0⟩] scope pos) X.env) :: starEach [] X.env := by rfl) :
    PD X (.Call (.Name "all" p) [.GeneratorExp elt [⟨tg, iter, ifs, 0⟩] scope pos] [] cpos) (fAnyG false fi bd t f js) :=
  pe_imp (pe_allG hr TB.1 hcode S hgl hm hb hi hg ht he hs hst) fun σ H Q h => any_imp TB.2 hgd hv hj (fun b H' Nx z => ⟨b, rfl, by cases b <;> simpa using z⟩) h
end
end Dn

namespace Dn
open PySem L2 PySem.Spec PyProof.Rows Gx GxR

/-- a def as it stands behind the top, its code object at c -/
structure DfG (K : PySem.W.Frag) (mg : Str → Option Value) (x : Str) (st : Stmt) (ps : List Str) (c : Addr) : Prop where
  ex : ∃ (f : Addr) (oc : Value) (od : Option Addr) (kV doc pm : Value) (an : Option Addr) (ct : Value) (osl : Array (Option Value)),
    K.lookup f = some ⟨oc, od, .func (PySem.W.fnOf x x (defArgs st) (defBody st) (defScope st) .none kV doc pm an (.ref c) ct), osl⟩ ∧ PySem.W.codeIn K (.ref c) x = true ∧ PySem.W.keepIn K (.ref f) = true ∧ mg x = some (.ref f) ∧
    L2.Binds K (PySem.W.fnOf x x (defArgs st) (defBody st) (defScope st) .none kV doc pm an (.ref c) ct) ps []
section
variable {P : Program} {w : World} {K : PySem.W.Frag} {mg : Str → Option Value} {base : Heap} {x : Str} {st : Stmt}
theorem DfG.df {ps : List Str} {c : Addr} (D : DfG K mg x st ps c) : Df K mg x st ps := by
  obtain ⟨f, oc, od, kV, doc, pm, an, ct, osl, l, h, k, m, b⟩ := D.ex
  exact ⟨f, _, fun_mk l h k, m, b⟩
theorem kn_ofG [Tbs] {N ps : List Str} {k : Nat} {c : Addr} {g : Rho → Option Out} (D : DfG K mg x st ps c) (S : FnScope N ps (defScope st))
    (hb : ∀ (f : Addr) (A : Around) (outer : List Env) (s : Shared) (H : Hp) (E : XK), Room k (A.deeper (envOfC x (defScope st) s.heap.objs.size f (.ref c))) → PSDs (cxOf CX0 P w K mg base N x (defScope st) f (.ref c) A outer s H E).nox (defBody st) g) :
    Kn P w K mg base (k + 1) ps.length x (fnD N.length g) := by
  obtain ⟨f, oc, od, kV, doc, pm, an, ct, osl, l, hcd, kp, m, b⟩ := D.ex
  refine ⟨f, _, ps, ?_, m, kp, b⟩
  refine fn_of l hcd S (fun vs H Q E ⟨B, ds, d, h1, h2, h3, _⟩ => by rw [dpAll_len h2, h3]) fun A outer s H vs Q E hr ⟨B, ds, d, h1, h2, h3, h4, q⟩ => ?_
  refine ⟨_, (hb f A outer s H E hr).nox, B, H, startR N.length ds, ?_⟩
  unfold fnD retD at h4
  split at h4
  · rename_i o ρ' e
    cases h4
    exact ⟨_, ⟨B, Tr.refl h1.s, sl_start h1 h2⟩, e, fun v σ' B' H' t _ dd => q v B' H' t dd⟩
  · rename_i o ρ e
    cases h4
    exact ⟨_, ⟨B, Tr.refl h1.s, sl_start h1 h2⟩, e, fun σ' H' ⟨B', t, _⟩ => q .non B' H' t .non⟩
  · cases h4
end
theorem walk_tab {l : PySem.W.OpenLaw} {n k : Nat} {q : Program} {loose : List Str} {XP : (Str → Option Value) → Heap → Prop} {YP : World → Heap → Prop} {d : DefRec} {K : Params → PySem.W.Frag} {CX : World → CXT} {x : Str}
    (hn : l.most = some n) (hn2 : n ≤ sizeLine) (hdf : d.params.defaults = []) (hr : Room k callerA) (hY : ∀ (w : World) (h : Heap), YP w h → (K w.params).In h)
    (F : ∀ (w : World) (mg : Str → Option Value) (fa : Addr) (h : Heap), YP w h → (K w.params).In h → h.Ns mainGlobals mg → mg d.name = some (.ref fa) →
      (∀ (y : Str) (e : DefRec) (c P : Addr), (recsOf q).find? (fun e => e.name == y) = some e → PySem.W.tabIn (K w.params) y = some (c, P) → PySem.W.CodeHd h c P ∧ h.get? P = some { cls := .none, data := .fields #[] }) → LamX.LawAtS l w (K w.params) (CX w) k n x mg fa h)
    (hCX : ∀ (w : World) (H : Hp) (s : Shared) (e : Value) (s' : Shared), CX w [] H s (fun _ _ _ => False) e s' → False) :
    PySem.W.WalkO q loose XP YP l.row.toRowW d [] (fun f vs => PySem.call f vs) := by
  refine Att.attach_callB hn hdf fun w s₀ s₁ mg mb fa o pm cd doc a vs ns G Y ho hd hcd hmg hobj hints hlen hbits hg => ?_
  have KX := hY w _ Y
  obtain ⟨fd, cs, sp, hT, nT, C, hb, hsp, hF⟩ := F w mg fa _ Y KX G.T.g hmg (fun y e c P e1 e2 => PySem.W.tab_of G.T KX e1 e2)
  exact LamX.law_callTs KX G.T.g G.T.b G.T.builtins G.T.nolimit hg hT nT C G.T.bmain hobj hints (Nat.le_trans hlen hn2) hr hF hb (fun H hH hS => hsp H a ns hlen hbits hH hS) fun H e s' => hCX w H s₁ e s'
end Dn

namespace Gx
open PySem L2 PySem.Spec PyProof.Rows
def isFn : ScopeKind → Bool
  | .function => true
  | _ => false
def gscpC (N N' : List Str) (js : List (Option Nat)) (sc scope : Scope) : Bool :=
  (isFn scope.kind && (!scope.isCoroutine && decide (scope.names.lookup (".0" : Str) = some NameKind.local))) && (decide (js.length = N'.length) &&
    (scope.names.all (fun y => decide (y.2 ≠ .cell) && (decide (scope.names.lookup y.1 = some y.2) && (decide (y.2 ≠ .free) || (decide (sc.names.lookup y.1 = some .cell) || decide (sc.names.lookup y.1 = some .free))))) &&
      (List.range N'.length).all (fun i => match N'[i]?, js[i]? with
        | some x, some (some j) => decide (N[j]? = some x) && decide (scope.names.lookup x = some .free)
        | _, _ => true)))
theorem gscp_by {N N' : List Str} {js : List (Option Nat)} {sc scope : Scope} (h : gscpC N N' js sc scope = true) : GScp N N' js sc scope := by
  unfold gscpC at h
  simp only [Bool.and_eq_true, List.all_eq_true, decide_eq_true_eq, Bool.not_eq_true', Bool.or_eq_true] at h
  obtain ⟨⟨h1, h2, h3⟩, h4, h5, h6⟩ := h
  refine ⟨?_, h2, fun y hy => (h5 y hy).1, h3, fun y hy => (h5 y hy).2.1, fun y hy e => ?_, h4, fun i j x e1 e2 => ?_⟩
  · unfold isFn at h1
    split at h1
    · assumption
    · cases h1
  · rcases (h5 y hy).2.2 with z | z
    · exact absurd e z
    · exact z
  · have q := h6 i (List.mem_range.mpr (List.getElem?_eq_some_iff.mp e1).1)
    simp only [e1, e2, Bool.and_eq_true, decide_eq_true_eq] at q
    exact q
end Gx

namespace Dn
open PySem L2 PySem.Spec PyProof.Rows
/-- a constant of the module -/
structure Cn [Tbs] (K : PySem.W.Frag) (mg : Str → Option Value) (x : Str) (d : PyData) : Prop where
  ex : ∃ v u, mg x = some u ∧ RelV v u ∧ ∀ H, Dq K H v d
theorem pd_gl [Tbs] {X : Cx} {x : Str} {d : PyData} {pos : Pos} (h : Cn X.K X.mg x d) (hg : Gl X x := by rfl) (hd : (x == ("__debug__" : Str)) = false := by decide) : PD X (.Name x pos) (fC d) := by
  obtain ⟨v, u, hm, r, q⟩ := h.ex
  refine pe_imp (pe_glob hg hm r hd) fun σ H Q ⟨H0, B, ρ, d', s, hf, k⟩ => ?_
  cases hf
  exact k v B H (Tr.refl s.bh) (q B)
end Dn

namespace Gx
open PySem PySem.TypeEq
open Sem (wp)
theorem slot_type_ne : Slot "type" (cmpInfo .NotEq).2.1 "object.__ne__" :=
  .of (owner := "object") (n := "__ne__") (by rw [typeLookup_type, builtinLookup_eq_fast]; kernel_rfl) (by decide +kernel) (by decide +kernel) (by decide +kernel)
    (by first | exact .inl (by decide +kernel) | exact .inr (by decide +kernel)) (by rw [isSubtype_type]; kernel_rfl)
theorem slot_type_ne_refl : Slot "type" (cmpInfo .NotEq).2.2 "object.__ne__" :=
  .of (owner := "object") (n := "__ne__") (by rw [typeLookup_type, builtinLookup_eq_fast]; kernel_rfl) (by decide +kernel) (by decide +kernel) (by decide +kernel)
    (by first | exact .inl (by decide +kernel) | exact .inr (by decide +kernel)) (by rw [isSubtype_type]; kernel_rfl)
section
variable {prog : Program} {w : World} {A : Around} {E : Value → Shared → Prop} {s : Shared}
theorem ne_call {X Y : String} {r : Value} (hX : ∀ s' : Shared, s'.TypeIs (.type X) "type") (hr : Gives (Builtin.«object.__eq__» ⟨[.type X, .type Y], []⟩) (.val r)) {out : Value} (ho : (r = .notImplemented ∧ out = .notImplemented) ∨ ∃ b, r = .bool b ∧ out = .bool (!b)) {Q : Value → Shared → Prop} (hQ : Q out s) :
    wpAny (model prog w) A (call (.builtin "object.__ne__") [.type X, .type Y]) Q E s := by
  refine wpAny_call_entry slot_type_ne (hX s) PySem.F.cmpEntry_ne ?_ (PySem.F.cmpArgs_ne _ _)
  unfold Builtin.«object.__ne__»
  have hsp : ∀ {Q' : Option Value → Shared → Prop}, Q' (some r) s → wpAny (model prog w) A.in1 (callSpecialIfBound? (.type X) "__eq__" [.type Y]) Q' E s := fun h =>
    wpAny_callSpecialIfBound?_slot (hX s) slot_type_eq (call_gives slot_type_eq (hX s) F.entry_object_eq (F.args_object_eq_2 _ _) hr h)
  rcases ho with ⟨rfl, rfl⟩ | ⟨b, rfl, rfl⟩
  · repeat (first | with_reducible refine wpAny_cRoomFor_or (.inl rfl) ?_ | with_reducible refine hsp ?_ | wp_step)
    exact ⟨_, rfl, hQ⟩
  · repeat (first | with_reducible refine wpAny_cRoomFor_or (.inl rfl) ?_ | with_reducible refine hsp ?_ | wp_step)
    exact ⟨_, rfl, hQ⟩
end
section
variable {M : Model} {A : Around} {E : Value → Shared → Prop} {s : Shared}
theorem rc_ne_same_decline {a b : Value} {T id : String} {k : Bool} {Q : Value → Shared → Prop} (ha : ∀ s' : Shared, s'.TypeIs a T) (hb : ∀ s' : Shared, s'.TypeIs b T)
    (h1 : Slot T (cmpInfo .NotEq).2.1 id) (h2 : Slot T (cmpInfo .NotEq).2.2 id) (hv : [a, b].any Value.onHeap = false) (hk : isSame a b = pure k)
    (hc : wpAny M A (call (.builtin id) [a, b]) (fun v s₁ => v = .notImplemented ∧ wpAny M A (call (.builtin id) [b, a]) (fun v s₂ => v = .notImplemented ∧ Q (.bool (!k)) s₂) E s₁) E s) :
    wpAny M A (richCompare .NotEq a b) Q E s := by
  rcases hi : cmpInfo CmpOp.NotEq with ⟨sym, f, r⟩
  rw [hi] at h1 h2
  simp only [richCompare, hi, (ha s).oneThing_none]
  try with_reducible refine wpAny_holding ?_
  refine wpAny_bind (wpAny_cRoomFor_or (.inl hv) ?_)
  refine wpAny_bind (wpAny_typeOf (ha s) (wpAny_bind (wpAny_typeOf (hb s) ?_)))
  simp only [bne_self_eq_false, Bool.false_eq_true, if_false, pure_bind, Bool.not_false, if_true]
  refine wpAny_bind (m := tryCompare a _ b) (wpAny_tryCompare_declines (ha s) h1 (wpAny_mono hc (fun v s₁ h₁ => ⟨h₁.1, ?_⟩) fun _ _ x => x))
  refine wpAny_bind (m := tryCompare b _ a) (wpAny_tryCompare_declines (hb s₁) h2 (wpAny_mono h₁.2 (fun v s₂ h₂ => ⟨h₂.1, ?_⟩) fun _ _ x => x))
  refine wpAny_bind (wpAny_rule (wpAny_bind (wpAny_of_eq hk (wpAny_pure h₂.2))))
end
section
variable {prog : Program} {w : World} {A : Around} {E : Value → Shared → Prop} {s : Shared} {Q : Value → Shared → Prop}
theorem ne_type_same {X : String} (hX : ∀ s' : Shared, s'.TypeIs (.type X) "type") (h : Q (.bool false) s) : wpAny (model prog w) A (compareOp .NotEq (.type X) (.type X)) Q E s := by
  show wpAny _ A (richCompare .NotEq _ _) Q E s
  exact wpAny_richCompare_same (T := "type") (hX s) (hX s) slot_type_ne (ne_call hX (object_eq_same rfl (by simp)) (.inr ⟨true, rfl, rfl⟩) ⟨(by intro e; cases e), h⟩)
theorem ne_type_other {X Y : String} (hX : ∀ s' : Shared, s'.TypeIs (.type X) "type") (hY : ∀ s' : Shared, s'.TypeIs (.type Y) "type") (hne : (Value.type X == Value.type Y) = false) (h : Q (.bool true) s) : wpAny (model prog w) A (compareOp .NotEq (.type X) (.type Y)) Q E s := by
  have hne' : (Value.type Y == Value.type X) = false := by
    rw [Bool.eq_false_iff] at hne ⊢
    intro e
    exact hne (by rw [beq_iff_eq] at e ⊢; exact e.symm)
  show wpAny _ A (richCompare .NotEq _ _) Q E s
  exact rc_ne_same_decline (T := "type") (k := false) hX hY slot_type_ne slot_type_ne_refl rfl (by rw [isSame_plain rfl, hne])
    (ne_call hX (object_eq_other rfl hne) (.inl ⟨rfl, rfl⟩) ⟨rfl, ne_call hY (object_eq_other rfl hne') (.inl ⟨rfl, rfl⟩) ⟨rfl, h⟩⟩)
end
section
open L2 PySem.Spec PyProof.Rows
variable {X : Cx}
def TyGood (T : String) : Prop := ∀ s' : Shared, s'.TypeIs (.type T) "type"
theorem op_eqTyp : OpR X (compareOp .Eq) (fun x y H Q => ∃ m n, x = .ty m ∧ y = .ty n ∧ TyGood m ∧ TyGood n ∧ Q (.bl (decide (m = n))) H) := by
  intro pins s σ H x y v u Q I rx ry h
  obtain ⟨m, n, rfl, rfl, gm, gn, q⟩ := h
  cases (show v = Value.type m from rx)
  cases (show u = Value.type n from ry)
  by_cases e : m = n
  · subst e
    exact eq_type_same gm ⟨.bl true, H, I, rfl, by simpa using q⟩
  · exact eq_type_other gm gn (by rw [ty_beq]; simpa using e) ⟨.bl false, H, I, rfl, by simpa [e] using q⟩
theorem op_neTyp : OpR X (compareOp .NotEq) (fun x y H Q => ∃ m n, x = .ty m ∧ y = .ty n ∧ TyGood m ∧ TyGood n ∧ Q (.bl (!decide (m = n))) H) := by
  intro pins s σ H x y v u Q I rx ry h
  obtain ⟨m, n, rfl, rfl, gm, gn, q⟩ := h
  cases (show v = Value.type m from rx)
  cases (show u = Value.type n from ry)
  by_cases e : m = n
  · subst e
    exact ne_type_same gm ⟨.bl false, H, I, rfl, by simpa using q⟩
  · exact ne_type_other gm gn (by rw [ty_beq]; simpa using e) ⟨.bl true, H, I, rfl, by simpa [e] using q⟩
end
end Gx

namespace Dn
open PySem L2 PySem.Spec PyProof.Rows Gx

/-! ### type(e) == T, type(e) != T -/
theorem tyGood (d : PyData) : TyGood (tyN d) := by
  cases d <;> first | exact TypeEq.meta_NoneType | exact TypeEq.meta_bool | exact TypeEq.meta_int | exact TypeEq.meta_str | exact TypeEq.meta_list | exact TypeEq.meta_tuple | exact TypeEq.meta_dict
theorem tyB_of [Tbs] {K : PySem.W.Frag} {B H : Hp} {v : V} {d : PyData} (s : Same B H) (h : Dq K B v d) (hb : bareD d = true) : TyB K H v (tyN d) := by
  cases h with
  | non => exact .non
  | bl b => exact .bl b
  | int i => exact .int i
  | str x => exact .str x
  | lst h a => exact .lst (sqL_mono s h)
  | tup h a => exact .tup (sqT_mono s h)
  | emp h => exact .dK (s _ _ h)
  | ins h a => cases hb
def tyEqD (T : String) (x : PyData) : Option PyData := if bareD x = true then some (.bool (decide (tyN x = T))) else none
def tyNeD (T : String) (x : PyData) : Option PyData := if bareD x = true then some (.bool (!decide (tyN x = T))) else none
section
variable {X : Cx} {e e2 : Expr} {f : Rho → Option PyData} {T : String} {p cpos pos : Pos}
theorem ty_imp [Tbs] {op : Bool} (gT : TyGood T) (he : ∀ σ H Q, tD X.K f σ H Q → tD X.K f σ H Q) : ∀ σ H Q, tD X.K (f1 (if op then tyEqD T else tyNeD T) f) σ H Q →
    tOp (if op then (fun x y H Q => ∃ m n, x = V.ty m ∧ y = .ty n ∧ TyGood m ∧ TyGood n ∧ Q (.bl (decide (m = n))) H) else (fun x y H Q => ∃ m n, x = V.ty m ∧ y = .ty n ∧ TyGood m ∧ TyGood n ∧ Q (.bl (!decide (m = n))) H)) (tCB (rTyp X.K) (tCons (tD X.K f) tNil)) (tC (.ty T)) σ H Q := fun σ H Q ⟨H0, B, ρ, d, s, hf, q⟩ => by
  obtain ⟨x, hx, hf⟩ := bind_some hf
  have hbr : bareD x = true := by
    cases op with
    | true => exact (ite_some (show (if bareD x = true then some (PyData.bool (decide (tyN x = T))) else none) = some d from hf)).1
    | false => exact (ite_some (show (if bareD x = true then some (PyData.bool (!decide (tyN x = T))) else none) = some d from hf)).1
  refine ⟨H0, B, ρ, x, s, hx, fun v B1 H1 t1 d1 => ⟨v, tyN x, rfl, tyB_of t1.t d1 hbr, ?_⟩⟩
  cases op with
  | true => obtain ⟨_, rfl⟩ := ite_some (show (if bareD x = true then some (PyData.bool (decide (tyN x = T))) else none) = some d from hf); exact ⟨tyN x, T, rfl, rfl, tyGood x, gT, q _ B1 H1 t1 (.bl _)⟩
  | false => obtain ⟨_, rfl⟩ := ite_some (show (if bareD x = true then some (PyData.bool (!decide (tyN x = T))) else none) = some d from hf); exact ⟨tyN x, T, rfl, rfl, tyGood x, gT, q _ B1 H1 t1 (.bl _)⟩
theorem boot_type : bootBuiltins "type" = some (.type "type") := by decide +kernel
theorem pd_tyEq [Tbs] (hg : Gl X "type") (hm : X.mg "type" = none) (he : PD X e f) (h2 : PE X e2 (tC (.ty T))) (gT : TyGood T) (hk : behindInMarks .Eq e2 = false) (hs : starEach [e] X.env = (false, eval e X.env) :: starEach [] X.env := by rfl) (hpl : (backTo cpos (starEach [] X.env)).any (·.1) = false := by rfl) :
    PD X (.Compare (.Call (.Name "type" p) [e] [] cpos) [.Eq] [e2] pos) (f1 (tyEqD T) f) := pe_imp (pe_cmpR op_eqTyp (pe_callTy call_type1 hg hm boot_type (pa_cons he pa_nil hs) (by decide) (by decide) hs hpl) h2 hk) (ty_imp (op := true) gT fun _ _ _ z => z)
theorem pdt_tyEq [Tbs] (hg : Gl X "type") (hm : X.mg "type" = none) (he : PD X e f) (h2 : PE X e2 (tC (.ty T))) (gT : TyGood T) (hk : behindInMarks .Eq e2 = false) (hs : starEach [e] X.env = (false, eval e X.env) :: starEach [] X.env := by rfl) (hpl : (backTo cpos (starEach [] X.env)).any (·.1) = false := by rfl) :
    PDT X (.Compare (.Call (.Name "type" p) [e] [] cpos) [.Eq] [e2] pos) (fB (f1 (tyEqD T) f)) := pt_imp (pt_cmpR op_eqTyp (pe_callTy call_type1 hg hm boot_type (pa_cons he pa_nil hs) (by decide) (by decide) hs hpl) h2 hk) (of_test (ty_imp (op := true) gT fun _ _ _ z => z))
theorem pd_tyNe [Tbs] (hg : Gl X "type") (hm : X.mg "type" = none) (he : PD X e f) (h2 : PE X e2 (tC (.ty T))) (gT : TyGood T) (hk : behindInMarks .NotEq e2 = false) (hs : starEach [e] X.env = (false, eval e X.env) :: starEach [] X.env := by rfl) (hpl : (backTo cpos (starEach [] X.env)).any (·.1) = false := by rfl) :
    PD X (.Compare (.Call (.Name "type" p) [e] [] cpos) [.NotEq] [e2] pos) (f1 (tyNeD T) f) := pe_imp (pe_cmpR op_neTyp (pe_callTy call_type1 hg hm boot_type (pa_cons he pa_nil hs) (by decide) (by decide) hs hpl) h2 hk) (ty_imp (op := false) gT fun _ _ _ z => z)
theorem pdt_tyNe [Tbs] (hg : Gl X "type") (hm : X.mg "type" = none) (he : PD X e f) (h2 : PE X e2 (tC (.ty T))) (gT : TyGood T) (hk : behindInMarks .NotEq e2 = false) (hs : starEach [e] X.env = (false, eval e X.env) :: starEach [] X.env := by rfl) (hpl : (backTo cpos (starEach [] X.env)).any (·.1) = false := by rfl) :
    PDT X (.Compare (.Call (.Name "type" p) [e] [] cpos) [.NotEq] [e2] pos) (fB (f1 (tyNeD T) f)) := pt_imp (pt_cmpR op_neTyp (pe_callTy call_type1 hg hm boot_type (pa_cons he pa_nil hs) (by decide) (by decide) hs hpl) h2 hk) (of_test (ty_imp (op := false) gT fun _ _ _ z => z))

/-! ### a op b op' c -/
variable {a b c : Expr} {fa fb fc : Rho → Option PyData}
def fCh (g g' : PyData → PyData → Option PyData) (fa fb fc : Rho → Option PyData) : Rho → Option PyData := fun ρ => (fa ρ).bind fun x => (fb ρ).bind fun y => (g x y).bind fun z => match z with
  | .bool true => (fc ρ).bind fun w => g' y w
  | .bool false => some (.bool false)
  | _ => none
theorem chain_imp [Tbs] {K : PySem.W.Frag} {r r' : R2} {g g' : PyData → PyData → Option PyData} (hr : RD K r g) (hr' : RD K r' g') : ∀ σ H Q, tD K (fCh g g' fa fb fc) σ H Q → tChain r r' (tD K fa) (tD K fb) (tD K fc) σ H Q := fun σ H Q ⟨H0, B, ρ, d, s, hf, q⟩ => by
  obtain ⟨x, hx, hf⟩ := bind_some hf
  obtain ⟨y, hy, hf⟩ := bind_some hf
  obtain ⟨z, hz, hf⟩ := bind_some hf
  refine ⟨H0, B, ρ, x, s, hx, fun v B1 H1 t1 d1 => ?_⟩
  have s1 := s.tr t1
  refine ⟨H0, B1, ρ, y, s1, hy, fun w B2 H2 t2 d2 => ?_⟩
  have s2 := s1.tr t2
  refine hr B2 H2 v w x y z _ t2.t (dp_mono t2.b d1) d2 hz fun u B3 H3 t3 d3 => ?_
  have s3 := s2.tr t3
  have T3 := (t1.trans t2).trans t3
  split at hf
  · cases d3
    refine ⟨true, rfl, ?_⟩
    rw [if_pos rfl]
    obtain ⟨m, hm, hf⟩ := bind_some hf
    refine ⟨H0, B3, ρ, m, s3, hm, fun n B4 H4 t4 d4 => ?_⟩
    exact hr' B4 H4 w n y m d Q t4.t (dp_mono t4.b (dp_mono t3.b d2)) d4 hf fun o B5 H5 t5 d5 => q o B5 H5 ((T3.trans t4).trans t5) d5
  · cases d3
    cases hf
    refine ⟨false, rfl, ?_⟩
    rw [if_neg Bool.false_ne_true]
    exact q _ B3 H3 T3 (.bl _)
  · cases hf
theorem pd_chain [Tbs] {op op' : CmpOp} {r r' : R2} {g g' : PyData → PyData → Option PyData} (ho : OpR X (compareOp op) r) (hr : RD X.K r g) (ho' : OpR X (compareOp op') r') (hr' : RD X.K r' g') (ha : PD X a fa) (hb : PD X b fb) (hc : PD X c fc)
    (hm : lastMarks [op, op'] [b, c] = false := by with_unfolding_all rfl) : PD X (.Compare a [op, op'] [b, c] pos) (fCh g g' fa fb fc) := pe_imp (pe_chain ho ho' ha hb hc hm) (chain_imp hr hr')
theorem pdt_chain [Tbs] {op op' : CmpOp} {r r' : R2} {g g' : PyData → PyData → Option PyData} (ho : OpR X (compareOp op) r) (hr : RD X.K r g) (ho' : OpR X (compareOp op') r') (hr' : RD X.K r' g') (ha : PD X a fa) (hb : PD X b fb) (hc : PD X c fc)
    (hm : lastMarks [op, op'] [b, c] = false := by with_unfolding_all rfl) : PDT X (.Compare a [op, op'] [b, c] pos) (fB (fCh g g' fa fb fc)) := pt_imp (pt_chain ho ho' ha hb hc hm) (of_test (chain_imp hr hr'))
end
end Dn

set_option maxHeartbeats 1000000
namespace PySem
theorem list_extendW (l : Addr) (items : Array Value) (n : Nat) (b : Addr) (items2 : Array Value) (n2 : Nat) (dd : Option Addr) (sl : Array (Option Value)) (hc0 : ¬(!items.isEmpty && Builtin.List.listTooLong (items.size + items2.size)) = true) (hc1 : items.size ≤ sizeLine) (hs2 : items.size + items2.size ≤ sizeLine + 1) :
    Meets (Builtin.«list.extend» ⟨[.ref l, .ref b], []⟩) (fun _ R s => s.heap.get? l = some { cls := .type "list", dict := none, data := .seq items n, slots := #[] } ∧ s.heap.get? b = some { cls := .type "list", dict := dd, data := .seq items2 n2, slots := sl } ∧ R (.ok (.ret Value.none)) { s with heap := s.heap.update l (Obj.mapSeq fun x => x ++ items2), toks := s.toks }) :=
  .of_wp fun prog w A R s h => by
    obtain ⟨hp, g, d, tk, os⟩ := s; obtain ⟨hl, hb, h⟩ := h; have f1 := AutoSeq1.idx_int; have f2 := AutoSeq1.sub_tuple_tuple; have f3 := AutoSeq1.sub_list_list; have f4 := AutoSeq1.sub_tuple_list; have f5 := AutoSeq1.sub_list_tuple
    have hz' : (items ++ items2).size ≤ sizeLine + 1 := by rw [Array.size_append]; exact hs2
    wp_walk using (wpAny_updateSeq hl rfl (hz := hc1) (_hz' := hz')), wpAny_loadPart' hl, wpAny_loadPart' hb
    exact ⟨_, rfl, h⟩
end PySem
namespace Dn
open PySem L2 PySem.Spec PyProof.Rows Gx
def rExtG (K : PySem.W.Frag) : V → List V → Hp → VK → Prop := fun x vs H Q => ∃ l b xs zs, x = .ref l ∧ vs = [.ref b] ∧ H l = some (.lst xs) ∧ SqL K H b zs ∧ xs.length + zs.length ≤ sizeLine ∧ Q .non (upd H l (.lst (xs ++ zs)))
section
variable {X : Cx} {st : Stmt} {f : Rho → Option PyData}
theorem mt_extG : MtM X "list.extend" (rExtG X.K) := by
  intro pins s σ H x vs v us Q I rx rv h
  obtain ⟨l, b, xs, zs, rfl, rfl, hH, hB, hz, q⟩ := h
  cases rx
  obtain ⟨u, rfl, ru⟩ := rv.one
  cases ru
  obtain ⟨z, its, n, r, hl, e⟩ := I.lstM hH
  obtain ⟨jts, r2, p2, z2⟩ := I.list hB
  obtain ⟨⟨c2, d2, t2, s2⟩, o2, hc2, n2, hd2⟩ := p2.isList
  simp only at hc2 hd2
  subst hc2 hd2
  have g1 := r.length
  have g2 := r2.length
  have hsz : its.toArray.size + jts.toArray.size ≤ sizeLine := by simp; omega
  have hlong : ¬ (!its.toArray.isEmpty && Builtin.List.listTooLong (its.toArray.size + jts.toArray.size)) = true := by
    rw [notLongL hsz, Bool.and_false]
    exact Bool.false_ne_true
  refine call_meets PySem.F.slot_list_extend ⟨_, e, rfl⟩ PySem.F.entry_list_extend (PySem.F.args_list_extend_2 _ _)
    (list_extendW l its.toArray n b jts.toArray n2 d2 s2 hlong (by simp; omega) (by omega)) ⟨e, o2, ?_⟩
  refine ⟨.non, _, I.lset (its' := its ++ jts) hH e (by simp) (r.append r2) ?_, rfl, q⟩
  rw [List.length_append]
  omega
theorem psd_ext [Tbs] {i : Nat} (h : PS X st (tDrop (tBM X.K "list" (rExtG X.K) (tVar i) (tCons (tD X.K f) tNil)))) : PSD X st (gExt i f) := ps_imp h fun D σ H ⟨B0, H0, ρ, o, ⟨B, t, s⟩, hf, q⟩ => by
  unfold gExt at hf
  split at hf
  · rename_i o xs hx
    obtain ⟨y, hy, hf⟩ := bind_some hf
    split at hf
    · rename_i ys
      obtain ⟨hl, rfl⟩ := ite_some hf
      obtain ⟨a, vs, h1, h2, h3, h4, h5, h6⟩ := s.ow hx
      refine ⟨.ref a, h1, .inl ⟨rfl, vs, SqL.of h4⟩, H0, B, ρ, _, s, hy, fun v B1 H1 t1 d1 => ?_⟩
      have s1 := s.tr t1
      have hb := t1.stay h2 h4
      cases d1 with
      | @lst _ ws _ hw aw =>
        have e5 := dpAll_len h5
        have e6 := dpAll_len aw
        refine ⟨a, _, vs, _, rfl, rfl, t1.h.l h4, sqL_mono t1.t hw, bigL_le (by omega), ?_⟩
        refine q _ _ ⟨B1, (t.trans t1).put hb h3, sl_grow s1 hx h1 hb h3 (dpAll_append (dpAll_mono t1.b h5) aw) h6⟩
    · cases hf
  · cases hf
end
end Dn

namespace Dn
open PySem L2 PySem.Spec PyProof.Rows Gx
/-! ### a constant dict of the module, its keys texts -/
structure Cd [Tbs] (K : PySem.W.Frag) (w : World) (mg : Str → Option Value) (x : Str) (kv : List (Str × PyData)) : Prop where
  ex : ∃ d es n, mg x = some (.ref d) ∧ L2.KDict K w d es n ∧ (∀ z p, kv.lookup z = some p → ∃ u v, PySem.W.nsIn K d z = some (some u) ∧ RelV v u ∧ ∀ H, Dq K H v p) ∧ ∀ z, kv.lookup z = none → PySem.W.nsIn K d z = some none
def inCD (kv : List (Str × PyData)) : PyData → Option PyData
  | .str z => some (.bool (kv.lookup z).isSome)
  | _ => none
def niCD (kv : List (Str × PyData)) : PyData → Option PyData
  | .str z => some (.bool (!(kv.lookup z).isSome))
  | _ => none
def ixCD (kv : List (Str × PyData)) : PyData → Option PyData
  | .str z => kv.lookup z
  | _ => none
section
variable {X : Cx} {a : Expr} {fa : Rho → Option PyData} {x : Str} {p pos : Pos} {kv : List (Str × PyData)}
theorem cd_ns [Tbs] {K : PySem.W.Frag} {d : Addr} (h1 : ∀ z p, kv.lookup z = some p → ∃ u v, PySem.W.nsIn K d z = some (some u) ∧ RelV v u ∧ ∀ H, Dq K H v p) (h2 : ∀ z, kv.lookup z = none → PySem.W.nsIn K d z = some none) (z : Str) : ∃ r, PySem.W.nsIn K d z = some r ∧ r.isSome = (kv.lookup z).isSome := by
  cases e : kv.lookup z with
  | none => exact ⟨none, h2 z e, rfl⟩
  | some p =>
    obtain ⟨u, v, h, _⟩ := h1 z p e
    exact ⟨some u, h, rfl⟩
theorem inC_imp [Tbs] {d : Addr} (h1 : ∀ z p, kv.lookup z = some p → ∃ u v, PySem.W.nsIn X.K d z = some (some u) ∧ RelV v u ∧ ∀ H, Dq X.K H v p) (h2 : ∀ z, kv.lookup z = none → PySem.W.nsIn X.K d z = some none) : ∀ σ H Q, tD X.K (f1 (inCD kv) fa) σ H Q →
    tOp (fun x y H Q => ∃ (z : Str) (r : Option Value), x = .str z ∧ y = .ref d ∧ PySem.W.nsIn X.K d z = some r ∧ Q (.bl r.isSome) H) (tD X.K fa) (tC (.ref d)) σ H Q := fun σ H Q ⟨H0, B, ρ, r, s, hf, q⟩ => by
  obtain ⟨y, hy, hf⟩ := bind_some hf
  unfold inCD at hf
  split at hf
  · rename_i z
    cases hf
    refine ⟨H0, B, ρ, _, s, hy, fun v B1 H1 t1 d1 => ?_⟩
    cases d1
    obtain ⟨r, e, er⟩ := cd_ns h1 h2 z
    exact ⟨z, r, rfl, rfl, e, by rw [er]; exact q _ B1 H1 t1 (.bl _)⟩
  · cases hf
theorem niC_imp [Tbs] {d : Addr} (h1 : ∀ z p, kv.lookup z = some p → ∃ u v, PySem.W.nsIn X.K d z = some (some u) ∧ RelV v u ∧ ∀ H, Dq X.K H v p) (h2 : ∀ z, kv.lookup z = none → PySem.W.nsIn X.K d z = some none) : ∀ σ H Q, tD X.K (f1 (niCD kv) fa) σ H Q →
    tOp (fun x y H Q => ∃ (z : Str) (r : Option Value), x = .str z ∧ y = .ref d ∧ PySem.W.nsIn X.K d z = some r ∧ Q (.bl (!r.isSome)) H) (tD X.K fa) (tC (.ref d)) σ H Q := fun σ H Q ⟨H0, B, ρ, r, s, hf, q⟩ => by
  obtain ⟨y, hy, hf⟩ := bind_some hf
  unfold niCD at hf
  split at hf
  · rename_i z
    cases hf
    refine ⟨H0, B, ρ, _, s, hy, fun v B1 H1 t1 d1 => ?_⟩
    cases d1
    obtain ⟨r, e, er⟩ := cd_ns h1 h2 z
    exact ⟨z, r, rfl, rfl, e, by rw [er]; exact q _ B1 H1 t1 (.bl _)⟩
  · cases hf
theorem pd_inC [Tbs] (h : Cd X.K X.w X.mg x kv) (ha : PD X a fa) (hg : Gl X x := by rfl) (hd : (x == ("__debug__" : Str)) = false := by decide) (hm : behindInMarks .In (.Name x p) = false := by rfl) : PD X (.Compare a [.In] [.Name x p] pos) (f1 (inCD kv) fa) := by
  obtain ⟨d, es, n, m, D, h1, h2⟩ := h.ex
  exact pe_imp (pe_cmpR (op_in_kd D) ha (pe_glob (v := .ref d) hg m rfl hd) hm) (inC_imp h1 h2)
theorem pdt_inC [Tbs] (h : Cd X.K X.w X.mg x kv) (ha : PD X a fa) (hg : Gl X x := by rfl) (hd : (x == ("__debug__" : Str)) = false := by decide) (hm : behindInMarks .In (.Name x p) = false := by rfl) : PDT X (.Compare a [.In] [.Name x p] pos) (fB (f1 (inCD kv) fa)) := by
  obtain ⟨d, es, n, m, D, h1, h2⟩ := h.ex
  exact pt_imp (pt_cmpR (op_in_kd D) ha (pe_glob (v := .ref d) hg m rfl hd) hm) (of_test (inC_imp h1 h2))
theorem pd_niC [Tbs] (h : Cd X.K X.w X.mg x kv) (ha : PD X a fa) (hg : Gl X x := by rfl) (hd : (x == ("__debug__" : Str)) = false := by decide) (hm : behindInMarks .NotIn (.Name x p) = false := by rfl) : PD X (.Compare a [.NotIn] [.Name x p] pos) (f1 (niCD kv) fa) := by
  obtain ⟨d, es, n, m, D, h1, h2⟩ := h.ex
  exact pe_imp (pe_cmpR (op_notIn_kd D) ha (pe_glob (v := .ref d) hg m rfl hd) hm) (niC_imp h1 h2)
theorem pdt_niC [Tbs] (h : Cd X.K X.w X.mg x kv) (ha : PD X a fa) (hg : Gl X x := by rfl) (hd : (x == ("__debug__" : Str)) = false := by decide) (hm : behindInMarks .NotIn (.Name x p) = false := by rfl) : PDT X (.Compare a [.NotIn] [.Name x p] pos) (fB (f1 (niCD kv) fa)) := by
  obtain ⟨d, es, n, m, D, h1, h2⟩ := h.ex
  exact pt_imp (pt_cmpR (op_notIn_kd D) ha (pe_glob (v := .ref d) hg m rfl hd) hm) (of_test (niC_imp h1 h2))
theorem pd_ixC [Tbs] (h : Cd X.K X.w X.mg x kv) (ha : PD X a fa) (hs : PlainIx a) (hg : Gl X x := by rfl) (hd : (x == ("__debug__" : Str)) = false := by decide) : PD X (.Subscript (.Name x p) a pos) (f1 (ixCD kv) fa) := by
  obtain ⟨d, es, n, m, D, h1, h2⟩ := h.ex
  refine pe_imp (pe_ix ix_kdict (pe_glob (v := .ref d) hg m rfl hd) ha hs) fun σ H Q ⟨H0, B, ρ, r, s, hf, q⟩ => ?_
  obtain ⟨y, hy, hf⟩ := bind_some hf
  unfold ixCD at hf
  split at hf
  · rename_i z
    obtain ⟨u, v, e, rv, dv⟩ := h1 z r hf
    refine ⟨H0, B, ρ, _, s, hy, fun w B1 H1 t1 d1 => ?_⟩
    cases d1
    exact ⟨d, z, v, rfl, rfl, ⟨es, n, u, D.at_, D.lit, e, rv⟩, q v B1 H1 t1 (dv B1)⟩
  · cases hf
end
end Dn

/-! sorted(set(xs)), xs a list of fewer than 63 texts: the texts, each once, rising -/
namespace Sx
open PySem PySem.Spec PyProof.Rows L2
abbrev sk (P : Program) (w : World) := PySem.strKind P w
abbrev txtOf (e : Int × Value) : Str := match e.2 with
  | .str k _ => k
  | _ => Str.empty
def Gd (w : World) (e : Int × Value) : Prop := ∃ k tk, e.2 = Value.str k tk ∧ e.1 = hashStr w k
/-- at a stands a set that can be walked, its members are M -/
def SR (w : World) (h : Heap) (a : Addr) (M : List Str) : Prop := ∃ o es ep t, h.get? a = some o ∧ o.ExactSet ∧ o.data = .set es ep t ∧ (∀ e ∈ es.toList, Gd w e) ∧ (es.toList.map txtOf).Perm M ∧ M.Nodup ∧
  M.length < scanBound ∧ t.fits es.size = true ∧ Ris t.place.toList ∧ (w.params.followText "set-order" = true ∨ t.led = true)
section
variable {P : Program} {w : World} {h h' : Heap} {a : Addr} {M : List Str}
theorem SR.go (R : SR w h a M) (k : ∀ o, h.get? a = some o → h'.get? a = some o) : SR w h' a M := let ⟨o, es, ep, t, ho, r⟩ := R; ⟨o, es, ep, t, k o ho, r⟩
theorem gd_is {e : Int × Value} (g : Gd w e) (k : Str) : (sk P w).is k e.2 = true ↔ txtOf e = k := by
  obtain ⟨k0, tk, e1, _⟩ := g
  constructor
  · intro z
    rw [e1] at z
    unfold txtOf
    rw [e1]
    exact (sk P w).inj _ _ _ (strKind_is P w k0 tk) z
  · intro z
    unfold txtOf at z
    rw [e1] at z ⊢
    subst z
    exact strKind_is P w _ tk
theorem gd_all {l : List (Int × Value)} (g : ∀ e ∈ l, Gd w e) : ElemsOf (sk P w) l := fun e he => let ⟨k, tk, e1, e2⟩ := g e he; ⟨⟨k, by rw [e1]; exact strKind_is P w k tk, e2⟩, by rw [e1]; rfl⟩
theorem gd_in {l : List (Int × Value)} (g : ∀ e ∈ l, Gd w e) (k : Str) : k ∈ l.map txtOf ↔ ∃ e ∈ l, (sk P w).is k e.2 = true := by
  rw [List.mem_map]
  exact ⟨fun ⟨e, he, q⟩ => ⟨e, he, (gd_is (g e he) k).2 q⟩, fun ⟨e, he, q⟩ => ⟨e, he, (gd_is (g e he) k).1 q⟩⟩
end
section
variable {P : Program} {w : World} {A : Around} {E : Value → Shared → Prop} {s : Shared} {a : Addr} {M : List Str}
theorem put_tail {g : Bool → Sem Unit} (hg : ∀ (b : Bool) (s₁ : Shared) (Q' : Unit → Shared → Prop), Q' () s₁ → wpAny (model P w) A (g b) Q' E s₁) {o : Obj} {es : Array (Int × Value)} {ep : Nat} {t : SetTable}
    (ho : s.heap.get? a = some o) (hex : o.ExactSet) (hd : o.data = .set es ep t) {es1 : Array (Int × Value)} {t2 : SetTable} {N : List Str} (g1 : ∀ e ∈ es1.toList, Gd w e) (p1 : (es1.toList.map txtOf).Perm N) (nN : N.Nodup) (bN : N.length < scanBound)
    (hf2 : t2.fits es1.size = true) (hr : Ris t2.place.toList) (hl : w.params.followText "set-order" = true ∨ t2.led = true) {dm : Bool} {R : Option Bool → Shared → Prop} (hR : ∀ h', Heap.SameBut a s.heap h' → SR w h' a N → R (some true) { s with heap := h' }) :
    wpAny (model P w) A (do storeSet a es1 t2; if (!dm && t2.tooFull) = true then (do g (relayAll t2 es1 (SetTable.grown es1.size)).2.2; storeSet a (relayAll t2 es1 (SetTable.grown es1.size)).1 (relayAll t2 es1 (SetTable.grown es1.size)).2.1; pure (some true)) else pure (some true)) R E s := by
  have z1 : es1.size = N.length := by rw [← Array.length_toList, ← p1.length_eq, List.length_map]
  have b1 : es1.size < scanBound := z1 ▸ bN
  refine wpAny_bind (wpAny_storeSet_of ho hd ?_ (fits_of_scanBound b1))
  have u1 := store_at (es' := es1) (t' := t2) ho hd
  have sb1 : Heap.SameBut a s.heap _ := Heap.SameBut.update s.heap a (Obj.putSet es1 t2)
  split
  · have pm := relayAll_perm t2 es1 (SetTable.grown es1.size)
    have f3 := relayAll_fits t2 es1 (SetTable.grown es1.size)
    have r3 := relayAll_ris t2 es1 (SetTable.grown es1.size)
    have l3 := relayAll_led t2 es1 (SetTable.grown es1.size)
    generalize relayAll t2 es1 (SetTable.grown es1.size) = Z at pm f3 r3 l3 ⊢
    obtain ⟨es2, t3, gave⟩ := Z
    dsimp only at pm f3 r3 l3 ⊢
    have z2 : es2.size = es1.size := by rw [← Array.length_toList, pm.length_eq, Array.length_toList]
    refine wpAny_bind (hg _ _ _ (wpAny_bind (wpAny_storeSet_of u1 rfl ?_ (fits_of_scanBound (by rw [z2]; exact b1)))))
    have u2 := store_at (es' := es2) (t' := t3) u1 rfl
    exact wpAny_pure (hR _ (sb1.trans (Heap.SameBut.update _ a _)) ⟨_, es2, _, t3, u2, hex, rfl, fun e he => g1 e (pm.mem_iff.mp he), (pm.map txtOf).trans p1, nN, bN, f3, r3, hl.imp id fun z => by rw [l3]; exact z⟩)
  · exact wpAny_pure (hR _ sb1 ⟨_, es1, _, t2, u1, hex, rfl, g1, p1, nN, bN, hf2, hr, hl⟩)
theorem put_hashed {k : Str} {tk : Tok} {Q : Bool → Shared → Prop} (R : SR w s.heap a M) (room : M.length + 1 < scanBound)
    (hQ : ∀ h' b, Heap.SameBut a s.heap h' → SR w h' a (if k ∈ M then M else k :: M) → Q b { s with heap := h' }) : wpAny (model P w) A (setAddHashed a (.str k tk) ((sk P w).hash k)) Q E s := by
  obtain ⟨o, es, ep, t, ho, hex, hd, g, pM, nM, bM, hf, hr, hl⟩ := R
  have key : (sk P w).is k (.str k tk) = true := strKind_is P w k tk
  have sc : (Value.str k tk).scannable = true := rfl
  have el : ElemsOf (sk P w) es.toList := gd_all g
  have zM : es.size = M.length := by rw [← Array.length_toList, ← pM.length_eq, List.length_map]
  unfold setAddHashed setAddHashedIn
  refine wpAny_holding (wpAny_bind (wpAny_setState_of ho hd hf ?_))
  dsimp only
  rw [byScan_of sc (by rw [zM]; exact bM) el]
  simp only [↓reduceIte]
  unfold setAddByScan
  refine wpAny_bind (wpAny_bind (wpAny_rule (wpAny_bind (wpAny_setScan_of key ho hd hf el ?_))))
  cases fi : List.findIdx? (fun e => (sk P w).is k e.2) es.toList with
  | some j =>
    dsimp only
    obtain ⟨hj, pj, _⟩ := List.findIdx?_eq_some_iff_getElem.mp fi
    have kM : k ∈ M := pM.mem_iff.mp ((gd_in (P := P) g k).2 ⟨es.toList[j], List.getElem_mem hj, pj⟩)
    refine wpAny_pure (wpAny_pure (hQ s.heap _ (Heap.SameBut.refl a s.heap) ?_))
    rw [if_pos kM]
    exact ⟨o, es, ep, t, ho, hex, hd, g, pM, nM, bM, hf, hr, hl⟩
  | none =>
    dsimp only
    have kn : k ∉ es.toList.map txtOf := fun z => by
      obtain ⟨e, he, q⟩ := (gd_in (P := P) g k).1 z
      have c := List.findIdx?_eq_none_iff.mp fi e he
      rw [q] at c; cases c
    have kM : k ∉ M := fun z => kn (pM.mem_iff.mpr z)
    have hgw : ∀ (b : Bool) {s₁ : Shared} {Q' : Unit → Shared → Prop}, Q' () s₁ → wpAny (model P w) A (match b with | true => rule "set.scan.the-table-gave-way" | false => pure ()) Q' E s₁ := fun b _ _ q => by cases b <;> first | exact wpAny_pure q | exact wpAny_rule q
    have pm := layNew_perm t es ((sk P w).hash k) (.str k tk)
    have f1 := layNew_fits t es ((sk P w).hash k) (.str k tk)
    have r1 := layNew_ris t es ((sk P w).hash k) (.str k tk) hr
    have l1 := layNew_led t es ((sk P w).hash k) (.str k tk)
    generalize layNew t es ((sk P w).hash k) (.str k tk) = Z at pm f1 r1 l1 ⊢
    obtain ⟨es1, t1, dm, gave⟩ := Z
    dsimp only at pm f1 r1 l1 ⊢
    rw [Array.toList_push] at pm
    have pc : es1.toList.Perm (((sk P w).hash k, Value.str k tk) :: es.toList) := pm.trans (List.perm_append_singleton _ _)
    have pk : (es1.toList.map txtOf).Perm (k :: M) := (pc.map txtOf).trans (pM.cons k)
    have g1 : ∀ e ∈ es1.toList, Gd w e := fun e he => by
      rcases List.mem_cons.mp (pc.mem_iff.mp he) with z | z
      · rw [z]; exact ⟨k, tk, rfl, rfl⟩
      · exact g e z
    have n1 : (k :: M).Nodup := List.nodup_cons.mpr ⟨kM, nM⟩
    have led1 : w.params.followText "set-order" = true ∨ t1.led = true := hl.imp id fun z => by rw [l1]; exact z
    have fin : ∀ h', Heap.SameBut a s.heap h' → SR w h' a (k :: M) → Q true { s with heap := h' } := fun h' sb r => hQ h' _ sb (by rw [if_neg kM]; exact r)
    refine wpAny_bind (hgw _ ?_)
    split
    · refine wpAny_bind ?_
      rw [hashByValue_scannable 8 sc]
      refine wpAny_pure (put_tail ?_ ho hex hd g1 pk n1 (by simpa using room) ?_ ?_ ?_ ?_)
      · intro b s₁ Q' q; cases b <;> first | exact wpAny_pure q | exact wpAny_rule q
      · first | (split <;> first | exact f1 | exact SetTable.fits_plain_off f1) | exact f1
      · first | (split <;> exact r1) | exact r1
      · first | (split <;> exact led1) | exact led1
      · intro h' sb r; dsimp only; exact wpAny_pure (fin h' sb r)
    · refine wpAny_bind (wpAny_pure ?_)
      simp only [↓reduceIte]
      refine put_tail ?_ ho hex hd g1 pk n1 (by simpa using room) f1 r1 led1 ?_
      · intro b s₁ Q' q; cases b <;> first | exact wpAny_pure q | exact wpAny_rule q
      · intro h' sb r; dsimp only; exact wpAny_pure (fin h' sb r)
end
end Sx

namespace Sx
open PySem PySem.Spec PyProof.Rows L2
/-- what is in after i of the texts -/
def got (xs : List Str) : Nat → List Str
  | 0 => []
  | i + 1 => if xs.getD i Str.empty ∈ got xs i then got xs i else xs.getD i Str.empty :: got xs i
theorem got_len (xs : List Str) : ∀ i, (got xs i).length ≤ i
  | 0 => Nat.le_refl _
  | i + 1 => by
    unfold got
    split
    · exact Nat.le_succ_of_le (got_len xs i)
    · exact Nat.succ_le_succ (got_len xs i)
theorem got_mem (xs : List Str) (z : Str) : ∀ i, i ≤ xs.length → (z ∈ got xs i ↔ z ∈ xs.take i)
  | 0, _ => by simp [got]
  | i + 1, h => by
    have hi : i < xs.length := h
    have e : xs.take (i + 1) = xs.take i ++ [xs.getD i Str.empty] := by
      rw [List.take_succ, List.getD_eq_getElem?_getD, List.getElem?_eq_getElem hi]; rfl
    have ih := got_mem xs z i (Nat.le_of_lt hi)
    have ih2 := got_mem xs (xs.getD i Str.empty) i (Nat.le_of_lt hi)
    unfold got
    rw [e, List.mem_append, List.mem_singleton]
    split
    · rename_i c
      rw [ih]
      exact ⟨.inl, fun q => q.elim id fun q => by rw [q]; exact ih2.mp c⟩
    · rw [List.mem_cons, ih]
      exact Or.comm
section
variable {prog : Program} {w : World} {A : Around} {R : Result → Shared → Prop} {I : Addr} {fp wr : List Addr} {G : Array GenState → Array GenState → Prop} {n : Nat} {Pv : Nat → Value → Prop} {St : Nat → Shared → Prop}
theorem upd_loop (W : WalksS prog w A.in1 I fp wr G n Pv St) (S : Addr) (hf : S ∉ fp) (xs : List Str) (few : n < 100) (hv : ∀ i v, Pv i v → ∃ t, v = .str (xs.getD i Str.empty) t) : ∀ (k i : Nat) (s : Shared), n - i = k → i ≤ n → St i s → SR w s.heap S (got xs i) →
    (∀ s', Moved (S :: wr) G s s' → SR w s'.heap S (got xs n) → R (.ok (.ret .none)) s') → codeAny (model prog w) A (.builtin "set.update.loop" ⟨[.ref S, .ref I], []⟩) R s := by
  have nw : S ∉ wr := fun h => hf (W.sub _ h)
  have sub : ∀ b ∈ wr, b ∈ S :: wr := fun b hb => List.mem_cons_of_mem _ hb
  intro k
  induction k with
  | zero =>
    intro i s hk hi st hS hR
    obtain rfl : i = n := by omega
    refine codeAny_builtin PyProof.Rows.F.entry_set_update_loop ?_
    rw [Around.under_plainId PyProof.Rows.F.plain_set_update_loop _]
    show wpAny _ A.in1 (pyNext (.ref I) >>= _) _ _ s
    refine wpAny_bind (W.done s _ _ st fun s' hm => ?_)
    exact wpAny_pure (hR s' (hm.mono sub) (hS.go fun o e => hm.heap S o nw e))
  | succ k ih =>
    intro i s hk hi st hS hR
    have lt : i < n := by omega
    refine codeAny_builtin PyProof.Rows.F.entry_set_update_loop ?_
    rw [Around.under_plainId PyProof.Rows.F.plain_set_update_loop _]
    show wpAny _ A.in1 (pyNext (.ref I) >>= _) _ _ s
    refine wpAny_bind (W.item i s _ _ lt st fun v s' hP st' hm => ?_)
    obtain ⟨t, rfl⟩ := hv i v hP
    have hS' : SR w s'.heap S (got xs i) := hS.go fun o e => hm.heap S o nw e
    show wpAny _ A.in1 (holding [Value.str (xs.getD i Str.empty) t] (setAdd S (.str (xs.getD i Str.empty) t)) >>= _) _ _ s'
    refine wpAny_bind (wpAny_holding ?_)
    unfold setAdd
    refine wpAny_holding (wpAny_bind ((sk prog w).pyHash (k := xs.getD i Str.empty) (strKind_is _ _ _ _) ?_))
    have room : (got xs i).length + 1 < scanBound := by have := got_len xs i; unfold scanBound; omega
    refine put_hashed (P := prog) (s := { s' with toks := s'.toks + 1 }) hS' room fun h' b sb h2 => ?_
    refine wpAny_pure ⟨plainId_quiet PyProof.Rows.F.plain_set_update_loop _, ih (i + 1) _ (by omega) lt (W.frame _ s' _ _ st' (Nat.le_succ _) fun c hc o e => ?_) h2 fun s'' hm2 h3 => hR s'' (Moved.trans W.gtrans ((hm.mono sub).then_heap (Nat.le_succ _) fun c o hc e => ?_) hm2) h3⟩
    · rw [sb.2 c (fun z : c = S => hf (z ▸ hc))]; exact e
    · rw [sb.2 c (fun z : c = S => hc (z ▸ List.mem_cons_self))]; exact e
end
abbrev nil0 (w : World) : Obj := { cls := .type "set", dict := none, data := .set #[] 0 (.fresh 0 0 (!w.params.followText "set-order")) }
theorem sr_nil {h : Heap} {a : Addr} {w : World} (e : h.get? a = some (nil0 w)) : SR w h a [] := ⟨_, #[], 0, _, e, ⟨rfl, rfl, rfl⟩, rfl, (fun e he => by simp at he), List.Perm.nil, List.nodup_nil, by decide, by rfl, List.Pairwise.nil, by
  show _ ∨ (!w.params.followText "set-order") = true
  cases w.params.followText "set-order" <;> first | exact .inr rfl | exact .inl rfl⟩
section
variable {prog : Program} {w : World} {A : Around} {E : Value → Shared → Prop} {s : Shared}
set_option maxHeartbeats 3200000 in
theorem call_set {l : Addr} {items : Array Value} {xs : List Str} {Q : Value → Shared → Prop} (hh : A.handled = none) (hl : s.heap.IsList l items) (hi : PyProof.Rows.StrsAre items.toList xs) (few : items.size < 100)
    (h : ∀ (h' : Heap) (tk : Nat), SR w h' s.heap.objs.size (got xs items.size) → (∀ b o, s.heap.get? b = some o → h'.get? b = some o) → Q (.ref s.heap.objs.size) { s with heap := h', toks := tk }) : wpAny (model prog w) A (call (.type "set") [.ref l]) Q E s := by
  obtain ⟨c, tl, x1⟩ := PySem.F.called_set.mro
  have x2 := PySem.F.called_set.made
  have x3 := PySem.F.called_set.sub
  refine wpAny_call (codeAny_of_tree (show wpAny _ _ (callAny (.type "set") _) _ _ _ from ?_))
  refine wpAny_pure ⟨Code.quiet_builtin _ (by decide +kernel), codeAny_builtin PySem.F.entry_type_call ?_⟩
  rw [Around.under_plain (weight_type_call_type "set" [.ref l] []) rfl]
  have x4 := PySem.F.called_set.notType
  have x5 := PySem.F.called_set.canCreate
  have x6 := PySem.F.typeCall_set_1 (.ref l)
  repeat (any_goals (first | assumption | wp_step))
  refine codeAny_mono (code_set_led1 (.ref l) (E := E) (Q₁ := fun ob s₁ => ob = .ref s.heap.objs.size ∧ s₁ = { s with heap := s.heap.push (nil0 w) }) ⟨rfl, rfl⟩) fun r s₁ hr => ?_
  cases r with
  | error e => exact hr
  | ok fl =>
    cases fl with
    | ret ob =>
      obtain ⟨rfl, rfl⟩ := hr
      have y1 : (s.heap.push (nil0 w)).get? s.heap.objs.size = some (nil0 w) := Heap.get?_push_size _ rfl
      have y2 : Shared.TypeIs { s with heap := s.heap.push (nil0 w) } (.ref s.heap.objs.size) "set" := ⟨_, y1, rfl⟩
      have y3 := PySem.F.called_set.init.lookup
      have y4 := PySem.F.called_set.init.bind (.ref s.heap.objs.size)
      repeat (any_goals (first | assumption | wp_step))
      refine codeAny_mono (codeAny_call_builtin (R := wants (fun r s₂ => r = .none ∧ ∃ h' tk, s₂ = { s with heap := h', toks := tk } ∧ SR w h' s.heap.objs.size (got xs items.size) ∧ ∀ b o, s.heap.get? b = some o → h'.get? b = some o) E) PySem.F.called_set.init.plain PySem.F.entry_set_init (check_set_init_1 y2 ?_)) fun r₂ s₂ hr₂ => ?_
      · obtain ⟨⟨oc, od, odt, os⟩, hol, z1, nl, z2⟩ := hl
        simp only at z1 z2
        subst z1 z2
        have hol' : (s.heap.push (nil0 w)).get? l = some { cls := .type "list", dict := od, data := .seq items nl, slots := os } := Heap.get?_push_of_some _ hol
        have s1 := PySem.F.sub_list_set
        have s2 := PySem.F.sub_list_frozenset
        have s3 : (Value.type "list" == Value.type "dict") = false := by decide
        have l1 : (s.heap.push (nil0 w)).IsList l items := ⟨_, hol', rfl, nl, rfl⟩
        unfold Builtin.«set.__init__» noKeywords Builtin.Frozenset.updateFrom
        generalize ePI : pyIter = PI
        wp_walk
        subst ePI
        refine wpAny_pyIter_list l1 (wpAny_bind (wpAny_runValue ?_))
        have lS : l < s.heap.objs.size := Heap.lt_size hol
        have h3 : A.in1.in1.in1.handled = none := by simp [hh]
        have nI : l ≠ (s.heap.push (nil0 w)).objs.size := by rw [Heap.size_push]; exact Nat.ne_of_lt (Nat.lt_succ_of_lt lS)
        have nS : s.heap.objs.size ∉ [(s.heap.push (nil0 w)).objs.size, l] := by
          rw [Heap.size_push]
          simp only [List.mem_cons, List.mem_singleton, List.not_mem_nil, or_false, not_or]
          exact ⟨Nat.ne_of_lt (Nat.lt_succ_self _), Nat.ne_of_gt lS⟩
        have hval : ∀ (i : Nat) (v : Value), items[i]? = some v → ∃ t, v = .str (xs.getD i Str.empty) t := fun i v hv => SS.strs_at hi i v (by rw [Array.getElem?_toList]; exact hv)
        refine upd_loop ((Walks.list h3 _ l nI items).toS) s.heap.objs.size nS xs few hval (items.size - 0) 0 _ (by omega) (Nat.zero_le _) ⟨⟨_, Heap.get?_push_size _ rfl, rfl, rfl⟩, (l1.push _)⟩ (sr_nil (Heap.get?_push_of_some _ y1)) ?hR
        case hR =>
          intro s' hm hS'
          obtain ⟨h', g', d', tk', os'⟩ := s'
          have e1 : g' = s.gens := hm.gens
          have e2 : d' = s.drawn := hm.drawn
          have e3 : os' = s.os := hm.os
          subst e1 e2 e3
          show wpAny _ _ _ _ _ _
          refine wpAny_pure (show wpAny _ _ (ret Value.none) _ _ _ from wpAny_pure ⟨rfl, h', tk', rfl, hS', fun b o e => ?_⟩)
          have hb := Heap.lt_size e
          refine hm.heap b o ?_ (Heap.get?_push_of_some _ (Heap.get?_push_of_some _ e))
          simp only [List.mem_cons, List.mem_singleton, List.not_mem_nil, or_false, not_or]
          exact ⟨Nat.ne_of_lt hb, by rw [Heap.size_push]; exact Nat.ne_of_lt (Nat.lt_succ_of_lt hb)⟩
      · cases r₂ with
        | error e => exact hr₂
        | ok fl₂ =>
          cases fl₂ with
          | ret r =>
            obtain ⟨rfl, h', tk, rfl, hS', hk'⟩ := hr₂
            repeat (any_goals (first | assumption | wp_step))
            exact h _ _ hS' hk'
          | _ => exact hr₂.elim
    | _ => exact hr.elim
theorem sorted_sr {a : Addr} {M : List Str} {Q : Value → Shared → Prop} (R : SR w s.heap a M) (hh : A.handled = none) (few : M.length < 64)
    (hQ : ∀ s' p (out : Array Value) (c : Nat) (ys : List Str), (∀ b o, s.heap.get? b = some o → s'.heap.get? b = some o) → s'.gens = s.gens → s'.os = s.os → s.heap.objs.size ≤ p → s'.heap.get? p = some (seqObj "list" out c) → PyProof.Rows.StrsAre out.toList ys → ys.Perm M → sortedS ys = true → Q (.ref p) s') :
    wpAny (model prog w) A (call (.builtin "sorted") [.ref a]) Q E s := by
  obtain ⟨o, es, ep, t, ho, hex, hd, g, pM, nM, bM, hf, hr, hl⟩ := R
  have zM : es.size = M.length := by rw [← Array.length_toList, ← pM.length_eq, List.length_map]
  refine Calls.call_function_entry kind_sorted plain_sorted entry_sorted (args_sorted1 _) ?_
  unfold Builtin.«sorted»
  refine wpAny_bind (m := checkCount "sorted" 1 1 _) (wpAny_pure (wpAny_bind (collect_set (A := A.in1) hh ⟨o, ho, hex.1, hd⟩ hf (by rw [zM]; exact bM) hr hl fun s1 vs k1 z1 g1 o1 pm => ?_)))
  have vl : vs.length = M.length := by rw [pm.length_eq, List.length_map, Array.length_toList]; exact zM
  have vS : PyProof.Rows.StrsAre vs (vs.map PyProof.Rows.strOf) := strsAre_map vs fun v hv => by
    obtain ⟨e, he, q⟩ := List.mem_map.mp (pm.mem_iff.mp hv)
    obtain ⟨k, tk, h1, _⟩ := g e he
    exact ⟨k, tk, by rw [← q]; exact h1⟩
  have pS : (vs.map PyProof.Rows.strOf).Perm M := by
    have q := pm.map PyProof.Rows.strOf
    rw [List.map_map] at q
    refine q.trans (List.Perm.trans (List.Perm.of_eq (List.map_congr_left fun e he => ?_)) pM)
    obtain ⟨k, tk, h1, _⟩ := g e he
    show PyProof.Rows.strOf e.2 = txtOf e
    unfold txtOf
    rw [h1]; rfl
  refine wpAny_bind (wpAny_newList ?_ (by rw [vl, sizeLine_eq]; omega))
  have oL : (s1.heap.push (seqObj "list" vs.toArray 0)).get? s1.heap.objs.size = some (seqObj "list" vs.toArray 0) := Heap.get?_push_size _ rfl
  refine wpAny_bind (wpAny_holding (wpAny_call_entry slot_list_sort ⟨_, oL, rfl⟩ entry_list_sort (list_sort_treeK strKind_oneLt oL vS.keysOf (fun v₁ v₂ rest e => keyKind_strs (ss := vs.map PyProof.Rows.strOf) (by rw [← e]; exact vS)) (by rw [vl]; exact few) fun st' hp hs => ⟨_, rfl, ?_⟩) (args_list_sort _)))
  obtain ⟨ys, a1, a2, a3⟩ := sorted_out_str vS hp hs
  obtain ⟨c, hc⟩ := sortedHeap_at (vs := vs) (out := (arrOf st').map (·.2)) oL
  refine wpAny_pure ⟨_, rfl, hQ _ s1.heap.objs.size _ c ys (fun b u e => ?_) g1 o1 z1 hc a1 (a2.trans pS) a3⟩
  have q := k1 b u e
  have lt := Heap.lt_size q
  show (sortedHeap (s1.heap.push (seqObj "list" vs.toArray 0)) s1.heap.objs.size vs _).get? b = some u
  rw [sortedHeap_old (Nat.ne_of_lt lt) (by rw [size_push']; exact Nat.lt_succ_of_lt lt)]
  exact Heap.get?_push_of_some _ q
end
/-- sorted(set(e)) -/
def tSS (K : PySem.W.Frag) (ta : TE) : TE := fun σ H Q => ta σ H fun x H1 => ∃ (l : Addr) (xs : List Str), x = V.ref l ∧ SqL K H1 l (xs.map V.str) ∧ xs.length < 64 ∧ ∀ (ys : List Str) (p : Addr), ys.Nodup → sortedS ys = true → (∀ z, z ∈ ys ↔ z ∈ xs) → ys.length ≤ xs.length → H1 p = none → Q (.ref p) (upd H1 p (.lst (ys.map V.str)))
theorem pe_sortedSet {X : Cx} {a : Expr} {ta : TE} {p p2 q pos : Pos} (hc : X.calm = true) (hg : Gl X "sorted") (hm : X.mg "sorted" = none) (hg2 : Gl X "set") (hm2 : X.mg "set" = none) (ha : PE X a ta)
    (na : starEach [a] X.env = (false, eval a X.env) :: starEach [] X.env := by rfl) : PE X (.Call (.Name "sorted" p) [.Call (.Name "set" p2) [a] [] q] [] pos) (tSS X.K ta) := by
  refine ⟨fun pins s σ H Q I h => ?_⟩
  refine Call_ (ld_blt I hg hm (u := .builtin "sorted") (by decide +kernel) ?_)
  refine PyProof.Rows.callWith_builtin1 (PyProof.Rows.args_cons ?_ rfl) rfl rfl
  refine Call_ (ld_blt I hg2 hm2 PyProof.Rows.boot_set ?_)
  refine PyProof.Rows.callWith_type1 (PyProof.Rows.args_cons (thn (ha.run pins s σ H _ I h) fun v s1 ⟨x, H1, I1, r1, q1⟩ => PyProof.Rows.args_nil ?_) na) na rfl
  obtain ⟨l, xs, rfl, hq, h1, q1⟩ := q1
  cases r1
  obtain ⟨its, r, pl, hz⟩ := I1.list hq
  have hl : its.toArray.size = xs.length := by rw [List.size_toArray, ← r.length, List.length_map]
  refine call_set (I1.ok.hd hc) pl.isList (xs := xs) (by simpa using r.strs) (by omega) fun h' tk hS hk => ?_
  rw [hl] at hS
  refine PyProof.Rows.args_nil ?_
  have I2 : Inv X pins σ H1 { s1 with heap := h', toks := tk } := I1.kept fun b o e => hk b o e
  have gl := got_len xs xs.length
  refine sorted_sr hS (I2.ok.hd hc) (by omega) fun s' p out c ys k g o hp hg hi hpm hs => ?_
  have yl : ys.length ≤ xs.length := by rw [hpm.length_eq]; exact gl
  have n1 : H1 p = none := I2.hok.fresh hp
  have len : (ys.map V.str).length ≤ sizeLine := by rw [List.length_map, sizeLine_eq]; omega
  have J : Inv X pins σ (upd H1 p (.lst (ys.map V.str))) { ({ s1 with heap := h', toks := tk } : Shared) with heap := s'.heap, gens := s'.gens, drawn := s'.drawn, toks := s'.toks } :=
    I2.call (ch := []) (Un.laid k hp n1) (I2.hok.laid k hp ⟨len, out.toList, c, vals_of_strs hi, hg⟩) (by rw [g]; exact I2.bare) (fun _ z => nomatch z)
  have e : s' = { ({ s1 with heap := h', toks := tk } : Shared) with heap := s'.heap, gens := s'.gens, drawn := s'.drawn, toks := s'.toks } := by
    cases s'; cases s1; cases o; rfl
  rw [e]
  have nd : (got xs xs.length).Nodup := by obtain ⟨_, _, _, _, _, _, _, _, _, n, _⟩ := hS; exact n
  exact ⟨.ref p, _, J, rfl, q1 ys p (hpm.nodup_iff.mpr nd) hs (fun z => by rw [hpm.mem_iff, got_mem xs z xs.length (Nat.le_refl _), List.take_length]) yl n1⟩
end Sx

namespace Dn
open PySem L2 PySem.Spec PyProof.Rows
/-! ### bits -/
def shlD : PyData → PyData → Option PyData
  | .int a, .int b => if 0 ≤ b ∧ b.natAbs ≤ 100000 ∧ a.natAbs ≤ 1000000 then some (.int (a * 2 ^ b.toNat)) else none
  | _, _ => none
def shrD : PyData → PyData → Option PyData
  | .int a, .int b => if 0 ≤ b then some (.int (a / 2 ^ b.toNat)) else none
  | _, _ => none
section
variable {K : PySem.W.Frag}
theorem rd_shl [Tbs] : RD K (rI CPow fun i j => .int (i * 2 ^ j.toNat)) shlD := fun B H x y dx dy d Q s hx hy hg q => by
  unfold shlD at hg
  split at hg
  · obtain ⟨⟨h1, h2, h3⟩, rfl⟩ := ite_some hg
    cases hx; cases hy
    exact ⟨_, _, rfl, rfl, ⟨h1, by omega, by omega⟩, q _ B H (Tr.refl s) (.int _)⟩
  · cases hg
theorem rd_shr [Tbs] : RD K (rI (fun _ j => 0 ≤ j) fun i j => .int (i / 2 ^ j.toNat)) shrD := fun B H x y dx dy d Q s hx hy hg q => by
  unfold shrD at hg
  split at hg
  · obtain ⟨h1, rfl⟩ := ite_some hg
    cases hx; cases hy
    exact ⟨_, _, rfl, rfl, h1, q _ B H (Tr.refl s) (.int _)⟩
  · cases hg
/-! ### sum -/
def intsD : List PyData → Option (List Int)
  | [] => some []
  | .int b :: r => (intsD r).map (b :: ·)
  | _ => none
theorem ints_of [Tbs] {H : Hp} {vs : List V} : ∀ {ds : List PyData} {bs : List Int}, DqAll K H vs ds → intsD ds = some bs → vs = bs.map V.int := by
  induction vs with
  | nil => intro ds bs h e; cases h; cases e; rfl
  | cons v vs ih =>
    intro ds bs h e
    cases h with
    | cons a b =>
      unfold intsD at e
      split at e
      · rename_i z; cases z
      · rename_i k r hz
        cases hz
        cases a
        obtain ⟨bs', e', rfl⟩ := Option.map_eq_some_iff.mp e
        rw [ih b e']; rfl
      · cases e
theorem intsD_map (bs : List Int) : intsD (bs.map PyData.int) = some bs := by
  induction bs with
  | nil => rfl
  | cons b r ih => rw [List.map_cons, intsD, ih]; rfl
def sumD : PyData → Option PyData
  | .list xs => (intsD xs).map fun ns => .int ns.sum
  | _ => none
theorem rc_sum [Tbs] : RC K (rSum K) (one1 sumD) := rc_one fun B H v x d Q s hx hg q => by
  unfold sumD at hg
  split at hg
  · obtain ⟨bs, e, rfl⟩ := Option.map_eq_some_iff.mp hg
    cases hx with
    | lst h a => exact ⟨_, bs, rfl, by rw [← ints_of a e]; exact sqL_mono s h, q _ B H (Tr.refl s) (.int _)⟩
  · cases hg
/-! ### list.index -/
def indexD : PyData → List PyData → Option PyData
  | .list ds, [d] => if (SeqAt.shaped (.list ds) && SeqAt.shaped d) = true then (ds.findIdx? fun z => PyData.eqv z d).map fun j => .int (j : Nat) else none
  | _, _ => none
theorem ty_index [Tbs] : TyD K "list" indexD := fun B H v x ds d s hx hg => by
  unfold indexD at hg
  split at hg
  · cases hx with | lst h a => exact .inl ⟨rfl, _, sqL_mono s h⟩
  · cases hg
theorem rm_index [Tbs] : RM K "list" (rIndexD K) indexD := fun B H v vs x ds d Q s hx hds hg q => by
  unfold indexD at hg
  split at hg
  · obtain ⟨hs, hg⟩ : _ ∧ _ := by
      split at hg
      · rename_i h; exact ⟨h, hg⟩
      · cases hg
    rw [Bool.and_eq_true] at hs
    obtain ⟨j, hj, rfl⟩ := Option.map_eq_some_iff.mp hg
    obtain ⟨hlt, h1, h2⟩ := List.findIdx?_eq_some_iff_getElem.mp hj
    cases hds with
    | cons hy hn =>
      cases hn
      rename_i xs dd vy
      refine (?_ : rIndexD K v [vy] H Q)
      have hv : ∃ a, v = .ref a := by cases hx with | lst h a => exact ⟨_, rfl⟩
      obtain ⟨a, rfl⟩ := hv
      refine ⟨a, _, _, _, j, _, rfl, rfl, dq_sh (dp_mono s hx) hs.1, dq_sh (dp_mono s hy) hs.2, hs.1, hs.2, List.getElem?_eq_getElem hlt, h1, fun m z' hm hz => ?_, q _ B H (Tr.refl s) (.int _)⟩
      obtain ⟨hml, rfl⟩ := List.getElem?_eq_some_iff.mp hz
      simpa using h2 m hm
  · cases hg
end
/-! ### x or y, by truth -/
section
variable {X : Cx} {a b e : Expr} {rest : List Expr} {es : List Expr} {pos : Pos} {f g : Rho → Option PyData} {fs : Rho → Option (List PyData)}
def truD : PyData → Option Bool
  | .list xs => some (!xs.isEmpty)
  | .tuple xs => some (!xs.isEmpty)
  | .int i => some (i != 0)
  | .bool b => some b
  | .none => some false
  | _ => none
theorem truV_of [Tbs] {K : PySem.W.Frag} {B H : Hp} {v : V} {d : PyData} {k : Bool} (s : Same B H) (h : Dq K B v d) (e : truD d = some k) : TruV K v H k := by
  cases h with
  | non => cases e; rfl
  | bl b => cases e; rfl
  | int i => cases e; rfl
  | str x => cases e
  | emp h => cases e
  | ins h a => cases e
  | lst hq ha =>
    rename_i a xs ds
    cases e
    refine .inl ⟨xs, sqL_mono s hq, ?_⟩
    have := dpAll_len ha
    cases xs <;> cases ds <;> first | rfl | (simp at this)
  | tup hq ha =>
    rename_i a xs ds
    cases e
    refine .inr (.inl ⟨xs, sqT_mono s hq, ?_⟩)
    have := dpAll_len ha
    cases xs <;> cases ds <;> first | rfl | (simp at this)
def fOrV (f g : Rho → Option PyData) : Rho → Option PyData := fun ρ => (f ρ).bind fun x => (truD x).bind fun k => if k then some x else g ρ
theorem pd_orT [Tbs] (ha : PD X a f) (hb : PD X (.BoolOp .Or (b :: rest) pos) g) : PD X (.BoolOp .Or (a :: b :: rest) pos) (fOrV f g) := pe_imp (pe_orT ha hb) fun σ H Q ⟨H0, B, ρ, d, s, hf, q⟩ => by
  obtain ⟨x, hx, hf⟩ := bind_some hf
  obtain ⟨k, hk, hf⟩ := bind_some hf
  refine ⟨H0, B, ρ, x, s, hx, fun v B1 H1 t1 d1 => ⟨k, truV_of t1.t d1 hk, ?_⟩⟩
  cases k with
  | true => cases hf; exact q v B1 H1 t1 d1
  | false => exact ⟨H0, B1, ρ, d, s.tr t1, hf, fun v B2 H2 t2 d2 => q v B2 H2 (t1.trans t2) d2⟩
/-! ### enumerate -/
def enumD (xs : List PyData) : List PyData := xs.zipIdx.map fun p => .tuple [.int (p.2 : Nat), p.1]
theorem itD_enum [Tbs] {K : PySem.W.Frag} {B : Hp} {a : Addr} {vs : List V} {ds : List PyData} (h : SqL K B a vs) (hd : DqAll K B vs ds) : ItD K B (Ite K a) (enumD ds) := by
  refine ⟨fun H s => ⟨vs, sqL_mono s h, ?_⟩, fun i d e H s => ?_⟩
  · have h1 := dpAll_len hd
    simp [enumD, h1]
  · unfold enumD at e
    rw [List.getElem?_map, List.getElem?_zipIdx] at e
    obtain ⟨p, hp, rfl⟩ := Option.map_eq_some_iff.mp e
    obtain ⟨c, hc, rfl⟩ := Option.map_eq_some_iff.mp hp
    obtain ⟨v, hv, hdv⟩ := dpAll_get hd hc
    refine ⟨⟨vs, v, sqL_mono s h, hv⟩, fun x H' y B1 s1 s2 => ?_⟩
    obtain ⟨T, x1, rfl, hT, rfl, z1⟩ := y
    have z1 := z1 vs (sqL_mono s h)
    rw [hv] at z1
    cases z1
    refine ⟨_, Tr.new s2 hT, .tup (SqT.of upd_same) (.cons ?_ (.cons (dp_mono (s1.trans (same_upd (s2.free hT))) hdv) .nil))⟩
    show Dq K _ (V.int (i : Nat)) (PyData.int (((0 + i : Nat)) : Int))
    rw [Nat.zero_add]
    exact .int _
def enum2D : PyData → Option (List PyData)
  | .list xs => some (enumD xs)
  | _ => none
def fEn (f : Rho → Option PyData) : Rho → Option (List PyData) := fun ρ => (f ρ).bind enum2D
theorem pdi_enum [Tbs] {p tpos : Pos} {elts : List Expr} {kk : Nat} (hg : Gl X "enumerate") (hm : X.mg "enumerate" = none) (ha : PD X a f) (h0 : starEach [a] X.env = (false, eval a X.env) :: starEach [] X.env := by rfl) (hs : starEach [a] X.env = [(false, eval a X.env)] := by rfl) :
    PDI X (.Tuple elts kk tpos) (.Call (.Name "enumerate" p) [a] [] pos) (fEn f) := pi_imp (pi_enum hg hm (pa_cons ha pa_nil h0) hs) fun σ H R ⟨H0, B, ρ, d, sl, hf, q⟩ => by
  obtain ⟨x, hx, hf⟩ := bind_some hf
  refine ⟨H0, B, ρ, x, sl, hx, fun v B1 H1 t1 d1 => ?_⟩
  unfold enum2D at hf
  split at hf
  · cases hf
    cases d1 with
    | lst h1 a1 => exact ⟨_, _, rfl, sqL_mono t1.t h1, q _ B1 H1 t1 (itD_enum h1 a1)⟩
  · cases hf
/-! ### a, b = e -/
def gAsg (bd : PyData → Rho → Option Rho) (f : Rho → Option PyData) : Rho → Option Out := fun ρ => (f ρ).bind fun x => (bd x ρ).map .nx
theorem psd_asgG [Tbs] {st : Stmt} {g : TG} {bd : PyData → Rho → Option Rho} {is : List Nat} (hg : GD X.K g bd is) (h : PS X st (tAsg (tD X.K f) g)) : PSD X st (gAsg bd f) := ps_imp h fun D σ H ⟨B0, H0, ρ, o, ⟨B, t, s⟩, hf, q⟩ => by
  obtain ⟨x, hx, hf⟩ := bind_some hf
  obtain ⟨ρ', hb, rfl⟩ := Option.map_eq_some_iff.mp hf
  exact ⟨H0, B, ρ, x, s, hx, fun v B1 H1 t1 d1 => hg H0 B1 H1 ρ ρ' σ v x _ (s.tr t1) d1 hb fun σ' _ s' => q σ' H1 ⟨B1, t.trans t1, s'⟩⟩
def b4 (i j k l : Nat) : PyData → Rho → Option Rho
  | .tuple [x, y, z, u], ρ => some ((((ρ.set i (some (.d x))).set j (some (.d y))).set k (some (.d z))).set l (some (.d u)))
  | _, _ => none
theorem gd_4 [Tbs] {K : PySem.W.Frag} {i j k l : Nat} : GD K (gTup K 4 (gCons (gName i) (gCons (gName j) (gCons (gName k) (gCons (gName l) gNil))))) (b4 i j k l) [i, j, k, l] := fun H0 B H ρ ρ' σ v x Q s h hb q => by
  unfold b4 at hb
  split at hb
  · cases hb
    cases h with
    | tup h a =>
      cases a with
      | cons a1 a =>
        cases a with
        | cons a2 a =>
          cases a with
          | cons a3 a =>
            cases a with
            | cons a4 a =>
              cases a
              refine ⟨_, _, rfl, sqT_mono s.bh h, rfl, _, _, rfl, _, _, rfl, _, _, rfl, _, _, rfl, rfl, q _ (fun vs hv => ?_) (sl_setD (sl_setD (sl_setD (sl_setD s a1) a2) a3) a4)⟩
              rw [wipe_set (hv l (by simp)), wipe_set (hv k (by simp)), wipe_set (hv j (by simp)), wipe_set (hv i (by simp))]
  · cases hb
end
end Dn

namespace Dn
open PySem PySem.Spec PyProof.Rows
def leS (a b : Str) : Bool := !ltCps b.cps.toList a.cps.toList
theorem leS_iff (a b : Str) : leS a b = true ↔ a.cps.toList ≤ b.cps.toList := by
  unfold leS
  rw [ltCps_eq]
  simp
theorem str_ext {a b : Str} (h : a.cps.toList = b.cps.toList) : a = b := by
  cases a; cases b
  simp only at h
  rw [Array.toList_inj.mp h]
theorem leS_anti {a b : Str} (h : leS a b = true) (g : leS b a = true) : a = b := str_ext (List.le_antisymm ((leS_iff a b).mp h) ((leS_iff b a).mp g))
theorem leS_trans {a b c : Str} (h : leS a b = true) (g : leS b c = true) : leS a c = true := (leS_iff a c).mpr (List.le_trans ((leS_iff a b).mp h) ((leS_iff b c).mp g))
theorem leS_total (a b : Str) : leS a b = true ∨ leS b a = true := (List.le_total a.cps.toList b.cps.toList).imp (leS_iff a b).mpr (leS_iff b a).mpr
def insS (x : Str) : List Str → List Str
  | [] => [x]
  | y :: r => if leS x y then x :: y :: r else y :: insS x r
def sortT (xs : List Str) : List Str := xs.foldr insS []
theorem insS_perm (x : Str) : ∀ l : List Str, (insS x l).Perm (x :: l)
  | [] => List.Perm.refl _
  | y :: r => by
    unfold insS
    split
    · exact List.Perm.refl _
    · exact ((insS_perm x r).cons y).trans (List.Perm.swap x y r)
theorem sortT_perm : ∀ l : List Str, (sortT l).Perm l
  | [] => List.Perm.refl _
  | x :: r => (insS_perm x _).trans ((sortT_perm r).cons x)
theorem insS_pw (x : Str) : ∀ l : List Str, l.Pairwise (fun a b => leS a b = true) → (insS x l).Pairwise fun a b => leS a b = true
  | [], _ => by simp [insS]
  | y :: r, h => by
    unfold insS
    obtain ⟨h1, h2⟩ := List.pairwise_cons.mp h
    split
    · rename_i c
      exact List.pairwise_cons.mpr ⟨fun z hz => by
        rcases List.mem_cons.mp hz with rfl | hz
        · exact c
        · exact leS_trans c (h1 z hz), h⟩
    · rename_i c
      refine List.pairwise_cons.mpr ⟨fun z hz => ?_, insS_pw x r h2⟩
      rcases List.mem_cons.mp ((insS_perm x r).mem_iff.mp hz) with rfl | hz
      · exact (leS_total _ _).resolve_left c
      · exact h1 z hz
theorem sortT_pw : ∀ l : List Str, (sortT l).Pairwise fun a b => leS a b = true
  | [] => List.Pairwise.nil
  | x :: r => insS_pw x _ (sortT_pw r)
theorem rising_pw : ∀ (p : Str) (l : List Str), risingS p l = true → (p :: l).Pairwise fun a b => leS a b = true
  | p, [], _ => by simp
  | p, x :: r, h => by
    have h' : (!ltCps x.cps.toList p.cps.toList && risingS x r) = true := h
    rw [Bool.and_eq_true] at h'
    have ih := rising_pw x r h'.2
    refine List.pairwise_cons.mpr ⟨fun z hz => ?_, ih⟩
    rcases List.mem_cons.mp hz with rfl | hz
    · exact h'.1
    · exact leS_trans h'.1 ((List.pairwise_cons.mp ih).1 z hz)
theorem sorted_pw : ∀ l : List Str, sortedS l = true → l.Pairwise fun a b => leS a b = true
  | [], _ => List.Pairwise.nil
  | x :: r, h => rising_pw x r h
theorem perm_pw_eq : ∀ (l m : List Str), l.Perm m → (l.Pairwise fun a b => leS a b = true) → (m.Pairwise fun a b => leS a b = true) → l = m
  | [], m, p, _, _ => (List.Perm.nil_eq p)
  | x :: r, [], p, _, _ => absurd p.length_eq (by simp)
  | x :: r, y :: t, p, h, g => by
    obtain ⟨h1, h2⟩ := List.pairwise_cons.mp h
    obtain ⟨g1, g2⟩ := List.pairwise_cons.mp g
    have e : x = y := by
      have a1 : x ∈ y :: t := p.mem_iff.mp List.mem_cons_self
      have a2 : y ∈ x :: r := p.mem_iff.mpr List.mem_cons_self
      rcases List.mem_cons.mp a1 with e | a1
      · exact e
      · rcases List.mem_cons.mp a2 with e | a2
        · exact e.symm
        · exact leS_anti (h1 y a2) (g1 x a1)
    subst e
    rw [perm_pw_eq r t (List.Perm.cons_inv p) h2 g2]
theorem sort_eq {xs ys : List Str} (p : ys.Perm xs) (h : sortedS ys = true) : ys = sortT xs := perm_pw_eq ys (sortT xs) (p.trans (sortT_perm xs).symm) (sorted_pw ys h) (sortT_pw xs)
def onceT : List Str → List Str
  | [] => []
  | x :: r => if x ∈ r then onceT r else x :: onceT r
theorem onceT_mem (z : Str) : ∀ l : List Str, z ∈ onceT l ↔ z ∈ l
  | [] => Iff.rfl
  | x :: r => by
    unfold onceT
    have ih := onceT_mem z r
    split
    · rename_i c
      rw [ih, List.mem_cons]
      exact ⟨.inr, fun q => q.elim (fun e => e ▸ c) id⟩
    · rw [List.mem_cons, List.mem_cons, ih]
theorem onceT_nd : ∀ l : List Str, (onceT l).Nodup
  | [] => List.nodup_nil
  | x :: r => by
    unfold onceT
    split
    · exact onceT_nd r
    · rename_i c
      exact List.nodup_cons.mpr ⟨fun z => c ((onceT_mem x r).mp z), onceT_nd r⟩
theorem nodup_perm {α : Type} [DecidableEq α] : ∀ (l m : List α), l.Nodup → m.Nodup → (∀ z, z ∈ l ↔ z ∈ m) → l.Perm m := fun l m a b h => by
  rw [List.perm_iff_count]
  intro z
  by_cases hz : z ∈ l
  · rw [a.count, b.count, if_pos hz, if_pos ((h z).mp hz)]
  · rw [List.count_eq_zero.mpr hz, List.count_eq_zero.mpr (fun c => hz ((h z).mpr c))]
theorem sortset_eq {xs ys : List Str} (n : ys.Nodup) (h : sortedS ys = true) (m : ∀ z, z ∈ ys ↔ z ∈ xs) : ys = sortT (onceT xs) := sort_eq (nodup_perm ys (onceT xs) n (onceT_nd xs) fun z => (m z).trans (onceT_mem z xs).symm) h
end Dn

set_option maxHeartbeats 4000000
/-! tuple * 0, tuple * 1 -/
namespace Gx
open PySem PySem.Spec PyProof.Rows L2
section
variable {l : Addr} {items : Array Value} {n : Nat} {dd : Option Addr} {sl : Array (Option Value)} {u : Tok}
theorem mul_one (h0 : items.isEmpty = false) : Meets (Builtin.«tuple.__mul__» ⟨[.ref l, .int 1 u], []⟩) (fun _ R s => s.heap.get? l = some { cls := .type "tuple", dict := dd, data := .seq items n, slots := sl } ∧ R (.ok (.ret (Value.ref l))) s) :=
  .of_wp fun prog w A R s h => by
    obtain ⟨hp, g, d, tk, os⟩ := s
    obtain ⟨hl, h⟩ := h
    have ix := AutoSeq1.idx_int
    have c1 : (items.isEmpty || (1 : Int) == 1) = true := by rw [h0]; rfl
    wp_walk using wpAny_loadPart' hl
    repeat (first
      | (refine wpAny_ite_true (decide_eq_true c1) ?_; wp_walk using wpAny_loadPart' hl)
      | (refine wpAny_ite_false (decide_eq_false (by decide)) ?_; wp_walk using wpAny_loadPart' hl))
    all_goals first | exact ⟨_, rfl, h⟩ | skip
theorem mul_zero (h0 : items.isEmpty = false) : Meets (Builtin.«tuple.__mul__» ⟨[.ref l, .int 0 u], []⟩) (fun _ R s => s.heap.get? l = some { cls := .type "tuple", dict := dd, data := .seq items n, slots := sl } ∧ R (.ok (.ret (Value.ref s.heap.objs.size))) { s with heap := s.heap.push { cls := Value.type "tuple", data := Data.seq #[] }, toks := s.toks }) :=
  .of_wp fun prog w A R s h => by
    obtain ⟨hp, g, d, tk, os⟩ := s
    obtain ⟨hl, h⟩ := h
    have ix := AutoSeq1.idx_int
    have c1 : (items.isEmpty || (0 : Int) == 1) = false := by rw [h0]; rfl
    wp_walk using wpAny_loadPart' hl
    repeat (first
      | (refine wpAny_ite_false (decide_eq_false (by rw [c1]; exact Bool.false_ne_true)) ?_; wp_walk using wpAny_loadPart' hl)
      | (refine wpAny_ite_false (decide_eq_false (by decide)) ?_; wp_walk using wpAny_loadPart' hl))
    all_goals first | exact ⟨_, rfl, h⟩ | skip
end
/-- a tuple, not the empty one, taken k times -/
def rTimes (K : PySem.W.Frag) : R2 := fun x y H Q => ∃ l k xs, x = .ref l ∧ y = .int k ∧ SqT K H l xs ∧ xs ≠ [] ∧ 0 ≤ k ∧ k ≤ 1000 ∧ xs.length ≤ 1000 ∧ (k = 1 → Q (.ref l) H) ∧ (k ≠ 1 → ∀ p, H p = none → Q (.ref p) (upd H p (.tup (List.replicate k.toNat xs).flatten)))
section
variable {X : Cx}
theorem op_times : OpR X (binaryOp .Mult) (rTimes X.K) := by
  intro pins s σ H x y v u Q I rx ry h
  obtain ⟨l, k, xs, rfl, rfl, hT, hne, k0, k1, hz, q1, q2⟩ := h
  by_cases big : 2 ≤ k
  · exact op_repT pins s σ H (.ref l) (.int k) v u Q I rx ry ⟨l, k, xs, rfl, rfl, hT, hne, big, k1, hz, q2 (by omega)⟩
  · cases rx
    obtain ⟨t, rfl⟩ := ry
    obtain ⟨its, r, ⟨⟨cls, dd, data, sl⟩, ho, hc, n, hd⟩, hs⟩ := I.tuple hT
    simp only at hc hd
    subst hc hd
    have hi : its.toArray.isEmpty = false := by
      have e := r.length
      cases its with
      | nil => exact absurd (List.eq_nil_of_length_eq_zero e) hne
      | cons a b => rfl
    have k2 : k = 0 ∨ k = 1 := by omega
    rcases k2 with rfl | rfl
    · refine wpAny_binaryOp_repeat_ref (T := "tuple") (U := "int") (by decide) ⟨_, ho, rfl⟩ (fun s' => typeIs_int s' 0 t) noFill_tuple_mul F.fills_int_mul F.slot_int_rmul repeat_tuple F.slot_int_index.lookup (call_meets F.slot_int_rmul (typeIs_int s 0 t) F.entry_int_rmul (F.args_int_rmul_2 _ _) (int_rmul_tuple 0 t l its.toArray n dd sl)
        ⟨ho, rfl, ⟨_, ho, rfl⟩, call_meets F.slot_tuple_mul ⟨_, ho, rfl⟩ F.entry_tuple_mul (F.args_tuple_mul_2 _ _) (mul_zero hi) ⟨ho, ?_⟩⟩)
      refine ⟨.ref s.heap.objs.size, _, I.laid (t' := s.toks) (o := .tup []) (fun b ob q => Heap.get?_push_of_some _ q) (Nat.le_refl _) ?_, rfl, q2 (by decide) _ (I.hok.fresh (Nat.le_refl _))⟩
      exact ⟨Nat.zero_le _, _, .nil, IsTup.new _ _⟩
    · refine wpAny_binaryOp_repeat_ref (T := "tuple") (U := "int") (by decide) ⟨_, ho, rfl⟩ (fun s' => typeIs_int s' 1 t) noFill_tuple_mul F.fills_int_mul F.slot_int_rmul repeat_tuple F.slot_int_index.lookup (call_meets F.slot_int_rmul (typeIs_int s 1 t) F.entry_int_rmul (F.args_int_rmul_2 _ _) (int_rmul_tuple 1 t l its.toArray n dd sl)
        ⟨ho, rfl, ⟨_, ho, rfl⟩, call_meets F.slot_tuple_mul ⟨_, ho, rfl⟩ F.entry_tuple_mul (F.args_tuple_mul_2 _ _) (mul_one hi) ⟨ho, ?_⟩⟩)
      exact ⟨.ref l, H, I, rfl, q1 rfl⟩
end
end Gx

namespace Dn
open PySem L2 PySem.Spec PyProof.Rows Gx
/-! ### tuple * int -/
def timesD : PyData → PyData → Option PyData
  | .tuple a, .int k => if (a.isEmpty = false ∧ a.length ≤ 1000) ∧ (0 ≤ k ∧ k.natAbs ≤ 1000) then some (.tuple (List.replicate k.toNat a).flatten) else none
  | _, _ => none
section
variable {K : PySem.W.Frag}
theorem rd_times [Tbs] : RD K (rTimes K) timesD := fun B H x y dx dy d Q s hx hy hg q => by
  unfold timesD at hg
  split at hg
  · obtain ⟨⟨⟨h1, h2⟩, h3, h4⟩, rfl⟩ := ite_some hg
    cases hy
    rename_i ds k
    cases hx with
    | @tup a xs _ h ha =>
      have hl := dpAll_len ha
      refine ⟨a, k, xs, rfl, rfl, sqT_mono s h, fun z => ?_, h3, by omega, by omega, fun e => ?_, fun _ p hp => newT s (dpAll_rep ha _) q hp⟩
      · subst z
        cases ds with
        | nil => cases h1
        | cons _ _ => simp at hl
      · subst e
        refine q _ B H (Tr.refl s) ?_
        show Dq K B (.ref a) (.tuple (List.replicate 1 ds).flatten)
        rw [show (List.replicate 1 ds).flatten = ds by simp]
        exact .tup h ha
  · cases hg
/-! ### sorted(xs), sorted(set(xs)) of texts -/
def sortedD : PyData → Option PyData
  | .list xs => (strsD xs).bind fun ys => if ys.length < 64 then some (.list ((sortT ys).map .str)) else none
  | _ => none
theorem rc_sorted [Tbs] : RC K (rSortedS K) (one1 sortedD) := rc_one fun B H v x d Q s hx hg q => by
  unfold sortedD at hg
  split at hg
  · obtain ⟨ys, hy, hg⟩ := bind_some hg
    obtain ⟨hl, rfl⟩ := ite_some hg
    cases hx with
    | lst h a =>
      refine ⟨_, ys, rfl, by rw [← strs_of a hy]; exact sqL_mono s h, hl, fun zs p h1 h2 h3 => ?_⟩
      rw [sort_eq h1 h2]
      exact newL s (dp_strs _) q h3
  · cases hg
def ssD : PyData → Option PyData
  | .list xs => (strsD xs).bind fun ys => if ys.length < 64 then some (.list ((sortT (onceT ys)).map .str)) else none
  | _ => none
end
section
variable {X : Cx} {a e : Expr} {f : Rho → Option PyData} {p p2 q pos : Pos}
theorem pd_ss [Tbs] (hc : X.calm = true) (hg : Gl X "sorted") (hm : X.mg "sorted" = none) (hg2 : Gl X "set") (hm2 : X.mg "set" = none) (ha : PD X a f)
    (na : starEach [a] X.env = (false, eval a X.env) :: starEach [] X.env := by rfl) : PD X (.Call (.Name "sorted" p) [.Call (.Name "set" p2) [a] [] q] [] pos) (f1 ssD f) := pe_imp (Sx.pe_sortedSet hc hg hm hg2 hm2 ha na) fun σ H Q ⟨H0, B, ρ, d, s, hf, q⟩ => by
  obtain ⟨x, hx, hf⟩ := bind_some hf
  refine ⟨H0, B, ρ, x, s, hx, fun v B1 H1 t1 d1 => ?_⟩
  unfold ssD at hf
  split at hf
  · obtain ⟨ys, hy, hf⟩ := bind_some hf
    obtain ⟨hl, rfl⟩ := ite_some hf
    cases d1 with
    | lst h a =>
      refine ⟨_, ys, rfl, by rw [← strs_of a hy]; exact sqL_mono t1.t h, hl, fun zs p h1 h2 h3 _ h4 => ?_⟩
      rw [sortset_eq h1 h2 h3]
      exact newL t1.t (dp_strs _) (fun v B' H' t dd => q v B' H' (t1.trans t) dd) h4
  · cases hf
end
/-! ### comprehensions of two clauses -/
def lc2Go (bd : PyData → Rho → Option Rho) (t : Rho → Option Bool) (fi1 : Rho → Option (List PyData)) (bd1 : PyData → Rho → Option Rho) (t1 : Rho → Option Bool) (f : Rho → Option PyData) (vs1 : List Nat) (ρ : Rho) : List PyData → Option (List PyData)
  | [] => some []
  | x :: xs => (bd x ρ).bind fun ρ1 => (t ρ1).bind fun b => if b then (fi1 ρ1).bind fun ys => (lcGo bd1 t1 f (wipeR ρ1 vs1) ys).bind fun r1 => (lc2Go bd t fi1 bd1 t1 f vs1 ρ xs).bind fun r => some (r1 ++ r) else lc2Go bd t fi1 bd1 t1 f vs1 ρ xs
def fLc2 (fi : Rho → Option (List PyData)) (bd : PyData → Rho → Option Rho) (t : Rho → Option Bool) (fi1 : Rho → Option (List PyData)) (bd1 : PyData → Rho → Option Rho) (t1 : Rho → Option Bool) (f : Rho → Option PyData) (vs vs1 : List Nat) : Rho → Option PyData := fun ρ => (fi ρ).bind fun xs => (lc2Go bd t fi1 bd1 t1 f vs1 (wipeR ρ vs) xs).bind fun r => if r.length ≤ bigL then some (.list r) else none
/-- a list at D that no slot knows -/
theorem sl_h0 [Tbs] {K : PySem.W.Frag} {H0 B H : Hp} {ρ : Rho} {σ : L2.St} (s : Sl K H0 B ρ σ H) {D : Addr} (hD : H D = none) (o : HO) : Sl K (upd H0 D o) B ρ σ (upd H D o) := by
  refine ⟨same_upd2 s.bh hD, s.nt, fun P hP => (Gw.of (same_upd hD)).tab (s.tb P hP), s.len, s.dv, fun e => ?_, s.ap, fun i a n fs e => ?_⟩
  · obtain ⟨a, us, h1, h2, h3, h4, h5⟩ := s.ow e
    have ne := ne_of_none h4 hD
    exact ⟨a, us, h1, h2, by rw [upd_ne ne]; exact h3, by rw [upd_ne ne]; exact h4, h5⟩
  · obtain ⟨rfl, dx, us, h1, h2, h3, h4, h5⟩ := s.ob i a n fs e
    have ne := ne_of_none h4 hD
    exact ⟨rfl, dx, us, h1, h2, by rw [upd_ne ne]; exact h3, by rw [upd_ne ne]; exact h4, h5⟩
theorem sl_off [Tbs] {K : PySem.W.Frag} {H0 B H : Hp} {ρ : Rho} {σ : L2.St} (s : Sl K H0 B ρ σ H) {D : Addr} {us ws : List V} (h0 : H0 D ≠ none) (hB : B D = none) (hD : H D = some (.lst us)) : Sl K H0 B ρ σ (upd H D (.lst ws)) := by
  refine ⟨fun a o e => by rw [upd_ne (ne_of_none e hB)]; exact s.bh a o e, s.nt, fun P hP => ?_, s.len, s.dv, fun e => ?_, s.ap, fun i a n fs e => ?_⟩
  · obtain ⟨ps, e, h⟩ := s.tb P hP
    exact ⟨ps, by rw [upd_ne (fun z => by rw [z, hD] at e; cases e)]; exact e, h⟩
  · obtain ⟨a, vs, h1, h2, h3, h4, h5⟩ := s.ow e
    exact ⟨a, vs, h1, h2, h3, by rw [upd_ne (fun z => h0 (by rw [← z]; exact h3))]; exact h4, h5⟩
  · obtain ⟨rfl, dx, vs, h1, h2, h3, h4, h5⟩ := s.ob i a n fs e
    exact ⟨rfl, dx, vs, h1, h2, h3, by rw [upd_ne (fun z => h0 (by rw [← z]; exact h3))]; exact h4, h5⟩
theorem lc2_imp [Tbs] {K : PySem.W.Frag} {fi fi1 : Rho → Option (List PyData)} {g g1 : TG} {bd bd1 : PyData → Rho → Option Rho} {is is1 : List Nat} {t t1 : Rho → Option Bool} {f : Rho → Option PyData} {vs vs1 : List Nat} (hg : GD K g bd is) (hv : ∀ i ∈ is, i ∈ vs) (hg1 : GD K g1 bd1 is1) (hv1 : ∀ i ∈ is1, i ∈ vs1) :
    ∀ σ H Q, tD K (fLc2 fi bd t fi1 bd1 t1 f vs vs1) σ H Q → tLc2 (tDI K fi) g (tDT K t) (tDI K fi1) g1 (tDT K t1) (tD K f) vs vs1 σ H Q := fun σ H Q ⟨H00, B, ρ, d, s, hf, q⟩ => by
  obtain ⟨xs, hxs, hf⟩ := bind_some hf
  obtain ⟨ys, hys, hf⟩ := bind_some hf
  obtain ⟨hlen, rfl⟩ := ite_some hf
  refine ⟨H00, B, ρ, xs, s, hxs, fun J B1 H1 tr1 it D hD => ?_⟩
  have hBD1 : B1 D = none := tr1.t.free hD
  obtain ⟨H0, hH0⟩ : ∃ H0, H0 = upd H00 D (HO.lst []) := ⟨_, rfl⟩
  have h0 : H0 D ≠ none := by rw [hH0, upd_same]; exact fun z => by cases z
  have s1 : Sl K H0 B1 ρ σ (upd H1 D (.lst [])) := by rw [hH0]; exact sl_h0 (s.tr tr1) hD _
  refine ⟨fun i m H' => ∃ B2 acc accD rest, Tr B1 H1 B2 H' ∧ Sl K H0 B2 ρ σ H' ∧ m = xs.length - i ∧ i ≤ xs.length ∧ B2 D = none ∧ H' D = some (.lst acc) ∧ DqAll K B2 acc accD ∧ lc2Go bd t fi1 bd1 t1 f vs1 (wipeR ρ vs) (xs.drop i) = some rest ∧ accD ++ rest = ys,
    ⟨xs.length, B1, [], [], ys, Tr.junk tr1.t hD, s1, rfl, Nat.zero_le _, hBD1, upd_same, .nil, hys, rfl⟩, ?_⟩
  rintro i m H' ⟨B2, acc, accD, rest, t2, s2, rfl, hi, hB, hDl, hacc, hgo, hr⟩
  by_cases hlt : i < xs.length
  · have hx : xs[i]? = some xs[i] := by simp [hlt]
    obtain ⟨go, yld⟩ := it.2 i xs[i] hx H' (t2.b.trans t2.t)
    rw [List.drop_eq_getElem_cons hlt] at hgo
    unfold lc2Go at hgo
    obtain ⟨ρ1, h1, hgo⟩ := bind_some hgo
    obtain ⟨b, h2, hgo⟩ := bind_some hgo
    refine .inr ⟨go, _, fun H'' nx => ⟨xs.length - (i + 1), by omega, nx⟩, fun x H3 y => ?_⟩
    obtain ⟨B3, t3, d3⟩ := yld x H3 y B2 t2.b t2.t
    refine hg H0 B3 H3 (wipeR ρ vs) ρ1 (wipe σ vs) x xs[i] _ (sl_wipe (s2.tr t3) vs) d3 h1 fun σ' hw s3 => ⟨by rw [hw vs hv, wipe_idem], ?_⟩
    refine ⟨H0, B3, ρ1, b, s3, h2, fun B4 H4 t4 => ?_⟩
    have t24 := (t2.trans t3).trans t4
    have hD4 := (t3.trans t4).h.l hDl
    have hB4 := (t3.trans t4).stay hB hDl
    have s4 := s3.tr t4
    have z4 := (s2.tr t3).tr t4
    cases b with
    | true =>
      obtain ⟨zs, h3, hgo⟩ := bind_some hgo
      obtain ⟨r1, h4, hgo⟩ := bind_some hgo
      obtain ⟨rs, h5, hgo⟩ := bind_some hgo
      cases hgo
      refine ⟨H0, B4, ρ1, zs, s4, h3, fun J1 B5 H5 t5 it1 => ?_⟩
      refine ⟨fun j m1 H6 => ∃ B6 acc6 accD6 rest6, Tr B1 H1 B6 H6 ∧ Same B5 B6 ∧ Sl K H0 B6 ρ σ H6 ∧ Sl K H0 B6 ρ1 σ' H6 ∧ m1 = zs.length - j ∧ j ≤ zs.length ∧ B6 D = none ∧ H6 D = some (.lst acc6) ∧ DqAll K B6 acc6 accD6 ∧ lcGo bd1 t1 f (wipeR ρ1 vs1) (zs.drop j) = some rest6 ∧ accD6 ++ (rest6 ++ rs) = ys,
        ⟨zs.length, B5, acc, accD, r1, t24.trans t5, Same.refl _, z4.tr t5, s4.tr t5, rfl, Nat.zero_le _, t5.stay hB4 hD4, t5.h.l hD4, dpAll_mono ((t3.trans t4).trans t5).b hacc, h4, hr⟩, ?_⟩
      rintro j m1 H6 ⟨B6, acc6, accD6, rest6, t6, b6s, z6, s6, rfl, hj, hB6, hD6, hacc6, hgo6, hr6⟩
      by_cases hlt1 : j < zs.length
      · have hx1 : zs[j]? = some zs[j] := by simp [hlt1]
        obtain ⟨go1, yld1⟩ := it1.2 j zs[j] hx1 H6 (b6s.trans t6.t)
        rw [List.drop_eq_getElem_cons hlt1] at hgo6
        unfold lcGo at hgo6
        obtain ⟨ρ2, h61, hgo6⟩ := bind_some hgo6
        obtain ⟨b6, h62, hgo6⟩ := bind_some hgo6
        refine .inr ⟨go1, _, fun H'' nx => ⟨zs.length - (j + 1), by omega, nx⟩, fun x1 H7 y1 => ?_⟩
        obtain ⟨B7, t7, d7⟩ := yld1 x1 H7 y1 B6 b6s t6.t
        refine hg1 H0 B7 H7 (wipeR ρ1 vs1) ρ2 (wipe σ' vs1) x1 zs[j] _ (sl_wipe (s6.tr t7) vs1) d7 h61 fun σ7 hw7 s7 => ⟨by rw [hw7 vs1 hv1, wipe_idem], ?_⟩
        refine ⟨H0, B7, ρ2, b6, s7, h62, fun B8 H8 t8 => ?_⟩
        have t78 := t7.trans t8
        have hD8 := t78.h.l hD6
        have hB8 := t78.stay hB6 hD6
        cases b6 with
        | true =>
          obtain ⟨w6, h63, hgo6⟩ := bind_some hgo6
          obtain ⟨rs6, h64, hgo6⟩ := bind_some hgo6
          cases hgo6
          refine ⟨H0, B8, ρ2, w6, s7.tr t8, h63, fun v B9 H9 t9 d9 => ?_⟩
          have t79 := t78.trans t9
          have hD9 := t9.h.l hD8
          have hB9 := t9.stay hB8 hD8
          exact ⟨acc6, hD9, by
            have := dpAll_len hacc6
            have h6 : (bigL : Nat) < sizeLine := by decide
            have h7 := congrArg List.length hr6
            simp at h7
            omega, B9, acc6 ++ [v], accD6 ++ [w6], rs6, (t6.trans t79).put hB9 hD, b6s.trans t79.b, sl_off (z6.tr t79) h0 hB9 hD9, sl_off (s6.tr t79) h0 hB9 hD9, rfl, hlt1, hB9, upd_same, dpAll_append (dpAll_mono t79.b hacc6) (.cons d9 .nil), h64, by rw [← hr6]; simp⟩
        | false => exact ⟨B8, acc6, accD6, rest6, t6.trans t78, b6s.trans t78.b, z6.tr t78, s6.tr t78, rfl, hlt1, hB8, hD8, dpAll_mono t78.b hacc6, hgo6, hr6⟩
      · have e : zs.length = j := by omega
        subst e
        rw [List.drop_length] at hgo6
        cases hgo6
        exact .inl ⟨it1.1 H6 (b6s.trans t6.t), B6, acc6, accD6, rs, t6, z6, rfl, hlt, hB6, hD6, hacc6, h5, hr6⟩
    | false => exact ⟨B4, acc, accD, rest, t24, z4, rfl, hlt, hB4, hD4, dpAll_mono (t3.trans t4).b hacc, hgo, hr⟩
  · have e : xs.length = i := by omega
    subst e
    rw [List.drop_length] at hgo
    cases hgo
    rw [List.append_nil] at hr
    subst hr
    refine .inl ⟨it.1 H' (t2.b.trans t2.t), q _ (upd B2 D (.lst acc)) H' ?_ (.lst (SqL.of upd_same) (dpAll_mono (same_upd hB) hacc))⟩
    have T := tr1.trans t2
    refine ⟨T.b.trans (same_upd hB), fun a u e => ?_, T.h, fun n => nt_upd (T.n n) (fun _ z => by cases z), fun a u e1 e2 => ?_⟩
    · by_cases z : a = D
      · subst z; rw [upd_same] at e; cases e; exact hDl
      · rw [upd_ne z] at e; exact T.t a u e
    · by_cases z : a = D
      · subst z; exact tr1.h.free hD
      · rw [upd_ne z] at e1; exact T.f a u e1 e2
section
variable {X : Cx} {elt tg iter tg1 iter1 : Expr} {ifs ifs1 : List Expr} {scope : Scope} {own : List (Str × Nat)} {pos : Pos} {fi fi1 : Rho → Option (List PyData)} {g g1 : TG} {bd bd1 : PyData → Rho → Option Rho} {is is1 : List Nat} {t t1 : Rho → Option Bool} {f : Rho → Option PyData} {vs vs1 : List Nat}
theorem pd_lc2 [Tbs] (hgd : GD X.K g bd is) (hv : ∀ i ∈ is, i ∈ vs) (hgd1 : GD X.K g1 bd1 is1) (hv1 : ∀ i ∈ is1, i ∈ vs1) (hvv : ∀ i ∈ vs1, i ∈ vs) (hc : X.calm = true) (hN : X.N.Nodup) (hi : PDI X tg iter fi) (ok : BlkOk X.N X.env.scope scope own)
    (hg : ∀ (s : Shared) (H : Hp) (C : Addr) (cl : List (Str × Addr)) (fp : List Addr), PG (X.blk s H scope (compEnvC scope cl C X.env) fp) tg g) (ht : ∀ (s : Shared) (H : Hp) (C : Addr) (cl : List (Str × Addr)) (fp : List Addr), PDTs (X.blk s H scope (compEnvC scope cl C X.env) fp) ifs t)
    (hi1 : ∀ (s : Shared) (H : Hp) (C : Addr) (cl : List (Str × Addr)) (fp : List Addr), PDI (X.blk s H scope (compEnvC scope cl C X.env) fp) tg1 iter1 fi1)
    (hg1 : ∀ (s : Shared) (H : Hp) (C : Addr) (cl : List (Str × Addr)) (fp : List Addr), PG (X.blk s H scope (compEnvC scope cl C X.env) fp) tg1 g1) (ht1 : ∀ (s : Shared) (H : Hp) (C : Addr) (cl : List (Str × Addr)) (fp : List Addr), PDTs (X.blk s H scope (compEnvC scope cl C X.env) fp) ifs1 t1)
    (he : ∀ (s : Shared) (H : Hp) (C : Addr) (cl : List (Str × Addr)) (fp : List Addr), PD (X.blk s H scope (compEnvC scope cl C X.env) fp) elt f) (hw : own.map (·.2) = vs := by rfl) (hs : ∀ x, foldedSetIterable iter X.env x = pure x := by intro _; rfl) (hs1 : ∀ env x, foldedSetIterable iter1 env x = pure x := by intro _ _; rfl) :
    PD X (.ListComp elt [⟨tg, iter, ifs, 0⟩, ⟨tg1, iter1, ifs1, 0⟩] scope pos) (fLc2 fi bd t fi1 bd1 t1 f vs vs1) := by
  subst hw
  exact pe_imp (pe_lc2 (vs1 := vs1) hc hN hi ok hvv hg ht hi1 hg1 ht1 he hs hs1) (lc2_imp hgd hv hgd1 hv1)
end
end Dn

namespace Dn
open PySem L2 PySem.Spec PyProof.Rows Gx
/-! ### instances that no more change: their fields -/
def lkF (f : Str) : List (PyData × PyData) → Option PyData
  | (.str x, d) :: r => if f == x then some d else lkF f r
  | _ => none
def puF (f : Str) (y : PyData) : List (PyData × PyData) → List (PyData × PyData)
  | (.str g, x) :: r => if g = f then (.str g, y) :: r else (.str g, x) :: puF f y r
  | _ => [(.str f, y)]
theorem dqF_lk [Tbs] {K : PySem.W.Frag} {B : Hp} {f : Str} {d : PyData} {vs : List (Str × V)} : ∀ {fs : List (PyData × PyData)}, DqF K B vs fs → lkF f fs = some d → ∃ v, vs.lookup f = some v ∧ Dq K B v d := by
  induction vs with
  | nil => intro fs h e; cases h; cases e
  | cons p vs ih =>
    intro fs h e
    cases h with
    | cons a b =>
      rename_i x v d' fs'
      unfold lkF at e
      rw [List.lookup_cons]
      cases hx : f == x with
      | true => rw [hx] at e; cases e; exact ⟨v, rfl, a⟩
      | false => rw [hx] at e; exact ih b e
theorem dqF_pu [Tbs] {K : PySem.W.Frag} {B : Hp} {f : Str} {y : V} {d : PyData} (hd : Dq K B y d) {vs : List (Str × V)} : ∀ {fs : List (PyData × PyData)}, DqF K B vs fs → DqF K B (putF f y vs) (puF f d fs) := by
  induction vs with
  | nil => intro fs h; cases h; exact .cons hd .nil
  | cons p vs ih =>
    intro fs h
    cases h with
    | cons a b =>
      unfold putF puF
      split
      · exact .cons hd b
      · exact .cons a (ih b)
theorem dqF_len [Tbs] {K : PySem.W.Frag} {B : Hp} {vs : List (Str × V)} : ∀ {fs : List (PyData × PyData)}, DqF K B vs fs → vs.length = fs.length := by
  induction vs with
  | nil => intro fs h; cases h; rfl
  | cons p vs ih => intro fs h; cases h with | cons a b => simp [ih b]
/-- what an own class has -/
structure Cla [Tbs] (K : PySem.W.Frag) (n : Str) (fl : List Str) : Prop where
  cl : Cls K (Tbs.Cl n)
  na : ∀ f ∈ fl, NoAttr K (Tbs.Cl n) f
def fldD (n f : Str) : PyData → Option PyData
  | .dict ((.none, .str m) :: fs) => if m = n then lkF f fs else none
  | _ => none
section
variable {X : Cx} {e o value : Expr} {es : List Expr} {n f : Str} {fl : List Str} {g fe : Rho → Option PyData} {fs : Rho → Option (List PyData)} {pos pos' : Pos}
theorem pd_fld [Tbs] (C : Cla X.K n fl) (hf : f ∈ fl) (he : PD X e g) (hb : attributeBase e f X.env (eval e X.env) = eval e X.env := by rfl) : PD X (.Attribute e f pos) (f1 (fldD n f) g) := pe_imp (pe_fld he hb) fun σ H Q ⟨H0, B, ρ, d, s, hx, q⟩ => by
  obtain ⟨x, hx, hy⟩ := bind_some hx
  refine ⟨H0, B, ρ, x, s, hx, fun v B1 H1 t1 d1 => ?_⟩
  unfold fldD at hy
  split at hy
  · rename_i m fs0
    split at hy
    · rename_i em
      subst em
      cases d1 with
      | ins h a =>
        obtain ⟨u, e1, e2⟩ := dqF_lk a hy
        exact ⟨_, _, _, _, u, rfl, t1.t _ _ h, C.cl, C.na f hf, e1, q u B1 H1 t1 e2⟩
    · cases hy
  · cases hy
/-! ### self in __init__ -/
def obF (n : Str) (ρ : Rho) : Option (List (PyData × PyData)) := match (ρ[0]? : Option (Option Sv)) with
  | some (some (.ob _ m fs)) => if m = n then some fs else none
  | _ => none
theorem obF_some {ρ : Rho} {gs : List (PyData × PyData)} (h : obF n ρ = some gs) : ∃ a, ρ[0]? = some (some (.ob a n gs)) := by
  unfold obF at h
  split at h
  · rename_i a m fs e
    obtain ⟨rfl, rfl⟩ := ite_some h
    exact ⟨a, e⟩
  · cases h
def fSlf (n f : Str) : Rho → Option PyData := fun ρ => (obF n ρ).bind (lkF f)
theorem pd_slf [Tbs] (C : Cla X.K n fl) (hf : f ∈ fl) (he : PE X e (tVar 0)) (hb : attributeBase e f X.env (eval e X.env) = eval e X.env := by rfl) : PD X (.Attribute e f pos) (fSlf n f) := pe_imp (pe_fld he hb) fun σ H Q ⟨H0, B, ρ, d, s, hx, q⟩ => by
  obtain ⟨gs, h1, h2⟩ := bind_some hx
  obtain ⟨a, ha⟩ := obF_some h1
  obtain ⟨_, dx, vs, e1, e2, e3, e4, e5⟩ := s.ob 0 a n gs ha
  obtain ⟨u, u1, u2⟩ := dqF_lk e5 h2
  exact ⟨.ref a, e1, a, _, dx, vs, u, rfl, e4, C.cl, C.na f hf, u1, q u B H (Tr.refl s.bh) u2⟩
/-- self.f = e -/
def gFld (n f : Str) (fe : Rho → Option PyData) : Rho → Option Out := fun ρ => (fe ρ).bind fun d => match (ρ[0]? : Option (Option Sv)) with
  | some (some (.ob a m gs)) => if m = n ∧ gs.length < 100 then some (.nx (ρ.set 0 (some (.ob a m (puF f d gs))))) else none
  | _ => none
theorem psd_fld [Tbs] (C : Cla X.K n fl) (hf : f ∈ fl) (ho : PE X o (tVar 0)) (hv : PD X value fe) (hs : swapsWith value (some (.Attribute o f pos')) pos.line X.env = pure false := by rfl) : PSD X (.Assign [.Attribute o f pos'] value pos) (gFld n f fe) := ps_imp (ps_fld ho hv hs) fun D σ H ⟨B0, H0, ρ, ou, ⟨B, t, s⟩, hx, q⟩ => by
  obtain ⟨d, hd, hx⟩ := bind_some hx
  split at hx
  · rename_i a m gs ha
    obtain ⟨⟨rfl, hl⟩, rfl⟩ := ite_some hx
    refine ⟨H0, B, ρ, d, s, hd, fun v B1 H1 t1 d1 => ?_⟩
    have s1 := s.tr t1
    have T := t.trans t1
    obtain ⟨_, dx, vs, e1, e2, e3, e4, e5⟩ := s1.ob 0 a m gs ha
    refine ⟨.ref a, e1, a, _, dx, vs, rfl, e4, C.cl, C.na f hf, by rw [dqF_len e5]; omega, q _ _ ⟨B1, T.put e2 e3, ?_⟩⟩
    have hne : ∀ {b : Addr} {us : List V}, H1 b = some (.lst us) → b ≠ a := fun hb z => by rw [z, e4] at hb; cases hb
    refine ⟨fun b u e => by rw [upd_ne (ne_of_none e e2)]; exact s1.bh b u e, s1.nt, fun P hP => ?_, by simp [s1.len], fun {i y} e => ?_, fun {i oo us} e => ?_, fun {i j o' o2 us ws b} x1 x2 x3 x4 => ?_, fun i b m2 gs2 e => ?_⟩
    · obtain ⟨ps, e, h⟩ := s1.tb P hP
      exact ⟨ps, by rw [upd_ne (fun z => by rw [z, e4] at e; cases e)]; exact e, h⟩
    · rcases get_set e with ⟨_, _, z⟩ | ⟨_, e⟩
      · cases z
      · exact s1.dv e
    · rcases get_set e with ⟨_, _, z⟩ | ⟨_, e⟩
      · cases z
      · obtain ⟨c, ws, w1, w2, w3, w4, w5⟩ := s1.ow e
        exact ⟨c, ws, w1, w2, w3, by rw [upd_ne (hne w4)]; exact w4, w5⟩
    · rcases get_set x1 with ⟨_, _, z⟩ | ⟨_, x1⟩
      · cases z
      · rcases get_set x2 with ⟨_, _, z⟩ | ⟨_, x2⟩
        · cases z
        · exact s1.ap x1 x2 x3 x4
    · rcases get_set e with ⟨rfl, _, z⟩ | ⟨n0, e⟩
      · cases z
        exact ⟨rfl, dx, _, e1, e2, e3, upd_same, dqF_pu d1 e5⟩
      · obtain ⟨z, _⟩ := s1.ob i b m2 gs2 e
        exact absurd z.symm n0
  · cases hx
end
/-! ### a def called with self -/
mutual
def noD : PyData → Bool
  | .list xs => noDs xs
  | .tuple xs => noDs xs
  | .dict _ => false
  | _ => true
def noDs : List PyData → Bool
  | [] => true
  | x :: r => noD x && noDs r
end
section
variable {K : PySem.W.Frag} {H : Hp} {a : Addr}
theorem rd_rm {b : Addr} {u : HO} (h : Rd H b u) (hn : ∀ o, H a ≠ some u ∧ H a ≠ some (.frz o u)) : Rd (rm H a) b u := by
  rcases h with h | ⟨o, h⟩
  · exact .inl (by rw [rm_ne (fun z => (hn (default : Obj)).1 (by rw [← z]; exact h))]; exact h)
  · exact .inr ⟨o, by rw [rm_ne (fun z => (hn o).2 (by rw [← z]; exact h))]; exact h⟩
mutual
theorem dq_rm [Tbs] {C dx : Addr} {fs : List (Str × V)} (ha : H a = some (.ins C dx fs)) : ∀ {v : V} {d : PyData}, Dq K H v d → noD d = true → Dq K (rm H a) v d
  | _, _, .non, _ => .non
  | _, _, .bl b, _ => .bl b
  | _, _, .int i, _ => .int i
  | _, _, .str x, _ => .str x
  | _, _, .lst h as, e => .lst (by
      rcases h with h | h
      · exact .inl (rd_rm h fun o => by rw [ha]; exact ⟨(fun z => by cases z), (fun z => by cases z)⟩)
      · exact .inr h) (dqAll_rm ha as (by simpa only [noD] using e))
  | _, _, .tup h as, e => .tup (by
      rcases h with h | h
      · exact .inl (rd_rm h fun o => by rw [ha]; exact ⟨(fun z => by cases z), (fun z => by cases z)⟩)
      · exact .inr h) (dqAll_rm ha as (by simpa only [noD] using e))
  | _, _, .emp h, e => by simp [noD] at e
  | _, _, .ins h as, e => by simp [noD] at e
theorem dqAll_rm [Tbs] {C dx : Addr} {fs : List (Str × V)} (ha : H a = some (.ins C dx fs)) : ∀ {vs : List V} {ds : List PyData}, DqAll K H vs ds → noDs ds = true → DqAll K (rm H a) vs ds
  | _, _, .nil, _ => .nil
  | _, _, .cons h t, e => by
    rw [noDs, Bool.and_eq_true] at e
    exact .cons (dq_rm ha h e.1) (dqAll_rm ha t e.2)
end
end
section
variable {X : Cx} {k n : Nat} {x nm : Str} {p pos : Pos} {e : Expr} {es : List Expr} {fs : Rho → Option (List PyData)} {F : List PyData → Option PyData}
def fCaO (n : Nat) (nm : Str) (F : List PyData → Option PyData) (fs : Rho → Option (List PyData)) : Rho → Option PyData := fun ρ => (fs ρ).bind fun ds => (obF nm ρ).bind fun gs => if ds.length + 1 = n then (F (.dict ((.none, .str nm) :: gs) :: ds)).bind fun d => if noD d = true then some d else none else none
theorem pd_knO [Tbs] (h : Kn X.prog X.w X.K X.mg X.base k n x F) (hr : Room k X.A) (h0 : PE X e (tVar 0)) (ha : PDA X es fs) (hg : Gl X x := by rfl) (hdb : (x == ("__debug__" : Str)) = false := by decide) (he : starEach (e :: es) X.env = (false, eval e X.env) :: starEach es X.env := by rfl) (hpl : (backTo pos (starEach es X.env)).any (·.1) = false := by rfl) :
    PD X (.Call (.Name x p) (e :: es) [] pos) (fCaO n nm F fs) := by
  obtain ⟨f, fd, ps, G, hm, hk, hb⟩ := h.ex
  refine pe_imp (pe_call (E := E0) G hr hg hm hk hb .nil pass0 (pa_cons h0 ha he) hdb he hpl) fun σ H Q ⟨H0, B, ρ, d, s, hf, q⟩ => ?_
  obtain ⟨ds, hds, hf⟩ := bind_some hf
  obtain ⟨gs, hgs, hf⟩ := bind_some hf
  split at hf
  case isFalse => cases hf
  rename_i hl
  obtain ⟨r, hF, hf⟩ := bind_some hf
  obtain ⟨hn, rfl⟩ := ite_some hf
  obtain ⟨a, ha⟩ := obF_some hgs
  obtain ⟨_, dx0, vs0, e1, _⟩ := s.ob 0 a nm gs ha
  refine ⟨.ref a, e1, H0, B, ρ, ds, s, hds, fun us B1 H1 t1 d1 => ?_⟩
  have s1 := s.tr t1
  obtain ⟨_, dx, vs, e1, e2, e3, e4, e5⟩ := s1.ob 0 a nm gs ha
  show spD X.K n F ((V.ref a :: us) ++ []) H1 Q E0
  rw [List.append_nil]
  have b2 : Same B1 (upd B1 a (.ins (Tbs.Cl nm) dx vs)) := same_upd e2
  have b3 : Same (upd B1 a (.ins (Tbs.Cl nm) dx vs)) H1 := fun c u w => by
    by_cases z : c = a
    · subst z; rw [upd_same] at w; cases w; exact e4
    · rw [upd_ne z] at w; exact t1.t c u w
  refine ⟨upd B1 a (.ins (Tbs.Cl nm) dx vs), _, r, ⟨b3, nt_upd s1.nt (fun _ z => by cases z), s1.tb⟩, .cons (.ins upd_same (dpF_mono b2 e5)) (dpAll_mono b2 d1), hl, hF, fun v B' H' t dd => ?_⟩
  have ha' : B' a = some (.ins (Tbs.Cl nm) dx vs) := t.b _ _ upd_same
  have T : Tr B1 H1 (rm B' a) H' := ⟨fun c u w => by rw [rm_ne (ne_of_none w e2)]; exact t.b _ _ (b2 _ _ w), fun c u w => t.t _ _ (rm_le c u w), t.h, fun _ => (fun c ps w => t.n (nt_upd s1.nt (fun _ z => by cases z)) c ps (rm_le _ _ w)), fun c u w1 w2 => by
    have hne : c ≠ a := fun z => by subst z; rw [rm_same] at w1; cases w1
    exact t.f c u (rm_le _ _ w1) (by rw [upd_ne hne]; exact w2)⟩
  exact q v (rm B' a) H' (t1.trans T) (dq_rm ha' dd hn)
end
/-! ### __init__ and the making -/
def spI [Tbs] (K : PySem.W.Frag) (nm : Str) (n : Nat) (F : List PyData → Option (List (PyData × PyData))) : Sp := fun vs H Q _ => ∃ (B : Hp) (a dx : Addr) (rest : List V) (ds : List PyData) (gs : List (PyData × PyData)),
  vs = .ref a :: rest ∧ Bs B H ∧ B a = none ∧ H a = some (.ins (Tbs.Cl nm) dx []) ∧ DqAll K B rest ds ∧ ds.length + 1 = n ∧ F ds = some gs ∧
  ∀ B' H' dx' ws, Tr B (rm H a) B' H' → B' a = none → H' a = some (.ins (Tbs.Cl nm) dx' ws) → DqF K B' ws gs → Q .non H'
def startI (n : Nat) (a : Addr) (nm : Str) (ds : List PyData) : Rho := some (.ob a nm []) :: (ds.map (fun d => some (.d d)) ++ List.replicate (n - (ds.length + 1)) none)
def retI (nm : Str) : Option Out → Option (List (PyData × PyData))
  | some (.nx ρ) => obF nm ρ
  | _ => none
def fnI (n : Nat) (nm : Str) (g : Rho → Option Out) : List PyData → Option (List (PyData × PyData)) := fun ds => retI nm (g (startI n 0 nm ds))
structure KnI [Tbs] (P : Program) (w : World) (K : PySem.W.Frag) (mg : Str → Option Value) (base : Heap) (k n : Nat) (nm : Str) (F : List PyData → Option (List (PyData × PyData))) : Prop where
  ex : ∃ f fd ps, FnOk P w K mg base CX0 k f fd ps (spI K nm n F) ∧ Mk K (Tbs.Cl nm) f ∧ mg nm = some (.ref (Tbs.Cl nm)) ∧ L2.Binds K fd ps []
section
variable {P : Program} {w : World} {K : PySem.W.Frag} {mg : Str → Option Value} {base : Heap} {nm : Str} {st : Stmt} {F : List PyData → Option (List (PyData × PyData))}
theorem KnI.mono [Tbs] {j k n : Nat} (h : KnI P w K mg base j n nm F) (l : j ≤ k) : KnI P w K mg base k n nm F := by
  obtain ⟨f, fd, ps, a, b⟩ := h.ex
  exact ⟨f, fd, ps, a.mono l, b⟩
theorem sl_startI [Tbs] {B H : Hp} {a dx : Addr} {vs : List V} {ds : List PyData} {N : List Str} (s : Bs B H) (hb : B a = none) (ha : H a = some (.ins (Tbs.Cl nm) dx [])) (h : DqAll K B vs ds) :
    Sl K (rm H a) B (startI N.length a nm ds) (L2.start N (.ref a :: vs)) H := by
  have hl := dpAll_len h
  have hN : L2.start N (.ref a :: vs) = some (.ref a) :: (vs.map some ++ List.replicate (N.length - (vs.length + 1)) none) := rfl
  rw [hN]
  have nd : ∀ (i : Nat) (y : Sv), (ds.map (fun d => some (Sv.d d)) ++ List.replicate (N.length - (ds.length + 1)) none)[i]? = some (some y) → ∃ d, ds[i]? = some d ∧ y = .d d := by
    intro i y e
    by_cases hi : i < ds.length
    · rw [List.getElem?_append_left (by simpa using hi), List.getElem?_map] at e
      obtain ⟨d, hd, e⟩ := Option.map_eq_some_iff.mp e
      cases e
      exact ⟨d, hd, rfl⟩
    · rw [List.getElem?_append_right (by simpa using hi), List.getElem?_replicate] at e
      split at e <;> cases e
  refine ⟨s.s, s.nt, s.tb, by simp [startI, hl], fun {i x} e => ?_, fun {i o xs} e => ?_, fun {i j o o' xs ys c} e _ _ _ => ?_, fun i b m gs e => ?_⟩
  · unfold startI at e
    cases i with
    | zero => cases e
    | succ i =>
      obtain ⟨d, hd, ez⟩ := nd i _ e
      cases ez
      obtain ⟨v, hv, hdv⟩ := dpAll_get h hd
      refine ⟨v, ?_, hdv⟩
      have hi := (List.getElem?_eq_some_iff.mp hv).1
      rw [List.getElem?_cons_succ, List.getElem?_append_left (by simpa using hi), List.getElem?_map, hv]
      rfl
  · unfold startI at e
    cases i with
    | zero => cases e
    | succ i => obtain ⟨d, hd, ez⟩ := nd i _ e; cases ez
  · unfold startI at e
    cases i with
    | zero => cases e
    | succ i => obtain ⟨d, hd, ez⟩ := nd i _ e; cases ez
  · unfold startI at e
    cases i with
    | zero => cases e; exact ⟨rfl, dx, [], rfl, hb, rm_same, ha, .nil⟩
    | succ i => obtain ⟨d, hd, ez⟩ := nd i _ e; cases ez
theorem knI_of [Tbs] {x qual : Str} {N ps : List Str} {k : Nat} {g : Rho → Option Out} {f : Addr} {fd : FuncData} (Fu : Fun K x qual st f fd) (M : Mk K (Tbs.Cl nm) f) (hm : mg nm = some (.ref (Tbs.Cl nm))) (bd : L2.Binds K fd ps []) (S : FnScope N ps (defScope st))
    (hF : ∀ a ds gs, F ds = some gs → retI nm (g (startI N.length a nm ds)) = some gs ∧ ∀ ρ, g (startI N.length a nm ds) = some (.nx ρ) → ∃ hs, ρ[0]? = some (some (.ob a nm hs)))
    (hb : ∀ (cdv : Value) (A : Around) (outer : List Env) (s : Shared) (H : Hp) (E : XK), Room k (A.deeper (envOfC qual (defScope st) s.heap.objs.size f cdv)) → PSDs (cxOf CX0 P w K mg base N qual (defScope st) f cdv A outer s H E).nox (defBody st) g) :
    KnI P w K mg base (k + 1) ps.length nm F := by
  refine ⟨f, fd, ps, Fu.ok S (fun vs H Q E ⟨B, a, dx, rest, ds, gs, e, _, _, _, h4, h5, _⟩ => ?_) (fun cdv A outer s H vs Q E hr ⟨B, a, dx, rest, ds, gs, e, h1, h2, h3, h4, h5, h6, q⟩ => ?_), M, hm, bd⟩
  · rw [e, ← h5, ← dpAll_len h4]; rfl
  · subst e
    obtain ⟨r1, r2⟩ := hF a ds gs h6
    refine ⟨_, hb cdv A outer s H E hr, B, rm H a, startI N.length a nm ds, ?_⟩
    unfold retI at r1
    split at r1
    · rename_i o ρ1 e1
      obtain ⟨hs, e2⟩ := r2 ρ1 e1
      have e3 : hs = gs := by
        unfold obF at r1
        rw [e2] at r1
        simpa using r1
      subst e3
      refine ⟨_, ⟨B, ⟨Same.refl _, h1.s, .of rm_le, id, fun c o w1 w2 => by rw [w2] at w1; cases w1⟩, sl_startI h1 h2 h3 h4⟩, e1, fun σ' H' ⟨B', t, s'⟩ => ?_⟩
      obtain ⟨_, dx', ws, z1, z2, z3, z4, z5⟩ := s'.ob 0 a nm hs e2
      exact q B' H' dx' ws ⟨t.b, t.t, t.h, t.n, t.f⟩ z2 z4 z5
    · cases r1
end
section
variable {X : Cx} {k n : Nat} {nm : Str} {p pos : Pos} {e : Expr} {es : List Expr} {fs : Rho → Option (List PyData)} {F : List PyData → Option (List (PyData × PyData))}
def fMk (nm : Str) (n : Nat) (F : List PyData → Option (List (PyData × PyData))) (fs : Rho → Option (List PyData)) : Rho → Option PyData := fun ρ => (fs ρ).bind fun ds => if ds.length + 1 = n then (F ds).map fun gs => .dict ((.none, .str nm) :: gs) else none
theorem pd_mk [Tbs] (h : KnI X.prog X.w X.K X.mg X.base k n nm F) (hr : Room (k + 1) X.A) (ha : PDA X (e :: es) fs) (hg : Gl X nm := by rfl) (hdb : (nm == ("__debug__" : Str)) = false := by decide) (he : starEach (e :: es) X.env = (false, eval e X.env) :: starEach es X.env := by rfl) (hpl : (backTo pos (starEach es X.env)).any (·.1) = false := by rfl) :
    PD X (.Call (.Name nm p) (e :: es) [] pos) (fMk nm n F fs) := by
  obtain ⟨f, fd, ps, G, M, hm, hb⟩ := h.ex
  refine pe_imp (pe_make (E := E0) M G hr hg hm hb .nil pass0 ha hdb he hpl) fun σ H Q ⟨H0, B, ρ, d, s, hf, q⟩ => ?_
  obtain ⟨ds, hds, hf⟩ := bind_some hf
  split at hf
  case isFalse => cases hf
  rename_i hl
  obtain ⟨gs, hF, rfl⟩ := Option.map_eq_some_iff.mp hf
  refine ⟨H0, B, ρ, ds, s, hds, fun us B1 H1 t1 d1 => fun x dx hx hdx hne => ?_⟩
  have s1 := s.tr t1
  show spI X.K nm n F (V.ref x :: (us ++ [])) _ _ E0
  rw [List.append_nil]
  have hdx' : (upd H1 dx (.own x)) x = none := by rw [upd_ne hne.symm]; exact hx
  have sH : Same H1 (upd (upd H1 dx (.own x)) x (.ins (Tbs.Cl nm) dx [])) := (same_upd hdx).trans (same_upd hdx')
  have bx : B1 x = none := s1.bh.free hx
  refine ⟨B1, x, dx, us, ds, gs, rfl, ⟨s1.bh.trans sH, s1.nt, fun P hP => (Gw.of sH).tab (s1.tb P hP)⟩, bx, upd_same, d1, hl, hF, fun B' H' dx' ws t z1 z2 z3 => ⟨rfl, ?_⟩⟩
  have hrm : ∀ c, c ≠ x → rm (upd (upd H1 dx (.own x)) x (.ins (Tbs.Cl nm) dx [])) x c = upd H1 dx (.own x) c := fun c hc => by rw [rm_ne hc, upd_ne hc]
  have T : Tr B1 H1 (upd B' x (.ins (Tbs.Cl nm) dx' ws)) H' := by
    refine ⟨t.b.trans (same_upd z1), fun c u w => ?_, ?_, fun m => nt_upd (t.n m) (fun _ z => by cases z), fun c u w1 w2 => ?_⟩
    · by_cases z : c = x
      · subst z; rw [upd_same] at w; cases w; exact z2
      · rw [upd_ne z] at w; exact t.t c u w
    · refine Gw.trans (.of fun c u w => ?_) t.h
      have hc : c ≠ x := ne_of_none w hx
      rw [hrm c hc]
      exact same_upd hdx c u w
    · by_cases z : c = x
      · subst z; exact hx
      · rw [upd_ne z] at w1
        have y := t.f c u w1 w2
        rw [hrm c z] at y
        by_cases z2 : c = dx
        · subst z2; rw [upd_same] at y; cases y
        · rw [upd_ne z2] at y; exact y
  exact q _ _ _ (t1.trans T) (.ins upd_same (dpF_mono (same_upd z1) z3))
end
end Dn

namespace Dn
open PySem L2 PySem.Spec PyProof.Rows Gx
/-! ### lists that nobody else knows: made, returned, kept -/
def tF [Tbs] (K : PySem.W.Frag) (f : Rho → Option (List PyData)) : TE := fun σ H Q => ∃ H0 B ρ xs, Sl K H0 B ρ σ H ∧ f ρ = some xs ∧ ∀ a us B' H', Tr B H B' H' → B' a = none → H a = none → H' a = some (.lst us) → DqAll K B' us xs → Q (.ref a) H'
abbrev PDF [Tbs] (X : Cx) (e : Expr) (f : Rho → Option (List PyData)) : Prop := PE X e (tF X.K f)
/-- a list that was fresh becomes data -/
theorem fresh_dq [Tbs] {K : PySem.W.Frag} {B H B' H' : Hp} {a : Addr} {us : List V} {xs : List PyData} (t : Tr B H B' H') (b : B' a = none) (h0 : H a = none) (h : H' a = some (.lst us)) (d : DqAll K B' us xs) : Tr B H (upd B' a (.lst us)) H' ∧ Dq K (upd B' a (.lst us)) (.ref a) (.list xs) := ⟨⟨t.b.trans (same_upd b), fun c u e => by
  by_cases z : c = a
  · subst z; rw [upd_same] at e; cases e; exact h
  · rw [upd_ne z] at e; exact t.t c u e, t.h, fun n => nt_upd (t.n n) (fun _ z => by cases z), fun c u e1 e2 => by
  by_cases z : c = a
  · subst z; exact h0
  · rw [upd_ne z] at e1; exact t.f c u e1 e2⟩, .lst (SqL.of upd_same) (dpAll_mono (same_upd b) d)⟩
section
variable {X : Cx} {e a : Expr} {es : List Expr} {st : Stmt} {f : Rho → Option (List PyData)} {fe : Rho → Option PyData} {pos p p2 q : Pos}
theorem pd_of_f [Tbs] (h : PDF X e f) : PD X e (fun ρ => (f ρ).map .list) := pe_imp h fun σ H Q ⟨H0, B, ρ, d, s, hf, q⟩ => by
  obtain ⟨xs, hx, rfl⟩ := Option.map_eq_some_iff.mp hf
  exact ⟨H0, B, ρ, xs, s, hx, fun a us B' H' t b h0 h d => let ⟨t2, d2⟩ := fresh_dq t b h0 h d; q _ _ _ t2 d2⟩
def fFl (f : Rho → Option (List PyData)) : Rho → Option (List PyData) := fun ρ => (f ρ).bind fun xs => if xs.length ≤ bigL then some xs else none
theorem pdf_lst [Tbs] {x1} (h : PDA X es f) : PDF X (.List es x1) (fFl f) := pe_imp (pe_lst h) fun σ H Q ⟨H0, B, ρ, d, s, hf, q⟩ => by
  obtain ⟨xs, hxs, hf⟩ := bind_some hf
  obtain ⟨hl, rfl⟩ := ite_some hf
  refine ⟨H0, B, ρ, xs, s, hxs, fun vs B1 H1 t1 d1 => ⟨by rw [dpAll_len d1]; exact bigL_le hl, fun p hp => ?_⟩⟩
  exact q p vs B1 _ (t1.trans (Tr.junk t1.t hp)) (t1.t.free hp) (t1.h.free hp) upd_same d1
def ssF : PyData → Option (List PyData)
  | .list xs => (strsD xs).bind fun ys => if ys.length < 64 then some ((sortT (onceT ys)).map .str) else none
  | _ => none
def f1F (g : PyData → Option (List PyData)) (f : Rho → Option PyData) : Rho → Option (List PyData) := fun ρ => (f ρ).bind g
theorem pdf_ss [Tbs] (hc : X.calm = true) (hg : Gl X "sorted") (hm : X.mg "sorted" = none) (hg2 : Gl X "set") (hm2 : X.mg "set" = none) (ha : PD X a fe)
    (na : starEach [a] X.env = (false, eval a X.env) :: starEach [] X.env := by rfl) : PDF X (.Call (.Name "sorted" p) [.Call (.Name "set" p2) [a] [] q] [] pos) (f1F ssF fe) := pe_imp (Sx.pe_sortedSet hc hg hm hg2 hm2 ha na) fun σ H Q ⟨H0, B, ρ, d, s, hf, q⟩ => by
  obtain ⟨x, hx, hf⟩ := bind_some hf
  refine ⟨H0, B, ρ, x, s, hx, fun v B1 H1 t1 d1 => ?_⟩
  unfold ssF at hf
  split at hf
  · obtain ⟨ys, hy, hf⟩ := bind_some hf
    obtain ⟨hl, rfl⟩ := ite_some hf
    cases d1 with
    | lst h a =>
      refine ⟨_, ys, rfl, by rw [← strs_of a hy]; exact sqL_mono t1.t h, hl, fun zs p h1 h2 h3 _ h4 => ?_⟩
      rw [sortset_eq h1 h2 h3]
      exact q p _ B1 _ (t1.trans (Tr.junk t1.t h4)) (t1.t.free h4) (t1.h.free h4) upd_same (dp_strs _)
  · cases hf
/-- x = such a list -/
def gOwnF (i : Nat) (f : Rho → Option (List PyData)) : Rho → Option Out := fun ρ => (f ρ).map fun xs => .nx (ρ.set i (some (.own none xs)))
theorem psd_ownF [Tbs] {i : Nat} (h : PS X st (tAsg (tF X.K f) (gName i))) : PSD X st (gOwnF i f) := ps_imp h fun D σ H ⟨B0, H0, ρ, o, ⟨B, t, s⟩, hf, q⟩ => by
  obtain ⟨xs, hx, rfl⟩ := Option.map_eq_some_iff.mp hf
  refine ⟨H0, B, ρ, xs, s, hx, fun a us B1 H1 t1 b h0 h d => ?_⟩
  have s1 := s.tr t1
  refine q _ _ ⟨B1, t.trans t1, sl_setO s1 b (t.h.free h0) h d (fun c e => nomatch e) fun {j oj ys} n e z => ?_⟩
  obtain ⟨c, ws, e1, _, _, e4, _⟩ := s.ow e
  rw [z] at e1
  cases e1
  rw [h0] at e4
  cases e4
def gRetF (f : Rho → Option (List PyData)) : Rho → Option Out := fun ρ => (f ρ).map fun xs => .rf xs
theorem psd_retF [Tbs] (h : PDF X e f) : PSD X (.Return (some e) pos) (gRetF f) := ps_imp (ps_ret h) fun D σ H ⟨B0, H0, ρ, o, ⟨B, t, s⟩, hf, q⟩ => by
  obtain ⟨xs, hx, rfl⟩ := Option.map_eq_some_iff.mp hf
  exact ⟨H0, B, ρ, xs, s, hx, fun a us B1 H1 t1 b h0 h d => q a us B1 H1 (t.trans t1) b (t.h.free h0) h d⟩
/-- return x, x knows its list alone -/
def fOw (i : Nat) (ρ : Rho) : Option (List PyData) := match ρ[i]? with
  | some (some (.own _ xs)) => some xs
  | _ => none
def gRetO (i : Nat) : Rho → Option Out := fun ρ => (fOw i ρ).map fun xs => .rf xs
theorem psd_retO [Tbs] {i : Nat} (h : PE X e (tVar i)) : PSD X (.Return (some e) pos) (gRetO i) := ps_imp (ps_ret h) fun D σ H ⟨B0, H0, ρ, o, ⟨B, t, s⟩, hf, q⟩ => by
  obtain ⟨xs, hx, rfl⟩ := Option.map_eq_some_iff.mp hf
  unfold fOw at hx
  split at hx
  · rename_i oo ys e
    cases hx
    obtain ⟨a, us, h1, h2, h3, h4, h5, _⟩ := s.ow e
    exact ⟨.ref a, h1, q a us B H t h2 h3 h4 h5⟩
  · cases hx
end
/-- len(x), x a slot's own list -/
def flatG (g : PyData → Option PyData) (x : PyData) : Option PyData := (g x).bind fun z => if flatD z = true then some z else none
theorem pd_biO [Tbs] {X : Cx} {x : Str} {id : String} {r : List V → Hp → VK → Prop} {g : PyData → Option PyData} {i : Nat} {e : Expr} {p pos : Pos} (hc : CallR X (.builtin id) r) (hr : RC X.K r (one1 g)) (hg : Gl X x) (hm : X.mg x = none) (hv : bootBuiltins x = some (.builtin id)) (he1 : PE X e (tVar i))
    (hn : x ≠ "__name__" := by decide) (hdb : (x == ("__debug__" : Str)) = false := by decide) (he : starEach [e] X.env = (false, eval e X.env) :: starEach [] X.env := by rfl) (hpl : (backTo pos (starEach [] X.env)).any (·.1) = false := by rfl) : PD X (.Call (.Name x p) [e] [] pos) (f1 (flatG g) (fOwn i)) :=
  pe_imp (pe_callB hc hg hm hv (pa_cons he1 pa_nil he) hn hdb he hpl) fun σ H Q h => rc_own (i := i) hr σ H Q h
/-! ### defs that return such a list -/
def spF [Tbs] (K : PySem.W.Frag) (n : Nat) (F : List PyData → Option (List PyData)) : Sp := fun vs H Q _ => ∃ B ds xs, Bs B H ∧ DqAll K B vs ds ∧ ds.length = n ∧ F ds = some xs ∧ ∀ a us B' H', Tr B H B' H' → B' a = none → H a = none → H' a = some (.lst us) → DqAll K B' us xs → Q (.ref a) H'
structure KnF [Tbs] (P : Program) (w : World) (K : PySem.W.Frag) (mg : Str → Option Value) (base : Heap) (k n : Nat) (x : Str) (F : List PyData → Option (List PyData)) : Prop where
  ex : ∃ f fd ps, FnOk P w K mg base CX0 k f fd ps (spF K n F) ∧ mg x = some (.ref f) ∧ PySem.W.keepIn K (.ref f) = true ∧ L2.Binds K fd ps []
def retF : Option Out → Option (List PyData)
  | some (.rf xs) => some xs
  | _ => none
def fnF (n : Nat) (g : Rho → Option Out) : List PyData → Option (List PyData) := fun ds => retF (g (startR n ds))
section
variable {P : Program} {w : World} {K : PySem.W.Frag} {mg : Str → Option Value} {base : Heap} {x : Str} {st : Stmt}
theorem KnF.mono [Tbs] {j k n : Nat} {F : List PyData → Option (List PyData)} (h : KnF P w K mg base j n x F) (l : j ≤ k) : KnF P w K mg base k n x F := by
  obtain ⟨f, fd, ps, a, b⟩ := h.ex
  exact ⟨f, fd, ps, a.mono l, b⟩
theorem KnF.none [Tbs] {ps : List Str} (D : Df K mg x st ps) {k n : Nat} : KnF P w K mg base k n x fun _ => .none := by
  obtain ⟨f, fd, Fu, m, b⟩ := D.ex
  have no : ∀ vs H Q E, ¬ spF K n (fun _ => Option.none) vs H Q E := fun vs H Q E ⟨_, _, _, _, _, _, h, _⟩ => nomatch h
  exact ⟨f, fd, ps, ⟨fun vs H Q E h => absurd h (no vs H Q E), fun A outer s H args us vs Q E _ _ _ _ h => absurd h (no vs H Q E)⟩, m, Fu.kp, b⟩
theorem knF_of [Tbs] {N ps : List Str} {k : Nat} {g : Rho → Option Out} (D : Df K mg x st ps) (S : FnScope N ps (defScope st))
    (hb : ∀ (f : Addr) (cdv : Value) (A : Around) (outer : List Env) (s : Shared) (H : Hp) (E : XK), Room k (A.deeper (envOfC x (defScope st) s.heap.objs.size f cdv)) → PSDs (cxOf CX0 P w K mg base N x (defScope st) f cdv A outer s H E).nox (defBody st) g) :
    KnF P w K mg base (k + 1) ps.length x (fnF N.length g) := by
  obtain ⟨f, fd, Fu, m, b⟩ := D.ex
  refine ⟨f, fd, ps, Fu.ok S (fun vs H Q E ⟨B, ds, xs, h1, h2, h3, _⟩ => by rw [dpAll_len h2, h3]) (fun cdv A outer s H vs Q E hr ⟨B, ds, xs, h1, h2, h3, h4, q⟩ => ?_), m, Fu.kp, b⟩
  refine ⟨_, hb f cdv A outer s H E hr, B, H, startR N.length ds, ?_⟩
  unfold fnF retF at h4
  split at h4
  · rename_i o ys e
    cases h4
    exact ⟨_, ⟨B, Tr.refl h1.s, sl_start h1 h2⟩, e, fun a us B' H' t b0 h0 h d => q a us B' H' t b0 h0 h d⟩
  · cases h4
theorem KnF.kn [Tbs] {k n : Nat} {F : List PyData → Option (List PyData)} (h : KnF P w K mg base k n x F) : Kn P w K mg base k n x (fun ds => (F ds).map .list) := by
  obtain ⟨f, fd, ps, G, b⟩ := h.ex
  refine ⟨f, fd, ps, G.imp fun vs H Q E ⟨B, ds, d, h1, h2, h3, h4, q⟩ => ?_, b⟩
  obtain ⟨xs, hx, rfl⟩ := Option.map_eq_some_iff.mp h4
  exact ⟨B, ds, xs, h1, h2, h3, hx, fun a us B' H' t b0 h0 h d => let ⟨t2, d2⟩ := fresh_dq t b0 h0 h d; q _ _ _ t2 d2⟩
end
section
variable {X : Cx} {k n : Nat} {x : Str} {p pos : Pos} {e : Expr} {es : List Expr} {fs : Rho → Option (List PyData)} {F : List PyData → Option (List PyData)}
abbrev ofF (F : List PyData → Option (List PyData)) : List PyData → Option PyData := fun ds => (F ds).map .list
def fCaF (n : Nat) (F : List PyData → Option (List PyData)) (fs : Rho → Option (List PyData)) : Rho → Option (List PyData) := fun ρ => (fs ρ).bind fun ds => if ds.length = n then F ds else none
theorem pdf_kn [Tbs] (h : KnF X.prog X.w X.K X.mg X.base k n x F) (hr : Room k X.A) (ha : PDA X (e :: es) fs) (hg : Gl X x := by rfl) (hdb : (x == ("__debug__" : Str)) = false := by decide) (he : starEach (e :: es) X.env = (false, eval e X.env) :: starEach es X.env := by rfl) (hpl : (backTo pos (starEach es X.env)).any (·.1) = false := by rfl) : PDF X (.Call (.Name x p) (e :: es) [] pos) (fCaF n F fs) := by
  obtain ⟨f, fd, ps, G, hm, hk, hb⟩ := h.ex
  refine pe_imp (pe_call (E := E0) G hr hg hm hk hb .nil pass0 ha hdb he hpl) fun σ H Q ⟨H0, B, ρ, d, s, hf, q⟩ => ?_
  obtain ⟨ds, hds, hf⟩ := bind_some hf
  split at hf
  · rename_i hl
    refine ⟨H0, B, ρ, ds, s, hds, fun vs B1 H1 t1 d1 => ?_⟩
    show spF X.K n F (vs ++ []) H1 Q E0
    rw [List.append_nil]
    exact ⟨B1, ds, d, (s.tr t1).bs, d1, hl, hf, fun a us B' H' t b h0 h dd => q a us B' H' (t1.trans t) b (t1.h.free h0) h dd⟩
  · cases hf
end
end Dn

/-! The meanings, applied: for simp, without going under a binder. -/
namespace Dn
open PySem L2
/-- two texts are the same -/
def sEq (a b : Str) : Bool := decide (a = b)
@[simp] theorem sEq_same (a : Str) : sEq a a = true := decide_eq_true rfl
theorem sEq_ne {a b : Str} (h : ¬ a = b) : sEq a b = false := decide_eq_false h
theorem sEq_iff {a b : Str} : sEq a b = true ↔ a = b := decide_eq_true_iff
section
variable (ρ : Rho) (i j n : Nat) (f g h : Rho → Option PyData) (ft gt : Rho → Option Bool) (fs : Rho → Option (List PyData)) (G G' : Rho → Option Out) (fl fh : Rho → Option (Option Int)) (d x y : PyData) (xs ys : List PyData) (b : Bool) (k m : Int)
def slot : Option (Option Sv) → Option PyData
  | some (some (.d x)) => some x
  | _ => none
@[simp] theorem fV_ap : fV i ρ = slot ρ[i]? := by unfold fV slot; rfl
@[simp] theorem slot_d : slot (some (some (.d x))) = some x := rfl
@[simp] theorem fC_ap : fC d ρ = some d := rfl
def ap2 (op : PyData → PyData → Option PyData) : Option PyData → Option PyData → Option PyData
  | some x, some y => op x y
  | _, _ => none
@[simp] theorem ap2_some (op) : ap2 op (some x) (some y) = op x y := rfl
@[simp] theorem f2_ap (op) : f2 op f g ρ = ap2 op (f ρ) (g ρ) := by unfold f2 ap2; cases f ρ <;> cases g ρ <;> rfl
def ap1 (op : PyData → Option PyData) : Option PyData → Option PyData
  | some x => op x
  | _ => none
@[simp] theorem ap1_some (op) : ap1 op (some x) = op x := rfl
@[simp] theorem f1_ap (op) : f1 op f ρ = ap1 op (f ρ) := by unfold f1 ap1; cases f ρ <;> rfl
def unB : Option PyData → Option Bool
  | some (.bool b) => some b
  | _ => none
@[simp] theorem unB_some : unB (some (.bool b)) = some b := rfl
@[simp] theorem fB_ap : fB f ρ = unB (f ρ) := rfl
def andT : Option Bool → Option Bool → Option Bool
  | some true, y => y
  | some false, _ => some false
  | none, _ => none
def orT : Option Bool → Option Bool → Option Bool
  | some true, _ => some true
  | some false, y => y
  | none, _ => none
@[simp] theorem andT_t (y) : andT (some true) y = y := rfl
@[simp] theorem andT_f (y) : andT (some false) y = some false := rfl
@[simp] theorem orT_t (y) : orT (some true) y = some true := rfl
@[simp] theorem orT_f (y) : orT (some false) y = y := rfl
theorem andT_ss (a c : Bool) : andT (some a) (some c) = some (a && c) := by cases a <;> rfl
theorem orT_ss (a c : Bool) : orT (some a) (some c) = some (a || c) := by cases a <;> rfl
@[simp] theorem fAndT_ap : fAndT ft gt ρ = andT (ft ρ) (gt ρ) := by unfold fAndT andT; cases ft ρ with | none => rfl | some c => cases c <;> rfl
@[simp] theorem fOrT_ap : fOrT ft gt ρ = orT (ft ρ) (gt ρ) := by unfold fOrT orT; cases ft ρ with | none => rfl | some c => cases c <;> rfl
@[simp] theorem fNotT_ap : fNotT ft ρ = (ft ρ).map (!·) := by unfold fNotT; cases ft ρ <;> rfl
def andV : Option Bool → Option PyData → Option PyData
  | some true, y => y
  | some false, _ => some (.bool false)
  | none, _ => none
def orV : Option Bool → Option PyData → Option PyData
  | some true, _ => some (.bool true)
  | some false, y => y
  | none, _ => none
@[simp] theorem andV_t (y) : andV (some true) y = y := rfl
@[simp] theorem andV_f (y) : andV (some false) y = some (.bool false) := rfl
@[simp] theorem orV_t (y) : orV (some true) y = some (.bool true) := rfl
@[simp] theorem orV_f (y) : orV (some false) y = y := rfl
@[simp] theorem andV_ss (a c : Bool) : andV (some a) (some (.bool c)) = some (.bool (a && c)) := by cases a <;> rfl
@[simp] theorem orV_ss (a c : Bool) : orV (some a) (some (.bool c)) = some (.bool (a || c)) := by cases a <;> rfl
@[simp] theorem fAnd_ap : fAnd f g ρ = andV (unB (f ρ)) (g ρ) := by unfold fAnd andV; rw [fB_ap]; cases unB (f ρ) with | none => rfl | some c => cases c <;> rfl
@[simp] theorem fOr_ap : fOr f g ρ = orV (unB (f ρ)) (g ρ) := by unfold fOr orV; rw [fB_ap]; cases unB (f ρ) with | none => rfl | some c => cases c <;> rfl
@[simp] theorem fNot_ap : fNot f ρ = (unB (f ρ)).map fun c => .bool (!c) := by unfold fNot; rw [fB_ap]; cases unB (f ρ) <;> rfl
def iteV : Option Bool → (Rho → Option PyData) → (Rho → Option PyData) → Rho → Option PyData
  | some true, f, _, ρ => f ρ
  | some false, _, g, ρ => g ρ
  | none, _, _, _ => none
@[simp] theorem iteV_t : iteV (some true) f g ρ = f ρ := rfl
@[simp] theorem iteV_f : iteV (some false) f g ρ = g ρ := rfl
@[simp] theorem fIf_ap : fIf ft f g ρ = iteV (ft ρ) f g ρ := by unfold fIf iteV; cases ft ρ with | none => rfl | some c => cases c <;> rfl
@[simp] theorem fNil_ap : fNil ρ = some [] := rfl
def consO : Option PyData → Option (List PyData) → Option (List PyData)
  | some x, some xs => some (x :: xs)
  | _, _ => none
@[simp] theorem consO_some : consO (some x) (some xs) = some (x :: xs) := rfl
@[simp] theorem fCons_ap : fCons f fs ρ = consO (f ρ) (fs ρ) := by unfold fCons consO; cases f ρ <;> cases fs ρ <;> rfl
def lstO : Option (List PyData) → Option PyData
  | some xs => if xs.length ≤ bigL then some (.list xs) else none
  | none => none
def tupO : Option (List PyData) → Option PyData
  | some xs => if xs.length ≤ bigL then some (.tuple xs) else none
  | none => none
@[simp] theorem lstO_0 : lstO (some []) = some (.list []) := rfl
@[simp] theorem lstO_1 (a) : lstO (some [a]) = some (.list [a]) := rfl
@[simp] theorem lstO_2 (a b) : lstO (some [a, b]) = some (.list [a, b]) := rfl
@[simp] theorem lstO_3 (a b c) : lstO (some [a, b, c]) = some (.list [a, b, c]) := rfl
@[simp] theorem lstO_5 (a b c d e) : lstO (some [a, b, c, d, e]) = some (.list [a, b, c, d, e]) := rfl
@[simp] theorem tupO_1 (a) : tupO (some [a]) = some (.tuple [a]) := rfl
@[simp] theorem tupO_2 (a b) : tupO (some [a, b]) = some (.tuple [a, b]) := rfl
@[simp] theorem tupO_3 (a b c) : tupO (some [a, b, c]) = some (.tuple [a, b, c]) := rfl
@[simp] theorem fLst_ap : fLst fs ρ = lstO (fs ρ) := by unfold fLst lstO; cases fs ρ <;> rfl
@[simp] theorem fTup_ap : fTup fs ρ = tupO (fs ρ) := by unfold fTup tupO; cases fs ρ <;> rfl
@[simp] theorem fO0_ap : fO0 ρ = some none := rfl
def intO : Option PyData → Option (Option Int)
  | some (.int i) => some (some i)
  | _ => none
@[simp] theorem intO_some : intO (some (.int k)) = some (some k) := rfl
@[simp] theorem fO_ap : fO f ρ = intO (f ρ) := rfl
def slO : Option PyData → Option (Option Int) → Option (Option Int) → Option PyData
  | some x, some l, some h => slD l h x
  | _, _, _ => none
@[simp] theorem slO_some (l u) : slO (some x) (some l) (some u) = slD l u x := rfl
@[simp] theorem fSl_ap : fSl f fl fh ρ = slO (f ρ) (fl ρ) (fh ρ) := by unfold fSl slO; cases f ρ <;> cases fl ρ <;> cases fh ρ <;> rfl
def clO (F : List PyData → Option PyData) : Option (List PyData) → Option PyData
  | some xs => F xs
  | none => none
@[simp] theorem clO_some (F) : clO F (some xs) = F xs := rfl
@[simp] theorem fCl_ap (F) : fCl F fs ρ = clO F (fs ρ) := by unfold fCl clO; cases fs ρ <;> rfl
@[simp] theorem one1_ap (F) : one1 F [x] = F x := rfl
def caO (n : Nat) (F : List PyData → Option PyData) : Option (List PyData) → Option PyData
  | some xs => if xs.length = n then F xs else none
  | none => none
@[simp] theorem caO_1 (F a) : caO 1 F (some [a]) = F [a] := rfl
@[simp] theorem caO_2 (F a b) : caO 2 F (some [a, b]) = F [a, b] := rfl
@[simp] theorem caO_3 (F a b c) : caO 3 F (some [a, b, c]) = F [a, b, c] := rfl
@[simp] theorem caO_4 (F a b c d) : caO 4 F (some [a, b, c, d]) = F [a, b, c, d] := rfl
@[simp] theorem caO_5 (F a b c d e) : caO 5 F (some [a, b, c, d, e]) = F [a, b, c, d, e] := rfl
@[simp] theorem fCa_ap (F) : fCa n F fs ρ = caO n F (fs ρ) := by unfold fCa caO; cases fs ρ <;> rfl
def mtO (F : PyData → List PyData → Option PyData) : Option PyData → Option (List PyData) → Option PyData
  | some x, some xs => F x xs
  | _, _ => none
@[simp] theorem mtO_some (F) : mtO F (some x) (some xs) = F x xs := rfl
@[simp] theorem fMt_ap (F) : fMt F f fs ρ = mtO F (f ρ) (fs ρ) := by unfold fMt mtO; cases f ρ <;> cases fs ρ <;> rfl
def seqO1 (F : PyData → Option (List PyData)) : Option PyData → Option (List PyData)
  | some x => F x
  | none => none
@[simp] theorem seqO1_some (F) : seqO1 F (some x) = F x := rfl
@[simp] theorem fSeq_ap : fSeq f ρ = seqO1 seqD (f ρ) := by unfold fSeq seqO1; cases f ρ <;> rfl
@[simp] theorem fR1_ap : fR1 f ρ = seqO1 range1D (f ρ) := by unfold fR1 seqO1; cases f ρ <;> rfl
def seqO2 (F : PyData → PyData → Option (List PyData)) : Option PyData → Option PyData → Option (List PyData)
  | some x, some y => F x y
  | _, _ => none
@[simp] theorem seqO2_some (F) : seqO2 F (some x) (some y) = F x y := rfl
@[simp] theorem fR2_ap : fR2 f g ρ = seqO2 range2D (f ρ) (g ρ) := by unfold fR2 seqO2; cases f ρ <;> cases g ρ <;> rfl
@[simp] theorem fZ_ap : fZ f g ρ = seqO2 zip2D (f ρ) (g ρ) := by unfold fZ seqO2; cases f ρ <;> cases g ρ <;> rfl
@[simp] theorem seqD_l : seqD (.list xs) = some xs := rfl
@[simp] theorem seqD_t : seqD (.tuple xs) = some xs := rfl
@[simp] theorem seqD_s (z : Str) : seqD (.str z) = some (signsD z) := rfl
@[simp] theorem zip2D_l : zip2D (.list xs) (.list ys) = some (zipD xs ys) := rfl
@[simp] theorem b1_ap : b1 i x ρ = some (ρ.set i (some (.d x))) := rfl
@[simp] theorem b2_ap : b2 i j (.tuple [x, y]) ρ = some ((ρ.set i (some (.d x))).set j (some (.d y))) := rfl
@[simp] theorem tYesD_ap : tYesD ρ = some true := rfl
@[simp] theorem wipeR_0 : wipeR ρ [] = ρ := rfl
@[simp] theorem wipeR_c (vs) : wipeR ρ (i :: vs) = (wipeR ρ vs).set i none := rfl
def lcO (bd : PyData → Rho → Option Rho) (t : Rho → Option Bool) (f : Rho → Option PyData) (ρ : Rho) : Option (List PyData) → Option PyData
  | some xs => if xs.length ≤ bigL then (lcGo bd t f ρ xs).map .list else none
  | none => none
@[simp] theorem lcO_0 (bd t f ρ) : lcO bd t f ρ (some []) = some (.list []) := rfl
@[simp] theorem lcO_1 (bd t f ρ a) : lcO bd t f ρ (some [a]) = (lcGo bd t f ρ [a]).map .list := rfl
@[simp] theorem lcO_2 (bd t f ρ a c) : lcO bd t f ρ (some [a, c]) = (lcGo bd t f ρ [a, c]).map .list := rfl
@[simp] theorem fLc_ap (fi bd t vs) : fLc fi bd t f vs ρ = lcO bd t f (wipeR ρ vs) (fi ρ) := by unfold fLc lcO; cases fi ρ <;> rfl
def lcC : Option Bool → Option PyData → Option (List PyData) → Option (List PyData)
  | some true, some y, some r => some (y :: r)
  | some false, _, r => r
  | _, _, _ => none
@[simp] theorem lcC_t (r) : lcC (some true) (some y) (some r) = some (y :: r) := rfl
@[simp] theorem lcC_f (z r) : lcC (some false) z r = r := rfl
def lcB (t : Rho → Option Bool) (f : Rho → Option PyData) (r : Option (List PyData)) : Option Rho → Option (List PyData)
  | some ρ1 => lcC (t ρ1) (f ρ1) r
  | none => none
@[simp] theorem lcB_some (t r) : lcB t f r (some ρ) = lcC (t ρ) (f ρ) r := rfl
@[simp] theorem lcGo_0 (bd t) : lcGo bd t f ρ [] = some [] := rfl
@[simp] theorem lcGo_c (bd t) : lcGo bd t f ρ (x :: xs) = lcB t f (lcGo bd t f ρ xs) (bd x ρ) := by
  rw [lcGo]
  unfold lcB lcC
  cases bd x ρ with
  | none => rfl
  | some ρ1 =>
    simp only [Option.bind_some]
    cases t ρ1 with
    | none => rfl
    | some c =>
      cases c with
      | false => simp
      | true =>
        cases f ρ1 with
        | none => rfl
        | some y => cases lcGo bd t f ρ xs <;> rfl
/-! statements -/
@[simp] theorem gNx_ap : gNx ρ = some (.nx ρ) := rfl
def seqO (h : Rho → Option Out) : Option Out → Option Out
  | some (.nx ρ) => h ρ
  | o => o
@[simp] theorem seqO_nx : seqO G (some (.nx ρ)) = G ρ := rfl
@[simp] theorem seqO_rt : seqO G (some (.rt d ρ)) = some (.rt d ρ) := rfl
@[simp] theorem seqO_bk : seqO G (some (.bk ρ)) = some (.bk ρ) := rfl
@[simp] theorem seqO_ct : seqO G (some (.ct ρ)) = some (.ct ρ) := rfl
@[simp] theorem gSeq_ap : gSeq G G' ρ = seqO G' (G ρ) := by unfold gSeq seqO; cases G ρ with | none => rfl | some o => cases o <;> rfl
def retO (ρ : Rho) : Option PyData → Option Out
  | some d => some (.rt d ρ)
  | none => none
@[simp] theorem retO_some : retO ρ (some d) = some (.rt d ρ) := rfl
@[simp] theorem gRet_ap : gRet f ρ = retO ρ (f ρ) := by unfold gRet retO; cases f ρ <;> rfl
def setO (i : Nat) (ρ : Rho) : Option PyData → Option Out
  | some d => some (.nx (ρ.set i (some (.d d))))
  | none => none
@[simp] theorem setO_some : setO i ρ (some d) = some (.nx (ρ.set i (some (.d d)))) := rfl
@[simp] theorem gSet_ap : gSet i f ρ = setO i ρ (f ρ) := by unfold gSet setO; cases f ρ <;> rfl
def ownO (i : Nat) (ρ : Rho) : Option (List PyData) → Option Out
  | some xs => if xs.length ≤ bigL then some (.nx (ρ.set i (some (.own none xs)))) else none
  | none => none
@[simp] theorem ownO_0 : ownO i ρ (some []) = some (.nx (ρ.set i (some (.own none [])))) := rfl
@[simp] theorem ownO_1 : ownO i ρ (some [x]) = some (.nx (ρ.set i (some (.own none [x])))) := rfl
@[simp] theorem gOwn_ap : gOwn i fs ρ = ownO i ρ (fs ρ) := by unfold gOwn ownO; cases fs ρ <;> rfl
def iteO : Option Bool → (Rho → Option Out) → (Rho → Option Out) → Rho → Option Out
  | some true, g, _, ρ => g ρ
  | some false, _, h, ρ => h ρ
  | none, _, _, _ => none
@[simp] theorem iteO_t : iteO (some true) G G' ρ = G ρ := rfl
@[simp] theorem iteO_f : iteO (some false) G G' ρ = G' ρ := rfl
@[simp] theorem gIf_ap : gIf ft G G' ρ = iteO (ft ρ) G G' ρ := by unfold gIf iteO; cases ft ρ with | none => rfl | some c => cases c <;> rfl
def appO (i : Nat) (ρ : Rho) : Option (Option Sv) → Option PyData → Option Out
  | some (some (.own o xs)), some y => if xs.length < bigL then some (.nx (ρ.set i (some (.own o (xs ++ [y]))))) else none
  | _, _ => none
@[simp] theorem gApp_ap : gApp i f ρ = appO i ρ ρ[i]? (f ρ) := by
  unfold gApp appO
  split
  · rename_i o xs e; rw [e]; cases f ρ <;> rfl
  · rename_i h
    split
    · rename_i o xs y e1 e2; exact absurd e1 (h o xs)
    · rfl
def forO (bd : PyData → Rho → Option Rho) (G : Rho → Option Out) (ρ : Rho) : Option (List PyData) → Option Out
  | some xs => forGo bd G xs ρ
  | none => none
@[simp] theorem forO_some (bd) : forO bd G ρ (some xs) = forGo bd G xs ρ := rfl
@[simp] theorem gFor_ap (fi bd) : gFor fi bd G ρ = forO bd G ρ (fi ρ) := by unfold gFor forO; cases fi ρ <;> rfl
@[simp] theorem forGo_0 (bd) : forGo bd G [] ρ = some (.nx ρ) := rfl
def forN (bd : PyData → Rho → Option Rho) (G : Rho → Option Out) (xs : List PyData) : Option Out → Option Out
  | some (.nx ρ) => forGo bd G xs ρ
  | some (.ct ρ) => forGo bd G xs ρ
  | some (.bk ρ) => some (.nx ρ)
  | some (.rt d ρ) => some (.rt d ρ)
  | some (.rf zs) => some (.rf zs)
  | none => none
@[simp] theorem forN_nx (bd) : forN bd G xs (some (.nx ρ)) = forGo bd G xs ρ := rfl
@[simp] theorem forN_ct (bd) : forN bd G xs (some (.ct ρ)) = forGo bd G xs ρ := rfl
@[simp] theorem forN_bk (bd) : forN bd G xs (some (.bk ρ)) = some (.nx ρ) := rfl
@[simp] theorem forN_rt (bd) : forN bd G xs (some (.rt d ρ)) = some (.rt d ρ) := rfl
def forB (bd : PyData → Rho → Option Rho) (G : Rho → Option Out) (xs : List PyData) : Option Rho → Option Out
  | some ρ => forN bd G xs (G ρ)
  | none => none
@[simp] theorem forB_some (bd) : forB bd G xs (some ρ) = forN bd G xs (G ρ) := rfl
@[simp] theorem forGo_c (bd) : forGo bd G (x :: xs) ρ = forB bd G xs (bd x ρ) := by
  rw [forGo]
  unfold forB
  cases bd x ρ with
  | none => rfl
  | some ρ1 =>
    simp only [Option.bind_some]
    unfold forN
    cases G ρ1 with
    | none => rfl
    | some o => cases o <;> rfl
@[simp] theorem gBk_ap : gBk ρ = some (.bk ρ) := rfl
@[simp] theorem gCt_ap : gCt ρ = some (.ct ρ) := rfl
def whO (c : Rho → Option Bool) (G : Rho → Option Out) (n : Nat) : Option Out → Option Out
  | some (.nx ρ) => whileGo c G n ρ
  | some (.ct ρ) => whileGo c G n ρ
  | some (.bk ρ) => some (.nx ρ)
  | some (.rt d ρ) => some (.rt d ρ)
  | some (.rf zs) => some (.rf zs)
  | none => none
@[simp] theorem whO_nx : whO ft G n (some (.nx ρ)) = whileGo ft G n ρ := rfl
@[simp] theorem whO_ct : whO ft G n (some (.ct ρ)) = whileGo ft G n ρ := rfl
@[simp] theorem whO_bk : whO ft G n (some (.bk ρ)) = some (.nx ρ) := rfl
@[simp] theorem whO_rt : whO ft G n (some (.rt d ρ)) = some (.rt d ρ) := rfl
def augO (i : Nat) (ρ : Rho) : Option PyData → Option Out
  | some z => some (.nx (ρ.set i (some (.d z))))
  | none => none
@[simp] theorem augO_some : augO i ρ (some d) = some (.nx (ρ.set i (some (.d d)))) := rfl
@[simp] theorem gAug_ap (op) : gAug i op f ρ = augO i ρ (ap2 (ri op) (slot ρ[i]?) (f ρ)) := by
  unfold gAug augO
  rw [fV_ap]
  unfold ap2
  cases slot ρ[i]? with
  | none => rfl
  | some x =>
    cases f ρ with
    | none => rfl
    | some y =>
      simp only [Option.bind_some]
      generalize ri op x y = z
      cases z <;> rfl
def ownV : Option (Option Sv) → Option PyData
  | some (some (.d x)) => some x
  | some (some (.own _ xs)) => some (.list xs)
  | _ => none
@[simp] theorem ownV_d : ownV (some (some (.d x))) = some x := rfl
@[simp] theorem ownV_o (o) : ownV (some (some (.own o xs))) = some (.list xs) := rfl
@[simp] theorem fOwn_ap : fOwn i ρ = ownV ρ[i]? := by unfold fOwn ownV; rfl
def flatO : Option PyData → Option PyData
  | some z => if flatD z = true then some z else none
  | none => none
@[simp] theorem flatO_b : flatO (some (.bool b)) = some (.bool b) := rfl
@[simp] theorem flatO_i : flatO (some (.int k)) = some (.int k) := rfl
@[simp] theorem flatO_s (z) : flatO (some (.str z)) = some (.str z) := rfl
@[simp] theorem flatO_n : flatO (some .none) = some .none := rfl
@[simp] theorem fO2_ap (op) : fO2 op f g ρ = flatO (ap2 op (f ρ) (g ρ)) := by
  unfold fO2 flatO ap2
  cases f ρ with
  | none => rfl
  | some x =>
    cases g ρ with
    | none => rfl
    | some y => simp only [Option.bind_some]; cases op x y <;> rfl
@[simp] theorem fIxO_ap : fIxO i g ρ = flatO (ap2 ixD (ownV ρ[i]?) (g ρ)) := by
  unfold fIxO flatO ap2
  rw [fOwn_ap]
  cases ownV ρ[i]? with
  | none => rfl
  | some x =>
    cases g ρ with
    | none => rfl
    | some y => simp only [Option.bind_some]; cases ixD x y <;> rfl
def frzO (i : Nat) (ρ : Rho) : Option (Option Sv) → Rho
  | some (some (.own _ xs)) => ρ.set i (some (.d (.list xs)))
  | _ => ρ
@[simp] theorem frz_ap : frz i ρ = frzO i ρ ρ[i]? := by unfold frz frzO; rfl
@[simp] theorem frzO_o (o) : frzO i ρ (some (some (.own o xs))) = ρ.set i (some (.d (.list xs))) := rfl
@[simp] theorem frzO_d : frzO i ρ (some (some (.d x))) = ρ := rfl
@[simp] theorem retD_rt : retD (some (.rt d ρ)) = some d := rfl
@[simp] theorem retD_nx : retD (some (.nx ρ)) = some .none := rfl
theorem fnD_ap (n : Nat) : fnD n G xs = retD (G (startR n xs)) := rfl
@[simp] theorem startR_0 (n : Nat) : startR n [] = List.replicate n none := rfl
/-! effects -/
def setiO (i : Nat) (ρ : Rho) : Option (Option Sv) → Option PyData → Option PyData → Option Out
  | some (some (.own o xs)), some y, some (.int n) => (ixN xs.length n).map fun j => .nx (ρ.set i (some (.own o (xs.set j y))))
  | _, _, _ => none
@[simp] theorem gSeti_ap : gSeti i f g ρ = setiO i ρ ρ[i]? (f ρ) (g ρ) := by
  unfold gSeti setiO
  split
  · rename_i o xs e
    rw [e]
    cases f ρ with
    | none => rfl
    | some y =>
      cases g ρ with
      | none => rfl
      | some k => cases k <;> rfl
  · rename_i h
    split
    · rename_i o xs y n e1 e2 e3; exact absurd e1 (h o xs)
    · rfl
@[simp] theorem setiO_0 (o) : setiO i ρ (some (some (.own o [x]))) (some y) (some (.int 0)) = some (.nx (ρ.set i (some (.own o [y])))) := rfl
@[simp] theorem seqO_rf : seqO G (some (.rf xs)) = some (.rf xs) := rfl
@[simp] theorem forN_rf (bd) : forN bd G ys (some (.rf xs)) = some (.rf xs) := rfl
@[simp] theorem whO_rf : whO ft G n (some (.rf xs)) = some (.rf xs) := rfl
@[simp] theorem retF_rf : retF (some (.rf xs)) = some xs := rfl
theorem fnF_ap (n : Nat) : fnF n G xs = retF (G (startR n xs)) := rfl
def retFO : Option (List PyData) → Option Out
  | some xs => some (.rf xs)
  | none => none
@[simp] theorem retFO_some : retFO (some xs) = some (.rf xs) := rfl
@[simp] theorem gRetF_ap : gRetF fs ρ = retFO (fs ρ) := by unfold gRetF retFO; cases fs ρ <;> rfl
def owO : Option (Option Sv) → Option (List PyData)
  | some (some (.own _ xs)) => some xs
  | _ => none
@[simp] theorem owO_o (o) : owO (some (some (.own o xs))) = some xs := rfl
@[simp] theorem gRetO_ap : gRetO i ρ = retFO (owO ρ[i]?) := by
  unfold gRetO retFO
  have e : fOw i ρ = owO ρ[i]? := by unfold fOw owO; rfl
  rw [e]
  cases owO ρ[i]? <;> rfl
def ownFO (i : Nat) (ρ : Rho) : Option (List PyData) → Option Out
  | some xs => some (.nx (ρ.set i (some (.own none xs))))
  | none => none
@[simp] theorem ownFO_some : ownFO i ρ (some xs) = some (.nx (ρ.set i (some (.own none xs)))) := rfl
@[simp] theorem gOwnF_ap : gOwnF i fs ρ = ownFO i ρ (fs ρ) := by unfold gOwnF ownFO; cases fs ρ <;> rfl
def flO : Option (List PyData) → Option (List PyData)
  | some xs => if xs.length ≤ bigL then some xs else none
  | none => none
@[simp] theorem flO_0 : flO (some []) = some [] := rfl
@[simp] theorem flO_1 (a) : flO (some [a]) = some [a] := rfl
@[simp] theorem fFl_ap : fFl fs ρ = flO (fs ρ) := by unfold fFl flO; cases fs ρ <;> rfl
@[simp] theorem f1F_ap (op : PyData → Option (List PyData)) : f1F op f ρ = seqO1 op (f ρ) := by unfold f1F seqO1; cases f ρ <;> rfl
def caF (n : Nat) (F : List PyData → Option (List PyData)) : Option (List PyData) → Option (List PyData)
  | some xs => if xs.length = n then F xs else none
  | none => none
@[simp] theorem caF_1 (F : List PyData → Option (List PyData)) (a) : caF 1 F (some [a]) = F [a] := rfl
@[simp] theorem fCaF_ap (F : List PyData → Option (List PyData)) : fCaF n F fs ρ = caF n F (fs ρ) := by unfold fCaF caF; cases fs ρ <;> rfl
@[simp] theorem fEn_ap : fEn f ρ = seqO1 enum2D (f ρ) := by unfold fEn seqO1; cases f ρ <;> rfl
@[simp] theorem enum2D_l : enum2D (.list xs) = some (enumD xs) := rfl
def orVV (g : Rho → Option PyData) (ρ : Rho) : Option PyData → Option PyData
  | some x => match truD x with
    | some true => some x
    | some false => g ρ
    | none => none
  | none => none
@[simp] theorem fOrV_ap : fOrV f g ρ = orVV g ρ (f ρ) := by
  unfold fOrV orVV
  cases f ρ with
  | none => rfl
  | some x =>
    simp only [Option.bind_some]
    cases truD x with
    | none => rfl
    | some k => cases k <;> rfl
@[simp] theorem orVV_nil : orVV g ρ (some (.list [])) = g ρ := rfl
@[simp] theorem orVV_cons : orVV g ρ (some (.list (x :: xs))) = some (.list (x :: xs)) := rfl
def asgO (bd : PyData → Rho → Option Rho) (ρ : Rho) : Option PyData → Option Out
  | some x => (bd x ρ).map .nx
  | none => none
@[simp] theorem asgO_some (bd : PyData → Rho → Option Rho) : asgO bd ρ (some x) = (bd x ρ).map .nx := rfl
@[simp] theorem gAsg_ap (bd : PyData → Rho → Option Rho) : gAsg bd f ρ = asgO bd ρ (f ρ) := by unfold gAsg asgO; cases f ρ <;> rfl
@[simp] theorem b3_ap (k : Nat) (z : PyData) : b3 i j k (.tuple [x, y, z]) ρ = some (((ρ.set i (some (.d x))).set j (some (.d y))).set k (some (.d z))) := rfl
@[simp] theorem b4_ap (k l : Nat) (z u : PyData) : b4 i j k l (.tuple [x, y, z, u]) ρ = some ((((ρ.set i (some (.d x))).set j (some (.d y))).set k (some (.d z))).set l (some (.d u))) := rfl
@[simp] theorem flatG_ap (op : PyData → Option PyData) : flatG op x = flatO (op x) := by unfold flatG flatO; cases op x <;> rfl

variable (fe : Rho → Option (PyData × Rho)) (fa : Rho → Option (List PyData × Rho))
def E1O (fs : Rho → Option (List PyData)) : Option (PyData × Rho) → Option (List PyData × Rho)
  | some (x, ρ) => (fs ρ).map fun xs => (x :: xs, ρ)
  | none => none
@[simp] theorem fE1_ap : fE1 fe fs ρ = E1O fs (fe ρ) := by
  unfold fE1 E1O
  cases fe ρ with
  | none => rfl
  | some p => obtain ⟨x, ρ1⟩ := p; simp only [Option.bind_some]; generalize fs ρ1 = z; cases z <;> rfl
@[simp] theorem E1O_some : E1O fs (some (x, ρ)) = (fs ρ).map fun xs => (x :: xs, ρ) := rfl
def E2O : Option PyData → Option (List PyData × Rho) → Option (List PyData × Rho)
  | some x, some (xs, ρ) => some (x :: xs, ρ)
  | _, _ => none
@[simp] theorem E2O_some : E2O (some x) (some (xs, ρ)) = some (x :: xs, ρ) := rfl
@[simp] theorem fE2_ap : fE2 f fa ρ = E2O (f ρ) (fa ρ) := by unfold fE2 E2O; cases f ρ <;> cases fa ρ <;> rfl
def tupEO : Option (List PyData × Rho) → Option (PyData × Rho)
  | some (xs, ρ) => if xs.length ≤ bigL then some (.tuple xs, ρ) else none
  | none => none
@[simp] theorem fTupE_ap : fTupE fa ρ = tupEO (fa ρ) := by unfold fTupE tupEO; cases fa ρ <;> rfl
@[simp] theorem tupEO_3 (a b c) : tupEO (some ([a, b, c], ρ)) = some (.tuple [a, b, c], ρ) := rfl
def caEO (n : Nat) (F : List PyData → Option PyData) : Option (List PyData × Rho) → Option (PyData × Rho)
  | some (xs, ρ) => if xs.length = n then (F xs).map fun d => (d, ρ) else none
  | none => none
@[simp] theorem fCaE_ap (F) : fCaE n F fa ρ = caEO n F (fa ρ) := by unfold fCaE caEO; cases fa ρ <;> rfl
@[simp] theorem caEO_2 (F a b) : caEO 2 F (some ([a, b], ρ)) = (F [a, b]).map fun d => (d, ρ) := rfl
def setEO (i : Nat) : Option (PyData × Rho) → Option Out
  | some (d, ρ) => some (.nx (ρ.set i (some (.d d))))
  | none => none
@[simp] theorem setEO_some : setEO i (some (d, ρ)) = some (.nx (ρ.set i (some (.d d)))) := rfl
@[simp] theorem gSetE_ap : gSetE i fe ρ = setEO i (fe ρ) := by unfold gSetE setEO; cases fe ρ <;> rfl
def retEO : Option (PyData × Rho) → Option Out
  | some (d, ρ) => some (.rt d ρ)
  | none => none
@[simp] theorem retEO_some : retEO (some (d, ρ)) = some (.rt d ρ) := rfl
@[simp] theorem gRetE_ap : gRetE fe ρ = retEO (fe ρ) := by unfold gRetE retEO; cases fe ρ <;> rfl
def caCO (n : Nat) (F : List PyData → List PyData → Option (PyData × List PyData)) (j : Nat) (ρ : Rho) : Option PyData → Option (List PyData) → Option (Option Sv) → Option (PyData × Rho)
  | some d0, some ds, some (some (.own o xs)) => if ds.length + 2 = n then (F (d0 :: ds) xs).map fun p => (p.1, ρ.set j (some (.own o p.2))) else none
  | _, _, _ => none
@[simp] theorem fCaC_ap (F) : fCaC n F j f fs ρ = caCO n F j ρ (f ρ) (fs ρ) ρ[j]? := by
  unfold fCaC caCO
  cases f ρ with
  | none => rfl
  | some d0 =>
    cases fs ρ with
    | none => rfl
    | some ds =>
      simp only [Option.bind_some]
      cases ρ[j]? with
      | none => rfl
      | some z =>
        cases z with
        | none => rfl
        | some z => cases z <;> rfl
@[simp] theorem caCO_2 (F d0 o) : caCO 2 F j ρ (some d0) (some []) (some (some (.own o xs))) = (F [d0] xs).map fun p => (p.1, ρ.set j (some (.own o p.2))) := rfl
@[simp] theorem caCO_5 (F d0 a b c o) : caCO 5 F j ρ (some d0) (some [a, b, c]) (some (some (.own o xs))) = (F [d0, a, b, c] xs).map fun p => (p.1, ρ.set j (some (.own o p.2))) := rfl
/-! by data -/
@[simp] theorem addD_i : addD (.int k) (.int m) = some (.int (k + m)) := rfl
@[simp] theorem ri_ap (op) : ri op (.int k) (.int m) = some (.int (op k m)) := rfl
@[simp] theorem rb_ap (op) : rb op (.int k) (.int m) = some (.bool (op k m)) := rfl
@[simp] theorem eqP_s (a b : Str) : eqP (.str a) (.str b) = some (.bool (sEq a b)) := by
  have h : eqD (.str a) (.str b) = some (sEq a b) := rfl
  unfold eqP
  rw [h, Option.map_some]
@[simp] theorem eqP_i : eqP (.int k) (.int m) = some (.bool (decide (k = m))) := rfl
@[simp] theorem eqP_b (a b : Bool) : eqP (.bool a) (.bool b) = some (.bool (a == b)) := rfl
@[simp] theorem neP_s (a b : Str) : neP (.str a) (.str b) = some (.bool (!sEq a b)) := by
  have h : eqD (.str a) (.str b) = some (sEq a b) := rfl
  unfold neP
  rw [h, Option.map_some]
@[simp] theorem neP_i : neP (.int k) (.int m) = some (.bool (!decide (k = m))) := rfl
@[simp] theorem neP_b (a b : Bool) : neP (.bool a) (.bool b) = some (.bool (!(a == b))) := rfl
@[simp] theorem ixD_l : ixD (.list xs) (.int k) = atI xs k := rfl
@[simp] theorem ixD_t : ixD (.tuple xs) (.int k) = atI xs k := rfl
@[simp] theorem slD_l (l u) : slD l u (.list xs) = some (.list (cutL xs l u)) := rfl
@[simp] theorem lenD_l : lenD (.list xs) = some (.int xs.length) := rfl
@[simp] theorem lenD_t : lenD (.tuple xs) = some (.int xs.length) := rfl
@[simp] theorem listD_l : listD (.list xs) = some (.list xs) := rfl
@[simp] theorem listD_t : listD (.tuple xs) = some (.list xs) := rfl
@[simp] theorem intD_i : intD (.int k) = some (.int k) := rfl
@[simp] theorem intD_b : intD (.bool b) = some (.int (if b then 1 else 0)) := rfl
@[simp] theorem revD_l : revD (.list xs) = some (.list xs.reverse) := rfl
@[simp] theorem negD_i : negD (.int k) = some (.int (-k)) := rfl
@[simp] theorem anyD_m (bs : List Bool) : anyD (.list (bs.map .bool)) = some (.bool (bs.any id)) := by show (boolsD _).map _ = _; rw [boolsD_map]; rfl
@[simp] theorem allD_m (bs : List Bool) : allD (.list (bs.map .bool)) = some (.bool (bs.all id)) := by show (boolsD _).map _ = _; rw [boolsD_map]; rfl
@[simp] theorem atI_0 {α : Type} (a : α) (r : List α) : atI (a :: r) 0 = some a := by simp [atI, ixN]
@[simp] theorem atI_1 {α : Type} (a c : α) (r : List α) : atI (a :: c :: r) 1 = some c := by
  have e : ixN (a :: c :: r).length 1 = some 1 := by
    unfold ixN
    rw [if_pos (by omega), if_pos (by simp only [List.length_cons]; omega)]
    rfl
  simp only [atI, e, Option.bind_some]
  rfl
@[simp] theorem atI_2 {α : Type} (a c d : α) (r : List α) : atI (a :: c :: d :: r) 2 = some d := by
  have e : ixN (a :: c :: d :: r).length 2 = some 2 := by
    unfold ixN
    rw [if_pos (by omega), if_pos (by simp only [List.length_cons]; omega)]
    rfl
  simp only [atI, e, Option.bind_some]
  rfl
end
section
variable {ρ : Rho} {i j n : Nat} {f g h : Rho → Option PyData} {ft gt : Rho → Option Bool} {fs : Rho → Option (List PyData)} {G G' : Rho → Option Out} {d x y : PyData} {xs ys : List PyData} {b : Bool} {k m : Int}
theorem lstO_some (h : xs.length ≤ 100000) : lstO (some xs) = some (.list xs) := if_pos h
theorem tupO_some (h : xs.length ≤ 100000) : tupO (some xs) = some (.tuple xs) := if_pos h
theorem lcO_some {bd t f ρ} (h : xs.length ≤ 100000) : lcO bd t f ρ (some xs) = (lcGo bd t f ρ xs).map .list := if_pos h
theorem appO_some {o : Option Addr} (h : xs.length < 100000) : appO i ρ (some (some (.own o xs))) (some y) = some (.nx (ρ.set i (some (.own o (xs ++ [y]))))) := if_pos h
theorem while_t (h : ft ρ = some true) : whileGo ft G (n + 1) ρ = whO ft G n (G ρ) := by
  rw [whileGo, h]
  simp only [Option.bind_some, if_pos]
  unfold whO
  cases G ρ with
  | none => rfl
  | some o => cases o <;> rfl
theorem while_f (h : ft ρ = some false) : whileGo ft G (n + 1) ρ = some (.nx ρ) := by
  rw [whileGo, h]; rfl
theorem addD_l (h : xs.length + ys.length ≤ 100000) : addD (.list xs) (.list ys) = some (.list (xs ++ ys)) := if_pos h
theorem addD_s {a b : Str} (h : a.length + b.length ≤ 100000) : addD (.str a) (.str b) = some (.str (a ++ b)) := if_pos h
theorem modD_i (h : 0 < m) : modD (.int k) (.int m) = some (.int (k % m)) := if_pos h
theorem fdivD_i (h : 0 < m ∧ m < 1073741824) : fdivD (.int k) (.int m) = some (.int (k / m)) := if_pos h
theorem mulD_i (h : (-(2 ^ 64) < k ∧ k < 2 ^ 64) ∨ (-(2 ^ 64) < m ∧ m < 2 ^ 64)) : mulD (.int k) (.int m) = some (.int (k * m)) := if_pos h
theorem range1D_n {m : Nat} (h : m ≤ 1000000) : range1D (.int m) = some (intsFrom 0 m) := by
  unfold range1D
  simp only
  rw [if_pos (by omega)]
  simp
end
/-- a comprehension over a list, by a function -/
theorem lc_map {bd : PyData → Rho → Option Rho} {t : Rho → Option Bool} {f : Rho → Option PyData} {ρ : Rho} {α : Type} (e : α → PyData) (h : α → PyData) : ∀ xs : List α, (∀ x ∈ xs, ∃ ρ1, bd (e x) ρ = some ρ1 ∧ t ρ1 = some true ∧ f ρ1 = some (h x)) → lcGo bd t f ρ (xs.map e) = some (xs.map h)
  | [], _ => rfl
  | x :: xs, q => by
    obtain ⟨ρ1, e1, e2, e3⟩ := q x (by simp)
    rw [List.map_cons, lcGo_c, e1, lcB_some, e2, e3, lc_map e h xs fun y hy => q y (by simp [hy])]
    rfl
end Dn

namespace Dn
open PySem L2
/-! the ten words are ten -/
@[simp] theorem w_mark_yes : sEq "mark" "yes" = false := sEq_ne (by decide +kernel)
@[simp] theorem v_mark_yes : (Str.ofString "mark" = Str.ofString "yes") = False := eq_false (by decide +kernel)
@[simp] theorem w_mark_not : sEq "mark" "not" = false := sEq_ne (by decide +kernel)
@[simp] theorem v_mark_not : (Str.ofString "mark" = Str.ofString "not") = False := eq_false (by decide +kernel)
@[simp] theorem w_mark_and : sEq "mark" "and" = false := sEq_ne (by decide +kernel)
@[simp] theorem v_mark_and : (Str.ofString "mark" = Str.ofString "and") = False := eq_false (by decide +kernel)
@[simp] theorem w_mark_or : sEq "mark" "or" = false := sEq_ne (by decide +kernel)
@[simp] theorem v_mark_or : (Str.ofString "mark" = Str.ofString "or") = False := eq_false (by decide +kernel)
@[simp] theorem w_mark_next : sEq "mark" "next" = false := sEq_ne (by decide +kernel)
@[simp] theorem v_mark_next : (Str.ofString "mark" = Str.ofString "next") = False := eq_false (by decide +kernel)
@[simp] theorem w_mark_until : sEq "mark" "until" = false := sEq_ne (by decide +kernel)
@[simp] theorem v_mark_until : (Str.ofString "mark" = Str.ofString "until") = False := eq_false (by decide +kernel)
@[simp] theorem w_mark_within : sEq "mark" "within" = false := sEq_ne (by decide +kernel)
@[simp] theorem v_mark_within : (Str.ofString "mark" = Str.ofString "within") = False := eq_false (by decide +kernel)
@[simp] theorem w_mark_before : sEq "mark" "before" = false := sEq_ne (by decide +kernel)
@[simp] theorem v_mark_before : (Str.ofString "mark" = Str.ofString "before") = False := eq_false (by decide +kernel)
@[simp] theorem w_mark_since : sEq "mark" "since" = false := sEq_ne (by decide +kernel)
@[simp] theorem v_mark_since : (Str.ofString "mark" = Str.ofString "since") = False := eq_false (by decide +kernel)
@[simp] theorem w_yes_mark : sEq "yes" "mark" = false := sEq_ne (by decide +kernel)
@[simp] theorem v_yes_mark : (Str.ofString "yes" = Str.ofString "mark") = False := eq_false (by decide +kernel)
@[simp] theorem w_yes_not : sEq "yes" "not" = false := sEq_ne (by decide +kernel)
@[simp] theorem v_yes_not : (Str.ofString "yes" = Str.ofString "not") = False := eq_false (by decide +kernel)
@[simp] theorem w_yes_and : sEq "yes" "and" = false := sEq_ne (by decide +kernel)
@[simp] theorem v_yes_and : (Str.ofString "yes" = Str.ofString "and") = False := eq_false (by decide +kernel)
@[simp] theorem w_yes_or : sEq "yes" "or" = false := sEq_ne (by decide +kernel)
@[simp] theorem v_yes_or : (Str.ofString "yes" = Str.ofString "or") = False := eq_false (by decide +kernel)
@[simp] theorem w_yes_next : sEq "yes" "next" = false := sEq_ne (by decide +kernel)
@[simp] theorem v_yes_next : (Str.ofString "yes" = Str.ofString "next") = False := eq_false (by decide +kernel)
@[simp] theorem w_yes_until : sEq "yes" "until" = false := sEq_ne (by decide +kernel)
@[simp] theorem v_yes_until : (Str.ofString "yes" = Str.ofString "until") = False := eq_false (by decide +kernel)
@[simp] theorem w_yes_within : sEq "yes" "within" = false := sEq_ne (by decide +kernel)
@[simp] theorem v_yes_within : (Str.ofString "yes" = Str.ofString "within") = False := eq_false (by decide +kernel)
@[simp] theorem w_yes_before : sEq "yes" "before" = false := sEq_ne (by decide +kernel)
@[simp] theorem v_yes_before : (Str.ofString "yes" = Str.ofString "before") = False := eq_false (by decide +kernel)
@[simp] theorem w_yes_since : sEq "yes" "since" = false := sEq_ne (by decide +kernel)
@[simp] theorem v_yes_since : (Str.ofString "yes" = Str.ofString "since") = False := eq_false (by decide +kernel)
@[simp] theorem w_not_mark : sEq "not" "mark" = false := sEq_ne (by decide +kernel)
@[simp] theorem v_not_mark : (Str.ofString "not" = Str.ofString "mark") = False := eq_false (by decide +kernel)
@[simp] theorem w_not_yes : sEq "not" "yes" = false := sEq_ne (by decide +kernel)
@[simp] theorem v_not_yes : (Str.ofString "not" = Str.ofString "yes") = False := eq_false (by decide +kernel)
@[simp] theorem w_not_and : sEq "not" "and" = false := sEq_ne (by decide +kernel)
@[simp] theorem v_not_and : (Str.ofString "not" = Str.ofString "and") = False := eq_false (by decide +kernel)
@[simp] theorem w_not_or : sEq "not" "or" = false := sEq_ne (by decide +kernel)
@[simp] theorem v_not_or : (Str.ofString "not" = Str.ofString "or") = False := eq_false (by decide +kernel)
@[simp] theorem w_not_next : sEq "not" "next" = false := sEq_ne (by decide +kernel)
@[simp] theorem v_not_next : (Str.ofString "not" = Str.ofString "next") = False := eq_false (by decide +kernel)
@[simp] theorem w_not_until : sEq "not" "until" = false := sEq_ne (by decide +kernel)
@[simp] theorem v_not_until : (Str.ofString "not" = Str.ofString "until") = False := eq_false (by decide +kernel)
@[simp] theorem w_not_within : sEq "not" "within" = false := sEq_ne (by decide +kernel)
@[simp] theorem v_not_within : (Str.ofString "not" = Str.ofString "within") = False := eq_false (by decide +kernel)
@[simp] theorem w_not_before : sEq "not" "before" = false := sEq_ne (by decide +kernel)
@[simp] theorem v_not_before : (Str.ofString "not" = Str.ofString "before") = False := eq_false (by decide +kernel)
@[simp] theorem w_not_since : sEq "not" "since" = false := sEq_ne (by decide +kernel)
@[simp] theorem v_not_since : (Str.ofString "not" = Str.ofString "since") = False := eq_false (by decide +kernel)
@[simp] theorem w_and_mark : sEq "and" "mark" = false := sEq_ne (by decide +kernel)
@[simp] theorem v_and_mark : (Str.ofString "and" = Str.ofString "mark") = False := eq_false (by decide +kernel)
@[simp] theorem w_and_yes : sEq "and" "yes" = false := sEq_ne (by decide +kernel)
@[simp] theorem v_and_yes : (Str.ofString "and" = Str.ofString "yes") = False := eq_false (by decide +kernel)
@[simp] theorem w_and_not : sEq "and" "not" = false := sEq_ne (by decide +kernel)
@[simp] theorem v_and_not : (Str.ofString "and" = Str.ofString "not") = False := eq_false (by decide +kernel)
@[simp] theorem w_and_or : sEq "and" "or" = false := sEq_ne (by decide +kernel)
@[simp] theorem v_and_or : (Str.ofString "and" = Str.ofString "or") = False := eq_false (by decide +kernel)
@[simp] theorem w_and_next : sEq "and" "next" = false := sEq_ne (by decide +kernel)
@[simp] theorem v_and_next : (Str.ofString "and" = Str.ofString "next") = False := eq_false (by decide +kernel)
@[simp] theorem w_and_until : sEq "and" "until" = false := sEq_ne (by decide +kernel)
@[simp] theorem v_and_until : (Str.ofString "and" = Str.ofString "until") = False := eq_false (by decide +kernel)
@[simp] theorem w_and_within : sEq "and" "within" = false := sEq_ne (by decide +kernel)
@[simp] theorem v_and_within : (Str.ofString "and" = Str.ofString "within") = False := eq_false (by decide +kernel)
@[simp] theorem w_and_before : sEq "and" "before" = false := sEq_ne (by decide +kernel)
@[simp] theorem v_and_before : (Str.ofString "and" = Str.ofString "before") = False := eq_false (by decide +kernel)
@[simp] theorem w_and_since : sEq "and" "since" = false := sEq_ne (by decide +kernel)
@[simp] theorem v_and_since : (Str.ofString "and" = Str.ofString "since") = False := eq_false (by decide +kernel)
@[simp] theorem w_or_mark : sEq "or" "mark" = false := sEq_ne (by decide +kernel)
@[simp] theorem v_or_mark : (Str.ofString "or" = Str.ofString "mark") = False := eq_false (by decide +kernel)
@[simp] theorem w_or_yes : sEq "or" "yes" = false := sEq_ne (by decide +kernel)
@[simp] theorem v_or_yes : (Str.ofString "or" = Str.ofString "yes") = False := eq_false (by decide +kernel)
@[simp] theorem w_or_not : sEq "or" "not" = false := sEq_ne (by decide +kernel)
@[simp] theorem v_or_not : (Str.ofString "or" = Str.ofString "not") = False := eq_false (by decide +kernel)
@[simp] theorem w_or_and : sEq "or" "and" = false := sEq_ne (by decide +kernel)
@[simp] theorem v_or_and : (Str.ofString "or" = Str.ofString "and") = False := eq_false (by decide +kernel)
@[simp] theorem w_or_next : sEq "or" "next" = false := sEq_ne (by decide +kernel)
@[simp] theorem v_or_next : (Str.ofString "or" = Str.ofString "next") = False := eq_false (by decide +kernel)
@[simp] theorem w_or_until : sEq "or" "until" = false := sEq_ne (by decide +kernel)
@[simp] theorem v_or_until : (Str.ofString "or" = Str.ofString "until") = False := eq_false (by decide +kernel)
@[simp] theorem w_or_within : sEq "or" "within" = false := sEq_ne (by decide +kernel)
@[simp] theorem v_or_within : (Str.ofString "or" = Str.ofString "within") = False := eq_false (by decide +kernel)
@[simp] theorem w_or_before : sEq "or" "before" = false := sEq_ne (by decide +kernel)
@[simp] theorem v_or_before : (Str.ofString "or" = Str.ofString "before") = False := eq_false (by decide +kernel)
@[simp] theorem w_or_since : sEq "or" "since" = false := sEq_ne (by decide +kernel)
@[simp] theorem v_or_since : (Str.ofString "or" = Str.ofString "since") = False := eq_false (by decide +kernel)
@[simp] theorem w_next_mark : sEq "next" "mark" = false := sEq_ne (by decide +kernel)
@[simp] theorem v_next_mark : (Str.ofString "next" = Str.ofString "mark") = False := eq_false (by decide +kernel)
@[simp] theorem w_next_yes : sEq "next" "yes" = false := sEq_ne (by decide +kernel)
@[simp] theorem v_next_yes : (Str.ofString "next" = Str.ofString "yes") = False := eq_false (by decide +kernel)
@[simp] theorem w_next_not : sEq "next" "not" = false := sEq_ne (by decide +kernel)
@[simp] theorem v_next_not : (Str.ofString "next" = Str.ofString "not") = False := eq_false (by decide +kernel)
@[simp] theorem w_next_and : sEq "next" "and" = false := sEq_ne (by decide +kernel)
@[simp] theorem v_next_and : (Str.ofString "next" = Str.ofString "and") = False := eq_false (by decide +kernel)
@[simp] theorem w_next_or : sEq "next" "or" = false := sEq_ne (by decide +kernel)
@[simp] theorem v_next_or : (Str.ofString "next" = Str.ofString "or") = False := eq_false (by decide +kernel)
@[simp] theorem w_next_until : sEq "next" "until" = false := sEq_ne (by decide +kernel)
@[simp] theorem v_next_until : (Str.ofString "next" = Str.ofString "until") = False := eq_false (by decide +kernel)
@[simp] theorem w_next_within : sEq "next" "within" = false := sEq_ne (by decide +kernel)
@[simp] theorem v_next_within : (Str.ofString "next" = Str.ofString "within") = False := eq_false (by decide +kernel)
@[simp] theorem w_next_before : sEq "next" "before" = false := sEq_ne (by decide +kernel)
@[simp] theorem v_next_before : (Str.ofString "next" = Str.ofString "before") = False := eq_false (by decide +kernel)
@[simp] theorem w_next_since : sEq "next" "since" = false := sEq_ne (by decide +kernel)
@[simp] theorem v_next_since : (Str.ofString "next" = Str.ofString "since") = False := eq_false (by decide +kernel)
@[simp] theorem w_until_mark : sEq "until" "mark" = false := sEq_ne (by decide +kernel)
@[simp] theorem v_until_mark : (Str.ofString "until" = Str.ofString "mark") = False := eq_false (by decide +kernel)
@[simp] theorem w_until_yes : sEq "until" "yes" = false := sEq_ne (by decide +kernel)
@[simp] theorem v_until_yes : (Str.ofString "until" = Str.ofString "yes") = False := eq_false (by decide +kernel)
@[simp] theorem w_until_not : sEq "until" "not" = false := sEq_ne (by decide +kernel)
@[simp] theorem v_until_not : (Str.ofString "until" = Str.ofString "not") = False := eq_false (by decide +kernel)
@[simp] theorem w_until_and : sEq "until" "and" = false := sEq_ne (by decide +kernel)
@[simp] theorem v_until_and : (Str.ofString "until" = Str.ofString "and") = False := eq_false (by decide +kernel)
@[simp] theorem w_until_or : sEq "until" "or" = false := sEq_ne (by decide +kernel)
@[simp] theorem v_until_or : (Str.ofString "until" = Str.ofString "or") = False := eq_false (by decide +kernel)
@[simp] theorem w_until_next : sEq "until" "next" = false := sEq_ne (by decide +kernel)
@[simp] theorem v_until_next : (Str.ofString "until" = Str.ofString "next") = False := eq_false (by decide +kernel)
@[simp] theorem w_until_within : sEq "until" "within" = false := sEq_ne (by decide +kernel)
@[simp] theorem v_until_within : (Str.ofString "until" = Str.ofString "within") = False := eq_false (by decide +kernel)
@[simp] theorem w_until_before : sEq "until" "before" = false := sEq_ne (by decide +kernel)
@[simp] theorem v_until_before : (Str.ofString "until" = Str.ofString "before") = False := eq_false (by decide +kernel)
@[simp] theorem w_until_since : sEq "until" "since" = false := sEq_ne (by decide +kernel)
@[simp] theorem v_until_since : (Str.ofString "until" = Str.ofString "since") = False := eq_false (by decide +kernel)
@[simp] theorem w_within_mark : sEq "within" "mark" = false := sEq_ne (by decide +kernel)
@[simp] theorem v_within_mark : (Str.ofString "within" = Str.ofString "mark") = False := eq_false (by decide +kernel)
@[simp] theorem w_within_yes : sEq "within" "yes" = false := sEq_ne (by decide +kernel)
@[simp] theorem v_within_yes : (Str.ofString "within" = Str.ofString "yes") = False := eq_false (by decide +kernel)
@[simp] theorem w_within_not : sEq "within" "not" = false := sEq_ne (by decide +kernel)
@[simp] theorem v_within_not : (Str.ofString "within" = Str.ofString "not") = False := eq_false (by decide +kernel)
@[simp] theorem w_within_and : sEq "within" "and" = false := sEq_ne (by decide +kernel)
@[simp] theorem v_within_and : (Str.ofString "within" = Str.ofString "and") = False := eq_false (by decide +kernel)
@[simp] theorem w_within_or : sEq "within" "or" = false := sEq_ne (by decide +kernel)
@[simp] theorem v_within_or : (Str.ofString "within" = Str.ofString "or") = False := eq_false (by decide +kernel)
@[simp] theorem w_within_next : sEq "within" "next" = false := sEq_ne (by decide +kernel)
@[simp] theorem v_within_next : (Str.ofString "within" = Str.ofString "next") = False := eq_false (by decide +kernel)
@[simp] theorem w_within_until : sEq "within" "until" = false := sEq_ne (by decide +kernel)
@[simp] theorem v_within_until : (Str.ofString "within" = Str.ofString "until") = False := eq_false (by decide +kernel)
@[simp] theorem w_within_before : sEq "within" "before" = false := sEq_ne (by decide +kernel)
@[simp] theorem v_within_before : (Str.ofString "within" = Str.ofString "before") = False := eq_false (by decide +kernel)
@[simp] theorem w_within_since : sEq "within" "since" = false := sEq_ne (by decide +kernel)
@[simp] theorem v_within_since : (Str.ofString "within" = Str.ofString "since") = False := eq_false (by decide +kernel)
@[simp] theorem w_before_mark : sEq "before" "mark" = false := sEq_ne (by decide +kernel)
@[simp] theorem v_before_mark : (Str.ofString "before" = Str.ofString "mark") = False := eq_false (by decide +kernel)
@[simp] theorem w_before_yes : sEq "before" "yes" = false := sEq_ne (by decide +kernel)
@[simp] theorem v_before_yes : (Str.ofString "before" = Str.ofString "yes") = False := eq_false (by decide +kernel)
@[simp] theorem w_before_not : sEq "before" "not" = false := sEq_ne (by decide +kernel)
@[simp] theorem v_before_not : (Str.ofString "before" = Str.ofString "not") = False := eq_false (by decide +kernel)
@[simp] theorem w_before_and : sEq "before" "and" = false := sEq_ne (by decide +kernel)
@[simp] theorem v_before_and : (Str.ofString "before" = Str.ofString "and") = False := eq_false (by decide +kernel)
@[simp] theorem w_before_or : sEq "before" "or" = false := sEq_ne (by decide +kernel)
@[simp] theorem v_before_or : (Str.ofString "before" = Str.ofString "or") = False := eq_false (by decide +kernel)
@[simp] theorem w_before_next : sEq "before" "next" = false := sEq_ne (by decide +kernel)
@[simp] theorem v_before_next : (Str.ofString "before" = Str.ofString "next") = False := eq_false (by decide +kernel)
@[simp] theorem w_before_until : sEq "before" "until" = false := sEq_ne (by decide +kernel)
@[simp] theorem v_before_until : (Str.ofString "before" = Str.ofString "until") = False := eq_false (by decide +kernel)
@[simp] theorem w_before_within : sEq "before" "within" = false := sEq_ne (by decide +kernel)
@[simp] theorem v_before_within : (Str.ofString "before" = Str.ofString "within") = False := eq_false (by decide +kernel)
@[simp] theorem w_before_since : sEq "before" "since" = false := sEq_ne (by decide +kernel)
@[simp] theorem v_before_since : (Str.ofString "before" = Str.ofString "since") = False := eq_false (by decide +kernel)
@[simp] theorem w_since_mark : sEq "since" "mark" = false := sEq_ne (by decide +kernel)
@[simp] theorem v_since_mark : (Str.ofString "since" = Str.ofString "mark") = False := eq_false (by decide +kernel)
@[simp] theorem w_since_yes : sEq "since" "yes" = false := sEq_ne (by decide +kernel)
@[simp] theorem v_since_yes : (Str.ofString "since" = Str.ofString "yes") = False := eq_false (by decide +kernel)
@[simp] theorem w_since_not : sEq "since" "not" = false := sEq_ne (by decide +kernel)
@[simp] theorem v_since_not : (Str.ofString "since" = Str.ofString "not") = False := eq_false (by decide +kernel)
@[simp] theorem w_since_and : sEq "since" "and" = false := sEq_ne (by decide +kernel)
@[simp] theorem v_since_and : (Str.ofString "since" = Str.ofString "and") = False := eq_false (by decide +kernel)
@[simp] theorem w_since_or : sEq "since" "or" = false := sEq_ne (by decide +kernel)
@[simp] theorem v_since_or : (Str.ofString "since" = Str.ofString "or") = False := eq_false (by decide +kernel)
@[simp] theorem w_since_next : sEq "since" "next" = false := sEq_ne (by decide +kernel)
@[simp] theorem v_since_next : (Str.ofString "since" = Str.ofString "next") = False := eq_false (by decide +kernel)
@[simp] theorem w_since_until : sEq "since" "until" = false := sEq_ne (by decide +kernel)
@[simp] theorem v_since_until : (Str.ofString "since" = Str.ofString "until") = False := eq_false (by decide +kernel)
@[simp] theorem w_since_within : sEq "since" "within" = false := sEq_ne (by decide +kernel)
@[simp] theorem v_since_within : (Str.ofString "since" = Str.ofString "within") = False := eq_false (by decide +kernel)
@[simp] theorem w_since_before : sEq "since" "before" = false := sEq_ne (by decide +kernel)
@[simp] theorem v_since_before : (Str.ofString "since" = Str.ofString "before") = False := eq_false (by decide +kernel)
end Dn

namespace Dn
open PySem L2 PySem.Spec PyProof.Rows Gx
/-! ### own exceptions, told by their class's name: what may raise is worth .error name, or .ok data -/
def XPost [Tbs] (K : PySem.W.Frag) (W : Value → Hp → Prop) (Q : VK) (B H : Hp) : Except Str PyData → Prop
  | .ok d => ∀ v B' H', Tr B H B' H' → Dq K B' v d → Q v H'
  | .error n => ∀ B' H', Tr B H B' H' → W (.ref (Tbs.Cl n)) H'
def XPostA [Tbs] (K : PySem.W.Frag) (W : Value → Hp → Prop) (Q : List V → Hp → Prop) (B H : Hp) : Except Str (List PyData) → Prop
  | .ok d => ∀ v B' H', Tr B H B' H' → DqAll K B' v d → Q v H'
  | .error n => ∀ B' H', Tr B H B' H' → W (.ref (Tbs.Cl n)) H'
def tX [Tbs] (K : PySem.W.Frag) (W : WX) (f : Rho → Option (Except Str PyData)) : TE := fun σ H Q => ∃ H0 B ρ r, Sl K H0 B ρ σ H ∧ f ρ = some r ∧ XPost K (fun c H' => W c none σ H') Q B H r
def tXA [Tbs] (K : PySem.W.Frag) (W : WX) (f : Rho → Option (Except Str (List PyData))) : TA := fun σ H Q => ∃ H0 B ρ r, Sl K H0 B ρ σ H ∧ f ρ = some r ∧ XPostA K (fun c H' => W c none σ H') Q B H r
abbrev PX [Tbs] (X : Cx) (W : WX) (e : Expr) (f : Rho → Option (Except Str PyData)) : Prop := PE X e (tX X.K W f)
abbrev PXA [Tbs] (X : Cx) (W : WX) (es : List Expr) (f : Rho → Option (Except Str (List PyData))) : Prop := PA X es (tXA X.K W f)
theorem XPost.tr [Tbs] {K : PySem.W.Frag} {W : Value → Hp → Prop} {Q : VK} {B H B1 H1 : Hp} {r : Except Str PyData} (t : Tr B H B1 H1) (h : XPost K W Q B H r) : XPost K W Q B1 H1 r := by
  cases r with
  | ok d => exact fun v B' H' t' d' => h v B' H' (t.trans t') d'
  | error n => exact fun B' H' t' => h B' H' (t.trans t')
section
variable {X : Cx} {W : WX} {e : Expr} {es : List Expr} {pos p : Pos} {f : Rho → Option PyData}
def fOk (f : Rho → Option PyData) : Rho → Option (Except Str PyData) := fun ρ => (f ρ).map .ok
theorem px_of [Tbs] (h : PD X e f) : PX X W e (fOk f) := pe_imp h fun σ H Q ⟨H0, B, ρ, r, s, hf, q⟩ => by
  obtain ⟨d, hd, rfl⟩ := Option.map_eq_some_iff.mp hf
  exact ⟨H0, B, ρ, d, s, hd, q⟩
def fXNil : Rho → Option (Except Str (List PyData)) := fun _ => some (.ok [])
theorem pxa_nil [Tbs] : PXA X W [] fXNil := pa_imp pa_nil fun σ H Q ⟨H0, B, ρ, r, s, hf, q⟩ => by
  cases hf
  exact q [] B H (Tr.refl s.bh) .nil
def xcons (d : PyData) : Except Str (List PyData) → Except Str (List PyData)
  | .ok ds => .ok (d :: ds)
  | .error n => .error n
def fXCons (f : Rho → Option (Except Str PyData)) (fs : Rho → Option (Except Str (List PyData))) : Rho → Option (Except Str (List PyData)) := fun ρ => (f ρ).bind fun r => match r with
  | .ok d => (fs ρ).map (xcons d)
  | .error n => some (.error n)
theorem pxa_cons [Tbs] {f : Rho → Option (Except Str PyData)} {fs : Rho → Option (Except Str (List PyData))} (h : PX X W e f) (t : PXA X W es fs)
    (he : starEach (e :: es) X.env = (false, eval e X.env) :: starEach es X.env := by rfl) : PXA X W (e :: es) (fXCons f fs) := pa_imp (pa_cons h t he) fun σ H Q ⟨H0, B, ρ, r, s, hf, q⟩ => by
  obtain ⟨r1, h1, hf⟩ := bind_some hf
  cases r1 with
  | error n =>
    cases hf
    exact ⟨H0, B, ρ, .error n, s, h1, q⟩
  | ok d =>
    obtain ⟨r2, h2, rfl⟩ := Option.map_eq_some_iff.mp hf
    refine ⟨H0, B, ρ, .ok d, s, h1, fun v B1 H1 t1 d1 => ?_⟩
    refine ⟨H0, B1, ρ, r2, s.tr t1, h2, ?_⟩
    cases r2 with
    | error n => exact fun B' H' t' => q B' H' (t1.trans t')
    | ok ds => exact fun vs B' H' t' d' => q (v :: vs) B' H' (t1.trans t') (.cons (dp_mono t'.b d1) d')
def fXTup (fs : Rho → Option (Except Str (List PyData))) : Rho → Option (Except Str PyData) := fun ρ => (fs ρ).bind fun r => match r with
  | .ok ds => if ds.length ≤ bigL then some (.ok (.tuple ds)) else none
  | .error n => some (.error n)
theorem px_tup [Tbs] {x1} {fs : Rho → Option (Except Str (List PyData))} (h : PXA X W es fs) : PX X W (.Tuple es x1 pos) (fXTup fs) := pe_imp (pe_tup h) fun σ H Q ⟨H0, B, ρ, r, s, hf, q⟩ => by
  obtain ⟨r1, h1, hf⟩ := bind_some hf
  refine ⟨H0, B, ρ, r1, s, h1, ?_⟩
  cases r1 with
  | error n => cases hf; exact q
  | ok ds =>
    obtain ⟨hl, rfl⟩ := ite_some hf
    exact fun vs B1 H1 t1 d1 => ⟨by rw [dpAll_len d1]; exact bigL_le hl, fun p hp => q _ _ _ (t1.trans (Tr.new t1.t hp)) (.tup (SqT.of upd_same) (dpAll_mono (same_upd (t1.t.free hp)) d1))⟩
end
/-! ### defs that may raise -/
def spX [Tbs] (K : PySem.W.Frag) (n : Nat) (F : List PyData → Option (Except Str PyData)) : Sp := fun vs H Q E => ∃ B ds r, Bs B H ∧ DqAll K B vs ds ∧ ds.length = n ∧ F ds = some r ∧ XPost K (fun c H' => E c none H') Q B H r
structure KnX [Tbs] (P : Program) (w : World) (K : PySem.W.Frag) (mg : Str → Option Value) (base : Heap) (k n : Nat) (x : Str) (F : List PyData → Option (Except Str PyData)) : Prop where
  ex : ∃ f fd ps, FnOk P w K mg base (L2.CX P w) k f fd ps (spX K n F) ∧ mg x = some (.ref f) ∧ PySem.W.keepIn K (.ref f) = true ∧ L2.Binds K fd ps []
section
variable {P : Program} {w : World} {K : PySem.W.Frag} {mg : Str → Option Value} {base : Heap} {x : Str} {st : Stmt}
theorem KnX.mono [Tbs] {j k n : Nat} {F : List PyData → Option (Except Str PyData)} (h : KnX P w K mg base j n x F) (l : j ≤ k) : KnX P w K mg base k n x F := by
  obtain ⟨f, fd, ps, a, b⟩ := h.ex
  exact ⟨f, fd, ps, a.mono l, b⟩
theorem KnX.none [Tbs] {ps : List Str} (D : Df K mg x st ps) {k n : Nat} : KnX P w K mg base k n x fun _ => .none := by
  obtain ⟨f, fd, Fu, m, b⟩ := D.ex
  have no : ∀ vs H Q E, ¬ spX K n (fun _ => Option.none) vs H Q E := fun vs H Q E ⟨_, _, _, _, _, _, h, _⟩ => nomatch h
  exact ⟨f, fd, ps, ⟨fun vs H Q E h => absurd h (no vs H Q E), fun A outer s H args us vs Q E _ _ _ _ h => absurd h (no vs H Q E)⟩, m, Fu.kp, b⟩
end
section
variable {X : Cx} {W : WX} {k n : Nat} {x : Str} {p pos : Pos} {e : Expr} {es : List Expr} {fs : Rho → Option (List PyData)} {F : List PyData → Option (Except Str PyData)}
def fXc (n : Nat) (F : List PyData → Option (Except Str PyData)) (fs : Rho → Option (List PyData)) : Rho → Option (Except Str PyData) := fun ρ => (fs ρ).bind fun ds => if ds.length = n then F ds else none
theorem px_kn [Tbs] (h : KnX X.prog X.w X.K X.mg X.base k n x F) (hr : Room k X.A) (tk : Takes X W) (ha : PDA X (e :: es) fs) (hg : Gl X x := by rfl) (hdb : (x == ("__debug__" : Str)) = false := by decide) (he : starEach (e :: es) X.env = (false, eval e X.env) :: starEach es X.env := by rfl) (hpl : (backTo pos (starEach es X.env)).any (·.1) = false := by rfl) :
    PX X W (.Call (.Name x p) (e :: es) [] pos) (fXc n F fs) := by
  obtain ⟨f, fd, ps, G, hm, hk, hb⟩ := h.ex
  refine pe_imp (pe_callS (E := WE W) G hr hg hm hk hb (fun σ => passAt tk σ) ha hdb he hpl) fun σ H Q ⟨H0, B, ρ, r, s, hf, q⟩ => ?_
  obtain ⟨ds, hds, hf⟩ := bind_some hf
  split at hf
  case isFalse => cases hf
  rename_i hl
  exact ⟨H0, B, ρ, ds, s, hds, fun vs B1 H1 t1 d1 => ⟨B1, ds, r, (s.tr t1).bs, d1, hl, hf, q.tr t1⟩⟩
end
/-! ### statements -/
section
variable {K : PySem.W.Frag}
def PostX [Tbs] (K : PySem.W.Frag) (E : XK) (B0 H0 : Hp) (D : Ends) : Except Str Out → Prop
  | .ok o => Post K B0 H0 D o
  | .error n => ∀ B H, Tr B0 H0 B H → E (.ref (Tbs.Cl n)) none H
def tSX [Tbs] (K : PySem.W.Frag) (E : XK) (g : Rho → Option (Except Str Out)) : TS := fun D σ H => ∃ B0 H0 ρ o, Stt K B0 H0 ρ σ H ∧ g ρ = some o ∧ PostX K E B0 H0 D o
abbrev PSX [Tbs] (X : Cx) (E : XK) (st : Stmt) (g : Rho → Option (Except Str Out)) : Prop := PS X st (tSX X.K E g)
abbrev PSXs [Tbs] (X : Cx) (E : XK) (st : List Stmt) (g : Rho → Option (Except Str Out)) : Prop := PSs X st (tSX X.K E g)
def gOk (g : Rho → Option Out) : Rho → Option (Except Str Out) := fun ρ => (g ρ).map .ok
def gSeqX (g h : Rho → Option (Except Str Out)) : Rho → Option (Except Str Out) := fun ρ => (g ρ).bind fun o => match o with
  | .ok (.nx ρ') => h ρ'
  | o => some o
def gIfX (ft : Rho → Option Bool) (g h : Rho → Option (Except Str Out)) : Rho → Option (Except Str Out) := fun ρ => (ft ρ).bind fun c => if c = true then g ρ else h ρ
def xOut (k : PyData → Out) : Except Str PyData → Except Str Out
  | .ok d => .ok (k d)
  | .error n => .error n
def gRetX (f : Rho → Option (Except Str PyData)) : Rho → Option (Except Str Out) := fun ρ => (f ρ).map (xOut fun d => .rt d ρ)
def gRaise (n : Str) : Rho → Option (Except Str Out) := fun _ => some (.error n)
variable {X : Cx} {E : XK} {st : Stmt} {rest : List Stmt} {g h : Rho → Option (Except Str Out)} {e : Expr} {a b : List Stmt} {c : Expr} {pos : Pos}
theorem PS.nox {st : Stmt} {t : TS} (h : PS X.nox st t) : PS X st t := ⟨fun pins s σ H D I hw =>
  wpAny_mono (h.run pins s σ H D (I.wish _) hw) (fun _ _ q => q.unwish) fun _ _ z => False.elim z⟩
theorem psx_of [Tbs] {g : Rho → Option Out} (h : PSD X st g) : PSX X E st (gOk g) := ps_imp h fun D σ H ⟨B0, H0, ρ, o, s, hf, q⟩ => by
  obtain ⟨o1, h1, rfl⟩ := Option.map_eq_some_iff.mp hf
  exact ⟨B0, H0, ρ, o1, s, h1, q⟩
/-- what doesn't raise -/
theorem psx_nox [Tbs] {g : Rho → Option Out} (h : PSD X.nox st g) : PSX X E st (gOk g) := psx_of (PS.nox h)
theorem psx_cons [Tbs] (h1 : PSX X E st g) (h2 : PSXs X E rest h) : PSXs X E (st :: rest) (gSeqX g h) := pss_imp (pss_cons h1 h2) fun D σ H ⟨B0, H0, ρ, o, s, hf, q⟩ => by
  obtain ⟨o1, ho, hf⟩ := bind_some hf
  refine ⟨B0, H0, ρ, o1, s, ho, ?_⟩
  cases o1 with
  | error n => cases hf; exact q
  | ok o1 =>
    cases o1 with
    | nx ρ' => exact fun σ' H' s' => ⟨B0, H0, ρ', o, s', hf, q⟩
    | rt d ρ' => cases hf; exact q
    | rf d => cases hf; exact q
    | bk d => cases hf; exact q
    | ct d => cases hf; exact q
theorem psx_one [Tbs] (h : PSX X E st g) : PSXs X E [st] g := pss_one h
theorem psx_nil [Tbs] : PSXs X E [] (gOk gNx) := pss_imp pss_nil fun D σ H ⟨B0, H0, ρ, o, s, hf, q⟩ => by cases hf; exact q σ H s
theorem psx_if [Tbs] {ft : Rho → Option Bool} (hc : PDT X c ft) (ha : PSXs X E a g) (hb : PSXs X E b h) : PSX X E (.If c a b pos) (gIfX ft g h) := ps_imp (ps_if hc ha hb) fun D σ H ⟨B0, H0, ρ, o, ⟨B, t, s⟩, hf, q⟩ => by
  obtain ⟨d, hd, hf⟩ := bind_some hf
  refine ⟨H0, B, ρ, d, s, hd, fun B1 H1 t1 => ?_⟩
  cases d with
  | true => rw [if_pos rfl] at hf ⊢; exact ⟨B0, H0, ρ, o, ⟨B1, t.trans t1, s.tr t1⟩, hf, q⟩
  | false => rw [if_neg Bool.false_ne_true] at hf ⊢; exact ⟨B0, H0, ρ, o, ⟨B1, t.trans t1, s.tr t1⟩, hf, q⟩
abbrev wE (E : XK) : WX := fun cls d _ H => E cls d H
theorem psx_ret [Tbs] {f : Rho → Option (Except Str PyData)} (he : PX X (wE E) e f) : PSX X E (.Return (some e) pos) (gRetX f) := ps_imp (ps_ret he) fun D σ H ⟨B0, H0, ρ, o, ⟨B, t, s⟩, hf, q⟩ => by
  obtain ⟨r, hr, rfl⟩ := Option.map_eq_some_iff.mp hf
  refine ⟨H0, B, ρ, r, s, hr, ?_⟩
  cases r with
  | ok d => exact fun v B' H' t' d' => q v σ B' H' (t.trans t') (s.tr t') d'
  | error n => exact fun B' H' t' => q B' H' (t.trans t')
/-- what the head must tell of an own exception -/
structure ExF [Tbs] (K : PySem.W.Frag) (mg : Str → Option Value) (n : Str) (bm : List Value) : Prop where
  q : PySem.W.excIn K (Tbs.Cl n) bm "ValueError.__new__" = true
  g : mg n = some (.ref (Tbs.Cl n))
  k : PySem.W.keepIn K (.ref (Tbs.Cl n)) = true
  r1 : PySem.W.subIn K (.ref (Tbs.Cl n)) (.type "BaseException") = some true
  r2 : PySem.W.typeIn K (.ref (Tbs.Cl n)) = some (.type "type")
theorem psx_raise [Tbs] {n m : Str} {j : Nat} {p p2 pos' : Pos} (hc : X.calm = true) (tk : Takes X (wE E)) (F : ExF X.K X.mg n [.type "ValueError", .type "Exception", .type "BaseException", .type "object"]) (hg : Gl X n) (hdb : (n == ("__debug__" : Str)) = false := by decide) :
    PSX X E (.Raise (some (.Call (.Name n p) [.Constant (.str m) j p2] [] pos)) none pos') (gRaise n) := ps_imp (ps_raise hc tk (pmk_own PySem.F.excBase_ValueError F.q F.g F.k (raises_own F.r1 F.r2) hg hdb)) fun D σ H ⟨B0, H0, ρ, o, ⟨B, t, s⟩, hf, q⟩ => by
  cases hf
  exact q B H t
def gAsgX (bd : PyData → Rho → Option Rho) (f : Rho → Option (Except Str PyData)) : Rho → Option (Except Str Out) := fun ρ => (f ρ).bind fun r => match r with
  | .ok x => (bd x ρ).map fun ρ' => .ok (.nx ρ')
  | .error n => some (.error n)
theorem psx_asgG [Tbs] {f : Rho → Option (Except Str PyData)} {g : TG} {bd : PyData → Rho → Option Rho} {is : List Nat} (hg : GD X.K g bd is) (h : PS X st (tAsg (tX X.K (wE E) f) g)) : PSX X E st (gAsgX bd f) := ps_imp h fun D σ H ⟨B0, H0, ρ, o, ⟨B, t, s⟩, hf, q⟩ => by
  obtain ⟨r, h1, hf⟩ := bind_some hf
  refine ⟨H0, B, ρ, r, s, h1, ?_⟩
  cases r with
  | error n => cases hf; exact fun B' H' t' => q B' H' (t.trans t')
  | ok x =>
    obtain ⟨ρ', h2, rfl⟩ := Option.map_eq_some_iff.mp hf
    exact fun v B1 H1 t1 d1 => hg H0 B1 H1 ρ ρ' σ v x _ (s.tr t1) d1 h2 fun σ' _ s' => q σ' H1 ⟨B1, t.trans t1, s'⟩
end
def fnX (n : Nat) (g : Rho → Option (Except Str Out)) : List PyData → Option (Except Str PyData) := fun ds => (g (startR n ds)).bind fun r => match r with
  | .ok (.rt d _) => some (.ok d)
  | .ok (.nx _) => some (.ok .none)
  | .error n => some (.error n)
  | _ => none
section
variable {P : Program} {w : World} {K : PySem.W.Frag} {mg : Str → Option Value} {base : Heap} {x : Str} {st : Stmt}
theorem knX_of [Tbs] {N ps : List Str} {k : Nat} {g : Rho → Option (Except Str Out)} (D : Df K mg x st ps) (S : FnScope N ps (defScope st))
    (hb : ∀ (f : Addr) (cdv : Value) (A : Around) (outer : List Env) (s : Shared) (H : Hp) (E : XK), Room k (A.deeper (envOfC x (defScope st) s.heap.objs.size f cdv)) → PSXs (cxOf (L2.CX P w) P w K mg base N x (defScope st) f cdv A outer s H E) E (defBody st) g) :
    KnX P w K mg base (k + 1) ps.length x (fnX N.length g) := by
  obtain ⟨f, fd, Fu, m, b⟩ := D.ex
  refine ⟨f, fd, ps, Fu.okX S (fun vs H Q E ⟨B, ds, r, h1, h2, h3, _⟩ => by rw [dpAll_len h2, h3]) (fun cdv A outer s H vs Q E hr ⟨B, ds, r, h1, h2, h3, h4, q⟩ => ?_), m, Fu.kp, b⟩
  unfold fnX at h4
  obtain ⟨o, ho, h4⟩ := bind_some h4
  refine ⟨_, hb f cdv A outer s H E hr, B, H, startR N.length ds, o, ⟨B, Tr.refl h1.s, sl_start h1 h2⟩, ho, ?_⟩
  cases o with
  | error n => cases h4; exact fun B' H' t => q B' H' t
  | ok o =>
    cases o with
    | rt d ρ => cases h4; exact fun v σ B' H' t s' d' => q v B' H' t d'
    | nx ρ => cases h4; exact fun σ H' ⟨B', t, s'⟩ => q .non B' H' t .non
    | bk ρ => cases h4
    | ct ρ => cases h4
    | rf xs => cases h4
/-- where it doesn't raise it is a def like any other -/
def okF (F : List PyData → Option (Except Str PyData)) : List PyData → Option PyData := fun ds => match F ds with
  | some (.ok d) => some d
  | _ => none
theorem KnX.kn [Tbs] {k n : Nat} {F : List PyData → Option (Except Str PyData)} (h : KnX P w K mg base k n x F) : Kn P w K mg base k n x (okF F) := by
  obtain ⟨f, fd, ps, G, b⟩ := h.ex
  have key : ∀ vs H Q E, spD K n (okF F) vs H Q E → spX K n F vs H Q (fun _ _ _ => False) := fun vs H Q E ⟨B, ds, d, h1, h2, h3, h4, q⟩ => by
    unfold okF at h4
    split at h4
    · rename_i d' e
      cases h4
      exact ⟨B, ds, .ok d, h1, h2, h3, e, q⟩
    · cases h4
  refine ⟨f, fd, ps, ⟨fun vs H Q E h => G.len vs H Q _ (key vs H Q E h), fun A outer s H args us vs Q E a1 a2 a3 a4 h => ?_⟩, b⟩
  refine codeAny_mono (G.run A outer s H args us vs Q _ a1 a2 a3 a4 (key vs H Q E h)) fun r s' hq => ?_
  cases r with
  | error e =>
    obtain ⟨_, _, _, _, _, _, _, _, _, _, _, _, z⟩ := hq
    exact z.elim
  | ok fl => cases fl <;> exact hq
end
end Dn


namespace Dn
open PySem L2 PySem.Spec PyProof.Rows Gx
/-! ### more words over texts, for the data -/
section
variable {K : PySem.W.Frag} {X : Cx}
def strD : PyData → Option PyData
  | .int i => if i.natAbs.log2 < 1920 then some (.str (toString i)) else none
  | _ => none
theorem rc_str [Tbs] : RC K (fun xs H Q => ∃ i : Int, xs = [.int i] ∧ i.natAbs.log2 < 1920 ∧ Q (.str (toString i)) H) (one1 strD) := rc_one fun B H v x d Q s hx hg q => by
  unfold strD at hg
  split at hg
  · cases hx
    obtain ⟨hl, rfl⟩ := ite_some hg
    exact ⟨_, rfl, hl, q _ B H (Tr.refl s) (.str _)⟩
  · cases hg
/-- int(text) -/
def intTD : PyData → Option PyData
  | .str a => if a.length ≤ 640 then (PySem.intText? a).map .int else none
  | _ => none
theorem rc_intT [Tbs] : RC K (fun xs H Q => ∃ (a : Str) (n : Int), xs = [.str a] ∧ PySem.intText? a = some n ∧ a.length ≤ 640 ∧ Q (.int n) H) (one1 intTD) := rc_one fun B H v x d Q s hx hg q => by
  unfold intTD at hg
  split at hg
  · cases hx
    split at hg
    case isFalse => cases hg
    rename_i hl
    obtain ⟨n, hn, rfl⟩ := Option.map_eq_some_iff.mp hg
    exact ⟨_, n, rfl, hn, hl, q _ B H (Tr.refl s) (.int _)⟩
  · cases hg
def startsD : PyData → List PyData → Option PyData
  | .str a, [.str b] => some (.bool (Txt.startswith a b))
  | _, _ => none
theorem ty_starts [Tbs] : TyD K "str" startsD := fun B H v x ds d s hx hg => by
  unfold startsD at hg
  split at hg
  · cases hx; rfl
  · cases hg
theorem rm_starts [Tbs] : RM K "str" (fun x xs H Q => ∃ a b, x = .str a ∧ xs = [.str b] ∧ Q (.bl (Txt.startswith a b)) H) startsD := fun B H v vs x ds d Q s hx hds hg q => by
  unfold startsD at hg
  split at hg
  · cases hx
    cases hds with
    | cons h1 h2 => cases h2; cases h1; cases hg; exact ⟨_, _, rfl, rfl, q _ B H (Tr.refl s) (.bl _)⟩
  · cases hg
def endsD : PyData → List PyData → Option PyData
  | .str a, [.str b] => some (.bool (Txt.endswith a b))
  | _, _ => none
theorem ty_ends [Tbs] : TyD K "str" endsD := fun B H v x ds d s hx hg => by
  unfold endsD at hg
  split at hg
  · cases hx; rfl
  · cases hg
theorem rm_ends [Tbs] : RM K "str" (fun x xs H Q => ∃ a b, x = .str a ∧ xs = [.str b] ∧ Q (.bl (Txt.endswith a b)) H) endsD := fun B H v vs x ds d Q s hx hds hg q => by
  unfold endsD at hg
  split at hg
  · cases hx
    cases hds with
    | cons h1 h2 => cases h2; cases h1; cases hg; exact ⟨_, _, rfl, rfl, q _ B H (Tr.refl s) (.bl _)⟩
  · cases hg
def partD : PyData → List PyData → Option PyData
  | .str a, [.str b] => if (b.length == 0) = false ∧ a.length ≤ bigL then some (.tuple [.str (Txt.partition a b).1, .str (Txt.partition a b).2.1, .str (Txt.partition a b).2.2]) else none
  | _, _ => none
theorem ty_part [Tbs] : TyD K "str" partD := fun B H v x ds d s hx hg => by
  unfold partD at hg
  split at hg
  · cases hx; rfl
  · cases hg
theorem rm_part [Tbs] : RM K "str" (fun x xs H Q => ∃ a b, x = .str a ∧ xs = [.str b] ∧ (b.length == 0) = false ∧ a.length ≤ sizeLine ∧ ∀ p, H p = none → Q (.ref p) (upd H p (.tup [.str (Txt.partition a b).1, .str (Txt.partition a b).2.1, .str (Txt.partition a b).2.2]))) partD := fun B H v vs x ds d Q s hx hds hg q => by
  unfold partD at hg
  split at hg
  · cases hx
    cases hds with
    | cons h1 h2 =>
      cases h2; cases h1
      obtain ⟨⟨w1, w2⟩, rfl⟩ := ite_some hg
      exact ⟨_, _, rfl, rfl, w1, bigL_le w2, fun p hp => newT s (.cons (.str _) (.cons (.str _) (.cons (.str _) .nil))) q hp⟩
  · cases hg
/-! ### is None -/
def nonB : PyData → Bool
  | .none => true
  | _ => false
def isNoneD : PyData → PyData → Option PyData
  | x, .none => some (.bool (nonB x))
  | _, _ => none
def notNoneD : PyData → PyData → Option PyData
  | x, .none => some (.bool (!nonB x))
  | _, _ => none
theorem dq_none [Tbs] {B : Hp} {v : V} {d : PyData} (h : Dq K B v d) : decide (v = .non) = nonB d := by
  cases h <;> first | rfl | (simp [nonB]; done)
theorem rd_isN [Tbs] : RD K (fun x y H Q => y = .non ∧ Q (.bl (decide (x = .non))) H) isNoneD := fun B H x y dx dy d Q s hx hy hg q => by
  unfold isNoneD at hg
  split at hg
  · cases hy
    cases hg
    refine ⟨rfl, ?_⟩
    rw [dq_none hx]
    exact q _ B H (Tr.refl s) (.bl _)
  · cases hg
theorem rd_notN [Tbs] : RD K (fun x y H Q => y = .non ∧ Q (.bl (!decide (x = .non))) H) notNoneD := fun B H x y dx dy d Q s hx hy hg q => by
  unfold notNoneD at hg
  split at hg
  · cases hy
    cases hg
    refine ⟨rfl, ?_⟩
    rw [dq_none hx]
    exact q _ B H (Tr.refl s) (.bl _)
  · cases hg
end
end Dn

namespace Dn
open PySem L2 PySem.Spec PyProof.Rows Gx
/-! ### enumerate(text) -/
def Itn (x : Str) : It := ⟨fun i _ => i < x.cps.size, fun i H v H' => ∃ T c, v = .ref T ∧ H T = none ∧ H' = upd H T (.tup [.int (i : Nat), .str ⟨#[c]⟩]) ∧ x.cps[i]? = some c, fun i _ => i = x.cps.size⟩
theorem turn_enumS {P : Program} {w : World} {K : PySem.W.Frag} {elts : List Expr} {kk : Nat} {tpos : Pos} (x : Str) (t : Tok) (e it : Addr) (ty : String) (hty : ty = "str_ascii_iterator" ∨ ty = "str_iterator") :
    Turn P w K (.Tuple elts kk tpos) (Itn x) [e, it] e (fun i h => (∃ old, IsEnum h e it ((i : Nat) : Int) old) ∧ h.IsStrIter it ty x t i ∧ e ≠ it) where
  mem := by simp
  obj := fun i h st b hb => by
    obtain ⟨⟨old, he⟩, ⟨o, ho, hc, hd⟩, _⟩ := st
    have e' : b = e ∨ b = it := by simpa using hb
    rcases e' with z | z
    · rw [z]; exact ⟨_, he, fun v q => nomatch q⟩
    · rw [z]; exact ⟨o, ho, fun v q => by rw [hd] at q; cases q⟩
  keep := fun i h h' st k => let ⟨⟨old, he⟩, ⟨o, ho, r⟩, hne⟩ := st; ⟨⟨old, k e (by simp) _ he⟩, ⟨o, k it (by simp) o ho, r⟩, hne⟩
  item := by
    intro X hP hw hK hc i pins s σ H E I hf st hg
    subst hP hw hK
    obtain ⟨⟨old, he⟩, hit, hne⟩ := st
    have hel : e < s.heap.objs.size := Heap.lt_size he
    have hil : it < s.heap.objs.size := by obtain ⟨_, q, _⟩ := hit; exact Heap.lt_size q
    have D : Draws X.prog X.w X.A.in1 it [it] x.cps.size (SignAt x) (fun i h => h.IsStrIter it ty x t i) := by
      rcases hty with z | z
      · rw [z]; exact Draws.strAscii (A := X.A.in1) (show X.A.in1.handled = none from I.ok.hd hc) it x t
      · rw [z]; exact Draws.strWide (A := X.A.in1) (show X.A.in1.handled = none from I.ok.hd hc) it x t
    refine wpAny_pyNext_enum_itemD D he hit hg hne (by simpa using hne) fun u h' tk hP ho hit' hT hsz hk => ?_
    obtain ⟨c, u2, hcx, rfl⟩ := hP
    refine ⟨_, rfl, wpAny_letOwnedTupleGo_enum (s := { s with heap := h', toks := tk + 1 }) ho fun h'' he' sb => ?_⟩
    have hT2 : h''.get? s.heap.objs.size = some { cls := .type "tuple", data := .seq #[.int i tk, .str ⟨#[c]⟩ u2] } := (sb.2 _ (Nat.ne_of_gt hel)).trans hT
    have new : ObjOk X.prog X.w (upd H s.heap.objs.size (.tup [.int (i : Nat), .str ⟨#[c]⟩])) h'' s.heap.objs.size (.tup [.int (i : Nat), .str ⟨#[c]⟩]) :=
      ⟨by show 2 ≤ sizeLine; decide, [.int i tk, .str ⟨#[c]⟩ u2], .cons ⟨_, rfl⟩ (.cons ⟨_, rfl⟩ .nil), ⟨_, hT2, rfl, _, rfl⟩⟩
    have I1 : Inv X pins σ (upd H s.heap.objs.size (.tup [.int (i : Nat), .str ⟨#[c]⟩])) { s with heap := h'', toks := tk + 1 } :=
      I.turnedNew (ch := [e, it]) (fun b ob hb q => (sb.2 b (fun z => hb (by simp [z]))).trans (hk b ob (fun z => hb (by simp [z])) (fun z => hb (by simp [z])) q)) hf (Nat.le_refl _) new
    refine ⟨.ref s.heap.objs.size, _, I1, rfl, ⟨_, c, rfl, I.hok.fresh (Nat.le_refl _), rfl, hcx⟩, ⟨⟨.str ⟨#[c]⟩ u2, ?_⟩, ?_, hne⟩, fun b hb => ?_⟩
    · have e1 : ((i + 1 : Nat) : Int) = (i : Int) + 1 := by omega
      rw [e1]; exact he'
    · obtain ⟨o, ho2, r⟩ := hit'
      exact ⟨o, (sb.2 it (Ne.symm hne)).trans ho2, r⟩
    · have hb' : b < s.heap.objs.size := by
        have e' : b = e ∨ b = it := by simpa using hb
        rcases e' with z | z
        · rw [z]; exact hel
        · rw [z]; exact hil
      rw [upd_ne (Nat.ne_of_lt hb')]
      exact (hf b hb).1
  done := by
    intro X hP hw hK hc i pins s σ H E I hf st hg
    subst hP hw hK
    obtain ⟨⟨old, he⟩, hit, hne⟩ := st
    obtain ⟨f0, f1, f2, f3, f4, f5⟩ := hf it (by simp)
    have D : Draws X.prog X.w X.A.in1 it [it] x.cps.size (SignAt x) (fun i h => h.IsStrIter it ty x t i) := by
      rcases hty with z | z
      · rw [z]; exact Draws.strAscii (A := X.A.in1) (show X.A.in1.handled = none from I.ok.hd hc) it x t
      · rw [z]; exact Draws.strWide (A := X.A.in1) (show X.A.in1.handled = none from I.ok.hd hc) it x t
    have hg' : i = x.cps.size := hg
    subst hg'
    exact wpAny_pyNext_enum_endD D he hit fun h' eb => ⟨rfl, I.turned (t' := s.toks) (fun b o hb q => eb b o hb q) f0 f1 f3 f4 f5⟩
  self := fun A i s Q E st h => let ⟨⟨_, he⟩, _⟩ := st; wpAny_pyIter_enum he h
def iEnumS (ta : TA) : TI := fun σ H R => ta σ H fun vs H1 => ∃ x, vs = [.str x] ∧ R (Itn x) H1
theorem pi_enumS {X : Cx} {e : Expr} {ta : TA} {p pos tpos : Pos} {elts : List Expr} {kk : Nat} (hg : Gl X "enumerate") (hm : X.mg "enumerate" = none) (ha : PA X [e] ta) (hs : starEach [e] X.env = [(false, eval e X.env)] := by rfl) :
    PI X (.Tuple elts kk tpos) (.Call (.Name "enumerate" p) [e] [] pos) (iEnumS ta) := by
  refine ⟨fun pins s σ H R I h => ?_⟩
  refine Call_ (ld_blt I hg hm boot_enumerate (PyProof.Rows.callWith_type1 (thn (ha.run pos pins s σ H _ I h) fun us s1 ⟨vs, H1, I1, r1, q1⟩ => ?_) hs rfl))
  obtain ⟨x, ex, q⟩ := q1
  subst ex
  cases r1 with
  | cons r rr =>
    cases rr
    obtain ⟨t, rfl⟩ := r
    refine call_enumerate_str fun h' he hit hsz hk => wpAny_pyIter_enum he ?_
    have I2 : Inv X pins σ H1 { s1 with heap := h' } := I1.kept (t' := s1.toks) hk
    have hty : strIterType x = "str_ascii_iterator" ∨ strIterType x = "str_iterator" := by unfold strIterType; split <;> simp
    refine ⟨s1.heap.objs.size + 1, [s1.heap.objs.size + 1, s1.heap.objs.size], _, _, H1, rfl, I2, turn_enumS x t (s1.heap.objs.size + 1) s1.heap.objs.size _ hty, ⟨⟨.none, he⟩, hit, Nat.succ_ne_self _⟩, fun b hb => ?_, q⟩
    have e' : b = s1.heap.objs.size + 1 ∨ b = s1.heap.objs.size := by simpa using hb
    have hle : s1.heap.objs.size ≤ b := by
      rcases e' with z | z
      · rw [z]; exact Nat.le_add_right _ _
      · rw [z]; exact Nat.le_refl _
    exact I1.fpOk hle (I1.hok.fresh hle)
def enum2S : PyData → Option (List PyData)
  | .str z => some (enumD (signsD z))
  | _ => none
theorem itD_enumS [Tbs] {K : PySem.W.Frag} {B : Hp} (z : Str) : ItD K B (Itn z) (enumD (signsD z)) := by
  have ln : (enumD (signsD z)).length = z.cps.size := by unfold enumD signsD; simp
  refine ⟨fun H s => ln, fun i d e H s => ?_⟩
  unfold enumD at e
  rw [List.getElem?_map, List.getElem?_zipIdx] at e
  obtain ⟨p, hp, rfl⟩ := Option.map_eq_some_iff.mp e
  obtain ⟨c, hc, rfl⟩ := Option.map_eq_some_iff.mp hp
  unfold signsD at hc
  rw [List.getElem?_map] at hc
  obtain ⟨c0, hc0, rfl⟩ := Option.map_eq_some_iff.mp hc
  have hi : i < z.cps.size := by
    have := (List.getElem?_eq_some_iff.mp hc0).1
    simpa using this
  refine ⟨hi, fun x H' y B1 s1 s2 => ?_⟩
  obtain ⟨T, c', rfl, hT, rfl, hc'⟩ := y
  have this : z.cps.toList[i]? = some c' := by simpa using hc'
  rw [hc0] at this
  cases this
  refine ⟨_, Tr.new s2 hT, .tup (SqT.of upd_same) (.cons ?_ (.cons (.str _) .nil))⟩
  show Dq K _ (V.int (i : Nat)) (PyData.int (((0 + i : Nat)) : Int))
  rw [Nat.zero_add]
  exact .int _
def fEnS (f : Rho → Option PyData) : Rho → Option (List PyData) := fun ρ => (f ρ).bind enum2S
theorem pdi_enumS [Tbs] {X : Cx} {a : Expr} {f : Rho → Option PyData} {pos p tpos : Pos} {elts : List Expr} {kk : Nat} (hg : Gl X "enumerate") (hm : X.mg "enumerate" = none) (ha : PD X a f) (h0 : starEach [a] X.env = (false, eval a X.env) :: starEach [] X.env := by rfl) (hs : starEach [a] X.env = [(false, eval a X.env)] := by rfl) :
    PDI X (.Tuple elts kk tpos) (.Call (.Name "enumerate" p) [a] [] pos) (fEnS f) := pi_imp (pi_enumS hg hm (pa_cons ha pa_nil h0) hs) fun σ H R ⟨H0, B, ρ, d, sl, hf, q⟩ => by
  obtain ⟨x, hx, hf⟩ := bind_some hf
  refine ⟨H0, B, ρ, x, sl, hx, fun v B1 H1 t1 d1 => ?_⟩
  unfold enum2S at hf
  split at hf
  · cases hf
    cases d1
    exact ⟨_, rfl, q _ B1 H1 t1 (itD_enumS _)⟩
  · cases hf
end Dn

namespace Dn
open PySem L2 PySem.Spec PyProof.Rows Gx
/-- isinstance(e, (c, ..)), e the exception that the suite holds -/
def rIsET (K : PySem.W.Frag) (D a : Addr) : List V → Hp → VK → Prop := fun xs H Q => ∃ (tp : Addr) (cs : List V) (us : List Value) (b : Bool), xs = [.ref a, .ref tp] ∧ H tp = some (.tup cs) ∧ Paired ClsV cs us ∧ PySem.W.kitAny K (.ref D) us = some b ∧ Q (.bl b) H
theorem call_isET {X : Cx} {a D : Addr} {oe : Obj} {pn : List (Addr × Obj)} (C : ExcC X.K D) (hz : Zc (.ref D) none oe) (hf : ∃ vs, oe.data = .fields vs) : CallR (X.suite a ((a, oe) :: pn)) (.builtin "isinstance") (rIsET X.K D a) := by
  intro pins s σ H xs us Q I r h
  obtain ⟨tp, cs, ws, b, rfl, hT, k, e, q⟩ := h
  cases r with
  | cons rx rr =>
    cases rr with
    | cons rt rr =>
      cases rr
      cases rx
      cases (show _ = Value.ref tp from rt)
      obtain ⟨hget, _⟩ := I.pin (a, oe) (List.mem_append.mpr (.inl List.mem_cons_self))
      obtain ⟨vs, hv⟩ := hf
      have J : PySem.W.InstAt s.heap a oe D none := by
        obtain ⟨oc, od, oda, osl⟩ := oe
        obtain ⟨h1, h2⟩ := hz
        dsimp only at h1 h2 hv
        subst h1 h2 hv
        exact ⟨hget, rfl, rfl, trivial⟩
      obtain ⟨_, its, rv, o, h1, h2, n, h3⟩ := (show ObjOk X.prog X.w H s.heap tp (.tup cs) from I.hok tp _ hT)
      have e3 := ClsV.all k rv
      subst e3
      obtain ⟨oc, od, dt, sl⟩ := o
      simp only at h2 h3
      subst h2 h3
      exact PySem.W.kia_tup (PySem.W.handS_kitx_exc C.hg C.hk C.hs C.hd C.ha C.hn C.ht C.hm) I.kIn J h1 e (fun z => nomatch z) fun tk => ⟨.bl b, H, I.kept (t' := tk) fun _ _ z => z, rfl, q⟩
/-- behind a suite that tells what it caught -/
def tRef (a : Addr) (ie : Nat) : TS := fun D σ H => σ[ie]? = some (some (.ref a)) ∧ ie + 1 < σ.length ∧ ∀ tp o, H tp = none → D.rt (.bl true) (upd H tp o)
def gTry (ie : Nat) (m : Str) (f : Rho → Option (Except Str PyData)) : Rho → Option Out := fun ρ => if ie + 1 < ρ.length then (f ρ).bind fun r => match r with
  | .ok d => some (.nx ρ)
  | .error n => if n = m then some (.rt (.bool true) ρ) else none
  else none
theorem psd_try [Tbs] {X : Cx} {callE : Expr} {p1 np pos pos' : Pos} {x n m : Str} {CS : Addr} {ie : Nat} {b₀ : Stmt} {suite : List Stmt} {f : Rho → Option (Except Str PyData)}
    (hs : X.stack = X.env :: X.outer) (hfr : X.env.frame = some X.env.locals) (hN : X.N.Nodup) (hi : X.N[ie]? = some n) (hln : X.env.kindOf n = some .local) (hc : Names X x (.ref CS)) (hx : PySem.W.exmOne X.K (.ref (Tbs.Cl m)) (.ref CS) = some true)
    (hb : ∀ (W : WX) (pn : List (Addr × Obj)) (xe : Value → Shared → Prop), Takes (X.tr pn xe) W → PX (X.tr pn xe) W callE f) (hsw : ∀ (pn : List (Addr × Obj)) (xe : Value → Shared → Prop), swapsWith callE none p1.line (X.tr pn xe).env = pure false := by intro _ _; rfl)
    (hsu : ∀ (a : Addr) (oe : Obj) (pn : List (Addr × Obj)), Zc (.ref (Tbs.Cl m)) none oe → (∃ vs, oe.data = .fields vs) → PSs (X.suite a ((a, oe) :: pn)) (b₀ :: suite) (tRef a ie)) :
    PSD X (.Try [.Expr callE p1] [.ExceptHandler (some (.Name x np)) (some n) (b₀ :: suite) pos'] [] [] pos) (gTry ie m f) := by
  refine ps_imp (ps_try_as (tb := fun W => tDrop (tX X.K W f)) (ts := fun a cls d => fun D σ H => cls = .ref (Tbs.Cl m) ∧ d = none ∧ tRef a ie D σ H) (Wout := fun _ _ _ _ => False) hs hfr hN hi hln hc takes0
    (fun W pn xe tk _ => pss_one (ps_expr (hb W pn xe tk) (hsw pn xe))) (fun a oe cls d pn hz hf => ⟨fun pins s σ H D I h => by
      obtain ⟨rfl, rfl, h⟩ := h
      exact (hsu a oe pn hz hf).run pins s σ H D I h⟩)) fun D σ H ⟨B0, H0, ρ, o, ⟨B, t, s⟩, hf, q⟩ => ?_
  unfold gTry at hf
  split at hf
  case isFalse => cases hf
  rename_i hi2
  have hie2 : ie + 1 < σ.length := by rw [← s.len]; exact hi2
  have hie : ie < σ.length := by omega
  obtain ⟨r, hr, hf⟩ := bind_some hf
  refine ⟨H0, B, ρ, r, s, hr, ?_⟩
  cases r with
  | ok d =>
    cases hf
    exact fun v B' H' t' d' => q σ H' ⟨B', t.trans t', s.tr t'⟩
  | error k =>
    obtain ⟨rfl, rfl⟩ := ite_some hf
    refine fun B' H' t' => ⟨true, hx, fun _ a ha => ⟨rfl, rfl, List.getElem?_set_self hie, by rw [List.length_set]; exact hie2, fun tp o htp => ?_⟩, fun z => by cases z⟩
    have j : Tr B' H' B' (upd H' tp o) := Tr.junk t'.t htp
    exact q (.bl true) σ B' (upd H' tp o) ((t.trans t').trans j) ((s.tr t').tr j) (.bl true)
/-- the list that split makes, still its owner's -/
def splitF : PyData → List PyData → Option (List PyData)
  | .str a, [.str b] => if (b.length == 0) = false ∧ a.length + 2 ≤ bigL then some ((Txt.split a b).map .str) else none
  | _, _ => none
def fMtF (g : PyData → List PyData → Option (List PyData)) (f : Rho → Option PyData) (fs : Rho → Option (List PyData)) : Rho → Option (List PyData) := fun ρ => (f ρ).bind fun x => (fs ρ).bind fun xs => g x xs
theorem pdf_split [Tbs] {X : Cx} {o e : Expr} {es : List Expr} {apos cpos : Pos} {f : Rho → Option PyData} {fs : Rho → Option (List PyData)} (ho : PD X o f) (ha : PDA X (e :: es) fs) (hbase : attributeBase o "split" X.env (eval o X.env) = eval o X.env := by rfl) (hfew : ((backTo cpos (starEach (e :: es) X.env)).all (fun x => !x.1) && (backToKw cpos (keywordEach [] X.env)).all (fun x => x.1.isSome) && decide ((e :: es).length + ([] : List Keyword).length + (if ([] : List Keyword).isEmpty then 0 else 1) < 30)) = true := by rfl) (hline : (apos.endLine == cpos.line) = true := by rfl) (hs : starEach (e :: es) X.env = (false, eval e X.env) :: starEach es X.env := by rfl) (hplain : (backTo cpos (starEach es X.env)).any (·.1) = false := by rfl) :
    PDF X (.Call (.Attribute o "split" apos) (e :: es) [] cpos) (fMtF splitF f fs) := pe_imp (pe_bm PySem.F.plainAttrs_str PySem.F.slot_str_split PySem.F.type_str_split mt_split ho ha hbase hfew hline hs hplain) fun σ H Q ⟨H0, B, ρ, d, s, hf, q⟩ => by
  obtain ⟨x, hx, hf⟩ := bind_some hf
  obtain ⟨xs, hxs, hf⟩ := bind_some hf
  unfold splitF at hf
  split at hf
  case h_2 => cases hf
  obtain ⟨⟨w1, w2⟩, rfl⟩ := ite_some hf
  refine ⟨H0, B, ρ, _, s, hx, fun v B1 H1 t1 d1 => ?_⟩
  cases d1
  refine ⟨rfl, H0, B1, ρ, _, s.tr t1, hxs, fun vs B2 H2 t2 d2 => ?_⟩
  cases d2 with
  | cons h1 h2 =>
    cases h2; cases h1
    refine ⟨_, _, rfl, rfl, w1, bigL_le w2, fun p hp => ?_⟩
    have t12 := t1.trans t2
    exact q p _ B2 _ (t12.put (t2.t.free hp) (t12.h.free hp)) (t2.t.free hp) (t12.h.free hp) upd_same (dp_strs _)
/-! ### zip of two tuples -/
theorem itD_zipT [Tbs] {K : PySem.W.Frag} {B : Hp} {a b : Addr} {vs ws : List V} {ds es : List PyData} (h : SqT K B a vs) (hd : DqAll K B vs ds) (h' : SqT K B b ws) (hd' : DqAll K B ws es) : ItD K B (RZ.ItzT K a b) (zipD ds es) := by
  refine ⟨fun H s => ⟨vs, ws, sqT_mono s h, sqT_mono s h', ?_⟩, fun i d e H s => ?_⟩
  · have h1 := dpAll_len hd
    have h2 := dpAll_len hd'
    have h3 : (zipD ds es).length = min ds.length es.length := by simp [zipD, List.length_zip]
    omega
  · unfold zipD at e
    rw [List.getElem?_map] at e
    obtain ⟨⟨c1, c2⟩, hc, rfl⟩ := Option.map_eq_some_iff.mp e
    rw [List.getElem?_zip_eq_some] at hc
    obtain ⟨v, hv, hdv⟩ := dpAll_get hd hc.1
    obtain ⟨w, hw, hdw⟩ := dpAll_get hd' hc.2
    refine ⟨⟨vs, ws, v, w, sqT_mono s h, sqT_mono s h', hv, hw⟩, fun x H' y B1 s1 s2 => ?_⟩
    obtain ⟨T, x1, y1, rfl, hT, rfl, z1, z2⟩ := y
    have z1 := z1 vs (sqT_mono s h)
    have z2 := z2 ws (sqT_mono s h')
    rw [hv] at z1
    rw [hw] at z2
    cases z1
    cases z2
    exact ⟨_, Tr.new s2 hT, .tup (SqT.of upd_same) (.cons (dp_mono (s1.trans (same_upd (s2.free hT))) hdv) (.cons (dp_mono (s1.trans (same_upd (s2.free hT))) hdw) .nil))⟩
def zip2T : PyData → PyData → Option (List PyData)
  | .tuple xs, .tuple ys => some (zipD xs ys)
  | _, _ => none
def fZT (f g : Rho → Option PyData) : Rho → Option (List PyData) := fun ρ => (f ρ).bind fun x => (g ρ).bind fun y => zip2T x y
theorem pdi_zipT [Tbs] {X : Cx} {f g : Rho → Option PyData} {a b : Expr} {p pos tpos : Pos} {elts : List Expr} {kk : Nat} (hg : Gl X "zip") (hm : X.mg "zip" = none) (ha : PD X a f) (hb : PD X b g) (h0 : starEach [b] X.env = (false, eval b X.env) :: starEach [] X.env := by rfl)
    (hs : starEach [a, b] X.env = (false, eval a X.env) :: starEach [b] X.env := by rfl) (hpl : (backTo pos (starEach [b] X.env)).any (·.1) = false := by rfl) : PDI X (.Tuple elts kk tpos) (.Call (.Name "zip" p) [a, b] [] pos) (fZT f g) := pi_imp (RZ.pi_zipA hg hm (pa_cons ha (pa_cons hb pa_nil h0) hs) hs hpl) fun σ H R ⟨H0, B, ρ, d, sl, hf, q⟩ => by
  obtain ⟨x, hx, hf⟩ := bind_some hf
  obtain ⟨y, hy, hf⟩ := bind_some hf
  refine ⟨H0, B, ρ, x, sl, hx, fun v B1 H1 t1 d1 => ⟨H0, B1, ρ, y, sl.tr t1, hy, fun w B2 H2 t2 d2 => ?_⟩⟩
  have d3 := dp_mono t2.b d1
  unfold zip2T at hf
  split at hf
  · cases hf
    cases d3 with
    | tup h1 a1 => cases d2 with
      | tup h2 a2 => exact ⟨_, _, _, _, rfl, .inr ⟨sqT_mono t2.t h1, sqT_mono t2.t h2, q _ B2 H2 (t1.trans t2) (itD_zipT h1 a1 h2 a2)⟩⟩
  · cases hf
end Dn

namespace Dn
open PySem L2 PySem.Spec PyProof.Rows Gx
/-! ### a text some times -/
def repS (a : Str) (n : Nat) : Str := ⟨(List.replicate n a.cps).foldl (· ++ ·) #[]⟩
theorem repS_list (a : Str) (n : Nat) : (repS a n).cps.toList = (List.replicate n a.cps.toList).flatten := by
  have := size_foldl n a.cps
  unfold repS
  exact this
where
  size_foldl (n : Nat) (x : Array Nat) : ((List.replicate n x).foldl (· ++ ·) #[]).toList = (List.replicate n x.toList).flatten := by
    have key : ∀ (m : Nat) (acc : Array Nat), ((List.replicate m x).foldl (· ++ ·) acc).toList = acc.toList ++ (List.replicate m x.toList).flatten := by
      intro m
      induction m with
      | zero => intro acc; simp
      | succ m ih => intro acc; rw [List.replicate_succ, List.foldl_cons, ih, List.replicate_succ, List.flatten_cons, Array.toList_append, List.append_assoc]
    rw [key n #[]]; rfl
theorem repS_len (a : Str) (n : Nat) : (repS a n).length = n * a.length := by
  have h := congrArg List.length (repS_list a n)
  rw [List.length_flatten, List.map_replicate, List.sum_replicate_nat] at h
  simpa [Str.length] using h
def rTimesS : R2 := fun x y H Q => ∃ (a : Str) (k : Int), x = .str a ∧ y = .int k ∧ 2 ≤ k ∧ k ≤ 100 ∧ 1 ≤ a.length ∧ a.length ≤ 100 ∧ Q (.str (repS a k.toNat)) H
theorem op_timesS {X : Cx} : OpR X (binaryOp .Mult) rTimesS := by
  intro pins s σ H x y v u Q I rx ry h
  obtain ⟨a, k, rfl, rfl, k1, k2, l1, l2, q⟩ := h
  obtain ⟨t, rfl⟩ := rx
  obtain ⟨t', rfl⟩ := ry
  have nk : ¬ k < 1 := by omega
  have h1 : (k == 1 || a.length == 0) = false := by
    rw [Bool.or_eq_false_iff]
    exact ⟨beq_eq_false_iff_ne.mpr (by omega), beq_eq_false_iff_ne.mpr (by omega)⟩
  have b2 : k.toNat * a.length ≤ 100 * 100 := Nat.mul_le_mul (by omega) l2
  refine PySem.P.mul_str ?_ (fun _ _ => ?_) (fun _ _ => ?_) ?_
  · rw [decide_eq_false (by omega), decide_eq_false (by omega)]; rfl
  · have h2 : (2 ^ 63 - 1) / 100 ≤ ((2 ^ 63 - 1) / k : Int) := by
      have e : (2 ^ 63 - 1) / 100 ≤ ((2 ^ 63 - 1) / k : Int) ↔ (2 ^ 63 - 1) / 100 * k ≤ (2 ^ 63 - 1 : Int) := Int.le_ediv_iff_mul_le (by omega)
      rw [e]; omega
    omega
  · show decide (_ > sizeLine) = false
    have h9 : (10000 : Nat) ≤ sizeLine := by decide
    exact decide_eq_false (by rw [Nat.mul_comm]; omega)
  · rw [if_neg nk, if_neg (by rw [h1]; exact Bool.false_ne_true)]
    refine ⟨?_, .str (repS a k.toNat), H, I.tok _, ⟨_, rfl⟩, q⟩
    have h9 : (10000 : Nat) ≤ sizeLine := by decide
    have := repS_len a k.toNat
    unfold repS at this
    rw [this]; omega
def timesSD : PyData → PyData → Option PyData
  | .str a, .int k => if (2 ≤ k ∧ k ≤ 100) ∧ (1 ≤ a.length ∧ a.length ≤ 100) then some (.str (repS a k.toNat)) else none
  | _, _ => none
theorem rd_timesS [Tbs] {K : PySem.W.Frag} : RD K rTimesS timesSD := fun B H x y dx dy d Q s hx hy hg q => by
  unfold timesSD at hg
  split at hg
  · obtain ⟨⟨⟨h1, h2⟩, h3, h4⟩, rfl⟩ := ite_some hg
    cases hx; cases hy
    exact ⟨_, _, rfl, rfl, h1, h2, h3, h4, q _ B H (Tr.refl s) (.str _)⟩
  · cases hg
/-! ### tuple + tuple, both with something in -/
def rCatTT (K : PySem.W.Frag) : R2 := fun x y H Q => ∃ l m xs ys, x = .ref l ∧ y = .ref m ∧ SqT K H l xs ∧ SqT K H m ys ∧ xs ≠ [] ∧ ys ≠ [] ∧ xs.length + ys.length ≤ sizeLine ∧ ∀ p, H p = none → Q (.ref p) (upd H p (.tup (xs ++ ys)))
theorem op_catTT {X : Cx} : OpR X (binaryOp .Add) (rCatTT X.K) := by
  intro pins s σ H x y v u Q I hx hy ⟨l, m, xs, ys, e1, e2, h1, h2, n1, n2, hsz, q⟩
  subst e1 e2
  cases hx
  cases hy
  obtain ⟨its, r, ⟨⟨c1, d1, t1, s1⟩, o1, hc, n, hd⟩, hs1⟩ := I.tuple h1
  obtain ⟨jts, r2, ⟨⟨c2, d2, t2, s2⟩, o2, hc2, n2', hd2⟩, hs2⟩ := I.tuple h2
  simp only at hc hd hc2 hd2
  subst hc hd hc2 hd2
  have g1 := r.length
  have g2 := r2.length
  have i1 : ¬ its.toArray.isEmpty = true := by
    cases its with
    | nil => exact absurd (List.eq_nil_of_length_eq_zero g1) n1
    | cons a b => simp
  have i2 : ¬ jts.toArray.isEmpty = true := by
    cases jts with
    | nil => exact absurd (List.eq_nil_of_length_eq_zero g2) n2
    | cons a b => simp
  refine concat_meets ⟨_, o1, rfl⟩ ⟨_, o2, rfl⟩ noFill_tuple_add seq_tuple_add PySem.F.slot_tuple_add PySem.F.entry_tuple_add (PySem.F.args_tuple_add_2 _ _) (tuple_addW2 l m its.toArray jts.toArray n n2' d1 d2 s1 s2 i1 i2 (by simp; omega)) ⟨o1, o2, ?_⟩
  rw [show its.toArray ++ jts.toArray = (its ++ jts).toArray by simp]
  refine ⟨.ref s.heap.objs.size, _, I.laid (t' := s.toks) (o := .tup (xs ++ ys)) (fun b ob q => Heap.get?_push_of_some _ q) (Nat.le_refl _) ?_, rfl, q _ (I.hok.fresh (Nat.le_refl _))⟩
  exact ⟨by rw [List.length_append]; omega, _, r.append r2, IsTup.new _ _⟩
def catTD : PyData → PyData → Option PyData
  | .tuple a, .tuple b => if (a.isEmpty = false ∧ b.isEmpty = false) ∧ a.length + b.length ≤ bigL then some (.tuple (a ++ b)) else none
  | _, _ => none
theorem rd_catTT [Tbs] {K : PySem.W.Frag} : RD K (rCatTT K) catTD := fun B H x y dx dy d Q s hx hy hg q => by
  unfold catTD at hg
  split at hg
  · obtain ⟨⟨⟨h1, h2⟩, h3⟩, rfl⟩ := ite_some hg
    cases hx with
    | tup t1 a1 => cases hy with
      | tup t2 a2 =>
        refine ⟨_, _, _, _, rfl, rfl, sqT_mono s t1, sqT_mono s t2, fun e => ?_, fun e => ?_, by rw [dpAll_len a1, dpAll_len a2]; exact bigL_le h3, fun p hp => newT s (dpAll_append a1 a2) q hp⟩
        · rw [e] at a1; cases a1; cases h1
        · rw [e] at a2; cases a2; cases h2
  · cases hg
def chO (g g' : PyData → PyData → Option PyData) (h : Rho → Option PyData) (ρ : Rho) : Option PyData → Option PyData → Option PyData
  | some x, some y => match g x y with
    | some (.bool true) => (h ρ).bind fun w => g' y w
    | some (.bool false) => some (.bool false)
    | _ => none
  | _, _ => none
@[simp] theorem fCh_ap (g g' : PyData → PyData → Option PyData) (fa fb fc : Rho → Option PyData) (ρ : Rho) : fCh g g' fa fb fc ρ = chO g g' fc ρ (fa ρ) (fb ρ) := by
  unfold fCh chO
  cases fa ρ with
  | none => rfl
  | some x =>
    cases fb ρ with
    | none => rfl
    | some y =>
      simp only [Option.bind_some]
      cases g x y with
      | none => rfl
      | some z => cases z with
        | bool b => cases b <;> rfl
        | _ => rfl
end Dn

namespace My
open PySem L2 Dn Gx
def top (i : Nat) : Stmt := PySem.Challenge.pw_soonsaid_k02_written_and_read.main.body.getD i (.Pass ⟨0, 0, 0, 0⟩)
structure Bl (mg : Str → Option Value) : Prop where
  all : mg "all" = none
  bool : mg "bool" = none
  enumerate : mg "enumerate" = none
  int : mg "int" = none
  isinstance : mg "isinstance" = none
  len : mg "len" = none
  range : mg "range" = none
  str : mg "str" = none
  tuple : mg "tuple" = none
  type : mg "type" = none
  zip : mg "zip" = none

section
variable [Tbs] {P : Program} {w : World} {K : PySem.W.Frag} {mg : Str → Option Value} {base : Heap}
abbrev sis_mark : Stmt := top 14
abbrev Nis_mark : List Str := ["thing"]
theorem scis_mark : FnScope Nis_mark ["thing"] (defScope sis_mark) := ⟨rfl, rfl, rfl, by decide +kernel, rfl, by decide +kernel, by decide +kernel⟩
def gis_mark : Rho → Option Out := (gRet (fAnd (f1 (tyEqD "str") (fV 0)) (fAnd (f2 (rb fun i j => decide (i ≤ j)) (fCl (one1 lenD) (fCons (fV 0) fNil)) (fC (.int 6))) (fAnyG false (fSeq (fV 0)) (b1 0) tYesD (f2 inP (fV 0) (fC (.str "abcdefghijklmnopqrstuvwxyz"))) [none]))))
theorem okis_mark {k : Nat} {c T : Addr} (hB : Bl mg) (hT : GxR.TabB base mg c T ∧ T ∈ Tbs.T) (D : DfG K mg "is_mark" sis_mark ["thing"] c)  (kMOST_LETTERS : Cn K mg "MOST_LETTERS" (.int 6)) (kLETTERS : Cn K mg "LETTERS" (.str "abcdefghijklmnopqrstuvwxyz")) : Kn P w K mg base (k + 2) 1 "is_mark" (fnD 1 (gis_mark )) := by
  refine kn_ofG (P := P) (w := w) (base := base) (N := Nis_mark) (ps := ["thing"]) (g := gis_mark ) D scis_mark fun f A outer s H E hr => ?_
  exact (psd_one (psd_ret (pd_and (pd_tyEq rfl hB.type (pd_v (pv 0)) (pe_bltn rfl hB.str (by decide +kernel) rfl) PySem.TypeEq.meta_str (nomark _)) (pd_and (pd_cmp op_le rd_rb (pd_bi call_lenD0 rc_len rfl hB.len (by decide +kernel) (pda_cons (pd_v (pv 0)) pda_nil)) (pd_gl kMOST_LETTERS) (nomark _)) (pd_one (pd_allG (N' := ["letter"]) (js := [none]) (own := [0]) gd_1 (by decide) (by decide) hr hT rfl (gscp_by (N := Nis_mark) (sc := defScope sis_mark) (by decide +kernel)) rfl hB.all (pdi_seq (pd_v (pv 0))) (fun _ _ _ _ _ _ _ hr => (pg_name (i := 0) (show (["letter"] : List Str).Nodup by decide +kernel) rfl (by first | exact Or.inl rfl | exact Or.inr rfl))) (fun _ _ _ _ _ _ _ hr => pdts_nil) (fun _ _ _ _ _ _ _ hr => (pd_cmp (op_inA (units65 hr)) rd_in (pd_v (pv 0)) (pd_gl kLETTERS) (by rfl)))))))))
abbrev sparts_of : Stmt := top 15
abbrev Nparts_of : List Str := ["statement", "part"]
theorem scparts_of : FnScope Nparts_of ["statement"] (defScope sparts_of) := ⟨rfl, rfl, rfl, by decide +kernel, rfl, by decide +kernel, by decide +kernel⟩
def gparts_of : Rho → Option Out := (gRet (fLc (fSeq (fSl (fV 0) (fO (fC (.int 1))) fO0)) (b1 1) (fB (f1 (isiD "tuple") (fV 1))) (fV 1) [1]))
theorem okparts_of {k : Nat} (hB : Bl mg) (D : Df K mg "parts_of" sparts_of ["statement"])  : Kn P w K mg base (k + 1) 1 "parts_of" (fnD 2 (gparts_of )) := by
  refine kn_of (P := P) (w := w) (base := base) (N := Nparts_of) (ps := ["statement"]) (g := gparts_of ) D scparts_of fun f cdv A outer s H E hr => ?_
  exact (psd_one (psd_ret (pd_lc gd_1 (by decide) rfl scparts_of.nd (pdi_seq (pd_sl (pd_v (pv 0)) (pdo_some pd_int) pdo_none)) (blkOk_by (N := Nparts_of) (sc := defScope sparts_of) (own := [("part", 1)]) (by decide +kernel)) (fun _ _ _ _ _ => (pg_name (i := 1) scparts_of.nd rfl (by first | exact Or.inl rfl | exact Or.inr rfl))) (fun _ _ _ _ _ => pdts_one (pdt_val (pd_isi rfl hB.isinstance (pd_v (pv 1)) (pe_bltn rfl hB.tuple (by decide +kernel) rfl)))) (fun _ _ _ _ _ => (pd_v (pv 1))))))
abbrev swritten : Stmt := top 17
abbrev Nwritten : List Str := ["statement", "word", "parts", "part"]
theorem scwritten : FnScope Nwritten ["statement"] (defScope swritten) := ⟨rfl, rfl, rfl, by decide +kernel, rfl, by decide +kernel, by decide +kernel⟩
def gwritten (Fparts_of : List PyData → Option PyData) (Fwritten : List PyData → Option PyData) : Rho → Option Out := (gSeq (gSet 1 (f2 ixD (fV 0) (fC (.int 0)))) (gSeq (gIf (fB (f2 eqP (fV 1) (fC (.str "mark")))) (gRet (f2 addD (f2 addD (fC (.str "'")) (f2 ixD (fV 0) (fC (.int 1)))) (fC (.str "'")))) gNx) (gSeq (gIf (fB (f2 eqP (fV 1) (fC (.str "yes")))) (gRet (fV 1)) gNx) (gSeq (gSet 2 (fLc (fSeq (fCa 1 Fparts_of (fCons (fV 0) fNil))) (b1 3) tYesD (fCa 1 Fwritten (fCons (fV 3) fNil)) [3])) (gSeq (gIf (fB (f2 eqP (fV 1) (fC (.str "within")))) (gSet 2 (f2 addD (fLst (fCons (fCl (one1 strD) (fCons (f2 ixD (fV 0) (fC (.int 1))) fNil)) fNil)) (fV 2))) gNx) (gRet (f2 addD (f2 addD (f2 addD (fV 1) (fC (.str "("))) (fMt joinD (fC (.str ", ")) (fCons (fV 2) fNil))) (fC (.str ")")))))))))
theorem okwritten {k : Nat} {Fparts_of : List PyData → Option PyData} {Fwritten : List PyData → Option PyData} (hB : Bl mg) (D : Df K mg "written" swritten ["statement"]) (cparts_of : Kn P w K mg base k 1 "parts_of" Fparts_of) (cwritten : Kn P w K mg base k 1 "written" Fwritten) : Kn P w K mg base (k + 1) 1 "written" (fnD 4 (gwritten Fparts_of Fwritten)) := by
  refine kn_of (P := P) (w := w) (base := base) (N := Nwritten) (ps := ["statement"]) (g := gwritten Fparts_of Fwritten) D scwritten fun f cdv A outer s H E hr => ?_
  exact (psd_cons (psd_asg (ps_set (i := 1) scwritten.nd rfl (by first | exact Or.inl rfl | exact Or.inr rfl) (pd_ix (pd_v (pv 0)) pd_int (fun _ _ => rfl)))) (psd_cons (psd_if (pdt_cmp (op_eqA hr.units) rd_eq (pd_v (pv 1)) pd_str (nomark _)) (psd_one (psd_ret (pd_op op_addD rd_add (pd_op op_addD rd_add pd_str (pd_ix (pd_v (pv 0)) pd_int (fun _ _ => rfl))) pd_str))) psd_nil) (psd_cons (psd_if (pdt_cmp (op_eqA hr.units) rd_eq (pd_v (pv 1)) pd_str (nomark _)) (psd_one (psd_ret (pd_v (pv 1)))) psd_nil) (psd_cons (psd_setLc (i := 2) gd_1 (by decide) rfl scwritten.nd rfl rfl (sw_true rfl rfl rfl (by decide +kernel)) (pdi_seq (pd_kn cparts_of hr (pda_cons (pd_v (pv 0)) pda_nil))) (blkOk_by (N := Nwritten) (sc := defScope swritten) (own := [("part", 3)]) (by decide +kernel)) (fun _ _ _ _ _ => (pg_name (i := 3) scwritten.nd rfl (by first | exact Or.inl rfl | exact Or.inr rfl))) (fun _ _ _ _ _ => pdts_nil) (fun _ _ _ _ _ => (pd_kn cwritten hr (pda_cons (pd_v (pv 3)) pda_nil)))) (psd_cons (psd_if (pdt_cmp (op_eqA hr.units) rd_eq (pd_v (pv 1)) pd_str (nomark _)) (psd_one (psd_asg (ps_set (i := 2) scwritten.nd rfl (by first | exact Or.inl rfl | exact Or.inr rfl) (pd_op op_addD rd_add (pd_lst (pda_cons (pd_ty call_str_int rc_str rfl hB.str (by decide +kernel) (pda_cons (pd_ix (pd_v (pv 0)) pd_int (fun _ _ => rfl)) pda_nil)) pda_nil)) (pd_v (pv 2)))))) psd_nil) (psd_one (psd_ret (pd_op op_addD rd_add (pd_op op_addD rd_add (pd_op op_addD rd_add (pd_v (pv 1)) pd_str) (pd_bm PySem.F.plainAttrs_str PySem.F.slot_str_join PySem.F.type_str_join mt_join rm_join ty_join pd_str (pda_cons (pd_v (pv 2)) pda_nil))) pd_str))))))))
abbrev sread : Stmt := top 18
abbrev Nread : List Str := ["text"]
theorem scread : FnScope Nread ["text"] (defScope sread) := ⟨rfl, rfl, rfl, by decide +kernel, rfl, by decide +kernel, by decide +kernel⟩
def gread (Fread_nested : List PyData → Option (Except Str PyData)) : Rho → Option (Except Str Out) := (gSeqX (gIfX (fB (f1 (tyNeD "str") (fV 0))) (gRaise "BadText") (gOk gNx)) (gRetX (fXc 2 Fread_nested (fCons (fV 0) (fCons (fC (.int 6)) fNil)))))
theorem okread {k : Nat} {Fread_nested : List PyData → Option (Except Str PyData)} (hB : Bl mg) (D : Df K mg "read" sread ["text"]) (cread_nested : KnX P w K mg base k 2 "_read_nested" Fread_nested) (kMOST_NESTED : Cn K mg "MOST_NESTED" (.int 6)) (XBadText : ExF K mg "BadText" [.type "ValueError", .type "Exception", .type "BaseException", .type "object"]) : KnX P w K mg base (k + 1) 1 "read" (fnX 1 (gread Fread_nested)) := by
  refine knX_of (P := P) (w := w) (base := base) (N := Nread) (ps := ["text"]) (g := gread Fread_nested) D scread fun f cdv A outer s H E hr => ?_
  exact (psx_cons (psx_if (pdt_tyNe rfl hB.type (pd_v (pv 0)) (pe_bltn rfl hB.str (by decide +kernel) rfl) PySem.TypeEq.meta_str (nomark _)) (psx_one (psx_raise rfl (takes_of rfl rfl rfl rfl) XBadText rfl)) psx_nil) (psx_one (psx_ret (px_kn cread_nested hr (takes_of rfl rfl rfl rfl) (pda_cons (pd_v (pv 0)) (pda_cons (pd_gl kMOST_NESTED) pda_nil))))))
abbrev sread_nested : Stmt := top 19
abbrev Nread_nested : List Str := ["text", "most", "word", "_", "rest", "inner", "figure", "part", "first", "second"]
theorem scread_nested : FnScope Nread_nested ["text", "most"] (defScope sread_nested) := ⟨rfl, rfl, rfl, by decide +kernel, rfl, by decide +kernel, by decide +kernel⟩
def gread_nested (Fread_mark : List PyData → Option (Except Str PyData)) (Fread_nested : List PyData → Option (Except Str PyData)) (Fread_figure : List PyData → Option (Except Str PyData)) (Fparted : List PyData → Option (Except Str PyData)) : Rho → Option (Except Str Out) := (gSeqX (gIfX (fB (f2 eqP (fV 1) (fC (.int 0)))) (gRaise "BadText") (gOk gNx)) (gSeqX (gOk (gIf (fB (f2 eqP (fV 0) (fC (.str "yes")))) (gRet (fTup (fCons (fC (.str "yes")) fNil))) gNx)) (gSeqX (gIfX (fB (fMt startsD (fV 0) (fCons (fC (.str "'")) fNil))) (gRetX (fXTup (fXCons (fOk (fC (.str "mark"))) (fXCons (fXc 1 Fread_mark (fCons (fV 0) fNil)) fXNil)))) (gOk gNx)) (gSeqX (gOk (gAsg (b3 2 3 4) (fMt partD (fV 0) (fCons (fC (.str "(")) fNil)))) (gSeqX (gIfX (fNotT (fB (fMt endsD (fV 4) (fCons (fC (.str ")")) fNil)))) (gRaise "BadText") (gOk gNx)) (gSeqX (gOk (gSet 5 (fSl (fV 4) fO0 (fO (f1 negD (fC (.int 1))))))) (gSeqX (gIfX (fB (f2 eqP (fV 2) (fC (.str "within")))) (gSeqX (gOk (gAsg (b3 6 3 7) (fMt partD (fV 5) (fCons (fC (.str ", ")) fNil)))) (gRetX (fXTup (fXCons (fOk (fV 2)) (fXCons (fXc 1 Fread_figure (fCons (fV 6) fNil)) (fXCons (fXc 2 Fread_nested (fCons (fV 7) (fCons (f2 (ri fun i j => i - j) (fV 1) (fC (.int 1))) fNil))) fXNil)))))) (gOk gNx)) (gSeqX (gIfX (fOrT (fB (f1 (niCD [("yes", (.int 0)), ("not", (.int 1)), ("and", (.int 2)), ("or", (.int 2)), ("next", (.int 1)), ("until", (.int 2)), ("before", (.int 1)), ("since", (.int 2))]) (fV 2))) (fB (f2 eqP (f1 (ixCD [("yes", (.int 0)), ("not", (.int 1)), ("and", (.int 2)), ("or", (.int 2)), ("next", (.int 1)), ("until", (.int 2)), ("before", (.int 1)), ("since", (.int 2))]) (fV 2)) (fC (.int 0))))) (gRaise "BadText") (gOk gNx)) (gSeqX (gIfX (fB (f2 eqP (f1 (ixCD [("yes", (.int 0)), ("not", (.int 1)), ("and", (.int 2)), ("or", (.int 2)), ("next", (.int 1)), ("until", (.int 2)), ("before", (.int 1)), ("since", (.int 2))]) (fV 2)) (fC (.int 1)))) (gRetX (fXTup (fXCons (fOk (fV 2)) (fXCons (fXc 2 Fread_nested (fCons (fV 5) (fCons (f2 (ri fun i j => i - j) (fV 1) (fC (.int 1))) fNil))) fXNil)))) (gOk gNx)) (gSeqX (gAsgX (b2 8 9) (fXc 1 Fparted (fCons (fV 5) fNil))) (gRetX (fXTup (fXCons (fOk (fV 2)) (fXCons (fXc 2 Fread_nested (fCons (fV 8) (fCons (f2 (ri fun i j => i - j) (fV 1) (fC (.int 1))) fNil))) (fXCons (fXc 2 Fread_nested (fCons (fV 9) (fCons (f2 (ri fun i j => i - j) (fV 1) (fC (.int 1))) fNil))) fXNil)))))))))))))))
theorem okread_nested {k : Nat} {Fread_mark : List PyData → Option (Except Str PyData)} {Fread_nested : List PyData → Option (Except Str PyData)} {Fread_figure : List PyData → Option (Except Str PyData)} {Fparted : List PyData → Option (Except Str PyData)} (hB : Bl mg) (D : Df K mg "_read_nested" sread_nested ["text", "most"]) (cread_mark : KnX P w K mg base k 1 "_read_mark" Fread_mark) (cread_nested : KnX P w K mg base k 2 "_read_nested" Fread_nested) (cread_figure : KnX P w K mg base k 1 "_read_figure" Fread_figure) (cparted : KnX P w K mg base k 1 "_parted" Fparted) (kPARTS : Cd K w mg "PARTS" [("yes", (.int 0)), ("not", (.int 1)), ("and", (.int 2)), ("or", (.int 2)), ("next", (.int 1)), ("until", (.int 2)), ("before", (.int 1)), ("since", (.int 2))]) (XBadText : ExF K mg "BadText" [.type "ValueError", .type "Exception", .type "BaseException", .type "object"]) : KnX P w K mg base (k + 1) 2 "_read_nested" (fnX 10 (gread_nested Fread_mark Fread_nested Fread_figure Fparted)) := by
  refine knX_of (P := P) (w := w) (base := base) (N := Nread_nested) (ps := ["text", "most"]) (g := gread_nested Fread_mark Fread_nested Fread_figure Fparted) D scread_nested fun f cdv A outer s H E hr => ?_
  exact (psx_cons (psx_if (pdt_cmp (op_eqA hr.units) rd_eq (pd_v (pv 1)) pd_int (nomark _)) (psx_one (psx_raise rfl (takes_of rfl rfl rfl rfl) XBadText rfl)) psx_nil) (psx_cons (psx_of (psd_if (pdt_cmp (op_eqA hr.units) rd_eq (pd_v (pv 0)) pd_str (nomark _)) (psd_one (psd_ret (pd_tup (pda_cons pd_str pda_nil)))) psd_nil)) (psx_cons (psx_if (pdt_val (pd_bm PySem.F.plainAttrs_str PySem.F.slot_str_startswith PySem.F.type_str_startswith mt_startswith rm_starts ty_starts (pd_v (pv 0)) (pda_cons pd_str pda_nil))) (psx_one (psx_ret (px_tup (pxa_cons (px_of pd_str) (pxa_cons (px_kn cread_mark hr (takes_of rfl rfl rfl rfl) (pda_cons (pd_v (pv 0)) pda_nil)) pxa_nil))))) psx_nil) (psx_cons (psx_of (psd_asgG gd_3 (ps_asg (pd_bm PySem.F.plainAttrs_str PySem.F.slot_str_partition PySem.F.type_str_partition mt_partition rm_part ty_part (pd_v (pv 0)) (pda_cons pd_str pda_nil)) (pg_tup rfl (pgs_cons (pg_name (i := 2) scread_nested.nd rfl (by first | exact Or.inl rfl | exact Or.inr rfl)) (pgs_cons (pg_name (i := 3) scread_nested.nd rfl (by first | exact Or.inl rfl | exact Or.inr rfl)) (pgs_cons (pg_name (i := 4) scread_nested.nd rfl (by first | exact Or.inl rfl | exact Or.inr rfl)) pgs_nil))))))) (psx_cons (psx_if (pdt_not (pdt_val (pd_bm PySem.F.plainAttrs_str PySem.F.slot_str_endswith PySem.F.type_str_endswith mt_endswith rm_ends ty_ends (pd_v (pv 4)) (pda_cons pd_str pda_nil)))) (psx_one (psx_raise rfl (takes_of rfl rfl rfl rfl) XBadText rfl)) psx_nil) (psx_cons (psx_of (psd_asg (ps_set (i := 5) scread_nested.nd rfl (by first | exact Or.inl rfl | exact Or.inr rfl) (pd_sl (pd_v (pv 4)) pdo_none (pdo_some (pd_neg pd_int)))))) (psx_cons (psx_if (pdt_cmp (op_eqA hr.units) rd_eq (pd_v (pv 2)) pd_str (nomark _)) (psx_cons (psx_of (psd_asgG gd_3 (ps_asg (pd_bm PySem.F.plainAttrs_str PySem.F.slot_str_partition PySem.F.type_str_partition mt_partition rm_part ty_part (pd_v (pv 5)) (pda_cons pd_str pda_nil)) (pg_tup rfl (pgs_cons (pg_name (i := 6) scread_nested.nd rfl (by first | exact Or.inl rfl | exact Or.inr rfl)) (pgs_cons (pg_name (i := 3) scread_nested.nd rfl (by first | exact Or.inl rfl | exact Or.inr rfl)) (pgs_cons (pg_name (i := 7) scread_nested.nd rfl (by first | exact Or.inl rfl | exact Or.inr rfl)) pgs_nil))))))) (psx_one (psx_ret (px_tup (pxa_cons (px_of (pd_v (pv 2))) (pxa_cons (px_kn cread_figure hr (takes_of rfl rfl rfl rfl) (pda_cons (pd_v (pv 6)) pda_nil)) (pxa_cons (px_kn cread_nested hr (takes_of rfl rfl rfl rfl) (pda_cons (pd_v (pv 7)) (pda_cons (pd_op op_sub rd_sub (pd_v (pv 1)) pd_int) pda_nil))) pxa_nil))))))) psx_nil) (psx_cons (psx_if (pdt_w (pdw_or (pdt_niC kPARTS (pd_v (pv 2))) (pdw_or1 (pdt_cmp (op_eqA hr.units) rd_eq (pd_ixC kPARTS (pd_v (pv 2)) (fun _ _ => rfl)) pd_int (nomark _))))) (psx_one (psx_raise rfl (takes_of rfl rfl rfl rfl) XBadText rfl)) psx_nil) (psx_cons (psx_if (pdt_cmp (op_eqA hr.units) rd_eq (pd_ixC kPARTS (pd_v (pv 2)) (fun _ _ => rfl)) pd_int (nomark _)) (psx_one (psx_ret (px_tup (pxa_cons (px_of (pd_v (pv 2))) (pxa_cons (px_kn cread_nested hr (takes_of rfl rfl rfl rfl) (pda_cons (pd_v (pv 5)) (pda_cons (pd_op op_sub rd_sub (pd_v (pv 1)) pd_int) pda_nil))) pxa_nil))))) psx_nil) (psx_cons (psx_asgG gd_2 (ps_asg (px_kn cparted hr (takes_of rfl rfl rfl rfl) (pda_cons (pd_v (pv 5)) pda_nil)) (pg_tup rfl (pgs_cons (pg_name (i := 8) scread_nested.nd rfl (by first | exact Or.inl rfl | exact Or.inr rfl)) (pgs_cons (pg_name (i := 9) scread_nested.nd rfl (by first | exact Or.inl rfl | exact Or.inr rfl)) pgs_nil))))) (psx_one (psx_ret (px_tup (pxa_cons (px_of (pd_v (pv 2))) (pxa_cons (px_kn cread_nested hr (takes_of rfl rfl rfl rfl) (pda_cons (pd_v (pv 8)) (pda_cons (pd_op op_sub rd_sub (pd_v (pv 1)) pd_int) pda_nil))) (pxa_cons (px_kn cread_nested hr (takes_of rfl rfl rfl rfl) (pda_cons (pd_v (pv 9)) (pda_cons (pd_op op_sub rd_sub (pd_v (pv 1)) pd_int) pda_nil))) pxa_nil))))))))))))))))
abbrev sread_mark : Stmt := top 20
abbrev Nread_mark : List Str := ["text", "mark"]
theorem scread_mark : FnScope Nread_mark ["text"] (defScope sread_mark) := ⟨rfl, rfl, rfl, by decide +kernel, rfl, by decide +kernel, by decide +kernel⟩
def gread_mark (Fis_mark : List PyData → Option PyData) : Rho → Option (Except Str Out) := (gSeqX (gOk (gSet 1 (fSl (fV 0) (fO (fC (.int 1))) (fO (f1 negD (fC (.int 1))))))) (gSeqX (gIfX (fOrT (fB (f2 neP (fV 0) (f2 addD (f2 addD (fC (.str "'")) (fV 1)) (fC (.str "'"))))) (fOrT (fB (f2 eqP (fV 1) (fC (.str "")))) (fNotT (fB (fCa 1 Fis_mark (fCons (fV 1) fNil)))))) (gRaise "BadText") (gOk gNx)) (gOk (gRet (fV 1)))))
theorem okread_mark {k : Nat} {Fis_mark : List PyData → Option PyData} (hB : Bl mg) (D : Df K mg "_read_mark" sread_mark ["text"]) (cis_mark : Kn P w K mg base k 1 "is_mark" Fis_mark) (XBadText : ExF K mg "BadText" [.type "ValueError", .type "Exception", .type "BaseException", .type "object"]) : KnX P w K mg base (k + 1) 1 "_read_mark" (fnX 2 (gread_mark Fis_mark)) := by
  refine knX_of (P := P) (w := w) (base := base) (N := Nread_mark) (ps := ["text"]) (g := gread_mark Fis_mark) D scread_mark fun f cdv A outer s H E hr => ?_
  exact (psx_cons (psx_of (psd_asg (ps_set (i := 1) scread_mark.nd rfl (by first | exact Or.inl rfl | exact Or.inr rfl) (pd_sl (pd_v (pv 0)) (pdo_some pd_int) (pdo_some (pd_neg pd_int)))))) (psx_cons (psx_if (pdt_w (pdw_or (pdt_cmp (op_neA hr.units) rd_ne (pd_v (pv 0)) (pd_op op_addD rd_add (pd_op op_addD rd_add pd_str (pd_v (pv 1))) pd_str) (nomark _)) (pdw_or (pdt_cmp (op_eqA hr.units) rd_eq (pd_v (pv 1)) pd_str (nomark _)) (pdw_or1 (pdt_not (pdt_val (pd_kn cis_mark hr (pda_cons (pd_v (pv 1)) pda_nil)))))))) (psx_one (psx_raise rfl (takes_of rfl rfl rfl rfl) XBadText rfl)) psx_nil) (psx_one (psx_of (psd_ret (pd_v (pv 1)))))))
abbrev sread_figure : Stmt := top 21
abbrev Nread_figure : List Str := ["text", "figures", "number"]
theorem scread_figure : FnScope Nread_figure ["text"] (defScope sread_figure) := ⟨rfl, rfl, rfl, by decide +kernel, rfl, by decide +kernel, by decide +kernel⟩
def gread_figure : Rho → Option (Except Str Out) := (gSeqX (gOk (gSet 1 (fLc (fR1 (f2 addD (fC (.int 4)) (fC (.int 1)))) (b1 2) tYesD (fCl (one1 strD) (fCons (fV 2) fNil)) [2]))) (gSeqX (gIfX (fB (f2 niP (fV 0) (fV 1))) (gRaise "BadText") (gOk gNx)) (gOk (gRet (fMt indexD (fV 1) (fCons (fV 0) fNil))))))
theorem okread_figure {k : Nat} (hB : Bl mg) (D : Df K mg "_read_figure" sread_figure ["text"])  (kMOST_LATER : Cn K mg "MOST_LATER" (.int 4)) (XBadText : ExF K mg "BadText" [.type "ValueError", .type "Exception", .type "BaseException", .type "object"]) : KnX P w K mg base (k + 1) 1 "_read_figure" (fnX 3 (gread_figure )) := by
  refine knX_of (P := P) (w := w) (base := base) (N := Nread_figure) (ps := ["text"]) (g := gread_figure ) D scread_figure fun f cdv A outer s H E hr => ?_
  exact (psx_cons (psx_of (psd_setLc (i := 1) gd_1 (by decide) rfl scread_figure.nd rfl rfl (sw_true rfl rfl rfl (by decide +kernel)) (pdi_range1 rfl hB.range (pd_op op_addD rd_add (pd_gl kMOST_LATER) pd_int)) (blkOk_by (N := Nread_figure) (sc := defScope sread_figure) (own := [("number", 2)]) (by decide +kernel)) (fun _ _ _ _ _ => (pg_name (i := 2) scread_figure.nd rfl (by first | exact Or.inl rfl | exact Or.inr rfl))) (fun _ _ _ _ _ => pdts_nil) (fun _ _ _ _ _ => (pd_ty call_str_int rc_str rfl hB.str (by decide +kernel) (pda_cons (pd_v (pv 2)) pda_nil))))) (psx_cons (psx_if (pdt_cmp (op_niA (units65 hr)) rd_ni (pd_v (pv 0)) (pd_v (pv 1)) (by rfl)) (psx_one (psx_raise rfl (takes_of rfl rfl rfl rfl) XBadText rfl)) psx_nil) (psx_one (psx_of (psd_ret (pd_bm PySem.F.plainAttrs_list PySem.F.slot_list_index PySem.F.type_list_index (mt_indexD (units65 hr)) rm_index ty_index (pd_v (pv 1)) (pda_cons (pd_v (pv 0)) pda_nil)))))))
abbrev sparted : Stmt := top 22
abbrev Nparted : List Str := ["text", "depth", "at", "sign"]
theorem scparted : FnScope Nparted ["text"] (defScope sparted) := ⟨rfl, rfl, rfl, by decide +kernel, rfl, by decide +kernel, by decide +kernel⟩
def gparted : Rho → Option (Except Str Out) := (gSeqX (gOk (gSet 1 (fC (.int 0)))) (gSeqX (gOk (gFor (fEnS (fV 0)) (b2 2 3) (gIf (fB (f2 eqP (fV 3) (fC (.str "(")))) (gAug 1 (fun i j => i + j) (fC (.int 1))) (gIf (fB (f2 eqP (fV 3) (fC (.str ")")))) (gAug 1 (fun i j => i - j) (fC (.int 1))) (gIf (fAndT (fB (f2 eqP (fV 1) (fC (.int 0)))) (fB (f2 eqP (fSl (fV 0) (fO (fV 2)) (fO (f2 addD (fV 2) (fC (.int 2))))) (fC (.str ", "))))) (gRet (fTup (fCons (fSl (fV 0) fO0 (fO (fV 2))) (fCons (fSl (fV 0) (fO (f2 addD (fV 2) (fC (.int 2)))) fO0) fNil)))) gNx))))) (gRaise "BadText")))
theorem okparted {k : Nat} (hB : Bl mg) (D : Df K mg "_parted" sparted ["text"])  (XBadText : ExF K mg "BadText" [.type "ValueError", .type "Exception", .type "BaseException", .type "object"]) : KnX P w K mg base (k + 1) 1 "_parted" (fnX 4 (gparted )) := by
  refine knX_of (P := P) (w := w) (base := base) (N := Nparted) (ps := ["text"]) (g := gparted ) D scparted fun f cdv A outer s H E hr => ?_
  exact (psx_cons (psx_of (psd_asg (ps_set (i := 1) scparted.nd rfl (by first | exact Or.inl rfl | exact Or.inr rfl) pd_int))) (psx_cons (psx_nox (psd_for gd_2 PassesOwn.never rfl (pdi_enumS (by rfl) hB.enumerate (pd_v (pv 0))) (pg_tup rfl (pgs_cons (pg_name (i := 2) scparted.nd rfl (by first | exact Or.inl rfl | exact Or.inr rfl)) (pgs_cons (pg_name (i := 3) scparted.nd rfl (by first | exact Or.inl rfl | exact Or.inr rfl)) pgs_nil))) (psd_one (psd_if (pdt_cmp (op_eqA hr.units) rd_eq (pd_v (pv 3)) pd_str (nomark _)) (psd_one (psd_aug (ps_aug scparted.nd rfl (by first | exact Or.inl rfl | exact Or.inr rfl) pd_int ip_add))) (psd_one (psd_if (pdt_cmp (op_eqA hr.units) rd_eq (pd_v (pv 3)) pd_str (nomark _)) (psd_one (psd_aug (ps_aug scparted.nd rfl (by first | exact Or.inl rfl | exact Or.inr rfl) pd_int ip_sub))) (psd_one (psd_if (pdt_w (pdw_and (pdt_cmp (op_eqA hr.units) rd_eq (pd_v (pv 1)) pd_int (nomark _)) (pdw_and1 (pdt_cmp (op_eqA hr.units) rd_eq (pd_sl (pd_v (pv 0)) (pdo_some (pd_v (pv 2))) (pdo_some (pd_op op_addD rd_add (pd_v (pv 2)) pd_int))) pd_str (nomark _))))) (psd_one (psd_ret (pd_tup (pda_cons (pd_sl (pd_v (pv 0)) pdo_none (pdo_some (pd_v (pv 2)))) (pda_cons (pd_sl (pd_v (pv 0)) (pdo_some (pd_op op_addD rd_add (pd_v (pv 2)) pd_int)) pdo_none) pda_nil))))) psd_nil)))))))) (psx_one (psx_raise rfl (takes_of rfl rfl rfl rfl) XBadText rfl))))
abbrev sL_cell_at : Stmt := top 24
abbrev NL_cell_at : List Str := ["_law_script", "_law_k"]
theorem scL_cell_at : FnScope NL_cell_at ["_law_script", "_law_k"] (defScope sL_cell_at) := ⟨rfl, rfl, rfl, by decide +kernel, rfl, by decide +kernel, by decide +kernel⟩
def gL_cell_at : Rho → Option Out := (gSeq (gIf (fB (f2 (rb fun i j => decide (i < j)) (fV 1) (fCl (one1 lenD) (fCons (fV 0) fNil)))) (gRet (f2 ixD (fV 0) (fV 1))) gNx) (gRet (fC (.int 0))))
theorem okL_cell_at {k : Nat} (hB : Bl mg) (D : Df K mg "_law_cell_at" sL_cell_at ["_law_script", "_law_k"])  : Kn P w K mg base (k + 1) 2 "_law_cell_at" (fnD 2 (gL_cell_at )) := by
  refine kn_of (P := P) (w := w) (base := base) (N := NL_cell_at) (ps := ["_law_script", "_law_k"]) (g := gL_cell_at ) D scL_cell_at fun f cdv A outer s H E hr => ?_
  exact (psd_cons (psd_if (pdt_cmp op_lt rd_rb (pd_v (pv 1)) (pd_bi call_lenD0 rc_len rfl hB.len (by decide +kernel) (pda_cons (pd_v (pv 0)) pda_nil)) (nomark _)) (psd_one (psd_ret (pd_ix (pd_v (pv 0)) (pd_v (pv 1)) (fun _ _ => rfl)))) psd_nil) (psd_one (psd_ret pd_int)))
abbrev sL_draw : Stmt := top 25
abbrev NL_draw : List Str := ["_law_script", "_law_spot", "_law_k"]
theorem scL_draw : FnScope NL_draw ["_law_script", "_law_spot"] (defScope sL_draw) := ⟨rfl, rfl, rfl, by decide +kernel, rfl, by decide +kernel, by decide +kernel⟩
def gL_draw : Rho → Option Out := (gSeq (gSeti 1 (f2 addD (fIxO 1 (fC (.int 0))) (fC (.int 1))) (fC (.int 0))) (gSeq (gSet 2 (f2 (ri fun i j => i - j) (fIxO 1 (fC (.int 0))) (fC (.int 1)))) (gSeq (gIf (fB (f2 (rb fun i j => decide (i < j)) (fV 2) (fCl (one1 lenD) (fCons (fV 0) fNil)))) (gRet (f2 ixD (fV 0) (fV 2))) gNx) (gSeq (gIf (fAndT (fB (f2 (rb fun i j => decide (j < i)) (fCl (one1 lenD) (fCons (fV 0) fNil)) (fC (.int 4)))) (fB (f2 (rb fun i j => decide (i < j)) (fV 2) (fC (.int 40))))) (gRet (f2 modD (f2 mulD (f2 addD (f2 ixD (fV 0) (f2 modD (fV 2) (fCl (one1 lenD) (fCons (fV 0) fNil)))) (f2 mulD (fC (.int 7919)) (fV 2))) (fC (.int 48271))) (fC (.int 1000003)))) gNx) (gRet (fC (.int 0)))))))
theorem okL_draw {k : Nat} {R : List PyData → List PyData → Option (PyData × List PyData)} (hB : Bl mg) (D : Df K mg "_law_draw" sL_draw ["_law_script", "_law_spot"]) (hF : ∀ a ds xs r, ds.length + 1 = 2 → R ds xs = some r → retC a ((gL_draw ) (startC 3 a ds xs)) = some r)  : KnC P w K mg base (k + 1) 2 "_law_draw" R := by
  refine knC_of (P := P) (w := w) (base := base) (N := NL_draw) (ps := ["_law_script", "_law_spot"]) (g := gL_draw ) D scL_draw hF fun f cdv A outer s H E hr => ?_
  exact (psd_cons (psd_seti (ps_asg (pd_op op_addD rd_add (pd_ixO (pv 1) pd_int (fun _ _ => rfl)) pd_int) (pg_sub (pv 1) pd_int set_list))) (psd_cons (psd_asg (ps_set (i := 2) scL_draw.nd rfl (by first | exact Or.inl rfl | exact Or.inr rfl) (pd_op op_sub rd_sub (pd_ixO (pv 1) pd_int (fun _ _ => rfl)) pd_int))) (psd_cons (psd_if (pdt_cmp op_lt rd_rb (pd_v (pv 2)) (pd_bi call_lenD0 rc_len rfl hB.len (by decide +kernel) (pda_cons (pd_v (pv 0)) pda_nil)) (nomark _)) (psd_one (psd_ret (pd_ix (pd_v (pv 0)) (pd_v (pv 2)) (fun _ _ => rfl)))) psd_nil) (psd_cons (psd_if (pdt_w (pdw_and (pdt_cmp op_gt rd_rb (pd_bi call_lenD0 rc_len rfl hB.len (by decide +kernel) (pda_cons (pd_v (pv 0)) pda_nil)) pd_int (nomark _)) (pdw_and1 (pdt_cmp op_lt rd_rb (pd_v (pv 2)) pd_int (nomark _))))) (psd_one (psd_ret (pd_op op_mod rd_mod (pd_op op_mulD rd_mul (pd_op op_addD rd_add (pd_ix (pd_v (pv 0)) (pd_op op_mod rd_mod (pd_v (pv 2)) (pd_bi call_lenD0 rc_len rfl hB.len (by decide +kernel) (pda_cons (pd_v (pv 0)) pda_nil))) (fun _ _ => rfl)) (pd_op op_mulD rd_mul pd_int (pd_v (pv 2)))) pd_int) pd_int))) psd_nil) (psd_one (psd_ret pd_int))))))
abbrev sL_names : Stmt := top 26
abbrev NL_names : List Str := ["_law_cell", "_law_letters", "_law_rest", "_law_j", "_law_size", "_law_k", "_law_at_here", "_law_found", "_law_letter"]
theorem scL_names : FnScope NL_names ["_law_cell"] (defScope sL_names) := ⟨rfl, rfl, rfl, by decide +kernel, rfl, by decide +kernel, by decide +kernel⟩
def gL_names : Rho → Option Out := (gSeq (gSet 1 (fC (.str "abcdefghijklmnopqrstuvwxyz"))) (gSeq (gSet 2 (fMt joinD (fC (.str "")) (fCons (fLc (fR1 (fC (.int 6))) (b1 3) tYesD (f2 ixD (fV 1) (f2 modD (f2 addD (f2 fdivD (fV 0) (fC (.int 7))) (f2 mulD (fC (.int 5)) (fV 3))) (fC (.int 26)))) [3]) fNil))) (gSeq (gIf (fB (f2 eqP (f2 modD (fV 0) (fC (.int 3))) (fC (.int 2)))) (gSeq (gSet 4 (f2 addD (fC (.int 1)) (f2 modD (f2 fdivD (fV 0) (fC (.int 3))) (fC (.int 4))))) (gRet (fLc (fR1 (fC (.int 3))) (b1 5) tYesD (fSl (fV 2) fO0 (fO (f2 addD (fV 4) (fV 5)))) [5]))) gNx) (gSeq (gSet 4 (f2 modD (f2 fdivD (fV 0) (fC (.int 3))) (fC (.int 6)))) (gSeq (gSet 6 (f2 modD (f2 fdivD (fV 0) (fC (.int 18))) (f2 addD (fV 4) (fC (.int 1))))) (gSeq (gOwn 7 fNil) (gSeq (gFor (fR1 (fC (.int 3))) (b1 5) (gSeq (gSet 8 (f2 ixD (fV 1) (f2 modD (f2 addD (f2 fdivD (fV 0) (fC (.int 90))) (f2 mulD (fC (.int 7)) (fV 5))) (fC (.int 26))))) (gApp 7 (f2 addD (f2 addD (fSl (fV 2) fO0 (fO (fV 6))) (fV 8)) (fSl (fV 2) (fO (fV 6)) (fO (fV 4))))))) (fun ρ => (gRet (fV 7)) (frz 7 ρ)))))))))
theorem okL_names {k : Nat} (hB : Bl mg) (D : Df K mg "_law_names" sL_names ["_law_cell"])  : Kn P w K mg base (k + 1) 1 "_law_names" (fnD 9 (gL_names )) := by
  refine kn_of (P := P) (w := w) (base := base) (N := NL_names) (ps := ["_law_cell"]) (g := gL_names ) D scL_names fun f cdv A outer s H E hr => ?_
  exact (psd_cons (psd_asg (ps_set (i := 1) scL_names.nd rfl (by first | exact Or.inl rfl | exact Or.inr rfl) pd_str)) (psd_cons (psd_asg (ps_set (i := 2) scL_names.nd rfl (by first | exact Or.inl rfl | exact Or.inr rfl) (pd_bm PySem.F.plainAttrs_str PySem.F.slot_str_join PySem.F.type_str_join mt_join rm_join ty_join pd_str (pda_cons (pd_lc gd_1 (by decide) rfl scL_names.nd (pdi_range1 rfl hB.range pd_int) (blkOk_by (N := NL_names) (sc := defScope sL_names) (own := [("_law_j", 3)]) (by decide +kernel)) (fun _ _ _ _ _ => (pg_name (i := 3) scL_names.nd rfl (by first | exact Or.inl rfl | exact Or.inr rfl))) (fun _ _ _ _ _ => pdts_nil) (fun _ _ _ _ _ => (pd_ix (pd_v (pv 1)) (pd_op op_mod rd_mod (pd_op op_addD rd_add (pd_op op_fdiv rd_fdiv (pd_v (pv 0)) pd_int) (pd_op op_mulD rd_mul pd_int (pd_v (pv 3)))) pd_int) (fun _ _ => rfl)))) pda_nil)))) (psd_cons (psd_if (pdt_cmp (op_eqA hr.units) rd_eq (pd_op op_mod rd_mod (pd_v (pv 0)) pd_int) pd_int (nomark _)) (psd_cons (psd_asg (ps_set (i := 4) scL_names.nd rfl (by first | exact Or.inl rfl | exact Or.inr rfl) (pd_op op_addD rd_add pd_int (pd_op op_mod rd_mod (pd_op op_fdiv rd_fdiv (pd_v (pv 0)) pd_int) pd_int)))) (psd_one (psd_ret (pd_lc gd_1 (by decide) rfl scL_names.nd (pdi_range1 rfl hB.range pd_int) (blkOk_by (N := NL_names) (sc := defScope sL_names) (own := [("_law_k", 5)]) (by decide +kernel)) (fun _ _ _ _ _ => (pg_name (i := 5) scL_names.nd rfl (by first | exact Or.inl rfl | exact Or.inr rfl))) (fun _ _ _ _ _ => pdts_nil) (fun _ _ _ _ _ => (pd_sl (pd_v (pv 2)) pdo_none (pdo_some (pd_op op_addD rd_add (pd_v (pv 4)) (pd_v (pv 5)))))))))) psd_nil) (psd_cons (psd_asg (ps_set (i := 4) scL_names.nd rfl (by first | exact Or.inl rfl | exact Or.inr rfl) (pd_op op_mod rd_mod (pd_op op_fdiv rd_fdiv (pd_v (pv 0)) pd_int) pd_int))) (psd_cons (psd_asg (ps_set (i := 6) scL_names.nd rfl (by first | exact Or.inl rfl | exact Or.inr rfl) (pd_op op_mod rd_mod (pd_op op_fdiv rd_fdiv (pd_v (pv 0)) pd_int) (pd_op op_addD rd_add (pd_v (pv 4)) pd_int)))) (psd_cons (psd_own (ps_set (i := 7) scL_names.nd rfl (by first | exact Or.inl rfl | exact Or.inr rfl) (pe_lst pda_nil))) (psd_cons (psd_for gd_1 PassesOwn.never rfl (pdi_range1 rfl hB.range pd_int) (pg_name (i := 5) scL_names.nd rfl (by first | exact Or.inl rfl | exact Or.inr rfl)) (psd_cons (psd_asg (ps_set (i := 8) scL_names.nd rfl (by first | exact Or.inl rfl | exact Or.inr rfl) (pd_ix (pd_v (pv 1)) (pd_op op_mod rd_mod (pd_op op_addD rd_add (pd_op op_fdiv rd_fdiv (pd_v (pv 0)) pd_int) (pd_op op_mulD rd_mul pd_int (pd_v (pv 5)))) pd_int) (fun _ _ => rfl)))) (psd_one (psd_app (ps_expr (pe_bm PySem.F.plainAttrs_list PySem.F.slot_list_append PySem.F.type_list_append mt_append (pv 7) (pa_cons (pd_op op_addD rd_add (pd_op op_addD rd_add (pd_sl (pd_v (pv 2)) pdo_none (pdo_some (pd_v (pv 6)))) (pd_v (pv 8))) (pd_sl (pd_v (pv 2)) (pdo_some (pd_v (pv 6))) (pdo_some (pd_v (pv 4))))) pa_nil))))))) (psd_one (psd_frz 7 (psd_ret (pd_v (pv 7))))))))))))
abbrev sL_made : Stmt := top 27
abbrev NL_made : List Str := ["_law_script", "_law_spot", "_law_names_here", "_law_deep", "_law_ahead", "_law_cell", "_law_more", "_law_kinds", "_law_kind", "_law_one"]
theorem scL_made : FnScope NL_made ["_law_script", "_law_spot", "_law_names_here", "_law_deep", "_law_ahead"] (defScope sL_made) := ⟨rfl, rfl, rfl, by decide +kernel, rfl, by decide +kernel, by decide +kernel⟩
def gL_made (FL_draw : List PyData → List PyData → Option (PyData × List PyData)) (FL_made : List PyData → List PyData → Option (PyData × List PyData)) : Rho → Option Out := (gSeq (gSetE 5 (fCaC 2 FL_draw 1 (fV 0) fNil)) (gSeq (gSet 6 (f2 fdivD (fV 5) (fC (.int 14)))) (gSeq (gIf (fOrT (fB (f2 (rb fun i j => decide (i < j)) (fV 3) (fC (.int 2)))) (fB (f2 (rb fun i j => decide (i < j)) (f2 modD (fV 5) (fC (.int 14))) (fC (.int 2))))) (gSeq (gIf (fB (f2 eqP (f2 modD (fV 6) (fC (.int 9))) (fC (.int 4)))) (gRet (fTup (fCons (fC (.str "yes")) fNil))) gNx) (gRet (fTup (fCons (fC (.str "mark")) (fCons (f2 ixD (fV 2) (f2 modD (fV 6) (fC (.int 3)))) fNil))))) gNx) (gSeq (gSet 7 (fC (.str "not and or before since not and before since or since before"))) (gSeq (gIf (fB (fV 4)) (gSet 7 (fC (.str "not and or next until within until next since before until within"))) gNx) (gSeq (gSet 8 (f2 ixD (fMt splitD (fV 7) (fCons (fC (.str " ")) fNil)) (f2 (ri fun i j => i - j) (f2 modD (fV 5) (fC (.int 14))) (fC (.int 2))))) (gSeq (gSet 4 (fAnd (fV 4) (f2 niP (fV 8) (fTup (fCons (fC (.str "before")) (fCons (fC (.str "since")) fNil)))))) (gSeq (gSetE 9 (fCaC 5 FL_made 1 (fV 0) (fCons (fV 2) (fCons (f2 (ri fun i j => i - j) (fV 3) (fC (.int 1))) (fCons (fV 4) fNil))))) (gSeq (gIf (fB (f2 eqP (fV 8) (fC (.str "within")))) (gRet (fTup (fCons (fV 8) (fCons (f2 ixD (fLst (fCons (fC (.int 1)) (fCons (fC (.int 2)) (fCons (fC (.int 0)) (fCons (fC (.int 1)) (fCons (f2 modD (f2 fdivD (fV 6) (fC (.int 6))) (fC (.int 5))) fNil)))))) (f2 modD (fV 6) (fC (.int 5)))) (fCons (fV 9) fNil))))) gNx) (gSeq (gIf (fB (f2 inP (fV 8) (fTup (fCons (fC (.str "not")) (fCons (fC (.str "next")) (fCons (fC (.str "before")) fNil)))))) (gRet (fTup (fCons (fV 8) (fCons (fV 9) fNil)))) gNx) (gRetE (fTupE (fE2 (fV 8) (fE2 (fV 9) (fE1 (fCaC 5 FL_made 1 (fV 0) (fCons (fV 2) (fCons (f2 (ri fun i j => i - j) (fV 3) (fC (.int 1))) (fCons (fV 4) fNil)))) fNil)))))))))))))))
theorem okL_made {k : Nat} {FL_draw : List PyData → List PyData → Option (PyData × List PyData)} {FL_made : List PyData → List PyData → Option (PyData × List PyData)} {R : List PyData → List PyData → Option (PyData × List PyData)} (hB : Bl mg) (D : Df K mg "_law_made" sL_made ["_law_script", "_law_spot", "_law_names_here", "_law_deep", "_law_ahead"]) (hF : ∀ a ds xs r, ds.length + 1 = 5 → R ds xs = some r → retC a ((gL_made FL_draw FL_made) (startC 10 a ds xs)) = some r) (cL_draw : KnC P w K mg base k 2 "_law_draw" FL_draw) (cL_made : KnC P w K mg base k 5 "_law_made" FL_made) : KnC P w K mg base (k + 1) 5 "_law_made" R := by
  refine knC_of (P := P) (w := w) (base := base) (N := NL_made) (ps := ["_law_script", "_law_spot", "_law_names_here", "_law_deep", "_law_ahead"]) (g := gL_made FL_draw FL_made) D scL_made hF fun f cdv A outer s H E hr => ?_
  exact (psd_cons (psd_asgE (ps_set (i := 5) scL_made.nd rfl (by first | exact Or.inl rfl | exact Or.inr rfl) (pde_knC cL_draw hr (pd_v (pv 0)) (pv 1) pda_nil))) (psd_cons (psd_asg (ps_set (i := 6) scL_made.nd rfl (by first | exact Or.inl rfl | exact Or.inr rfl) (pd_op op_fdiv rd_fdiv (pd_v (pv 5)) pd_int))) (psd_cons (psd_if (pdt_w (pdw_or (pdt_cmp op_lt rd_rb (pd_v (pv 3)) pd_int (nomark _)) (pdw_or1 (pdt_cmp op_lt rd_rb (pd_op op_mod rd_mod (pd_v (pv 5)) pd_int) pd_int (nomark _))))) (psd_cons (psd_if (pdt_cmp (op_eqA hr.units) rd_eq (pd_op op_mod rd_mod (pd_v (pv 6)) pd_int) pd_int (nomark _)) (psd_one (psd_ret (pd_tup (pda_cons pd_str pda_nil)))) psd_nil) (psd_one (psd_ret (pd_tup (pda_cons pd_str (pda_cons (pd_ix (pd_v (pv 2)) (pd_op op_mod rd_mod (pd_v (pv 6)) pd_int) (fun _ _ => rfl)) pda_nil)))))) psd_nil) (psd_cons (psd_asg (ps_set (i := 7) scL_made.nd rfl (by first | exact Or.inl rfl | exact Or.inr rfl) pd_str)) (psd_cons (psd_if (pdt_val (pd_v (pv 4))) (psd_one (psd_asg (ps_set (i := 7) scL_made.nd rfl (by first | exact Or.inl rfl | exact Or.inr rfl) pd_str))) psd_nil) (psd_cons (psd_asg (ps_set (i := 8) scL_made.nd rfl (by first | exact Or.inl rfl | exact Or.inr rfl) (pd_ix (pd_bm PySem.F.plainAttrs_str PySem.F.slot_str_split PySem.F.type_str_split mt_split rm_split ty_split (pd_v (pv 7)) (pda_cons pd_str pda_nil)) (pd_op op_sub rd_sub (pd_op op_mod rd_mod (pd_v (pv 5)) pd_int) pd_int) (fun _ _ => rfl)))) (psd_cons (psd_asg (ps_set (i := 4) scL_made.nd rfl (by first | exact Or.inl rfl | exact Or.inr rfl) (pd_and (pd_v (pv 4)) (pd_one (pd_cmp (op_niA (units65 hr)) rd_ni (pd_v (pv 8)) (pd_tup (pda_cons pd_str (pda_cons pd_str pda_nil))) (by rfl)))))) (psd_cons (psd_asgE (ps_set (i := 9) scL_made.nd rfl (by first | exact Or.inl rfl | exact Or.inr rfl) (pde_knC cL_made hr (pd_v (pv 0)) (pv 1) (pda_cons (pd_v (pv 2)) (pda_cons (pd_op op_sub rd_sub (pd_v (pv 3)) pd_int) (pda_cons (pd_v (pv 4)) pda_nil)))))) (psd_cons (psd_if (pdt_cmp (op_eqA hr.units) rd_eq (pd_v (pv 8)) pd_str (nomark _)) (psd_one (psd_ret (pd_tup (pda_cons (pd_v (pv 8)) (pda_cons (pd_ix (pd_lst (pda_cons pd_int (pda_cons pd_int (pda_cons pd_int (pda_cons pd_int (pda_cons (pd_op op_mod rd_mod (pd_op op_fdiv rd_fdiv (pd_v (pv 6)) pd_int) pd_int) pda_nil)))))) (pd_op op_mod rd_mod (pd_v (pv 6)) pd_int) (fun _ _ => rfl)) (pda_cons (pd_v (pv 9)) pda_nil)))))) psd_nil) (psd_cons (psd_if (pdt_cmp (op_inA (units65 hr)) rd_in (pd_v (pv 8)) (pd_tup (pda_cons pd_str (pda_cons pd_str (pda_cons pd_str pda_nil)))) (by rfl)) (psd_one (psd_ret (pd_tup (pda_cons (pd_v (pv 8)) (pda_cons (pd_v (pv 9)) pda_nil))))) psd_nil) (psd_one (psd_retE (pde_tup (pdae_cons (pd_v (pv 8)) (pdae_cons (pd_v (pv 9)) (pdae_first (pde_knC cL_made hr (pd_v (pv 0)) (pv 1) (pda_cons (pd_v (pv 2)) (pda_cons (pd_op op_sub rd_sub (pd_v (pv 3)) pd_int) (pda_cons (pd_v (pv 4)) pda_nil)))) pda_nil))))))))))))))))
abbrev sL_all : Stmt := top 28
abbrev NL_all : List Str := ["_law_statement", "_law_found", "_law_part"]
theorem scL_all : FnScope NL_all ["_law_statement"] (defScope sL_all) := ⟨rfl, rfl, rfl, by decide +kernel, rfl, by decide +kernel, by decide +kernel⟩
def gL_all (FL_all : List PyData → Option PyData) : Rho → Option Out := (gSeq (gSet 1 (fLst (fCons (fV 0) fNil))) (gSeq (gFor (fSeq (fSl (fV 0) (fO (fC (.int 1))) fO0)) (b1 2) (gIf (fB (f1 (isiD "tuple") (fV 2))) (gSet 1 (f2 addD (fV 1) (fCa 1 FL_all (fCons (fV 2) fNil)))) gNx)) (gRet (fV 1))))
theorem okL_all {k : Nat} {FL_all : List PyData → Option PyData} (hB : Bl mg) (D : Df K mg "_law_all" sL_all ["_law_statement"]) (cL_all : Kn P w K mg base k 1 "_law_all" FL_all) : Kn P w K mg base (k + 1) 1 "_law_all" (fnD 3 (gL_all FL_all)) := by
  refine kn_of (P := P) (w := w) (base := base) (N := NL_all) (ps := ["_law_statement"]) (g := gL_all FL_all) D scL_all fun f cdv A outer s H E hr => ?_
  exact (psd_cons (psd_asg (ps_set (i := 1) scL_all.nd rfl (by first | exact Or.inl rfl | exact Or.inr rfl) (pd_lst (pda_cons (pd_v (pv 0)) pda_nil)))) (psd_cons (psd_for gd_1 PassesOwn.never rfl (pdi_seq (pd_sl (pd_v (pv 0)) (pdo_some pd_int) pdo_none)) (pg_name (i := 2) scL_all.nd rfl (by first | exact Or.inl rfl | exact Or.inr rfl)) (psd_one (psd_if (pdt_val (pd_isi rfl hB.isinstance (pd_v (pv 2)) (pe_bltn rfl hB.tuple (by decide +kernel) rfl))) (psd_one (psd_asg (ps_set (i := 1) scL_all.nd rfl (by first | exact Or.inl rfl | exact Or.inr rfl) (pd_op op_addD rd_add (pd_v (pv 1)) (pd_kn cL_all hr (pda_cons (pd_v (pv 2)) pda_nil)))))) psd_nil))) (psd_one (psd_ret (pd_v (pv 1))))))
abbrev sL_wishes : Stmt := top 29
abbrev NL_wishes : List Str := ["_law_statement", "_law_found", "_law_one", "_law_more", "_law_k", "_law_other"]
theorem scL_wishes : FnScope NL_wishes ["_law_statement"] (defScope sL_wishes) := ⟨rfl, rfl, rfl, by decide +kernel, rfl, by decide +kernel, by decide +kernel⟩
def gL_wishes (FL_all : List PyData → Option PyData) : Rho → Option Out := (gSeq (gSet 1 (fLst (fCons (fV 0) fNil))) (gSeq (gFor (fSeq (fCa 1 FL_all (fCons (fV 0) fNil))) (b1 2) (gSeq (gSet 3 (fLst fNil)) (gSeq (gIf (fB (f2 eqP (f2 ixD (fV 2) (fC (.int 0))) (fC (.str "next")))) (gSet 3 (fLst (fCons (f2 ixD (fV 2) (fC (.int 1))) fNil))) (gIf (fB (f2 eqP (f2 ixD (fV 2) (fC (.int 0))) (fC (.str "until")))) (gSet 3 (fLst (fCons (fV 2) fNil))) (gIf (fB (f2 eqP (f2 ixD (fV 2) (fC (.int 0))) (fC (.str "within")))) (gSet 3 (fLc (fR1 (f2 ixD (fV 2) (fC (.int 1)))) (b1 4) tYesD (fTup (fCons (fC (.str "within")) (fCons (fV 4) (fCons (f2 ixD (fV 2) (fC (.int 2))) fNil)))) [4])) gNx))) (gSet 1 (f2 addD (fV 1) (fLc (fSeq (fV 3)) (b1 5) (fB (f2 niP (fV 5) (fV 1))) (fV 5) [5])))))) (gRet (fV 1))))
theorem okL_wishes {k : Nat} {FL_all : List PyData → Option PyData} (hB : Bl mg) (D : Df K mg "_law_wishes" sL_wishes ["_law_statement"]) (cL_all : Kn P w K mg base k 1 "_law_all" FL_all) : Kn P w K mg base (k + 1) 1 "_law_wishes" (fnD 6 (gL_wishes FL_all)) := by
  refine kn_of (P := P) (w := w) (base := base) (N := NL_wishes) (ps := ["_law_statement"]) (g := gL_wishes FL_all) D scL_wishes fun f cdv A outer s H E hr => ?_
  exact (psd_cons (psd_asg (ps_set (i := 1) scL_wishes.nd rfl (by first | exact Or.inl rfl | exact Or.inr rfl) (pd_lst (pda_cons (pd_v (pv 0)) pda_nil)))) (psd_cons (psd_for gd_1 PassesOwn.never rfl (pdi_seq (pd_kn cL_all hr (pda_cons (pd_v (pv 0)) pda_nil))) (pg_name (i := 2) scL_wishes.nd rfl (by first | exact Or.inl rfl | exact Or.inr rfl)) (psd_cons (psd_asg (ps_set (i := 3) scL_wishes.nd rfl (by first | exact Or.inl rfl | exact Or.inr rfl) (pd_lst pda_nil))) (psd_cons (psd_if (pdt_cmp (op_eqA hr.units) rd_eq (pd_ix (pd_v (pv 2)) pd_int (fun _ _ => rfl)) pd_str (nomark _)) (psd_one (psd_asg (ps_set (i := 3) scL_wishes.nd rfl (by first | exact Or.inl rfl | exact Or.inr rfl) (pd_lst (pda_cons (pd_ix (pd_v (pv 2)) pd_int (fun _ _ => rfl)) pda_nil))))) (psd_one (psd_if (pdt_cmp (op_eqA hr.units) rd_eq (pd_ix (pd_v (pv 2)) pd_int (fun _ _ => rfl)) pd_str (nomark _)) (psd_one (psd_asg (ps_set (i := 3) scL_wishes.nd rfl (by first | exact Or.inl rfl | exact Or.inr rfl) (pd_lst (pda_cons (pd_v (pv 2)) pda_nil))))) (psd_one (psd_if (pdt_cmp (op_eqA hr.units) rd_eq (pd_ix (pd_v (pv 2)) pd_int (fun _ _ => rfl)) pd_str (nomark _)) (psd_one (psd_setLc (i := 3) gd_1 (by decide) rfl scL_wishes.nd rfl rfl (sw_true rfl rfl rfl (by decide +kernel)) (pdi_range1 rfl hB.range (pd_ix (pd_v (pv 2)) pd_int (fun _ _ => rfl))) (blkOk_by (N := NL_wishes) (sc := defScope sL_wishes) (own := [("_law_k", 4)]) (by decide +kernel)) (fun _ _ _ _ _ => (pg_name (i := 4) scL_wishes.nd rfl (by first | exact Or.inl rfl | exact Or.inr rfl))) (fun _ _ _ _ _ => pdts_nil) (fun _ _ _ _ _ => (pd_tup (pda_cons pd_str (pda_cons (pd_v (pv 4)) (pda_cons (pd_ix (pd_v (pv 2)) pd_int (fun _ _ => rfl)) pda_nil))))))) psd_nil))))) (psd_one (psd_asg (ps_set (i := 1) scL_wishes.nd rfl (by first | exact Or.inl rfl | exact Or.inr rfl) (pd_op op_addD rd_add (pd_v (pv 1)) (pd_lc gd_1 (by decide) rfl scL_wishes.nd (pdi_seq (pd_v (pv 3))) (blkOk_by (N := NL_wishes) (sc := defScope sL_wishes) (own := [("_law_other", 5)]) (by decide +kernel)) (fun _ _ _ _ _ => (pg_name (i := 5) scL_wishes.nd rfl (by first | exact Or.inl rfl | exact Or.inr rfl))) (fun _ _ _ _ _ => pdts_one (pdt_cmp (op_niA (units65 hr)) rd_ni (pd_v (pv 5)) (pd_v (pv 1)) (by rfl))) (fun _ _ _ _ _ => (pd_v (pv 5))))))))))) (psd_one (psd_ret (pd_v (pv 1))))))
abbrev sL_fit : Stmt := top 30
abbrev NL_fit : List Str := ["_law_statement", "_law_most"]
theorem scL_fit : FnScope NL_fit ["_law_statement", "_law_most"] (defScope sL_fit) := ⟨rfl, rfl, rfl, by decide +kernel, rfl, by decide +kernel, by decide +kernel⟩
def gL_fit (FL_wishes : List PyData → Option PyData) : Rho → Option Out := (gSeq (whileGo (fB (f2 (rb fun i j => decide (j < i)) (fCl (one1 lenD) (fCons (fCa 1 FL_wishes (fCons (fV 0) fNil)) fNil)) (fV 1))) (gSet 0 (f2 ixD (fV 0) (f1 negD (fC (.int 1))))) 1000) (gRet (fV 0)))
theorem okL_fit {k : Nat} {FL_wishes : List PyData → Option PyData} (hB : Bl mg) (D : Df K mg "_law_fit" sL_fit ["_law_statement", "_law_most"]) (cL_wishes : Kn P w K mg base k 1 "_law_wishes" FL_wishes) : Kn P w K mg base (k + 1) 2 "_law_fit" (fnD 2 (gL_fit FL_wishes)) := by
  refine kn_of (P := P) (w := w) (base := base) (N := NL_fit) (ps := ["_law_statement", "_law_most"]) (g := gL_fit FL_wishes) D scL_fit fun f cdv A outer s H E hr => ?_
  exact (psd_cons (psd_while 1000 PassesOwn.never (pdt_cmp op_gt rd_rb (pd_bi call_lenD0 rc_len rfl hB.len (by decide +kernel) (pda_cons (pd_kn cL_wishes hr (pda_cons (pd_v (pv 0)) pda_nil)) pda_nil)) (pd_v (pv 1)) (nomark _)) (psd_one (psd_asg (ps_set (i := 0) scL_fit.nd rfl (by first | exact Or.inl rfl | exact Or.inr rfl) (pd_ix (pd_v (pv 0)) (pd_neg pd_int) (fun _ _ => rfl)))))) (psd_one (psd_ret (pd_v (pv 0)))))
abbrev sL_text : Stmt := top 32
abbrev NL_text : List Str := ["_law_statement", "_law_part"]
theorem scL_text : FnScope NL_text ["_law_statement"] (defScope sL_text) := ⟨rfl, rfl, rfl, by decide +kernel, rfl, by decide +kernel, by decide +kernel⟩
def gL_text (FL_part_text : List PyData → Option PyData) : Rho → Option Out := (gSeq (gIf (fB (f2 eqP (f2 ixD (fV 0) (fC (.int 0))) (fC (.str "mark")))) (gRet (f2 addD (f2 addD (fC (.str "'")) (f2 ixD (fV 0) (fC (.int 1)))) (fC (.str "'")))) gNx) (gSeq (gIf (fB (f2 eqP (f2 ixD (fV 0) (fC (.int 0))) (fC (.str "yes")))) (gRet (fC (.str "yes"))) gNx) (gRet (f2 addD (f2 addD (f2 addD (f2 ixD (fV 0) (fC (.int 0))) (fC (.str "("))) (fMt joinD (fC (.str ", ")) (fCons (fLc (fSeq (fSl (fV 0) (fO (fC (.int 1))) fO0)) (b1 1) tYesD (fCa 1 FL_part_text (fCons (fV 1) fNil)) [1]) fNil))) (fC (.str ")"))))))
theorem okL_text {k : Nat} {FL_part_text : List PyData → Option PyData} (hB : Bl mg) (D : Df K mg "_law_text" sL_text ["_law_statement"]) (cL_part_text : Kn P w K mg base k 1 "_law_part_text" FL_part_text) : Kn P w K mg base (k + 1) 1 "_law_text" (fnD 2 (gL_text FL_part_text)) := by
  refine kn_of (P := P) (w := w) (base := base) (N := NL_text) (ps := ["_law_statement"]) (g := gL_text FL_part_text) D scL_text fun f cdv A outer s H E hr => ?_
  exact (psd_cons (psd_if (pdt_cmp (op_eqA hr.units) rd_eq (pd_ix (pd_v (pv 0)) pd_int (fun _ _ => rfl)) pd_str (nomark _)) (psd_one (psd_ret (pd_op op_addD rd_add (pd_op op_addD rd_add pd_str (pd_ix (pd_v (pv 0)) pd_int (fun _ _ => rfl))) pd_str))) psd_nil) (psd_cons (psd_if (pdt_cmp (op_eqA hr.units) rd_eq (pd_ix (pd_v (pv 0)) pd_int (fun _ _ => rfl)) pd_str (nomark _)) (psd_one (psd_ret pd_str)) psd_nil) (psd_one (psd_ret (pd_op op_addD rd_add (pd_op op_addD rd_add (pd_op op_addD rd_add (pd_ix (pd_v (pv 0)) pd_int (fun _ _ => rfl)) pd_str) (pd_bm PySem.F.plainAttrs_str PySem.F.slot_str_join PySem.F.type_str_join mt_join rm_join ty_join pd_str (pda_cons (pd_lc gd_1 (by decide) rfl scL_text.nd (pdi_seq (pd_sl (pd_v (pv 0)) (pdo_some pd_int) pdo_none)) (blkOk_by (N := NL_text) (sc := defScope sL_text) (own := [("_law_part", 1)]) (by decide +kernel)) (fun _ _ _ _ _ => (pg_name (i := 1) scL_text.nd rfl (by first | exact Or.inl rfl | exact Or.inr rfl))) (fun _ _ _ _ _ => pdts_nil) (fun _ _ _ _ _ => (pd_kn cL_part_text hr (pda_cons (pd_v (pv 1)) pda_nil)))) pda_nil))) pd_str)))))
abbrev sL_part_text : Stmt := top 33
abbrev NL_part_text : List Str := ["_law_part"]
theorem scL_part_text : FnScope NL_part_text ["_law_part"] (defScope sL_part_text) := ⟨rfl, rfl, rfl, by decide +kernel, rfl, by decide +kernel, by decide +kernel⟩
def gL_part_text (FL_text : List PyData → Option PyData) : Rho → Option Out := (gSeq (gIf (fB (f1 (isiD "tuple") (fV 0))) (gRet (fCa 1 FL_text (fCons (fV 0) fNil))) gNx) (gRet (fCl (one1 strD) (fCons (fV 0) fNil))))
theorem okL_part_text {k : Nat} {FL_text : List PyData → Option PyData} (hB : Bl mg) (D : Df K mg "_law_part_text" sL_part_text ["_law_part"]) (cL_text : Kn P w K mg base k 1 "_law_text" FL_text) : Kn P w K mg base (k + 1) 1 "_law_part_text" (fnD 1 (gL_part_text FL_text)) := by
  refine kn_of (P := P) (w := w) (base := base) (N := NL_part_text) (ps := ["_law_part"]) (g := gL_part_text FL_text) D scL_part_text fun f cdv A outer s H E hr => ?_
  exact (psd_cons (psd_if (pdt_val (pd_isi rfl hB.isinstance (pd_v (pv 0)) (pe_bltn rfl hB.tuple (by decide +kernel) rfl))) (psd_one (psd_ret (pd_kn cL_text hr (pda_cons (pd_v (pv 0)) pda_nil)))) psd_nil) (psd_one (psd_ret (pd_ty call_str_int rc_str rfl hB.str (by decide +kernel) (pda_cons (pd_v (pv 0)) pda_nil)))))
abbrev sL_mark_at : Stmt := top 34
abbrev NL_mark_at : List Str := ["_law_text_here", "_law_at_here", "_law_end"]
theorem scL_mark_at : FnScope NL_mark_at ["_law_text_here", "_law_at_here"] (defScope sL_mark_at) := ⟨rfl, rfl, rfl, by decide +kernel, rfl, by decide +kernel, by decide +kernel⟩
def gL_mark_at : Rho → Option Out := (gSeq (gSet 2 (f2 addD (fV 1) (fC (.int 1)))) (gSeq (whileGo (fAndT (fB (f2 (rb fun i j => decide (i < j)) (fV 2) (fCl (one1 lenD) (fCons (fV 0) fNil)))) (fB (f2 inP (f2 ixD (fV 0) (fV 2)) (fC (.str "abcdefghijklmnopqrstuvwxyz"))))) (gSet 2 (f2 addD (fV 2) (fC (.int 1)))) 100000) (gSeq (gIf (fOrT (fB (f2 neP (fSl (fV 0) (fO (fV 2)) (fO (f2 addD (fV 2) (fC (.int 1))))) (fC (.str "'")))) (fNotT (fB (fCh (rb fun i j => decide (i < j)) (rb fun i j => decide (i < j)) (fC (.int 1)) (f2 (ri fun i j => i - j) (fV 2) (fV 1)) (fC (.int 8)))))) (gRet (fTup (fCons (fC .none) (fCons (fV 1) fNil)))) gNx) (gRet (fTup (fCons (fTup (fCons (fC (.str "mark")) (fCons (fSl (fV 0) (fO (f2 addD (fV 1) (fC (.int 1)))) (fO (fV 2))) fNil))) (fCons (f2 addD (fV 2) (fC (.int 1))) fNil)))))))
theorem okL_mark_at {k : Nat} (hB : Bl mg) (D : Df K mg "_law_mark_at" sL_mark_at ["_law_text_here", "_law_at_here"])  : Kn P w K mg base (k + 1) 2 "_law_mark_at" (fnD 3 (gL_mark_at )) := by
  refine kn_of (P := P) (w := w) (base := base) (N := NL_mark_at) (ps := ["_law_text_here", "_law_at_here"]) (g := gL_mark_at ) D scL_mark_at fun f cdv A outer s H E hr => ?_
  exact (psd_cons (psd_asg (ps_set (i := 2) scL_mark_at.nd rfl (by first | exact Or.inl rfl | exact Or.inr rfl) (pd_op op_addD rd_add (pd_v (pv 1)) pd_int))) (psd_cons (psd_while 100000 PassesOwn.never (pdt_w (pdw_and (pdt_cmp op_lt rd_rb (pd_v (pv 2)) (pd_bi call_lenD0 rc_len rfl hB.len (by decide +kernel) (pda_cons (pd_v (pv 0)) pda_nil)) (nomark _)) (pdw_and1 (pdt_cmp (op_inA (units65 hr)) rd_in (pd_ix (pd_v (pv 0)) (pd_v (pv 2)) (fun _ _ => rfl)) pd_str (by rfl))))) (psd_one (psd_asg (ps_set (i := 2) scL_mark_at.nd rfl (by first | exact Or.inl rfl | exact Or.inr rfl) (pd_op op_addD rd_add (pd_v (pv 2)) pd_int))))) (psd_cons (psd_if (pdt_w (pdw_or (pdt_cmp (op_neA hr.units) rd_ne (pd_sl (pd_v (pv 0)) (pdo_some (pd_v (pv 2))) (pdo_some (pd_op op_addD rd_add (pd_v (pv 2)) pd_int))) pd_str (nomark _)) (pdw_or1 (pdt_not (pdt_chain op_lt rd_rb op_lt rd_rb pd_int (pd_op op_sub rd_sub (pd_v (pv 2)) (pd_v (pv 1))) pd_int))))) (psd_one (psd_ret (pd_tup (pda_cons pd_non (pda_cons (pd_v (pv 1)) pda_nil))))) psd_nil) (psd_one (psd_ret (pd_tup (pda_cons (pd_tup (pda_cons pd_str (pda_cons (pd_sl (pd_v (pv 0)) (pdo_some (pd_op op_addD rd_add (pd_v (pv 1)) pd_int)) (pdo_some (pd_v (pv 2)))) pda_nil))) (pda_cons (pd_op op_addD rd_add (pd_v (pv 2)) pd_int) pda_nil))))))))
abbrev sL_at : Stmt := top 35
abbrev NL_at : List Str := ["_law_text_here", "_law_at_here", "_law_deep", "_law_word"]
theorem scL_at : FnScope NL_at ["_law_text_here", "_law_at_here", "_law_deep"] (defScope sL_at) := ⟨rfl, rfl, rfl, by decide +kernel, rfl, by decide +kernel, by decide +kernel⟩
def gL_at (FL_mark_at : List PyData → Option PyData) (FL_parts_at : List PyData → Option PyData) : Rho → Option Out := (gSeq (gIf (fB (f2 eqP (fV 2) (fC (.int 0)))) (gRet (fTup (fCons (fC .none) (fCons (fV 1) fNil)))) gNx) (gSeq (gIf (fB (f2 eqP (fSl (fV 0) (fO (fV 1)) (fO (f2 addD (fV 1) (fC (.int 1))))) (fC (.str "'")))) (gRet (fCa 2 FL_mark_at (fCons (fV 0) (fCons (fV 1) fNil)))) gNx) (gSeq (gIf (fB (f2 eqP (fSl (fV 0) (fO (fV 1)) (fO (f2 addD (fV 1) (fC (.int 3))))) (fC (.str "yes")))) (gRet (fTup (fCons (fTup (fCons (fC (.str "yes")) fNil)) (fCons (f2 addD (fV 1) (fC (.int 3))) fNil)))) gNx) (gSeq (gFor (fSeq (fLst (fCons (fC (.str "not")) (fCons (fC (.str "and")) (fCons (fC (.str "or")) (fCons (fC (.str "next")) (fCons (fC (.str "until")) (fCons (fC (.str "within")) (fCons (fC (.str "before")) (fCons (fC (.str "since")) fNil)))))))))) (b1 3) (gIf (fB (f2 eqP (fSl (fV 0) (fO (fV 1)) (fO (f2 addD (f2 addD (fV 1) (fCl (one1 lenD) (fCons (fV 3) fNil))) (fC (.int 1))))) (f2 addD (fV 3) (fC (.str "("))))) (gRet (fCa 4 FL_parts_at (fCons (fV 0) (fCons (f2 addD (f2 addD (fV 1) (fCl (one1 lenD) (fCons (fV 3) fNil))) (fC (.int 1))) (fCons (fV 3) (fCons (fV 2) fNil)))))) gNx)) (gRet (fTup (fCons (fC .none) (fCons (fV 1) fNil))))))))
theorem okL_at {k : Nat} {FL_mark_at : List PyData → Option PyData} {FL_parts_at : List PyData → Option PyData} (hB : Bl mg) (D : Df K mg "_law_at" sL_at ["_law_text_here", "_law_at_here", "_law_deep"]) (cL_mark_at : Kn P w K mg base k 2 "_law_mark_at" FL_mark_at) (cL_parts_at : Kn P w K mg base k 4 "_law_parts_at" FL_parts_at) : Kn P w K mg base (k + 1) 3 "_law_at" (fnD 4 (gL_at FL_mark_at FL_parts_at)) := by
  refine kn_of (P := P) (w := w) (base := base) (N := NL_at) (ps := ["_law_text_here", "_law_at_here", "_law_deep"]) (g := gL_at FL_mark_at FL_parts_at) D scL_at fun f cdv A outer s H E hr => ?_
  exact (psd_cons (psd_if (pdt_cmp (op_eqA hr.units) rd_eq (pd_v (pv 2)) pd_int (nomark _)) (psd_one (psd_ret (pd_tup (pda_cons pd_non (pda_cons (pd_v (pv 1)) pda_nil))))) psd_nil) (psd_cons (psd_if (pdt_cmp (op_eqA hr.units) rd_eq (pd_sl (pd_v (pv 0)) (pdo_some (pd_v (pv 1))) (pdo_some (pd_op op_addD rd_add (pd_v (pv 1)) pd_int))) pd_str (nomark _)) (psd_one (psd_ret (pd_kn cL_mark_at hr (pda_cons (pd_v (pv 0)) (pda_cons (pd_v (pv 1)) pda_nil))))) psd_nil) (psd_cons (psd_if (pdt_cmp (op_eqA hr.units) rd_eq (pd_sl (pd_v (pv 0)) (pdo_some (pd_v (pv 1))) (pdo_some (pd_op op_addD rd_add (pd_v (pv 1)) pd_int))) pd_str (nomark _)) (psd_one (psd_ret (pd_tup (pda_cons (pd_tup (pda_cons pd_str pda_nil)) (pda_cons (pd_op op_addD rd_add (pd_v (pv 1)) pd_int) pda_nil))))) psd_nil) (psd_cons (psd_for gd_1 PassesOwn.never rfl (pdi_seq (pd_lst (pda_cons pd_str (pda_cons pd_str (pda_cons pd_str (pda_cons pd_str (pda_cons pd_str (pda_cons pd_str (pda_cons pd_str (pda_cons pd_str pda_nil)))))))))) (pg_name (i := 3) scL_at.nd rfl (by first | exact Or.inl rfl | exact Or.inr rfl)) (psd_one (psd_if (pdt_cmp (op_eqA hr.units) rd_eq (pd_sl (pd_v (pv 0)) (pdo_some (pd_v (pv 1))) (pdo_some (pd_op op_addD rd_add (pd_op op_addD rd_add (pd_v (pv 1)) (pd_bi call_lenD0 rc_len rfl hB.len (by decide +kernel) (pda_cons (pd_v (pv 3)) pda_nil))) pd_int))) (pd_op op_addD rd_add (pd_v (pv 3)) pd_str) (nomark _)) (psd_one (psd_ret (pd_kn cL_parts_at hr (pda_cons (pd_v (pv 0)) (pda_cons (pd_op op_addD rd_add (pd_op op_addD rd_add (pd_v (pv 1)) (pd_bi call_lenD0 rc_len rfl hB.len (by decide +kernel) (pda_cons (pd_v (pv 3)) pda_nil))) pd_int) (pda_cons (pd_v (pv 3)) (pda_cons (pd_v (pv 2)) pda_nil))))))) psd_nil))) (psd_one (psd_ret (pd_tup (pda_cons pd_non (pda_cons (pd_v (pv 1)) pda_nil)))))))))
abbrev sL_parts_at : Stmt := top 36
abbrev NL_parts_at : List Str := ["_law_text_here", "_law_at_here", "_law_word", "_law_deep", "_law_found", "_law_k", "_law_part"]
theorem scL_parts_at : FnScope NL_parts_at ["_law_text_here", "_law_at_here", "_law_word", "_law_deep"] (defScope sL_parts_at) := ⟨rfl, rfl, rfl, by decide +kernel, rfl, by decide +kernel, by decide +kernel⟩
def gL_parts_at (FL_at : List PyData → Option PyData) : Rho → Option Out := (gSeq (gSet 4 (fTup (fCons (fV 2) fNil))) (gSeq (gIf (fB (f2 eqP (fV 2) (fC (.str "within")))) (gSeq (gIf (fOrT (fB (f2 niP (fSl (fV 0) (fO (fV 1)) (fO (f2 addD (fV 1) (fC (.int 1))))) (fLst (fCons (fC (.str "0")) (fCons (fC (.str "1")) (fCons (fC (.str "2")) (fCons (fC (.str "3")) (fCons (fC (.str "4")) fNil)))))))) (fB (f2 neP (fSl (fV 0) (fO (f2 addD (fV 1) (fC (.int 1)))) (fO (f2 addD (fV 1) (fC (.int 3))))) (fC (.str ", "))))) (gRet (fTup (fCons (fC .none) (fCons (fV 1) fNil)))) gNx) (gSeq (gSet 4 (fTup (fCons (fV 2) (fCons (fCl (one1 intTD) (fCons (f2 ixD (fV 0) (fV 1)) fNil)) fNil)))) (gSet 1 (f2 addD (fV 1) (fC (.int 3)))))) gNx) (gSeq (gFor (fR1 (f2 addD (fC (.int 1)) (fCl (one1 intD) (fCons (f2 inP (fV 2) (fTup (fCons (fC (.str "and")) (fCons (fC (.str "or")) (fCons (fC (.str "until")) (fCons (fC (.str "since")) fNil)))))) fNil)))) (b1 5) (gSeq (gIf (fAndT (fB (f2 eqP (fV 5) (fC (.int 1)))) (fB (f2 neP (fSl (fV 0) (fO (fV 1)) (fO (f2 addD (fV 1) (fC (.int 2))))) (fC (.str ", "))))) (gRet (fTup (fCons (fC .none) (fCons (fV 1) fNil)))) gNx) (gSeq (gAsg (b2 6 1) (fCa 3 FL_at (fCons (fV 0) (fCons (f2 addD (fV 1) (f2 mulD (fC (.int 2)) (fV 5))) (fCons (f2 (ri fun i j => i - j) (fV 3) (fC (.int 1))) fNil))))) (gSeq (gIf (fB (f2 isNoneD (fV 6) (fC .none))) (gRet (fTup (fCons (fC .none) (fCons (fV 1) fNil)))) gNx) (gSet 4 (f2 catTD (fV 4) (fTup (fCons (fV 6) fNil)))))))) (gSeq (gIf (fB (f2 neP (fSl (fV 0) (fO (fV 1)) (fO (f2 addD (fV 1) (fC (.int 1))))) (fC (.str ")")))) (gRet (fTup (fCons (fC .none) (fCons (fV 1) fNil)))) gNx) (gRet (fTup (fCons (fV 4) (fCons (f2 addD (fV 1) (fC (.int 1))) fNil))))))))
theorem okL_parts_at {k : Nat} {FL_at : List PyData → Option PyData} (hB : Bl mg) (D : Df K mg "_law_parts_at" sL_parts_at ["_law_text_here", "_law_at_here", "_law_word", "_law_deep"]) (cL_at : Kn P w K mg base k 3 "_law_at" FL_at) : Kn P w K mg base (k + 1) 4 "_law_parts_at" (fnD 7 (gL_parts_at FL_at)) := by
  refine kn_of (P := P) (w := w) (base := base) (N := NL_parts_at) (ps := ["_law_text_here", "_law_at_here", "_law_word", "_law_deep"]) (g := gL_parts_at FL_at) D scL_parts_at fun f cdv A outer s H E hr => ?_
  exact (psd_cons (psd_asg (ps_set (i := 4) scL_parts_at.nd rfl (by first | exact Or.inl rfl | exact Or.inr rfl) (pd_tup (pda_cons (pd_v (pv 2)) pda_nil)))) (psd_cons (psd_if (pdt_cmp (op_eqA hr.units) rd_eq (pd_v (pv 2)) pd_str (nomark _)) (psd_cons (psd_if (pdt_w (pdw_or (pdt_cmp (op_niA (units65 hr)) rd_ni (pd_sl (pd_v (pv 0)) (pdo_some (pd_v (pv 1))) (pdo_some (pd_op op_addD rd_add (pd_v (pv 1)) pd_int))) (pd_lst (pda_cons pd_str (pda_cons pd_str (pda_cons pd_str (pda_cons pd_str (pda_cons pd_str pda_nil)))))) (by rfl)) (pdw_or1 (pdt_cmp (op_neA hr.units) rd_ne (pd_sl (pd_v (pv 0)) (pdo_some (pd_op op_addD rd_add (pd_v (pv 1)) pd_int)) (pdo_some (pd_op op_addD rd_add (pd_v (pv 1)) pd_int))) pd_str (nomark _))))) (psd_one (psd_ret (pd_tup (pda_cons pd_non (pda_cons (pd_v (pv 1)) pda_nil))))) psd_nil) (psd_cons (psd_asg (ps_set (i := 4) scL_parts_at.nd rfl (by first | exact Or.inl rfl | exact Or.inr rfl) (pd_tup (pda_cons (pd_v (pv 2)) (pda_cons (pd_ty call_int_str rc_intT rfl hB.int (by decide +kernel) (pda_cons (pd_ix (pd_v (pv 0)) (pd_v (pv 1)) (fun _ _ => rfl)) pda_nil)) pda_nil))))) (psd_one (psd_asg (ps_set (i := 1) scL_parts_at.nd rfl (by first | exact Or.inl rfl | exact Or.inr rfl) (pd_op op_addD rd_add (pd_v (pv 1)) pd_int)))))) psd_nil) (psd_cons (psd_for gd_1 PassesOwn.never rfl (pdi_range1 rfl hB.range (pd_op op_addD rd_add pd_int (pd_ty call_int1 rc_int rfl hB.int (by decide +kernel) (pda_cons (pd_cmp (op_inA (units65 hr)) rd_in (pd_v (pv 2)) (pd_tup (pda_cons pd_str (pda_cons pd_str (pda_cons pd_str (pda_cons pd_str pda_nil))))) (by rfl)) pda_nil)))) (pg_name (i := 5) scL_parts_at.nd rfl (by first | exact Or.inl rfl | exact Or.inr rfl)) (psd_cons (psd_if (pdt_w (pdw_and (pdt_cmp (op_eqA hr.units) rd_eq (pd_v (pv 5)) pd_int (nomark _)) (pdw_and1 (pdt_cmp (op_neA hr.units) rd_ne (pd_sl (pd_v (pv 0)) (pdo_some (pd_v (pv 1))) (pdo_some (pd_op op_addD rd_add (pd_v (pv 1)) pd_int))) pd_str (nomark _))))) (psd_one (psd_ret (pd_tup (pda_cons pd_non (pda_cons (pd_v (pv 1)) pda_nil))))) psd_nil) (psd_cons (psd_asgG gd_2 (ps_asg (pd_kn cL_at hr (pda_cons (pd_v (pv 0)) (pda_cons (pd_op op_addD rd_add (pd_v (pv 1)) (pd_op op_mulD rd_mul pd_int (pd_v (pv 5)))) (pda_cons (pd_op op_sub rd_sub (pd_v (pv 3)) pd_int) pda_nil)))) (pg_tup rfl (pgs_cons (pg_name (i := 6) scL_parts_at.nd rfl (by first | exact Or.inl rfl | exact Or.inr rfl)) (pgs_cons (pg_name (i := 1) scL_parts_at.nd rfl (by first | exact Or.inl rfl | exact Or.inr rfl)) pgs_nil))))) (psd_cons (psd_if (pdt_cmp op_isN rd_isN (pd_v (pv 6)) pd_non (nomark _)) (psd_one (psd_ret (pd_tup (pda_cons pd_non (pda_cons (pd_v (pv 1)) pda_nil))))) psd_nil) (psd_one (psd_asg (ps_set (i := 4) scL_parts_at.nd rfl (by first | exact Or.inl rfl | exact Or.inr rfl) (pd_op op_catTT rd_catTT (pd_v (pv 4)) (pd_tup (pda_cons (pd_v (pv 6)) pda_nil)))))))))) (psd_cons (psd_if (pdt_cmp (op_neA hr.units) rd_ne (pd_sl (pd_v (pv 0)) (pdo_some (pd_v (pv 1))) (pdo_some (pd_op op_addD rd_add (pd_v (pv 1)) pd_int))) pd_str (nomark _)) (psd_one (psd_ret (pd_tup (pda_cons pd_non (pda_cons (pd_v (pv 1)) pda_nil))))) psd_nil) (psd_one (psd_ret (pd_tup (pda_cons (pd_v (pv 4)) (pda_cons (pd_op op_addD rd_add (pd_v (pv 1)) pd_int) pda_nil)))))))))
abbrev sL_due : Stmt := top 37
abbrev NL_due : List Str := ["_law_text_here", "_law_found", "_law_end"]
theorem scL_due : FnScope NL_due ["_law_text_here"] (defScope sL_due) := ⟨rfl, rfl, rfl, by decide +kernel, rfl, by decide +kernel, by decide +kernel⟩
def gL_due (FL_at : List PyData → Option PyData) : Rho → Option Out := (gSeq (gAsg (b2 1 2) (fCa 3 FL_at (fCons (fV 0) (fCons (fC (.int 0)) (fCons (fC (.int 6)) fNil))))) (gSeq (gIf (fB (f2 neP (fV 2) (fCl (one1 lenD) (fCons (fV 0) fNil)))) (gRet (fC .none)) gNx) (gRet (fV 1))))
theorem okL_due {k : Nat} {FL_at : List PyData → Option PyData} (hB : Bl mg) (D : Df K mg "_law_due" sL_due ["_law_text_here"]) (cL_at : Kn P w K mg base k 3 "_law_at" FL_at) : Kn P w K mg base (k + 1) 1 "_law_due" (fnD 3 (gL_due FL_at)) := by
  refine kn_of (P := P) (w := w) (base := base) (N := NL_due) (ps := ["_law_text_here"]) (g := gL_due FL_at) D scL_due fun f cdv A outer s H E hr => ?_
  exact (psd_cons (psd_asgG gd_2 (ps_asg (pd_kn cL_at hr (pda_cons (pd_v (pv 0)) (pda_cons pd_int (pda_cons pd_int pda_nil)))) (pg_tup rfl (pgs_cons (pg_name (i := 1) scL_due.nd rfl (by first | exact Or.inl rfl | exact Or.inr rfl)) (pgs_cons (pg_name (i := 2) scL_due.nd rfl (by first | exact Or.inl rfl | exact Or.inr rfl)) pgs_nil))))) (psd_cons (psd_if (pdt_cmp (op_neA hr.units) rd_ne (pd_v (pv 2)) (pd_bi call_lenD0 rc_len rfl hB.len (by decide +kernel) (pda_cons (pd_v (pv 0)) pda_nil)) (nomark _)) (psd_one (psd_ret pd_non)) psd_nil) (psd_one (psd_ret (pd_v (pv 1))))))
abbrev sL_odd : Stmt := top 38
abbrev NL_odd : List Str := ["_law_cell", "_law_name", "_law_some"]
theorem scL_odd : FnScope NL_odd ["_law_cell", "_law_name"] (defScope sL_odd) := ⟨rfl, rfl, rfl, by decide +kernel, rfl, by decide +kernel, by decide +kernel⟩
def gL_odd : Rho → Option Out := (gSeq (gSet 2 (fLst (fCons (fC (.str "")) (fCons (fC (.str "no")) (fCons (fC (.str "yes ")) (fCons (fC (.str " yes")) (fCons (fC (.str "Yes")) (fCons (fC (.str "''")) (fCons (fC (.str "'A'")) (fCons (fC (.str "'abcdefg'")) (fCons (fC (.str "(yes)")) (fCons (fC (.str "not yes")) (fCons (fC (.str "not(yes, yes)")) fNil))))))))))))) (gSeq (gSet 2 (f2 addD (fV 2) (fLst (fCons (fC (.str "and(yes)")) (fCons (fC (.str "yes()")) (fCons (fC (.str "within(yes, 2)")) (fCons (fC (.str "within(5, yes)")) (fCons (fC (.str "within(02, yes)")) (fCons (fC (.str "within(2,yes)")) fNil))))))))) (gSeq (gSet 2 (f2 addD (fV 2) (fLst (fCons (fC (.str "not( yes)")) (fCons (fC (.str "not(yes")) (fCons (fC (.str "'a")) (fCons (fC (.str "mark('a')")) fNil))))))) (gRet (f2 ixD (f2 addD (fV 2) (fLst (fCons (fC (.str "or(yes,  yes)")) (fCons (f2 addD (f2 addD (f2 timesSD (fC (.str "not(")) (fC (.int 6))) (fC (.str "yes"))) (f2 timesSD (fC (.str ")")) (fC (.int 6)))) (fCons (fV 1) (fCons (fC (.str "yes)")) (fCons (fC (.str "within(2 , yes)")) fNil))))))) (f2 modD (fV 0) (fC (.int 26))))))))
theorem okL_odd {k : Nat} (hB : Bl mg) (D : Df K mg "_law_odd" sL_odd ["_law_cell", "_law_name"])  : Kn P w K mg base (k + 1) 2 "_law_odd" (fnD 3 (gL_odd )) := by
  refine kn_of (P := P) (w := w) (base := base) (N := NL_odd) (ps := ["_law_cell", "_law_name"]) (g := gL_odd ) D scL_odd fun f cdv A outer s H E hr => ?_
  exact (psd_cons (psd_asg (ps_set (i := 2) scL_odd.nd rfl (by first | exact Or.inl rfl | exact Or.inr rfl) (pd_lst (pda_cons pd_str (pda_cons pd_str (pda_cons pd_str (pda_cons pd_str (pda_cons pd_str (pda_cons pd_str (pda_cons pd_str (pda_cons pd_str (pda_cons pd_str (pda_cons pd_str (pda_cons pd_str pda_nil)))))))))))))) (psd_cons (psd_asg (ps_set (i := 2) scL_odd.nd rfl (by first | exact Or.inl rfl | exact Or.inr rfl) (pd_op op_addD rd_add (pd_v (pv 2)) (pd_lst (pda_cons pd_str (pda_cons pd_str (pda_cons pd_str (pda_cons pd_str (pda_cons pd_str (pda_cons pd_str pda_nil)))))))))) (psd_cons (psd_asg (ps_set (i := 2) scL_odd.nd rfl (by first | exact Or.inl rfl | exact Or.inr rfl) (pd_op op_addD rd_add (pd_v (pv 2)) (pd_lst (pda_cons pd_str (pda_cons pd_str (pda_cons pd_str (pda_cons pd_str pda_nil)))))))) (psd_one (psd_ret (pd_ix (pd_op op_addD rd_add (pd_v (pv 2)) (pd_lst (pda_cons pd_str (pda_cons (pd_op op_addD rd_add (pd_op op_addD rd_add (pd_op op_timesS rd_timesS pd_str pd_int) pd_str) (pd_op op_timesS rd_timesS pd_str pd_int)) (pda_cons (pd_v (pv 1)) (pda_cons pd_str (pda_cons pd_str pda_nil))))))) (pd_op op_mod rd_mod (pd_v (pv 0)) pd_int) (fun _ _ => rfl)))))))
abbrev sL_bent : Stmt := top 39
abbrev NL_bent : List Str := ["_law_text_here", "_law_cell", "_law_name", "_law_at_here", "_law_sign", "_law_way", "_law_pieces", "_law_one", "_law_other", "_law_kept"]
theorem scL_bent : FnScope NL_bent ["_law_text_here", "_law_cell", "_law_name"] (defScope sL_bent) := ⟨rfl, rfl, rfl, by decide +kernel, rfl, by decide +kernel, by decide +kernel⟩
def gL_bent (FL_odd : List PyData → Option PyData) : Rho → Option Out := (gSeq (gSet 3 (f2 modD (f2 fdivD (fV 1) (fC (.int 4))) (f2 addD (fCl (one1 lenD) (fCons (fV 0) fNil)) (fC (.int 1))))) (gSeq (gSet 4 (f2 ixD (fC (.str "()', ynotaduwis02345zA	")) (f2 modD (f2 fdivD (fV 1) (fC (.int 400))) (fC (.int 23))))) (gSeq (gSet 5 (f2 modD (fV 1) (fC (.int 8)))) (gSeq (gIf (fB (f2 eqP (fV 5) (fC (.int 0)))) (gRet (f2 addD (f2 addD (fSl (fV 0) fO0 (fO (fV 3))) (fV 4)) (fSl (fV 0) (fO (fV 3)) fO0))) gNx) (gSeq (gIf (fB (f2 eqP (fV 5) (fC (.int 1)))) (gRet (f2 addD (fSl (fV 0) fO0 (fO (fV 3))) (fSl (fV 0) (fO (f2 addD (fV 3) (fC (.int 1)))) fO0))) gNx) (gSeq (gIf (fB (f2 eqP (fV 5) (fC (.int 2)))) (gRet (f2 addD (f2 addD (fSl (fV 0) fO0 (fO (fV 3))) (fV 4)) (fSl (fV 0) (fO (f2 addD (fV 3) (fC (.int 1)))) fO0))) gNx) (gSeq (gIf (fB (f2 eqP (fV 5) (fC (.int 3)))) (gSeq (gOwnF 6 (fMtF splitF (fV 0) (fCons (fC (.str ", ")) fNil))) (gSeq (gSet 7 (f2 modD (f2 fdivD (fV 1) (fC (.int 8))) (f1 (flatG lenD) (fOwn 6)))) (gSeq (gSet 8 (f2 modD (f2 fdivD (fV 1) (fC (.int 80))) (f1 (flatG lenD) (fOwn 6)))) (gSeq (gSet 9 (fIxO 6 (fV 7))) (gSeq (gSeti 6 (fIxO 6 (fV 8)) (fV 7)) (gSeq (gSeti 6 (fV 9) (fV 8)) (fun ρ => (gRet (fMt joinD (fC (.str ", ")) (fCons (fV 6) fNil))) (frz 6 ρ)))))))) gNx) (gSeq (gIf (fB (f2 eqP (fV 5) (fC (.int 4)))) (gRet (fCa 2 FL_odd (fCons (f2 fdivD (fV 1) (fC (.int 8))) (fCons (fV 2) fNil)))) gNx) (gRet (fV 0))))))))))
theorem okL_bent {k : Nat} {FL_odd : List PyData → Option PyData} (hB : Bl mg) (D : Df K mg "_law_bent" sL_bent ["_law_text_here", "_law_cell", "_law_name"]) (cL_odd : Kn P w K mg base k 2 "_law_odd" FL_odd) : Kn P w K mg base (k + 1) 3 "_law_bent" (fnD 10 (gL_bent FL_odd)) := by
  refine kn_of (P := P) (w := w) (base := base) (N := NL_bent) (ps := ["_law_text_here", "_law_cell", "_law_name"]) (g := gL_bent FL_odd) D scL_bent fun f cdv A outer s H E hr => ?_
  exact (psd_cons (psd_asg (ps_set (i := 3) scL_bent.nd rfl (by first | exact Or.inl rfl | exact Or.inr rfl) (pd_op op_mod rd_mod (pd_op op_fdiv rd_fdiv (pd_v (pv 1)) pd_int) (pd_op op_addD rd_add (pd_bi call_lenD0 rc_len rfl hB.len (by decide +kernel) (pda_cons (pd_v (pv 0)) pda_nil)) pd_int)))) (psd_cons (psd_asg (ps_set (i := 4) scL_bent.nd rfl (by first | exact Or.inl rfl | exact Or.inr rfl) (pd_ix pd_str (pd_op op_mod rd_mod (pd_op op_fdiv rd_fdiv (pd_v (pv 1)) pd_int) pd_int) (fun _ _ => rfl)))) (psd_cons (psd_asg (ps_set (i := 5) scL_bent.nd rfl (by first | exact Or.inl rfl | exact Or.inr rfl) (pd_op op_mod rd_mod (pd_v (pv 1)) pd_int))) (psd_cons (psd_if (pdt_cmp (op_eqA hr.units) rd_eq (pd_v (pv 5)) pd_int (nomark _)) (psd_one (psd_ret (pd_op op_addD rd_add (pd_op op_addD rd_add (pd_sl (pd_v (pv 0)) pdo_none (pdo_some (pd_v (pv 3)))) (pd_v (pv 4))) (pd_sl (pd_v (pv 0)) (pdo_some (pd_v (pv 3))) pdo_none)))) psd_nil) (psd_cons (psd_if (pdt_cmp (op_eqA hr.units) rd_eq (pd_v (pv 5)) pd_int (nomark _)) (psd_one (psd_ret (pd_op op_addD rd_add (pd_sl (pd_v (pv 0)) pdo_none (pdo_some (pd_v (pv 3)))) (pd_sl (pd_v (pv 0)) (pdo_some (pd_op op_addD rd_add (pd_v (pv 3)) pd_int)) pdo_none)))) psd_nil) (psd_cons (psd_if (pdt_cmp (op_eqA hr.units) rd_eq (pd_v (pv 5)) pd_int (nomark _)) (psd_one (psd_ret (pd_op op_addD rd_add (pd_op op_addD rd_add (pd_sl (pd_v (pv 0)) pdo_none (pdo_some (pd_v (pv 3)))) (pd_v (pv 4))) (pd_sl (pd_v (pv 0)) (pdo_some (pd_op op_addD rd_add (pd_v (pv 3)) pd_int)) pdo_none)))) psd_nil) (psd_cons (psd_if (pdt_cmp (op_eqA hr.units) rd_eq (pd_v (pv 5)) pd_int (nomark _)) (psd_cons (psd_ownF (ps_set (i := 6) scL_bent.nd rfl (by first | exact Or.inl rfl | exact Or.inr rfl) (pdf_split (pd_v (pv 0)) (pda_cons pd_str pda_nil)))) (psd_cons (psd_asg (ps_set (i := 7) scL_bent.nd rfl (by first | exact Or.inl rfl | exact Or.inr rfl) (pd_op op_mod rd_mod (pd_op op_fdiv rd_fdiv (pd_v (pv 1)) pd_int) (pd_biO call_lenD0 rc_len rfl hB.len PySem.boot_len (pv 6))))) (psd_cons (psd_asg (ps_set (i := 8) scL_bent.nd rfl (by first | exact Or.inl rfl | exact Or.inr rfl) (pd_op op_mod rd_mod (pd_op op_fdiv rd_fdiv (pd_v (pv 1)) pd_int) (pd_biO call_lenD0 rc_len rfl hB.len PySem.boot_len (pv 6))))) (psd_cons (psd_asg (ps_set (i := 9) scL_bent.nd rfl (by first | exact Or.inl rfl | exact Or.inr rfl) (pd_ixO (pv 6) (pd_v (pv 7)) (fun _ _ => rfl)))) (psd_cons (psd_seti (ps_asg (pd_ixO (pv 6) (pd_v (pv 8)) (fun _ _ => rfl)) (pg_sub (pv 6) (pd_v (pv 7)) set_list))) (psd_cons (psd_seti (ps_asg (pd_v (pv 9)) (pg_sub (pv 6) (pd_v (pv 8)) set_list))) (psd_one (psd_frz 6 (psd_ret (pd_bm PySem.F.plainAttrs_str PySem.F.slot_str_join PySem.F.type_str_join mt_join rm_join ty_join pd_str (pda_cons (pd_v (pv 6)) pda_nil))))))))))) psd_nil) (psd_cons (psd_if (pdt_cmp (op_eqA hr.units) rd_eq (pd_v (pv 5)) pd_int (nomark _)) (psd_one (psd_ret (pd_kn cL_odd hr (pda_cons (pd_op op_fdiv rd_fdiv (pd_v (pv 1)) pd_int) (pda_cons (pd_v (pv 2)) pda_nil))))) psd_nil) (psd_one (psd_ret (pd_v (pv 0))))))))))))
abbrev sL_same : Stmt := top 40
abbrev NL_same : List Str := ["_law_found", "_law_due_here", "_law_one", "_law_other"]
theorem scL_same : FnScope NL_same ["_law_found", "_law_due_here"] (defScope sL_same) := ⟨rfl, rfl, rfl, by decide +kernel, rfl, by decide +kernel, by decide +kernel⟩
def gL_same (FL_same : List PyData → Option PyData) : Rho → Option Out := (gSeq (gIf (fB (f1 (isiD "tuple") (fV 1))) (gSeq (gIf (fOrT (fNotT (fB (f1 (isiD "tuple") (fV 0)))) (fB (f2 neP (fCl (one1 lenD) (fCons (fV 0) fNil)) (fCl (one1 lenD) (fCons (fV 1) fNil))))) (gRet (fC (.bool false))) gNx) (gRet (fCl (one1 allD) (fCons (fLc (fZT (fV 0) (fV 1)) (b2 2 3) tYesD (fCa 2 FL_same (fCons (fV 2) (fCons (fV 3) fNil))) [2, 3]) fNil)))) gNx) (gRet (fAnd (fNot (f1 (isiD "bool") (fV 0))) (fAnd (f2 eqP (f1 (isiD "int") (fV 0)) (f1 (isiD "int") (fV 1))) (f2 eqP (fV 0) (fV 1))))))
theorem okL_same {k : Nat} {FL_same : List PyData → Option PyData} (hB : Bl mg) (D : Df K mg "_law_same" sL_same ["_law_found", "_law_due_here"]) (cL_same : Kn P w K mg base k 2 "_law_same" FL_same) : Kn P w K mg base (k + 1) 2 "_law_same" (fnD 4 (gL_same FL_same)) := by
  refine kn_of (P := P) (w := w) (base := base) (N := NL_same) (ps := ["_law_found", "_law_due_here"]) (g := gL_same FL_same) D scL_same fun f cdv A outer s H E hr => ?_
  exact (psd_cons (psd_if (pdt_val (pd_isi rfl hB.isinstance (pd_v (pv 1)) (pe_bltn rfl hB.tuple (by decide +kernel) rfl))) (psd_cons (psd_if (pdt_w (pdw_or (pdt_not (pdt_val (pd_isi rfl hB.isinstance (pd_v (pv 0)) (pe_bltn rfl hB.tuple (by decide +kernel) rfl)))) (pdw_or1 (pdt_cmp (op_neA hr.units) rd_ne (pd_bi call_lenD0 rc_len rfl hB.len (by decide +kernel) (pda_cons (pd_v (pv 0)) pda_nil)) (pd_bi call_lenD0 rc_len rfl hB.len (by decide +kernel) (pda_cons (pd_v (pv 1)) pda_nil)) (nomark _))))) (psd_one (psd_ret pd_bl)) psd_nil) (psd_one (psd_ret (pd_bi (cr_all rfl) rc_all rfl hB.all (by decide +kernel) (pda_cons (pd_lc gd_2 (by decide) rfl scL_same.nd (pdi_zipT (by rfl) hB.zip (pd_v (pv 0)) (pd_v (pv 1))) (blkOk_by (N := NL_same) (sc := defScope sL_same) (own := [("_law_one", 2), ("_law_other", 3)]) (by decide +kernel)) (fun _ _ _ _ _ => (pg_tup rfl (pgs_cons (pg_name (i := 2) scL_same.nd rfl (by first | exact Or.inl rfl | exact Or.inr rfl)) (pgs_cons (pg_name (i := 3) scL_same.nd rfl (by first | exact Or.inl rfl | exact Or.inr rfl)) pgs_nil)))) (fun _ _ _ _ _ => pdts_nil) (fun _ _ _ _ _ => (pd_kn cL_same hr (pda_cons (pd_v (pv 2)) (pda_cons (pd_v (pv 3)) pda_nil))))) pda_nil))))) psd_nil) (psd_one (psd_ret (pd_and (pd_not (pd_isi rfl hB.isinstance (pd_v (pv 0)) (pe_bltn rfl hB.bool (by decide +kernel) rfl))) (pd_and (pd_cmp (op_eqA hr.units) rd_eq (pd_isi rfl hB.isinstance (pd_v (pv 0)) (pe_bltn rfl hB.int (by decide +kernel) rfl)) (pd_isi rfl hB.isinstance (pd_v (pv 1)) (pe_bltn rfl hB.int (by decide +kernel) rfl)) (nomark _)) (pd_one (pd_cmp (op_eqA hr.units) rd_eq (pd_v (pv 0)) (pd_v (pv 1)) (nomark _))))))))
abbrev sL_built : Stmt := top 31
abbrev NL_built : List Str := ["_law_script", "_law_names_here", "_law_most", "_law_spot", "_law_deep"]
theorem scL_built : FnScope NL_built ["_law_script", "_law_names_here", "_law_most"] (defScope sL_built) := ⟨rfl, rfl, rfl, by decide +kernel, rfl, by decide +kernel, by decide +kernel⟩
def gL_built (FL_cell_at : List PyData → Option PyData) (FL_fit : List PyData → Option PyData) (FL_made : List PyData → List PyData → Option (PyData × List PyData)) : Rho → Option Out := (gSeq (gOwn 3 (fCons (fC (.int 2)) fNil)) (gSeq (gSet 4 (f2 addD (fC (.int 5)) (fCl (one1 intD) (fCons (f2 eqP (f2 modD (fCa 2 FL_cell_at (fCons (fV 0) (fCons (fC (.int 1)) fNil))) (fC (.int 8))) (fC (.int 5))) fNil)))) (gRetE (fCaE 2 FL_fit (fE1 (fCaC 5 FL_made 3 (fV 0) (fCons (fV 1) (fCons (fV 4) (fCons (fC (.bool true)) fNil)))) (fCons (fV 2) fNil))))))
theorem okL_built {k : Nat} {FL_cell_at : List PyData → Option PyData} {FL_fit : List PyData → Option PyData} {FL_made : List PyData → List PyData → Option (PyData × List PyData)} (hB : Bl mg) (D : Df K mg "_law_built" sL_built ["_law_script", "_law_names_here", "_law_most"]) (cL_cell_at : Kn P w K mg base k 2 "_law_cell_at" FL_cell_at) (cL_fit : Kn P w K mg base k 2 "_law_fit" FL_fit) (cL_made : KnC P w K mg base k 5 "_law_made" FL_made) : Kn P w K mg base (k + 1) 3 "_law_built" (fnD 5 (gL_built FL_cell_at FL_fit FL_made)) := by
  refine kn_of (P := P) (w := w) (base := base) (N := NL_built) (ps := ["_law_script", "_law_names_here", "_law_most"]) (g := gL_built FL_cell_at FL_fit FL_made) D scL_built fun f cdv A outer s H E hr => ?_
  exact (psd_cons (psd_own (ps_set (i := 3) scL_built.nd rfl (by first | exact Or.inl rfl | exact Or.inr rfl) (pe_lst (pda_cons pd_int pda_nil)))) (psd_cons (psd_asg (ps_set (i := 4) scL_built.nd rfl (by first | exact Or.inl rfl | exact Or.inr rfl) (pd_op op_addD rd_add pd_int (pd_ty call_int1 rc_int rfl hB.int (by decide +kernel) (pda_cons (pd_cmp (op_eqA hr.units) rd_eq (pd_op op_mod rd_mod (pd_kn cL_cell_at hr (pda_cons (pd_v (pv 0)) (pda_cons pd_int pda_nil))) pd_int) pd_int (nomark _)) pda_nil))))) (psd_one (psd_retE (pde_kn cL_fit hr (pdae_first (pde_knC cL_made hr (pd_v (pv 0)) (pv 3) (pda_cons (pd_v (pv 1)) (pda_cons (pd_v (pv 4)) (pda_cons pd_bl pda_nil)))) (pda_cons (pd_v (pv 2)) pda_nil)))))))

abbrev sL_refused : Stmt := top 41
abbrev NL_refused : List Str := ["_law_thing", "e", "_law_others"]
theorem scL_refused : FnScope NL_refused ["_law_thing"] (defScope sL_refused) := ⟨rfl, rfl, rfl, by decide +kernel, rfl, by decide +kernel, by decide +kernel⟩
def gL_refused (Fread : List PyData → Option (Except Str PyData)) : Rho → Option Out := gSeq (gTry 1 "BadText" (fXc 1 Fread (fCons (fV 0) fNil))) (gRet (fC (.bool false)))
theorem okL_refused {k : Nat} {Fread : List PyData → Option (Except Str PyData)} (hi : mg "isinstance" = none) (hv : mg "ValueError" = none) (D : Df K mg "_law_refused" sL_refused ["_law_thing"]) (cread : KnX P w K mg base k 1 "read" Fread) (gBadMark : mg "BadMark" = some (.ref (Tbs.Cl "BadMark"))) (gBadStatement : mg "BadStatement" = some (.ref (Tbs.Cl "BadStatement"))) (gMixed : mg "Mixed" = some (.ref (Tbs.Cl "Mixed"))) (gNoMark : mg "NoMark" = some (.ref (Tbs.Cl "NoMark"))) (gTooMany : mg "TooMany" = some (.ref (Tbs.Cl "TooMany"))) (gBadText : mg "BadText" = some (.ref (Tbs.Cl "BadText"))) (gSaidError : mg "SaidError" = some (.ref (Tbs.Cl "SaidError")))
    (eB : ExcC K (Tbs.Cl "BadText")) (hx : PySem.W.exmOne K (.ref (Tbs.Cl "BadText")) (.ref (Tbs.Cl "SaidError")) = some true) (kB : PySem.W.kitOne K (.ref (Tbs.Cl "BadText")) (.ref (Tbs.Cl "BadText")) = some true) (kV : PySem.W.kitOne K (.ref (Tbs.Cl "BadText")) (.type "ValueError") = some true)
    (kN : PySem.W.kitAny K (.ref (Tbs.Cl "BadText")) [.ref (Tbs.Cl "BadMark"), .ref (Tbs.Cl "BadStatement"), .ref (Tbs.Cl "Mixed"), .ref (Tbs.Cl "NoMark"), .ref (Tbs.Cl "TooMany")] = some false) : Kn P w K mg base (k + 1) 1 "_law_refused" (fnD 3 (gL_refused Fread)) := by
  refine kn_of (P := P) (w := w) (base := base) (N := NL_refused) (ps := ["_law_thing"]) (g := gL_refused Fread) D scL_refused fun f cdv A outer s H E hr => ?_
  refine psd_cons (psd_try (ie := 1) (m := "BadText") (CS := Tbs.Cl "SaidError") rfl rfl scL_refused.nd rfl rfl ⟨rfl, by decide, Or.inl gSaidError⟩ hx (fun W pn xe tk => px_kn cread hr tk (pda_cons (pd_v (pv 0)) pda_nil)) (fun _ _ => rfl) (fun a oe pn hz hf => ?_)) (psd_one (psd_ret pd_bl))
  refine pss_imp (pss_cons (ps_set (i := 2) scL_refused.nd rfl (by first | exact Or.inl rfl | exact Or.inr rfl) (pe_callB (call_isET eB hz hf) (by rfl) hi (by decide +kernel) (pa_cons (pv 1) (pa_cons (pe_tup (pa_cons (pe_glob (v := .ref (Tbs.Cl "BadMark")) rfl gBadMark rfl) (pa_cons (pe_glob (v := .ref (Tbs.Cl "BadStatement")) rfl gBadStatement rfl) (pa_cons (pe_glob (v := .ref (Tbs.Cl "Mixed")) rfl gMixed rfl) (pa_cons (pe_glob (v := .ref (Tbs.Cl "NoMark")) rfl gNoMark rfl) (pa_cons (pe_glob (v := .ref (Tbs.Cl "TooMany")) rfl gTooMany rfl) pa_nil)))))) pa_nil)))) (pss_one (ps_ret (pe_and (pe_callB (call_isE eB hz hf) (by rfl) hi (by decide +kernel) (pa_cons (pv 1) (pa_cons (pe_glob (v := .ref (Tbs.Cl "BadText")) rfl gBadText rfl) pa_nil))) (pe_and (pe_callB (call_isE eB hz hf) (by rfl) hi (by decide +kernel) (pa_cons (pv 1) (pa_cons (pe_bltn (v := .ty "ValueError") rfl hv (by decide +kernel) rfl) pa_nil))) (pe_one (pe_not (pv 2)))))))) fun D σ H ⟨h1, h2, q⟩ => ?_
  have g1 : ∀ v : V, (σ.set 2 (some v))[1]? = some (some (.ref a)) := fun v => by rw [List.getElem?_set_ne (by decide)]; exact h1
  refine ⟨.ref a, h1, by show 5 ≤ sizeLine; decide, fun tp htp => ⟨tp, _, _, false, rfl, upd_same, .cons (.own _) (.cons (.own _) (.cons (.own _) (.cons (.own _) (.cons (.own _) .nil)))), kN, ?_⟩⟩
  refine ⟨.ref a, g1 _, .ref (Tbs.Cl "BadText"), .ref (Tbs.Cl "BadText"), true, rfl, fun u r => r, kB, true, rfl, ?_⟩
  rw [if_pos rfl]
  refine ⟨.ref a, g1 _, .ty "ValueError", .type "ValueError", true, rfl, fun u r => r, kV, true, rfl, ?_⟩
  rw [if_pos rfl]
  exact ⟨.bl false, List.getElem?_set_self h2, false, rfl, q tp _ htp⟩

abbrev slaw : Stmt := top 42
abbrev Nlaw : List Str := ["_law_script", "_law_names_here", "_law_statement", "_law_text_here", "_law_bent_here", "_law_one", "_law_due_here"]
theorem sclaw : FnScope Nlaw ["_law_script"] (defScope slaw) := ⟨rfl, rfl, rfl, by decide +kernel, rfl, by decide +kernel, by decide +kernel⟩
def glaw (FL_cell_at : List PyData → Option PyData) (FL_names : List PyData → Option PyData) (FL_built : List PyData → Option PyData) (Fwritten : List PyData → Option PyData) (FL_text : List PyData → Option PyData) (FL_refused : List PyData → Option PyData) (FL_bent : List PyData → Option PyData) (FL_due : List PyData → Option PyData) (Fread : List PyData → Option PyData) (FL_same : List PyData → Option PyData) : Rho → Option Out := (gSeq (gSet 1 (fCa 1 FL_names (fCons (fCa 2 FL_cell_at (fCons (fV 0) (fCons (fC (.int 0)) fNil))) fNil))) (gSeq (gSet 2 (fCa 3 FL_built (fCons (fV 0) (fCons (fV 1) (fCons (fC (.int 99)) fNil))))) (gSeq (gSet 3 (fCa 1 Fwritten (fCons (fV 2) fNil))) (gSeq (gIf (fOrT (fNotT (fB (f1 (isiD "str") (fV 3)))) (fB (f2 neP (fV 3) (fCa 1 FL_text (fCons (fV 2) fNil))))) (gRet (fC (.bool false))) gNx) (gSeq (gIf (fNotT (fB (fCa 1 FL_refused (fCons (f2 ixD (fLst (fCons (fC .none) (fCons (fC (.int 5)) (fCons (fLst (fCons (fC (.str "yes")) fNil)) (fCons (fTup (fCons (fC (.str "yes")) fNil)) (fCons (fC (.bool true)) fNil)))))) (f2 modD (f2 fdivD (fCa 2 FL_cell_at (fCons (fV 0) (fCons (fC (.int 1)) fNil))) (fC (.int 8))) (fC (.int 5)))) fNil)))) (gRet (fC (.bool false))) gNx) (gSeq (gSet 4 (fCa 3 FL_bent (fCons (fV 3) (fCons (f2 addD (f2 fdivD (fCa 2 FL_cell_at (fCons (fV 0) (fCons (fC (.int 1)) fNil))) (fC (.int 40))) (fCa 2 FL_cell_at (fCons (fV 0) (fCons (fC (.int 0)) fNil)))) (fCons (f2 ixD (fV 1) (fC (.int 0))) fNil))))) (gSeq (gFor (fSeq (fLst (fCons (fV 3) (fCons (fV 4) fNil)))) (b1 5) (gSeq (gSet 6 (fCa 1 FL_due (fCons (fV 5) fNil))) (gSeq (gIf (fAndT (fB (f2 isNoneD (fV 6) (fC .none))) (fNotT (fB (fCa 1 FL_refused (fCons (fV 5) fNil))))) (gRet (fC (.bool false))) gNx) (gIf (fAndT (fB (f2 notNoneD (fV 6) (fC .none))) (fOrT (fB (fCa 1 FL_refused (fCons (fV 5) fNil))) (fNotT (fB (fCa 2 FL_same (fCons (fCa 1 Fread (fCons (fV 5) fNil)) (fCons (fV 6) fNil))))))) (gRet (fC (.bool false))) gNx)))) (gRet (fC (.bool true))))))))))
theorem oklaw {k : Nat} {FL_cell_at : List PyData → Option PyData} {FL_names : List PyData → Option PyData} {FL_built : List PyData → Option PyData} {Fwritten : List PyData → Option PyData} {FL_text : List PyData → Option PyData} {FL_refused : List PyData → Option PyData} {FL_bent : List PyData → Option PyData} {FL_due : List PyData → Option PyData} {Fread : List PyData → Option PyData} {FL_same : List PyData → Option PyData} {f : Addr} {fd : FuncData} (hB : Bl mg) (F : Fun K "law" "law" slaw f fd) (cL_cell_at : Kn P w K mg base k 2 "_law_cell_at" FL_cell_at) (cL_names : Kn P w K mg base k 1 "_law_names" FL_names) (cL_built : Kn P w K mg base k 3 "_law_built" FL_built) (cwritten : Kn P w K mg base k 1 "written" Fwritten) (cL_text : Kn P w K mg base k 1 "_law_text" FL_text) (cL_refused : Kn P w K mg base k 1 "_law_refused" FL_refused) (cL_bent : Kn P w K mg base k 3 "_law_bent" FL_bent) (cL_due : Kn P w K mg base k 1 "_law_due" FL_due) (cread : Kn P w K mg base k 1 "read" Fread) (cL_same : Kn P w K mg base k 2 "_law_same" FL_same) : FnOk P w K mg base CX0 (k + 1) f fd ["_law_script"] (spD K 1 (fnD 7 (glaw FL_cell_at FL_names FL_built Fwritten FL_text FL_refused FL_bent FL_due Fread FL_same))) := by
  refine fn_ok (P := P) (w := w) (base := base) (N := Nlaw) (ps := ["_law_script"]) (g := glaw FL_cell_at FL_names FL_built Fwritten FL_text FL_refused FL_bent FL_due Fread FL_same) F sclaw fun cdv A outer s H E hr => ?_
  exact (psd_cons (psd_asg (ps_set (i := 1) sclaw.nd rfl (by first | exact Or.inl rfl | exact Or.inr rfl) (pd_kn cL_names hr (pda_cons (pd_kn cL_cell_at hr (pda_cons (pd_v (pv 0)) (pda_cons pd_int pda_nil))) pda_nil)))) (psd_cons (psd_asg (ps_set (i := 2) sclaw.nd rfl (by first | exact Or.inl rfl | exact Or.inr rfl) (pd_kn cL_built hr (pda_cons (pd_v (pv 0)) (pda_cons (pd_v (pv 1)) (pda_cons pd_int pda_nil)))))) (psd_cons (psd_asg (ps_set (i := 3) sclaw.nd rfl (by first | exact Or.inl rfl | exact Or.inr rfl) (pd_kn cwritten hr (pda_cons (pd_v (pv 2)) pda_nil)))) (psd_cons (psd_if (pdt_w (pdw_or (pdt_not (pdt_val (pd_isi rfl hB.isinstance (pd_v (pv 3)) (pe_bltn rfl hB.str (by decide +kernel) rfl)))) (pdw_or1 (pdt_cmp (op_neA hr.units) rd_ne (pd_v (pv 3)) (pd_kn cL_text hr (pda_cons (pd_v (pv 2)) pda_nil)) (nomark _))))) (psd_one (psd_ret pd_bl)) psd_nil) (psd_cons (psd_if (pdt_not (pdt_val (pd_kn cL_refused hr (pda_cons (pd_ix (pd_lst (pda_cons pd_non (pda_cons pd_int (pda_cons (pd_lst (pda_cons pd_str pda_nil)) (pda_cons (pd_tup (pda_cons pd_str pda_nil)) (pda_cons pd_bl pda_nil)))))) (pd_op op_mod rd_mod (pd_op op_fdiv rd_fdiv (pd_kn cL_cell_at hr (pda_cons (pd_v (pv 0)) (pda_cons pd_int pda_nil))) pd_int) pd_int) (fun _ _ => rfl)) pda_nil)))) (psd_one (psd_ret pd_bl)) psd_nil) (psd_cons (psd_asg (ps_set (i := 4) sclaw.nd rfl (by first | exact Or.inl rfl | exact Or.inr rfl) (pd_kn cL_bent hr (pda_cons (pd_v (pv 3)) (pda_cons (pd_op op_addD rd_add (pd_op op_fdiv rd_fdiv (pd_kn cL_cell_at hr (pda_cons (pd_v (pv 0)) (pda_cons pd_int pda_nil))) pd_int) (pd_kn cL_cell_at hr (pda_cons (pd_v (pv 0)) (pda_cons pd_int pda_nil)))) (pda_cons (pd_ix (pd_v (pv 1)) pd_int (fun _ _ => rfl)) pda_nil)))))) (psd_cons (psd_for gd_1 PassesOwn.never rfl (pdi_seq (pd_lst (pda_cons (pd_v (pv 3)) (pda_cons (pd_v (pv 4)) pda_nil)))) (pg_name (i := 5) sclaw.nd rfl (by first | exact Or.inl rfl | exact Or.inr rfl)) (psd_cons (psd_asg (ps_set (i := 6) sclaw.nd rfl (by first | exact Or.inl rfl | exact Or.inr rfl) (pd_kn cL_due hr (pda_cons (pd_v (pv 5)) pda_nil)))) (psd_cons (psd_if (pdt_w (pdw_and (pdt_cmp op_isN rd_isN (pd_v (pv 6)) pd_non (nomark _)) (pdw_and1 (pdt_not (pdt_val (pd_kn cL_refused hr (pda_cons (pd_v (pv 5)) pda_nil))))))) (psd_one (psd_ret pd_bl)) psd_nil) (psd_one (psd_if (pdt_w (pdw_and (pdt_cmp op_notN rd_notN (pd_v (pv 6)) pd_non (nomark _)) (pdw_and1 (pdt_w (pdw_or (pdt_val (pd_kn cL_refused hr (pda_cons (pd_v (pv 5)) pda_nil))) (pdw_or1 (pdt_not (pdt_val (pd_kn cL_same hr (pda_cons (pd_kn cread hr (pda_cons (pd_v (pv 5)) pda_nil)) (pda_cons (pd_v (pv 6)) pda_nil))))))))))) (psd_one (psd_ret pd_bl)) psd_nil))))) (psd_one (psd_ret pd_bl)))))))))
end
end My

namespace My
open PySem L2 Dn
/-! ### statements -/
inductive Sm | mark (m : Str) | yes | not (s : Sm) | and (s t : Sm) | or (s t : Sm) | nxt (s : Sm) | unt (s t : Sm) | wth (k : Int) (s : Sm) | bef (s : Sm) | sin (s t : Sm)
  deriving DecidableEq
def enc : Sm → PyData
  | .mark m => .tuple [.str "mark", .str m]
  | .yes => .tuple [.str "yes"]
  | .not s => .tuple [.str "not", enc s]
  | .and s t => .tuple [.str "and", enc s, enc t]
  | .or s t => .tuple [.str "or", enc s, enc t]
  | .nxt s => .tuple [.str "next", enc s]
  | .unt s t => .tuple [.str "until", enc s, enc t]
  | .wth k s => .tuple [.str "within", .int k, enc s]
  | .bef s => .tuple [.str "before", enc s]
  | .sin s t => .tuple [.str "since", enc s, enc t]
theorem tyN_enc (s : Sm) : tyN (enc s) = "tuple" := by cases s <;> rfl
@[simp] def Sm.depth : Sm → Nat
  | .mark _ | .yes => 1
  | .not s | .nxt s | .wth _ s | .bef s => s.depth + 1
  | .and s t | .or s t | .unt s t | .sin s t => max s.depth t.depth + 1
@[simp] def Sm.parts : Sm → List Sm
  | .mark _ | .yes => []
  | .not s | .nxt s | .wth _ s | .bef s => [s]
  | .and s t | .or s t | .unt s t | .sin s t => [s, t]
@[simp] def Sm.word : Sm → Str
  | .mark _ => "mark"
  | .yes => "yes"
  | .not _ => "not"
  | .and _ _ => "and"
  | .or _ _ => "or"
  | .nxt _ => "next"
  | .unt _ _ => "until"
  | .wth _ _ => "within"
  | .bef _ => "before"
  | .sin _ _ => "since"
/-- what stands behind the word -/
def Sm.tail : Sm → List PyData
  | .mark m => [.str m]
  | .yes => []
  | .wth k s => [.int k, enc s]
  | s => s.parts.map enc
theorem enc_eq (s : Sm) : enc s = .tuple (.str s.word :: s.tail) := by cases s <;> rfl
/-! ### rows -/
def sinR : List Bool → List Bool → Bool → List Bool
  | a :: as, b :: bs, h => (b || (a && h)) :: sinR as bs (b || (a && h))
  | _, _, _ => []
def wthR (k : Int) (r : List Bool) : List Bool := (List.range r.length).map fun (i : Nat) => (cutL r (some (i : Int)) (some ((i : Int) + k + 1))).any id
def rows : Sm → List Str → List Bool
  | .mark m, r => r.map fun x => sEq x m
  | .yes, r => r.map fun _ => true
  | .not s, r => (rows s r).map (!·)
  | .and s t, r => List.zipWith (· && ·) (rows s r) (rows t r)
  | .or s t, r => List.zipWith (· || ·) (rows s r) (rows t r)
  | .nxt s, r => (rows s r ++ [false]).drop 1
  | .unt s t, r => (sinR (rows s r).reverse (rows t r).reverse false).reverse
  | .wth k s, r => wthR k (rows s r)
  | .bef s, r => (false :: rows s r).dropLast
  | .sin s t, r => sinR (rows s r) (rows t r) false
theorem sinR_len : ∀ (a b : List Bool) (h : Bool), a.length = b.length → (sinR a b h).length = a.length
  | [], _, _, _ => by simp [sinR]
  | a :: as, [], _, h => by simp at h
  | a :: as, b :: bs, h, e => by simp [sinR, sinR_len as bs _ (by simpa using e)]
theorem rows_len : ∀ (s : Sm) (r : List Str), (rows s r).length = r.length
  | .mark m, r => by simp [rows]
  | .yes, r => by simp [rows]
  | .not s, r => by simp [rows, rows_len s r]
  | .and s t, r => by simp [rows, rows_len s r, rows_len t r]
  | .or s t, r => by simp [rows, rows_len s r, rows_len t r]
  | .nxt s, r => by simp [rows, rows_len s r]
  | .unt s t, r => by simp [rows, sinR_len, rows_len s r, rows_len t r]
  | .wth k s, r => by simp [rows, wthR, rows_len s r]
  | .bef s, r => by simp [rows, rows_len s r]
  | .sin s t, r => by simp [rows, sinR_len, rows_len s r, rows_len t r]
/-! ### the data of runs and rows -/
def dS (r : List Str) : PyData := .list (r.map .str)
def dB (r : List Bool) : PyData := .list (r.map .bool)
theorem kit_tt : kitB "tuple" "tuple" = some true := by decide +kernel
theorem kit_st : kitB "str" "tuple" = some false := by decide +kernel
theorem kit_it : kitB "int" "tuple" = some false := by decide +kernel
theorem isi_of {T : String} {x : PyData} {b : Bool} (hb : bareD x = true) (h : kitB (tyN x) T = some b) : isiD T x = some (.bool b) := by unfold isiD; rw [if_pos hb, h]; rfl
@[simp] theorem bare_enc (s : Sm) : bareD (enc s) = true := by cases s <;> rfl
@[simp] theorem isi_enc (s : Sm) : isiD "tuple" (enc s) = some (.bool true) := isi_of (bare_enc s) (by rw [tyN_enc, kit_tt])
@[simp] theorem isi_str (s : Str) : isiD "tuple" (.str s) = some (.bool false) := isi_of rfl kit_st
@[simp] theorem isi_int (i : Int) : isiD "tuple" (.int i) = some (.bool false) := isi_of rfl kit_it
@[simp] theorem sl_one (x : PyData) (xs : List PyData) : slD (some 1) none (.tuple (x :: xs)) = some (.tuple xs) := by
  have h : HT.sIx (x :: xs).length 0 (some 1) = 1 := by
    rw [show (1 : Int) = ((1 : Nat) : Int) from rfl, HT.sIx_nat]; simp
  unfold slD
  simp only [h]
  rw [if_pos (by omega)]
  unfold cutL
  rw [h, HT.sIx_none]
  simp
@[simp] theorem sl_enc (s : Sm) : slD (some 1) none (enc s) = some (.tuple s.tail) := by rw [enc_eq, sl_one]
@[simp] theorem ix_word (s : Sm) : ixD (enc s) (.int 0) = some (.str s.word) := by rw [enc_eq]; simp
@[simp] theorem ix_mark (m : Str) : ixD (enc (.mark m)) (.int 1) = some (.str m) := by simp [enc]
@[simp] theorem ix_wth (k : Int) (s : Sm) : ixD (enc (.wth k s)) (.int 1) = some (.int k) := by simp [enc]
/-! ### the program's rows -/
def partsF : List PyData → Option PyData := fnD 2 gparts_of
@[simp] theorem parts_eq (s : Sm) : partsF [enc s] = some (.list (s.parts.map enc)) := by
  unfold partsF
  cases s <;> simp [fnD_ap, startR, gparts_of, Sm.tail]
theorem range_n (r : List Str) (hr : r.length ≤ 1000) : range1D (.int (r.length : Int)) = some ((List.range r.length).map fun (i : Nat) => PyData.int (i : Int)) := by
  rw [range1D_n (by omega)]
  simp [Dn.intsFrom]
theorem range_len (n : Nat) (h : n ≤ 1000) : ((List.range n).map fun (i : Nat) => PyData.int (i : Int)).length ≤ 100000 := by simp; omega
theorem cut_tail (x : Bool) (as : List Bool) : cutL (x :: as) none (some (-1)) = (x :: as).dropLast := by
  have h : HT.sIx (x :: as).length (x :: as).length (some (-1)) = as.length := by
    unfold HT.sIx
    simp
    omega
  unfold cutL
  rw [h, HT.sIx_none, List.dropLast_eq_take]
  simp
theorem cut_head (as : List Bool) (h0 : 0 < as.length) : cutL as (some 1) none = as.drop 1 := by
  have h : HT.sIx as.length 0 (some 1) = 1 := by
    rw [show (1 : Int) = ((1 : Nat) : Int) from rfl, HT.sIx_nat]; omega
  unfold cutL
  rw [h, HT.sIx_none, List.take_of_length_le (by simp)]
theorem cut_map (f : Bool → PyData) (as : List Bool) (l u : Option Int) : cutL (as.map f) l u = (cutL as l u).map f := by
  unfold cutL
  simp [List.map_drop, List.map_take]
theorem zipD_len {as bs : List PyData} (e : as.length = bs.length) : (zipD as bs).length = as.length := by simp [zipD, e]
end My

namespace My
open PySem L2 Dn TL
/-! ### texts of letters -/
def LET : Str := "abcdefghijklmnopqrstuvwxyz"
theorem tl_LET : tl LET = (List.range 26).map (97 + ·) := by decide +kernel
theorem len_LET : LET.length = 26 := by rw [len_tl, tl_LET]; simp
def one (c : Nat) : Str := ⟨#[c]⟩
@[simp] theorem tl_one (c : Nat) : tl (one c) = [c] := rfl
@[simp] theorem len_one (c : Nat) : (one c).length = 1 := rfl
theorem ix_LET (z : Int) : ixD (.str LET) (.int (z % 26)) = some (.str (one (97 + (z % 26).toNat))) := by
  have h0 : 0 ≤ z % 26 := Int.emod_nonneg _ (by decide)
  have h1 : z % 26 < 26 := Int.emod_lt_of_pos _ (by decide)
  have e : atI LET.cps.toList (z % 26) = some (97 + (z % 26).toNat) := by
    have q : atI LET.cps.toList (((z % 26).toNat : Nat) : Int) = some (97 + (z % 26).toNat) := by
      apply atI_nat
      have : LET.cps.toList = (List.range 26).map (97 + ·) := tl_LET
      rw [this, List.getElem?_map, List.getElem?_range (by omega)]
      rfl
    rwa [show (((z % 26).toNat : Nat) : Int) = z % 26 by omega] at q
  unfold ixD
  simp only
  rw [if_pos (by rw [len_LET]; decide), e]
  rfl
/-- 1 to 6 small letters -/
structure Ltr (z : Str) : Prop where
  lo : 1 ≤ z.length
  hi : z.length ≤ 6
  ab : ∀ c ∈ tl z, 97 ≤ c ∧ c ≤ 122
theorem len_app (a b : Str) : (a ++ b).length = a.length + b.length := by rw [len_tl, tl_append, len_tl, len_tl, List.length_append]
theorem tl_cut (z : Str) (l u : Option Int) : tl (cutS z l u) = cutL (tl z) l u := by
  unfold cutS cutL
  rw [len_tl]
theorem cut_to (z : Str) (k : Nat) : tl (cutS z none (some (k : Int))) = (tl z).take k := by
  rw [tl_cut]
  unfold cutL
  rw [HT.sIx_nat, HT.sIx_none]
  simp only [List.drop_zero, Nat.sub_zero]
  rcases Nat.le_total k (tl z).length with h | h
  · rw [Nat.min_eq_left h]
  · rw [Nat.min_eq_right h, List.take_of_length_le (Nat.le_refl _), List.take_of_length_le h]
theorem cut_mid (z : Str) (j k : Nat) (h : k ≤ (tl z).length) : tl (cutS z (some (j : Int)) (some (k : Int))) = ((tl z).drop j).take (k - j) := by
  rw [tl_cut]
  unfold cutL
  rw [HT.sIx_nat, HT.sIx_nat, Nat.min_eq_left h]
  rcases Nat.le_total j (tl z).length with h2 | h2
  · rw [Nat.min_eq_left h2]
  · rw [Nat.min_eq_right h2, List.drop_of_length_le (Nat.le_refl _), List.drop_of_length_le h2]
    simp
theorem slD_s {z : Str} {l u : Option Int} (h : z.length ≤ 100000) : slD l u (.str z) = some (.str (cutS z l u)) := if_pos h
/-! ### the names -/
def codes (c : Int) : List Nat := (List.range 6).map fun (j : Nat) => 97 + ((c / 7 + 5 * (j : Int)) % 26).toNat
def rest (c : Int) : Str := Txt.join (Str.ofString "") ((codes c).map one)
theorem tl_rest (c : Int) : tl (rest c) = codes c := by
  unfold rest
  rw [join_eq, tl_join]
  simp only [codes, List.range, List.range.loop, List.map_cons, List.map_nil, tl_one, joinL]
  have e : tl (Str.ofString "") = [] := rfl
  simp [e]
theorem len_rest (c : Int) : (rest c).length = 6 := by rw [len_tl, tl_rest]; simp [codes]
theorem codes_ab (c : Int) : ∀ x ∈ codes c, 97 ≤ x ∧ x ≤ 122 := by
  intro x hx
  simp only [codes, List.mem_map] at hx
  obtain ⟨j, _, rfl⟩ := hx
  have h0 : 0 ≤ (c / 7 + 5 * (j : Int)) % 26 := Int.emod_nonneg _ (by decide)
  have h1 : (c / 7 + 5 * (j : Int)) % 26 < 26 := Int.emod_lt_of_pos _ (by decide)
  omega
theorem range3 : range1D (.int 3) = some [.int 0, .int 1, .int 2] := by
  have := range1D_n (m := 3) (by decide)
  simpa [Dn.intsFrom, List.range, List.range.loop] using this
theorem range6 : range1D (.int 6) = some ((List.range 6).map fun (i : Nat) => .int (i : Int)) := by
  have := range1D_n (m := 6) (by decide)
  simpa [Dn.intsFrom] using this
def oneS (c : Int) : List PyData := ((codes c).map one).map .str
def namesF : List PyData → Option PyData := fnD 9 gL_names
theorem letters_go (c : Int) (x4 x5 x6 x7 x8 : Option Sv) : lcGo (b1 3) tYesD (f2 ixD (fV 1) (f2 modD (f2 addD (f2 fdivD (fV 0) (fC (.int 7))) (f2 mulD (fC (.int 5)) (fV 3))) (fC (.int 26)))) [some (.d (.int c)), some (.d (.str LET)), none, none, x4, x5, x6, x7, x8] ((List.range 6).map fun (i : Nat) => .int (i : Int)) = some (oneS c) := by
  have q := lc_map (bd := b1 3) (t := tYesD) (f := f2 ixD (fV 1) (f2 modD (f2 addD (f2 fdivD (fV 0) (fC (.int 7))) (f2 mulD (fC (.int 5)) (fV 3))) (fC (.int 26)))) (ρ := [some (.d (.int c)), some (.d (.str LET)), none, none, x4, x5, x6, x7, x8]) (fun (i : Nat) => PyData.int (i : Int)) (fun (j : Nat) => .str (one (97 + ((c / 7 + 5 * (j : Int)) % 26).toNat))) (List.range 6)
    (by
      intro j hj
      refine ⟨_, rfl, rfl, ?_⟩
      simp only [f2_ap, fV_ap, fC_ap, List.getElem?_cons_succ, List.getElem?_cons_zero, List.set_cons_succ, List.set_cons_zero, slot_d, ap2_some]
      rw [fdivD_i (by decide), mulD_i (.inl (by decide))]
      simp only [ap2_some, addD_i]
      rw [modD_i (by decide)]
      simp only [ap2_some]
      rw [ix_LET])
  rw [q]
  simp [oneS, codes, Function.comp_def]
theorem join_D (ys : List Str) (h : (ys.map (·.length)).sum ≤ 100000) : joinD (.str (Str.ofString "")) [.list (ys.map .str)] = some (.str (Txt.join (Str.ofString "") ys)) := by
  unfold joinD
  simp only
  rw [strsD_map, Option.bind_some, if_pos (by
    have : (Str.ofString "").length = 0 := rfl
    rw [this]
    simpa using h)]
theorem ltr_take (c : Int) (k : Nat) (h1 : 1 ≤ k) (h2 : k ≤ 6) : Ltr (cutS (rest c) none (some (k : Int))) := by
  have e := cut_to (rest c) k
  rw [tl_rest] at e
  refine ⟨?_, ?_, ?_⟩
  · rw [len_tl, e]; simp [codes]; omega
  · rw [len_tl, e]; simp; omega
  · intro x hx
    rw [e] at hx
    exact codes_ab c x (List.mem_of_mem_take hx)
theorem names_eq (c : Int) : ∃ a b d, namesF [.int c] = some (dS [a, b, d]) ∧ Ltr a ∧ Ltr b ∧ Ltr d := by
  have hj : joinD (.str (Str.ofString "")) [.list (oneS c)] = some (.str (rest c)) := join_D _ (by simp [codes, List.range, List.range.loop])
  have hr : (rest c).length ≤ 100000 := by rw [len_rest]; decide
  have e7 : fdivD (.int c) (.int 7) = some (.int (c / 7)) := fdivD_i (by decide)
  have e3 : fdivD (.int c) (.int 3) = some (.int (c / 3)) := fdivD_i (by decide)
  have m3 : modD (.int c) (.int 3) = some (.int (c % 3)) := modD_i (by decide)
  have go := letters_go c none none none none none
  rw [LET] at go
  by_cases h : c % 3 = 2
  · -- each the beginning of the next
    have m4 : modD (.int (c / 3)) (.int 4) = some (.int (c / 3 % 4)) := modD_i (by decide)
    have k0 : 0 ≤ c / 3 % 4 := Int.emod_nonneg _ (by decide)
    have k1 : c / 3 % 4 < 4 := Int.emod_lt_of_pos _ (by decide)
    obtain ⟨k, hk⟩ : ∃ k : Nat, 1 + c / 3 % 4 = (k : Int) := ⟨(1 + c / 3 % 4).toNat, by omega⟩
    refine ⟨cutS (rest c) none (some (k : Int)), cutS (rest c) none (some ((k + 1 : Nat) : Int)), cutS (rest c) none (some ((k + 2 : Nat) : Int)), ?_, ltr_take c _ (by omega) (by omega), ltr_take c _ (by omega) (by omega), ltr_take c _ (by omega) (by omega)⟩
    have s1 : slD none (some (k : Int)) (.str (rest c)) = some (.str (cutS (rest c) none (some (k : Int)))) := slD_s hr
    have s2 : slD none (some ((k : Int) + 1)) (.str (rest c)) = some (.str (cutS (rest c) none (some ((k : Int) + 1)))) := slD_s hr
    have s3 : slD none (some ((k : Int) + 2)) (.str (rest c)) = some (.str (cutS (rest c) none (some ((k : Int) + 2)))) := slD_s hr
    have l3 : ∀ (bd : PyData → Rho → Option Rho) (t : Rho → Option Bool) (f : Rho → Option PyData) (ρ : Rho) (a b d : PyData), lcO bd t f ρ (some [a, b, d]) = (lcGo bd t f ρ [a, b, d]).map .list := fun bd t f ρ a b d => lcO_some (by simp)
    unfold namesF
    simp [fnD_ap, startR, gL_names, range6, lcO_some (show ((List.range 6).map fun (i : Nat) => PyData.int (i : Int)).length ≤ 100000 by simp), go, hj, m3, h, e3, m4, range3, hk, l3, s1, s2, s3, dS]
  · -- alike but at one place
    have m6 : modD (.int (c / 3)) (.int 6) = some (.int (c / 3 % 6)) := modD_i (by decide)
    have e18 : fdivD (.int c) (.int 18) = some (.int (c / 18)) := fdivD_i (by decide)
    have e90 : fdivD (.int c) (.int 90) = some (.int (c / 90)) := fdivD_i (by decide)
    have z0 : 0 ≤ c / 3 % 6 := Int.emod_nonneg _ (by decide)
    have z1 : c / 3 % 6 < 6 := Int.emod_lt_of_pos _ (by decide)
    have ms : modD (.int (c / 18)) (.int (c / 3 % 6 + 1)) = some (.int (c / 18 % (c / 3 % 6 + 1))) := modD_i (by omega)
    have a0 : 0 ≤ c / 18 % (c / 3 % 6 + 1) := Int.emod_nonneg _ (by omega)
    have a1 : c / 18 % (c / 3 % 6 + 1) < c / 3 % 6 + 1 := Int.emod_lt_of_pos _ (by omega)
    obtain ⟨n, hn⟩ : ∃ n : Nat, c / 3 % 6 = (n : Int) := ⟨(c / 3 % 6).toNat, by omega⟩
    obtain ⟨k, hk⟩ : ∃ k : Nat, c / 18 % (c / 3 % 6 + 1) = (k : Int) := ⟨(c / 18 % (c / 3 % 6 + 1)).toNat, by omega⟩
    rw [hk] at ms a1
    rw [hn] at ms m6 a1 z1
    have s1 : slD none (some (k : Int)) (.str (rest c)) = some (.str (cutS (rest c) none (some (k : Int)))) := slD_s hr
    have s2 : slD (some (k : Int)) (some (n : Int)) (.str (rest c)) = some (.str (cutS (rest c) (some (k : Int)) (some (n : Int)))) := slD_s hr
    have la : (cutS (rest c) none (some (k : Int))).length = k := by
      rw [len_tl, cut_to, tl_rest]; simp [codes]; omega
    have lb : (cutS (rest c) (some (k : Int)) (some (n : Int))).length = n - k := by
      rw [len_tl, cut_mid _ _ _ (by rw [tl_rest]; simp [codes]; omega), tl_rest]; simp [codes]; omega
    have mk : ∀ z : Int, ∃ x : Str, Ltr x ∧ addD (.str (cutS (rest c) none (some (k : Int)))) (.str (one (97 + (z % 26).toNat))) = some (.str (cutS (rest c) none (some (k : Int)) ++ one (97 + (z % 26).toNat))) ∧
        addD (.str (cutS (rest c) none (some (k : Int)) ++ one (97 + (z % 26).toNat))) (.str (cutS (rest c) (some (k : Int)) (some (n : Int)))) = some (.str x) := by
      intro z
      have h0 : 0 ≤ z % 26 := Int.emod_nonneg _ (by decide)
      have h1 : z % 26 < 26 := Int.emod_lt_of_pos _ (by decide)
      refine ⟨_, ?_, addD_s (by rw [la, len_one]; omega), addD_s (by rw [len_app, la, lb, len_one]; omega)⟩
      refine ⟨by rw [len_app, len_app, len_one]; omega, by rw [len_app, len_app, la, lb, len_one]; omega, ?_⟩
      intro x hx
      rw [tl_append, tl_append, cut_to, cut_mid _ _ _ (by rw [tl_rest]; simp [codes]; omega), tl_rest, List.mem_append, List.mem_append] at hx
      rcases hx with (hx | hx) | hx
      · exact codes_ab c x (List.mem_of_mem_take hx)
      · rw [tl_one, List.mem_singleton] at hx; omega
      · exact codes_ab c x (List.mem_of_mem_drop (List.mem_of_mem_take hx))
    obtain ⟨x0, hx0, p0, q0⟩ := mk (c / 90)
    obtain ⟨x1, hx1, p1, q1⟩ := mk (c / 90 + 7)
    obtain ⟨x2, hx2, p2, q2⟩ := mk (c / 90 + 14)
    refine ⟨x0, x1, x2, ?_, hx0, hx1, hx2⟩
    have t0 := ix_LET (c / 90)
    have t1 := ix_LET (c / 90 + 7)
    have t2 := ix_LET (c / 90 + 14)
    have u0 : mulD (.int 7) (.int 0) = some (.int 0) := by rw [mulD_i (.inl (by decide))]; rfl
    have u1 : mulD (.int 7) (.int 1) = some (.int 7) := by rw [mulD_i (.inl (by decide))]; rfl
    have u2 : mulD (.int 7) (.int 2) = some (.int 14) := by rw [mulD_i (.inl (by decide))]; rfl
    have mm : ∀ z : Int, modD (.int z) (.int 26) = some (.int (z % 26)) := fun z => modD_i (by decide)
    have ap : ∀ (ρ : Rho) (xs : List PyData) (y : PyData), xs.length ≤ 5 → appO 7 ρ (some (some (.own none xs))) (some y) = some (.nx (ρ.set 7 (some (.own none (xs ++ [y]))))) := fun ρ xs y h => appO_some (by omega)
    rw [LET] at t0 t1 t2
    unfold namesF
    simp [fnD_ap, startR, gL_names, range6, lcO_some (show ((List.range 6).map fun (i : Nat) => PyData.int (i : Int)).length ≤ 100000 by simp), go, hj, m3, h, e3, m6, hn, e18, ms, range3, e90, u0, u1, u2, mm, t0, t1, t2, s1, s2, p0, p1, p2, q0, q1, q2, ap, dS]
end My

namespace My
open PySem L2 Dn TL
/-! ### cells, draws -/
def dI (ns : List Int) : PyData := .list (ns.map .int)
def cellAt (ns : List Int) (k : Nat) : Int := (ns[k]?).getD 0
def cellF : List PyData → Option PyData := fnD 2 gL_cell_at
theorem cell_eq (ns : List Int) (k : Nat) : cellF [dI ns, .int k] = some (.int (cellAt ns k)) := by
  have e : ixD (dI ns) (.int k) = (ns[k]?).map PyData.int := by
    show atI (ns.map PyData.int) (k : Int) = _
    cases h : ns[k]? with
    | none =>
      have hl : ns.length ≤ k := List.getElem?_eq_none_iff.mp h
      have : ixN (ns.map PyData.int).length (k : Int) = none := by
        unfold ixN
        rw [if_pos (by omega), if_neg (by simp; omega)]
      unfold atI; rw [this]; rfl
    | some v => exact atI_nat (by rw [List.getElem?_map, h]; rfl)
  unfold cellF
  by_cases h : k < ns.length
  · have h2 : (k : Int) < ((ns.map PyData.int).length : Int) := by simp; omega
    have h3 : ns[k]? = some ns[k] := by simp [h]
    simp [fnD_ap, startR, gL_cell_at, dI] at e ⊢
    simp [h, h3, e, cellAt]
  · have h3 : ns[k]? = none := List.getElem?_eq_none (by omega)
    simp [fnD_ap, startR, gL_cell_at, dI]
    simp [h, h3, cellAt]
/-- what a draw at spot k gives -/
def drawn (ns : List Int) (k : Nat) : Int := match ns[k]? with
  | some v => v
  | none => if 4 < ns.length ∧ k < 40 then ((ns[k % ns.length]?).getD 0 + 7919 * k) * 48271 % 1000003 else 0
def drawF (a0 xs : List PyData) : Option (PyData × List PyData) := match a0, xs with
  | [.list vs], [.int k] => match strsI vs with
    | some ns => if 0 ≤ k then some (.int (drawn ns k.toNat), [.int (k + 1)]) else none
    | none => none
  | _, _ => none
where strsI : List PyData → Option (List Int)
  | [] => some []
  | .int i :: r => (strsI r).map (i :: ·)
  | _ => none
theorem strsI_map (ns : List Int) : drawF.strsI (ns.map .int) = some ns := by
  induction ns with
  | nil => rfl
  | cons n r ih => simp [drawF.strsI, ih]
theorem strsI_inv : ∀ {vs : List PyData} {ns : List Int}, drawF.strsI vs = some ns → vs = ns.map .int
  | [], ns, h => by cases h; rfl
  | .int i :: r, ns, h => by
    simp only [drawF.strsI] at h
    obtain ⟨ms, e, rfl⟩ := Option.map_eq_some_iff.mp h
    rw [strsI_inv e]; rfl
  | .none :: r, ns, h => by simp [drawF.strsI] at h
  | .bool _ :: r, ns, h => by simp [drawF.strsI] at h
  | .str _ :: r, ns, h => by simp [drawF.strsI] at h
  | .list _ :: r, ns, h => by simp [drawF.strsI] at h
  | .tuple _ :: r, ns, h => by simp [drawF.strsI] at h
  | .dict _ :: r, ns, h => by simp [drawF.strsI] at h
theorem drawF_eq (ns : List Int) (k : Nat) : drawF [dI ns] [.int k] = some (.int (drawn ns k), [.int ((k + 1 : Nat) : Int)]) := by
  unfold drawF dI
  simp only [strsI_map]
  rw [if_pos (by omega)]
  simp
theorem ixI {ns : List Int} {k : Nat} (h : k < ns.length) : ixD (dI ns) (.int k) = some (.int ((ns[k]?).getD 0)) := by
  have h3 : ns[k]? = some ns[k] := by simp [h]
  rw [h3]
  exact atI_nat (by rw [List.getElem?_map, h3]; rfl)
theorem draw_run (a : Addr) (ns : List Int) (k : Nat) : retC a (gL_draw (startC 3 a [dI ns] [.int k])) = some (.int (drawn ns k), [.int ((k + 1 : Nat) : Int)]) := by
  have hl : lenD (dI ns) = some (.int (ns.length : Int)) := by simp [dI]
  have s0 : ∀ (ρ : Rho) (o : Option Addr) (x y : PyData), setiO 1 ρ (some (some (.own o [x]))) (some y) (some (.int 0)) = some (.nx (ρ.set 1 (some (.own o [y])))) := fun ρ o x y => setiO_0 ..
  by_cases h : k < ns.length
  · have h3 : ns[k]? = some ns[k] := by simp [h]
    have i1 := ixI h
    rw [h3] at i1
    simp [startC, gL_draw, hl, h, drawn, h3, i1, show (k : Int) + 1 - 1 = k by omega, retC]
  · have h3 : ns[k]? = none := List.getElem?_eq_none (by omega)
    by_cases h4 : 4 < ns.length
    · by_cases h5 : k < 40
      · have i1 := ixI (ns := ns) (k := k % ns.length) (Nat.mod_lt _ (by omega))
        have m1 : modD (.int (k : Int)) (.int (ns.length : Int)) = some (.int ((k % ns.length : Nat) : Int)) := by
          rw [modD_i (by omega)]; simp
        have m2 : mulD (.int 7919) (.int (k : Int)) = some (.int (7919 * k)) := mulD_i (.inl (by decide))
        have m3 : ∀ z : Int, mulD (.int z) (.int 48271) = some (.int (z * 48271)) := fun z => mulD_i (.inr (by decide))
        have m4 : ∀ z : Int, modD (.int z) (.int 1000003) = some (.int (z % 1000003)) := fun z => modD_i (by decide)
        simp only [Int.natCast_emod] at i1 m1
        simp [startC, gL_draw, hl, h, h4, h5, drawn, h3, i1, m1, m2, m3, m4, show (k : Int) + 1 - 1 = k by omega, show (4 : Int) < ns.length by omega, show (k : Int) < 40 by omega, retC]
      · simp [startC, gL_draw, hl, h, h4, h5, drawn, h3, show (k : Int) + 1 - 1 = k by omega, show (4 : Int) < ns.length by omega, show ¬ (k : Int) < 40 by omega, retC]
    · simp [startC, gL_draw, hl, h, h4, drawn, h3, show (k : Int) + 1 - 1 = k by omega, show ¬ (4 : Int) < ns.length by omega, retC]
theorem drawF_run (a : Addr) (ds xs : List PyData) (r : PyData × List PyData) (hl : ds.length + 1 = 2) (h : drawF ds xs = some r) : retC a (gL_draw (startC 3 a ds xs)) = some r := by
  unfold drawF at h
  split at h
  · rename_i vs k
    split at h
    · rename_i ns e
      split at h
      · rename_i hk
        cases h
        have q := draw_run a ns k.toNat
        rw [show ((k.toNat : Nat) : Int) = k by omega, show ((k.toNat + 1 : Nat) : Int) = k + 1 by omega] at q
        rw [strsI_inv e]
        exact q
      · cases h
    · cases h
  · cases h
/-! ### all that stands in a statement; the law's wishes, by what the law reckons -/
theorem Sm.depth_pos (s : Sm) : 1 ≤ s.depth := by cases s <;> simp
def allS : Sm → List Sm
  | .mark m => [.mark m]
  | .yes => [.yes]
  | .not s => .not s :: allS s
  | .and s t => .and s t :: (allS s ++ allS t)
  | .or s t => .or s t :: (allS s ++ allS t)
  | .nxt s => .nxt s :: allS s
  | .unt s t => .unt s t :: (allS s ++ allS t)
  | .wth k s => .wth k s :: allS s
  | .bef s => .bef s :: allS s
  | .sin s t => .sin s t :: (allS s ++ allS t)
theorem allS_len : ∀ s : Sm, (allS s).length + 1 ≤ 2 ^ s.depth
  | .mark _ | .yes => by simp [allS]
  | .not s | .nxt s | .wth _ s | .bef s => by
    have := allS_len s
    simp [allS, Nat.pow_succ]; omega
  | .and s t | .or s t | .unt s t | .sin s t => by
    have h1 := allS_len s
    have h2 := allS_len t
    have h3 : 2 ^ s.depth ≤ 2 ^ max s.depth t.depth := Nat.pow_le_pow_right (by decide) (Nat.le_max_left _ _)
    have h4 : 2 ^ t.depth ≤ 2 ^ max s.depth t.depth := Nat.pow_le_pow_right (by decide) (Nat.le_max_right _ _)
    simp [allS, Nat.pow_succ]; omega
def allF : Nat → List PyData → Option PyData
  | 0 => fun _ => none
  | n + 1 => fnD 3 (gL_all (allF n))
theorem allF_eq (s : Sm) : ∀ n : Nat, s.depth ≤ n → s.depth ≤ 14 → allF n [enc s] = some (.list ((allS s).map enc)) := by
  have no : ∀ s : Sm, ¬ s.depth ≤ 0 := fun s => by cases s <;> simp
  have big : ∀ s : Sm, s.depth ≤ 14 → ((allS s).map enc).length ≤ 20000 := fun s h => by
    have h1 := allS_len s
    have h2 : 2 ^ s.depth ≤ 2 ^ 14 := Nat.pow_le_pow_right (by decide) h
    have h3 : (2 : Nat) ^ 14 = 16384 := rfl
    simp; omega
  have ap : ∀ (x : PyData) (a b : List PyData), a.length ≤ 20000 → b.length ≤ 20000 → addD (.list (x :: a)) (.list b) = some (.list (x :: (a ++ b))) := fun x a b h1 h2 => addD_l (by simp; omega)
  have ap1 : ∀ (x : PyData) (b : List PyData), b.length ≤ 20000 → addD (.list [x]) (.list b) = some (.list (x :: b)) := fun x b h2 => addD_l (by simp; omega)
  induction s with
  | mark m => intro n hd h; cases n with | zero => exact absurd hd (no _) | succ n => simp [allF, fnD_ap, startR, gL_all, Sm.tail, allS]
  | yes => intro n hd h; cases n with | zero => exact absurd hd (no _) | succ n => simp [allF, fnD_ap, startR, gL_all, Sm.tail, allS]
  | not s ihs | nxt s ihs | wth k s ihs | bef s ihs =>
    intro n hd h
    cases n with
    | zero => exact absurd hd (no _)
    | succ n =>
      have hs : s.depth ≤ 14 := by simp at h; omega
      have i1 := ihs n (by simpa using hd) hs
      have := ap1
      simp [allF, fnD_ap, startR, gL_all, Sm.tail, allS, i1, ap1 _ _ (big s hs)]
  | and s t ihs iht | or s t ihs iht | unt s t ihs iht | sin s t ihs iht =>
    intro n hd h
    cases n with
    | zero => exact absurd hd (no _)
    | succ n =>
      have hs : s.depth ≤ 14 := by simp at h; omega
      have ht : t.depth ≤ 14 := by simp at h; omega
      have i1 := ihs n (by simp at hd; omega) hs
      have i2 := iht n (by simp at hd; omega) ht
      simp [allF, fnD_ap, startR, gL_all, Sm.tail, allS, i1, i2, ap1 _ _ (big s hs), ap _ _ _ (big s hs) (big t ht)]
end My

namespace My
open PySem L2 Dn TL
/-! ### fine statements: what may be compared -/
def Sm.Fine : Sm → Prop
  | .mark m => Ltr m
  | .yes => True
  | .not s | .nxt s | .bef s => s.Fine
  | .wth k s => 0 ≤ k ∧ k ≤ 4 ∧ s.Fine
  | .and s t | .or s t | .unt s t | .sin s t => s.Fine ∧ t.Fine
theorem ltr_ok {m : Str} (h : Ltr m) : PyData.strOk m = true := by
  unfold PyData.strOk
  rw [Array.all_eq_true_iff_forall_mem]
  intro c hc
  have := h.ab c (by simpa [tl] using hc)
  exact decide_eq_true (by omega)
theorem word_ok : ∀ s : Sm, PyData.strOk s.word = true := by intro s; cases s <;> simp only [Sm.word] <;> decide +kernel
theorem lay_enc : ∀ s : Sm, s.Fine → PyData.canLay0 (enc s) = true
  | .mark m, h => by
    have h1 : PyData.strOk m = true := ltr_ok h
    have h2 := word_ok (.mark m)
    simp only [Sm.word] at h2
    simp [enc, PyData.canLay0, PyData.canLayAll0, h1, h2]
  | .yes, _ => by
    have h2 := word_ok .yes
    simp only [Sm.word] at h2
    simp [enc, PyData.canLay0, PyData.canLayAll0, h2]
  | .not s, h => by
    have h2 := word_ok (.not s)
    simp only [Sm.word] at h2
    simp [enc, PyData.canLay0, PyData.canLayAll0, h2, lay_enc s h]
  | .nxt s, h => by
    have h2 := word_ok (.nxt s)
    simp only [Sm.word] at h2
    simp [enc, PyData.canLay0, PyData.canLayAll0, h2, lay_enc s h]
  | .bef s, h => by
    have h2 := word_ok (.bef s)
    simp only [Sm.word] at h2
    simp [enc, PyData.canLay0, PyData.canLayAll0, h2, lay_enc s h]
  | .wth k s, h => by
    have h2 := word_ok (.wth k s)
    simp only [Sm.word] at h2
    simp [enc, PyData.canLay0, PyData.canLayAll0, h2, lay_enc s h.2.2]
  | .and s t, h => by
    have h2 := word_ok (.and s t)
    simp only [Sm.word] at h2
    simp [enc, PyData.canLay0, PyData.canLayAll0, h2, lay_enc s h.1, lay_enc t h.2]
  | .or s t, h => by
    have h2 := word_ok (.or s t)
    simp only [Sm.word] at h2
    simp [enc, PyData.canLay0, PyData.canLayAll0, h2, lay_enc s h.1, lay_enc t h.2]
  | .unt s t, h => by
    have h2 := word_ok (.unt s t)
    simp only [Sm.word] at h2
    simp [enc, PyData.canLay0, PyData.canLayAll0, h2, lay_enc s h.1, lay_enc t h.2]
  | .sin s t, h => by
    have h2 := word_ok (.sin s t)
    simp only [Sm.word] at h2
    simp [enc, PyData.canLay0, PyData.canLayAll0, h2, lay_enc s h.1, lay_enc t h.2]
theorem depth_enc : ∀ s : Sm, PyData.depth (enc s) = s.depth
  | .mark m => by simp [enc, PyData.depth, PyData.depthAll]
  | .yes => by simp [enc, PyData.depth, PyData.depthAll]
  | .not s => by simp [enc, PyData.depth, PyData.depthAll, depth_enc s]
  | .nxt s => by simp [enc, PyData.depth, PyData.depthAll, depth_enc s]
  | .bef s => by simp [enc, PyData.depth, PyData.depthAll, depth_enc s]
  | .wth k s => by simp [enc, PyData.depth, PyData.depthAll, depth_enc s]
  | .and s t => by simp [enc, PyData.depth, PyData.depthAll, depth_enc s, depth_enc t]
  | .or s t => by simp [enc, PyData.depth, PyData.depthAll, depth_enc s, depth_enc t]
  | .unt s t => by simp [enc, PyData.depth, PyData.depthAll, depth_enc s, depth_enc t]
  | .sin s t => by simp [enc, PyData.depth, PyData.depthAll, depth_enc s, depth_enc t]
theorem eqv_str (a b : Str) : PyData.eqv (.str a) (.str b) = sEq a b := by simp only [PyData.eqv]; rfl
theorem eqv_int (a b : Int) : PyData.eqv (.int a) (.int b) = decide (a = b) := by simp only [PyData.eqv]; rfl
theorem eqv_tup (a b : List PyData) : PyData.eqv (.tuple a) (.tuple b) = PyData.eqvAll a b := by simp only [PyData.eqv]
theorem eqvAll_c (a b : PyData) (r q : List PyData) : PyData.eqvAll (a :: r) (b :: q) = (PyData.eqv a b && PyData.eqvAll r q) := by simp only [PyData.eqvAll]
theorem eqvAll_0 : PyData.eqvAll [] [] = true := by simp only [PyData.eqvAll]
theorem eqv_enc : ∀ s t : Sm, PyData.eqv (enc s) (enc t) = decide (s = t) := by
  intro s
  induction s with
  | mark m => intro t; cases t <;> simp [enc, eqv_str, eqv_tup, eqvAll_c, eqvAll_0, sEq]
  | yes => intro t; cases t <;> simp [enc, eqv_str, eqv_tup, eqvAll_c, eqvAll_0]
  | not s ihs | nxt s ihs | bef s ihs => intro t; cases t <;> simp [enc, eqv_str, eqv_tup, eqvAll_c, eqvAll_0, ihs]
  | wth k s ihs => intro t; cases t <;> simp [enc, eqv_str, eqv_int, eqv_tup, eqvAll_c, eqvAll_0, ihs]
  | and s t ihs iht | or s t ihs iht | unt s t ihs iht | sin s t ihs iht => intro u; cases u <;> simp [enc, eqv_str, eqv_tup, eqvAll_c, eqvAll_0, ihs, iht]
theorem shaped_enc {s : Sm} (h : s.Fine) (hd : s.depth ≤ 60) : SeqAt.shaped (enc s) = true := by
  simp [SeqAt.shaped, lay_enc s h, depth_enc s]; omega
theorem shaped_encs {xs : List Sm} (h : ∀ s ∈ xs, s.Fine ∧ s.depth ≤ 60) : SeqAt.shaped (.list (xs.map enc)) = true := by
  have h1 : PyData.canLayAll0 (xs.map enc) = true ∧ PyData.depthAll (xs.map enc) ≤ 60 := by
    induction xs with
    | nil => simp [PyData.canLayAll0, PyData.depthAll]
    | cons x r ih =>
      obtain ⟨i1, i2⟩ := ih fun s hs => h s (by simp [hs])
      obtain ⟨j1, j2⟩ := h x (by simp)
      simp only [List.map_cons, PyData.canLayAll0, PyData.depthAll, lay_enc x j1, i1, depth_enc]
      exact ⟨rfl, by omega⟩
  simp [SeqAt.shaped, PyData.canLay0, PyData.depth, h1.1]
  omega
theorem any_enc (x : Sm) (xs : List Sm) : (xs.map enc).any (fun z => PyData.eqv z (enc x)) = decide (x ∈ xs) := by
  induction xs with
  | nil => simp
  | cons y r ih =>
    rw [List.map_cons, List.any_cons, ih, eqv_enc]
    by_cases h : y = x
    · simp [h]
    · simp [h, Ne.symm h]
theorem inD_encs {x : Sm} {xs : List Sm} (hx : x.Fine ∧ x.depth ≤ 60) (h : ∀ s ∈ xs, s.Fine ∧ s.depth ≤ 60) : inD (enc x) (.list (xs.map enc)) = some (decide (x ∈ xs)) := by
  have e : inD (enc x) (.list (xs.map enc)) = if (SeqAt.shaped (enc x) && SeqAt.shaped (.list (xs.map enc))) = true then some ((xs.map enc).any fun z => PyData.eqv z (enc x)) else none := by
    obtain ⟨ys, e⟩ : ∃ ys, enc x = .tuple ys := ⟨_, enc_eq x⟩
    rw [e]; rfl
  rw [e, shaped_enc hx.1 hx.2, shaped_encs h, any_enc]
  rfl
theorem ni_encs {x : Sm} {xs : List Sm} (hx : x.Fine ∧ x.depth ≤ 60) (h : ∀ s ∈ xs, s.Fine ∧ s.depth ≤ 60) : niP (enc x) (.list (xs.map enc)) = some (.bool (decide (x ∉ xs))) := by
  unfold niP
  rw [inD_encs hx h]
  simp
theorem in_encs {x : Sm} {xs : List Sm} (hx : x.Fine ∧ x.depth ≤ 60) (h : ∀ s ∈ xs, s.Fine ∧ s.depth ≤ 60) : inP (enc x) (.list (xs.map enc)) = some (.bool (decide (x ∈ xs))) := by
  unfold inP
  rw [inD_encs hx h]
  rfl
theorem fine_all : ∀ (s : Sm), s.Fine → ∀ x ∈ allS s, x.Fine ∧ x.depth ≤ s.depth
  | .mark m, h, x, hx => by simp [allS] at hx; subst hx; exact ⟨h, by simp⟩
  | .yes, h, x, hx => by simp [allS] at hx; subst hx; exact ⟨h, by simp⟩
  | .not s, h, x, hx => by
    rcases List.mem_cons.mp hx with rfl | hx
    · exact ⟨h, by simp⟩
    · have := fine_all s h x hx; exact ⟨this.1, by simp; omega⟩
  | .nxt s, h, x, hx => by
    rcases List.mem_cons.mp hx with rfl | hx
    · exact ⟨h, by simp⟩
    · have := fine_all s h x hx; exact ⟨this.1, by simp; omega⟩
  | .bef s, h, x, hx => by
    rcases List.mem_cons.mp hx with rfl | hx
    · exact ⟨h, by simp⟩
    · have := fine_all s h x hx; exact ⟨this.1, by simp; omega⟩
  | .wth k s, h, x, hx => by
    rcases List.mem_cons.mp hx with rfl | hx
    · exact ⟨h, by simp⟩
    · have := fine_all s h.2.2 x hx; exact ⟨this.1, by simp; omega⟩
  | .and s t, h, x, hx | .or s t, h, x, hx | .unt s t, h, x, hx | .sin s t, h, x, hx => by
    rcases List.mem_cons.mp hx with rfl | hx
    · exact ⟨h, by simp⟩
    · rcases List.mem_append.mp hx with hx | hx
      · have := fine_all s h.1 x hx; exact ⟨this.1, by simp; omega⟩
      · have := fine_all t h.2 x hx; exact ⟨this.1, by simp; omega⟩
/-! ### the law's wishes -/
def moreS : Sm → List Sm
  | .nxt s => [s]
  | .unt s t => [.unt s t]
  | .wth k s => (List.range k.toNat).map fun (j : Nat) => .wth (j : Int) s
  | _ => []
def wishGo (ones found : List Sm) : List Sm := ones.foldl (fun f one => f ++ (moreS one).filter fun x => decide (x ∉ f)) found
def wishL (s : Sm) : List Sm := wishGo (allS s) [s]
theorem more_fine {s : Sm} (h : s.Fine) : (moreS s).length ≤ 4 ∧ ∀ x ∈ moreS s, x.Fine ∧ x.depth ≤ s.depth := by
  cases s with
  | nxt s => exact ⟨by simp [moreS], fun x hx => by simp [moreS] at hx; subst hx; exact ⟨h, by simp⟩⟩
  | unt s t => exact ⟨by simp [moreS], fun x hx => by simp [moreS] at hx; subst hx; exact ⟨h, by simp⟩⟩
  | wth k s =>
    obtain ⟨h1, h2, h3⟩ := h
    refine ⟨by simp [moreS]; omega, fun x hx => ?_⟩
    simp only [moreS, List.mem_map, List.mem_range] at hx
    obtain ⟨j, hj, rfl⟩ := hx
    exact ⟨⟨by omega, by omega, h3⟩, by simp⟩
  | _ => exact ⟨by simp [moreS], fun x hx => by simp [moreS] at hx⟩
end My

namespace My
open PySem L2 Dn TL
def wishesF : List PyData → Option PyData := fnD 6 (gL_wishes (allF 14))
/-- a comprehension that keeps some of a list -/
theorem lc_filter {bd : PyData → Rho → Option Rho} {t : Rho → Option Bool} {f : Rho → Option PyData} {ρ : Rho} {α : Type} (e : α → PyData) (p : α → Bool) (h : α → PyData) : ∀ xs : List α, (∀ x ∈ xs, ∃ ρ1, bd (e x) ρ = some ρ1 ∧ t ρ1 = some (p x) ∧ f ρ1 = some (h x)) → lcGo bd t f ρ (xs.map e) = some ((xs.filter p).map h)
  | [], _ => rfl
  | x :: xs, q => by
    obtain ⟨ρ1, e1, e2, e3⟩ := q x (by simp)
    rw [List.map_cons, lcGo_c, e1, lcB_some, e2, e3, lc_filter e p h xs fun y hy => q y (by simp [hy])]
    cases hp : p x <;> simp [hp]
abbrev wBody : Rho → Option Out := gSeq (gSet 3 (fLst fNil)) (gSeq (gIf (fB (f2 eqP (f2 ixD (fV 2) (fC (.int 0))) (fC (.str "next")))) (gSet 3 (fLst (fCons (f2 ixD (fV 2) (fC (.int 1))) fNil))) (gIf (fB (f2 eqP (f2 ixD (fV 2) (fC (.int 0))) (fC (.str "until")))) (gSet 3 (fLst (fCons (fV 2) fNil))) (gIf (fB (f2 eqP (f2 ixD (fV 2) (fC (.int 0))) (fC (.str "within")))) (gSet 3 (fLc (fR1 (f2 ixD (fV 2) (fC (.int 1)))) (b1 4) tYesD (fTup (fCons (fC (.str "within")) (fCons (fV 4) (fCons (f2 ixD (fV 2) (fC (.int 2))) fNil)))) [4])) gNx))) (gSet 1 (f2 addD (fV 1) (fLc (fSeq (fV 3)) (b1 5) (fB (f2 niP (fV 5) (fV 1))) (fV 5) [5]))))
theorem wLast (x0 x1 x2 : PyData) (found more : List Sm) (hm : more.length ≤ 4) (hf : ∀ s ∈ found, s.Fine ∧ s.depth ≤ 60) (hx : ∀ s ∈ more, s.Fine ∧ s.depth ≤ 60) (hl : found.length ≤ 90000) (x4 x5 : Option Sv) :
    ∃ x5', gSet 1 (f2 addD (fV 1) (fLc (fSeq (fV 3)) (b1 5) (fB (f2 niP (fV 5) (fV 1))) (fV 5) [5])) [some (.d x0), some (.d (.list (found.map enc))), some (.d x2), some (.d (.list (more.map enc))), x4, x5] =
      some (.nx [some (.d x0), some (.d (.list ((found ++ more.filter fun x => decide (x ∉ found)).map enc))), some (.d x2), some (.d (.list (more.map enc))), x4, x5']) := by
  have q := lc_filter (bd := b1 5) (t := fB (f2 niP (fV 5) (fV 1))) (f := fV 5) (ρ := [some (.d x0), some (.d (.list (found.map enc))), some (.d x2), some (.d (.list (more.map enc))), x4, none]) enc (fun x => decide (x ∉ found)) enc more
    (by intro x h; exact ⟨_, rfl, by simp [ni_encs (hx x h) hf], by simp⟩)
  refine ⟨x5, ?_⟩
  have hs : ((found.map enc).length + ((more.filter fun x => decide (x ∉ found)).map enc).length) ≤ 100000 := by
    have := List.length_filter_le (fun x => decide (x ∉ found)) more
    rw [List.length_map, List.length_map]; omega
  simp only [gSet_ap, f2_ap, fV_ap, fLc_ap, fSeq_ap, List.getElem?_cons_succ, List.getElem?_cons_zero, slot_d, seqO1_some, seqD_l, wipeR_c, wipeR_0, List.set_cons_succ, List.set_cons_zero]
  rw [lcO_some (by simp; omega), q]
  simp only [Option.map_some, ap2_some]
  rw [addD_l hs]
  simp only [setO_some, List.set_cons_succ, List.set_cons_zero, List.map_append]
theorem wth_more (k : Int) (s : Sm) (h : 0 ≤ k ∧ k ≤ 4) (x0 x1 x3 x5 : Option Sv) : fLc (fR1 (f2 ixD (fV 2) (fC (.int 1)))) (b1 4) tYesD (fTup (fCons (fC (.str "within")) (fCons (fV 4) (fCons (f2 ixD (fV 2) (fC (.int 2))) fNil)))) [4] [x0, x1, some (.d (enc (.wth k s))), x3, none, x5] = some (.list ((moreS (.wth k s)).map enc)) := by
  have ix2 : ixD (enc (.wth k s)) (.int 2) = some (enc s) := by simp [enc]
  have q := lc_map (bd := b1 4) (t := tYesD) (f := (fTup (fCons (fC (.str "within")) (fCons (fV 4) (fCons (f2 ixD (fV 2) (fC (.int 2))) fNil))))) (ρ := [x0, x1, some (.d (enc (.wth k s))), x3, none, x5]) (fun (i : Nat) => PyData.int (i : Int)) (fun (j : Nat) => enc (.wth (j : Int) s)) (List.range k.toNat)
    (by intro j hj; exact ⟨_, rfl, rfl, by simp [ix2, enc]⟩)
  have e : range1D (.int k) = some ((List.range k.toNat).map fun (i : Nat) => PyData.int (i : Int)) := by
    have := range1D_n (m := k.toNat) (by omega)
    rw [show ((k.toNat : Nat) : Int) = k by omega] at this
    rw [this]; simp [Dn.intsFrom]
  simp only [fLc_ap, fR1_ap, f2_ap, fV_ap, fC_ap, List.getElem?_cons_succ, List.getElem?_cons_zero, slot_d, ap2_some, ix_wth, seqO1_some, wipeR_c, wipeR_0, List.set_cons_succ, List.set_cons_zero]
  rw [e, lcO_some (by simp; omega), q]
  simp [moreS, Function.comp_def]
theorem wTurn (x0 : PyData) (found : List Sm) (one : Sm) (h1 : one.Fine ∧ one.depth ≤ 60) (hf : ∀ s ∈ found, s.Fine ∧ s.depth ≤ 60) (hl : found.length ≤ 90000) (x3 x4 x5 : Option Sv) (h4 : x4 = none) :
    ∃ x3' x5', wBody [some (.d x0), some (.d (.list (found.map enc))), some (.d (enc one)), x3, x4, x5] =
      some (.nx [some (.d x0), some (.d (.list ((found ++ (moreS one).filter fun x => decide (x ∉ found)).map enc))), some (.d (enc one)), x3', none, x5']) := by
  subst h4
  obtain ⟨m1, m2⟩ := more_fine h1.1
  obtain ⟨x5', q⟩ := wLast x0 (.list (found.map enc)) (enc one) found (moreS one) m1 hf (fun s hs => ⟨(m2 s hs).1, Nat.le_trans (m2 s hs).2 h1.2⟩) hl none x5
  refine ⟨some (.d (.list ((moreS one).map enc))), x5', ?_⟩
  have key : (gSeq (gSet 3 (fLst fNil)) (gIf (fB (f2 eqP (f2 ixD (fV 2) (fC (.int 0))) (fC (.str "next")))) (gSet 3 (fLst (fCons (f2 ixD (fV 2) (fC (.int 1))) fNil))) (gIf (fB (f2 eqP (f2 ixD (fV 2) (fC (.int 0))) (fC (.str "until")))) (gSet 3 (fLst (fCons (fV 2) fNil))) (gIf (fB (f2 eqP (f2 ixD (fV 2) (fC (.int 0))) (fC (.str "within")))) (gSet 3 (fLc (fR1 (f2 ixD (fV 2) (fC (.int 1)))) (b1 4) tYesD (fTup (fCons (fC (.str "within")) (fCons (fV 4) (fCons (f2 ixD (fV 2) (fC (.int 2))) fNil)))) [4])) gNx)))) [some (.d x0), some (.d (.list (found.map enc))), some (.d (enc one)), x3, none, x5] = some (.nx [some (.d x0), some (.d (.list (found.map enc))), some (.d (enc one)), some (.d (.list ((moreS one).map enc))), none, x5]) := by
    cases one with
    | nxt s =>
      have ix1 : ixD (enc (.nxt s)) (.int 1) = some (enc s) := by simp [enc]
      simp [moreS, ix1]
    | unt s t => simp [moreS]
    | wth k s => 
      have w := wth_more k s ⟨h1.1.1, h1.1.2.1⟩ (some (.d x0)) (some (.d (.list (found.map enc)))) (some (.d (.list []))) x5
      simp [-fLc_ap, w]
    | _ => simp [moreS]
  simp only [gSeq_ap] at key
  simp only [wBody, gSeq_ap]
  cases hz : gSet 3 (fLst fNil) [some (.d x0), some (.d (.list (found.map enc))), some (.d (enc one)), x3, none, x5] with
  | none => rw [hz] at key; cases key
  | some o =>
    rw [hz] at key
    cases o with
    | nx ρ =>
      simp only [seqO_nx] at key ⊢
      rw [gSeq_ap, key]
      simp only [seqO_nx]
      exact q
    | rt d ρ => cases key
    | bk ρ => cases key
    | ct ρ => cases key
    | rf zs => cases key
theorem wGo (x0 : PyData) : ∀ (ones found : List Sm) (x2 x3 x5 : Option Sv), (∀ s ∈ ones, s.Fine ∧ s.depth ≤ 60) → (∀ s ∈ found, s.Fine ∧ s.depth ≤ 60) → found.length + 4 * ones.length ≤ 90000 →
    ∃ x2' x3' x5', forGo (b1 2) wBody (ones.map enc) [some (.d x0), some (.d (.list (found.map enc))), x2, x3, none, x5] = some (.nx [some (.d x0), some (.d (.list ((wishGo ones found).map enc))), x2', x3', none, x5'])
  | [], found, x2, x3, x5, _, _, _ => ⟨x2, x3, x5, rfl⟩
  | one :: ones, found, x2, x3, x5, h1, hf, hl => by
    have ho := h1 one (by simp)
    obtain ⟨m1, m2⟩ := more_fine ho.1
    obtain ⟨x3', x5', q⟩ := wTurn x0 found one ho hf (by simp at hl; omega) x3 none x5 rfl
    have hlen := List.length_filter_le (fun x => decide (x ∉ found)) (moreS one)
    obtain ⟨y2, y3, y5, q2⟩ := wGo x0 ones (found ++ (moreS one).filter fun x => decide (x ∉ found)) (some (.d (enc one))) x3' x5' (fun s hs => h1 s (by simp [hs])) (by
      intro s hs
      rcases List.mem_append.mp hs with hs | hs
      · exact hf s hs
      · have := m2 s (List.mem_filter.mp hs).1
        exact ⟨this.1, Nat.le_trans this.2 ho.2⟩) (by rw [List.length_append]; simp only [List.length_cons] at hl; omega)
    refine ⟨y2, y3, y5, ?_⟩
    rw [List.map_cons, forGo_c, b1_ap, forB_some]
    simp only [List.set_cons_succ, List.set_cons_zero]
    rw [q, forN_nx, q2]
    rfl
theorem wishes_eq (s : Sm) (h : s.Fine) (hd : s.depth ≤ 10) : wishesF [enc s] = some (.list ((wishL s).map enc)) := by
  have hl := allS_len s
  have h2 : 2 ^ s.depth ≤ 2 ^ 10 := Nat.pow_le_pow_right (by decide) hd
  have h3 : (2 : Nat) ^ 10 = 1024 := rfl
  obtain ⟨x2, x3, x5, q⟩ := wGo (enc s) (allS s) [s] none none none (fun x hx => ⟨(fine_all s h x hx).1, by have := (fine_all s h x hx).2; omega⟩) (by intro x hx; simp at hx; subst hx; exact ⟨h, by omega⟩) (by simp; omega)
  have a := allF_eq s 14 (by omega) (by omega)
  unfold wishesF
  rw [fnD_ap]
  have e : startR 6 [enc s] = [some (.d (enc s)), none, none, none, none, none] := rfl
  rw [e, gL_wishes]
  simp only [gSeq_ap, gSet_ap, fLst_ap, fCons_ap, fV_ap, fNil_ap, List.getElem?_cons_zero, slot_d, consO_some, lstO_1, setO_some, List.set_cons_succ, List.set_cons_zero, seqO_nx, gFor_ap, fSeq_ap, fCa_ap, caO_1, a, seqO1_some, seqD_l, forO_some]
  simp only [List.map_cons, List.map_nil] at q
  rw [q]
  simp only [seqO_nx, gRet_ap, fV_ap, List.getElem?_cons_succ, List.getElem?_cons_zero, slot_d, retO_some, retD_rt, wishL]
end My

namespace My
open PySem L2 Dn TL
/-! ### the law's fit -/
def fitS (m : Nat) : Sm → Sm
  | .mark x => .mark x
  | .yes => .yes
  | .not s => if (wishL (.not s)).length ≤ m then .not s else fitS m s
  | .nxt s => if (wishL (.nxt s)).length ≤ m then .nxt s else fitS m s
  | .bef s => if (wishL (.bef s)).length ≤ m then .bef s else fitS m s
  | .wth k s => if (wishL (.wth k s)).length ≤ m then .wth k s else fitS m s
  | .and s t => if (wishL (.and s t)).length ≤ m then .and s t else fitS m t
  | .or s t => if (wishL (.or s t)).length ≤ m then .or s t else fitS m t
  | .unt s t => if (wishL (.unt s t)).length ≤ m then .unt s t else fitS m t
  | .sin s t => if (wishL (.sin s t)).length ≤ m then .sin s t else fitS m t
theorem fitS_fine (m : Nat) (hm : 1 ≤ m) : ∀ s : Sm, s.Fine → (fitS m s).Fine ∧ (fitS m s).depth ≤ s.depth ∧ (wishL (fitS m s)).length ≤ m
  | .mark x, h => ⟨h, by simp [fitS], by simpa [fitS, wishL, allS, wishGo, moreS] using hm⟩
  | .yes, h => ⟨h, by simp [fitS], by simpa [fitS, wishL, allS, wishGo, moreS] using hm⟩
  | .not s, h => by
    unfold fitS; split
    · rename_i z; exact ⟨h, Nat.le_refl _, z⟩
    · have q := fitS_fine m hm s h; exact ⟨q.1, by simp; omega, q.2.2⟩
  | .nxt s, h => by
    unfold fitS; split
    · rename_i z; exact ⟨h, Nat.le_refl _, z⟩
    · have q := fitS_fine m hm s h; exact ⟨q.1, by simp; omega, q.2.2⟩
  | .bef s, h => by
    unfold fitS; split
    · rename_i z; exact ⟨h, Nat.le_refl _, z⟩
    · have q := fitS_fine m hm s h; exact ⟨q.1, by simp; omega, q.2.2⟩
  | .wth k s, h => by
    unfold fitS; split
    · rename_i z; exact ⟨h, Nat.le_refl _, z⟩
    · have q := fitS_fine m hm s h.2.2; exact ⟨q.1, by simp; omega, q.2.2⟩
  | .and s t, h => by
    unfold fitS; split
    · rename_i z; exact ⟨h, Nat.le_refl _, z⟩
    · have q := fitS_fine m hm t h.2; exact ⟨q.1, by simp; omega, q.2.2⟩
  | .or s t, h => by
    unfold fitS; split
    · rename_i z; exact ⟨h, Nat.le_refl _, z⟩
    · have q := fitS_fine m hm t h.2; exact ⟨q.1, by simp; omega, q.2.2⟩
  | .unt s t, h => by
    unfold fitS; split
    · rename_i z; exact ⟨h, Nat.le_refl _, z⟩
    · have q := fitS_fine m hm t h.2; exact ⟨q.1, by simp; omega, q.2.2⟩
  | .sin s t, h => by
    unfold fitS; split
    · rename_i z; exact ⟨h, Nat.le_refl _, z⟩
    · have q := fitS_fine m hm t h.2; exact ⟨q.1, by simp; omega, q.2.2⟩
def fitF : List PyData → Option PyData := fnD 2 (gL_fit wishesF)
theorem last2 (a b : PyData) : ixD (.tuple [a, b]) (.int (-1)) = some b := by simp [atI, ixN]
theorem last3 (a b c : PyData) : ixD (.tuple [a, b, c]) (.int (-1)) = some c := by simp [atI, ixN]
abbrev fitC : Rho → Option Bool := (fB (f2 (rb fun i j => decide (j < i)) (fCl (one1 lenD) (fCons (fCa 1 wishesF (fCons (fV 0) fNil)) fNil)) (fV 1)))
abbrev fitB : Rho → Option Out := (gSet 0 (f2 ixD (fV 0) (f1 negD (fC (.int 1)))))
theorem fitC_eq (m : Nat) (s : Sm) (h : s.Fine) (hd : s.depth ≤ 10) : fitC [some (.d (enc s)), some (.d (.int m))] = some (decide (m < (wishL s).length)) := by
  simp [fitC, wishes_eq s h hd]
theorem fit_stop (m n : Nat) (s : Sm) (h : s.Fine) (hd : s.depth ≤ 10) (hw : (wishL s).length ≤ m) : whileGo fitC fitB (n + 1) [some (.d (enc s)), some (.d (.int m))] = some (.nx [some (.d (enc s)), some (.d (.int m))]) :=
  while_f (by rw [fitC_eq m s h hd, decide_eq_false (by omega)])
theorem fit_on (m n : Nat) (s t : Sm) (h : s.Fine) (hd : s.depth ≤ 10) (hw : ¬ (wishL s).length ≤ m) (e : ixD (enc s) (.int (-1)) = some (enc t)) : whileGo fitC fitB (n + 1) [some (.d (enc s)), some (.d (.int m))] = whileGo fitC fitB n [some (.d (enc t)), some (.d (.int m))] := by
  rw [while_t (by rw [fitC_eq m s h hd, decide_eq_true (by omega)])]
  simp [fitB, e]
theorem fit_go (m : Nat) (hm : 1 ≤ m) (s : Sm) : s.Fine → s.depth ≤ 10 → ∀ n : Nat, s.depth ≤ n → whileGo fitC fitB n [some (.d (enc s)), some (.d (.int m))] = some (.nx [some (.d (enc (fitS m s))), some (.d (.int m))]) := by
  have no : ∀ s : Sm, ¬ s.depth ≤ 0 := fun s => by cases s <;> simp
  induction s with
  | mark x => intro h hd n hn; cases n with | zero => exact absurd hn (no _) | succ n => exact fit_stop m n _ h hd (by simpa [wishL, allS, wishGo, moreS] using hm)
  | yes => intro h hd n hn; cases n with | zero => exact absurd hn (no _) | succ n => exact fit_stop m n _ h hd (by simpa [wishL, allS, wishGo, moreS] using hm)
  | not s ihs | nxt s ihs | bef s ihs =>
    intro h hd n hn
    cases n with
    | zero => exact absurd hn (no _)
    | succ n =>
      unfold fitS
      split
      · rename_i z; exact fit_stop m n _ h hd z
      · rename_i z; rw [fit_on m n _ s h hd z (by simp [enc, last2, -ixD_t])]; exact ihs h (by simp at hd; omega) n (by simp at hn; omega)
  | wth k s ihs =>
    intro h hd n hn
    cases n with
    | zero => exact absurd hn (no _)
    | succ n =>
      unfold fitS
      split
      · rename_i z; exact fit_stop m n _ h hd z
      · rename_i z; rw [fit_on m n _ s h hd z (by simp [enc, last3, -ixD_t])]; exact ihs h.2.2 (by simp at hd; omega) n (by simp at hn; omega)
  | and s t ihs iht | or s t ihs iht | unt s t ihs iht | sin s t ihs iht =>
    intro h hd n hn
    cases n with
    | zero => exact absurd hn (no _)
    | succ n =>
      unfold fitS
      split
      · rename_i z; exact fit_stop m n _ h hd z
      · rename_i z; rw [fit_on m n _ t h hd z (by simp [enc, last3, -ixD_t])]; exact iht h.2 (by simp at hd; omega) n (by simp at hn; omega)
theorem fit_eq (m : Nat) (hm : 1 ≤ m) (s : Sm) (h : s.Fine) (hd : s.depth ≤ 10) : fitF [enc s, .int m] = some (enc (fitS m s)) := by
  have q := fit_go m hm s h hd 1000 (by omega)
  unfold fitF
  rw [fnD_ap]
  have e : startR 2 [enc s, .int m] = [some (.d (enc s)), some (.d (.int m))] := rfl
  rw [e, gL_fit, gSeq_ap, q]
  simp
/-! ### what is made of the draws -/
theorem ni2 (a b x : Str) : niP (.str x) (.tuple [.str a, .str b]) = some (.bool (!(sEq a x || sEq b x))) := by
  unfold niP inD
  simp [flatD, eqv_str]
theorem in3 (a b c x : Str) : inP (.str x) (.tuple [.str a, .str b, .str c]) = some (.bool (sEq a x || sEq b x || sEq c x)) := by
  unfold inP inD
  simp [flatD, eqv_str, Bool.or_assoc]
def kindsP : List Str := ["not", "and", "or", "before", "since", "not", "and", "before", "since", "or", "since", "before"]
def kindsA : List Str := ["not", "and", "or", "next", "until", "within", "until", "next", "since", "before", "until", "within"]
theorem splitP : splitD (.str "not and or before since not and before since or since before") [.str " "] = some (.list (kindsP.map .str)) := by
  have e : Txt.split "not and or before since not and before since or since before" " " = kindsP := by decide +kernel
  unfold splitD
  simp only
  rw [if_pos (by decide +kernel), e]
theorem splitA : splitD (.str "not and or next until within until next since before until within") [.str " "] = some (.list (kindsA.map .str)) := by
  have e : Txt.split "not and or next until within until next since before until within" " " = kindsA := by decide +kernel
  unfold splitD
  simp only
  rw [if_pos (by decide +kernel), e]
def wk (more : Int) : Int := if more % 5 = 0 then 1 else if more % 5 = 1 then 2 else if more % 5 = 2 then 0 else if more % 5 = 3 then 1 else more / 6 % 5
theorem wk_ix (more : Int) : ixD (.list [.int 1, .int 2, .int 0, .int 1, .int (more / 6 % 5)]) (.int (more % 5)) = some (.int (wk more)) := by
  have h0 : 0 ≤ more % 5 := Int.emod_nonneg _ (by decide)
  have h1 : more % 5 < 5 := Int.emod_lt_of_pos _ (by decide)
  have h : more % 5 = 0 ∨ more % 5 = 1 ∨ more % 5 = 2 ∨ more % 5 = 3 ∨ more % 5 = 4 := by omega
  unfold wk
  rcases h with h | h | h | h | h <;> rw [h] <;> simp [atI, ixN]
theorem wk_in (more : Int) : 0 ≤ wk more ∧ wk more ≤ 4 := by
  have h0 : 0 ≤ more / 6 % 5 := Int.emod_nonneg _ (by decide)
  have h1 : more / 6 % 5 < 5 := Int.emod_lt_of_pos _ (by decide)
  unfold wk
  repeat' split
  all_goals omega
structure Nm where
  a : Str
  b : Str
  d : Str
def Nm.at (n : Nm) (z : Int) : Str := if z = 0 then n.a else if z = 1 then n.b else n.d
def Nm.enc (n : Nm) : PyData := dS [n.a, n.b, n.d]
theorem nm_ix (n : Nm) (z : Int) : ixD n.enc (.int (z % 3)) = some (.str (n.at (z % 3))) := by
  have h0 : 0 ≤ z % 3 := Int.emod_nonneg _ (by decide)
  have h1 : z % 3 < 3 := Int.emod_lt_of_pos _ (by decide)
  have h : z % 3 = 0 ∨ z % 3 = 1 ∨ z % 3 = 2 := by omega
  unfold Nm.at Nm.enc dS
  rcases h with h | h | h <;> rw [h] <;> simp
def leafS (n : Nm) (c : Int) : Sm := if c / 14 % 9 = 4 then .yes else .mark (n.at (c / 14 % 3))
/-- the statement that a kind makes: the first part, and what the second is where there is one -/
def joinS (j : Nat) (ahead : Bool) (more : Int) (one : Sm) (two : Sm) : Sm :=
  match ahead, j with
  | false, 0 | false, 5 | true, 0 => .not one
  | false, 3 | false, 7 | false, 11 | true, 9 => .bef one
  | true, 3 | true, 7 => .nxt one
  | true, 5 | true, 11 => .wth (wk more) one
  | false, 1 | false, 6 | true, 1 => .and one two
  | false, 2 | false, 9 | true, 2 => .or one two
  | true, 4 | true, 6 | true, 10 => .unt one two
  | _, _ => .sin one two
def isOne (j : Nat) (ahead : Bool) : Bool := match ahead, j with
  | false, 0 | false, 5 | true, 0 | false, 3 | false, 7 | false, 11 | true, 9 | true, 3 | true, 7 | true, 5 | true, 11 => true
  | _, _ => false
def staysA (j : Nat) (ahead : Bool) : Bool := ahead && !(j == 8 || j == 9)
def madeS (ns : List Int) (n : Nm) : Nat → Bool → Nat → Sm × Nat
  | 0, _, k => (leafS n (drawn ns k), k + 1)
  | 1, _, k => (leafS n (drawn ns k), k + 1)
  | d + 2, ahead, k =>
    if drawn ns k % 14 < 2 then (leafS n (drawn ns k), k + 1) else
      let j := (drawn ns k % 14 - 2).toNat
      let p := madeS ns n (d + 1) (staysA j ahead) (k + 1)
      if isOne j ahead then (joinS j ahead (drawn ns k / 14) p.1 p.1, p.2) else
        let q := madeS ns n (d + 1) (staysA j ahead) p.2
        (joinS j ahead (drawn ns k / 14) p.1 q.1, q.2)
end My

namespace My
open PySem L2 Dn TL
theorem ix_strs {L : List Str} {j : Nat} {w : Str} (h : L[j]? = some w) : ixD (.list (L.map .str)) (.int (j : Int)) = some (.str w) := by
  show atI (L.map PyData.str) (j : Int) = _
  exact atI_nat (by rw [List.getElem?_map, h]; rfl)
/-- the rest of the law's making, behind the kind -/
abbrev madeR (FL_made : List PyData → List PyData → Option (PyData × List PyData)) : Rho → Option Out := (gSeq (gSet 4 (fAnd (fV 4) (f2 niP (fV 8) (fTup (fCons (fC (.str "before")) (fCons (fC (.str "since")) fNil)))))) (gSeq (gSetE 9 (fCaC 5 FL_made 1 (fV 0) (fCons (fV 2) (fCons (f2 (ri fun i j => i - j) (fV 3) (fC (.int 1))) (fCons (fV 4) fNil))))) (gSeq (gIf (fB (f2 eqP (fV 8) (fC (.str "within")))) (gRet (fTup (fCons (fV 8) (fCons (f2 ixD (fLst (fCons (fC (.int 1)) (fCons (fC (.int 2)) (fCons (fC (.int 0)) (fCons (fC (.int 1)) (fCons (f2 modD (f2 fdivD (fV 6) (fC (.int 6))) (fC (.int 5))) fNil)))))) (f2 modD (fV 6) (fC (.int 5)))) (fCons (fV 9) fNil))))) gNx) (gSeq (gIf (fB (f2 inP (fV 8) (fTup (fCons (fC (.str "not")) (fCons (fC (.str "next")) (fCons (fC (.str "before")) fNil)))))) (gRet (fTup (fCons (fV 8) (fCons (fV 9) fNil)))) gNx) (gRetE (fTupE (fE2 (fV 8) (fE2 (fV 9) (fE1 (fCaC 5 FL_made 1 (fV 0) (fCons (fV 2) (fCons (f2 (ri fun i j => i - j) (fV 3) (fC (.int 1))) (fCons (fV 4) fNil)))) fNil)))))))))
section
variable (a : Addr) (R : List PyData → List PyData → Option (PyData × List PyData)) (ns : PyData) (nm : PyData) (d c more : Int) (kinds : PyData) (k k1 k2 : Int) (one two : Sm)
/-- one part: not, next, before -/
theorem mR_one (ah : Bool) (w : Str) (h1 : sEq w "within" = false) (h2 : (sEq "not" w || sEq "next" w || sEq "before" w) = true)
    (p : Bool) (h3 : (sEq "before" w || sEq "since" w) = p) (hR : R [ns, nm, .int (d - 1), .bool (ah && !p)] [.int k] = some (enc one, [.int k1])) :
    retC a (madeR R [some (.d ns), some (.own (some a) [.int k]), some (.d nm), some (.d (.int d)), some (.d (.bool ah)), some (.d (.int c)), some (.d (.int more)), some (.d kinds), some (.d (.str w)), none]) = some (.tuple [.str w, enc one], [.int k1]) := by
  simp [madeR, ni2, in3, hR, h1, h2, h3, retC, -Bool.not_or]
theorem mR_wth (ah : Bool) (hR : R [ns, nm, .int (d - 1), .bool ah] [.int k] = some (enc one, [.int k1])) :
    retC a (madeR R [some (.d ns), some (.own (some a) [.int k]), some (.d nm), some (.d (.int d)), some (.d (.bool ah)), some (.d (.int c)), some (.d (.int more)), some (.d kinds), some (.d (.str "within")), none]) = some (enc (.wth (wk more) one), [.int k1]) := by
  have e6 : fdivD (.int more) (.int 6) = some (.int (more / 6)) := fdivD_i (by decide)
  have m5 : ∀ z : Int, modD (.int z) (.int 5) = some (.int (z % 5)) := fun z => modD_i (by decide)
  have ix := wk_ix more
  simp only [ixD_l] at ix
  simp [madeR, ni2, hR, e6, m5, ix, retC, enc]
theorem mR_two (ah : Bool) (w : Str) (h1 : sEq w "within" = false) (h2 : (sEq "not" w || sEq "next" w || sEq "before" w) = false)
    (p : Bool) (h3 : (sEq "before" w || sEq "since" w) = p) (hR : R [ns, nm, .int (d - 1), .bool (ah && !p)] [.int k] = some (enc one, [.int k1]))
    (hR2 : R [ns, nm, .int (d - 1), .bool (ah && !p)] [.int k1] = some (enc two, [.int k2])) :
    retC a (madeR R [some (.d ns), some (.own (some a) [.int k]), some (.d nm), some (.d (.int d)), some (.d (.bool ah)), some (.d (.int c)), some (.d (.int more)), some (.d kinds), some (.d (.str w)), none]) = some (.tuple [.str w, enc one, enc two], [.int k2]) := by
  simp [madeR, ni2, in3, hR, hR2, h1, h2, h3, retC, -Bool.not_or]
end
/-- up to the kind -/
theorem made_head (a : Addr) (R : List PyData → List PyData → Option (PyData × List PyData)) (ns : List Int) (n : Nm) (d : Nat) (ah : Bool) (k : Nat) (hd : 2 ≤ d) (hc : ¬ drawn ns k % 14 < 2) (w : Str)
    (hw : (if ah then kindsA else kindsP)[(drawn ns k % 14 - 2).toNat]? = some w) :
    gL_made drawF R (startC 10 a [dI ns, n.enc, .int d, .bool ah] [.int k]) = madeR R [some (.d (dI ns)), some (.own (some a) [.int ((k + 1 : Nat) : Int)]), some (.d n.enc), some (.d (.int d)), some (.d (.bool ah)), some (.d (.int (drawn ns k))), some (.d (.int (drawn ns k / 14))), some (.d (.str (if ah then "not and or next until within until next since before until within" else "not and or before since not and before since or since before"))), some (.d (.str w)), none] := by
  have e14 : ∀ z : Int, fdivD (.int z) (.int 14) = some (.int (z / 14)) := fun z => fdivD_i (by decide)
  have m14 : ∀ z : Int, modD (.int z) (.int 14) = some (.int (z % 14)) := fun z => modD_i (by decide)
  have h1 : drawn ns k % 14 < 14 := Int.emod_lt_of_pos _ (by decide)
  have hj : ((drawn ns k % 14 - 2).toNat : Int) = drawn ns k % 14 - 2 := by omega
  have dr := drawF_eq ns k
  have hd2 : ¬ ((d : Int) < 2) := by omega
  generalize drawn ns k = c at *
  cases ah with
  | true =>
    have hA := ix_strs (L := kindsA) hw
    rw [hj] at hA
    simp [startC, gL_made, dr, e14, m14, hd2, hc, splitA, -ixD_l, hA]
  | false =>
    have hP := ix_strs (L := kindsP) hw
    rw [hj] at hP
    simp [startC, gL_made, dr, e14, m14, hd2, hc, splitP, -ixD_l, hP]
theorem made_leaf (a : Addr) (R : List PyData → List PyData → Option (PyData × List PyData)) (ns : List Int) (n : Nm) (d : Nat) (ah : Bool) (k : Nat) (h : d < 2 ∨ drawn ns k % 14 < 2) :
    retC a (gL_made drawF R (startC 10 a [dI ns, n.enc, .int d, .bool ah] [.int k])) = some (enc (leafS n (drawn ns k)), [.int ((k + 1 : Nat) : Int)]) := by
  have e14 : ∀ z : Int, fdivD (.int z) (.int 14) = some (.int (z / 14)) := fun z => fdivD_i (by decide)
  have m14 : ∀ z : Int, modD (.int z) (.int 14) = some (.int (z % 14)) := fun z => modD_i (by decide)
  have m9 : ∀ z : Int, modD (.int z) (.int 9) = some (.int (z % 9)) := fun z => modD_i (by decide)
  have m3 : ∀ z : Int, modD (.int z) (.int 3) = some (.int (z % 3)) := fun z => modD_i (by decide)
  have dr := drawF_eq ns k
  have ix := nm_ix n (drawn ns k / 14)
  generalize drawn ns k = c at *
  have t : (decide ((d : Int) < 2) || decide (c % 14 < 2)) = true := by
    rcases h with h | h
    · simp [show (d : Int) < 2 by omega]
    · simp [h]
  by_cases h9 : c / 14 % 9 = 4
  · by_cases hd : (d : Int) < 2
    · simp [startC, gL_made, dr, e14, m14, m9, m3, hd, h9, retC, leafS, enc]
    · simp [hd] at t
      simp [startC, gL_made, dr, e14, m14, m9, m3, hd, t, h9, retC, leafS, enc]
  · by_cases hd : (d : Int) < 2
    · simp [startC, gL_made, dr, e14, m14, m9, m3, hd, h9, retC, leafS, enc, ix]
    · simp [hd] at t
      simp [startC, gL_made, dr, e14, m14, m9, m3, hd, t, h9, retC, leafS, enc, ix]
end My

namespace My
open PySem L2 Dn TL
theorem made_true (a : Addr) (R : List PyData → List PyData → Option (PyData × List PyData)) (ns : List Int) (n : Nm) (d k : Nat) (hc : ¬ drawn ns k % 14 < 2)
    (hR : ∀ (ah : Bool) (k' : Nat), R [dI ns, n.enc, .int (((d + 2 : Nat) : Int) - 1), .bool ah] [.int (k' : Int)] = some (enc (madeS ns n (d + 1) ah k').1, [.int ((madeS ns n (d + 1) ah k').2 : Int)])) :
    retC a (gL_made drawF R (startC 10 a [dI ns, n.enc, .int ((d + 2 : Nat) : Int), .bool true] [.int (k : Int)])) = some (enc (madeS ns n (d + 2) true k).1, [.int ((madeS ns n (d + 2) true k).2 : Int)]) := by
  have h0 : 0 ≤ drawn ns k % 14 := Int.emod_nonneg _ (by decide)
  have h1 : drawn ns k % 14 < 14 := Int.emod_lt_of_pos _ (by decide)
  rw [madeS, if_neg hc]
  have hlt : (drawn ns k % 14 - 2).toNat < 12 := by omega
  generalize hj : (drawn ns k % 14 - 2).toNat = j at *
  match j, hlt with
  | 0, _ =>
      have hd := made_head a R ns n (d + 2) true k (by omega) hc "not" (by simp only [if_pos, if_neg Bool.false_ne_true, hj]; rfl)
      rw [hd]
      exact mR_one a R _ _ _ _ _ _ _ _ _ true "not" (by simp) (by simp) false (by simp) (hR (true && !false) (k + 1))
  | 1, _ =>
      have hd := made_head a R ns n (d + 2) true k (by omega) hc "and" (by simp only [if_pos, if_neg Bool.false_ne_true, hj]; rfl)
      rw [hd]
      exact mR_two a R _ _ _ _ _ _ _ _ _ _ _ true "and" (by simp) (by simp) false (by simp) (hR (true && !false) (k + 1)) (hR (true && !false) _)
  | 2, _ =>
      have hd := made_head a R ns n (d + 2) true k (by omega) hc "or" (by simp only [if_pos, if_neg Bool.false_ne_true, hj]; rfl)
      rw [hd]
      exact mR_two a R _ _ _ _ _ _ _ _ _ _ _ true "or" (by simp) (by simp) false (by simp) (hR (true && !false) (k + 1)) (hR (true && !false) _)
  | 3, _ =>
      have hd := made_head a R ns n (d + 2) true k (by omega) hc "next" (by simp only [if_pos, if_neg Bool.false_ne_true, hj]; rfl)
      rw [hd]
      exact mR_one a R _ _ _ _ _ _ _ _ _ true "next" (by simp) (by simp) false (by simp) (hR (true && !false) (k + 1))
  | 4, _ =>
      have hd := made_head a R ns n (d + 2) true k (by omega) hc "until" (by simp only [if_pos, if_neg Bool.false_ne_true, hj]; rfl)
      rw [hd]
      exact mR_two a R _ _ _ _ _ _ _ _ _ _ _ true "until" (by simp) (by simp) false (by simp) (hR (true && !false) (k + 1)) (hR (true && !false) _)
  | 5, _ =>
      have hd := made_head a R ns n (d + 2) true k (by omega) hc "within" (by simp only [if_pos, hj]; rfl)
      rw [hd]
      have h1 := hR true (k + 1)
      exact mR_wth a R _ _ _ _ _ _ _ _ _ true h1
  | 6, _ =>
      have hd := made_head a R ns n (d + 2) true k (by omega) hc "until" (by simp only [if_pos, if_neg Bool.false_ne_true, hj]; rfl)
      rw [hd]
      exact mR_two a R _ _ _ _ _ _ _ _ _ _ _ true "until" (by simp) (by simp) false (by simp) (hR (true && !false) (k + 1)) (hR (true && !false) _)
  | 7, _ =>
      have hd := made_head a R ns n (d + 2) true k (by omega) hc "next" (by simp only [if_pos, if_neg Bool.false_ne_true, hj]; rfl)
      rw [hd]
      exact mR_one a R _ _ _ _ _ _ _ _ _ true "next" (by simp) (by simp) false (by simp) (hR (true && !false) (k + 1))
  | 8, _ =>
      have hd := made_head a R ns n (d + 2) true k (by omega) hc "since" (by simp only [if_pos, if_neg Bool.false_ne_true, hj]; rfl)
      rw [hd]
      exact mR_two a R _ _ _ _ _ _ _ _ _ _ _ true "since" (by simp) (by simp) true (by simp) (hR (true && !true) (k + 1)) (hR (true && !true) _)
  | 9, _ =>
      have hd := made_head a R ns n (d + 2) true k (by omega) hc "before" (by simp only [if_pos, if_neg Bool.false_ne_true, hj]; rfl)
      rw [hd]
      exact mR_one a R _ _ _ _ _ _ _ _ _ true "before" (by simp) (by simp) true (by simp) (hR (true && !true) (k + 1))
  | 10, _ =>
      have hd := made_head a R ns n (d + 2) true k (by omega) hc "until" (by simp only [if_pos, if_neg Bool.false_ne_true, hj]; rfl)
      rw [hd]
      exact mR_two a R _ _ _ _ _ _ _ _ _ _ _ true "until" (by simp) (by simp) false (by simp) (hR (true && !false) (k + 1)) (hR (true && !false) _)
  | 11, _ =>
      have hd := made_head a R ns n (d + 2) true k (by omega) hc "within" (by simp only [if_pos, hj]; rfl)
      rw [hd]
      have h1 := hR true (k + 1)
      exact mR_wth a R _ _ _ _ _ _ _ _ _ true h1
  | j + 12, h => omega
theorem made_false (a : Addr) (R : List PyData → List PyData → Option (PyData × List PyData)) (ns : List Int) (n : Nm) (d k : Nat) (hc : ¬ drawn ns k % 14 < 2)
    (hR : ∀ (ah : Bool) (k' : Nat), R [dI ns, n.enc, .int (((d + 2 : Nat) : Int) - 1), .bool ah] [.int (k' : Int)] = some (enc (madeS ns n (d + 1) ah k').1, [.int ((madeS ns n (d + 1) ah k').2 : Int)])) :
    retC a (gL_made drawF R (startC 10 a [dI ns, n.enc, .int ((d + 2 : Nat) : Int), .bool false] [.int (k : Int)])) = some (enc (madeS ns n (d + 2) false k).1, [.int ((madeS ns n (d + 2) false k).2 : Int)]) := by
  have h0 : 0 ≤ drawn ns k % 14 := Int.emod_nonneg _ (by decide)
  have h1 : drawn ns k % 14 < 14 := Int.emod_lt_of_pos _ (by decide)
  rw [madeS, if_neg hc]
  have hlt : (drawn ns k % 14 - 2).toNat < 12 := by omega
  generalize hj : (drawn ns k % 14 - 2).toNat = j at *
  match j, hlt with
  | 0, _ =>
      have hd := made_head a R ns n (d + 2) false k (by omega) hc "not" (by simp only [if_pos, if_neg Bool.false_ne_true, hj]; rfl)
      rw [hd]
      exact mR_one a R _ _ _ _ _ _ _ _ _ false "not" (by simp) (by simp) false (by simp) (hR (false && !false) (k + 1))
  | 1, _ =>
      have hd := made_head a R ns n (d + 2) false k (by omega) hc "and" (by simp only [if_pos, if_neg Bool.false_ne_true, hj]; rfl)
      rw [hd]
      exact mR_two a R _ _ _ _ _ _ _ _ _ _ _ false "and" (by simp) (by simp) false (by simp) (hR (false && !false) (k + 1)) (hR (false && !false) _)
  | 2, _ =>
      have hd := made_head a R ns n (d + 2) false k (by omega) hc "or" (by simp only [if_pos, if_neg Bool.false_ne_true, hj]; rfl)
      rw [hd]
      exact mR_two a R _ _ _ _ _ _ _ _ _ _ _ false "or" (by simp) (by simp) false (by simp) (hR (false && !false) (k + 1)) (hR (false && !false) _)
  | 3, _ =>
      have hd := made_head a R ns n (d + 2) false k (by omega) hc "before" (by simp only [if_pos, if_neg Bool.false_ne_true, hj]; rfl)
      rw [hd]
      exact mR_one a R _ _ _ _ _ _ _ _ _ false "before" (by simp) (by simp) true (by simp) (hR (false && !true) (k + 1))
  | 4, _ =>
      have hd := made_head a R ns n (d + 2) false k (by omega) hc "since" (by simp only [if_pos, if_neg Bool.false_ne_true, hj]; rfl)
      rw [hd]
      exact mR_two a R _ _ _ _ _ _ _ _ _ _ _ false "since" (by simp) (by simp) true (by simp) (hR (false && !true) (k + 1)) (hR (false && !true) _)
  | 5, _ =>
      have hd := made_head a R ns n (d + 2) false k (by omega) hc "not" (by simp only [if_pos, if_neg Bool.false_ne_true, hj]; rfl)
      rw [hd]
      exact mR_one a R _ _ _ _ _ _ _ _ _ false "not" (by simp) (by simp) false (by simp) (hR (false && !false) (k + 1))
  | 6, _ =>
      have hd := made_head a R ns n (d + 2) false k (by omega) hc "and" (by simp only [if_pos, if_neg Bool.false_ne_true, hj]; rfl)
      rw [hd]
      exact mR_two a R _ _ _ _ _ _ _ _ _ _ _ false "and" (by simp) (by simp) false (by simp) (hR (false && !false) (k + 1)) (hR (false && !false) _)
  | 7, _ =>
      have hd := made_head a R ns n (d + 2) false k (by omega) hc "before" (by simp only [if_pos, if_neg Bool.false_ne_true, hj]; rfl)
      rw [hd]
      exact mR_one a R _ _ _ _ _ _ _ _ _ false "before" (by simp) (by simp) true (by simp) (hR (false && !true) (k + 1))
  | 8, _ =>
      have hd := made_head a R ns n (d + 2) false k (by omega) hc "since" (by simp only [if_pos, if_neg Bool.false_ne_true, hj]; rfl)
      rw [hd]
      exact mR_two a R _ _ _ _ _ _ _ _ _ _ _ false "since" (by simp) (by simp) true (by simp) (hR (false && !true) (k + 1)) (hR (false && !true) _)
  | 9, _ =>
      have hd := made_head a R ns n (d + 2) false k (by omega) hc "or" (by simp only [if_pos, if_neg Bool.false_ne_true, hj]; rfl)
      rw [hd]
      exact mR_two a R _ _ _ _ _ _ _ _ _ _ _ false "or" (by simp) (by simp) false (by simp) (hR (false && !false) (k + 1)) (hR (false && !false) _)
  | 10, _ =>
      have hd := made_head a R ns n (d + 2) false k (by omega) hc "since" (by simp only [if_pos, if_neg Bool.false_ne_true, hj]; rfl)
      rw [hd]
      exact mR_two a R _ _ _ _ _ _ _ _ _ _ _ false "since" (by simp) (by simp) true (by simp) (hR (false && !true) (k + 1)) (hR (false && !true) _)
  | 11, _ =>
      have hd := made_head a R ns n (d + 2) false k (by omega) hc "before" (by simp only [if_pos, if_neg Bool.false_ne_true, hj]; rfl)
      rw [hd]
      exact mR_one a R _ _ _ _ _ _ _ _ _ false "before" (by simp) (by simp) true (by simp) (hR (false && !true) (k + 1))
  | j + 12, h => omega
end My


namespace My
open PySem L2 Dn TL
structure Nm.Ok (n : Nm) : Prop where
  a : Ltr n.a
  b : Ltr n.b
  d : Ltr n.d
theorem leaf_fine {n : Nm} (h : n.Ok) (c : Int) : (leafS n c).Fine ∧ (leafS n c).depth = 1 := by
  unfold leafS
  split
  · exact ⟨True.intro, rfl⟩
  · refine ⟨?_, rfl⟩
    show Ltr _
    unfold Nm.at
    split
    · exact h.a
    · split
      · exact h.b
      · exact h.d
theorem join_fine {j : Nat} {ah : Bool} {more : Int} {s t : Sm} {d : Nat} (hs : s.Fine ∧ s.depth ≤ d) (ht : t.Fine ∧ t.depth ≤ d) : (joinS j ah more s t).Fine ∧ (joinS j ah more s t).depth ≤ d + 1 := by
  have hw := wk_in more
  unfold joinS
  split <;> first
    | exact ⟨hs.1, by simp; omega⟩
    | exact ⟨⟨hs.1, ht.1⟩, by simp; omega⟩
    | exact ⟨⟨hw.1, hw.2, hs.1⟩, by simp; omega⟩
theorem made_fine (ns : List Int) {n : Nm} (h : n.Ok) : ∀ (d : Nat) (ah : Bool) (k : Nat), (madeS ns n d ah k).1.Fine ∧ (madeS ns n d ah k).1.depth ≤ max d 1
  | 0, ah, k => by have := leaf_fine h (drawn ns k); exact ⟨this.1, by rw [madeS]; dsimp only; omega⟩
  | 1, ah, k => by have := leaf_fine h (drawn ns k); exact ⟨this.1, by rw [madeS]; dsimp only; omega⟩
  | d + 2, ah, k => by
    have ih := made_fine ns h (d + 1)
    rw [madeS]
    split
    · have := leaf_fine h (drawn ns k); exact ⟨this.1, by dsimp only; omega⟩
    · simp only
      have e : max (d + 2) 1 = (d + 1) + 1 := by omega
      rw [e]
      split
      · have i1 := ih (staysA (drawn ns k % 14 - 2).toNat ah) (k + 1)
        rw [show max (d + 1) 1 = d + 1 by omega] at i1
        exact join_fine i1 i1
      · have i1 := ih (staysA (drawn ns k % 14 - 2).toNat ah) (k + 1)
        have i2 := ih (staysA (drawn ns k % 14 - 2).toNat ah) (madeS ns n (d + 1) (staysA (drawn ns k % 14 - 2).toNat ah) (k + 1)).2
        rw [show max (d + 1) 1 = d + 1 by omega] at i1 i2
        exact join_fine i1 i2
theorem strsD_inv : ∀ {vs : List PyData} {ns : List Str}, strsD vs = some ns → vs = ns.map .str
  | [], ns, h => by cases h; rfl
  | .str i :: r, ns, h => by
    simp only [strsD] at h
    obtain ⟨ms, e, rfl⟩ := Option.map_eq_some_iff.mp h
    rw [strsD_inv e]; rfl
  | .none :: r, ns, h => by simp [strsD] at h
  | .bool _ :: r, ns, h => by simp [strsD] at h
  | .int _ :: r, ns, h => by simp [strsD] at h
  | .list _ :: r, ns, h => by simp [strsD] at h
  | .tuple _ :: r, ns, h => by simp [strsD] at h
  | .dict _ :: r, ns, h => by simp [strsD] at h
def nmOf : List PyData → Option Nm := fun xs => match strsD xs with
  | some [a, b, c] => some ⟨a, b, c⟩
  | _ => none
theorem nmOf_enc (n : Nm) : nmOf [.str n.a, .str n.b, .str n.d] = some n := rfl
theorem nmOf_inv {xs : List PyData} {n : Nm} (h : nmOf xs = some n) : PyData.list xs = n.enc := by
  unfold nmOf at h
  split at h
  · rename_i a b c e
    cases h
    rw [strsD_inv e]; rfl
  · cases h
def madeF (m : Nat) (ds xs : List PyData) : Option (PyData × List PyData) := match ds, xs with
  | [.list vs, .list nm, .int d, .bool ah], [.int k] => (drawF.strsI vs).bind fun ns => (nmOf nm).bind fun n => if (0 ≤ d ∧ d.toNat < m) ∧ 0 ≤ k then some (enc (madeS ns n d.toNat ah k.toNat).1, [.int ((madeS ns n d.toNat ah k.toNat).2 : Int)]) else none
  | _, _ => none
theorem madeF_0 : madeF 0 = fun _ _ => none := by
  funext ds xs
  unfold madeF
  split
  · rename_i vs nm d ah k
    cases drawF.strsI vs with
    | none => rfl
    | some ns =>
      cases nmOf nm with
      | none => rfl
      | some n => simp
  · rfl
theorem madeF_eq (m : Nat) (ns : List Int) (n : Nm) (d : Nat) (ah : Bool) (k : Nat) (h : d < m) : madeF m [dI ns, n.enc, .int (d : Int), .bool ah] [.int (k : Int)] = some (enc (madeS ns n d ah k).1, [.int ((madeS ns n d ah k).2 : Int)]) := by
  unfold madeF dI Nm.enc dS
  simp only [List.map_cons, List.map_nil]
  rw [strsI_map, nmOf_enc]
  simp only [Option.bind_some]
  rw [if_pos ⟨⟨by omega, by omega⟩, by omega⟩]
  simp
theorem made_run (a : Addr) (m : Nat) (ns : List Int) (n : Nm) (d : Nat) (ah : Bool) (k : Nat) (h : d < m + 1) : retC a (gL_made drawF (madeF m) (startC 10 a [dI ns, n.enc, .int (d : Int), .bool ah] [.int (k : Int)])) = some (enc (madeS ns n d ah k).1, [.int ((madeS ns n d ah k).2 : Int)]) := by
  match d, h with
  | 0, _ => exact made_leaf a _ ns n 0 ah k (.inl (by decide))
  | 1, _ => exact made_leaf a _ ns n 1 ah k (.inl (by decide))
  | d + 2, h =>
    by_cases hc : drawn ns k % 14 < 2
    · rw [madeS, if_pos hc]
      exact made_leaf a _ ns n (d + 2) ah k (.inr hc)
    · have hR : ∀ (ah : Bool) (k' : Nat), madeF m [dI ns, n.enc, .int (((d + 2 : Nat) : Int) - 1), .bool ah] [.int (k' : Int)] = some (enc (madeS ns n (d + 1) ah k').1, [.int ((madeS ns n (d + 1) ah k').2 : Int)]) := fun ah k' => by
        rw [show ((d + 2 : Nat) : Int) - 1 = ((d + 1 : Nat) : Int) by omega]
        exact madeF_eq m ns n (d + 1) ah k' (by omega)
      cases ah with
      | true => exact made_true a _ ns n d k hc hR
      | false => exact made_false a _ ns n d k hc hR
theorem madeF_run (m : Nat) (a : Addr) (ds xs : List PyData) (r : PyData × List PyData) (hl : ds.length + 1 = 5) (h : madeF (m + 1) ds xs = some r) : retC a (gL_made drawF (madeF m) (startC 10 a ds xs)) = some r := by
  unfold madeF at h
  split at h
  · rename_i vs nm d ah k
    obtain ⟨ns, e1, h⟩ := bind_some h
    obtain ⟨n, e2, h⟩ := bind_some h
    obtain ⟨⟨⟨h1, h2⟩, h3⟩, rfl⟩ := ite_some h
    have q := made_run a m ns n d.toNat ah k.toNat h2
    rw [show ((d.toNat : Nat) : Int) = d by omega, show ((k.toNat : Nat) : Int) = k by omega] at q
    rw [strsI_inv e1, nmOf_inv e2]
    exact q
  · cases h
/-! ### built, run -/
end My

namespace My
open PySem L2 Dn TL
def deepOf (ns : List Int) : Nat := if cellAt ns 1 % 8 = 5 then 6 else 5
def builtS (ns : List Int) (n : Nm) (m : Nat) : Sm := fitS m (madeS ns n (deepOf ns) true 2).1
def builtF : List PyData → Option PyData := fnD 5 (gL_built cellF fitF (madeF 8))
theorem built_fine (ns : List Int) {n : Nm} (h : n.Ok) (m : Nat) (hm : 1 ≤ m) : (builtS ns n m).Fine ∧ (builtS ns n m).depth ≤ 6 ∧ (wishL (builtS ns n m)).length ≤ m := by
  have q := made_fine ns h (deepOf ns) true 2
  have q2 := fitS_fine m hm _ q.1
  have hd : deepOf ns ≤ 6 := by unfold deepOf; split <;> omega
  exact ⟨q2.1, by have := q2.2.1; have := q.2; unfold builtS; omega, q2.2.2⟩
theorem built_eq (ns : List Int) {n : Nm} (h : n.Ok) (m : Nat) (hm : 1 ≤ m) : builtF [dI ns, n.enc, .int (m : Int)] = some (enc (builtS ns n m)) := by
  have q := made_fine ns h (deepOf ns) true 2
  have hd : deepOf ns ≤ 6 := by unfold deepOf; split <;> omega
  have f := fit_eq m hm (madeS ns n (deepOf ns) true 2).1 q.1 (by have := q.2; omega)
  have c := cell_eq ns 1
  have m8 : modD (.int (cellAt ns 1)) (.int 8) = some (.int (cellAt ns 1 % 8)) := modD_i (by decide)
  have mk := madeF_eq 8 ns n (deepOf ns) true 2 (by omega)
  unfold builtF
  by_cases h5 : cellAt ns 1 % 8 = 5
  · have e : deepOf ns = 6 := by unfold deepOf; rw [if_pos h5]
    rw [e] at mk f
    simp at mk c
    simp [fnD_ap, startR, gL_built, c, m8, h5, mk, f, builtS, e]
  · have e : deepOf ns = 5 := by unfold deepOf; rw [if_neg h5]
    rw [e] at mk f
    simp at mk c
    simp [fnD_ap, startR, gL_built, c, m8, h5, mk, f, builtS, e]
end My

namespace My
open PySem L2 Dn TL
/-! ### how a statement is written, by its signs' codes -/
def wdL : Sm → List Nat
  | .mark _ => [109, 97, 114, 107]
  | .yes => [121, 101, 115]
  | .not _ => [110, 111, 116]
  | .and _ _ => [97, 110, 100]
  | .or _ _ => [111, 114]
  | .nxt _ => [110, 101, 120, 116]
  | .unt _ _ => [117, 110, 116, 105, 108]
  | .wth _ _ => [119, 105, 116, 104, 105, 110]
  | .bef _ => [98, 101, 102, 111, 114, 101]
  | .sin _ _ => [115, 105, 110, 99, 101]
def txL : Sm → List Nat
  | .mark m => 39 :: (tl m ++ [39])
  | .yes => [121, 101, 115]
  | .not s => [110, 111, 116] ++ 40 :: (txL s ++ [41])
  | .nxt s => [110, 101, 120, 116] ++ 40 :: (txL s ++ [41])
  | .bef s => [98, 101, 102, 111, 114, 101] ++ 40 :: (txL s ++ [41])
  | .wth k s => [119, 105, 116, 104, 105, 110] ++ 40 :: ((48 + k.toNat) :: 44 :: 32 :: (txL s ++ [41]))
  | .and s t => [97, 110, 100] ++ 40 :: (txL s ++ 44 :: 32 :: (txL t ++ [41]))
  | .or s t => [111, 114] ++ 40 :: (txL s ++ 44 :: 32 :: (txL t ++ [41]))
  | .unt s t => [117, 110, 116, 105, 108] ++ 40 :: (txL s ++ 44 :: 32 :: (txL t ++ [41]))
  | .sin s t => [115, 105, 110, 99, 101] ++ 40 :: (txL s ++ 44 :: 32 :: (txL t ++ [41]))
/-- the first comma and space that stand in no bracket -/
def pushL (c : Nat) : Option (List Nat × List Nat) → Option (List Nat × List Nat)
  | some (a, b) => some (c :: a, b)
  | none => none
def partS : Int → List Nat → Option (List Nat × List Nat)
  | _, [] => none
  | d, c :: r => if c = 40 then pushL c (partS (d + 1) r) else if c = 41 then pushL c (partS (d - 1) r) else
    if d = 0 ∧ (c :: r).take 2 = [44, 32] then some ([], r.drop 1) else pushL c (partS d r)
def pushA (p : List Nat) : Option (List Nat × List Nat) → Option (List Nat × List Nat)
  | some (a, b) => some (p ++ a, b)
  | none => none
theorem pushA_cons (c : Nat) (p : List Nat) (o : Option (List Nat × List Nat)) : pushL c (pushA p o) = pushA (c :: p) o := by cases o <;> rfl
theorem pushA_nil (o : Option (List Nat × List Nat)) : pushA [] o = o := by cases o <;> rfl
theorem pushA_app (p q : List Nat) (o : Option (List Nat × List Nat)) : pushA p (pushA q o) = pushA (p ++ q) o := by
  cases o with
  | none => rfl
  | some x => simp [pushA]
theorem partS_one {d : Int} {c : Nat} {r : List Nat} (h : c ≠ 40 ∧ c ≠ 41 ∧ c ≠ 44) : partS d (c :: r) = pushL c (partS d r) := by
  rw [partS, if_neg h.1, if_neg h.2.1, if_neg]
  rintro ⟨_, e⟩
  cases r with
  | nil => simp at e
  | cons x r => simp at e; exact h.2.2 e.1
theorem partS_plain {d : Int} : ∀ (p r : List Nat), (∀ c ∈ p, c ≠ 40 ∧ c ≠ 41 ∧ c ≠ 44) → partS d (p ++ r) = pushA p (partS d r)
  | [], r, _ => (pushA_nil _).symm
  | c :: p, r, h => by
    rw [List.cons_append, partS_one (h c (by simp)), partS_plain p r fun x hx => h x (by simp [hx]), pushA_cons]
theorem partS_open {d : Int} (r : List Nat) : partS d (40 :: r) = pushL 40 (partS (d + 1) r) := by rw [partS, if_pos rfl]
theorem partS_close {d : Int} (r : List Nat) : partS d (41 :: r) = pushL 41 (partS (d - 1) r) := by rw [partS, if_neg (by decide), if_pos rfl]
theorem partS_in {d : Int} (h : d ≠ 0) (r : List Nat) : partS d (44 :: r) = pushL 44 (partS d r) := by rw [partS, if_neg (by decide), if_neg (by decide), if_neg (fun e => h e.1)]
theorem push_one (c : Nat) (o : Option (List Nat × List Nat)) : pushL c o = pushA [c] o := by cases o <;> rfl
theorem part_br {d : Int} (w inner : List Nat) (hw : ∀ c ∈ w, c ≠ 40 ∧ c ≠ 41 ∧ c ≠ 44) (hi : ∀ r, partS (d + 1) (inner ++ r) = pushA inner (partS (d + 1) r)) (r : List Nat) :
    partS d ((w ++ 40 :: (inner ++ [41])) ++ r) = pushA (w ++ 40 :: (inner ++ [41])) (partS d r) := by
  rw [List.append_assoc, partS_plain w _ hw, List.cons_append, partS_open, List.append_assoc, hi, List.singleton_append, partS_close, Int.add_sub_cancel, push_one, push_one, pushA_app, pushA_app, pushA_app]
  simp
theorem part_two {d : Int} (hd : d ≠ 0) (a b : List Nat) (ha : ∀ r, partS d (a ++ r) = pushA a (partS d r)) (hb : ∀ r, partS d (b ++ r) = pushA b (partS d r)) (r : List Nat) :
    partS d ((a ++ 44 :: 32 :: b) ++ r) = pushA (a ++ 44 :: 32 :: b) (partS d r) := by
  rw [List.append_assoc, ha, List.cons_append, List.cons_append, partS_in hd, partS_one (by decide), hb, push_one, push_one, pushA_app, pushA_app, pushA_app]
  simp
/-- a written statement is passed over -/
theorem partS_tx : ∀ (s : Sm), s.Fine → ∀ (d : Int), 0 ≤ d → ∀ r : List Nat, partS d (txL s ++ r) = pushA (txL s) (partS d r)
  | .mark m, h, d, hd, r => by
    refine partS_plain _ _ fun c hc => ?_
    have ab := (show Ltr m from h).ab
    simp only [txL, List.mem_cons, List.mem_append, List.not_mem_nil, or_false] at hc
    rcases hc with rfl | hc | rfl
    · decide
    · have := ab c hc; omega
    · decide
  | .yes, h, d, hd, r => partS_plain _ _ fun c hc => by simp [txL] at hc; omega
  | .not s, h, d, hd, r => part_br [110, 111, 116] (txL s) (by decide) (partS_tx s h (d + 1) (by omega)) r
  | .nxt s, h, d, hd, r => part_br [110, 101, 120, 116] (txL s) (by decide) (partS_tx s h (d + 1) (by omega)) r
  | .bef s, h, d, hd, r => part_br [98, 101, 102, 111, 114, 101] (txL s) (by decide) (partS_tx s h (d + 1) (by omega)) r
  | .wth k s, h, d, hd, r => by
    have q := part_two (d := d + 1) (by omega) [48 + k.toNat] (txL s) (fun r => partS_plain _ _ fun c hc => by
      have h1 := h.1
      have h2 := h.2.1
      simp at hc
      omega) (partS_tx s h.2.2 (d + 1) (by omega))
    have := part_br [119, 105, 116, 104, 105, 110] _ (by decide) q r
    simpa [txL] using this
  | .and s t, h, d, hd, r => by
    have := part_br [97, 110, 100] _ (by decide) (part_two (d := d + 1) (by omega) (txL s) (txL t) (partS_tx s h.1 (d + 1) (by omega)) (partS_tx t h.2 (d + 1) (by omega))) r
    simpa [txL] using this
  | .or s t, h, d, hd, r => by
    have := part_br [111, 114] _ (by decide) (part_two (d := d + 1) (by omega) (txL s) (txL t) (partS_tx s h.1 (d + 1) (by omega)) (partS_tx t h.2 (d + 1) (by omega))) r
    simpa [txL] using this
  | .unt s t, h, d, hd, r => by
    have := part_br [117, 110, 116, 105, 108] _ (by decide) (part_two (d := d + 1) (by omega) (txL s) (txL t) (partS_tx s h.1 (d + 1) (by omega)) (partS_tx t h.2 (d + 1) (by omega))) r
    simpa [txL] using this
  | .sin s t, h, d, hd, r => by
    have := part_br [115, 105, 110, 99, 101] _ (by decide) (part_two (d := d + 1) (by omega) (txL s) (txL t) (partS_tx s h.1 (d + 1) (by omega)) (partS_tx t h.2 (d + 1) (by omega))) r
    simpa [txL] using this
/-- the two parts of a written pair -/
theorem partS_two {s : Sm} (h : s.Fine) (r : List Nat) : partS 0 (txL s ++ 44 :: 32 :: r) = some (txL s, r) := by
  rw [partS_tx s h 0 (by decide), partS, if_neg (by decide), if_neg (by decide), if_pos (by simp)]
  simp [pushA]
theorem partS_sound : ∀ (w : List Nat) (d : Int) (a b : List Nat), partS d w = some (a, b) → w = a ++ 44 :: 32 :: b
  | [], d, a, b, h => by simp [partS] at h
  | c :: r, d, a, b, h => by
    have pu : ∀ {o}, pushL c o = some (a, b) → ∃ a', a = c :: a' ∧ o = some (a', b) := fun {o} e => by
      cases o with
      | none => cases e
      | some x => obtain ⟨x1, x2⟩ := x; simp [pushL] at e; exact ⟨x1, e.1.symm, by rw [e.2]⟩
    rw [partS] at h
    split at h
    · obtain ⟨a', rfl, e⟩ := pu h; rw [partS_sound r _ a' b e]; rfl
    · split at h
      · obtain ⟨a', rfl, e⟩ := pu h; rw [partS_sound r _ a' b e]; rfl
      · split at h
        · rename_i hh
          cases h
          cases r with
          | nil => simp at hh
          | cons x r => simp at hh; rw [hh.2.1, hh.2.2]; rfl
        · obtain ⟨a', rfl, e⟩ := pu h; rw [partS_sound r _ a' b e]; rfl
end My

namespace My
open PySem L2 Dn TL
/-! ### the program's reader, by signs' codes -/
def cutAt (c : Nat) : List Nat → List Nat × List Nat
  | [] => ([], [])
  | x :: r => if x = c then ([], r) else (x :: (cutAt c r).1, (cutAt c r).2)
theorem cutAt_app {c : Nat} : ∀ (a b : List Nat), c ∉ a → cutAt c (a ++ c :: b) = (a, b)
  | [], b, _ => by simp [cutAt]
  | x :: a, b, h => by
    have h1 : x ≠ c := fun e => h (by simp [e])
    rw [List.cons_append, cutAt, if_neg h1, cutAt_app a b fun e => h (by simp [e])]
theorem cutAt_sound {c : Nat} : ∀ (w : List Nat), (cutAt c w).2 ≠ [] → w = (cutAt c w).1 ++ c :: (cutAt c w).2
  | [], h => absurd rfl h
  | x :: r, h => by
    rw [cutAt] at h ⊢
    split
    · rename_i e; simp [e]
    · rename_i e
      rw [if_neg e] at h
      have := cutAt_sound r h
      simp only [List.cons_append]
      rw [← this]
def mk1 (w : List Nat) : Option (Sm → Sm) := if w = [110, 111, 116] then some .not else if w = [110, 101, 120, 116] then some .nxt else if w = [98, 101, 102, 111, 114, 101] then some .bef else none
def mk2 (w : List Nat) : Option (Sm → Sm → Sm) := if w = [97, 110, 100] then some .and else if w = [111, 114] then some .or else if w = [117, 110, 116, 105, 108] then some .unt else if w = [115, 105, 110, 99, 101] then some .sin else none
def isLow (m : List Nat) : Bool := m.all fun c => decide (97 ≤ c ∧ c ≤ 122)
def strOf (m : List Nat) : Str := ⟨m.toArray⟩
theorem tl_strOf (m : List Nat) : tl (strOf m) = m := by simp [strOf, tl]
theorem strOf_tl (z : Str) : strOf (tl z) = z := by cases z; simp [strOf, tl]
def markP (w : List Nat) : Option Sm := let m := (w.drop 1).dropLast
  if w = 39 :: (m ++ [39]) ∧ m ≠ [] ∧ m.length ≤ 6 ∧ isLow m = true then some (.mark (strOf m)) else none
def wthP (rd : List Nat → Option Sm) : List Nat → Option Sm
  | c :: 44 :: 32 :: part => if 48 ≤ c ∧ c ≤ 52 then (rd part).map (.wth ((c : Int) - 48)) else none
  | _ => none
def readP : Nat → List Nat → Option Sm
  | 0, _ => none
  | d + 1, w => if w = [121, 101, 115] then some .yes else if w.head? = some 39 then markP w else
    if (cutAt 40 w).2.getLast? = some 41 then
      if (cutAt 40 w).1 = [119, 105, 116, 104, 105, 110] then wthP (readP d) (cutAt 40 w).2.dropLast else
      match mk1 (cutAt 40 w).1 with
      | some f => (readP d (cutAt 40 w).2.dropLast).map f
      | none => match mk2 (cutAt 40 w).1 with
        | some f => (partS 0 (cutAt 40 w).2.dropLast).bind fun p => (readP d p.1).bind fun s => (readP d p.2).map (f s)
        | none => none
    else none
theorem ltr_of {m : List Nat} (h0 : m ≠ []) (h6 : m.length ≤ 6) (h : isLow m = true) : Ltr (strOf m) := by
  have e := tl_strOf m
  have l : (strOf m).length = m.length := by rw [len_tl, e]
  refine ⟨by rw [l]; exact List.length_pos_iff.mpr h0, by rw [l]; exact h6, fun c hc => ?_⟩
  rw [e] at hc
  have := List.all_eq_true.mp h c hc
  simpa using this
theorem low_of {m : Str} (h : Ltr m) : tl m ≠ [] ∧ (tl m).length ≤ 6 ∧ isLow (tl m) = true := by
  have l := h.lo
  have h6 := h.hi
  rw [len_tl] at l h6
  exact ⟨List.length_pos_iff.mp l, h6, List.all_eq_true.mpr fun c hc => by have := h.ab c hc; simp; omega⟩
theorem last_drop {α : Type} {l : List α} {x : α} (h : l.getLast? = some x) : l = l.dropLast ++ [x] := by
  have ne : l ≠ [] := fun e => by rw [e] at h; cases h
  have e : l.getLast ne = x := by rw [List.getLast?_eq_some_getLast ne] at h; exact Option.some.inj h
  rw [← e]; exact (List.dropLast_concat_getLast ne).symm
theorem mk1_ok {w : List Nat} {f : Sm → Sm} (h : mk1 w = some f) (s : Sm) (hf : s.Fine) : txL (f s) = w ++ 40 :: (txL s ++ [41]) ∧ (f s).Fine ∧ (f s).depth = s.depth + 1 := by
  unfold mk1 at h
  split at h
  · rename_i e; cases h; rw [e]; exact ⟨rfl, hf, rfl⟩
  · split at h
    · rename_i e; cases h; rw [e]; exact ⟨rfl, hf, rfl⟩
    · split at h
      · rename_i e; cases h; rw [e]; exact ⟨rfl, hf, rfl⟩
      · cases h
theorem mk2_ok {w : List Nat} {f : Sm → Sm → Sm} (h : mk2 w = some f) (s t : Sm) (hs : s.Fine) (ht : t.Fine) : txL (f s t) = w ++ 40 :: (txL s ++ 44 :: 32 :: (txL t ++ [41])) ∧ (f s t).Fine ∧ (f s t).depth = max s.depth t.depth + 1 := by
  unfold mk2 at h
  split at h
  · rename_i e; cases h; rw [e]; exact ⟨rfl, ⟨hs, ht⟩, rfl⟩
  · split at h
    · rename_i e; cases h; rw [e]; exact ⟨rfl, ⟨hs, ht⟩, rfl⟩
    · split at h
      · rename_i e; cases h; rw [e]; exact ⟨rfl, ⟨hs, ht⟩, rfl⟩
      · split at h
        · rename_i e; cases h; rw [e]; exact ⟨rfl, ⟨hs, ht⟩, rfl⟩
        · cases h
theorem readP_sound : ∀ (d : Nat) (w : List Nat) (s : Sm), readP d w = some s → txL s = w ∧ s.Fine ∧ s.depth ≤ d
  | 0, w, s, h => by cases h
  | d + 1, w, s, h => by
    have ih := readP_sound d
    rw [readP] at h
    split at h
    · rename_i e; cases h; rw [e]; exact ⟨rfl, True.intro, by simp⟩
    · split at h
      · unfold markP at h
        simp only at h
        split at h
        · rename_i e
          obtain ⟨e1, e2, e3, e4⟩ := e
          cases h
          refine ⟨?_, ltr_of e2 e3 e4, by simp⟩
          show 39 :: (tl (strOf _) ++ [39]) = w
          rw [tl_strOf, ← e1]
        · cases h
      · split at h
        · rename_i e
          have lw := last_drop e
          have cw := cutAt_sound (c := 40) w (fun z => by rw [z] at e; cases e)
          generalize (cutAt 40 w).2.dropLast = inner at h lw
          generalize (cutAt 40 w).1 = hd at h cw
          rw [lw] at cw
          split at h
          · rename_i e2
            unfold wthP at h
            split at h
            · rename_i c part
              split at h
              · rename_i hc
                obtain ⟨t, ht, rfl⟩ := Option.map_eq_some_iff.mp h
                obtain ⟨i1, i2, i3⟩ := ih _ _ ht
                refine ⟨?_, ⟨by omega, by omega, i2⟩, by simp; omega⟩
                rw [cw, e2, ← i1]
                show [119, 105, 116, 104, 105, 110] ++ 40 :: ((48 + ((c : Int) - 48).toNat) :: 44 :: 32 :: (txL t ++ [41])) = _
                rw [show 48 + ((c : Int) - 48).toNat = c by omega]
                rfl
              · cases h
            · cases h
          · split at h
            · rename_i f hf
              obtain ⟨t, ht, rfl⟩ := Option.map_eq_some_iff.mp h
              obtain ⟨i1, i2, i3⟩ := ih _ _ ht
              obtain ⟨m1, m2, m3⟩ := mk1_ok hf t i2
              exact ⟨by rw [m1, i1, cw], m2, by omega⟩
            · split at h
              · rename_i f hf
                obtain ⟨⟨a, b⟩, hp, h⟩ := Option.bind_eq_some_iff.mp h
                obtain ⟨t, ht, h⟩ := Option.bind_eq_some_iff.mp h
                obtain ⟨u, hu, rfl⟩ := Option.map_eq_some_iff.mp h
                obtain ⟨i1, i2, i3⟩ := ih _ _ ht
                obtain ⟨j1, j2, j3⟩ := ih _ _ hu
                obtain ⟨m1, m2, m3⟩ := mk2_ok hf t u i2 j2
                have ps := partS_sound _ _ _ _ hp
                refine ⟨?_, m2, by omega⟩
                rw [m1, i1, j1, cw, ps]
                simp
              · cases h
        · cases h
end My

namespace My
open PySem L2 Dn TL
def bodyP (d : Nat) (w0 inner : List Nat) : Option Sm := if w0 = [119, 105, 116, 104, 105, 110] then wthP (readP d) inner else
      match mk1 w0 with
      | some f => (readP d inner).map f
      | none => match mk2 w0 with
        | some f => (partS 0 inner).bind fun p => (readP d p.1).bind fun s => (readP d p.2).map (f s)
        | none => none
theorem readP_br (d : Nat) (w0 inner : List Nat) (h40 : 40 ∉ w0) (hh : (w0 ++ [40]).head? ≠ some 39) : readP (d + 1) (w0 ++ 40 :: (inner ++ [41])) = bodyP d w0 inner := by
  have c := cutAt_app (c := 40) w0 (inner ++ [41]) h40
  have hy : w0 ++ 40 :: (inner ++ [41]) ≠ [121, 101, 115] := fun e => by
    have : (40 : Nat) ∈ [121, 101, 115] := by rw [← e]; simp
    simp at this
  have hd : (w0 ++ 40 :: (inner ++ [41])).head? ≠ some 39 := by
    cases w0 with
    | nil => simp
    | cons x r => simpa using hh
  rw [readP, if_neg hy, if_neg hd, c]
  simp only
  rw [if_pos (by simp), List.dropLast_concat]
  rfl
theorem readP_complete : ∀ (s : Sm) (d : Nat), s.Fine → s.depth ≤ d → readP d (txL s) = some s
  | .mark m, d, h, hd => by
    cases d with
    | zero => simp at hd
    | succ d =>
      obtain ⟨l1, l2, l3⟩ := low_of (show Ltr m from h)
      have hm : ((txL (.mark m)).drop 1).dropLast = tl m := by
        show (tl m ++ [39]).dropLast = _
        rw [List.dropLast_concat]
      rw [readP, if_neg (by
        intro e
        have : (39 : Nat) ∈ [121, 101, 115] := by rw [← e]; simp [txL]
        simp at this), if_pos (by rfl)]
      unfold markP
      simp only [hm]
      rw [if_pos ⟨rfl, l1, l2, l3⟩, strOf_tl]
  | .yes, d, h, hd => by
    cases d with
    | zero => simp at hd
    | succ d => rw [readP, show txL .yes = [121, 101, 115] from rfl, if_pos rfl]
  | .not a, d, h, hd => by
    cases d with
    | zero => simp at hd
    | succ d =>
      have ih := readP_complete a d h (by simpa using hd)
      show readP (d + 1) ([110, 111, 116] ++ 40 :: (txL a ++ [41])) = _
      rw [readP_br d _ _ (by decide) (by decide)]
      simp [bodyP, mk1, ih]
  | .nxt a, d, h, hd => by
    cases d with
    | zero => simp at hd
    | succ d =>
      have ih := readP_complete a d h (by simpa using hd)
      show readP (d + 1) ([110, 101, 120, 116] ++ 40 :: (txL a ++ [41])) = _
      rw [readP_br d _ _ (by decide) (by decide)]
      simp [bodyP, mk1, ih]
  | .bef a, d, h, hd => by
    cases d with
    | zero => simp at hd
    | succ d =>
      have ih := readP_complete a d h (by simpa using hd)
      show readP (d + 1) ([98, 101, 102, 111, 114, 101] ++ 40 :: (txL a ++ [41])) = _
      rw [readP_br d _ _ (by decide) (by decide)]
      simp [bodyP, mk1, ih]
  | .wth k a, d, h, hd => by
    cases d with
    | zero => simp at hd
    | succ d =>
      have h1 := h.1
      have h2 := h.2.1
      have ih := readP_complete a d h.2.2 (by simpa using hd)
      show readP (d + 1) ([119, 105, 116, 104, 105, 110] ++ 40 :: (((48 + k.toNat) :: 44 :: 32 :: txL a) ++ [41])) = _
      rw [readP_br d _ _ (by decide) (by decide)]
      unfold bodyP
      rw [if_pos rfl]
      show (if 48 ≤ 48 + k.toNat ∧ 48 + k.toNat ≤ 52 then (readP d (txL a)).map (Sm.wth (((48 + k.toNat : Nat) : Int) - 48)) else none) = _
      rw [if_pos (by omega), ih, show ((48 + k.toNat : Nat) : Int) - 48 = k by omega]
      rfl
  | .and a b, d, h, hd => by
    cases d with
    | zero => simp at hd
    | succ d =>
      have ia := readP_complete a d h.1 (by simp at hd; omega)
      have ib := readP_complete b d h.2 (by simp at hd; omega)
      have e : txL (.and a b) = [97, 110, 100] ++ 40 :: ((txL a ++ 44 :: 32 :: txL b) ++ [41]) := by simp [txL]
      rw [e, readP_br d _ _ (by decide) (by decide)]
      simp [bodyP, mk1, mk2, partS_two h.1, ia, ib]
  | .or a b, d, h, hd => by
    cases d with
    | zero => simp at hd
    | succ d =>
      have ia := readP_complete a d h.1 (by simp at hd; omega)
      have ib := readP_complete b d h.2 (by simp at hd; omega)
      have e : txL (.or a b) = [111, 114] ++ 40 :: ((txL a ++ 44 :: 32 :: txL b) ++ [41]) := by simp [txL]
      rw [e, readP_br d _ _ (by decide) (by decide)]
      simp [bodyP, mk1, mk2, partS_two h.1, ia, ib]
  | .unt a b, d, h, hd => by
    cases d with
    | zero => simp at hd
    | succ d =>
      have ia := readP_complete a d h.1 (by simp at hd; omega)
      have ib := readP_complete b d h.2 (by simp at hd; omega)
      have e : txL (.unt a b) = [117, 110, 116, 105, 108] ++ 40 :: ((txL a ++ 44 :: 32 :: txL b) ++ [41]) := by simp [txL]
      rw [e, readP_br d _ _ (by decide) (by decide)]
      simp [bodyP, mk1, mk2, partS_two h.1, ia, ib]
  | .sin a b, d, h, hd => by
    cases d with
    | zero => simp at hd
    | succ d =>
      have ia := readP_complete a d h.1 (by simp at hd; omega)
      have ib := readP_complete b d h.2 (by simp at hd; omega)
      have e : txL (.sin a b) = [115, 105, 110, 99, 101] ++ 40 :: ((txL a ++ 44 :: 32 :: txL b) ++ [41]) := by simp [txL]
      rw [e, readP_br d _ _ (by decide) (by decide)]
      simp [bodyP, mk1, mk2, partS_two h.1, ia, ib]
/-! ### the law's parser, by signs' codes: a statement at the front, and what is left -/
def markQ (w : List Nat) : Option (Sm × List Nat) :=
  let m := (w.drop 1).takeWhile fun c => decide (97 ≤ c ∧ c ≤ 122)
  let r := (w.drop 1).dropWhile fun c => decide (97 ≤ c ∧ c ≤ 122)
  if r.head? = some 39 ∧ 1 ≤ m.length ∧ m.length ≤ 6 then some (.mark (strOf m), r.drop 1) else none
def closeQ : Option (Sm × List Nat) → Option (Sm × List Nat)
  | some (s, 41 :: r) => some (s, r)
  | _ => none
def wordsQ : List (List Nat) := [[110, 111, 116], [97, 110, 100], [111, 114], [110, 101, 120, 116], [117, 110, 116, 105, 108], [119, 105, 116, 104, 105, 110], [98, 101, 102, 111, 114, 101], [115, 105, 110, 99, 101]]
def partsQ (rd : List Nat → Option (Sm × List Nat)) (w0 : List Nat) (w : List Nat) : Option (Sm × List Nat) :=
  if w0 = [119, 105, 116, 104, 105, 110] then
    match w with
    | c :: 44 :: 32 :: r => if 48 ≤ c ∧ c ≤ 52 then closeQ ((rd r).map fun p => (.wth ((c : Int) - 48) p.1, p.2)) else none
    | _ => none
  else match mk1 w0 with
    | some f => closeQ ((rd w).map fun p => (f p.1, p.2))
    | none => match mk2 w0 with
      | some f => (rd w).bind fun p => match p.2 with
        | 44 :: 32 :: r => closeQ ((rd r).map fun q => (f p.1 q.1, q.2))
        | _ => none
      | none => none
def lawP : Nat → List Nat → Option (Sm × List Nat)
  | 0, _ => none
  | d + 1, w => if w.head? = some 39 then markQ w else if w.take 3 = [121, 101, 115] then some (.yes, w.drop 3) else
    match wordsQ.find? fun w0 => decide (w.take (w0.length + 1) = w0 ++ [40]) with
    | some w0 => partsQ (lawP d) w0 (w.drop (w0.length + 1))
    | none => none
theorem closeQ_sound {o : Option (Sm × List Nat)} {s : Sm} {r : List Nat} (h : closeQ o = some (s, r)) : o = some (s, 41 :: r) := by
  unfold closeQ at h
  split at h
  · cases h; rfl
  · cases h
theorem partsQ_sound {d : Nat} {rd : List Nat → Option (Sm × List Nat)} (ih : ∀ w s r, rd w = some (s, r) → w = txL s ++ r ∧ s.Fine ∧ s.depth ≤ d) {w0 w : List Nat} {s : Sm} {r : List Nat} (h : partsQ rd w0 w = some (s, r)) :
    w0 ++ 40 :: w = txL s ++ r ∧ s.Fine ∧ s.depth ≤ d + 1 := by
  unfold partsQ at h
  split at h
  · rename_i e
    split at h
    · rename_i c r'
      split at h
      · rename_i hc
        obtain ⟨⟨t, x⟩, ht, e2⟩ := Option.map_eq_some_iff.mp (closeQ_sound h)
        cases e2
        obtain ⟨i1, i2, i3⟩ := ih _ _ _ ht
        refine ⟨?_, ⟨by omega, by omega, i2⟩, by simp; omega⟩
        rw [e, i1]
        show _ = [119, 105, 116, 104, 105, 110] ++ 40 :: ((48 + ((c : Int) - 48).toNat) :: 44 :: 32 :: (txL t ++ [41])) ++ r
        rw [show 48 + ((c : Int) - 48).toNat = c by omega]
        simp
      · cases h
    · cases h
  · split at h
    · rename_i f hf
      obtain ⟨⟨t, x⟩, ht, e2⟩ := Option.map_eq_some_iff.mp (closeQ_sound h)
      cases e2
      obtain ⟨i1, i2, i3⟩ := ih _ _ _ ht
      obtain ⟨m1, m2, m3⟩ := mk1_ok hf t i2
      exact ⟨by rw [m1, i1]; simp, m2, by show (f t).depth ≤ d + 1; omega⟩
    · split at h
      · rename_i f hf
        obtain ⟨⟨t, x⟩, ht, h⟩ := Option.bind_eq_some_iff.mp h
        simp only at h
        split at h
        · rename_i r'
          obtain ⟨⟨u, y⟩, hu, e2⟩ := Option.map_eq_some_iff.mp (closeQ_sound h)
          cases e2
          obtain ⟨i1, i2, i3⟩ := ih _ _ _ ht
          obtain ⟨j1, j2, j3⟩ := ih _ _ _ hu
          obtain ⟨m1, m2, m3⟩ := mk2_ok hf t u i2 j2
          exact ⟨by rw [m1, i1, j1]; simp, m2, by show (f t u).depth ≤ d + 1; omega⟩
        · cases h
      · cases h
theorem lawP_sound : ∀ (d : Nat) (w : List Nat) (s : Sm) (r : List Nat), lawP d w = some (s, r) → w = txL s ++ r ∧ s.Fine ∧ s.depth ≤ d
  | 0, w, s, r, h => by cases h
  | d + 1, w, s, r, h => by
    rw [lawP] at h
    split at h
    · rename_i e
      unfold markQ at h
      simp only at h
      split at h
      · rename_i hh
        obtain ⟨h1, h2, h3⟩ := hh
        cases h
        have tw : (w.drop 1).takeWhile (fun c => decide (97 ≤ c ∧ c ≤ 122)) ++ (w.drop 1).dropWhile (fun c => decide (97 ≤ c ∧ c ≤ 122)) = w.drop 1 := List.takeWhile_append_dropWhile
        have all : isLow ((w.drop 1).takeWhile fun c => decide (97 ≤ c ∧ c ≤ 122)) = true := List.all_takeWhile
        have w1 : w = 39 :: w.drop 1 := by
          cases w with
          | nil => cases e
          | cons x w => simp at e; simp [e]
        generalize (w.drop 1).takeWhile (fun c => decide (97 ≤ c ∧ c ≤ 122)) = m at *
        generalize (w.drop 1).dropWhile (fun c => decide (97 ≤ c ∧ c ≤ 122)) = q at *
        have q1 : q = 39 :: q.drop 1 := by
          cases q with
          | nil => cases h1
          | cons x q => simp at h1; simp [h1]
        refine ⟨?_, ltr_of (List.length_pos_iff.mp h2) h3 all, by simp⟩
        show w = 39 :: (tl (strOf m) ++ [39]) ++ q.drop 1
        rw [tl_strOf, w1, ← tw]
        conv => lhs; rw [q1]
        simp
      · cases h
    · split at h
      · rename_i e
        cases h
        refine ⟨?_, True.intro, by simp⟩
        show w = [121, 101, 115] ++ w.drop 3
        rw [← e, List.take_append_drop]
      · split at h
        · rename_i w0 hw
          have e := List.find?_some hw
          simp only [decide_eq_true_eq] at e
          obtain ⟨a, b, c⟩ := partsQ_sound (lawP_sound d) h
          refine ⟨?_, b, c⟩
          rw [← a]
          have := List.take_append_drop (w0.length + 1) w
          rw [e] at this
          rw [← this]; simp
        · cases h
theorem low_span {m : List Nat} (h : isLow m = true) (r : List Nat) : (m ++ 39 :: r).takeWhile (fun c => decide (97 ≤ c ∧ c ≤ 122)) = m ∧ (m ++ 39 :: r).dropWhile (fun c => decide (97 ≤ c ∧ c ≤ 122)) = 39 :: r := by
  induction m with
  | nil => simp
  | cons x m ih =>
    have hx : 97 ≤ x ∧ x ≤ 122 := by simpa using List.all_eq_true.mp h x (by simp)
    obtain ⟨a, b⟩ := ih (List.all_eq_true.mpr fun c hc => List.all_eq_true.mp h c (by simp [hc]))
    exact ⟨by rw [List.cons_append, List.takeWhile_cons, if_pos (decide_eq_true hx), a], by rw [List.cons_append, List.dropWhile_cons, if_pos (decide_eq_true hx), b]⟩
theorem lawP_br (d : Nat) (w0 : List Nat) (X : List Nat) (h : w0 ∈ wordsQ) : lawP (d + 1) (w0 ++ 40 :: X) = partsQ (lawP d) w0 X := by
  rw [lawP]
  simp only [wordsQ, List.mem_cons, List.not_mem_nil, or_false] at h
  rcases h with rfl | rfl | rfl | rfl | rfl | rfl | rfl | rfl <;> simp [wordsQ, List.find?]
theorem lawP_complete : ∀ (s : Sm) (d : Nat) (r : List Nat), s.Fine → s.depth ≤ d → lawP d (txL s ++ r) = some (s, r)
  | .mark m, d, r, h, hd => by
    cases d with
    | zero => simp at hd
    | succ d =>
      obtain ⟨l1, l2, l3⟩ := low_of (show Ltr m from h)
      have e : txL (.mark m) ++ r = 39 :: (tl m ++ 39 :: r) := by simp [txL]
      obtain ⟨a, b⟩ := low_span l3 r
      rw [e, lawP, if_pos (by rfl)]
      unfold markQ
      simp only [List.drop_succ_cons, List.drop_zero, a, b]
      rw [if_pos ⟨rfl, List.length_pos_iff.mpr l1, l2⟩, strOf_tl]
  | .yes, d, r, h, hd => by
    cases d with
    | zero => simp at hd
    | succ d =>
      show lawP (d + 1) (121 :: 101 :: 115 :: r) = _
      rw [lawP, if_neg (by simp), if_pos (by simp)]
      simp
  | .not a, d, r, h, hd => by
    cases d with
    | zero => simp at hd
    | succ d =>
      have ih := lawP_complete a d (41 :: r) h (by simpa using hd)
      have e : txL (.not a) ++ r = [110, 111, 116] ++ 40 :: (txL a ++ 41 :: r) := by simp [txL]
      rw [e, lawP_br d _ _ (by decide)]
      simp [partsQ, mk1, ih, closeQ]
  | .nxt a, d, r, h, hd => by
    cases d with
    | zero => simp at hd
    | succ d =>
      have ih := lawP_complete a d (41 :: r) h (by simpa using hd)
      have e : txL (.nxt a) ++ r = [110, 101, 120, 116] ++ 40 :: (txL a ++ 41 :: r) := by simp [txL]
      rw [e, lawP_br d _ _ (by decide)]
      simp [partsQ, mk1, ih, closeQ]
  | .bef a, d, r, h, hd => by
    cases d with
    | zero => simp at hd
    | succ d =>
      have ih := lawP_complete a d (41 :: r) h (by simpa using hd)
      have e : txL (.bef a) ++ r = [98, 101, 102, 111, 114, 101] ++ 40 :: (txL a ++ 41 :: r) := by simp [txL]
      rw [e, lawP_br d _ _ (by decide)]
      simp [partsQ, mk1, ih, closeQ]
  | .wth k a, d, r, h, hd => by
    cases d with
    | zero => simp at hd
    | succ d =>
      have h1 := h.1
      have h2 := h.2.1
      have ih := lawP_complete a d (41 :: r) h.2.2 (by simpa using hd)
      have e : txL (.wth k a) ++ r = [119, 105, 116, 104, 105, 110] ++ 40 :: ((48 + k.toNat) :: 44 :: 32 :: (txL a ++ 41 :: r)) := by simp [txL]
      rw [e, lawP_br d _ _ (by decide)]
      unfold partsQ
      rw [if_pos rfl]
      show (if 48 ≤ 48 + k.toNat ∧ 48 + k.toNat ≤ 52 then closeQ ((lawP d (txL a ++ 41 :: r)).map fun p => (Sm.wth (((48 + k.toNat : Nat) : Int) - 48) p.1, p.2)) else none) = _
      rw [if_pos (by omega), ih, show ((48 + k.toNat : Nat) : Int) - 48 = k by omega]
      rfl
  | .and a b, d, r, h, hd => by
    cases d with
    | zero => simp at hd
    | succ d =>
      have ia := lawP_complete a d (44 :: 32 :: (txL b ++ 41 :: r)) h.1 (by simp at hd; omega)
      have ib := lawP_complete b d (41 :: r) h.2 (by simp at hd; omega)
      have e : txL (.and a b) ++ r = [97, 110, 100] ++ 40 :: (txL a ++ 44 :: 32 :: (txL b ++ 41 :: r)) := by simp [txL]
      rw [e, lawP_br d _ _ (by decide)]
      simp [partsQ, mk1, mk2, ia, ib, closeQ]
  | .or a b, d, r, h, hd => by
    cases d with
    | zero => simp at hd
    | succ d =>
      have ia := lawP_complete a d (44 :: 32 :: (txL b ++ 41 :: r)) h.1 (by simp at hd; omega)
      have ib := lawP_complete b d (41 :: r) h.2 (by simp at hd; omega)
      have e : txL (.or a b) ++ r = [111, 114] ++ 40 :: (txL a ++ 44 :: 32 :: (txL b ++ 41 :: r)) := by simp [txL]
      rw [e, lawP_br d _ _ (by decide)]
      simp [partsQ, mk1, mk2, ia, ib, closeQ]
  | .unt a b, d, r, h, hd => by
    cases d with
    | zero => simp at hd
    | succ d =>
      have ia := lawP_complete a d (44 :: 32 :: (txL b ++ 41 :: r)) h.1 (by simp at hd; omega)
      have ib := lawP_complete b d (41 :: r) h.2 (by simp at hd; omega)
      have e : txL (.unt a b) ++ r = [117, 110, 116, 105, 108] ++ 40 :: (txL a ++ 44 :: 32 :: (txL b ++ 41 :: r)) := by simp [txL]
      rw [e, lawP_br d _ _ (by decide)]
      simp [partsQ, mk1, mk2, ia, ib, closeQ]
  | .sin a b, d, r, h, hd => by
    cases d with
    | zero => simp at hd
    | succ d =>
      have ia := lawP_complete a d (44 :: 32 :: (txL b ++ 41 :: r)) h.1 (by simp at hd; omega)
      have ib := lawP_complete b d (41 :: r) h.2 (by simp at hd; omega)
      have e : txL (.sin a b) ++ r = [115, 105, 110, 99, 101] ++ 40 :: (txL a ++ 44 :: 32 :: (txL b ++ 41 :: r)) := by simp [txL]
      rw [e, lawP_br d _ _ (by decide)]
      simp [partsQ, mk1, mk2, ia, ib, closeQ]
/-- what the law asks of a text -/
def dueP (w : List Nat) : Option Sm := match lawP 6 w with
  | some (s, []) => some s
  | _ => none
/-- THE READERS AGREE -/
theorem readers_agree (w : List Nat) : readP 6 w = dueP w := by
  cases c : readP 6 w with
  | some s =>
    obtain ⟨a, b, d⟩ := readP_sound 6 w s c
    have := lawP_complete s 6 [] b d
    rw [List.append_nil, a] at this
    unfold dueP
    rw [this]
  | none =>
    unfold dueP
    split
    · rename_i s h
      obtain ⟨a, b, d⟩ := lawP_sound 6 w s [] h
      have := readP_complete s 6 b d
      rw [List.append_nil] at a
      rw [← a, c] at this
      cases this
    · rfl
end My

namespace My
open PySem L2 Dn TL
/-! ### the program's _parted -/
theorem tl_inj {a b : Str} (h : tl a = tl b) : a = b := by rw [← strOf_tl a, ← strOf_tl b, h]
theorem sEq_tl (a b : Str) : sEq a b = decide (tl a = tl b) := by
  unfold sEq
  exact decide_eq_decide.mpr ⟨fun e => by rw [e], tl_inj⟩
theorem take_min {α : Type} (l : List α) (j k : Nat) : (l.drop j).take (min k l.length - j) = (l.drop j).take (k - j) := by
  rcases Nat.le_total k l.length with h | h
  · rw [Nat.min_eq_left h]
  · rw [Nat.min_eq_right h, List.take_of_length_le (by simp), List.take_of_length_le (by simp; omega)]
theorem cut_two (z : Str) (j k : Nat) : tl (cutS z (some (j : Int)) (some (k : Int))) = ((tl z).drop j).take (k - j) := by
  rw [tl_cut]
  unfold cutL
  rw [HT.sIx_nat, HT.sIx_nat]
  rcases Nat.le_total j (tl z).length with h2 | h2
  · rw [Nat.min_eq_left h2, take_min]
  · rw [Nat.min_eq_right h2, List.drop_of_length_le (Nat.le_refl _), List.drop_of_length_le h2]
    simp
theorem cut_from (z : Str) (j : Nat) : tl (cutS z (some (j : Int)) none) = (tl z).drop j := by
  rw [tl_cut]
  unfold cutL
  rw [HT.sIx_none, HT.sIx_nat]
  rcases Nat.le_total j (tl z).length with h2 | h2
  · rw [Nat.min_eq_left h2, List.take_of_length_le (by simp)]
  · rw [Nat.min_eq_right h2, List.drop_of_length_le (Nat.le_refl _), List.drop_of_length_le h2]
    simp
abbrev paBody : Rho → Option Out := (gIf (fB (f2 eqP (fV 3) (fC (.str "(")))) (gAug 1 (fun i j => i + j) (fC (.int 1))) (gIf (fB (f2 eqP (fV 3) (fC (.str ")")))) (gAug 1 (fun i j => i - j) (fC (.int 1))) (gIf (fAndT (fB (f2 eqP (fV 1) (fC (.int 0)))) (fB (f2 eqP (fSl (fV 0) (fO (fV 2)) (fO (f2 addD (fV 2) (fC (.int 2))))) (fC (.str ", "))))) (gRet (fTup (fCons (fSl (fV 0) fO0 (fO (fV 2))) (fCons (fSl (fV 0) (fO (f2 addD (fV 2) (fC (.int 2)))) fO0) fNil)))) gNx)))
theorem t40 : tl ("(" : Str) = [40] := by decide +kernel
theorem t41 : tl (")" : Str) = [41] := by decide +kernel
theorem t4432 : tl (", " : Str) = [44, 32] := by decide +kernel
theorem augO_i {i : Nat} {ρ : Rho} {op : Int → Int → Int} {a b : Int} : augO i ρ (ap2 (ri op) (some (.int a)) (some (.int b))) = some (.nx (ρ.set i (some (.d (.int (op a b)))))) := rfl
theorem pa_turn (z : Str) (hz : z.length ≤ 90000) (n : Nat) (c : Nat) (r : List Nat) (hr : (tl z).drop n = c :: r) (dep : Int) :
    paBody [some (.d (.str z)), some (.d (.int dep)), some (.d (.int (n : Nat))), some (.d (.str (one c)))] =
      if c = 40 then some (.nx [some (.d (.str z)), some (.d (.int (dep + 1))), some (.d (.int (n : Nat))), some (.d (.str (one c)))]) else
      if c = 41 then some (.nx [some (.d (.str z)), some (.d (.int (dep - 1))), some (.d (.int (n : Nat))), some (.d (.str (one c)))]) else
      if dep = 0 ∧ (c :: r).take 2 = [44, 32] then some (.rt (.tuple [.str (strOf ((tl z).take n)), .str (strOf (r.drop 1))]) [some (.d (.str z)), some (.d (.int dep)), some (.d (.int (n : Nat))), some (.d (.str (one c)))]) else
      some (.nx [some (.d (.str z)), some (.d (.int dep)), some (.d (.int (n : Nat))), some (.d (.str (one c)))]) := by
  have e1 : eqP (.str (one c)) (.str "(") = some (.bool (decide (c = 40))) := by
    rw [eqP_s, sEq_tl, t40, tl_one]; simp
  have e2 : eqP (.str (one c)) (.str ")") = some (.bool (decide (c = 41))) := by
    rw [eqP_s, sEq_tl, t41, tl_one]; simp
  by_cases h1 : c = 40
  · rw [if_pos h1]
    rw [decide_eq_true h1] at e1
    simp only [paBody, gIf_ap, fB_ap, f2_ap, fV_ap, fC_ap, List.getElem?_cons_zero, List.getElem?_cons_succ, slot_d, ap2_some, e1, unB_some, iteO_t, gAug_ap]
    rfl
  · rw [if_neg h1]
    rw [decide_eq_false h1] at e1
    by_cases h2 : c = 41
    · rw [if_pos h2]
      rw [decide_eq_true h2] at e2
      simp only [paBody, gIf_ap, fB_ap, f2_ap, fV_ap, fC_ap, List.getElem?_cons_zero, List.getElem?_cons_succ, slot_d, ap2_some, e1, e2, unB_some, iteO_f, iteO_t, gAug_ap]
      rfl
    · rw [if_neg h2]
      rw [decide_eq_false h2] at e2
      have e3 : eqP (.int dep) (.int 0) = some (.bool (decide (dep = 0))) := eqP_i dep 0
      have ad : addD (.int (n : Nat)) (.int 2) = some (.int ((n + 2 : Nat) : Int)) := by rw [addD_i]; rfl
      have hb : z.length ≤ 100000 := by omega
      have s1 : slD (some ((n : Nat) : Int)) (some ((n + 2 : Nat) : Int)) (.str z) = some (.str (cutS z (some ((n : Nat) : Int)) (some ((n + 2 : Nat) : Int)))) := slD_s hb
      have c1 := cut_two z n (n + 2)
      rw [hr, show n + 2 - n = 2 by omega] at c1
      have e4 : eqP (.str (cutS z (some ((n : Nat) : Int)) (some ((n + 2 : Nat) : Int)))) (.str ", ") = some (.bool (decide ((c :: r).take 2 = [44, 32]))) := by
        rw [eqP_s, sEq_tl, c1, t4432]
      by_cases h3 : dep = 0 ∧ (c :: r).take 2 = [44, 32]
      · rw [if_pos h3]
        rw [decide_eq_true h3.1] at e3
        rw [decide_eq_true h3.2] at e4
        have s2 : slD none (some ((n : Nat) : Int)) (.str z) = some (.str (strOf ((tl z).take n))) := by
          rw [slD_s hb]
          congr 2
          exact tl_inj (by rw [cut_to, tl_strOf])
        have s3 : slD (some ((n + 2 : Nat) : Int)) none (.str z) = some (.str (strOf (r.drop 1))) := by
          rw [slD_s hb]
          congr 2
          refine tl_inj ?_
          rw [cut_from, tl_strOf, ← List.drop_drop, hr]
          rfl
        simp only [paBody, gIf_ap, fB_ap, f2_ap, fV_ap, fC_ap, List.getElem?_cons_zero, List.getElem?_cons_succ, slot_d, ap2_some, e1, e2, unB_some, iteO_f, fAndT_ap, e3, andT_t, fSl_ap, fO_ap, intO_some, ad, slO_some, s1, e4, iteO_t, gRet_ap, fTup_ap, fCons_ap, fNil_ap, fO0_ap, s2, s3, consO_some, tupO_2, retO_some]
      · rw [if_neg h3]
        by_cases h4 : dep = 0
        · rw [decide_eq_true h4] at e3
          rw [decide_eq_false fun z => h3 ⟨h4, z⟩] at e4
          simp only [paBody, gIf_ap, fB_ap, f2_ap, fV_ap, fC_ap, List.getElem?_cons_zero, List.getElem?_cons_succ, slot_d, ap2_some, e1, e2, unB_some, iteO_f, fAndT_ap, e3, andT_t, fSl_ap, fO_ap, intO_some, ad, slO_some, s1, e4, gNx_ap]
        · rw [decide_eq_false h4] at e3
          simp only [paBody, gIf_ap, fB_ap, f2_ap, fV_ap, fC_ap, List.getElem?_cons_zero, List.getElem?_cons_succ, slot_d, ap2_some, e1, e2, unB_some, iteO_f, fAndT_ap, e3, andT_f, gNx_ap]
theorem pa_go (z : Str) (hz : z.length ≤ 90000) : ∀ (r : List Nat) (n : Nat) (dep : Int) (x2 x3 : Option Sv), (tl z).drop n = r →
    ∃ ρ, forGo (b2 2 3) paBody ((r.zipIdx n).map fun p => PyData.tuple [.int (p.2 : Nat), .str (one p.1)]) [some (.d (.str z)), some (.d (.int dep)), x2, x3] =
      match partS dep r with
      | some (a, b) => some (.rt (.tuple [.str (strOf ((tl z).take n ++ a)), .str (strOf b)]) ρ)
      | none => some (.nx ρ)
  | [], n, dep, x2, x3, h => ⟨_, rfl⟩
  | c :: r, n, dep, x2, x3, h => by
    have t := pa_turn z hz n c r h dep
    have h' : (tl z).drop (n + 1) = r := by rw [← List.drop_drop, h]; rfl
    have tk : (tl z).take (n + 1) = (tl z).take n ++ [c] := by
      rw [List.take_add_one]
      have : (tl z)[n]? = some c := by
        have := congrArg List.head? h
        rw [List.head?_drop] at this
        simpa using this
      rw [this]; rfl
    have pl : ∀ (dep' : Int), ∃ ρ, forGo (b2 2 3) paBody ((r.zipIdx (n + 1)).map fun p => PyData.tuple [.int (p.2 : Nat), .str (one p.1)]) [some (.d (.str z)), some (.d (.int dep')), some (.d (.int (n : Nat))), some (.d (.str (one c)))] =
      match pushL c (partS dep' r) with
      | some (a, b) => some (.rt (.tuple [.str (strOf ((tl z).take n ++ a)), .str (strOf b)]) ρ)
      | none => some (.nx ρ) := fun dep' => by
        obtain ⟨ρ, ih⟩ := pa_go z hz r (n + 1) dep' (some (.d (.int (n : Nat)))) (some (.d (.str (one c)))) h'
        refine ⟨ρ, ?_⟩
        rw [ih]
        cases partS dep' r with
        | none => rfl
        | some p => obtain ⟨a, b⟩ := p; simp [pushL, tk]
    rw [List.zipIdx_cons, List.map_cons, forGo_c, b2_ap, forB_some]
    simp only [List.set_cons_succ, List.set_cons_zero]
    rw [t, partS]
    by_cases h1 : c = 40
    · rw [if_pos h1, if_pos h1, forN_nx]; exact pl (dep + 1)
    · rw [if_neg h1, if_neg h1]
      by_cases h2 : c = 41
      · rw [if_pos h2, if_pos h2, forN_nx]; exact pl (dep - 1)
      · rw [if_neg h2, if_neg h2]
        by_cases h3 : dep = 0 ∧ (c :: r).take 2 = [44, 32]
        · rw [if_pos h3, if_pos h3, forN_rt]
          exact ⟨[some (.d (.str z)), some (.d (.int dep)), some (.d (.int (n : Nat))), some (.d (.str (one c)))], by simp⟩
        · rw [if_neg h3, if_neg h3, forN_nx]; exact pl dep
def partedF : List PyData → Option (Except Str PyData) := fnX 4 gparted
theorem signs_tl (z : Str) : enumD (signsD z) = ((tl z).zipIdx 0).map fun p => PyData.tuple [.int (p.2 : Nat), .str (one p.1)] := by
  unfold enumD signsD tl
  rw [List.zipIdx_map, List.map_map]
  rfl
theorem parted_eq (z : Str) (hz : z.length ≤ 90000) : partedF [.str z] = some (match partS 0 (tl z) with
    | some (a, b) => .ok (.tuple [.str (strOf a), .str (strOf b)])
    | none => .error "BadText") := by
  obtain ⟨ρ, go⟩ := pa_go z hz (tl z) 0 0 none none rfl
  have sg := signs_tl z
  unfold partedF fnX
  have e : startR 4 [.str z] = [some (.d (.str z)), none, none, none] := rfl
  rw [e, gparted]
  have f1 : gSeqX (gOk (gSet 1 (fC (.int 0)))) (gSeqX (gOk (gFor (fEnS (fV 0)) (b2 2 3) paBody)) (gRaise "BadText")) [some (.d (.str z)), none, none, none] = match (match partS 0 (tl z) with
      | some (a, b) => some (Out.rt (.tuple [.str (strOf ((tl z).take 0 ++ a)), .str (strOf b)]) ρ)
      | none => some (.nx ρ)) with
      | some (.nx _) => some (.error "BadText")
      | some o => some (.ok o)
      | none => none := by
    have g1 : gOk (gSet 1 (fC (.int 0))) [some (.d (.str z)), none, none, none] = some (.ok (.nx [some (.d (.str z)), some (.d (.int 0)), none, none])) := rfl
    have g2 : gFor (fEnS (fV 0)) (b2 2 3) paBody [some (.d (.str z)), some (.d (.int 0)), none, none] = forGo (b2 2 3) paBody (enumD (signsD z)) [some (.d (.str z)), some (.d (.int 0)), none, none] := rfl
    have st : ∀ (g h : Rho → Option (Except Str Out)) (ρ ρ' : Rho), g ρ = some (.ok (.nx ρ')) → gSeqX g h ρ = h ρ' := fun g h ρ ρ' e => by unfold gSeqX; rw [e]; rfl
    rw [st _ _ _ _ g1]
    show ((gOk _ _).bind _) = _
    unfold gOk
    rw [g2, sg, go]
    cases partS 0 (tl z) with
    | none => rfl
    | some p => rfl
  rw [f1]
  cases partS 0 (tl z) with
  | none => rfl
  | some p => obtain ⟨a, b⟩ := p; simp
end My

namespace My
open PySem L2 Dn TL
/-! ### cut at a sign -/
theorem cutAt_none {c : Nat} : ∀ (w : List Nat), c ∉ w → cutAt c w = (w, [])
  | [], _ => rfl
  | x :: r, h => by
    rw [cutAt, if_neg fun e => h (by simp [e]), cutAt_none r fun e => h (by simp [e])]
theorem part_40 (z : Str) : (Txt.partition z "(").1 = strOf (cutAt 40 (tl z)).1 ∧ (Txt.partition z "(").2.2 = strOf (cutAt 40 (tl z)).2 := by
  by_cases h : 40 ∈ tl z
  · obtain ⟨a, b, e, na⟩ := List.eq_append_cons_of_mem h
    have ez : z = strOf a ++ "(" ++ strOf b := tl_inj (by rw [tl_append, tl_append, tl_strOf, tl_strOf, t40, e]; simp)
    have p := partition_app (y := "(") (s := 40) (S := []) t40 (a := strOf a) (b := strOf b) (by rw [tl_strOf]; exact na)
    rw [e, cutAt_app a b na]
    rw [← ez] at p
    rw [p]
    exact ⟨rfl, rfl⟩
  · have p := partition_none (y := "(") (s := 40) (S := []) t40 (a := z) h
    rw [p, cutAt_none _ h]
    exact ⟨(strOf_tl z).symm, rfl⟩
theorem starts_one (z y : Str) {c : Nat} (hy : tl y = [c]) : Txt.startswith z y = decide ((tl z).head? = some c) := by
  have ly : y.length = 1 := by rw [len_tl, hy]; rfl
  unfold Txt.startswith
  rw [PySem.StrLaws.subAt_eq, ly, len_tl]
  have e1 : z.cps.toList = tl z := rfl
  have e2 : y.cps.toList = [c] := hy
  rw [e1, e2]
  cases tl z with
  | nil => simp
  | cons x r => by_cases h : x = c <;> simp [h]
theorem ends_one (z y : Str) {c : Nat} (hy : tl y = [c]) : Txt.endswith z y = decide ((tl z).getLast? = some c) := by
  have ly : y.length = 1 := by rw [len_tl, hy]; rfl
  unfold Txt.endswith
  rw [PySem.StrLaws.subAt_eq, ly, len_tl]
  have e1 : z.cps.toList = tl z := rfl
  have e2 : y.cps.toList = [c] := hy
  rw [e1, e2, List.getLast?_eq_getElem?]
  generalize tl z = w
  cases h : w[w.length - 1]? with
  | none =>
    have := List.getElem?_eq_none_iff.mp h
    simp; omega
  | some x =>
    have lt := (List.getElem?_eq_some_iff.mp h).1
    have q : (w.drop (w.length - 1)).take 1 = [x] := by
      rw [List.drop_eq_getElem_cons lt]
      have := (List.getElem?_eq_some_iff.mp h).2
      simp [this]
    rw [q]
    by_cases e : x = c
    · simp [e]; omega
    · simp [e]
theorem t39 : tl ("'" : Str) = [39] := by decide +kernel
/-! ### the figure -/
def figL : List Nat → Option Int
  | [c] => if 48 ≤ c ∧ c ≤ 52 then some ((c : Int) - 48) else none
  | _ => none
def rdX : Option PyData → Except Str PyData
  | some d => .ok d
  | none => .error "BadText"
end My

namespace My
open PySem L2 Dn TL
theorem par_len {S : List Nat} : ∀ (w acc a b : List Nat), par S acc w = some (a, b) → acc.length ≤ a.length
  | [], acc, a, b, h => by cases h
  | c :: r, acc, a, b, h => by
    rw [par] at h
    split at h
    · cases h; exact Nat.le_refl _
    · have := par_len r _ a b h
      simp at this; omega
theorem figL_long {a : List Nat} (h : 2 ≤ a.length) : figL a = none := by
  match a, h with
  | x :: y :: r, _ => rfl
def cs2 (w : List Nat) : List Nat × List Nat := match par [44, 32] [] w with
  | some (a, b) => (a, b)
  | none => (w, [])
theorem part_cs (z : Str) : (Txt.partition z ", ").1 = strOf (cs2 (tl z)).1 ∧ (Txt.partition z ", ").2.2 = strOf (cs2 (tl z)).2 := by
  rw [partition_par z ", " (by rw [t4432]; simp), t4432]
  unfold cs2
  cases par [44, 32] [] (tl z) with
  | none => exact ⟨(strOf_tl z).symm, rfl⟩
  | some p => exact ⟨rfl, rfl⟩
theorem wth_eq (rd : List Nat → Option Sm) (h0 : rd [] = none) (w : List Nat) : ((figL (cs2 w).1).bind fun k => (rd (cs2 w).2).map (Sm.wth k)) = wthP rd w := by
  unfold cs2
  match w with
  | [] => rfl
  | c :: r =>
    rw [par]
    by_cases h : pre [44, 32] (c :: r) = true
    · rw [if_pos h]
      have e : wthP rd (c :: r) = none := by
        cases r with
        | nil => rfl
        | cons x r =>
          have h2 : c = 44 ∧ x = 32 := by simpa [pre] using h
          obtain ⟨rfl, rfl⟩ := h2
          unfold wthP
          split
          · rename_i e; simp at e
          · rfl
      rw [e]; rfl
    · rw [if_neg h]
      match r with
      | [] => simp [par, h0, wthP]
      | x :: r =>
        rw [par]
        by_cases h2 : pre [44, 32] (x :: r) = true
        · rw [if_pos h2]
          cases r with
          | nil => simp [pre] at h2
          | cons y r =>
            have h3 : x = 44 ∧ y = 32 := by simpa [pre] using h2
            obtain ⟨rfl, rfl⟩ := h3
            show ((if 48 ≤ c ∧ c ≤ 52 then some ((c : Int) - 48) else none).bind fun k => (rd r).map (Sm.wth k)) = (if 48 ≤ c ∧ c ≤ 52 then (rd r).map (Sm.wth ((c : Int) - 48)) else none)
            by_cases hc : 48 ≤ c ∧ c ≤ 52
            · rw [if_pos hc, if_pos hc]; rfl
            · rw [if_neg hc, if_neg hc]; rfl
        · rw [if_neg h2]
          have e : wthP rd (c :: x :: r) = none := by
            unfold wthP
            split
            · rename_i c' part e
              simp at e
              obtain ⟨_, rfl, rfl⟩ := e
              exact absurd (by simp [pre]) h2
            · rfl
          rw [e]
          cases q : par [44, 32] ([] ++ [c] ++ [x]) r with
          | none => rfl
          | some p =>
            obtain ⟨a, b⟩ := p
            have := par_len r _ a b q
            rw [show (figL a) = none from figL_long (by simpa using this)]
            rfl
/-! ### the words' kinds -/
theorem beq_tl (a b : Str) : (a == b) = decide (tl a = tl b) := by
  have := sEq_tl a b
  unfold sEq at this
  rw [← this]
  by_cases h : a = b <;> simp [h]
def kindL (w : List Nat) : Option Int := if w = [121, 101, 115] then some 0 else if (mk1 w).isSome then some 1 else if (mk2 w).isSome then some 2 else none
abbrev PARTSkv : List (Str × PyData) := [("yes", (.int 0)), ("not", (.int 1)), ("and", (.int 2)), ("or", (.int 2)), ("next", (.int 1)), ("until", (.int 2)), ("before", (.int 1)), ("since", (.int 2))]
theorem kind_eq (z : Str) : PARTSkv.lookup z = (kindL (tl z)).map .int := by
  have k1 : tl ("yes" : Str) = [121, 101, 115] := by decide +kernel
  have k2 : tl ("not" : Str) = [110, 111, 116] := by decide +kernel
  have k3 : tl ("and" : Str) = [97, 110, 100] := by decide +kernel
  have k4 : tl ("or" : Str) = [111, 114] := by decide +kernel
  have k5 : tl ("next" : Str) = [110, 101, 120, 116] := by decide +kernel
  have k6 : tl ("until" : Str) = [117, 110, 116, 105, 108] := by decide +kernel
  have k7 : tl ("before" : Str) = [98, 101, 102, 111, 114, 101] := by decide +kernel
  have k8 : tl ("since" : Str) = [115, 105, 110, 99, 101] := by decide +kernel
  simp only [PARTSkv, List.lookup, beq_tl, k1, k2, k3, k4, k5, k6, k7, k8]
  generalize tl z = w
  unfold kindL mk1 mk2
  by_cases h1 : w = [121, 101, 115]
  · subst h1; rfl
  by_cases h2 : w = [110, 111, 116]
  · subst h2; rfl
  by_cases h3 : w = [97, 110, 100]
  · subst h3; rfl
  by_cases h4 : w = [111, 114]
  · subst h4; rfl
  by_cases h5 : w = [110, 101, 120, 116]
  · subst h5; rfl
  by_cases h6 : w = [117, 110, 116, 105, 108]
  · subst h6; rfl
  by_cases h7 : w = [98, 101, 102, 111, 114, 101]
  · subst h7; rfl
  by_cases h8 : w = [115, 105, 110, 99, 101]
  · subst h8; rfl
  simp [h1, h2, h3, h4, h5, h6, h7, h8]
end My

namespace My
open PySem L2 Dn TL
section
variable {g k : Rho → Option (Except Str Out)} {ρ ρ' : Rho} {n : Str} {d : PyData} {ft : Rho → Option Bool} {o : Out} {g0 : Rho → Option Out}
theorem sx_nx (h : g ρ = some (.ok (.nx ρ'))) : gSeqX g k ρ = k ρ' := by unfold gSeqX; rw [h]; rfl
theorem sx_er (h : g ρ = some (.error n)) : gSeqX g k ρ = some (.error n) := by unfold gSeqX; rw [h]; rfl
theorem sx_rt (h : g ρ = some (.ok (.rt d ρ'))) : gSeqX g k ρ = some (.ok (.rt d ρ')) := by unfold gSeqX; rw [h]; rfl
theorem gi_t (h : ft ρ = some true) : gIfX ft g k ρ = g ρ := by unfold gIfX; rw [h]; rfl
theorem gi_f (h : ft ρ = some false) : gIfX ft g k ρ = k ρ := by unfold gIfX; rw [h]; rfl
theorem gok (h : g0 ρ = some o) : gOk g0 ρ = some (.ok o) := by unfold gOk; rw [h]; rfl
end
/-- a text that is short and could be laid -/
def GdS (z : Str) : Prop := z.length ≤ 90000 ∧ ∀ c ∈ tl z, c < 1114112
theorem gd_sub {z : Str} {w : List Nat} (h : GdS z) (l : w.length ≤ (tl z).length) (s : ∀ c ∈ w, c ∈ tl z) : GdS (strOf w) := by
  refine ⟨?_, fun c hc => ?_⟩
  · have := h.1
    rw [len_tl] at this ⊢
    rw [tl_strOf]; omega
  · rw [tl_strOf] at hc; exact h.2 c (s c hc)
def xE (o : Option Sm) : Except Str PyData := rdX (o.map enc)
def markL (w : List Nat) : Option Str := let m := (w.drop 1).dropLast
  if w = 39 :: (m ++ [39]) ∧ m ≠ [] ∧ m.length ≤ 6 ∧ isLow m = true then some (strOf m) else none
theorem markP_eq (w : List Nat) : markP w = (markL w).map Sm.mark := by
  unfold markP markL
  simp only
  split <;> rfl
theorem cutAt_len {c : Nat} : ∀ (w : List Nat), (cutAt c w).1.length ≤ w.length ∧ (cutAt c w).2.length ≤ w.length ∧ (∀ x ∈ (cutAt c w).1, x ∈ w) ∧ ∀ x ∈ (cutAt c w).2, x ∈ w
  | [] => by simp [cutAt]
  | x :: r => by
    obtain ⟨a, b, c1, c2⟩ := cutAt_len (c := c) r
    rw [cutAt]
    split
    · exact ⟨by simp, by simp, fun y hy => by simp at hy, fun y hy => by simp [hy]⟩
    · exact ⟨by simp; omega, by simp; omega, fun y hy => by
        rcases List.mem_cons.mp hy with e | e
        · simp [e]
        · simp [c1 y e], fun y hy => by simp [c2 y hy]⟩
theorem par_sub {S : List Nat} : ∀ (w acc a b : List Nat), par S acc w = some (a, b) → a.length ≤ acc.length + w.length ∧ b.length ≤ w.length ∧ (∀ x ∈ a, x ∈ acc ∨ x ∈ w) ∧ ∀ x ∈ b, x ∈ w
  | [], acc, a, b, h => by cases h
  | c :: r, acc, a, b, h => by
    rw [par] at h
    split at h
    · cases h
      exact ⟨by simp, by simp, fun x hx => .inl hx, fun x hx => List.mem_of_mem_drop hx⟩
    · obtain ⟨p, q, u, v⟩ := par_sub r _ a b h
      refine ⟨by simp at p ⊢; omega, by simp; omega, fun x hx => ?_, fun x hx => by simp [v x hx]⟩
      rcases u x hx with e | e
      · rcases List.mem_append.mp e with e | e
        · exact .inl e
        · simp at e; exact .inr (by simp [e])
      · exact .inr (by simp [e])
theorem cs2_sub (w : List Nat) : (cs2 w).1.length ≤ w.length ∧ (cs2 w).2.length ≤ w.length ∧ (∀ x ∈ (cs2 w).1, x ∈ w) ∧ ∀ x ∈ (cs2 w).2, x ∈ w := by
  unfold cs2
  cases h : par [44, 32] [] w with
  | none => exact ⟨Nat.le_refl _, by simp, fun x hx => hx, fun x hx => by simp at hx⟩
  | some p =>
    obtain ⟨a, b⟩ := p
    obtain ⟨p, q, u, v⟩ := par_sub w [] a b h
    exact ⟨by simpa using p, q, fun x hx => by simpa using u x hx, v⟩
theorem word_of {w : List Nat} {z : Str} (h : tl z = w) : z = strOf w := by rw [← h, strOf_tl]
theorem enc1 {w : List Nat} {f : Sm → Sm} (h : mk1 w = some f) (s : Sm) : enc (f s) = .tuple [.str (strOf w), enc s] := by
  unfold mk1 at h
  have k2 : strOf [110, 111, 116] = ("not" : Str) := by decide +kernel
  have k5 : strOf [110, 101, 120, 116] = ("next" : Str) := by decide +kernel
  have k7 : strOf [98, 101, 102, 111, 114, 101] = ("before" : Str) := by decide +kernel
  split at h
  · rename_i e; cases h; rw [e, k2]; rfl
  · split at h
    · rename_i e; cases h; rw [e, k5]; rfl
    · split at h
      · rename_i e; cases h; rw [e, k7]; rfl
      · cases h
theorem enc2 {w : List Nat} {f : Sm → Sm → Sm} (h : mk2 w = some f) (s t : Sm) : enc (f s t) = .tuple [.str (strOf w), enc s, enc t] := by
  unfold mk2 at h
  have k3 : strOf [97, 110, 100] = ("and" : Str) := by decide +kernel
  have k4 : strOf [111, 114] = ("or" : Str) := by decide +kernel
  have k6 : strOf [117, 110, 116, 105, 108] = ("until" : Str) := by decide +kernel
  have k8 : strOf [115, 105, 110, 99, 101] = ("since" : Str) := by decide +kernel
  split at h
  · rename_i e; cases h; rw [e, k3]; rfl
  · split at h
    · rename_i e; cases h; rw [e, k4]; rfl
    · split at h
      · rename_i e; cases h; rw [e, k6]; rfl
      · split at h
        · rename_i e; cases h; rw [e, k8]; rfl
        · cases h
end My

namespace My
open PySem L2 Dn TL
def finX : Option (Except Str Out) → Option (Except Str PyData)
  | some (.ok (.rt d _)) => some (.ok d)
  | some (.ok (.nx _)) => some (.ok .none)
  | some (.error n) => some (.error n)
  | _ => none
theorem fnX_fin (n : Nat) (g : Rho → Option (Except Str Out)) (ds : List PyData) : fnX n g ds = finX (g (startR n ds)) := by
  unfold fnX finX
  cases g (startR n ds) with
  | none => rfl
  | some r =>
    cases r with
    | error n => rfl
    | ok o => cases o <;> rfl
theorem eq_tl (z y : Str) : eqP (.str z) (.str y) = some (.bool (decide (tl z = tl y))) := by rw [eqP_s, sEq_tl]
theorem t_yes : tl ("yes" : Str) = [121, 101, 115] := by decide +kernel
theorem t_within : tl ("within" : Str) = [119, 105, 116, 104, 105, 110] := by decide +kernel
end My

namespace My
open PySem L2 Dn TL

theorem cut_m1 (x : Str) : tl (cutS x none (some (-1))) = (tl x).dropLast := by
  rw [tl_cut]
  unfold cutL
  rw [HT.sIx_none, List.dropLast_eq_take]
  simp only [List.drop_zero, Nat.sub_zero]
  congr 1
  unfold HT.sIx
  simp
  omega
/-- behind the word: what stands in the brackets -/
theorem nested_rest {rn rf : List PyData → Option (Except Str PyData)} {d : Nat} (hr : ∀ z, GdS z → rn [.str z, .int (d : Nat)] = some (xE (readP d (tl z))))
    (hf : ∀ z, GdS z → rf [.str z] = some (rdX ((figL (tl z)).map .int))) (h0 : readP d [] = none) (D : PyData) (sb : (ri fun i j => i - j) D (.int 1) = some (.int (d : Nat))) (W I : Str) (hW : GdS W) (hI : GdS I) (x0 x3 x4 : Option Sv) :
    finX ((gSeqX (gIfX (fB (f2 eqP (fV 2) (fC (.str "within")))) (gSeqX (gOk (gAsg (b3 6 3 7) (fMt partD (fV 5) (fCons (fC (.str ", ")) fNil)))) (gRetX (fXTup (fXCons (fOk (fV 2)) (fXCons (fXc 1 rf (fCons (fV 6) fNil)) (fXCons (fXc 2 rn (fCons (fV 7) (fCons (f2 (ri fun i j => i - j) (fV 1) (fC (.int 1))) fNil))) fXNil)))))) (gOk gNx)) (gSeqX (gIfX (fOrT (fB (f1 (niCD PARTSkv) (fV 2))) (fB (f2 eqP (f1 (ixCD PARTSkv) (fV 2)) (fC (.int 0))))) (gRaise "BadText") (gOk gNx)) (gSeqX (gIfX (fB (f2 eqP (f1 (ixCD PARTSkv) (fV 2)) (fC (.int 1)))) (gRetX (fXTup (fXCons (fOk (fV 2)) (fXCons (fXc 2 rn (fCons (fV 5) (fCons (f2 (ri fun i j => i - j) (fV 1) (fC (.int 1))) fNil))) fXNil)))) (gOk gNx)) (gSeqX (gAsgX (b2 8 9) (fXc 1 partedF (fCons (fV 5) fNil))) (gRetX (fXTup (fXCons (fOk (fV 2)) (fXCons (fXc 2 rn (fCons (fV 8) (fCons (f2 (ri fun i j => i - j) (fV 1) (fC (.int 1))) fNil))) (fXCons (fXc 2 rn (fCons (fV 9) (fCons (f2 (ri fun i j => i - j) (fV 1) (fC (.int 1))) fNil))) fXNil)))))))))
      [x0, some (.d D), some (.d (.str W)), x3, x4, some (.d (.str I)), none, none, none, none]) = some (xE (bodyP d (tl W) (tl I))) := by
  have q1 := eq_tl W "within"
  rw [t_within] at q1
  unfold bodyP
  by_cases hw : tl W = [119, 105, 116, 104, 105, 110]
  · rw [if_pos hw]
    rw [decide_eq_true hw] at q1
    obtain ⟨c1, c2⟩ := part_cs I
    obtain ⟨l1, l2, m1, m2⟩ := cs2_sub (tl I)
    have g1 : GdS (strOf (cs2 (tl I)).1) := gd_sub hI l1 m1
    have g2 : GdS (strOf (cs2 (tl I)).2) := gd_sub hI l2 m2
    have p1 : partD (.str I) [.str ", "] = some (.tuple [.str (strOf (cs2 (tl I)).1), .str (Txt.partition I ", ").2.1, .str (strOf (cs2 (tl I)).2)]) := by
      unfold partD
      simp only
      rw [if_pos ⟨by decide +kernel, by have := hI.1; show I.length ≤ 100000; omega⟩, c1, c2]
    have hn := hr _ g2
    have hg := hf _ g1
    rw [tl_strOf] at hn hg
    have we := wth_eq (readP d) h0 (tl I)
    have ww : strOf [119, 105, 116, 104, 105, 110] = ("within" : Str) := by decide +kernel
    have W1 : W = "within" := by rw [word_of hw, ww]
    rw [← we]
    generalize cs2 (tl I) = cc at *
    obtain ⟨a, b⟩ := cc
    simp only at *
    have sA : gOk (gAsg (b3 6 3 7) (fMt partD (fV 5) (fCons (fC (.str ", ")) fNil))) [x0, some (.d D), some (.d (.str W)), x3, x4, some (.d (.str I)), none, none, none, none] = some (.ok (.nx [x0, some (.d D), some (.d (.str W)), some (.d (.str (Txt.partition I ", ").2.1)), x4, some (.d (.str I)), some (.d (.str (strOf a))), some (.d (.str (strOf b))), none, none])) := gok (by
      simp only [gAsg_ap, fMt_ap, fV_ap, fC_ap, fCons_ap, fNil_ap, List.getElem?_cons_zero, List.getElem?_cons_succ, slot_d, consO_some, mtO_some, p1, asgO_some, b3_ap, Option.map_some, List.set_cons_succ, List.set_cons_zero])
    have f6 : ∀ x8 x9, fXc 1 rf (fCons (fV 6) fNil) [x0, some (.d D), some (.d (.str W)), some (.d (.str (Txt.partition I ", ").2.1)), x4, some (.d (.str I)), some (.d (.str (strOf a))), some (.d (.str (strOf b))), x8, x9] = some (rdX ((figL a).map .int)) := fun _ _ => hg
    have f7 : fXc 2 rn (fCons (fV 7) (fCons (f2 (ri fun i j => i - j) (fV 1) (fC (.int 1))) fNil)) [x0, some (.d D), some (.d (.str W)), some (.d (.str (Txt.partition I ", ").2.1)), x4, some (.d (.str I)), some (.d (.str (strOf a))), some (.d (.str (strOf b))), none, none] = some (xE (readP d b)) := by
      unfold fXc
      simp only [fCons_ap, fV_ap, f2_ap, fC_ap, fNil_ap, List.getElem?_cons_zero, List.getElem?_cons_succ, slot_d, ap2_some, sb, consO_some, Option.bind_some]
      exact hn
    have sB : gRetX (fXTup (fXCons (fOk (fV 2)) (fXCons (fXc 1 rf (fCons (fV 6) fNil)) (fXCons (fXc 2 rn (fCons (fV 7) (fCons (f2 (ri fun i j => i - j) (fV 1) (fC (.int 1))) fNil))) fXNil)))) [x0, some (.d D), some (.d (.str W)), some (.d (.str (Txt.partition I ", ").2.1)), x4, some (.d (.str I)), some (.d (.str (strOf a))), some (.d (.str (strOf b))), none, none] = some (match ((figL a).bind fun k => (readP d b).map (Sm.wth k)) with
        | some s => .ok (.rt (enc s) [x0, some (.d D), some (.d (.str W)), some (.d (.str (Txt.partition I ", ").2.1)), x4, some (.d (.str I)), some (.d (.str (strOf a))), some (.d (.str (strOf b))), none, none])
        | none => .error "BadText") := by
      unfold gRetX fXTup fXCons fOk
      rw [f6, f7]
      simp only [fV_ap, List.getElem?_cons_zero, List.getElem?_cons_succ, slot_d, Option.map_some, Option.bind_some]
      cases figL a with
      | none => rfl
      | some k =>
        cases readP d b with
        | none => rfl
        | some t => rw [W1]; rfl
    have sC := (gi_t (ft := fB (f2 eqP (fV 2) (fC (.str "within")))) (g := gSeqX (gOk (gAsg (b3 6 3 7) (fMt partD (fV 5) (fCons (fC (.str ", ")) fNil)))) (gRetX (fXTup (fXCons (fOk (fV 2)) (fXCons (fXc 1 rf (fCons (fV 6) fNil)) (fXCons (fXc 2 rn (fCons (fV 7) (fCons (f2 (ri fun i j => i - j) (fV 1) (fC (.int 1))) fNil))) fXNil)))))) (k := gOk gNx) (ρ := [x0, some (.d D), some (.d (.str W)), x3, x4, some (.d (.str I)), none, none, none, none]) (by
      simp only [fB_ap, f2_ap, fV_ap, fC_ap, List.getElem?_cons_zero, List.getElem?_cons_succ, slot_d, ap2_some, q1, unB_some])).trans ((sx_nx sA).trans sB)
    cases hh : ((figL a).bind fun k => (readP d b).map (Sm.wth k)) with
    | none => rw [hh] at sC; rw [sx_er sC]; rfl
    | some s => rw [hh] at sC; rw [sx_rt sC]; rfl
  rw [if_neg hw]
  rw [decide_eq_false hw] at q1
  have s7 : gIfX (fB (f2 eqP (fV 2) (fC (.str "within")))) (gSeqX (gOk (gAsg (b3 6 3 7) (fMt partD (fV 5) (fCons (fC (.str ", ")) fNil)))) (gRetX (fXTup (fXCons (fOk (fV 2)) (fXCons (fXc 1 rf (fCons (fV 6) fNil)) (fXCons (fXc 2 rn (fCons (fV 7) (fCons (f2 (ri fun i j => i - j) (fV 1) (fC (.int 1))) fNil))) fXNil)))))) (gOk gNx) [x0, some (.d D), some (.d (.str W)), x3, x4, some (.d (.str I)), none, none, none, none] = some (.ok (.nx [x0, some (.d D), some (.d (.str W)), x3, x4, some (.d (.str I)), none, none, none, none])) := by
    rw [gi_f (by simp only [fB_ap, f2_ap, fV_ap, fC_ap, List.getElem?_cons_zero, List.getElem?_cons_succ, slot_d, ap2_some, q1, unB_some])]; rfl
  rw [sx_nx s7]
  have kk := kind_eq W
  have ni : niCD PARTSkv (.str W) = some (.bool (!(kindL (tl W)).isSome)) := by
    show some (PyData.bool (!(PARTSkv.lookup W).isSome)) = _
    rw [kk]; cases kindL (tl W) <;> rfl
  have ix : ixCD PARTSkv (.str W) = (kindL (tl W)).map .int := kk
  have raise : (fOrT (fB (f1 (niCD PARTSkv) (fV 2))) (fB (f2 eqP (f1 (ixCD PARTSkv) (fV 2)) (fC (.int 0))))) [x0, some (.d D), some (.d (.str W)), x3, x4, some (.d (.str I)), none, none, none, none] = some true → finX ((gSeqX (gIfX (fOrT (fB (f1 (niCD PARTSkv) (fV 2))) (fB (f2 eqP (f1 (ixCD PARTSkv) (fV 2)) (fC (.int 0))))) (gRaise "BadText") (gOk gNx)) (gSeqX (gIfX (fB (f2 eqP (f1 (ixCD PARTSkv) (fV 2)) (fC (.int 1)))) (gRetX (fXTup (fXCons (fOk (fV 2)) (fXCons (fXc 2 rn (fCons (fV 5) (fCons (f2 (ri fun i j => i - j) (fV 1) (fC (.int 1))) fNil))) fXNil)))) (gOk gNx)) (gSeqX (gAsgX (b2 8 9) (fXc 1 partedF (fCons (fV 5) fNil))) (gRetX (fXTup (fXCons (fOk (fV 2)) (fXCons (fXc 2 rn (fCons (fV 8) (fCons (f2 (ri fun i j => i - j) (fV 1) (fC (.int 1))) fNil))) (fXCons (fXc 2 rn (fCons (fV 9) (fCons (f2 (ri fun i j => i - j) (fV 1) (fC (.int 1))) fNil))) fXNil)))))))) [x0, some (.d D), some (.d (.str W)), x3, x4, some (.d (.str I)), none, none, none, none]) = some (.error "BadText") := fun h => by
    have s8 : gIfX (fOrT (fB (f1 (niCD PARTSkv) (fV 2))) (fB (f2 eqP (f1 (ixCD PARTSkv) (fV 2)) (fC (.int 0))))) (gRaise "BadText") (gOk gNx) [x0, some (.d D), some (.d (.str W)), x3, x4, some (.d (.str I)), none, none, none, none] = some (.error "BadText") := by rw [gi_t h]; rfl
    rw [sx_er s8]; rfl
  by_cases hy : tl W = [121, 101, 115]
  · have k0 : kindL (tl W) = some 0 := by unfold kindL; rw [if_pos hy]
    rw [k0] at ni ix
    have e0 : eqP (.int 0) (.int 0) = some (.bool true) := by rw [eqP_i]; rfl
    simp only [Option.isSome_some, Bool.not_true, Option.map_some] at ni ix
    rw [raise (by simp only [fB_ap, f2_ap, f1_ap, fV_ap, fC_ap, fOrT_ap, List.getElem?_cons_zero, List.getElem?_cons_succ, slot_d, ap2_some, ap1_some, ni, ix, e0, unB_some, orT_f])]
    rw [hy]
    rfl
  cases h1 : mk1 (tl W) with
  | some f =>
    have k1 : kindL (tl W) = some 1 := by unfold kindL; rw [if_neg hy, h1]; rfl
    rw [k1] at ni ix
    simp only [Option.isSome_some, Bool.not_true, Option.map_some] at ni ix
    have e0 : eqP (.int 1) (.int 0) = some (.bool false) := by rw [eqP_i]; rfl
    have e1 : eqP (.int 1) (.int 1) = some (.bool true) := by rw [eqP_i]; rfl
    have s8 : gIfX (fOrT (fB (f1 (niCD PARTSkv) (fV 2))) (fB (f2 eqP (f1 (ixCD PARTSkv) (fV 2)) (fC (.int 0))))) (gRaise "BadText") (gOk gNx) [x0, some (.d D), some (.d (.str W)), x3, x4, some (.d (.str I)), none, none, none, none] = some (.ok (.nx [x0, some (.d D), some (.d (.str W)), x3, x4, some (.d (.str I)), none, none, none, none])) := by
      rw [gi_f (by simp only [fB_ap, f2_ap, f1_ap, fV_ap, fC_ap, fOrT_ap, List.getElem?_cons_zero, List.getElem?_cons_succ, slot_d, ap2_some, ap1_some, ni, ix, e0, unB_some, orT_f])]; rfl
    rw [sx_nx s8]
    have f5 : fXc 2 rn (fCons (fV 5) (fCons (f2 (ri fun i j => i - j) (fV 1) (fC (.int 1))) fNil)) [x0, some (.d D), some (.d (.str W)), x3, x4, some (.d (.str I)), none, none, none, none] = some (xE (readP d (tl I))) := by
      unfold fXc
      simp only [fCons_ap, fV_ap, f2_ap, fC_ap, fNil_ap, List.getElem?_cons_zero, List.getElem?_cons_succ, slot_d, ap2_some, sb, consO_some, Option.bind_some]
      exact hr I hI
    have W1 : W = strOf (tl W) := (strOf_tl W).symm
    have s9 : gIfX (fB (f2 eqP (f1 (ixCD PARTSkv) (fV 2)) (fC (.int 1)))) (gRetX (fXTup (fXCons (fOk (fV 2)) (fXCons (fXc 2 rn (fCons (fV 5) (fCons (f2 (ri fun i j => i - j) (fV 1) (fC (.int 1))) fNil))) fXNil)))) (gOk gNx) [x0, some (.d D), some (.d (.str W)), x3, x4, some (.d (.str I)), none, none, none, none] = some (match (readP d (tl I)).map f with
        | some s => .ok (.rt (enc s) [x0, some (.d D), some (.d (.str W)), x3, x4, some (.d (.str I)), none, none, none, none])
        | none => .error "BadText") := by
      rw [gi_t (by simp only [fB_ap, f2_ap, f1_ap, fV_ap, fC_ap, fOrT_ap, List.getElem?_cons_zero, List.getElem?_cons_succ, slot_d, ap2_some, ap1_some, ix, e1, unB_some])]
      unfold gRetX fXTup fXCons fOk
      rw [f5]
      simp only [fV_ap, List.getElem?_cons_zero, List.getElem?_cons_succ, slot_d, Option.map_some, Option.bind_some]
      cases readP d (tl I) with
      | none => rfl
      | some t =>
        simp only [Option.map_some]
        rw [enc1 h1 t, ← W1]
        rfl
    show _ = some (xE ((readP d (tl I)).map f))
    cases hh : (readP d (tl I)).map f with
    | none => rw [hh] at s9; rw [sx_er s9]; rfl
    | some s => rw [hh] at s9; rw [sx_rt s9]; rfl
  | none =>
    cases h2 : mk2 (tl W) with
    | none =>
      have k1 : kindL (tl W) = none := by unfold kindL; rw [if_neg hy, h1, h2]; rfl
      rw [k1] at ni
      simp only [Option.isSome_none, Bool.not_false] at ni
      rw [raise (by simp only [fB_ap, f2_ap, f1_ap, fV_ap, fC_ap, fOrT_ap, List.getElem?_cons_zero, List.getElem?_cons_succ, slot_d, ap2_some, ap1_some, ni, unB_some, orT_t])]
      rfl
    | some f =>
      have k1 : kindL (tl W) = some 2 := by unfold kindL; rw [if_neg hy, h1, h2]; rfl
      rw [k1] at ni ix
      simp only [Option.isSome_some, Bool.not_true, Option.map_some] at ni ix
      have e0 : eqP (.int 2) (.int 0) = some (.bool false) := by rw [eqP_i]; rfl
      have e1 : eqP (.int 2) (.int 1) = some (.bool false) := by rw [eqP_i]; rfl
      have s8 : gIfX (fOrT (fB (f1 (niCD PARTSkv) (fV 2))) (fB (f2 eqP (f1 (ixCD PARTSkv) (fV 2)) (fC (.int 0))))) (gRaise "BadText") (gOk gNx) [x0, some (.d D), some (.d (.str W)), x3, x4, some (.d (.str I)), none, none, none, none] = some (.ok (.nx [x0, some (.d D), some (.d (.str W)), x3, x4, some (.d (.str I)), none, none, none, none])) := by
        rw [gi_f (by simp only [fB_ap, f2_ap, f1_ap, fV_ap, fC_ap, fOrT_ap, List.getElem?_cons_zero, List.getElem?_cons_succ, slot_d, ap2_some, ap1_some, ni, ix, e0, unB_some, orT_f])]; rfl
      rw [sx_nx s8]
      have s9 : gIfX (fB (f2 eqP (f1 (ixCD PARTSkv) (fV 2)) (fC (.int 1)))) (gRetX (fXTup (fXCons (fOk (fV 2)) (fXCons (fXc 2 rn (fCons (fV 5) (fCons (f2 (ri fun i j => i - j) (fV 1) (fC (.int 1))) fNil))) fXNil)))) (gOk gNx) [x0, some (.d D), some (.d (.str W)), x3, x4, some (.d (.str I)), none, none, none, none] = some (.ok (.nx [x0, some (.d D), some (.d (.str W)), x3, x4, some (.d (.str I)), none, none, none, none])) := by
        rw [gi_f (by simp only [fB_ap, f2_ap, f1_ap, fV_ap, fC_ap, fOrT_ap, List.getElem?_cons_zero, List.getElem?_cons_succ, slot_d, ap2_some, ap1_some, ix, e1, unB_some])]; rfl
      rw [sx_nx s9]
      show _ = some (xE ((partS 0 (tl I)).bind fun p => (readP d p.1).bind fun s => (readP d p.2).map (f s)))
      have pq := parted_eq I hI.1
      have f10 : fXc 1 partedF (fCons (fV 5) fNil) [x0, some (.d D), some (.d (.str W)), x3, x4, some (.d (.str I)), none, none, none, none] = some (match partS 0 (tl I) with
        | some (a, b) => .ok (.tuple [.str (strOf a), .str (strOf b)])
        | none => .error "BadText") := pq
      cases hp : partS 0 (tl I) with
      | none =>
        rw [hp] at f10
        have s10 : gAsgX (b2 8 9) (fXc 1 partedF (fCons (fV 5) fNil)) [x0, some (.d D), some (.d (.str W)), x3, x4, some (.d (.str I)), none, none, none, none] = some (.error "BadText") := by unfold gAsgX; rw [f10]; rfl
        rw [sx_er s10]; rfl
      | some p =>
        obtain ⟨a, b⟩ := p
        rw [hp] at f10
        have s10 : gAsgX (b2 8 9) (fXc 1 partedF (fCons (fV 5) fNil)) [x0, some (.d D), some (.d (.str W)), x3, x4, some (.d (.str I)), none, none, none, none] = some (.ok (.nx [x0, some (.d D), some (.d (.str W)), x3, x4, some (.d (.str I)), none, none, some (.d (.str (strOf a))), some (.d (.str (strOf b)))])) := by unfold gAsgX; rw [f10]; rfl
        rw [sx_nx s10]
        have ps := partS_sound _ _ _ _ hp
        have ga : GdS (strOf a) := gd_sub hI (by rw [ps]; simp) fun c hc => by rw [ps]; simp [hc]
        have gb : GdS (strOf b) := gd_sub hI (by rw [ps]; simp; omega) fun c hc => by rw [ps]; simp [hc]
        have ra := hr _ ga
        have rb := hr _ gb
        rw [tl_strOf] at ra rb
        have f8 : fXc 2 rn (fCons (fV 8) (fCons (f2 (ri fun i j => i - j) (fV 1) (fC (.int 1))) fNil)) [x0, some (.d D), some (.d (.str W)), x3, x4, some (.d (.str I)), none, none, some (.d (.str (strOf a))), some (.d (.str (strOf b)))] = some (xE (readP d a)) := by
          unfold fXc
          simp only [fCons_ap, fV_ap, f2_ap, fC_ap, fNil_ap, List.getElem?_cons_zero, List.getElem?_cons_succ, slot_d, ap2_some, sb, consO_some, Option.bind_some]
          exact ra
        have f9 : fXc 2 rn (fCons (fV 9) (fCons (f2 (ri fun i j => i - j) (fV 1) (fC (.int 1))) fNil)) [x0, some (.d D), some (.d (.str W)), x3, x4, some (.d (.str I)), none, none, some (.d (.str (strOf a))), some (.d (.str (strOf b)))] = some (xE (readP d b)) := by
          unfold fXc
          simp only [fCons_ap, fV_ap, f2_ap, fC_ap, fNil_ap, List.getElem?_cons_zero, List.getElem?_cons_succ, slot_d, ap2_some, sb, consO_some, Option.bind_some]
          exact rb
        have W1 : W = strOf (tl W) := (strOf_tl W).symm
        have s11 : gRetX (fXTup (fXCons (fOk (fV 2)) (fXCons (fXc 2 rn (fCons (fV 8) (fCons (f2 (ri fun i j => i - j) (fV 1) (fC (.int 1))) fNil))) (fXCons (fXc 2 rn (fCons (fV 9) (fCons (f2 (ri fun i j => i - j) (fV 1) (fC (.int 1))) fNil))) fXNil)))) [x0, some (.d D), some (.d (.str W)), x3, x4, some (.d (.str I)), none, none, some (.d (.str (strOf a))), some (.d (.str (strOf b)))] = some (match ((readP d a).bind fun s => (readP d b).map (f s)) with
            | some s => .ok (.rt (enc s) [x0, some (.d D), some (.d (.str W)), x3, x4, some (.d (.str I)), none, none, some (.d (.str (strOf a))), some (.d (.str (strOf b)))])
            | none => .error "BadText") := by
          unfold gRetX fXTup fXCons fOk
          rw [f8, f9]
          simp only [fV_ap, List.getElem?_cons_zero, List.getElem?_cons_succ, slot_d, Option.map_some, Option.bind_some]
          cases readP d a with
          | none => rfl
          | some t =>
            cases readP d b with
            | none => rfl
            | some u =>
              simp only [Option.map_some, Option.bind_some]
              rw [enc2 h2 t u, ← W1]
              rfl
        rw [s11]
        show _ = some (xE ((readP d a).bind fun s => (readP d b).map (f s)))
        cases (readP d a).bind fun s => (readP d b).map (f s) with
        | none => rfl
        | some s => rfl
end My

namespace My
open PySem L2 Dn TL
/-- what _read_nested is worth: what the reader reads -/
theorem nested_step {rm rn rf : List PyData → Option (Except Str PyData)} {d : Nat} (hm : ∀ z, GdS z → rm [.str z] = some (rdX ((markL (tl z)).map .str))) (hr : ∀ z, GdS z → rn [.str z, .int (d : Nat)] = some (xE (readP d (tl z))))
    (hf : ∀ z, GdS z → rf [.str z] = some (rdX ((figL (tl z)).map .int))) (h0 : readP d [] = none) (z : Str) (hz : GdS z) :
    fnX 10 (gread_nested rm rn rf partedF) [.str z, .int ((d + 1 : Nat) : Int)] = some (xE (readP (d + 1) (tl z))) := by
  rw [fnX_fin]
  have e0 : startR 10 [.str z, .int ((d + 1 : Nat) : Int)] = [some (.d (.str z)), some (.d (.int ((d + 1 : Nat) : Int))), none, none, none, none, none, none, none, none] := rfl
  rw [e0, gread_nested]
  have q1 : eqP (.int ((d + 1 : Nat) : Int)) (.int 0) = some (.bool false) := by
    rw [eqP_i, decide_eq_false (by omega)]
  have sb : (ri fun i j => i - j) (.int ((d + 1 : Nat) : Int)) (.int 1) = some (.int (d : Nat)) := by
    show some (PyData.int (((d + 1 : Nat) : Int) - 1)) = _
    congr 2
    omega
  generalize hD : PyData.int ((d + 1 : Nat) : Int) = D at *
  have s1 : gIfX (fB (f2 eqP (fV 1) (fC (.int 0)))) (gRaise "BadText") (gOk gNx) [some (.d (.str z)), some (.d D), none, none, none, none, none, none, none, none] = some (.ok (.nx [some (.d (.str z)), some (.d D), none, none, none, none, none, none, none, none])) := by
    rw [gi_f (by simp only [fB_ap, f2_ap, fV_ap, fC_ap, List.getElem?_cons_zero, List.getElem?_cons_succ, slot_d, ap2_some, q1, unB_some])]; rfl
  rw [sx_nx s1]
  -- yes
  have q2 := eq_tl z "yes"
  rw [t_yes] at q2
  rw [readP]
  by_cases hy : tl z = [121, 101, 115]
  · rw [if_pos hy]
    rw [decide_eq_true hy] at q2
    have s2 : gOk (gIf (fB (f2 eqP (fV 0) (fC (.str "yes")))) (gRet (fTup (fCons (fC (.str "yes")) fNil))) gNx) [some (.d (.str z)), some (.d D), none, none, none, none, none, none, none, none] = some (.ok (.rt (.tuple [.str "yes"]) [some (.d (.str z)), some (.d D), none, none, none, none, none, none, none, none])) := gok (by
      simp only [gIf_ap, fB_ap, f2_ap, fV_ap, fC_ap, List.getElem?_cons_zero, slot_d, ap2_some, q2, unB_some, iteO_t, gRet_ap, fTup_ap, fCons_ap, fNil_ap, consO_some, tupO_1, retO_some])
    rw [sx_rt s2]
    rfl
  rw [if_neg hy]
  rw [decide_eq_false hy] at q2
  have s2 : gOk (gIf (fB (f2 eqP (fV 0) (fC (.str "yes")))) (gRet (fTup (fCons (fC (.str "yes")) fNil))) gNx) [some (.d (.str z)), some (.d D), none, none, none, none, none, none, none, none] = some (.ok (.nx [some (.d (.str z)), some (.d D), none, none, none, none, none, none, none, none])) := gok (by
    simp only [gIf_ap, fB_ap, f2_ap, fV_ap, fC_ap, List.getElem?_cons_zero, slot_d, ap2_some, q2, unB_some, iteO_f, gNx_ap])
  rw [sx_nx s2]
  -- a mark
  have q3 : startsD (.str z) [.str "'"] = some (.bool (decide ((tl z).head? = some 39))) := by
    show some (PyData.bool _) = _
    rw [starts_one z "'" t39]
  by_cases hq : (tl z).head? = some 39
  · rw [if_pos hq, markP_eq]
    rw [decide_eq_true hq] at q3
    have m := hm z hz
    have s3 : gIfX (fB (fMt startsD (fV 0) (fCons (fC (.str "'")) fNil))) (gRetX (fXTup (fXCons (fOk (fC (.str "mark"))) (fXCons (fXc 1 rm (fCons (fV 0) fNil)) fXNil)))) (gOk gNx) [some (.d (.str z)), some (.d D), none, none, none, none, none, none, none, none] = gRetX (fXTup (fXCons (fOk (fC (.str "mark"))) (fXCons (fXc 1 rm (fCons (fV 0) fNil)) fXNil))) [some (.d (.str z)), some (.d D), none, none, none, none, none, none, none, none] := gi_t (by
      simp only [fB_ap, fMt_ap, fV_ap, fC_ap, fCons_ap, fNil_ap, List.getElem?_cons_zero, slot_d, consO_some, mtO_some, q3, unB_some])
    have mc : fXc 1 rm (fCons (fV 0) fNil) [some (.d (.str z)), some (.d D), none, none, none, none, none, none, none, none] = some (rdX ((markL (tl z)).map .str)) := m
    cases hh : markL (tl z) with
    | none =>
      rw [hh] at mc
      have s4 : gRetX (fXTup (fXCons (fOk (fC (.str "mark"))) (fXCons (fXc 1 rm (fCons (fV 0) fNil)) fXNil))) [some (.d (.str z)), some (.d D), none, none, none, none, none, none, none, none] = some (.error "BadText") := by
        unfold gRetX fXTup fXCons fOk
        simp only [fC_ap, Option.map_some, Option.bind_some]
        rw [mc]
        rfl
      rw [sx_er (s3.trans s4)]
      rfl
    | some t =>
      rw [hh] at mc
      have s4 : gRetX (fXTup (fXCons (fOk (fC (.str "mark"))) (fXCons (fXc 1 rm (fCons (fV 0) fNil)) fXNil))) [some (.d (.str z)), some (.d D), none, none, none, none, none, none, none, none] = some (.ok (.rt (.tuple [.str "mark", .str t]) [some (.d (.str z)), some (.d D), none, none, none, none, none, none, none, none])) := by
        unfold gRetX fXTup fXCons fOk
        simp only [fC_ap, Option.map_some, Option.bind_some]
        rw [mc]
        rfl
      rw [sx_rt (s3.trans s4)]
      rfl
  rw [if_neg hq]
  rw [decide_eq_false hq] at q3
  have s3 : gIfX (fB (fMt startsD (fV 0) (fCons (fC (.str "'")) fNil))) (gRetX (fXTup (fXCons (fOk (fC (.str "mark"))) (fXCons (fXc 1 rm (fCons (fV 0) fNil)) fXNil)))) (gOk gNx) [some (.d (.str z)), some (.d D), none, none, none, none, none, none, none, none] = some (.ok (.nx [some (.d (.str z)), some (.d D), none, none, none, none, none, none, none, none])) := by
    rw [gi_f (by simp only [fB_ap, fMt_ap, fV_ap, fC_ap, fCons_ap, fNil_ap, List.getElem?_cons_zero, slot_d, consO_some, mtO_some, q3, unB_some])]; rfl
  rw [sx_nx s3]
  -- word, _, rest = text.partition('(')
  obtain ⟨c1, c2⟩ := part_40 z
  obtain ⟨l1, l2, m1, m2⟩ := cutAt_len (c := 40) (tl z)
  have gW : GdS (strOf (cutAt 40 (tl z)).1) := gd_sub hz l1 m1
  have gR : GdS (strOf (cutAt 40 (tl z)).2) := gd_sub hz l2 m2
  have p1 : partD (.str z) [.str "("] = some (.tuple [.str (strOf (cutAt 40 (tl z)).1), .str (Txt.partition z "(").2.1, .str (strOf (cutAt 40 (tl z)).2)]) := by
    unfold partD
    simp only
    rw [if_pos ⟨by decide +kernel, by have := hz.1; show z.length ≤ 100000; omega⟩, c1, c2]
  generalize hW : (cutAt 40 (tl z)).1 = W at *
  generalize hR : (cutAt 40 (tl z)).2 = R at *
  have s4 : gOk (gAsg (b3 2 3 4) (fMt partD (fV 0) (fCons (fC (.str "(")) fNil))) [some (.d (.str z)), some (.d D), none, none, none, none, none, none, none, none] = some (.ok (.nx [some (.d (.str z)), some (.d D), some (.d (.str (strOf W))), some (.d (.str (Txt.partition z "(").2.1)), some (.d (.str (strOf R))), none, none, none, none, none])) := gok (by
    simp only [gAsg_ap, fMt_ap, fV_ap, fC_ap, fCons_ap, fNil_ap, List.getElem?_cons_zero, slot_d, consO_some, mtO_some, p1, asgO_some, b3_ap, Option.map_some, List.set_cons_succ, List.set_cons_zero])
  rw [sx_nx s4]
  -- the bracket
  have q4 : endsD (.str (strOf R)) [.str ")"] = some (.bool (decide (R.getLast? = some 41))) := by
    show some (PyData.bool _) = _
    rw [ends_one (strOf R) ")" t41, tl_strOf]
  by_cases hb : R.getLast? = some 41
  · rw [if_pos hb]
    rw [decide_eq_true hb] at q4
    have s5 : gIfX (fNotT (fB (fMt endsD (fV 4) (fCons (fC (.str ")")) fNil)))) (gRaise "BadText") (gOk gNx) [some (.d (.str z)), some (.d D), some (.d (.str (strOf W))), some (.d (.str (Txt.partition z "(").2.1)), some (.d (.str (strOf R))), none, none, none, none, none] = some (.ok (.nx [some (.d (.str z)), some (.d D), some (.d (.str (strOf W))), some (.d (.str (Txt.partition z "(").2.1)), some (.d (.str (strOf R))), none, none, none, none, none])) := by
      rw [gi_f (by simp only [fNotT_ap, fB_ap, fMt_ap, fV_ap, fC_ap, fCons_ap, fNil_ap, List.getElem?_cons_zero, List.getElem?_cons_succ, slot_d, consO_some, mtO_some, q4, unB_some, Option.map_some, Bool.not_true])]; rfl
    rw [sx_nx s5]
    have cu : slD none (some (-1)) (.str (strOf R)) = some (.str (strOf R.dropLast)) := by
      rw [slD_s (by have := gR.1; omega)]
      congr 2
      exact tl_inj (by rw [cut_m1, tl_strOf, tl_strOf])
    have s6 : gOk (gSet 5 (fSl (fV 4) fO0 (fO (f1 negD (fC (.int 1)))))) [some (.d (.str z)), some (.d D), some (.d (.str (strOf W))), some (.d (.str (Txt.partition z "(").2.1)), some (.d (.str (strOf R))), none, none, none, none, none] = some (.ok (.nx [some (.d (.str z)), some (.d D), some (.d (.str (strOf W))), some (.d (.str (Txt.partition z "(").2.1)), some (.d (.str (strOf R))), some (.d (.str (strOf R.dropLast))), none, none, none, none])) := gok (by
      have ng : negD (.int 1) = some (.int (-1)) := rfl
      simp only [gSet_ap, fSl_ap, fV_ap, fO0_ap, fO_ap, f1_ap, fC_ap, List.getElem?_cons_zero, List.getElem?_cons_succ, slot_d, ap1_some, ng, intO_some, slO_some, cu, setO_some, List.set_cons_succ, List.set_cons_zero])
    rw [sx_nx s6]
    have gI : GdS (strOf R.dropLast) := gd_sub gR (by rw [tl_strOf]; simp) fun c hc => by rw [tl_strOf]; exact (List.dropLast_sublist R).subset hc
    have fin := nested_rest hr hf h0 D sb (strOf W) (strOf R.dropLast) gW gI (some (.d (.str z))) (some (.d (.str (Txt.partition z "(").2.1))) (some (.d (.str (strOf R))))
    rw [tl_strOf, tl_strOf] at fin
    exact fin
  · rw [if_neg hb]
    rw [decide_eq_false hb] at q4
    have s5 : gIfX (fNotT (fB (fMt endsD (fV 4) (fCons (fC (.str ")")) fNil)))) (gRaise "BadText") (gOk gNx) [some (.d (.str z)), some (.d D), some (.d (.str (strOf W))), some (.d (.str (Txt.partition z "(").2.1)), some (.d (.str (strOf R))), none, none, none, none, none] = some (.error "BadText") := by
      rw [gi_t (by simp only [fNotT_ap, fB_ap, fMt_ap, fV_ap, fC_ap, fCons_ap, fNil_ap, List.getElem?_cons_zero, List.getElem?_cons_succ, slot_d, consO_some, mtO_some, q4, unB_some, Option.map_some, Bool.not_false])]; rfl
    rw [sx_er s5]
    rfl
end My

namespace My
open PySem L2 Dn TL
/-! ### is_mark, _read_mark -/
theorem in_LET (c : Nat) : inP (.str (one c)) (.str LET) = some (.bool (decide (97 ≤ c ∧ c ≤ 122))) := by
  show some (PyData.bool (!(Builtin.Str.occurrences LET ⟨#[c]⟩ 0 LET.length 1).isEmpty)) = _
  rw [StrLaws.found_one LET c]
  have e : LET.cps.toList = (List.range 26).map (97 + ·) := tl_LET
  rw [e]
  congr 2
  refine decide_eq_decide.mpr ⟨fun h => ?_, fun h => ?_⟩
  · obtain ⟨i, hi, rfl⟩ := List.mem_map.mp h
    have := List.mem_range.mp hi
    omega
  · exact List.mem_map.mpr ⟨c - 97, List.mem_range.mpr (by omega), by omega⟩
theorem gAny_low (ρ : Rho) : ∀ w : List Nat, gAny false (b1 0) tYesD (f2 inP (fV 0) (fC (.str LET))) (none :: ρ) (w.map fun c => .str (one c)) = some (isLow w)
  | [] => rfl
  | c :: w => by
    have i := in_LET c
    have ih := gAny_low ρ w
    rw [List.map_cons, gAny]
    simp only [b1_ap, Option.bind_some, tYesD_ap, if_true, List.set_cons_zero, fB_ap, f2_ap, fV_ap, fC_ap, List.getElem?_cons_zero, slot_d, ap2_some, i, unB_some]
    unfold isLow at ih ⊢
    rw [List.all_cons]
    by_cases h : 97 ≤ c ∧ c ≤ 122
    · rw [decide_eq_true h, if_neg (by decide), ih]; rfl
    · rw [decide_eq_false h, if_pos rfl]; rfl
def isMarkF : List PyData → Option PyData := fnD 1 gis_mark
theorem isMark_eq (m : Str) (hm : m.length ≤ 90000) : isMarkF [.str m] = some (.bool (decide ((tl m).length ≤ 6) && isLow (tl m))) := by
  have t : tyEqD "str" (.str m) = some (.bool true) := rfl
  have ln : lenD (.str m) = some (.int (m.length : Nat)) := if_pos (by show m.length ≤ 100000; omega)
  have le : (rb fun i j => decide (i ≤ j)) (.int (m.length : Nat)) (.int 6) = some (.bool (decide ((tl m).length ≤ 6))) := by
    show some (PyData.bool (decide (((m.length : Nat) : Int) ≤ 6))) = _
    rw [len_tl]
    congr 2
    exact decide_eq_decide.mpr ⟨fun h => by omega, fun h => by omega⟩
  have sg : signsD m = (tl m).map fun c => .str (one c) := rfl
  have al : fAnyG false (fSeq (fV 0)) (b1 0) tYesD (f2 inP (fV 0) (fC (.str LET))) [none] [some (.d (.str m))] = some (.bool (isLow (tl m))) := by
    unfold fAnyG
    simp only [fSeq_ap, fV_ap, List.getElem?_cons_zero, slot_d, seqO1_some, seqD_s, Option.bind_some, sg]
    have : pickR [some (.d (.str m))] [none] = [none] := rfl
    rw [this, gAny_low []]
    rfl
  unfold isMarkF
  rw [fnD_ap]
  have e : startR 1 [.str m] = [some (.d (.str m))] := rfl
  rw [e, gis_mark, gRet_ap, fAnd_ap]
  simp only [f1_ap, fV_ap, List.getElem?_cons_zero, slot_d, ap1_some, t, unB_some, andV_t, fAnd_ap, f2_ap, fCl_ap, fCons_ap, fNil_ap, consO_some, clO_some, one1_ap, ln, fC_ap, ap2_some, le]
  rw [show (PyData.str (Str.ofString "abcdefghijklmnopqrstuvwxyz")) = .str LET from rfl, al, andV_ss]
  rfl
theorem cut_1m1 (x : Str) : tl (cutS x (some 1) (some (-1))) = ((tl x).drop 1).dropLast := by
  rw [tl_cut]
  unfold cutL
  rw [List.dropLast_eq_take, List.length_drop]
  unfold HT.sIx
  generalize tl x = w
  cases w with
  | nil => simp
  | cons c w =>
    simp
    congr 1
    omega
def rmarkF : List PyData → Option (Except Str PyData) := fnX 2 (gread_mark isMarkF)
theorem rmark_eq (z : Str) (hz : GdS z) : rmarkF [.str z] = some (rdX ((markL (tl z)).map .str)) := by
  unfold rmarkF
  rw [fnX_fin]
  have e0 : startR 2 [.str z] = [some (.d (.str z)), none] := rfl
  rw [e0, gread_mark]
  have cu : slD (some 1) (some (-1)) (.str z) = some (.str (strOf ((tl z).drop 1).dropLast)) := by
    rw [slD_s (by have := hz.1; omega)]
    congr 2
    exact tl_inj (by rw [cut_1m1, tl_strOf])
  have lm : ((tl z).drop 1).dropLast.length ≤ 90000 := by
    have := hz.1
    rw [len_tl] at this
    rw [List.length_dropLast, List.length_drop]; omega
  unfold markL
  simp only
  generalize ((tl z).drop 1).dropLast = m at *
  have lS : (strOf m).length = m.length := by rw [len_tl, tl_strOf]
  have s1 : gOk (gSet 1 (fSl (fV 0) (fO (fC (.int 1))) (fO (f1 negD (fC (.int 1)))))) [some (.d (.str z)), none] = some (.ok (.nx [some (.d (.str z)), some (.d (.str (strOf m)))])) := gok (by
    have ng : negD (.int 1) = some (.int (-1)) := rfl
    simp only [gSet_ap, fSl_ap, fV_ap, fO_ap, f1_ap, fC_ap, List.getElem?_cons_zero, slot_d, ap1_some, ng, intO_some, slO_some, cu, setO_some, List.set_cons_succ, List.set_cons_zero])
  rw [sx_nx s1]
  have l1 : ("'" : Str).length = 1 := rfl
  have a1 : addD (.str "'") (.str (strOf m)) = some (.str ("'" ++ strOf m)) := addD_s (by rw [l1, lS]; omega)
  have a2 : addD (.str ("'" ++ strOf m)) (.str "'") = some (.str ("'" ++ strOf m ++ "'")) := addD_s (by rw [len_app, l1, lS]; omega)
  have n1 : neP (.str z) (.str ("'" ++ strOf m ++ "'")) = some (.bool (!decide (tl z = 39 :: (m ++ [39])))) := by
    rw [neP_s, sEq_tl, tl_append, tl_append, tl_strOf, t39]; rfl
  have q1 : eqP (.str (strOf m)) (.str "") = some (.bool (decide (m = []))) := by
    rw [eq_tl, tl_strOf]; rfl
  have im := isMark_eq (strOf m) (by rw [lS]; exact lm)
  rw [tl_strOf] at im
  have t : (fOrT (fB (f2 neP (fV 0) (f2 addD (f2 addD (fC (.str "'")) (fV 1)) (fC (.str "'"))))) (fOrT (fB (f2 eqP (fV 1) (fC (.str "")))) (fNotT (fB (fCa 1 isMarkF (fCons (fV 1) fNil)))))) [some (.d (.str z)), some (.d (.str (strOf m)))] = some (!decide (tl z = 39 :: (m ++ [39]) ∧ m ≠ [] ∧ m.length ≤ 6 ∧ isLow m = true)) := by
    simp only [fOrT_ap, fB_ap, f2_ap, fV_ap, fC_ap, List.getElem?_cons_zero, List.getElem?_cons_succ, slot_d, ap2_some, a1, a2, n1, unB_some, q1, fNotT_ap, fCa_ap, fCons_ap, fNil_ap, consO_some, caO_1, im, Option.map_some]
    by_cases h1 : tl z = 39 :: (m ++ [39])
    · by_cases h2 : m = []
      · simp [h1, h2, orT]
      · by_cases h3 : m.length ≤ 6 <;> cases h4 : isLow m <;> simp [h1, h2, h3, h4, orT]
    · simp [h1, orT]
  by_cases hc : tl z = 39 :: (m ++ [39]) ∧ m ≠ [] ∧ m.length ≤ 6 ∧ isLow m = true
  · rw [decide_eq_true hc] at t
    rw [if_pos hc]
    have s2 : ∀ g, gIfX (fOrT (fB (f2 neP (fV 0) (f2 addD (f2 addD (fC (.str "'")) (fV 1)) (fC (.str "'"))))) (fOrT (fB (f2 eqP (fV 1) (fC (.str "")))) (fNotT (fB (fCa 1 isMarkF (fCons (fV 1) fNil)))))) g (gOk gNx) [some (.d (.str z)), some (.d (.str (strOf m)))] = some (.ok (.nx [some (.d (.str z)), some (.d (.str (strOf m)))])) := fun g => by rw [gi_f t]; rfl
    rw [sx_nx (s2 _)]
    rfl
  · rw [decide_eq_false hc] at t
    rw [if_neg hc]
    have s2 : ∀ k, gIfX (fOrT (fB (f2 neP (fV 0) (f2 addD (f2 addD (fC (.str "'")) (fV 1)) (fC (.str "'"))))) (fOrT (fB (f2 eqP (fV 1) (fC (.str "")))) (fNotT (fB (fCa 1 isMarkF (fCons (fV 1) fNil)))))) (gRaise "BadText") k [some (.d (.str z)), some (.d (.str (strOf m)))] = some (.error "BadText") := fun k => by rw [gi_t t]; rfl
    rw [sx_er (s2 _)]
    rfl
end My

namespace My
open PySem L2 Dn TL
theorem eqv_strs (r : List Str) : PyData.eqvAll (r.map .str) (r.map .str) = true := by
  induction r with
  | nil => exact eqvAll_0
  | cons x r ih => simp [eqvAll_c, eqv_str, ih]
theorem shaped_strs {r : List Str} (h : ∀ x ∈ r, PyData.strOk x = true) : SeqAt.shaped (dS r) = true := by
  have h1 : PyData.canLayAll0 (r.map .str) = true ∧ PyData.depthAll (r.map .str) = 0 := by
    induction r with
    | nil => simp [PyData.canLayAll0, PyData.depthAll]
    | cons x r ih =>
      obtain ⟨i1, i2⟩ := ih fun s hs => h s (by simp [hs])
      simp only [List.map_cons, PyData.canLayAll0, PyData.depthAll, PyData.canLay0, PyData.depth, h x (by simp), i1, i2]
      exact ⟨rfl, rfl⟩
  simp [SeqAt.shaped, dS, PyData.canLay0, PyData.depth, h1.1, h1.2]
theorem eq_strs {r : List Str} (h : ∀ x ∈ r, PyData.strOk x = true) : eqP (dS r) (dS r) = some (.bool true) := by
  have e : eqD (dS r) (dS r) = if (SeqAt.shaped (dS r) && SeqAt.shaped (dS r)) = true then some (PyData.eqv (dS r) (dS r)) else none := rfl
  have v : PyData.eqv (dS r) (dS r) = true := by
    unfold dS
    simp only [PyData.eqv]
    exact eqv_strs r
  unfold eqP
  rw [e, shaped_strs h, v]
  rfl
theorem strOk_of {z : Str} (h : ∀ c ∈ tl z, c < 1114112) : PyData.strOk z = true := by
  unfold PyData.strOk
  rw [Array.all_eq_true_iff_forall_mem]
  intro c hc
  exact decide_eq_true (h c (by simpa [tl] using hc))
end My

namespace My
open PySem L2 Dn TL
/-! ### _read_figure -/
theorem gd_ok {z : Str} (h : GdS z) : PyData.strOk z = true := strOk_of h.2
theorem any_strs (x : Str) (xs : List Str) : (xs.map PyData.str).any (fun z => PyData.eqv z (.str x)) = decide (x ∈ xs) := by
  induction xs with
  | nil => simp
  | cons y r ih =>
    rw [List.map_cons, List.any_cons, ih, eqv_str]
    unfold sEq
    by_cases h : y = x
    · simp [h]
    · simp [h, Ne.symm h]
theorem shaped_str {x : Str} (hx : PyData.strOk x = true) : SeqAt.shaped (.str x) = true := by simp [SeqAt.shaped, PyData.canLay0, PyData.depth, hx]
theorem ni_strs {x : Str} {xs : List Str} (h : ∀ z ∈ xs, PyData.strOk z = true) (hx : PyData.strOk x = true) : niP (.str x) (.list (xs.map .str)) = some (.bool (decide (x ∉ xs))) := by
  have sx := shaped_str hx
  have sl := shaped_strs h
  unfold dS at sl
  have e : inD (.str x) (.list (xs.map .str)) = if (SeqAt.shaped (.str x) && SeqAt.shaped (.list (xs.map .str))) = true then some ((xs.map PyData.str).any fun z => PyData.eqv z (.str x)) else none := rfl
  unfold niP
  rw [e, sx, sl, any_strs]
  simp
def FIGS : List Str := ["0", "1", "2", "3", "4"]
theorem figs_ok : ∀ z ∈ FIGS, PyData.strOk z = true := by decide +kernel
theorem figs_tl : FIGS.map tl = [[48], [49], [50], [51], [52]] := by decide +kernel
theorem figs_mem (z : Str) : z ∈ FIGS ↔ ∃ k : Int, figL (tl z) = some k := by
  have e : z ∈ FIGS ↔ tl z ∈ FIGS.map tl := ⟨fun h => List.mem_map_of_mem h, fun h => by
    obtain ⟨y, hy, e⟩ := List.mem_map.mp h
    rw [← tl_inj e]; exact hy⟩
  rw [e, figs_tl]
  generalize tl z = w
  constructor
  · intro h
    simp only [List.mem_cons, List.not_mem_nil, or_false] at h
    rcases h with rfl | rfl | rfl | rfl | rfl
    · exact ⟨0, rfl⟩
    · exact ⟨1, rfl⟩
    · exact ⟨2, rfl⟩
    · exact ⟨3, rfl⟩
    · exact ⟨4, rfl⟩
  · rintro ⟨k, h⟩
    unfold figL at h
    split at h
    · rename_i c
      split at h
      · rename_i hc
        have : c = 48 ∨ c = 49 ∨ c = 50 ∨ c = 51 ∨ c = 52 := by omega
        rcases this with rfl | rfl | rfl | rfl | rfl <;> simp
      · cases h
    · cases h
theorem figs_ix (z : Str) (hz : PyData.strOk z = true) (k : Int) (h : figL (tl z) = some k) : indexD (.list (FIGS.map .str)) [.str z] = some (.int k) := by
  have sl := shaped_strs figs_ok
  unfold dS at sl
  unfold indexD
  simp only
  rw [if_pos (by rw [sl, shaped_str hz]; rfl)]
  unfold figL at h
  split at h
  · rename_i c e
    split at h
    · rename_i hc
      have e2 : z = strOf [c] := word_of e
      cases h
      have : c = 48 ∨ c = 49 ∨ c = 50 ∨ c = 51 ∨ c = 52 := by omega
      rcases this with rfl | rfl | rfl | rfl | rfl <;> (rw [e2]; rfl)
    · cases h
  · cases h
def figureF : List PyData → Option (Except Str PyData) := fnX 3 gread_figure
theorem figure_eq (z : Str) (hz : GdS z) : figureF [.str z] = some (rdX ((figL (tl z)).map .int)) := by
  have ok := gd_ok hz
  unfold figureF
  rw [fnX_fin]
  have e0 : startR 3 [.str z] = [some (.d (.str z)), none, none] := rfl
  rw [e0, gread_figure]
  have s1 : gOk (gSet 1 (fLc (fR1 (f2 addD (fC (.int 4)) (fC (.int 1)))) (b1 2) tYesD (fCl (one1 strD) (fCons (fV 2) fNil)) [2])) [some (.d (.str z)), none, none] = some (.ok (.nx [some (.d (.str z)), some (.d (.list (FIGS.map .str))), none])) := gok (by
    have ad : addD (.int 4) (.int 1) = some (.int 5) := by rw [addD_i]; rfl
    have rg : range1D (.int 5) = some [.int 0, .int 1, .int 2, .int 3, .int 4] := by
      have := range1D_n (m := 5) (by decide)
      simpa [Dn.intsFrom, List.range, List.range.loop] using this
    have d0 : strD (.int 0) = some (.str "0") := rfl
    have d1 : strD (.int 1) = some (.str "1") := rfl
    have d2 : strD (.int 2) = some (.str "2") := rfl
    have d3 : strD (.int 3) = some (.str "3") := rfl
    have d4 : strD (.int 4) = some (.str "4") := rfl
    simp only [gSet_ap, fLc_ap, fR1_ap, f2_ap, fC_ap, ap2_some, ad, seqO1_some, rg]
    rw [lcO_some (by decide)]
    simp only [lcGo_c, lcGo_0, b1_ap, lcB_some, wipeR_c, wipeR_0, List.set_cons_succ, List.set_cons_zero, tYesD_ap, fCl_ap, fCons_ap, fV_ap, fNil_ap, List.getElem?_cons_zero, List.getElem?_cons_succ, slot_d, consO_some, clO_some, one1_ap, d0, d1, d2, d3, d4, lcC_t, Option.map_some, setO_some]
    rfl)
  rw [sx_nx s1]
  have ni := ni_strs (x := z) (xs := FIGS) figs_ok ok
  cases hh : figL (tl z) with
  | none =>
    have nm : z ∉ FIGS := fun h => by
      obtain ⟨k, e⟩ := (figs_mem z).mp h
      rw [hh] at e; cases e
    rw [decide_eq_true nm] at ni
    have s2 : ∀ k, gIfX (fB (f2 niP (fV 0) (fV 1))) (gRaise "BadText") k [some (.d (.str z)), some (.d (.list (FIGS.map .str))), none] = some (.error "BadText") := fun k => by
      rw [gi_t (by simp only [fB_ap, f2_ap, fV_ap, List.getElem?_cons_zero, List.getElem?_cons_succ, slot_d, ap2_some, ni, unB_some])]; rfl
    rw [sx_er (s2 _)]
    rfl
  | some k =>
    have nm : ¬ z ∉ FIGS := fun h => h ((figs_mem z).mpr ⟨k, hh⟩)
    rw [decide_eq_false nm] at ni
    have s2 : ∀ g, gIfX (fB (f2 niP (fV 0) (fV 1))) g (gOk gNx) [some (.d (.str z)), some (.d (.list (FIGS.map .str))), none] = some (.ok (.nx [some (.d (.str z)), some (.d (.list (FIGS.map .str))), none])) := fun g => by
      rw [gi_f (by simp only [fB_ap, f2_ap, fV_ap, List.getElem?_cons_zero, List.getElem?_cons_succ, slot_d, ap2_some, ni, unB_some])]; rfl
    rw [sx_nx (s2 _)]
    have ix := figs_ix z ok k hh
    have s3 : gOk (gRet (fMt indexD (fV 1) (fCons (fV 0) fNil))) [some (.d (.str z)), some (.d (.list (FIGS.map .str))), none] = some (.ok (.rt (.int k) [some (.d (.str z)), some (.d (.list (FIGS.map .str))), none])) := gok (by
      simp only [gRet_ap, fMt_ap, fV_ap, fCons_ap, fNil_ap, List.getElem?_cons_zero, List.getElem?_cons_succ, slot_d, consO_some, mtO_some, ix, retO_some])
    rw [s3]
    rfl
end My

namespace My
open PySem L2 Dn TL
/-! ### _read_nested, read -/
def nestF : Nat → List PyData → Option (Except Str PyData)
  | 0 => fun _ => none
  | n + 1 => fnX 10 (gread_nested rmarkF (nestF n) figureF partedF)
theorem readP_nil (d : Nat) : readP d [] = none := by
  cases d with
  | zero => rfl
  | succ d => rw [readP]; simp [cutAt]
theorem nested_zero (rm rn rf rp : List PyData → Option (Except Str PyData)) (z : Str) : fnX 10 (gread_nested rm rn rf rp) [.str z, .int 0] = some (.error "BadText") := by
  rw [fnX_fin]
  have e0 : startR 10 [.str z, .int 0] = [some (.d (.str z)), some (.d (.int 0)), none, none, none, none, none, none, none, none] := rfl
  rw [e0, gread_nested]
  have s1 : gIfX (fB (f2 eqP (fV 1) (fC (.int 0)))) (gRaise "BadText") (gOk gNx) [some (.d (.str z)), some (.d (.int 0)), none, none, none, none, none, none, none, none] = some (.error "BadText") := by
    have q : eqP (.int 0) (.int 0) = some (.bool true) := by rw [eqP_i]; rfl
    rw [gi_t (by simp only [fB_ap, f2_ap, fV_ap, fC_ap, List.getElem?_cons_zero, List.getElem?_cons_succ, slot_d, ap2_some, q, unB_some])]; rfl
  rw [sx_er s1]
  rfl
theorem nest_eq : ∀ (d n : Nat), d < n → ∀ z, GdS z → nestF n [.str z, .int (d : Nat)] = some (xE (readP d (tl z)))
  | 0, n, h, z, hz => by
    cases n with
    | zero => omega
    | succ n => exact nested_zero _ _ _ _ z
  | d + 1, n, h, z, hz => by
    cases n with
    | zero => omega
    | succ n => exact nested_step rmark_eq (nest_eq d n (by omega)) figure_eq (readP_nil d) z hz
def readF : List PyData → Option (Except Str PyData) := fnX 1 (gread (nestF 7))
theorem read_eq (z : Str) (hz : GdS z) : readF [.str z] = some (xE (readP 6 (tl z))) := by
  unfold readF
  rw [fnX_fin]
  have e0 : startR 1 [.str z] = [some (.d (.str z))] := rfl
  rw [e0, gread]
  have t : tyNeD "str" (.str z) = some (.bool false) := rfl
  have s1 : gIfX (fB (f1 (tyNeD "str") (fV 0))) (gRaise "BadText") (gOk gNx) [some (.d (.str z))] = some (.ok (.nx [some (.d (.str z))])) := by
    rw [gi_f (by simp only [fB_ap, f1_ap, fV_ap, List.getElem?_cons_zero, slot_d, ap1_some, t, unB_some])]; rfl
  rw [sx_nx s1]
  have n := nest_eq 6 7 (by decide) z hz
  have f : fXc 2 (nestF 7) (fCons (fV 0) (fCons (fC (.int 6)) fNil)) [some (.d (.str z))] = some (xE (readP 6 (tl z))) := n
  unfold gRetX
  rw [f]
  cases readP 6 (tl z) with
  | none => rfl
  | some s => rfl
/-- what is no text is refused -/
theorem read_no {d : PyData} (t : tyNeD "str" d = some (.bool true)) : readF [d] = some (.error "BadText") := by
  unfold readF
  rw [fnX_fin]
  have e0 : startR 1 [d] = [some (.d d)] := rfl
  rw [e0, gread]
  have s1 : gIfX (fB (f1 (tyNeD "str") (fV 0))) (gRaise "BadText") (gOk gNx) [some (.d d)] = some (.error "BadText") := by
    rw [gi_t (by simp only [fB_ap, f1_ap, fV_ap, List.getElem?_cons_zero, slot_d, ap1_some, t, unB_some])]; rfl
  rw [sx_er s1]
  rfl
/-! ### what the law's refused tells -/
def refusedF : List PyData → Option PyData := fnD 3 (gL_refused readF)
theorem refused_eq (z : Str) (hz : GdS z) : refusedF [.str z] = some (.bool (readP 6 (tl z)).isNone) := by
  have r := read_eq z hz
  unfold refusedF
  rw [fnD_ap]
  have e : startR 3 [.str z] = [some (.d (.str z)), none, none] := rfl
  rw [e, gL_refused]
  have f : fXc 1 readF (fCons (fV 0) fNil) [some (.d (.str z)), none, none] = some (xE (readP 6 (tl z))) := r
  have g : gTry 1 "BadText" (fXc 1 readF (fCons (fV 0) fNil)) [some (.d (.str z)), none, none] = (some (xE (readP 6 (tl z)))).bind fun r => match r with
    | .ok d => some (.nx [some (.d (.str z)), none, none])
    | .error n => if n = "BadText" then some (.rt (.bool true) [some (.d (.str z)), none, none]) else none := by
    unfold gTry
    rw [if_pos (by simp), f]
    try rfl
  rw [gSeq_ap, g]
  cases readP 6 (tl z) with
  | none => rfl
  | some s => rfl
theorem refused_no {d : PyData} (t : tyNeD "str" d = some (.bool true)) : refusedF [d] = some (.bool true) := by
  have r := read_no t
  unfold refusedF
  rw [fnD_ap]
  have e : startR 3 [d] = [some (.d d), none, none] := rfl
  rw [e, gL_refused]
  have f : fXc 1 readF (fCons (fV 0) fNil) [some (.d d), none, none] = some (.error "BadText") := r
  have g : gTry 1 "BadText" (fXc 1 readF (fCons (fV 0) fNil)) [some (.d d), none, none] = some (.rt (.bool true) [some (.d d), none, none]) := by
    unfold gTry
    rw [if_pos (by simp), f]
    rfl
  rw [gSeq_ap, g]
  rfl
end My

namespace My
open PySem L2 Dn TL
theorem tx_len : ∀ s : Sm, s.Fine → (txL s).length + 11 ≤ 16 * 2 ^ s.depth
  | .mark m, h => by
    have := (show Ltr m from h).hi
    rw [len_tl] at this
    show (39 :: (tl m ++ [39])).length + 11 ≤ 16 * 2 ^ 1
    rw [List.length_cons, List.length_append, List.length_cons, List.length_nil]; omega
  | .yes, h => by simp [txL]
  | .not s, h => by have := tx_len s h; simp [txL, Nat.pow_succ]; omega
  | .nxt s, h => by have := tx_len s h; simp [txL, Nat.pow_succ]; omega
  | .bef s, h => by have := tx_len s h; simp [txL, Nat.pow_succ]; omega
  | .wth k s, h => by have := tx_len s h.2.2; simp [txL, Nat.pow_succ]; omega
  | .and s t, h | .or s t, h | .unt s t, h | .sin s t, h => by
    have a := tx_len s h.1
    have b := tx_len t h.2
    have c : 2 ^ s.depth ≤ 2 ^ max s.depth t.depth := Nat.pow_le_pow_right (by decide) (Nat.le_max_left _ _)
    have d : 2 ^ t.depth ≤ 2 ^ max s.depth t.depth := Nat.pow_le_pow_right (by decide) (Nat.le_max_right _ _)
    simp [txL, Nat.pow_succ]; omega
def txS (s : Sm) : Str := strOf (txL s)
theorem tl_txS (s : Sm) : tl (txS s) = txL s := tl_strOf _
theorem txS_len {s : Sm} (h : s.Fine) (hd : s.depth ≤ 8) : (txS s).length ≤ 5000 := by
  have a := tx_len s h
  have b : 2 ^ s.depth ≤ 2 ^ 8 := Nat.pow_le_pow_right (by decide) hd
  have c : (2 : Nat) ^ 8 = 256 := rfl
  rw [len_tl, tl_txS]; omega
theorem join1 (a : Str) : Txt.join (", " : Str) [a] = a := by rw [join_eq]; exact tl_inj (by rw [tl_join]; rfl)
theorem join2 (a b : Str) : tl (Txt.join (", " : Str) [a, b]) = tl a ++ 44 :: 32 :: tl b := by
  rw [join_eq, tl_join, t4432]
  simp [joinL]
theorem joinD1 {a : Str} (h : a.length ≤ 6000) : joinD (.str ", ") [.list [.str a]] = some (.str a) := by
  unfold joinD
  have e : strsD [PyData.str a] = some [a] := strsD_map [a]
  simp only [e, Option.bind_some]
  have l2 : (", " : Str).length = 2 := rfl
  rw [if_pos (by simp only [List.map_cons, List.map_nil, List.sum_cons, List.sum_nil, List.length_cons, List.length_nil, l2]; show _ ≤ 100000; omega), join1]
theorem joinD2 {a b : Str} (h : a.length ≤ 6000) (g : b.length ≤ 6000) : joinD (.str ", ") [.list [.str a, .str b]] = some (.str (strOf (tl a ++ 44 :: 32 :: tl b))) := by
  unfold joinD
  have e : strsD [PyData.str a, PyData.str b] = some [a, b] := strsD_map [a, b]
  simp only [e, Option.bind_some]
  have l2 : (", " : Str).length = 2 := rfl
  rw [if_pos (by simp only [List.map_cons, List.map_nil, List.sum_cons, List.sum_nil, List.length_cons, List.length_nil, l2]; show _ ≤ 100000; omega)]
  congr 2
  exact tl_inj (by rw [join2, tl_strOf])
/-- word ( inner ) -/
theorem brD {w a : Str} (hw : w.length ≤ 10) (h : a.length ≤ 20000) : ∃ b c, addD (.str w) (.str "(") = some (.str b) ∧ addD (.str b) (.str a) = some (.str c) ∧ addD (.str c) (.str ")") = some (.str (strOf (tl w ++ 40 :: (tl a ++ [41])))) := by
  have l1 : ("(" : Str).length = 1 := rfl
  have l2 : (")" : Str).length = 1 := rfl
  refine ⟨w ++ "(", w ++ "(" ++ a, addD_s (by rw [l1]; omega), addD_s (by rw [len_app, l1]; omega), ?_⟩
  rw [addD_s (by rw [len_app, len_app, l1, l2]; omega)]
  congr 2
  exact tl_inj (by rw [tl_append, tl_append, tl_append, tl_strOf, t40, t41]; simp)
end My

namespace My
open PySem L2 Dn TL
def writF : Nat → List PyData → Option PyData
  | 0 => fun _ => none
  | n + 1 => fnD 4 (gwritten partsF (writF n))
theorem k_not : tl ("not" : Str) = [110, 111, 116] := by decide +kernel
theorem k_and : tl ("and" : Str) = [97, 110, 100] := by decide +kernel
theorem k_or : tl ("or" : Str) = [111, 114] := by decide +kernel
theorem k_next : tl ("next" : Str) = [110, 101, 120, 116] := by decide +kernel
theorem k_until : tl ("until" : Str) = [117, 110, 116, 105, 108] := by decide +kernel
theorem k_before : tl ("before" : Str) = [98, 101, 102, 111, 114, 101] := by decide +kernel
theorem k_since : tl ("since" : Str) = [115, 105, 110, 99, 101] := by decide +kernel
theorem writ_one {n : Nat} {s u : Sm} {w : Str} (hp : u.parts = [s]) (hw : u.word = w) (hl : w.length ≤ 10) (h1 : sEq w "mark" = false) (h2 : sEq w "yes" = false) (h3 : sEq w "within" = false) (hs : s.Fine) (hd : s.depth ≤ 8) (ih : writF n [enc s] = some (.str (txS s))) :
    writF (n + 1) [enc u] = some (.str (strOf (tl w ++ 40 :: (txL s ++ [41])))) := by
  have l := txS_len hs hd
  have j := joinD1 (a := txS s) (by omega)
  obtain ⟨b, c, e1, e2, e3⟩ := brD (w := w) (a := txS s) hl (by omega)
  rw [tl_txS] at e3
  have iw : ixD (enc u) (.int 0) = some (.str w) := by rw [← hw]; exact ix_word u
  have p := parts_eq u
  rw [hp] at p
  have q1 : eqP (.str w) (.str "mark") = some (.bool false) := by rw [eqP_s, h1]
  have q2 : eqP (.str w) (.str "yes") = some (.bool false) := by rw [eqP_s, h2]
  have q3 : eqP (.str w) (.str "within") = some (.bool false) := by rw [eqP_s, h3]
  have lc : fLc (fSeq (fCa 1 partsF (fCons (fV 0) fNil))) (b1 3) tYesD (fCa 1 (writF n) (fCons (fV 3) fNil)) [3] [some (.d (enc u)), some (.d (.str w)), none, none] = some (.list [.str (txS s)]) := by
    simp only [fLc_ap, fSeq_ap, fCa_ap, fCons_ap, fV_ap, fNil_ap, List.getElem?_cons_zero, slot_d, consO_some, caO_1, p, List.map_cons, List.map_nil, seqO1_some, seqD_l, lcO_1, lcGo_c, lcGo_0, b1_ap, lcB_some, wipeR_c, wipeR_0, List.set_cons_succ, List.set_cons_zero, tYesD_ap, List.getElem?_cons_succ, ih, lcC_t, Option.map_some]
  show fnD 4 (gwritten partsF (writF n)) [enc u] = _
  rw [fnD_ap]
  have e : startR 4 [enc u] = [some (.d (enc u)), none, none, none] := rfl
  rw [e, gwritten]
  simp only [gSeq_ap, gSet_ap, f2_ap, fV_ap, fC_ap, List.getElem?_cons_zero, List.getElem?_cons_succ, slot_d, ap2_some, iw, setO_some, List.set_cons_succ, List.set_cons_zero, seqO_nx, gIf_ap, fB_ap, q1, unB_some, iteO_f, gNx_ap, q2, lc, q3, gRet_ap, e1, fMt_ap, fCons_ap, fNil_ap, consO_some, mtO_some, j, e2, e3, retO_some, retD_rt]
theorem writ_two {n : Nat} {s t u : Sm} {w : Str} (hp : u.parts = [s, t]) (hw : u.word = w) (hl : w.length ≤ 10) (h1 : sEq w "mark" = false) (h2 : sEq w "yes" = false) (h3 : sEq w "within" = false) (hs : s.Fine) (ht : t.Fine) (hd : s.depth ≤ 8) (hd2 : t.depth ≤ 8) (ih : writF n [enc s] = some (.str (txS s))) (ih2 : writF n [enc t] = some (.str (txS t))) :
    writF (n + 1) [enc u] = some (.str (strOf (tl w ++ 40 :: (txL s ++ 44 :: 32 :: (txL t ++ [41]))))) := by
  have l := txS_len hs hd
  have l2 := txS_len ht hd2
  have j := joinD2 (a := txS s) (b := txS t) (by omega) (by omega)
  rw [tl_txS, tl_txS] at j
  have lj : (strOf (txL s ++ 44 :: 32 :: txL t)).length ≤ 20000 := by
    rw [len_tl, tl_txS] at l l2
    rw [len_tl, tl_strOf, List.length_append, List.length_cons, List.length_cons]; omega
  obtain ⟨b, c, e1, e2, e3⟩ := brD (w := w) (a := strOf (txL s ++ 44 :: 32 :: txL t)) hl lj
  rw [tl_strOf] at e3
  have iw : ixD (enc u) (.int 0) = some (.str w) := by rw [← hw]; exact ix_word u
  have p := parts_eq u
  rw [hp] at p
  have q1 : eqP (.str w) (.str "mark") = some (.bool false) := by rw [eqP_s, h1]
  have q2 : eqP (.str w) (.str "yes") = some (.bool false) := by rw [eqP_s, h2]
  have q3 : eqP (.str w) (.str "within") = some (.bool false) := by rw [eqP_s, h3]
  have lc : fLc (fSeq (fCa 1 partsF (fCons (fV 0) fNil))) (b1 3) tYesD (fCa 1 (writF n) (fCons (fV 3) fNil)) [3] [some (.d (enc u)), some (.d (.str w)), none, none] = some (.list [.str (txS s), .str (txS t)]) := by
    simp only [fLc_ap, fSeq_ap, fCa_ap, fCons_ap, fV_ap, fNil_ap, List.getElem?_cons_zero, slot_d, consO_some, caO_1, p, List.map_cons, List.map_nil, seqO1_some, seqD_l, lcO_2, lcGo_c, lcGo_0, b1_ap, lcB_some, wipeR_c, wipeR_0, List.set_cons_succ, List.set_cons_zero, tYesD_ap, List.getElem?_cons_succ, ih, ih2, lcC_t, Option.map_some]
  show fnD 4 (gwritten partsF (writF n)) [enc u] = _
  rw [fnD_ap]
  have e : startR 4 [enc u] = [some (.d (enc u)), none, none, none] := rfl
  rw [e, gwritten]
  simp only [gSeq_ap, gSet_ap, f2_ap, fV_ap, fC_ap, List.getElem?_cons_zero, List.getElem?_cons_succ, slot_d, ap2_some, iw, setO_some, List.set_cons_succ, List.set_cons_zero, seqO_nx, gIf_ap, fB_ap, q1, unB_some, iteO_f, gNx_ap, q2, lc, q3, gRet_ap, e1, fMt_ap, fCons_ap, fNil_ap, consO_some, mtO_some, j, e2, e3, retO_some, retD_rt]
  simp
end My

namespace My
open PySem L2 Dn TL
theorem strD_k {k : Int} (h : 0 ≤ k ∧ k ≤ 4) : strD (.int k) = some (.str (strOf [48 + k.toNat])) := by
  have : k = 0 ∨ k = 1 ∨ k = 2 ∨ k = 3 ∨ k = 4 := by omega
  rcases this with rfl | rfl | rfl | rfl | rfl <;> rfl
theorem writ_mark (n : Nat) (m : Str) (h : Ltr m) : writF (n + 1) [enc (.mark m)] = some (.str (txS (.mark m))) := by
  have iw : ixD (enc (.mark m)) (.int 0) = some (.str "mark") := ix_word (.mark m)
  have im : ixD (enc (.mark m)) (.int 1) = some (.str m) := ix_mark m
  have q1 : eqP (.str "mark") (.str "mark") = some (.bool true) := by rw [eqP_s, sEq_same]
  have l1 : ("'" : Str).length = 1 := rfl
  have l6 := h.hi
  have a1 : addD (.str "'") (.str m) = some (.str ("'" ++ m)) := addD_s (by rw [l1]; omega)
  have a2 : addD (.str ("'" ++ m)) (.str "'") = some (.str (txS (.mark m))) := by
    rw [addD_s (by rw [len_app, l1]; omega)]
    congr 2
    exact tl_inj (by rw [tl_append, tl_append, tl_txS, t39]; rfl)
  show fnD 4 (gwritten partsF (writF n)) [enc (.mark m)] = _
  rw [fnD_ap]
  have e : startR 4 [enc (.mark m)] = [some (.d (enc (.mark m))), none, none, none] := rfl
  rw [e, gwritten]
  simp only [gSeq_ap, gSet_ap, f2_ap, fV_ap, fC_ap, List.getElem?_cons_zero, List.getElem?_cons_succ, slot_d, ap2_some, iw, setO_some, List.set_cons_succ, List.set_cons_zero, seqO_nx, gIf_ap, fB_ap, q1, unB_some, iteO_t, gRet_ap, im, a1, a2, retO_some, seqO_rt, retD_rt]
theorem writ_yes (n : Nat) : writF (n + 1) [enc .yes] = some (.str (txS .yes)) := by
  have iw : ixD (enc .yes) (.int 0) = some (.str "yes") := ix_word .yes
  have q1 : eqP (.str "yes") (.str "mark") = some (.bool false) := by rw [eq_tl, decide_eq_false (by decide +kernel)]
  have q2 : eqP (.str "yes") (.str "yes") = some (.bool true) := by rw [eqP_s, sEq_same]
  show fnD 4 (gwritten partsF (writF n)) [enc .yes] = _
  rw [fnD_ap]
  have e : startR 4 [enc .yes] = [some (.d (enc .yes)), none, none, none] := rfl
  rw [e, gwritten]
  simp only [gSeq_ap, gSet_ap, f2_ap, fV_ap, fC_ap, List.getElem?_cons_zero, List.getElem?_cons_succ, slot_d, ap2_some, iw, setO_some, List.set_cons_succ, List.set_cons_zero, seqO_nx, gIf_ap, fB_ap, q1, q2, unB_some, iteO_f, iteO_t, gNx_ap, gRet_ap, retO_some, seqO_rt, retD_rt]
  rfl
theorem writ_wth {n : Nat} {s : Sm} {k : Int} (hk : 0 ≤ k ∧ k ≤ 4) (hs : s.Fine) (hd : s.depth ≤ 8) (ih : writF n [enc s] = some (.str (txS s))) : writF (n + 1) [enc (.wth k s)] = some (.str (txS (.wth k s))) := by
  have l := txS_len hs hd
  have ld : (strOf [48 + k.toNat]).length = 1 := rfl
  have j := joinD2 (a := strOf [48 + k.toNat]) (b := txS s) (by rw [ld]; omega) (by omega)
  rw [tl_txS, tl_strOf] at j
  have lj : (strOf ([48 + k.toNat] ++ 44 :: 32 :: txL s)).length ≤ 20000 := by
    rw [len_tl, tl_txS] at l
    rw [len_tl, tl_strOf, List.length_append, List.length_cons, List.length_cons]; simp only [List.length_cons, List.length_nil]; omega
  obtain ⟨b, c, e1, e2, e3⟩ := brD (w := "within") (a := strOf ([48 + k.toNat] ++ 44 :: 32 :: txL s)) (by decide) lj
  rw [tl_strOf, t_within] at e3
  have iw : ixD (enc (.wth k s)) (.int 0) = some (.str "within") := ix_word (.wth k s)
  have ik := ix_wth k s
  have p := parts_eq (.wth k s)
  rw [show (Sm.wth k s).parts = [s] from rfl] at p
  have q1 : eqP (.str "within") (.str "mark") = some (.bool false) := by rw [eq_tl, decide_eq_false (by decide +kernel)]
  have q2 : eqP (.str "within") (.str "yes") = some (.bool false) := by rw [eq_tl, decide_eq_false (by decide +kernel)]
  have q3 : eqP (.str "within") (.str "within") = some (.bool true) := by rw [eqP_s, sEq_same]
  have sk := strD_k hk
  have ad : addD (.list [.str (strOf [48 + k.toNat])]) (.list [.str (txS s)]) = some (.list [.str (strOf [48 + k.toNat]), .str (txS s)]) := addD_l (by simp)
  have lc : fLc (fSeq (fCa 1 partsF (fCons (fV 0) fNil))) (b1 3) tYesD (fCa 1 (writF n) (fCons (fV 3) fNil)) [3] [some (.d (enc (.wth k s))), some (.d (.str "within")), none, none] = some (.list [.str (txS s)]) := by
    simp only [fLc_ap, fSeq_ap, fCa_ap, fCons_ap, fV_ap, fNil_ap, List.getElem?_cons_zero, slot_d, consO_some, caO_1, p, List.map_cons, List.map_nil, seqO1_some, seqD_l, lcO_1, lcGo_c, lcGo_0, b1_ap, lcB_some, wipeR_c, wipeR_0, List.set_cons_succ, List.set_cons_zero, tYesD_ap, List.getElem?_cons_succ, ih, lcC_t, Option.map_some]
  show fnD 4 (gwritten partsF (writF n)) [enc (.wth k s)] = _
  rw [fnD_ap]
  have e : startR 4 [enc (.wth k s)] = [some (.d (enc (.wth k s))), none, none, none] := rfl
  rw [e, gwritten]
  simp only [gSeq_ap, gSet_ap, f2_ap, fV_ap, fC_ap, List.getElem?_cons_zero, List.getElem?_cons_succ, slot_d, ap2_some, iw, setO_some, List.set_cons_succ, List.set_cons_zero, seqO_nx, gIf_ap, fB_ap, q1, unB_some, iteO_f, gNx_ap, q2, lc, q3, iteO_t, fLst_ap, fCl_ap, fCons_ap, fNil_ap, consO_some, clO_some, one1_ap, ik, sk, lstO_1, ad, gRet_ap, e1, fMt_ap, mtO_some, j, e2, e3, retO_some, retD_rt]
  simp [txS, txL]
/-- THE PROGRAM WRITES SO -/
theorem writ_eq : ∀ (s : Sm) (n : Nat), s.Fine → s.depth ≤ n → s.depth ≤ 8 → writF n [enc s] = some (.str (txS s)) := by
  intro s
  induction s with
  | mark m => intro n h hd h8; cases n with | zero => simp at hd | succ n => exact writ_mark n m h
  | yes => intro n h hd h8; cases n with | zero => simp at hd | succ n => exact writ_yes n
  | not s ih =>
    intro n h hd h8
    simp at h8
    cases n with
    | zero => simp at hd
    | succ n => have := writ_one (u := .not s) (w := "not") rfl rfl (by decide) (by decide +kernel) (by decide +kernel) (by decide +kernel) h (by omega) (ih n h (by simpa using hd) (by omega)); rw [this, k_not]; rfl
  | nxt s ih =>
    intro n h hd h8
    simp at h8
    cases n with
    | zero => simp at hd
    | succ n => have := writ_one (u := .nxt s) (w := "next") rfl rfl (by decide) (by decide +kernel) (by decide +kernel) (by decide +kernel) h (by omega) (ih n h (by simpa using hd) (by omega)); rw [this, k_next]; rfl
  | bef s ih =>
    intro n h hd h8
    simp at h8
    cases n with
    | zero => simp at hd
    | succ n => have := writ_one (u := .bef s) (w := "before") rfl rfl (by decide) (by decide +kernel) (by decide +kernel) (by decide +kernel) h (by omega) (ih n h (by simpa using hd) (by omega)); rw [this, k_before]; rfl
  | wth k s ih =>
    intro n h hd h8
    simp at h8
    cases n with
    | zero => simp at hd
    | succ n => exact writ_wth ⟨h.1, h.2.1⟩ h.2.2 (by omega) (ih n h.2.2 (by simpa using hd) (by omega))
  | and s t ihs iht =>
    intro n h hd h8
    simp at h8
    cases n with
    | zero => simp at hd
    | succ n => simp at hd; have := writ_two (u := .and s t) (w := "and") rfl rfl (by decide) (by decide +kernel) (by decide +kernel) (by decide +kernel) h.1 h.2 (by omega) (by omega) (ihs n h.1 (by omega) (by omega)) (iht n h.2 (by omega) (by omega)); rw [this, k_and]; rfl
  | or s t ihs iht =>
    intro n h hd h8
    simp at h8
    cases n with
    | zero => simp at hd
    | succ n => simp at hd; have := writ_two (u := .or s t) (w := "or") rfl rfl (by decide) (by decide +kernel) (by decide +kernel) (by decide +kernel) h.1 h.2 (by omega) (by omega) (ihs n h.1 (by omega) (by omega)) (iht n h.2 (by omega) (by omega)); rw [this, k_or]; rfl
  | unt s t ihs iht =>
    intro n h hd h8
    simp at h8
    cases n with
    | zero => simp at hd
    | succ n => simp at hd; have := writ_two (u := .unt s t) (w := "until") rfl rfl (by decide) (by decide +kernel) (by decide +kernel) (by decide +kernel) h.1 h.2 (by omega) (by omega) (ihs n h.1 (by omega) (by omega)) (iht n h.2 (by omega) (by omega)); rw [this, k_until]; rfl
  | sin s t ihs iht =>
    intro n h hd h8
    simp at h8
    cases n with
    | zero => simp at hd
    | succ n => simp at hd; have := writ_two (u := .sin s t) (w := "since") rfl rfl (by decide) (by decide +kernel) (by decide +kernel) (by decide +kernel) h.1 h.2 (by omega) (by omega) (ihs n h.1 (by omega) (by omega)) (iht n h.2 (by omega) (by omega)); rw [this, k_since]; rfl
end My

namespace My
open PySem L2 Dn TL
def partTF (F : List PyData → Option PyData) : List PyData → Option PyData := fnD 1 (gL_part_text F)
def ltextF : Nat → List PyData → Option PyData
  | 0 => fun _ => none
  | n + 1 => fnD 2 (gL_text (partTF (ltextF n)))
theorem partT_enc (F : List PyData → Option PyData) (s : Sm) : partTF F [enc s] = F [enc s] := by
  have i : isiD "tuple" (enc s) = some (.bool true) := by cases s <;> (unfold isiD; rfl)
  unfold partTF
  rw [fnD_ap]
  have e : startR 1 [enc s] = [some (.d (enc s))] := rfl
  rw [e, gL_part_text]
  simp only [gSeq_ap, gIf_ap, fB_ap, f1_ap, fV_ap, List.getElem?_cons_zero, slot_d, ap1_some, i, unB_some, iteO_t, gRet_ap, fCa_ap, fCons_ap, fNil_ap, consO_some, caO_1]
  cases F [enc s] <;> rfl
theorem partT_int (F : List PyData → Option PyData) {k : Int} (h : 0 ≤ k ∧ k ≤ 4) : partTF F [.int k] = some (.str (strOf [48 + k.toNat])) := by
  have i : isiD "tuple" (.int k) = some (.bool false) := isi_int k
  have sk := strD_k h
  unfold partTF
  rw [fnD_ap]
  have e : startR 1 [PyData.int k] = [some (.d (.int k))] := rfl
  rw [e, gL_part_text]
  simp only [gSeq_ap, gIf_ap, fB_ap, f1_ap, fV_ap, List.getElem?_cons_zero, slot_d, ap1_some, i, unB_some, iteO_f, gNx_ap, seqO_nx, gRet_ap, fCl_ap, fCons_ap, fNil_ap, consO_some, clO_some, one1_ap, sk, retO_some, retD_rt]
/-- word ( the parts' texts ) -/
theorem ltext_gen {n : Nat} {u : Sm} {w : Str} {ps : List PyData} {qs : List Str} {J : Str} (hw : u.word = w) (ht : u.tail = ps) (hl : w.length ≤ 10) (h1 : sEq w "mark" = false) (h2 : sEq w "yes" = false)
    (hp : ∀ ρ : Rho, lcGo (b1 1) tYesD (fCa 1 (partTF (ltextF n)) (fCons (fV 1) fNil)) [some (.d (enc u)), none] ps = some (qs.map .str)) (hq : ps.length ≤ 2) (hj : joinD (.str ", ") [.list (qs.map .str)] = some (.str J)) (lj : J.length ≤ 20000) :
    ltextF (n + 1) [enc u] = some (.str (strOf (tl w ++ 40 :: (tl J ++ [41])))) := by
  obtain ⟨b, c, e1, e2, e3⟩ := brD (w := w) (a := J) hl lj
  have iw : ixD (enc u) (.int 0) = some (.str w) := by rw [← hw]; exact ix_word u
  have q1 : eqP (.str w) (.str "mark") = some (.bool false) := by rw [eqP_s, h1]
  have q2 : eqP (.str w) (.str "yes") = some (.bool false) := by rw [eqP_s, h2]
  have sl : slD (some 1) none (enc u) = some (.tuple ps) := by rw [enc_eq, ht]; exact sl_one _ _
  have lc : fLc (fSeq (fSl (fV 0) (fO (fC (.int 1))) fO0)) (b1 1) tYesD (fCa 1 (partTF (ltextF n)) (fCons (fV 1) fNil)) [1] [some (.d (enc u)), none] = some (.list (qs.map .str)) := by
    simp only [fLc_ap, fSeq_ap, fSl_ap, fV_ap, fO_ap, fC_ap, fO0_ap, List.getElem?_cons_zero, slot_d, intO_some, slO_some, sl, seqO1_some, seqD_t]
    rw [lcO_some (by omega), wipeR_c, wipeR_0]
    simp only [List.set_cons_succ, List.set_cons_zero]
    rw [hp []]
    rfl
  show fnD 2 (gL_text (partTF (ltextF n))) [enc u] = _
  rw [fnD_ap]
  have e : startR 2 [enc u] = [some (.d (enc u)), none] := rfl
  rw [e, gL_text]
  simp only [gSeq_ap, f2_ap, fV_ap, fC_ap, List.getElem?_cons_zero, slot_d, ap2_some, iw, gIf_ap, fB_ap, q1, unB_some, iteO_f, gNx_ap, seqO_nx, q2, lc, gRet_ap, e1, fMt_ap, fCons_ap, fNil_ap, consO_some, mtO_some, hj, e2, e3, retO_some, retD_rt]
end My

namespace My
open PySem L2 Dn TL
theorem lj_two {a b : Str} (h : a.length ≤ 6000) (g : b.length ≤ 6000) : (strOf (tl a ++ 44 :: 32 :: tl b)).length ≤ 20000 := by
  rw [len_tl] at h g
  rw [len_tl, tl_strOf, List.length_append, List.length_cons, List.length_cons]; omega
theorem ltext_one {n : Nat} {u s : Sm} {w : Str} (hw : u.word = w) (ht : u.tail = [enc s]) (hl : w.length ≤ 10) (h1 : sEq w "mark" = false) (h2 : sEq w "yes" = false) (hs : s.Fine) (hd : s.depth ≤ 8) (ih : ltextF n [enc s] = some (.str (txS s))) :
    ltextF (n + 1) [enc u] = some (.str (strOf (tl w ++ 40 :: (txL s ++ [41])))) := by
  have l := txS_len hs hd
  have := ltext_gen (n := n) (qs := [txS s]) (J := txS s) hw ht hl h1 h2 (fun ρ => by
    have p := partT_enc (ltextF n) s
    rw [ih] at p
    simp only [lcGo_c, lcGo_0, b1_ap, List.set_cons_succ, List.set_cons_zero, lcB_some, tYesD_ap, fCa_ap, fCons_ap, fV_ap, fNil_ap, List.getElem?_cons_succ, List.getElem?_cons_zero, slot_d, consO_some, caO_1, p, lcC_t, List.map_cons, List.map_nil]) (by simp) (joinD1 (by omega)) (by omega)
  rw [this, tl_txS]
theorem ltext_two {n : Nat} {u : Sm} {w : Str} {x y : PyData} {a b : Str} (hw : u.word = w) (ht : u.tail = [x, y]) (hl : w.length ≤ 10) (h1 : sEq w "mark" = false) (h2 : sEq w "yes" = false) (la : a.length ≤ 6000) (lb : b.length ≤ 6000) (ia : partTF (ltextF n) [x] = some (.str a)) (ib : partTF (ltextF n) [y] = some (.str b)) :
    ltextF (n + 1) [enc u] = some (.str (strOf (tl w ++ 40 :: ((tl a ++ 44 :: 32 :: tl b) ++ [41])))) := by
  have := ltext_gen (n := n) (qs := [a, b]) hw ht hl h1 h2 (fun ρ => by
    simp only [lcGo_c, lcGo_0, b1_ap, List.set_cons_succ, List.set_cons_zero, lcB_some, tYesD_ap, fCa_ap, fCons_ap, fV_ap, fNil_ap, List.getElem?_cons_succ, List.getElem?_cons_zero, slot_d, consO_some, caO_1, ia, ib, lcC_t, List.map_cons, List.map_nil]) (by simp) (joinD2 la lb) (lj_two la lb)
  rw [this, tl_strOf]
theorem ltext_mark (n : Nat) (m : Str) (h : Ltr m) : ltextF (n + 1) [enc (.mark m)] = some (.str (txS (.mark m))) := by
  have iw : ixD (enc (.mark m)) (.int 0) = some (.str "mark") := ix_word (.mark m)
  have im : ixD (enc (.mark m)) (.int 1) = some (.str m) := ix_mark m
  have q1 : eqP (.str "mark") (.str "mark") = some (.bool true) := by rw [eqP_s, sEq_same]
  have l1 : ("'" : Str).length = 1 := rfl
  have l6 := h.hi
  have a1 : addD (.str "'") (.str m) = some (.str ("'" ++ m)) := addD_s (by rw [l1]; omega)
  have a2 : addD (.str ("'" ++ m)) (.str "'") = some (.str (txS (.mark m))) := by
    rw [addD_s (by rw [len_app, l1]; omega)]
    congr 2
    exact tl_inj (by rw [tl_append, tl_append, tl_txS, t39]; rfl)
  show fnD 2 (gL_text (partTF (ltextF n))) [enc (.mark m)] = _
  rw [fnD_ap]
  have e : startR 2 [enc (.mark m)] = [some (.d (enc (.mark m))), none] := rfl
  rw [e, gL_text]
  simp only [gSeq_ap, f2_ap, fV_ap, fC_ap, List.getElem?_cons_zero, slot_d, ap2_some, iw, gIf_ap, fB_ap, q1, unB_some, iteO_t, gRet_ap, im, a1, a2, retO_some, seqO_rt, retD_rt]
theorem ltext_yes (n : Nat) : ltextF (n + 1) [enc .yes] = some (.str (txS .yes)) := by
  have iw : ixD (enc .yes) (.int 0) = some (.str "yes") := ix_word .yes
  have q1 : eqP (.str "yes") (.str "mark") = some (.bool false) := by rw [eq_tl, decide_eq_false (by decide +kernel)]
  have q2 : eqP (.str "yes") (.str "yes") = some (.bool true) := by rw [eqP_s, sEq_same]
  show fnD 2 (gL_text (partTF (ltextF n))) [enc .yes] = _
  rw [fnD_ap]
  have e : startR 2 [enc .yes] = [some (.d (enc .yes)), none] := rfl
  rw [e, gL_text]
  simp only [gSeq_ap, f2_ap, fV_ap, fC_ap, List.getElem?_cons_zero, slot_d, ap2_some, iw, gIf_ap, fB_ap, q1, q2, unB_some, iteO_f, iteO_t, gNx_ap, seqO_nx, gRet_ap, retO_some, seqO_rt, retD_rt]
  rfl
/-- THE LAW WRITES SO -/
theorem ltext_eq : ∀ (s : Sm) (n : Nat), s.Fine → s.depth ≤ n → s.depth ≤ 8 → ltextF n [enc s] = some (.str (txS s)) := by
  intro s
  have fin : ∀ {n : Nat} {u : Sm} {w : List Nat}, ltextF (n + 1) [enc u] = some (.str (strOf w)) → w = txL u → ltextF (n + 1) [enc u] = some (.str (txS u)) := fun h e => by rw [h, e]; rfl
  induction s with
  | mark m => intro n h hd h8; cases n with | zero => simp at hd | succ n => exact ltext_mark n m h
  | yes => intro n h hd h8; cases n with | zero => simp at hd | succ n => exact ltext_yes n
  | not s ih =>
    intro n h hd h8
    simp at h8
    cases n with
    | zero => simp at hd
    | succ n => exact fin (ltext_one (u := .not s) (w := "not") rfl rfl (by decide) (by decide +kernel) (by decide +kernel) h (by omega) (ih n h (by simpa using hd) (by omega))) (by rw [k_not]; rfl)
  | nxt s ih =>
    intro n h hd h8
    simp at h8
    cases n with
    | zero => simp at hd
    | succ n => exact fin (ltext_one (u := .nxt s) (w := "next") rfl rfl (by decide) (by decide +kernel) (by decide +kernel) h (by omega) (ih n h (by simpa using hd) (by omega))) (by rw [k_next]; rfl)
  | bef s ih =>
    intro n h hd h8
    simp at h8
    cases n with
    | zero => simp at hd
    | succ n => exact fin (ltext_one (u := .bef s) (w := "before") rfl rfl (by decide) (by decide +kernel) (by decide +kernel) h (by omega) (ih n h (by simpa using hd) (by omega))) (by rw [k_before]; rfl)
  | wth k s ih =>
    intro n h hd h8
    simp at h8
    cases n with
    | zero => simp at hd
    | succ n =>
      have l := txS_len h.2.2 (by omega : s.depth ≤ 8)
      have i2 := partT_enc (ltextF n) s
      rw [ih n h.2.2 (by simpa using hd) (by omega)] at i2
      exact fin (ltext_two (u := .wth k s) (w := "within") (a := strOf [48 + k.toNat]) (b := txS s) rfl rfl (by decide) (by decide +kernel) (by decide +kernel) (by rw [len_tl, tl_strOf, List.length_singleton]; decide) (by omega) (partT_int _ ⟨h.1, h.2.1⟩) i2) (by rw [t_within, tl_strOf, tl_txS]; simp [txL])
  | and s t ihs iht =>
    intro n h hd h8
    simp at h8
    cases n with
    | zero => simp at hd
    | succ n =>
      simp at hd
      have i1 := partT_enc (ltextF n) s
      rw [ihs n h.1 (by omega) (by omega)] at i1
      have i2 := partT_enc (ltextF n) t
      rw [iht n h.2 (by omega) (by omega)] at i2
      have l := txS_len h.1 (by omega : s.depth ≤ 8)
      have l2 := txS_len h.2 (by omega : t.depth ≤ 8)
      exact fin (ltext_two (u := .and s t) (w := "and") rfl rfl (by decide) (by decide +kernel) (by decide +kernel) (by omega) (by omega) i1 i2) (by rw [k_and, tl_txS, tl_txS]; simp [txL])
  | or s t ihs iht =>
    intro n h hd h8
    simp at h8
    cases n with
    | zero => simp at hd
    | succ n =>
      simp at hd
      have i1 := partT_enc (ltextF n) s
      rw [ihs n h.1 (by omega) (by omega)] at i1
      have i2 := partT_enc (ltextF n) t
      rw [iht n h.2 (by omega) (by omega)] at i2
      have l := txS_len h.1 (by omega : s.depth ≤ 8)
      have l2 := txS_len h.2 (by omega : t.depth ≤ 8)
      exact fin (ltext_two (u := .or s t) (w := "or") rfl rfl (by decide) (by decide +kernel) (by decide +kernel) (by omega) (by omega) i1 i2) (by rw [k_or, tl_txS, tl_txS]; simp [txL])
  | unt s t ihs iht =>
    intro n h hd h8
    simp at h8
    cases n with
    | zero => simp at hd
    | succ n =>
      simp at hd
      have i1 := partT_enc (ltextF n) s
      rw [ihs n h.1 (by omega) (by omega)] at i1
      have i2 := partT_enc (ltextF n) t
      rw [iht n h.2 (by omega) (by omega)] at i2
      have l := txS_len h.1 (by omega : s.depth ≤ 8)
      have l2 := txS_len h.2 (by omega : t.depth ≤ 8)
      exact fin (ltext_two (u := .unt s t) (w := "until") rfl rfl (by decide) (by decide +kernel) (by decide +kernel) (by omega) (by omega) i1 i2) (by rw [k_until, tl_txS, tl_txS]; simp [txL])
  | sin s t ihs iht =>
    intro n h hd h8
    simp at h8
    cases n with
    | zero => simp at hd
    | succ n =>
      simp at hd
      have i1 := partT_enc (ltextF n) s
      rw [ihs n h.1 (by omega) (by omega)] at i1
      have i2 := partT_enc (ltextF n) t
      rw [iht n h.2 (by omega) (by omega)] at i2
      have l := txS_len h.1 (by omega : s.depth ≤ 8)
      have l2 := txS_len h.2 (by omega : t.depth ≤ 8)
      exact fin (ltext_two (u := .sin s t) (w := "since") rfl rfl (by decide) (by decide +kernel) (by decide +kernel) (by omega) (by omega) i1 i2) (by rw [k_since, tl_txS, tl_txS]; simp [txL])
end My

namespace My
open PySem L2 Dn TL
/-! ### the law's parser, with places -/
theorem sl_n (z : Str) (hz : z.length ≤ 90000) (j k : Nat) : slD (some (j : Int)) (some (k : Int)) (.str z) = some (.str (strOf (((tl z).drop j).take (k - j)))) := by
  rw [slD_s (by omega)]
  congr 2
  exact tl_inj (by rw [cut_two, tl_strOf])
theorem eq_w (w : List Nat) (y : Str) : eqP (.str (strOf w)) (.str y) = some (.bool (decide (w = tl y))) := by rw [eqP_s, sEq_tl, tl_strOf]
theorem ne_w (w : List Nat) (y : Str) : neP (.str (strOf w)) (.str y) = some (.bool (!decide (w = tl y))) := by rw [neP_s, sEq_tl, tl_strOf]
theorem ix_n (z : Str) (hz : z.length ≤ 90000) {j c : Nat} {r : List Nat} (h : (tl z).drop j = c :: r) : ixD (.str z) (.int (j : Int)) = some (.str (one c)) := by
  have e : atI z.cps.toList (j : Int) = some c := by
    apply atI_nat
    have := congrArg List.head? h
    rw [List.head?_drop] at this
    simpa [tl] using this
  unfold ixD
  simp only
  rw [if_pos (by show _ ≤ 100000; omega), e]
  rfl
theorem lenz (z : Str) (hz : z.length ≤ 90000) : lenD (.str z) = some (.int ((tl z).length : Nat)) := by
  unfold lenD
  simp only
  rw [if_pos (by show _ ≤ 100000; omega), len_tl]
/-- the answer of a parser at place p -/
def resT (p : Nat) : Option (Sm × List Nat) → Int → PyData
  | some (s, _), _ => .tuple [enc s, .int ((p + (txL s).length : Nat) : Int)]
  | none, x => .tuple [.none, .int x]
abbrev mkC : Rho → Option Bool := (fAndT (fB (f2 (rb fun i j => decide (i < j)) (fV 2) (fCl (one1 lenD) (fCons (fV 0) fNil)))) (fB (f2 inP (f2 ixD (fV 0) (fV 2)) (fC (.str "abcdefghijklmnopqrstuvwxyz")))))
abbrev mkB : Rho → Option Out := gSet 2 (f2 addD (fV 2) (fC (.int 1)))
def lowB (c : Nat) : Bool := decide (97 ≤ c ∧ c ≤ 122)
theorem mk_stop (z : Str) (hz : z.length ≤ 90000) (p : PyData) (e n : Nat) (h : ∀ c r, (tl z).drop e = c :: r → lowB c = false) : whileGo mkC mkB (n + 1) [some (.d (.str z)), some (.d p), some (.d (.int (e : Int)))] = some (.nx [some (.d (.str z)), some (.d p), some (.d (.int (e : Int)))]) := by
  refine while_f ?_
  have l := lenz z hz
  cases hd : (tl z).drop e with
  | nil =>
    have : (tl z).length ≤ e := List.drop_eq_nil_iff.mp hd
    have lt : (rb fun i j => decide (i < j)) (.int (e : Int)) (.int ((tl z).length : Nat)) = some (.bool false) := by
      show some (PyData.bool (decide ((e : Int) < ((tl z).length : Nat)))) = _
      rw [decide_eq_false (by omega)]
    simp only [mkC, fAndT_ap, fB_ap, f2_ap, fV_ap, fCl_ap, fCons_ap, fNil_ap, List.getElem?_cons_zero, List.getElem?_cons_succ, slot_d, consO_some, clO_some, one1_ap, l, ap2_some, lt, unB_some, andT_f]
  | cons c r =>
    have hc := h c r hd
    have hlt : e < (tl z).length := by
      have := congrArg List.length hd
      rw [List.length_drop, List.length_cons] at this; omega
    have lt : (rb fun i j => decide (i < j)) (.int (e : Int)) (.int ((tl z).length : Nat)) = some (.bool true) := by
      show some (PyData.bool (decide ((e : Int) < ((tl z).length : Nat)))) = _
      rw [decide_eq_true (by omega)]
    have ix := ix_n z hz hd
    have il : inP (.str (one c)) (.str "abcdefghijklmnopqrstuvwxyz") = some (.bool false) := by
      have := in_LET c
      rw [show decide (97 ≤ c ∧ c ≤ 122) = false from hc] at this
      exact this
    simp only [mkC, fAndT_ap, fB_ap, f2_ap, fV_ap, fC_ap, fCl_ap, fCons_ap, fNil_ap, List.getElem?_cons_zero, List.getElem?_cons_succ, slot_d, consO_some, clO_some, one1_ap, l, ap2_some, lt, unB_some, andT_t, ix, il]
theorem mk_on (z : Str) (hz : z.length ≤ 90000) (p : PyData) (e n c : Nat) (r : List Nat) (hd : (tl z).drop e = c :: r) (hc : lowB c = true) : whileGo mkC mkB (n + 1) [some (.d (.str z)), some (.d p), some (.d (.int (e : Int)))] = whileGo mkC mkB n [some (.d (.str z)), some (.d p), some (.d (.int ((e + 1 : Nat) : Int)))] := by
  have l := lenz z hz
  have hlt : e < (tl z).length := by
    have := congrArg List.length hd
    rw [List.length_drop, List.length_cons] at this; omega
  have lt : (rb fun i j => decide (i < j)) (.int (e : Int)) (.int ((tl z).length : Nat)) = some (.bool true) := by
    show some (PyData.bool (decide ((e : Int) < ((tl z).length : Nat)))) = _
    rw [decide_eq_true (by omega)]
  have ix := ix_n z hz hd
  have il : inP (.str (one c)) (.str "abcdefghijklmnopqrstuvwxyz") = some (.bool true) := by
    have := in_LET c
    rw [show decide (97 ≤ c ∧ c ≤ 122) = true from hc] at this
    exact this
  rw [while_t (by simp only [mkC, fAndT_ap, fB_ap, f2_ap, fV_ap, fC_ap, fCl_ap, fCons_ap, fNil_ap, List.getElem?_cons_zero, List.getElem?_cons_succ, slot_d, consO_some, clO_some, one1_ap, l, ap2_some, lt, unB_some, andT_t, ix, il])]
  have ad : addD (.int (e : Int)) (.int 1) = some (.int ((e + 1 : Nat) : Int)) := rfl
  simp only [mkB, gSet_ap, f2_ap, fV_ap, fC_ap, List.getElem?_cons_zero, List.getElem?_cons_succ, slot_d, ap2_some, ad, setO_some, List.set_cons_succ, List.set_cons_zero, whO_nx]
theorem mk_loop (z : Str) (hz : z.length ≤ 90000) (p : PyData) : ∀ (w : List Nat) (e n : Nat), (tl z).drop e = w → w.length < n →
    whileGo mkC mkB n [some (.d (.str z)), some (.d p), some (.d (.int (e : Int)))] = some (.nx [some (.d (.str z)), some (.d p), some (.d (.int ((e + (w.takeWhile lowB).length : Nat) : Int)))])
  | [], e, n, h, hn => by
    obtain ⟨n, rfl⟩ : ∃ k, n = k + 1 := ⟨n - 1, by simp at hn; omega⟩
    exact mk_stop z hz p e n fun c r q => by rw [h] at q; cases q
  | c :: w, e, n, h, hn => by
    obtain ⟨n, rfl⟩ : ∃ k, n = k + 1 := ⟨n - 1, by simp at hn; omega⟩
    cases hc : lowB c with
    | false =>
      rw [mk_stop z hz p e n fun c' r q => by rw [h] at q; cases q; exact hc, List.takeWhile_cons, hc]
      simp
    | true =>
      have h' : (tl z).drop (e + 1) = w := by rw [← List.drop_drop, h]; rfl
      rw [mk_on z hz p e n c w h hc, mk_loop z hz p w (e + 1) n h' (by simp at hn; omega), List.takeWhile_cons, hc, if_pos rfl, List.length_cons]
      rw [show e + 1 + (w.takeWhile lowB).length = e + ((w.takeWhile lowB).length + 1) by omega]
def lmarkF : List PyData → Option PyData := fnD 3 gL_mark_at
theorem lmark_eq (z : Str) (hz : z.length ≤ 90000) (p : Nat) : lmarkF [.str z, .int (p : Int)] = some (resT p (if ((tl z).drop p).head? = some 39 then markQ ((tl z).drop p) else markQ (39 :: (tl z).drop (p + 1))) p) := by
  have d1 : (tl z).drop (p + 1) = ((tl z).drop p).drop 1 := by rw [List.drop_drop]
  have hQ : (if ((tl z).drop p).head? = some 39 then markQ ((tl z).drop p) else markQ (39 :: (tl z).drop (p + 1))) = markQ (39 :: (tl z).drop (p + 1)) := by
    split
    · rename_i h
      rw [d1]
      cases q : (tl z).drop p with
      | nil => rw [q] at h; cases h
      | cons c r => rw [q] at h; simp at h; rw [h]; rfl
    · rfl
  rw [hQ]
  generalize hw : (tl z).drop (p + 1) = w
  have lw : w.length ≤ 90000 := by
    rw [← hw, List.length_drop]; rw [len_tl] at hz; omega
  have lp := mk_loop z hz (.int (p : Int)) w (p + 1) 100000 hw (by omega)
  unfold markQ
  simp only [List.drop_succ_cons, List.drop_zero]
  rw [show (fun c => decide (97 ≤ c ∧ c ≤ 122)) = lowB from rfl]
  have tw : w.takeWhile lowB ++ w.dropWhile lowB = w := List.takeWhile_append_dropWhile
  generalize w.takeWhile lowB = m at *
  generalize w.dropWhile lowB = r at *
  have de : (tl z).drop (p + 1 + m.length) = r := by rw [← List.drop_drop, hw, ← tw, List.drop_left]
  have a1 : addD (.int (p : Int)) (.int 1) = some (.int ((p + 1 : Nat) : Int)) := rfl
  have a2 : addD (.int ((p + 1 + m.length : Nat) : Int)) (.int 1) = some (.int ((p + 1 + m.length + 1 : Nat) : Int)) := rfl
  have s1 := sl_n z hz (p + 1 + m.length) (p + 1 + m.length + 1)
  rw [de, show p + 1 + m.length + 1 - (p + 1 + m.length) = 1 by omega] at s1
  have s2 := sl_n z hz (p + 1) (p + 1 + m.length)
  rw [hw, show p + 1 + m.length - (p + 1) = m.length by omega, ← tw, List.take_left] at s2
  have n1 := ne_w (r.take 1) "'"
  rw [t39] at n1
  have eh : (r.take 1 = [39]) ↔ r.head? = some 39 := by cases r <;> simp
  have sb : (ri fun i j => i - j) (.int ((p + 1 + m.length : Nat) : Int)) (.int (p : Int)) = some (.int ((m.length + 1 : Nat) : Int)) := by
    show some (PyData.int (((p + 1 + m.length : Nat) : Int) - (p : Int))) = _
    congr 2; omega
  have c1 : (rb fun i j => decide (i < j)) (.int 1) (.int ((m.length + 1 : Nat) : Int)) = some (.bool (decide (1 ≤ m.length))) := by
    show some (PyData.bool (decide _)) = _
    congr 2; exact decide_eq_decide.mpr (by omega)
  have c2 : (rb fun i j => decide (i < j)) (.int ((m.length + 1 : Nat) : Int)) (.int 8) = some (.bool (decide (m.length ≤ 6))) := by
    show some (PyData.bool (decide _)) = _
    congr 2; exact decide_eq_decide.mpr (by omega)
  unfold lmarkF
  rw [fnD_ap]
  have e : startR 3 [.str z, .int (p : Int)] = [some (.d (.str z)), some (.d (.int (p : Int))), none] := rfl
  rw [e, gL_mark_at]
  simp only [gSeq_ap, gSet_ap, f2_ap, fV_ap, fC_ap, List.getElem?_cons_zero, List.getElem?_cons_succ, slot_d, ap2_some, a1, setO_some, List.set_cons_succ, List.set_cons_zero, seqO_nx]
  rw [lp]
  simp only [seqO_nx, gSeq_ap, gIf_ap, fOrT_ap, fB_ap, f2_ap, fSl_ap, fV_ap, fO_ap, fC_ap, List.getElem?_cons_zero, List.getElem?_cons_succ, slot_d, intO_some, ap2_some, a2, slO_some, s1, n1, unB_some, fNotT_ap, fCh_ap, sb, chO, c1]
  by_cases h1 : r.head? = some 39
  · rw [decide_eq_true (eh.mpr h1)]
    by_cases h2 : 1 ≤ m.length
    · rw [decide_eq_true h2]
      by_cases h3 : m.length ≤ 6
      · rw [decide_eq_true h3] at c2
        rw [if_pos ⟨h1, h2, h3⟩]
        have rs : p + (txL (Sm.mark (strOf m))).length = p + 1 + m.length + 1 := by
          simp only [txL, tl_strOf, List.length_cons, List.length_append, List.length_nil]; omega
        simp only [Bool.not_true, orT_f, Option.bind_some, c2, unB_some, Option.map_some, iteO_f, gNx_ap, seqO_nx, gRet_ap, fTup_ap, fCons_ap, fNil_ap, fC_ap, fSl_ap, fO_ap, f2_ap, fV_ap, List.getElem?_cons_zero, List.getElem?_cons_succ, slot_d, ap2_some, a1, a2, intO_some, slO_some, s2, consO_some, tupO_2, retO_some, retD_rt, resT, rs]
        rfl
      · rw [decide_eq_false h3] at c2
        rw [if_neg fun q => h3 q.2.2]
        simp only [Bool.not_true, orT_f, Option.bind_some, c2, unB_some, Option.map_some, Bool.not_false, iteO_t, seqO_rt, gRet_ap, fTup_ap, fCons_ap, fNil_ap, fC_ap, fV_ap, List.getElem?_cons_zero, List.getElem?_cons_succ, slot_d, consO_some, tupO_2, retO_some, retD_rt, resT]
    · rw [decide_eq_false h2, if_neg fun q => h2 q.2.1]
      simp only [Bool.not_true, orT_f, unB_some, Option.map_some, Bool.not_false, iteO_t, seqO_rt, gRet_ap, fTup_ap, fCons_ap, fNil_ap, fC_ap, fV_ap, List.getElem?_cons_zero, List.getElem?_cons_succ, slot_d, consO_some, tupO_2, retO_some, retD_rt, resT]
  · rw [decide_eq_false fun q => h1 (eh.mp q), if_neg fun q => h1 q.1]
    simp only [Bool.not_false, orT_t, iteO_t, seqO_rt, gRet_ap, fTup_ap, fCons_ap, fNil_ap, fC_ap, fV_ap, List.getElem?_cons_zero, List.getElem?_cons_succ, slot_d, consO_some, tupO_2, retO_some, retD_rt, resT]
end My

namespace My
open PySem L2 Dn TL
abbrev ptB (F : List PyData → Option PyData) : Rho → Option Out := (gSeq (gIf (fAndT (fB (f2 eqP (fV 5) (fC (.int 1)))) (fB (f2 neP (fSl (fV 0) (fO (fV 1)) (fO (f2 addD (fV 1) (fC (.int 2))))) (fC (.str ", "))))) (gRet (fTup (fCons (fC .none) (fCons (fV 1) fNil)))) gNx) (gSeq (gAsg (b2 6 1) (fCa 3 F (fCons (fV 0) (fCons (f2 addD (fV 1) (f2 mulD (fC (.int 2)) (fV 5))) (fCons (f2 (ri fun i j => i - j) (fV 3) (fC (.int 1))) fNil))))) (gSeq (gIf (fB (f2 isNoneD (fV 6) (fC .none))) (gRet (fTup (fCons (fC .none) (fCons (fV 1) fNil)))) gNx) (gSet 4 (f2 catTD (fV 4) (fTup (fCons (fV 6) fNil)))))))
theorem b2_tup (i j : Nat) (x y : PyData) (ρ : Rho) : b2 i j (.tuple [x, y]) ρ = some ((ρ.set i (some (.d x))).set j (some (.d y))) := rfl
theorem catT_ok {a b : List PyData} (h : a.isEmpty = false) (h' : b.isEmpty = false) (l : a.length + b.length ≤ 100000) : catTD (.tuple a) (.tuple b) = some (.tuple (a ++ b)) := if_pos ⟨⟨h, h'⟩, l⟩
theorem none_enc (s : Sm) : isNoneD (enc s) .none = some (.bool false) := by cases s <;> rfl
theorem none_none : isNoneD .none .none = some (.bool true) := rfl
def ptR (z : Str) (q2 : Nat) (W D : PyData) (fs : List PyData) (k x : Int) : Option (Sm × List Nat) → Option Out
  | some (s, _) => some (.nx [some (.d (.str z)), some (.d (.int ((q2 + (txL s).length : Nat) : Int))), some (.d W), some (.d D), some (.d (.tuple (fs ++ [enc s]))), some (.d (.int k)), some (.d (enc s))])
  | none => some (.rt (.tuple [.none, .int x]) [some (.d (.str z)), some (.d (.int x)), some (.d W), some (.d D), some (.d (.tuple fs)), some (.d (.int k)), some (.d .none)])
/-- one more part: what stands at q2 = q + 2 k -/
theorem pt_at {F : List PyData → Option PyData} {z : Str} {q q2 d : Nat} {W D : PyData} {fs : List PyData} {k : Int} {x6 : Option Sv} {o : Option (Sm × List Nat)} {x : Int} (hz : z.length ≤ 90000)
    (hk : k = 0 ∨ k = 1) (hp : k = 1 → ((tl z).drop q).take 2 = [44, 32]) (hq : (q2 : Int) = q + 2 * k) (hd : (ri fun i j => i - j) D (.int 1) = some (.int (d : Int))) (hF : F [.str z, .int (q2 : Int), .int (d : Int)] = some (resT q2 o x)) (hf : fs.isEmpty = false) (hl : fs.length ≤ 10) :
    ptB F [some (.d (.str z)), some (.d (.int (q : Int))), some (.d W), some (.d D), some (.d (.tuple fs)), some (.d (.int k)), x6] = ptR z q2 W D fs k x o := by
  have a2 : addD (.int (q : Int)) (.int 2) = some (.int ((q + 2 : Nat) : Int)) := rfl
  have s1 := sl_n z hz q (q + 2)
  rw [show q + 2 - q = 2 by omega] at s1
  have n1 := ne_w (((tl z).drop q).take 2) ", "
  rw [t4432] at n1
  have m1 : mulD (.int 2) (.int k) = some (.int (2 * k)) := mulD_i (.inl (by decide))
  have a3 : addD (.int (q : Int)) (.int (2 * k)) = some (.int (q2 : Int)) := by rw [hq]; rfl
  have pre : ∀ x6, fAndT (fB (f2 eqP (fV 5) (fC (.int 1)))) (fB (f2 neP (fSl (fV 0) (fO (fV 1)) (fO (f2 addD (fV 1) (fC (.int 2))))) (fC (.str ", ")))) [some (.d (.str z)), some (.d (.int (q : Int))), some (.d W), some (.d D), some (.d (.tuple fs)), some (.d (.int k)), x6] = some false := fun x6 => by
    rcases hk with rfl | rfl
    · have e1 : eqP (.int 0) (.int 1) = some (.bool false) := rfl
      simp only [fAndT_ap, fB_ap, f2_ap, fV_ap, fC_ap, List.getElem?_cons_zero, List.getElem?_cons_succ, slot_d, ap2_some, e1, unB_some, andT_f]
    · have e1 : eqP (.int 1) (.int 1) = some (.bool true) := rfl
      rw [decide_eq_true (hp rfl)] at n1
      simp only [fAndT_ap, fB_ap, f2_ap, fSl_ap, fO_ap, fV_ap, fC_ap, List.getElem?_cons_zero, List.getElem?_cons_succ, slot_d, ap2_some, e1, unB_some, andT_t, a2, intO_some, slO_some, s1, n1, Bool.not_true]
  rw [ptB, gSeq_ap, gIf_ap, pre, iteO_f, gNx_ap, seqO_nx]
  cases o with
  | none =>
    simp only [resT] at hF
    simp only [gSeq_ap, gAsg_ap, fCa_ap, fCons_ap, fNil_ap, f2_ap, fV_ap, fC_ap, List.getElem?_cons_zero, List.getElem?_cons_succ, slot_d, ap2_some, m1, a3, hd, consO_some, caO_3, hF, asgO_some, b2_tup, Option.map_some, List.set_cons_succ, List.set_cons_zero, seqO_nx, gIf_ap, fB_ap, none_none, unB_some, iteO_t, gRet_ap, fTup_ap, tupO_2, retO_some, seqO_rt, ptR]
  | some p =>
    obtain ⟨s, r⟩ := p
    simp only [resT] at hF
    have ct : catTD (.tuple fs) (.tuple [enc s]) = some (.tuple (fs ++ [enc s])) := catT_ok hf rfl (by simp; omega)
    simp only [gSeq_ap, gAsg_ap, fCa_ap, fCons_ap, fNil_ap, f2_ap, fV_ap, fC_ap, List.getElem?_cons_zero, List.getElem?_cons_succ, slot_d, ap2_some, m1, a3, hd, consO_some, caO_3, hF, asgO_some, b2_tup, Option.map_some, List.set_cons_succ, List.set_cons_zero, seqO_nx, gIf_ap, fB_ap, none_enc, unB_some, iteO_f, gNx_ap, gSet_ap, fTup_ap, tupO_1, ct, setO_some, ptR]
/-- no comma between -/
theorem pt_no {F : List PyData → Option PyData} {z : Str} {q : Nat} {W D : PyData} {fs : PyData} {x6 : Option Sv} (hz : z.length ≤ 90000) (hp : ((tl z).drop q).take 2 ≠ [44, 32]) :
    ptB F [some (.d (.str z)), some (.d (.int (q : Int))), some (.d W), some (.d D), some (.d fs), some (.d (.int 1)), x6] = some (.rt (.tuple [.none, .int (q : Int)]) [some (.d (.str z)), some (.d (.int (q : Int))), some (.d W), some (.d D), some (.d fs), some (.d (.int 1)), x6]) := by
  have a2 : addD (.int (q : Int)) (.int 2) = some (.int ((q + 2 : Nat) : Int)) := rfl
  have s1 := sl_n z hz q (q + 2)
  rw [show q + 2 - q = 2 by omega] at s1
  have n1 := ne_w (((tl z).drop q).take 2) ", "
  rw [t4432, decide_eq_false hp] at n1
  have e1 : eqP (.int 1) (.int 1) = some (.bool true) := rfl
  simp only [ptB, gSeq_ap, gIf_ap, fAndT_ap, fB_ap, f2_ap, fSl_ap, fO_ap, fV_ap, fC_ap, List.getElem?_cons_zero, List.getElem?_cons_succ, slot_d, ap2_some, e1, unB_some, andT_t, a2, intO_some, slO_some, s1, n1, Bool.not_false, iteO_t, gRet_ap, fTup_ap, fCons_ap, fNil_ap, consO_some, tupO_2, retO_some, seqO_rt]
/-- the bracket's end -/
abbrev ptC : Rho → Option Out := (gSeq (gIf (fB (f2 neP (fSl (fV 0) (fO (fV 1)) (fO (f2 addD (fV 1) (fC (.int 1))))) (fC (.str ")")))) (gRet (fTup (fCons (fC .none) (fCons (fV 1) fNil)))) gNx) (gRet (fTup (fCons (fV 4) (fCons (f2 addD (fV 1) (fC (.int 1))) fNil)))))
theorem pt_close {z : Str} {q : Nat} {W D T : PyData} {x5 x6 : Option Sv} (hz : z.length ≤ 90000) :
    retD (ptC [some (.d (.str z)), some (.d (.int (q : Int))), some (.d W), some (.d D), some (.d T), x5, x6]) = some (if ((tl z).drop q).head? = some 41 then .tuple [T, .int ((q + 1 : Nat) : Int)] else .tuple [.none, .int (q : Int)]) := by
  have a1 : addD (.int (q : Int)) (.int 1) = some (.int ((q + 1 : Nat) : Int)) := rfl
  have s1 := sl_n z hz q (q + 1)
  rw [show q + 1 - q = 1 by omega] at s1
  have n1 := ne_w (((tl z).drop q).take 1) ")"
  rw [t41] at n1
  have eh : (((tl z).drop q).take 1 = [41]) ↔ ((tl z).drop q).head? = some 41 := by cases (tl z).drop q <;> simp
  by_cases h : ((tl z).drop q).head? = some 41
  · rw [decide_eq_true (eh.mpr h)] at n1
    rw [if_pos h]
    simp only [ptC, gSeq_ap, gIf_ap, fB_ap, f2_ap, fSl_ap, fO_ap, fV_ap, fC_ap, List.getElem?_cons_zero, List.getElem?_cons_succ, slot_d, ap2_some, unB_some, a1, intO_some, slO_some, s1, n1, Bool.not_true, iteO_f, gNx_ap, seqO_nx, gRet_ap, fTup_ap, fCons_ap, fNil_ap, consO_some, tupO_2, retO_some, retD_rt]
  · rw [decide_eq_false fun e => h (eh.mp e)] at n1
    rw [if_neg h]
    simp only [ptC, gSeq_ap, gIf_ap, fB_ap, f2_ap, fSl_ap, fO_ap, fV_ap, fC_ap, List.getElem?_cons_zero, List.getElem?_cons_succ, slot_d, ap2_some, unB_some, a1, intO_some, slO_some, s1, n1, Bool.not_false, iteO_t, gRet_ap, fTup_ap, fCons_ap, fNil_ap, consO_some, tupO_2, retO_some, seqO_rt, retD_rt]
theorem closeQ_if (s : Sm) (r : List Nat) : closeQ (some (s, r)) = if r.head? = some 41 then some (s, r.drop 1) else none := by
  cases r with
  | nil => rfl
  | cons c r =>
    by_cases h : c = 41
    · subst h; rfl
    · rw [if_neg (by simpa using h)]
      unfold closeQ
      split
      · rename_i e; cases e; exact absurd rfl h
      · rfl
/-- what the parser at depth d tells of each place -/
def AtOk (F : List PyData → Option PyData) (z : Str) (d : Nat) : Prop := ∀ q : Nat, ∃ x, F [.str z, .int (q : Int), .int (d : Int)] = some (resT q (lawP d ((tl z).drop q)) x)
/-- one part and the end -/
theorem pt_one {F : List PyData → Option PyData} {z : Str} {q d : Nat} {W D : PyData} {fs : List PyData} {x5 x6 : Option Sv} (hz : z.length ≤ 90000) (hA : AtOk F z d) (hd : (ri fun i j => i - j) D (.int 1) = some (.int (d : Int))) (hf : fs.isEmpty = false) (hl : fs.length ≤ 10)
    {p : Nat} {f : Sm → Sm} (he : ∀ s, enc (f s) = .tuple (fs ++ [enc s])) (hx : ∀ s, p + (txL (f s)).length = q + (txL s).length + 1) :
    ∃ x, retD (seqO ptC (forGo (b1 5) (ptB F) [.int 0] [some (.d (.str z)), some (.d (.int (q : Int))), some (.d W), some (.d D), some (.d (.tuple fs)), x5, x6])) = some (resT p (closeQ ((lawP d ((tl z).drop q)).map fun p => (f p.1, p.2))) x) := by
  obtain ⟨x, hF⟩ := hA q
  have t := pt_at (x6 := x6) (W := W) (fs := fs) (k := 0) (q := q) (q2 := q) hz (.inl rfl) (fun e => by cases e) (by simp) hd hF hf hl
  rw [forGo_c, b1_ap, forB_some]
  simp only [List.set_cons_succ, List.set_cons_zero]
  rw [t]
  cases o : lawP d ((tl z).drop q) with
  | none => exact ⟨x, by simp only [ptR, forN_rt, seqO_rt, retD_rt]; rfl⟩
  | some pr =>
    obtain ⟨s, r⟩ := pr
    obtain ⟨sd, sf, _⟩ := lawP_sound d _ s r o
    have dr : (tl z).drop (q + (txL s).length) = r := by rw [← List.drop_drop, sd, List.drop_left]
    simp only [ptR, forN_nx, forGo_0, seqO_nx]
    rw [pt_close hz, dr]
    simp only [Option.map_some, closeQ_if]
    split
    · refine ⟨0, ?_⟩
      show _ = some (PyData.tuple [enc (f s), .int ((p + (txL (f s)).length : Nat) : Int)])
      rw [he, hx]
    · exact ⟨_, rfl⟩
/-- two parts and the end -/
theorem pt_two {F : List PyData → Option PyData} {z : Str} {q d : Nat} {W D : PyData} {fs : List PyData} {x5 x6 : Option Sv} (hz : z.length ≤ 90000) (hA : AtOk F z d) (hd : (ri fun i j => i - j) D (.int 1) = some (.int (d : Int))) (hf : fs.isEmpty = false) (hl : fs.length ≤ 9)
    {p : Nat} {f : Sm → Sm → Sm} (he : ∀ s t, enc (f s t) = .tuple (fs ++ [enc s, enc t])) (hx : ∀ s t, p + (txL (f s t)).length = q + (txL s).length + 2 + (txL t).length + 1) :
    ∃ x, retD (seqO ptC (forGo (b1 5) (ptB F) [.int 0, .int 1] [some (.d (.str z)), some (.d (.int (q : Int))), some (.d W), some (.d D), some (.d (.tuple fs)), x5, x6])) = some (resT p ((lawP d ((tl z).drop q)).bind fun p => match p.2 with
        | 44 :: 32 :: r => closeQ ((lawP d r).map fun q => (f p.1 q.1, q.2))
        | _ => none) x) := by
  obtain ⟨x, hF⟩ := hA q
  have t := pt_at (x6 := x6) (W := W) (fs := fs) (k := 0) (q := q) (q2 := q) hz (.inl rfl) (fun e => by cases e) (by simp) hd hF hf (by omega)
  rw [forGo_c, b1_ap, forB_some]
  simp only [List.set_cons_succ, List.set_cons_zero]
  rw [t]
  cases o : lawP d ((tl z).drop q) with
  | none => exact ⟨x, by simp only [ptR, forN_rt, seqO_rt, retD_rt]; rfl⟩
  | some pr =>
    obtain ⟨s, r⟩ := pr
    obtain ⟨sd, sf, _⟩ := lawP_sound d _ s r o
    have dr : (tl z).drop (q + (txL s).length) = r := by rw [← List.drop_drop, sd, List.drop_left]
    simp only [ptR, forN_nx, Option.bind_some]
    rw [forGo_c, b1_ap, forB_some]
    simp only [List.set_cons_succ, List.set_cons_zero]
    by_cases h2 : r.take 2 = [44, 32]
    · have hr : r = 44 :: 32 :: r.drop 2 := by
        have := List.take_append_drop 2 r
        rw [h2] at this
        exact this.symm
      obtain ⟨x', hF'⟩ := hA (q + (txL s).length + 2)
      have d2 : (tl z).drop (q + (txL s).length + 2) = r.drop 2 := by rw [← List.drop_drop, dr]
      rw [d2] at hF'
      have t2 := pt_at (x6 := some (.d (enc s))) (W := W) (fs := fs ++ [enc s]) (k := 1) (q := q + (txL s).length) (q2 := q + (txL s).length + 2) hz (.inr rfl) (fun _ => by rw [dr, h2]) (by simp) hd hF' (by simp) (by simp; omega)
      rw [t2, hr]
      simp only [List.drop_succ_cons, List.drop_zero]
      cases o2 : lawP d (r.drop 2) with
      | none => exact ⟨x', by simp only [ptR, forN_rt, seqO_rt, retD_rt]; rfl⟩
      | some pr2 =>
        obtain ⟨s2, r2⟩ := pr2
        obtain ⟨sd2, sf2, _⟩ := lawP_sound d _ s2 r2 o2
        have dr2 : (tl z).drop (q + (txL s).length + 2 + (txL s2).length) = r2 := by rw [← List.drop_drop, d2, sd2, List.drop_left]
        simp only [ptR, forN_nx, forGo_0, seqO_nx]
        rw [pt_close hz, dr2]
        simp only [Option.map_some, closeQ_if]
        split
        · refine ⟨0, ?_⟩
          show _ = some (PyData.tuple [enc (f s s2), .int ((p + (txL (f s s2)).length : Nat) : Int)])
          rw [he, hx]
          simp
        · exact ⟨_, rfl⟩
    · rw [pt_no hz (by rw [dr]; exact h2)]
      refine ⟨((q + (txL s).length : Nat) : Int), ?_⟩
      simp only [forN_rt, seqO_rt, retD_rt]
      have : (match r with
        | 44 :: 32 :: r => closeQ ((lawP d r).map fun q => (f s q.1, q.2))
        | _ => none) = none := by
        split
        · exact absurd rfl h2
        · rfl
      rw [this]
      rfl
end My

namespace My
open PySem L2 Dn TL
theorem in4 (a b c d x : Str) : inP (.str x) (.tuple [.str a, .str b, .str c, .str d]) = some (.bool (sEq a x || sEq b x || sEq c x || sEq d x)) := by
  unfold inP inD
  simp [flatD, eqv_str, Bool.or_assoc]
def isTwo (w : List Nat) : Bool := decide (w = [97, 110, 100]) || decide (w = [111, 114]) || decide (w = [117, 110, 116, 105, 108]) || decide (w = [115, 105, 110, 99, 101])
theorem in_two (w : List Nat) : inP (.str (strOf w)) (.tuple [.str "and", .str "or", .str "until", .str "since"]) = some (.bool (isTwo w)) := by
  rw [in4]
  simp only [sEq_tl, tl_strOf, k_and, k_or, k_until, k_since, isTwo]
  congr 2
  simp only [eq_comm (b := w)]
/-- int of a figure -/
theorem intT_fig {c : Nat} (h : 48 ≤ c ∧ c ≤ 52) : intTD (.str (one c)) = some (.int ((c : Int) - 48)) := by
  have : c = 48 ∨ c = 49 ∨ c = 50 ∨ c = 51 ∨ c = 52 := by omega
  have key : ∀ c : Nat, (one c).length ≤ 640 := fun c => by rw [len_one]; decide
  unfold intTD
  simp only
  rw [if_pos (key c)]
  rcases this with rfl | rfl | rfl | rfl | rfl
  · rw [show PySem.intText? (one 48) = some 0 by decide +kernel]; rfl
  · rw [show PySem.intText? (one 49) = some 1 by decide +kernel]; rfl
  · rw [show PySem.intText? (one 50) = some 2 by decide +kernel]; rfl
  · rw [show PySem.intText? (one 51) = some 3 by decide +kernel]; rfl
  · rw [show PySem.intText? (one 52) = some 4 by decide +kernel]; rfl
theorem fig1 (w : List Nat) : strOf (w.take 1) ∈ FIGS ↔ ∃ c r, w = c :: r ∧ 48 ≤ c ∧ c ≤ 52 := by
  rw [figs_mem, tl_strOf]
  cases w with
  | nil => exact ⟨fun ⟨k, h⟩ => by simp [figL] at h, fun ⟨c, r, h, _⟩ => by cases h⟩
  | cons c r =>
    simp only [List.take_succ_cons, List.take_zero]
    constructor
    · rintro ⟨k, h⟩
      refine ⟨c, r, rfl, ?_⟩
      rw [show figL [c] = if 48 ≤ c ∧ c ≤ 52 then some ((c : Int) - 48) else none from rfl] at h
      by_cases hc : 48 ≤ c ∧ c ≤ 52
      · exact hc
      · rw [if_neg hc] at h; cases h
    · rintro ⟨c', r', e, h⟩
      cases e
      exact ⟨_, by unfold figL; simp only; rw [if_pos h]⟩
def lpF (F : List PyData → Option PyData) : List PyData → Option PyData := fnD 7 (gL_parts_at F)
theorem range_1 : range1D (.int 1) = some [.int 0] := by
  have := range1D_n (m := 1) (by omega)
  exact this
theorem range_2 : range1D (.int 2) = some [.int 0, .int 1] := by
  have := range1D_n (m := 2) (by omega)
  exact this
theorem strOk_take {z : Str} (h : GdS z) (q n : Nat) : PyData.strOk (strOf (((tl z).drop q).take n)) = true := by
  refine strOk_of fun c hc => h.2 c ?_
  rw [tl_strOf] at hc
  exact List.mem_of_mem_drop (List.mem_of_mem_take hc)
/-- behind the word -/
theorem lp_tail {F : List PyData → Option PyData} {z : Str} {q : Nat} {w0 : List Nat} {D T : PyData} (hw : isTwo w0 = b) :
    (gSeq (gFor (fR1 (f2 addD (fC (.int 1)) (fCl (one1 intD) (fCons (f2 inP (fV 2) (fTup (fCons (fC (.str "and")) (fCons (fC (.str "or")) (fCons (fC (.str "until")) (fCons (fC (.str "since")) fNil)))))) fNil)))) (b1 5) (ptB F)) ptC) [some (.d (.str z)), some (.d (.int (q : Int))), some (.d (.str (strOf w0))), some (.d D), some (.d T), none, none]
    = seqO ptC (forGo (b1 5) (ptB F) (if b then [.int 0, .int 1] else [.int 0]) [some (.d (.str z)), some (.d (.int (q : Int))), some (.d (.str (strOf w0))), some (.d D), some (.d T), none, none]) := by
  have it := in_two w0
  rw [hw] at it
  have ad : addD (.int 1) (.int (if b then 1 else 0)) = some (.int (if b then 2 else 1)) := by cases b <;> rfl
  rw [gSeq_ap, gFor_ap]
  simp only [fR1_ap, f2_ap, fC_ap, fCl_ap, fCons_ap, fNil_ap, fV_ap, fTup_ap, List.getElem?_cons_zero, List.getElem?_cons_succ, slot_d, consO_some]
  have tp : tupO (some [PyData.str "and", .str "or", .str "until", .str "since"]) = some (.tuple [.str "and", .str "or", .str "until", .str "since"]) := rfl
  rw [tp]
  simp only [ap2_some, it, consO_some, clO_some, one1_ap, intD_b, ad, seqO1_some]
  cases b with
  | true => rw [if_pos rfl, if_pos rfl, range_2, forO_some]
  | false => rw [if_neg (by decide), if_neg (by decide), range_1, forO_some]
theorem two_of {w0 : List Nat} {f : Sm → Sm} (h : mk1 w0 = some f) : isTwo w0 = false ∧ (decide (w0 = [119, 105, 116, 104, 105, 110])) = false := by
  unfold mk1 at h
  split at h
  · rename_i e; rw [e]; decide
  · split at h
    · rename_i e; rw [e]; decide
    · split at h
      · rename_i e; rw [e]; decide
      · cases h
theorem two_of2 {w0 : List Nat} {f : Sm → Sm → Sm} (h : mk2 w0 = some f) : isTwo w0 = true ∧ mk1 w0 = none ∧ (decide (w0 = [119, 105, 116, 104, 105, 110])) = false := by
  unfold mk2 at h
  split at h
  · rename_i e; rw [e]; decide
  · split at h
    · rename_i e; rw [e]; decide
    · split at h
      · rename_i e; rw [e]; decide
      · split at h
        · rename_i e; rw [e]; decide
        · cases h
/-- not within -/
theorem lp_head {F : List PyData → Option PyData} {z : Str} {q : Nat} {w0 : List Nat} {D : PyData} (hw : decide (w0 = [119, 105, 116, 104, 105, 110]) = false) :
    lpF F [.str z, .int (q : Int), .str (strOf w0), D] = retD ((gSeq (gFor (fR1 (f2 addD (fC (.int 1)) (fCl (one1 intD) (fCons (f2 inP (fV 2) (fTup (fCons (fC (.str "and")) (fCons (fC (.str "or")) (fCons (fC (.str "until")) (fCons (fC (.str "since")) fNil)))))) fNil)))) (b1 5) (ptB F)) ptC) [some (.d (.str z)), some (.d (.int (q : Int))), some (.d (.str (strOf w0))), some (.d D), some (.d (.tuple [.str (strOf w0)])), none, none]) := by
  have e1 := eq_w w0 "within"
  rw [t_within, hw] at e1
  unfold lpF
  rw [fnD_ap]
  have e : startR 7 [.str z, .int (q : Int), .str (strOf w0), D] = [some (.d (.str z)), some (.d (.int (q : Int))), some (.d (.str (strOf w0))), some (.d D), none, none, none] := rfl
  rw [e, gL_parts_at, gSeq_ap]
  simp only [gSet_ap, fTup_ap, fCons_ap, fNil_ap, fV_ap, List.getElem?_cons_zero, List.getElem?_cons_succ, slot_d, consO_some, tupO_1, setO_some, List.set_cons_succ, List.set_cons_zero, seqO_nx]
  rw [gSeq_ap]
  simp only [gIf_ap, fB_ap, f2_ap, fV_ap, fC_ap, List.getElem?_cons_zero, List.getElem?_cons_succ, slot_d, ap2_some, e1, unB_some, iteO_f, gNx_ap, seqO_nx]
theorem lp_one {F : List PyData → Option PyData} {z : Str} (hz : z.length ≤ 90000) {p d : Nat} (hA : AtOk F z d) {w0 : List Nat} {f : Sm → Sm} (hm : mk1 w0 = some f) :
    ∃ x, lpF F [.str z, .int ((p + w0.length + 1 : Nat) : Int), .str (strOf w0), .int ((d + 1 : Nat) : Int)] = some (resT p (partsQ (lawP d) w0 ((tl z).drop (p + w0.length + 1))) x) := by
  obtain ⟨h2, hw⟩ := two_of hm
  rw [lp_head hw, lp_tail h2, if_neg (by decide)]
  have len : ∀ s, (txL (f s)).length = w0.length + (txL s).length + 2 := fun s => by
    unfold mk1 at hm
    split at hm
    · rename_i e; cases hm; rw [e]; simp [txL]; omega
    · split at hm
      · rename_i e; cases hm; rw [e]; simp [txL]; omega
      · split at hm
        · rename_i e; cases hm; rw [e]; simp [txL]; omega
        · cases hm
  have e : partsQ (lawP d) w0 ((tl z).drop (p + w0.length + 1)) = closeQ ((lawP d ((tl z).drop (p + w0.length + 1))).map fun p => (f p.1, p.2)) := by
    unfold partsQ
    rw [if_neg (of_decide_eq_false hw), hm]
  rw [e]
  exact pt_one hz hA (by show some (PyData.int (((d + 1 : Nat) : Int) - 1)) = _; congr 2; omega) rfl (by simp) (fun s => enc1 hm s) fun s => by rw [len]; omega
theorem lp_two {F : List PyData → Option PyData} {z : Str} (hz : z.length ≤ 90000) {p d : Nat} (hA : AtOk F z d) {w0 : List Nat} {f : Sm → Sm → Sm} (hm : mk2 w0 = some f) :
    ∃ x, lpF F [.str z, .int ((p + w0.length + 1 : Nat) : Int), .str (strOf w0), .int ((d + 1 : Nat) : Int)] = some (resT p (partsQ (lawP d) w0 ((tl z).drop (p + w0.length + 1))) x) := by
  obtain ⟨h2, h1, hw⟩ := two_of2 hm
  rw [lp_head hw, lp_tail h2, if_pos rfl]
  have len : ∀ s t, (txL (f s t)).length = w0.length + (txL s).length + (txL t).length + 4 := fun s t => by
    unfold mk2 at hm
    split at hm
    · rename_i e; cases hm; rw [e]; simp [txL]; omega
    · split at hm
      · rename_i e; cases hm; rw [e]; simp [txL]; omega
      · split at hm
        · rename_i e; cases hm; rw [e]; simp [txL]; omega
        · split at hm
          · rename_i e; cases hm; rw [e]; simp [txL]; omega
          · cases hm
  have e : partsQ (lawP d) w0 ((tl z).drop (p + w0.length + 1)) = (lawP d ((tl z).drop (p + w0.length + 1))).bind fun p => match p.2 with
        | 44 :: 32 :: r => closeQ ((lawP d r).map fun q => (f p.1 q.1, q.2))
        | _ => none := by
    unfold partsQ
    rw [if_neg (of_decide_eq_false hw), h1]
    simp only
    rw [hm]
    try rfl
  rw [e]
  exact pt_two hz hA (by show some (PyData.int (((d + 1 : Nat) : Int) - 1)) = _; congr 2; omega) rfl (by simp) (fun s t => enc2 hm s t) fun s t => by rw [len]; omega
theorem lp_wth {F : List PyData → Option PyData} {z : Str} (hg : GdS z) {p d : Nat} (hA : AtOk F z d) :
    ∃ x, lpF F [.str z, .int ((p + 7 : Nat) : Int), .str (strOf [119, 105, 116, 104, 105, 110]), .int ((d + 1 : Nat) : Int)] = some (resT p (partsQ (lawP d) [119, 105, 116, 104, 105, 110] ((tl z).drop (p + 7))) x) := by
  have hz := hg.1
  have e1 := eq_w [119, 105, 116, 104, 105, 110] "within"
  rw [t_within, decide_eq_true rfl] at e1
  generalize hq : p + 7 = q
  have a1 : addD (.int (q : Int)) (.int 1) = some (.int ((q + 1 : Nat) : Int)) := rfl
  have a3 : addD (.int (q : Int)) (.int 3) = some (.int ((q + 3 : Nat) : Int)) := rfl
  have s1 := sl_n z hz q (q + 1)
  rw [show q + 1 - q = 1 by omega] at s1
  have s2 := sl_n z hz (q + 1) (q + 3)
  rw [show q + 3 - (q + 1) = 2 by omega] at s2
  have f1 : niP (.str (strOf (((tl z).drop q).take 1))) (.list [.str "0", .str "1", .str "2", .str "3", .str "4"]) = some (.bool (decide (strOf (((tl z).drop q).take 1) ∉ FIGS))) := ni_strs figs_ok (strOk_take hg q 1)
  have n2 := ne_w (((tl z).drop (q + 1)).take 2) ", "
  rw [t4432] at n2
  have d1 : (tl z).drop (q + 1) = ((tl z).drop q).drop 1 := by rw [List.drop_drop]
  have lf : lstO (some [PyData.str "0", .str "1", .str "2", .str "3", .str "4"]) = some (.list [.str "0", .str "1", .str "2", .str "3", .str "4"]) := rfl
  unfold lpF
  rw [fnD_ap]
  have e : startR 7 [.str z, .int (q : Int), .str (strOf [119, 105, 116, 104, 105, 110]), .int ((d + 1 : Nat) : Int)] = [some (.d (.str z)), some (.d (.int (q : Int))), some (.d (.str (strOf [119, 105, 116, 104, 105, 110]))), some (.d (.int ((d + 1 : Nat) : Int))), none, none, none] := rfl
  rw [e, gL_parts_at, gSeq_ap]
  simp only [gSet_ap, fTup_ap, fCons_ap, fNil_ap, fV_ap, List.getElem?_cons_zero, List.getElem?_cons_succ, slot_d, consO_some, tupO_1, setO_some, List.set_cons_succ, List.set_cons_zero, seqO_nx]
  rw [gSeq_ap, gIf_ap]
  simp only [fB_ap, f2_ap, fV_ap, fC_ap, List.getElem?_cons_zero, List.getElem?_cons_succ, slot_d, ap2_some, e1, unB_some, iteO_t]
  rw [gSeq_ap, gIf_ap]
  simp only [fOrT_ap, fB_ap, f2_ap, fSl_ap, fO_ap, fV_ap, fC_ap, fLst_ap, fCons_ap, fNil_ap, consO_some, List.getElem?_cons_zero, List.getElem?_cons_succ, slot_d, ap2_some, a1, a3, intO_some, slO_some, s1, s2, unB_some, lf, f1, n2]
  by_cases hf : strOf (((tl z).drop q).take 1) ∈ FIGS
  · obtain ⟨c, r, hd, hc⟩ := (fig1 _).mp hf
    rw [decide_eq_false (fun h => h hf)]
    rw [d1, hd]
    simp only [orT_f, List.drop_succ_cons, List.drop_zero]
    by_cases h2 : r.take 2 = [44, 32]
    · have hr : r = 44 :: 32 :: r.drop 2 := by
        have := List.take_append_drop 2 r
        rw [h2] at this
        exact this.symm
      rw [decide_eq_true h2]
      have ix := ix_n z hz hd
      have it := intT_fig hc
      simp only [Bool.not_true, iteO_f, gNx_ap, seqO_nx, gSeq_ap, gSet_ap, fTup_ap, fCons_ap, fNil_ap, fV_ap, fC_ap, f2_ap, fCl_ap, List.getElem?_cons_zero, List.getElem?_cons_succ, slot_d, ap2_some, ix, it, consO_some, clO_some, one1_ap, tupO_2, setO_some, List.set_cons_succ, List.set_cons_zero, a3]
      have tail := lp_tail (F := F) (z := z) (q := q + 3) (w0 := [119, 105, 116, 104, 105, 110]) (D := .int ((d + 1 : Nat) : Int)) (T := .tuple [.str (strOf [119, 105, 116, 104, 105, 110]), .int ((c : Int) - 48)]) (b := false) (by decide)
      rw [gSeq_ap] at tail
      have dd : (tl z).drop (q + 3) = r.drop 2 := by rw [← List.drop_drop, hd]; rfl
      have one := pt_one (x5 := none) (x6 := none) (q := q + 3) (D := .int ((d + 1 : Nat) : Int)) (W := .str (strOf [119, 105, 116, 104, 105, 110])) (fs := [.str (strOf [119, 105, 116, 104, 105, 110]), .int ((c : Int) - 48)]) hz hA (by show some (PyData.int (((d + 1 : Nat) : Int) - 1)) = _; congr 2; omega) rfl (by simp) (p := p) (f := Sm.wth ((c : Int) - 48)) (fun s => by
          have ww : strOf [119, 105, 116, 104, 105, 110] = ("within" : Str) := by decide +kernel
          rw [ww]; rfl) fun s => by simp [txL]; omega
      rw [dd] at one
      obtain ⟨x, one⟩ := one
      refine ⟨x, ?_⟩
      have pq : partsQ (lawP d) [119, 105, 116, 104, 105, 110] (c :: r) = closeQ ((lawP d (r.drop 2)).map fun p => (.wth ((c : Int) - 48) p.1, p.2)) := by
        unfold partsQ
        rw [if_pos rfl, hr]
        simp only [List.drop_succ_cons, List.drop_zero]
        rw [if_pos hc]
      rw [pq, ← one]
      rw [if_neg (by decide)] at tail
      rw [← tail]
    · rw [decide_eq_false h2]
      refine ⟨(q : Int), ?_⟩
      have pq : partsQ (lawP d) [119, 105, 116, 104, 105, 110] (c :: r) = none := by
        unfold partsQ
        rw [if_pos rfl]
        split
        · rename_i e; cases e; exact absurd rfl h2
        · rfl
      rw [pq]
      simp only [Bool.not_false, iteO_t, gRet_ap, fTup_ap, fCons_ap, fNil_ap, fV_ap, fC_ap, List.getElem?_cons_zero, List.getElem?_cons_succ, slot_d, consO_some, tupO_2, retO_some, seqO_rt, retD_rt, resT]
  · rw [decide_eq_true hf]
    refine ⟨(q : Int), ?_⟩
    have pq : partsQ (lawP d) [119, 105, 116, 104, 105, 110] ((tl z).drop q) = none := by
      unfold partsQ
      rw [if_pos rfl]
      split
      · rename_i c r e
        rw [if_neg fun hc => hf ((fig1 _).mpr ⟨c, _, e, hc⟩)]
      · rfl
    rw [pq]
    simp only [orT_t, iteO_t, gRet_ap, fTup_ap, fCons_ap, fNil_ap, fV_ap, fC_ap, List.getElem?_cons_zero, List.getElem?_cons_succ, slot_d, consO_some, tupO_2, retO_some, seqO_rt, retD_rt, resT]
end My

namespace My
open PySem L2 Dn TL
/-! ### _law_at, _law_due -/
def latF : Nat → List PyData → Option PyData
  | 0 => fun _ => none
  | n + 1 => fnD 4 (gL_at lmarkF (lpF (latF n)))
abbrev atB (F : List PyData → Option PyData) : Rho → Option Out := (gIf (fB (f2 eqP (fSl (fV 0) (fO (fV 1)) (fO (f2 addD (f2 addD (fV 1) (fCl (one1 lenD) (fCons (fV 3) fNil))) (fC (.int 1))))) (f2 addD (fV 3) (fC (.str "("))))) (gRet (fCa 4 F (fCons (fV 0) (fCons (f2 addD (f2 addD (fV 1) (fCl (one1 lenD) (fCons (fV 3) fNil))) (fC (.int 1))) (fCons (fV 3) (fCons (fV 2) fNil)))))) gNx)
theorem at_turn {F : List PyData → Option PyData} {z : Str} (hz : z.length ≤ 90000) {p : Nat} {D : PyData} {w0 : List Nat} (hl : w0.length ≤ 10) {d : PyData} (hF : F [.str z, .int ((p + w0.length + 1 : Nat) : Int), .str (strOf w0), D] = some d ∨ ¬ ((tl z).drop p).take (w0.length + 1) = w0 ++ [40]) :
    atB F [some (.d (.str z)), some (.d (.int (p : Int))), some (.d D), some (.d (.str (strOf w0)))] = if ((tl z).drop p).take (w0.length + 1) = w0 ++ [40] then some (.rt d [some (.d (.str z)), some (.d (.int (p : Int))), some (.d D), some (.d (.str (strOf w0)))])
      else some (.nx [some (.d (.str z)), some (.d (.int (p : Int))), some (.d D), some (.d (.str (strOf w0)))]) := by
  have lw : lenD (.str (strOf w0)) = some (.int (w0.length : Nat)) := by
    have := lenz (strOf w0) (by rw [len_tl, tl_strOf]; omega)
    rw [tl_strOf] at this
    exact this
  have a1 : addD (.int (p : Int)) (.int (w0.length : Nat)) = some (.int ((p + w0.length : Nat) : Int)) := rfl
  have a2 : addD (.int ((p + w0.length : Nat) : Int)) (.int 1) = some (.int ((p + w0.length + 1 : Nat) : Int)) := rfl
  have s1 := sl_n z hz p (p + w0.length + 1)
  rw [show p + w0.length + 1 - p = w0.length + 1 by omega] at s1
  have l1 : ("(" : Str).length = 1 := rfl
  have a3 : addD (.str (strOf w0)) (.str "(") = some (.str (strOf (w0 ++ [40]))) := by
    rw [addD_s (by rw [l1, len_tl, tl_strOf]; omega)]
    congr 2
    exact tl_inj (by rw [tl_append, tl_strOf, tl_strOf, t40])
  have e1 := eq_w (((tl z).drop p).take (w0.length + 1)) (strOf (w0 ++ [40]))
  rw [tl_strOf] at e1
  simp only [atB, gIf_ap, fB_ap, f2_ap, fSl_ap, fO_ap, fV_ap, fC_ap, fCl_ap, fCons_ap, fNil_ap, consO_some, clO_some, one1_ap, List.getElem?_cons_zero, List.getElem?_cons_succ, slot_d, ap2_some, lw, a1, a2, a3, intO_some, slO_some, s1, e1, unB_some]
  by_cases h : ((tl z).drop p).take (w0.length + 1) = w0 ++ [40]
  · rw [if_pos h, decide_eq_true h]
    rcases hF with hF | hF
    · simp only [iteO_t, gRet_ap, fCa_ap, fCons_ap, fNil_ap, f2_ap, fV_ap, fC_ap, fCl_ap, List.getElem?_cons_zero, List.getElem?_cons_succ, slot_d, consO_some, clO_some, one1_ap, lw, ap2_some, a1, a2, caO_4, hF, retO_some]
    · exact absurd h hF
  · rw [if_neg h, decide_eq_false h]
    simp only [iteO_f, gNx_ap]
theorem at_loop {F : List PyData → Option PyData} {z : Str} (hz : z.length ≤ 90000) {p d : Nat} {x3 : Option Sv} {rd : List Nat → Option (Sm × List Nat)} : ∀ (L : List (List Nat)), (∀ w0 ∈ L, w0.length ≤ 10 ∧ ∃ x, F [.str z, .int ((p + w0.length + 1 : Nat) : Int), .str (strOf w0), .int (d : Int)] = some (resT p (partsQ rd w0 ((tl z).drop (p + w0.length + 1))) x)) →
    ∀ x3, ∃ ρ x, forGo (b1 3) (atB F) (L.map fun w => PyData.str (strOf w)) [some (.d (.str z)), some (.d (.int (p : Int))), some (.d (.int (d : Int))), x3] = match L.find? fun w0 => decide (((tl z).drop p).take (w0.length + 1) = w0 ++ [40]) with
      | some w0 => some (.rt (resT p (partsQ rd w0 ((tl z).drop (p + w0.length + 1))) x) ρ)
      | none => some (.nx [some (.d (.str z)), some (.d (.int (p : Int))), some (.d (.int (d : Int))), ρ.getD 0 none])
  | [], h, x3 => ⟨[x3], 0, rfl⟩
  | w :: L, h, x3 => by
    obtain ⟨hl, x, hF⟩ := h w (by simp)
    have t := at_turn hz (D := .int (d : Int)) hl (.inl hF)
    rw [List.map_cons, forGo_c, b1_ap, forB_some]
    simp only [List.set_cons_succ, List.set_cons_zero]
    rw [t, List.find?_cons]
    by_cases hh : ((tl z).drop p).take (w.length + 1) = w ++ [40]
    · rw [if_pos hh, decide_eq_true hh]
      exact ⟨[some (.d (.str z)), some (.d (.int (p : Int))), some (.d (.int (d : Int))), some (.d (.str (strOf w)))], x, rfl⟩
    · rw [if_neg hh, decide_eq_false hh, forN_nx]
      exact at_loop hz (x3 := x3) L (fun w0 hw => h w0 (by simp [hw])) _
theorem words_list : [PyData.str "not", .str "and", .str "or", .str "next", .str "until", .str "within", .str "before", .str "since"] = wordsQ.map fun w => PyData.str (strOf w) := by
  have k2 : strOf [110, 111, 116] = ("not" : Str) := by decide +kernel
  have k3 : strOf [97, 110, 100] = ("and" : Str) := by decide +kernel
  have k4 : strOf [111, 114] = ("or" : Str) := by decide +kernel
  have k5 : strOf [110, 101, 120, 116] = ("next" : Str) := by decide +kernel
  have k6 : strOf [117, 110, 116, 105, 108] = ("until" : Str) := by decide +kernel
  have k7 : strOf [98, 101, 102, 111, 114, 101] = ("before" : Str) := by decide +kernel
  have k8 : strOf [115, 105, 110, 99, 101] = ("since" : Str) := by decide +kernel
  have k9 : strOf [119, 105, 116, 104, 105, 110] = ("within" : Str) := by decide +kernel
  simp only [wordsQ, List.map_cons, List.map_nil, k2, k3, k4, k5, k6, k7, k8, k9]
theorem at_zero (F G : List PyData → Option PyData) (z : Str) (p : Nat) : fnD 4 (gL_at F G) [.str z, .int (p : Int), .int 0] = some (resT p none (p : Int)) := by
  rw [fnD_ap]
  have e : startR 4 [.str z, .int (p : Int), .int 0] = [some (.d (.str z)), some (.d (.int (p : Int))), some (.d (.int 0)), none] := rfl
  have e0 : eqP (.int 0) (.int 0) = some (.bool true) := rfl
  rw [e, gL_at]
  simp only [gSeq_ap, gIf_ap, fB_ap, f2_ap, fV_ap, fC_ap, List.getElem?_cons_zero, List.getElem?_cons_succ, slot_d, ap2_some, e0, unB_some, iteO_t, gRet_ap, fTup_ap, fCons_ap, fNil_ap, consO_some, tupO_2, retO_some, seqO_rt, retD_rt, resT]
theorem at_step {F : List PyData → Option PyData} {z : Str} (hg : GdS z) {d : Nat} (hA : AtOk F z d) : AtOk (fnD 4 (gL_at lmarkF (lpF F))) z (d + 1) := by
  intro p
  have hz := hg.1
  have n0 : eqP (.int ((d + 1 : Nat) : Int)) (.int 0) = some (.bool false) := by
    show some (PyData.bool (decide _)) = _
    rw [decide_eq_false (by omega)]
  have a1 : addD (.int (p : Int)) (.int 1) = some (.int ((p + 1 : Nat) : Int)) := rfl
  have a3 : addD (.int (p : Int)) (.int 3) = some (.int ((p + 3 : Nat) : Int)) := rfl
  have s1 := sl_n z hz p (p + 1)
  rw [show p + 1 - p = 1 by omega] at s1
  have s3 := sl_n z hz p (p + 3)
  rw [show p + 3 - p = 3 by omega] at s3
  have e1 := eq_w (((tl z).drop p).take 1) "'"
  rw [t39] at e1
  have e3 := eq_w (((tl z).drop p).take 3) "yes"
  rw [t_yes] at e3
  have eh : (((tl z).drop p).take 1 = [39]) ↔ ((tl z).drop p).head? = some 39 := by cases (tl z).drop p <;> simp
  rw [lawP]
  have e : startR 4 [.str z, .int (p : Int), .int ((d + 1 : Nat) : Int)] = [some (.d (.str z)), some (.d (.int (p : Int))), some (.d (.int ((d + 1 : Nat) : Int))), none] := rfl
  rw [fnD_ap, e, gL_at, gSeq_ap]
  simp only [gIf_ap, fB_ap, f2_ap, fV_ap, fC_ap, List.getElem?_cons_zero, List.getElem?_cons_succ, slot_d, ap2_some, n0, unB_some, iteO_f, gNx_ap, seqO_nx]
  rw [gSeq_ap]
  simp only [gIf_ap, fB_ap, f2_ap, fSl_ap, fO_ap, fV_ap, fC_ap, List.getElem?_cons_zero, List.getElem?_cons_succ, slot_d, ap2_some, a1, intO_some, slO_some, s1, e1, unB_some]
  by_cases h1 : ((tl z).drop p).head? = some 39
  · rw [decide_eq_true (eh.mpr h1), if_pos h1]
    have lm := lmark_eq z hz p
    rw [if_pos h1] at lm
    refine ⟨(p : Int), ?_⟩
    simp only [iteO_t, gRet_ap, fCa_ap, fCons_ap, fNil_ap, fV_ap, List.getElem?_cons_zero, List.getElem?_cons_succ, slot_d, consO_some, caO_2, lm, retO_some, seqO_rt, retD_rt]
  · rw [decide_eq_false fun q => h1 (eh.mp q), if_neg h1]
    simp only [iteO_f, gNx_ap, seqO_nx]
    rw [gSeq_ap]
    simp only [gIf_ap, fB_ap, f2_ap, fSl_ap, fO_ap, fV_ap, fC_ap, List.getElem?_cons_zero, List.getElem?_cons_succ, slot_d, ap2_some, a3, intO_some, slO_some, s3, e3, unB_some]
    by_cases h3 : ((tl z).drop p).take 3 = [121, 101, 115]
    · rw [decide_eq_true h3, if_pos h3]
      refine ⟨(p : Int), ?_⟩
      simp only [iteO_t, gRet_ap, fTup_ap, fCons_ap, fNil_ap, fC_ap, f2_ap, fV_ap, List.getElem?_cons_zero, List.getElem?_cons_succ, slot_d, ap2_some, a3, consO_some, tupO_1, tupO_2, retO_some, seqO_rt, retD_rt]
      rfl
    · rw [decide_eq_false h3, if_neg h3]
      simp only [iteO_f, gNx_ap, seqO_nx]
      have hP : ∀ w0 ∈ wordsQ, w0.length ≤ 10 ∧ ∃ x, lpF F [.str z, .int ((p + w0.length + 1 : Nat) : Int), .str (strOf w0), .int ((d + 1 : Nat) : Int)] = some (resT p (partsQ (lawP d) w0 ((tl z).drop (p + w0.length + 1))) x) := by
        intro w0 hw
        simp only [wordsQ, List.mem_cons, List.not_mem_nil, or_false] at hw
        rcases hw with rfl | rfl | rfl | rfl | rfl | rfl | rfl | rfl
        · exact ⟨by decide, lp_one hz hA rfl⟩
        · exact ⟨by decide, lp_two hz hA rfl⟩
        · exact ⟨by decide, lp_two hz hA rfl⟩
        · exact ⟨by decide, lp_one hz hA rfl⟩
        · exact ⟨by decide, lp_two hz hA rfl⟩
        · exact ⟨by decide, lp_wth hg hA⟩
        · exact ⟨by decide, lp_one hz hA rfl⟩
        · exact ⟨by decide, lp_two hz hA rfl⟩
      obtain ⟨ρ, x, lp⟩ := at_loop (x3 := none) hz wordsQ hP none
      have ws : fSeq (fLst (fCons (fC (.str "not")) (fCons (fC (.str "and")) (fCons (fC (.str "or")) (fCons (fC (.str "next")) (fCons (fC (.str "until")) (fCons (fC (.str "within")) (fCons (fC (.str "before")) (fCons (fC (.str "since")) fNil))))))))) [some (.d (.str z)), some (.d (.int (p : Int))), some (.d (.int ((d + 1 : Nat) : Int))), none] = some (wordsQ.map fun w => PyData.str (strOf w)) := by
        rw [← words_list]; rfl
      rw [gSeq_ap, gFor_ap, ws, forO_some]
      rw [lp]
      cases hf : wordsQ.find? fun w0 => decide (((tl z).drop p).take (w0.length + 1) = w0 ++ [40]) with
      | none => exact ⟨(p : Int), by simp only [seqO_nx, gRet_ap, fTup_ap, fCons_ap, fNil_ap, fV_ap, fC_ap, List.getElem?_cons_zero, List.getElem?_cons_succ, slot_d, consO_some, tupO_2, retO_some, retD_rt, resT]⟩
      | some w0 =>
        refine ⟨x, ?_⟩
        simp only [seqO_rt, retD_rt]
        rw [List.drop_drop]
        congr 3
theorem at_all {z : Str} (hg : GdS z) : ∀ (d n : Nat), d < n → AtOk (latF n) z d
  | 0, n + 1, _ => fun p => ⟨(p : Int), at_zero _ _ z p⟩
  | d + 1, n + 1, h => at_step hg (at_all hg d n (by omega))
def ldueF : List PyData → Option PyData := fnD 3 (gL_due (latF 7))
def optD : Option Sm → PyData
  | some s => enc s
  | none => .none
theorem due_eq (z : Str) (hg : GdS z) : ldueF [.str z] = some (optD (dueP (tl z))) := by
  obtain ⟨x, ha⟩ := at_all hg 6 7 (by decide) 0
  rw [List.drop_zero] at ha
  have hz := hg.1
  have l := lenz z hz
  unfold ldueF
  have e : startR 3 [.str z] = [some (.d (.str z)), none, none] := rfl
  have ha' : latF 7 [.str z, .int 0, .int 6] = some (resT 0 (lawP 6 (tl z)) x) := ha
  rw [fnD_ap, e, gL_due, gSeq_ap]
  simp only [gAsg_ap, fCa_ap, fCons_ap, fNil_ap, fV_ap, fC_ap, List.getElem?_cons_zero, List.getElem?_cons_succ, slot_d, consO_some, caO_3, ha', asgO_some]
  unfold dueP
  cases o : lawP 6 (tl z) with
  | none =>
    simp only [resT, b2_tup, Option.map_some, List.set_cons_succ, List.set_cons_zero, seqO_nx, gSeq_ap, gIf_ap, fB_ap, f2_ap, fV_ap, fCl_ap, fCons_ap, fNil_ap, List.getElem?_cons_zero, List.getElem?_cons_succ, slot_d, consO_some, clO_some, one1_ap, l, ap2_some, neP_i, unB_some]
    cases (!decide (x = ((tl z).length : Nat))) with
    | true => rfl
    | false => rfl
  | some pr =>
    obtain ⟨s, r⟩ := pr
    obtain ⟨sd, _⟩ := lawP_sound 6 _ s r o
    have ln : (tl z).length = (txL s).length + r.length := by rw [sd, List.length_append]
    simp only [resT, b2_tup, Option.map_some, List.set_cons_succ, List.set_cons_zero, seqO_nx, gSeq_ap, gIf_ap, fB_ap, f2_ap, fV_ap, fCl_ap, fCons_ap, fNil_ap, List.getElem?_cons_zero, List.getElem?_cons_succ, slot_d, consO_some, clO_some, one1_ap, l, ap2_some, neP_i, unB_some]
    cases r with
    | nil =>
      rw [decide_eq_true (by rw [ln]; simp)]
      rfl
    | cons c r =>
      rw [decide_eq_false (by rw [ln, List.length_cons]; omega)]
      rfl
/-! ### _law_same -/
end My

namespace My
open PySem L2 Dn TL
/-! ### _law_same of a thing with itself -/
def sameF : Nat → List PyData → Option PyData
  | 0 => fun _ => none
  | n + 1 => fnD 4 (gL_same (sameF n))
theorem kit_sb : kitB "str" "bool" = some false := by decide +kernel
theorem kit_ib : kitB "int" "bool" = some false := by decide +kernel
theorem kit_si : kitB "str" "int" = some false := by decide +kernel
theorem kit_ii : kitB "int" "int" = some true := by decide +kernel
theorem same_str (n : Nat) (a : Str) : sameF (n + 1) [.str a, .str a] = some (.bool true) := by
  have t := isi_str a
  have b : isiD "bool" (.str a) = some (.bool false) := isi_of rfl kit_sb
  have i : isiD "int" (.str a) = some (.bool false) := isi_of rfl kit_si
  have q : eqP (.str a) (.str a) = some (.bool true) := by rw [eqP_s, sEq_same]
  have r : eqP (.bool false) (.bool false) = some (.bool true) := rfl
  show fnD 4 (gL_same (sameF n)) _ = _
  rw [fnD_ap]
  have e : startR 4 [PyData.str a, .str a] = [some (.d (.str a)), some (.d (.str a)), none, none] := rfl
  rw [e, gL_same]
  simp only [gSeq_ap, gIf_ap, fB_ap, f1_ap, fV_ap, List.getElem?_cons_zero, List.getElem?_cons_succ, slot_d, ap1_some, t, unB_some, iteO_f, gNx_ap, seqO_nx, gRet_ap, fAnd_ap, fNot_ap, b, Option.map_some, Bool.not_false, andV_t, f2_ap, i, ap2_some, r, q, retO_some, retD_rt]
theorem same_int (n : Nat) (a : Int) : sameF (n + 1) [.int a, .int a] = some (.bool true) := by
  have t := isi_int a
  have b : isiD "bool" (.int a) = some (.bool false) := isi_of rfl kit_ib
  have i : isiD "int" (.int a) = some (.bool true) := isi_of rfl kit_ii
  have q : eqP (.int a) (.int a) = some (.bool true) := by rw [eqP_i, decide_eq_true rfl]
  have r : eqP (.bool true) (.bool true) = some (.bool true) := rfl
  show fnD 4 (gL_same (sameF n)) _ = _
  rw [fnD_ap]
  have e : startR 4 [PyData.int a, .int a] = [some (.d (.int a)), some (.d (.int a)), none, none] := rfl
  rw [e, gL_same]
  simp only [gSeq_ap, gIf_ap, fB_ap, f1_ap, fV_ap, List.getElem?_cons_zero, List.getElem?_cons_succ, slot_d, ap1_some, t, unB_some, iteO_f, gNx_ap, seqO_nx, gRet_ap, fAnd_ap, fNot_ap, b, Option.map_some, Bool.not_false, andV_t, f2_ap, i, ap2_some, r, q, retO_some, retD_rt]
theorem zip_self (ds : List PyData) : zipD ds ds = ds.map fun d => .tuple [d, d] := by
  induction ds with
  | nil => rfl
  | cons d ds ih =>
    unfold zipD at ih ⊢
    rw [List.zip_cons_cons, List.map_cons, ih]; rfl
theorem same_tup (n : Nat) (ds : List PyData) (hl : ds.length ≤ 1000) (h : ∀ d ∈ ds, sameF n [d, d] = some (.bool true)) : sameF (n + 1) [.tuple ds, .tuple ds] = some (.bool true) := by
  have t : isiD "tuple" (.tuple ds) = some (.bool true) := isi_of rfl kit_tt
  have q : neP (.int (ds.length : Nat)) (.int (ds.length : Nat)) = some (.bool false) := by rw [neP_i, decide_eq_true rfl]; rfl
  have lc : fLc (fZT (fV 0) (fV 1)) (b2 2 3) tYesD (fCa 2 (sameF n) (fCons (fV 2) (fCons (fV 3) fNil))) [2, 3] [some (.d (.tuple ds)), some (.d (.tuple ds)), none, none] = some (.list ((ds.map fun _ => true).map .bool)) := by
    have z : fZT (fV 0) (fV 1) [some (.d (.tuple ds)), some (.d (.tuple ds)), none, none] = some (zipD ds ds) := rfl
    rw [fLc_ap, z, zip_self, lcO_some (by rw [List.length_map]; omega)]
    have g := lc_map (bd := b2 2 3) (t := tYesD) (f := fCa 2 (sameF n) (fCons (fV 2) (fCons (fV 3) fNil))) (ρ := wipeR [some (.d (.tuple ds)), some (.d (.tuple ds)), none, none] [2, 3]) (fun d => PyData.tuple [d, d]) (fun _ => PyData.bool true) ds fun d hd => ⟨[some (.d (.tuple ds)), some (.d (.tuple ds)), some (.d d), some (.d d)], rfl, rfl, by
      have := h d hd
      simp only [fCa_ap, fCons_ap, fNil_ap, fV_ap, List.getElem?_cons_zero, List.getElem?_cons_succ, slot_d, consO_some, caO_2, this]⟩
    rw [g, List.map_map]; rfl
  have al : allD (.list ((ds.map fun _ => true).map .bool)) = some (.bool true) := by
    rw [allD_m]
    congr 2
    simp
  show fnD 4 (gL_same (sameF n)) _ = _
  rw [fnD_ap]
  have e : startR 4 [PyData.tuple ds, .tuple ds] = [some (.d (.tuple ds)), some (.d (.tuple ds)), none, none] := rfl
  rw [e, gL_same]
  simp only [gSeq_ap, gIf_ap, fB_ap, f1_ap, fV_ap, List.getElem?_cons_zero, List.getElem?_cons_succ, slot_d, ap1_some, t, unB_some, iteO_t, fOrT_ap, fNotT_ap, Option.map_some, Bool.not_true, orT_f, f2_ap, fCl_ap, fCons_ap, fNil_ap, consO_some, clO_some, one1_ap, lenD_t, ap2_some, q, iteO_f, gNx_ap, seqO_nx, gRet_ap, lc, al, retO_some, seqO_rt, retD_rt]
theorem same_enc : ∀ (s : Sm) (n : Nat), s.depth < n → sameF n [enc s, enc s] = some (.bool true)
  | s, 0, h => by omega
  | s, n + 1, h => by
    have base : ∀ (w : Str), ∀ n, 0 < n → sameF n [.str w, .str w] = some (.bool true) := fun w n hn => by
      obtain ⟨n, rfl⟩ : ∃ k, n = k + 1 := ⟨n - 1, by omega⟩
      exact same_str n w
    have bint : ∀ (w : Int), ∀ n, 0 < n → sameF n [.int w, .int w] = some (.bool true) := fun w n hn => by
      obtain ⟨n, rfl⟩ : ∃ k, n = k + 1 := ⟨n - 1, by omega⟩
      exact same_int n w
    have dp := Sm.depth_pos s
    cases s with
    | mark m =>
      exact same_tup n _ (by simp) fun d hd => by
        simp at hd; rcases hd with rfl | rfl <;> exact base _ n (by simp at h; omega)
    | yes =>
      exact same_tup n _ (by simp) fun d hd => by
        simp at hd; subst hd; exact base _ n (by simp at h; omega)
    | not a | nxt a | bef a =>
      exact same_tup n _ (by simp) fun d hd => by
        simp at hd h
        rcases hd with rfl | rfl
        · exact base _ n (by omega)
        · exact same_enc a n (by omega)
    | wth k a =>
      exact same_tup n _ (by simp) fun d hd => by
        simp at hd h
        rcases hd with rfl | rfl | rfl
        · exact base _ n (by omega)
        · exact bint _ n (by omega)
        · exact same_enc a n (by omega)
    | and a b | or a b | unt a b | sin a b =>
      exact same_tup n _ (by simp) fun d hd => by
        simp at hd h
        rcases hd with rfl | rfl | rfl
        · exact base _ n (by omega)
        · exact same_enc a n (by omega)
        · exact same_enc b n (by omega)
/-! ### _law_odd -/
def oddF : List PyData → Option PyData := fnD 3 gL_odd
def OD1 : List Str := ["", "no", "yes ", " yes", "Yes", "''", "'A'", "'abcdefg'", "(yes)", "not yes", "not(yes, yes)"]
def OD2 : List Str := ["and(yes)", "yes()", "within(yes, 2)", "within(5, yes)", "within(02, yes)", "within(2,yes)"]
def OD3 : List Str := ["not( yes)", "not(yes", "'a", "mark('a')"]
def OD7 : Str := repS "not(" 6 ++ "yes" ++ repS ")" 6
def ODs (m : Str) : List Str := OD1 ++ OD2 ++ OD3 ++ (["or(yes,  yes)", OD7, m, "yes)", "within(2 , yes)"] : List Str)
theorem od_ok : ∀ w ∈ OD1 ++ OD2 ++ OD3 ++ (["or(yes,  yes)", OD7, "yes)", "within(2 , yes)"] : List Str), w.length ≤ 90000 ∧ ∀ c ∈ tl w, c < 1114112 := by decide +kernel
theorem ods_gd {m : Str} (hm : GdS m) : ∀ w ∈ ODs m, GdS w := by
  intro w hw
  have e : w ∈ OD1 ++ OD2 ++ OD3 ++ (["or(yes,  yes)", OD7, "yes)", "within(2 , yes)"] : List Str) ∨ w = m := by
    simp only [ODs, List.mem_append, List.mem_cons, List.not_mem_nil, or_false] at hw ⊢
    rcases hw with h | h | h | h | h | h
    · exact .inl (.inl h)
    · exact .inl (.inr (.inl h))
    · exact .inl (.inr (.inr (.inl h)))
    · exact .inr h
    · exact .inl (.inr (.inr (.inr (.inl h))))
    · exact .inl (.inr (.inr (.inr (.inr h))))
  rcases e with h | rfl
  · exact od_ok w h
  · exact hm
theorem at_strs {L : List Str} {k : Int} (h0 : 0 ≤ k) (h1 : k < L.length) : ∃ w, L[k.toNat]? = some w ∧ w ∈ L ∧ atI (L.map PyData.str) k = some (.str w) := by
  have hk : k.toNat < L.length := by omega
  refine ⟨L[k.toNat], List.getElem?_eq_getElem hk, List.getElem_mem hk, ?_⟩
  have := atI_nat (xs := L.map PyData.str) (j := k.toNat) (v := .str L[k.toNat]) (by rw [List.getElem?_map, List.getElem?_eq_getElem hk]; rfl)
  rwa [show ((k.toNat : Nat) : Int) = k by omega] at this
theorem timesSD_s {a : Str} {k : Int} (h : (2 ≤ k ∧ k ≤ 100) ∧ (1 ≤ a.length ∧ a.length ≤ 100)) : timesSD (.str a) (.int k) = some (.str (repS a k.toNat)) := if_pos h
theorem odd_eq {m : Str} (hm : GdS m) (k : Int) : ∃ w, oddF [.int k, .str m] = some (.str w) ∧ GdS w := by
  have h0 : 0 ≤ k % 26 := Int.emod_nonneg _ (by decide)
  have h1 : k % 26 < 26 := Int.emod_lt_of_pos _ (by decide)
  have l26 : (ODs m).length = 26 := rfl
  obtain ⟨w, _, hw, hx⟩ := at_strs (L := ODs m) h0 (by rw [l26]; exact h1)
  refine ⟨w, ?_, ods_gd hm w hw⟩
  have md : modD (.int k) (.int 26) = some (.int (k % 26)) := modD_i (by decide)
  have t1 : timesSD (.str "not(") (.int 6) = some (.str (repS "not(" 6)) := timesSD_s (by decide)
  have t2 : timesSD (.str ")") (.int 6) = some (.str (repS ")" 6)) := timesSD_s (by decide)
  have a1 : addD (.str (repS "not(" 6)) (.str "yes") = some (.str (repS "not(" 6 ++ "yes")) := addD_s (by decide +kernel)
  have a2 : addD (.str (repS "not(" 6 ++ "yes")) (.str (repS ")" 6)) = some (.str OD7) := addD_s (by decide +kernel)
  have g1 : fLst (fCons (fC (.str "")) (fCons (fC (.str "no")) (fCons (fC (.str "yes ")) (fCons (fC (.str " yes")) (fCons (fC (.str "Yes")) (fCons (fC (.str "''")) (fCons (fC (.str "'A'")) (fCons (fC (.str "'abcdefg'")) (fCons (fC (.str "(yes)")) (fCons (fC (.str "not yes")) (fCons (fC (.str "not(yes, yes)")) fNil))))))))))) = fun _ => some (.list (OD1.map .str)) := rfl
  have g2 : fLst (fCons (fC (.str "and(yes)")) (fCons (fC (.str "yes()")) (fCons (fC (.str "within(yes, 2)")) (fCons (fC (.str "within(5, yes)")) (fCons (fC (.str "within(02, yes)")) (fCons (fC (.str "within(2,yes)")) fNil)))))) = fun _ => some (.list (OD2.map .str)) := rfl
  have g3 : fLst (fCons (fC (.str "not( yes)")) (fCons (fC (.str "not(yes")) (fCons (fC (.str "'a")) (fCons (fC (.str "mark('a')")) fNil)))) = fun _ => some (.list (OD3.map .str)) := rfl
  have d1 : addD (.list (OD1.map .str)) (.list (OD2.map .str)) = some (.list ((OD1 ++ OD2).map .str)) := by rw [addD_l (by decide), List.map_append]
  have d2 : addD (.list ((OD1 ++ OD2).map .str)) (.list (OD3.map .str)) = some (.list ((OD1 ++ OD2 ++ OD3).map .str)) := by rw [addD_l (by decide), List.map_append (l₁ := OD1 ++ OD2)]
  have d3 : addD (.list ((OD1 ++ OD2 ++ OD3).map .str)) (.list [.str "or(yes,  yes)", .str OD7, .str m, .str "yes)", .str "within(2 , yes)"]) = some (.list ((ODs m).map .str)) := by
    rw [addD_l (by simp [OD1, OD2, OD3]), ODs, List.map_append (l₁ := OD1 ++ OD2 ++ OD3)]; rfl
  unfold oddF
  rw [fnD_ap]
  have e : startR 3 [PyData.int k, .str m] = [some (.d (.int k)), some (.d (.str m)), none] := rfl
  rw [e, gL_odd, g1, g2, g3]
  have l5 : lstO (some [PyData.str "or(yes,  yes)", .str OD7, .str m, .str "yes)", .str "within(2 , yes)"]) = some (.list [.str "or(yes,  yes)", .str OD7, .str m, .str "yes)", .str "within(2 , yes)"]) := rfl
  simp only [gSeq_ap, gSet_ap, setO_some, List.set_cons_succ, List.set_cons_zero, seqO_nx, f2_ap, fV_ap, List.getElem?_cons_zero, List.getElem?_cons_succ, slot_d, ap2_some, d1, d2, gRet_ap, fLst_ap, fCons_ap, fNil_ap, fC_ap, t1, t2, a1, a2, consO_some, l5, d3, md, ixD_l, hx, retO_some, retD_rt]
/-! ### _law_bent -/
theorem sl_to (z : Str) (hz : z.length ≤ 90000) (k : Nat) : slD none (some (k : Int)) (.str z) = some (.str (strOf ((tl z).take k))) := by
  rw [slD_s (by omega)]
  congr 2
  exact tl_inj (by rw [cut_to, tl_strOf])
theorem sl_from (z : Str) (hz : z.length ≤ 90000) (k : Nat) : slD (some (k : Int)) none (.str z) = some (.str (strOf ((tl z).drop k))) := by
  rw [slD_s (by omega)]
  congr 2
  exact tl_inj (by rw [cut_from, tl_strOf])
theorem gd_of {w : List Nat} (h : w.length ≤ 90000) (g : ∀ c ∈ w, c < 1114112) : GdS (strOf w) := ⟨by rw [len_tl, tl_strOf]; exact h, by rw [tl_strOf]; exact g⟩
theorem add_w {a b : List Nat} (h : a.length + b.length ≤ 100000) : addD (.str (strOf a)) (.str (strOf b)) = some (.str (strOf (a ++ b))) := by
  rw [addD_s (by rw [len_tl, len_tl, tl_strOf, tl_strOf]; exact h)]
  congr 2
  exact tl_inj (by rw [tl_append, tl_strOf, tl_strOf, tl_strOf])
theorem at_sign {z : Str} (hz : z.length ≤ 90000) {k : Int} (h0 : 0 ≤ k) (h1 : k < (tl z).length) : ∃ c, c ∈ tl z ∧ ixD (.str z) (.int k) = some (.str (strOf [c])) := by
  have hk : k.toNat < (tl z).length := by omega
  have hd : (tl z).drop k.toNat = (tl z)[k.toNat] :: (tl z).drop (k.toNat + 1) := List.drop_eq_getElem_cons hk
  have := ix_n z hz hd
  rw [show ((k.toNat : Nat) : Int) = k by omega] at this
  exact ⟨(tl z)[k.toNat], List.getElem_mem hk, this⟩
def SIGNS : Str := "()', ynotaduwis02345zA\t"
theorem signs_ok : (tl SIGNS).length = 23 ∧ ∀ c ∈ tl SIGNS, c < 1114112 := by decide +kernel
/-! the pieces -/
theorem spl_ne (S : List Nat) : ∀ (w : List Nat) (n : Nat) (acc : List Nat), spl S n acc w ≠ []
  | [], n, acc => by cases n <;> simp [spl]
  | c :: r, 0, acc => by
    rw [spl]
    split
    · simp
    · exact spl_ne S r 0 _
  | c :: r, n + 1, acc => by rw [spl]; exact spl_ne S r n acc
theorem joinL_mem {S : List Nat} : ∀ (L : List (List Nat)) (p : List Nat), p ∈ L → ∀ c ∈ p, c ∈ joinL S L
  | [], p, h, c, hc => by cases h
  | [x], p, h, c, hc => by simp at h; subst h; simpa [joinL] using hc
  | x :: y :: L, p, h, c, hc => by
    rw [joinL]
    rcases List.mem_cons.mp h with rfl | h
    · simp [hc]
    · have := joinL_mem (S := S) (y :: L) p h c hc
      simp [this]
theorem joinL_sub {S : List Nat} : ∀ (L : List (List Nat)) (c : Nat), c ∈ joinL S L → c ∈ S ∨ ∃ p ∈ L, c ∈ p
  | [], c, h => by simp [joinL] at h
  | [x], c, h => .inr ⟨x, by simp, by simpa [joinL] using h⟩
  | x :: y :: L, c, h => by
    rw [joinL] at h
    rcases List.mem_append.mp h with h | h
    · exact .inr ⟨x, by simp, h⟩
    · rcases List.mem_append.mp h with h | h
      · exact .inl h
      · rcases joinL_sub (y :: L) c h with h | ⟨p, hp, h⟩
        · exact .inl h
        · exact .inr ⟨p, by simp [hp], h⟩
theorem joinL_len {S : List Nat} : ∀ (L : List (List Nat)), L ≠ [] → (joinL S L).length + S.length = (L.map List.length).sum + L.length * S.length
  | [], h => absurd rfl h
  | [x], _ => by simp [joinL]
  | x :: y :: L, _ => by
    have := joinL_len (S := S) (y :: L) (by simp)
    rw [joinL, List.length_append, List.length_append, List.map_cons, List.sum_cons, List.length_cons, Nat.succ_mul]
    omega
theorem sum_set (L : List (List Nat)) (v : List Nat) : ∀ i : Nat, ((L.set i v).map List.length).sum ≤ (L.map List.length).sum + v.length := by
  induction L with
  | nil => intro i; simp
  | cons x L ih =>
    intro i
    cases i with
    | zero => simp; omega
    | succ i => have := ih i; simp only [List.set_cons_succ, List.map_cons, List.sum_cons]; omega
theorem pieces (z : Str) : (Txt.split z ", ").map tl ≠ [] ∧ joinL [44, 32] ((Txt.split z ", ").map tl) = tl z := by
  have k : ¬ Builtin.Str.strKind z < Builtin.Str.strKind (", " : Str) := kind_ok (by decide +kernel)
  have s := split_spl z ", " (by rw [t4432]; simp) k
  refine ⟨by rw [s]; exact spl_ne _ _ _ _, ?_⟩
  have j := congrArg tl (PySem.StrLaws.join_split z ", ")
  rw [tl_join, t4432] at j
  exact j
end My

namespace My
open PySem L2 Dn TL
def bentF : List PyData → Option PyData := fnD 10 (gL_bent oddF)
theorem seti_ap {i : Nat} {ρ : Rho} {o : Option Addr} {xs : List PyData} {y : PyData} {k : Int} (h0 : 0 ≤ k) (h1 : k < xs.length) : setiO i ρ (some (some (.own o xs))) (some y) (some (.int k)) = some (.nx (ρ.set i (some (.own o (xs.set k.toNat y))))) := by
  unfold setiO
  simp only
  unfold ixN
  rw [if_pos h0, if_pos (by exact h1)]
  rfl
theorem le_sum_mem : ∀ (L : List Nat) {x : Nat}, x ∈ L → x ≤ L.sum
  | [], x, h => by cases h
  | y :: L, x, h => by
    rw [List.sum_cons]
    rcases List.mem_cons.mp h with rfl | h
    · omega
    · have := le_sum_mem L h; omega
theorem bent_swap {z : Str} (hz : GdS z) (hl : z.length ≤ 5000) (x1 x2 : PyData) (c : Int) (hc : x1 = .int c) (x3 x4 x5 : Option Sv) :
    ∃ U, retD ((gSeq (gOwnF 6 (fMtF splitF (fV 0) (fCons (fC (.str ", ")) fNil))) (gSeq (gSet 7 (f2 modD (f2 fdivD (fV 1) (fC (.int 8))) (f1 (flatG lenD) (fOwn 6)))) (gSeq (gSet 8 (f2 modD (f2 fdivD (fV 1) (fC (.int 80))) (f1 (flatG lenD) (fOwn 6)))) (gSeq (gSet 9 (fIxO 6 (fV 7))) (gSeq (gSeti 6 (fIxO 6 (fV 8)) (fV 7)) (gSeq (gSeti 6 (fV 9) (fV 8)) (fun ρ => (gRet (fMt joinD (fC (.str ", ")) (fCons (fV 6) fNil))) (frz 6 ρ))))))))
      [some (.d (.str z)), some (.d x1), some (.d x2), x3, x4, x5, none, none, none, none]) = some (.str U) ∧ GdS U := by
  subst hc
  obtain ⟨ne, jn⟩ := pieces z
  have sp : splitF (.str z) [.str ", "] = some ((Txt.split z ", ").map .str) := by
    unfold splitF
    simp only
    rw [if_pos ⟨by decide +kernel, by show _ ≤ 100000; omega⟩]
  have jl := joinL_len (S := [44, 32]) _ ne
  rw [jn] at jl
  have zl := len_tl z
  generalize Txt.split z ", " = L at *
  have Lp : 0 < L.length := by
    cases L with
    | nil => exact absurd rfl ne
    | cons a b => simp
  have L1 : L.length ≤ 5001 := by
    rw [List.length_map, show ([44, 32] : List Nat).length = 2 from rfl] at jl; omega
  have S1 : ((L.map tl).map List.length).sum ≤ 5002 := by
    rw [List.length_map, show ([44, 32] : List Nat).length = 2 from rfl] at jl; omega
  have mem : ∀ w ∈ L, ∀ c ∈ tl w, c ∈ tl z := fun w hw c hc => by
    rw [← jn]; exact joinL_mem _ (tl w) (List.mem_map_of_mem hw) c hc
  have wl : ∀ w ∈ L, (tl w).length ≤ 5002 := fun w hw => by
    have : (tl w).length ≤ ((L.map tl).map List.length).sum := by
      refine le_sum_mem _ ?_
      exact List.mem_map_of_mem (List.mem_map_of_mem hw)
    omega
  have i0 : 0 ≤ c / 8 % (L.length : Int) := Int.emod_nonneg _ (by omega)
  have i1 : c / 8 % (L.length : Int) < L.length := Int.emod_lt_of_pos _ (by omega)
  have j0 : 0 ≤ c / 80 % (L.length : Int) := Int.emod_nonneg _ (by omega)
  have j1 : c / 80 % (L.length : Int) < L.length := Int.emod_lt_of_pos _ (by omega)
  have m1 : modD (.int (c / 8)) (.int (L.length : Nat)) = some (.int (c / 8 % (L.length : Int))) := modD_i (by omega)
  have m2 : modD (.int (c / 80)) (.int (L.length : Nat)) = some (.int (c / 80 % (L.length : Int))) := modD_i (by omega)
  have f1 : fdivD (.int c) (.int 8) = some (.int (c / 8)) := fdivD_i (by decide)
  have f2' : fdivD (.int c) (.int 80) = some (.int (c / 80)) := fdivD_i (by decide)
  generalize c / 8 % (L.length : Int) = i at *
  generalize c / 80 % (L.length : Int) = j at *
  obtain ⟨p, pe, pm, pa⟩ := at_strs i0 i1
  obtain ⟨q, qe, qm, qa⟩ := at_strs j0 j1
  have ll : lenD (.list (L.map PyData.str)) = some (.int (L.length : Nat)) := by rw [lenD_l, List.length_map]
  have s1 : ∀ ρ o y, setiO 6 ρ (some (some (.own o (L.map PyData.str)))) (some (.str y)) (some (.int i)) = some (.nx (ρ.set 6 (some (.own o ((L.set i.toNat y).map PyData.str))))) := fun ρ o y => by
    rw [seti_ap i0 (by rw [List.length_map]; exact i1), List.map_set]
  have s2 : ∀ ρ o, setiO 6 ρ (some (some (.own o ((L.set i.toNat q).map PyData.str)))) (some (.str p)) (some (.int j)) = some (.nx (ρ.set 6 (some (.own o (((L.set i.toNat q).set j.toNat p).map PyData.str))))) := fun ρ o => by
    rw [seti_ap j0 (by rw [List.length_map, List.length_set]; exact j1), List.map_set (l := L.set i.toNat q)]
  have Me : ∀ w ∈ (L.set i.toNat q).set j.toNat p, w ∈ L := fun w hw => by
    rcases List.mem_or_eq_of_mem_set hw with h | h
    · rcases List.mem_or_eq_of_mem_set h with h | h
      · exact h
      · rw [h]; exact qm
    · rw [h]; exact pm
  have Sm2 : ((((L.set i.toNat q).set j.toNat p).map tl).map List.length).sum ≤ 15006 := by
    have a1 := sum_set ((L.map tl)) (tl q) i.toNat
    have a2 := sum_set ((L.map tl).set i.toNat (tl q)) (tl p) j.toNat
    have b1 := wl p pm
    have b2 := wl q qm
    rw [List.map_set (f := tl), List.map_set (f := tl)]
    omega
  have Ln : ((L.set i.toNat q).set j.toNat p).length = L.length := by rw [List.length_set, List.length_set]
  generalize (L.set i.toNat q).set j.toNat p = M at *
  have jd : joinD (.str ", ") [.list (M.map .str)] = some (.str (Txt.join ", " M)) := by
    unfold joinD
    simp only [strsD_map, Option.bind_some]
    have l2 : (", " : Str).length = 2 := rfl
    rw [if_pos]
    rw [l2]
    have : (M.map (·.length)).sum = ((M.map tl).map List.length).sum := by
      rw [List.map_map, List.map_congr_left fun w _ => len_tl w]
      rfl
    rw [this]
    show _ ≤ 100000
    omega
  have tj : tl (Txt.join ", " M) = joinL [44, 32] (M.map tl) := by rw [join_eq, tl_join, t4432]
  refine ⟨Txt.join ", " M, ?_, ?_⟩
  · simp only [gSeq_ap, gOwnF_ap]
    have fm : fMtF splitF (fV 0) (fCons (fC (.str ", ")) fNil) [some (.d (.str z)), some (.d (.int c)), some (.d x2), x3, x4, x5, none, none, none, none] = some (L.map .str) := sp
    rw [fm]
    simp only [ownFO_some, seqO_nx, List.set_cons_succ, List.set_cons_zero, gSeq_ap, gSet_ap, f2_ap, fV_ap, fC_ap, f1_ap, fOwn_ap, List.getElem?_cons_zero, List.getElem?_cons_succ, slot_d, ownV_o, ap1_some, flatG_ap, ll, flatO_i, ap2_some, f1, f2', m1, m2, setO_some, fIxO_ap, ixD_l, pa, qa, flatO_s, gSeti_ap, s1, s2, frz_ap, frzO_o, gRet_ap, fMt_ap, fCons_ap, fNil_ap, consO_some, mtO_some, jd, retO_some, retD_rt]
  · constructor
    · rw [len_tl, tj]
      have mne : M.map tl ≠ [] := fun e => by
        have e2 : M = [] := List.map_eq_nil_iff.mp e
        rw [e2, List.length_nil] at Ln; omega
      have := joinL_len (S := [44, 32]) _ mne
      rw [List.length_map, Ln, show ([44, 32] : List Nat).length = 2 from rfl] at this
      omega
    · intro c hc
      rw [tj] at hc
      rcases joinL_sub _ c hc with h | ⟨w, hw, h⟩
      · simp at h; omega
      · obtain ⟨v, hv, rfl⟩ := List.mem_map.mp hw
        exact hz.2 c (mem v (Me v hv) c h)
theorem bent_eq {z m : Str} (hz : GdS z) (hl : z.length ≤ 5000) (hm : GdS m) (c : Int) : ∃ U, bentF [.str z, .int c, .str m] = some (.str U) ∧ GdS U := by
  have zl := len_tl z
  have l := lenz z hz.1
  have a0 : 0 ≤ c / 4 % (((tl z).length : Int) + 1) := Int.emod_nonneg _ (by omega)
  have a1 : c / 4 % (((tl z).length : Int) + 1) < ((tl z).length : Int) + 1 := Int.emod_lt_of_pos _ (by omega)
  have m1 : modD (.int (c / 4)) (.int (((tl z).length : Int) + 1)) = some (.int (c / 4 % (((tl z).length : Int) + 1))) := modD_i (by omega)
  have f4 : fdivD (.int c) (.int 4) = some (.int (c / 4)) := fdivD_i (by decide)
  have f400 : fdivD (.int c) (.int 400) = some (.int (c / 400)) := fdivD_i (by decide)
  have f8 : fdivD (.int c) (.int 8) = some (.int (c / 8)) := fdivD_i (by decide)
  have b0 : 0 ≤ c / 400 % 23 := Int.emod_nonneg _ (by decide)
  have b1 : c / 400 % 23 < 23 := Int.emod_lt_of_pos _ (by decide)
  have m23 : modD (.int (c / 400)) (.int 23) = some (.int (c / 400 % 23)) := modD_i (by decide)
  have m8 : modD (.int c) (.int 8) = some (.int (c % 8)) := modD_i (by decide)
  obtain ⟨sg, sm, sx⟩ := at_sign (z := SIGNS) (by decide +kernel) b0 (by rw [signs_ok.1]; exact b1)
  have sx : ixD (.str "()', ynotaduwis02345zA\t") (.int (c / 400 % 23)) = some (.str (strOf [sg])) := sx
  have sgl := signs_ok.2 sg sm
  generalize ha : c / 4 % (((tl z).length : Int) + 1) = a at *
  obtain ⟨n, rfl⟩ : ∃ n : Nat, a = n := ⟨a.toNat, by omega⟩
  have t1 := sl_to z hz.1 n
  have t2 := sl_from z hz.1 n
  have t3 := sl_from z hz.1 (n + 1)
  have an : addD (.int (n : Int)) (.int 1) = some (.int ((n + 1 : Nat) : Int)) := rfl
  have lt : ((tl z).take n).length ≤ 5000 := by rw [List.length_take]; omega
  have ld : ((tl z).drop n).length ≤ 5000 := by rw [List.length_drop]; omega
  have ld1 : ((tl z).drop (n + 1)).length ≤ 5000 := by rw [List.length_drop]; omega
  have ct : ∀ x ∈ (tl z).take n, x < 1114112 := fun x hx => hz.2 x (List.mem_of_mem_take hx)
  have cd : ∀ x ∈ (tl z).drop n, x < 1114112 := fun x hx => hz.2 x (List.mem_of_mem_drop hx)
  have cd1 : ∀ x ∈ (tl z).drop (n + 1), x < 1114112 := fun x hx => hz.2 x (List.mem_of_mem_drop hx)
  have w1 : addD (.str (strOf ((tl z).take n))) (.str (strOf [sg])) = some (.str (strOf ((tl z).take n ++ [sg]))) := add_w (by simp only [List.length_singleton]; omega)
  have w2 : addD (.str (strOf ((tl z).take n ++ [sg]))) (.str (strOf ((tl z).drop n))) = some (.str (strOf ((tl z).take n ++ [sg] ++ (tl z).drop n))) := add_w (by simp only [List.length_append, List.length_singleton]; omega)
  have w3 : addD (.str (strOf ((tl z).take n ++ [sg]))) (.str (strOf ((tl z).drop (n + 1)))) = some (.str (strOf ((tl z).take n ++ [sg] ++ (tl z).drop (n + 1)))) := add_w (by simp only [List.length_append, List.length_singleton]; omega)
  have w4 : addD (.str (strOf ((tl z).take n))) (.str (strOf ((tl z).drop (n + 1)))) = some (.str (strOf ((tl z).take n ++ (tl z).drop (n + 1)))) := add_w (by omega)
  have e : startR 10 [PyData.str z, .int c, .str m] = [some (.d (.str z)), some (.d (.int c)), some (.d (.str m)), none, none, none, none, none, none, none] := rfl
  unfold bentF
  rw [fnD_ap, e, gL_bent]
  have hd : ∀ G : Rho → Option Out, seqO G (gSet 3 (f2 modD (f2 fdivD (fV 1) (fC (.int 4))) (f2 addD (fCl (one1 lenD) (fCons (fV 0) fNil)) (fC (.int 1)))) [some (.d (.str z)), some (.d (.int c)), some (.d (.str m)), none, none, none, none, none, none, none]) = G [some (.d (.str z)), some (.d (.int c)), some (.d (.str m)), some (.d (.int (n : Int))), none, none, none, none, none, none] := fun G => by
    simp only [gSet_ap, f2_ap, fV_ap, fC_ap, fCl_ap, fCons_ap, fNil_ap, List.getElem?_cons_zero, List.getElem?_cons_succ, slot_d, consO_some, clO_some, one1_ap, ap2_some, l, f4, addD_i, m1, setO_some, List.set_cons_succ, List.set_cons_zero, seqO_nx]
  rw [gSeq_ap, hd, gSeq_ap]
  simp only [gSet_ap, f2_ap, fV_ap, fC_ap, List.getElem?_cons_zero, List.getElem?_cons_succ, slot_d, ap2_some, f400, m23, sx, setO_some, List.set_cons_succ, List.set_cons_zero, seqO_nx]
  rw [gSeq_ap]
  simp only [gSet_ap, f2_ap, fV_ap, fC_ap, List.getElem?_cons_zero, List.getElem?_cons_succ, slot_d, ap2_some, m8, setO_some, List.set_cons_succ, List.set_cons_zero, seqO_nx]
  rw [gSeq_ap, gIf_ap]
  simp only [fB_ap, f2_ap, fV_ap, fC_ap, List.getElem?_cons_zero, List.getElem?_cons_succ, slot_d, ap2_some, eqP_i, unB_some]
  by_cases h0 : c % 8 = 0
  · rw [decide_eq_true h0]
    refine ⟨strOf ((tl z).take n ++ [sg] ++ (tl z).drop n), ?_, gd_of (by simp only [List.length_append, List.length_singleton]; omega) fun x hx => ?_⟩
    · simp only [iteO_t, gRet_ap, f2_ap, fSl_ap, fO_ap, fO0_ap, fV_ap, List.getElem?_cons_zero, List.getElem?_cons_succ, slot_d, intO_some, slO_some, t1, t2, ap2_some, w1, w2, retO_some, seqO_rt, retD_rt]
    · rcases List.mem_append.mp hx with hx | hx
      · rcases List.mem_append.mp hx with hx | hx
        · exact ct x hx
        · simp at hx; omega
      · exact cd x hx
  rw [decide_eq_false h0]
  simp only [iteO_f, gNx_ap, seqO_nx]
  rw [gSeq_ap, gIf_ap]
  simp only [fB_ap, f2_ap, fV_ap, fC_ap, List.getElem?_cons_zero, List.getElem?_cons_succ, slot_d, ap2_some, eqP_i, unB_some]
  by_cases h1 : c % 8 = 1
  · rw [decide_eq_true h1]
    refine ⟨strOf ((tl z).take n ++ (tl z).drop (n + 1)), ?_, gd_of (by simp only [List.length_append]; omega) fun x hx => ?_⟩
    · simp only [iteO_t, gRet_ap, f2_ap, fSl_ap, fO_ap, fO0_ap, fV_ap, fC_ap, List.getElem?_cons_zero, List.getElem?_cons_succ, slot_d, intO_some, slO_some, an, t1, t3, ap2_some, w4, retO_some, seqO_rt, retD_rt]
    · rcases List.mem_append.mp hx with hx | hx
      · exact ct x hx
      · exact cd1 x hx
  rw [decide_eq_false h1]
  simp only [iteO_f, gNx_ap, seqO_nx]
  rw [gSeq_ap, gIf_ap]
  simp only [fB_ap, f2_ap, fV_ap, fC_ap, List.getElem?_cons_zero, List.getElem?_cons_succ, slot_d, ap2_some, eqP_i, unB_some]
  by_cases h2 : c % 8 = 2
  · rw [decide_eq_true h2]
    refine ⟨strOf ((tl z).take n ++ [sg] ++ (tl z).drop (n + 1)), ?_, gd_of (by simp only [List.length_append, List.length_singleton]; omega) fun x hx => ?_⟩
    · simp only [iteO_t, gRet_ap, f2_ap, fSl_ap, fO_ap, fO0_ap, fV_ap, fC_ap, List.getElem?_cons_zero, List.getElem?_cons_succ, slot_d, intO_some, slO_some, an, t1, t3, ap2_some, w1, w3, retO_some, seqO_rt, retD_rt]
    · rcases List.mem_append.mp hx with hx | hx
      · rcases List.mem_append.mp hx with hx | hx
        · exact ct x hx
        · simp at hx; omega
      · exact cd1 x hx
  rw [decide_eq_false h2]
  simp only [iteO_f, gNx_ap, seqO_nx]
  rw [gSeq_ap, gIf_ap]
  simp only [fB_ap, f2_ap, fV_ap, fC_ap, List.getElem?_cons_zero, List.getElem?_cons_succ, slot_d, ap2_some, eqP_i, unB_some]
  by_cases h3 : c % 8 = 3
  · rw [decide_eq_true h3, iteO_t]
    obtain ⟨U, hU, gU⟩ := bent_swap hz hl (.int c) (.str m) c rfl (some (.d (.int (n : Int)))) (some (.d (.str (strOf [sg])))) (some (.d (.int (c % 8))))
    refine ⟨U, ?_, gU⟩
    have key : ∀ (o : Option Out) (G : Rho → Option Out), (∀ ρ, o ≠ some (.nx ρ)) → seqO G o = o := fun o G h => by
      cases o with
      | none => rfl
      | some o => cases o with
        | nx ρ => exact absurd rfl (h ρ)
        | _ => rfl
    rw [key _ _ fun ρ h => by rw [h] at hU; cases hU]
    exact hU
  rw [decide_eq_false h3]
  simp only [iteO_f, gNx_ap, seqO_nx]
  rw [gSeq_ap, gIf_ap]
  simp only [fB_ap, f2_ap, fV_ap, fC_ap, List.getElem?_cons_zero, List.getElem?_cons_succ, slot_d, ap2_some, eqP_i, unB_some]
  by_cases h4 : c % 8 = 4
  · rw [decide_eq_true h4]
    obtain ⟨U, hU, gU⟩ := odd_eq hm (c / 8)
    refine ⟨U, ?_, gU⟩
    simp only [iteO_t, gRet_ap, fCa_ap, fCons_ap, fNil_ap, f2_ap, fV_ap, fC_ap, List.getElem?_cons_zero, List.getElem?_cons_succ, slot_d, ap2_some, f8, consO_some, caO_2, hU, retO_some, seqO_rt, retD_rt]
  rw [decide_eq_false h4]
  refine ⟨z, ?_, hz⟩
  simp only [iteO_f, gNx_ap, seqO_nx, gRet_ap, fV_ap, List.getElem?_cons_zero, List.getElem?_cons_succ, slot_d, retO_some, retD_rt]
end My

namespace My
open PySem L2 Dn TL
theorem tx_codes : ∀ (s : Sm), s.Fine → ∀ c ∈ txL s, c ≤ 122
  | .mark m, h, c, hc => by
    have ab := (show Ltr m from h).ab
    simp only [txL, List.mem_cons, List.mem_append, List.not_mem_nil, or_false] at hc
    rcases hc with rfl | hc | rfl
    · decide
    · have := ab c hc; omega
    · decide
  | .yes, h, c, hc => by simp [txL] at hc; omega
  | .not s, h, c, hc | .nxt s, h, c, hc | .bef s, h, c, hc => by
    have ih := tx_codes s h c
    simp [txL] at hc
    rcases hc with hc | hc | hc | hc | hc | hc | hc | hc | hc <;> first | omega | exact ih hc
  | .wth k s, h, c, hc => by
    have ih := tx_codes s h.2.2 c
    have h1 := h.1
    have h2 := h.2.1
    simp [txL] at hc
    rcases hc with hc | hc | hc | hc | hc | hc | hc | hc | hc | hc | hc | hc <;> first | omega | exact ih hc
  | .and s t, h, c, hc | .or s t, h, c, hc | .unt s t, h, c, hc | .sin s t, h, c, hc => by
    have ih := tx_codes s h.1 c
    have ih2 := tx_codes t h.2 c
    simp [txL] at hc
    repeat' (first | (rcases hc with hc | hc) | omega | exact ih hc | exact ih2 hc)
theorem gd_tx {s : Sm} (h : s.Fine) (hd : s.depth ≤ 8) : GdS (txS s) := by
  refine ⟨by have := txS_len h hd; omega, fun c hc => ?_⟩
  rw [tl_txS] at hc
  have := tx_codes s h c hc
  omega
theorem gd_ltr {m : Str} (h : Ltr m) : GdS m := ⟨by have := h.hi; omega, fun c hc => by have := h.ab c hc; omega⟩
theorem no_thing (k : Int) : ∃ d, ixD (.list [.none, .int 5, .list [.str "yes"], .tuple [.str "yes"], .bool true]) (.int (k % 5)) = some d ∧ tyNeD "str" d = some (.bool true) := by
  have h0 : 0 ≤ k % 5 := Int.emod_nonneg _ (by decide)
  have h1 : k % 5 < 5 := Int.emod_lt_of_pos _ (by decide)
  have h : k % 5 = 0 ∨ k % 5 = 1 ∨ k % 5 = 2 ∨ k % 5 = 3 ∨ k % 5 = 4 := by omega
  rcases h with h | h | h | h | h <;> rw [h]
  · exact ⟨_, rfl, rfl⟩
  · exact ⟨_, rfl, rfl⟩
  · exact ⟨_, rfl, rfl⟩
  · exact ⟨_, rfl, rfl⟩
  · exact ⟨_, rfl, rfl⟩
abbrev lawB : Rho → Option Out := (gSeq (gSet 6 (fCa 1 ldueF (fCons (fV 5) fNil))) (gSeq (gIf (fAndT (fB (f2 isNoneD (fV 6) (fC .none))) (fNotT (fB (fCa 1 refusedF (fCons (fV 5) fNil))))) (gRet (fC (.bool false))) gNx) (gIf (fAndT (fB (f2 notNoneD (fV 6) (fC .none))) (fOrT (fB (fCa 1 refusedF (fCons (fV 5) fNil))) (fNotT (fB (fCa 2 (sameF 7) (fCons (fCa 1 (okF readF) (fCons (fV 5) fNil)) (fCons (fV 6) fNil))))))) (gRet (fC (.bool false))) gNx)))
theorem law_turn {U : Str} (g : GdS U) (x0 x1 x2 x3 x4 x6 : Option Sv) : ∃ ρ5 ρ6, lawB [x0, x1, x2, x3, x4, some (.d (.str U)), x6] = some (.nx [x0, x1, x2, x3, x4, some (.d ρ5), some (.d ρ6)]) := by
  have d := due_eq U g
  have r := refused_eq U g
  have re := read_eq U g
  rw [readers_agree] at r re
  cases hd : dueP (tl U) with
  | none =>
    rw [hd] at d r
    have r' : refusedF [.str U] = some (.bool true) := r
    have n1 : isNoneD .none .none = some (.bool true) := rfl
    have n2 : notNoneD .none .none = some (.bool false) := rfl
    refine ⟨.str U, .none, ?_⟩
    simp only [lawB, gSeq_ap, gSet_ap, fCa_ap, fCons_ap, fNil_ap, fV_ap, fC_ap, List.getElem?_cons_zero, List.getElem?_cons_succ, slot_d, consO_some, caO_1, d, optD, setO_some, List.set_cons_succ, List.set_cons_zero, seqO_nx, gIf_ap, fAndT_ap, fB_ap, f2_ap, ap2_some, n1, n2, unB_some, andT_t, andT_f, fNotT_ap, r', Option.map_some, Bool.not_true, iteO_f, gNx_ap]
  | some s =>
    rw [hd] at d r re
    have r' : refusedF [.str U] = some (.bool false) := r
    have n1 : isNoneD (enc s) .none = some (.bool false) := none_enc s
    have n2 : notNoneD (enc s) .none = some (.bool true) := by cases s <;> rfl
    have rd : okF readF [.str U] = some (enc s) := by
      unfold okF
      rw [re]; rfl
    have dp : s.depth < 7 := by
      unfold dueP at hd
      split at hd
      · rename_i s' h
        cases hd
        obtain ⟨_, _, q⟩ := lawP_sound 6 _ _ _ h
        omega
      · cases hd
    have sm := same_enc s 7 dp
    refine ⟨.str U, enc s, ?_⟩
    simp only [lawB, gSeq_ap, gSet_ap, fCa_ap, fCons_ap, fNil_ap, fV_ap, fC_ap, List.getElem?_cons_zero, List.getElem?_cons_succ, slot_d, consO_some, caO_1, caO_2, d, optD, setO_some, List.set_cons_succ, List.set_cons_zero, seqO_nx, gIf_ap, fAndT_ap, fOrT_ap, fB_ap, f2_ap, ap2_some, n1, n2, unB_some, andT_t, andT_f, orT_f, fNotT_ap, r', rd, sm, Option.map_some, Bool.not_true, iteO_f, gNx_ap]
theorem kit_ss : kitB "str" "str" = some true := by decide +kernel
/-- THE LAW -/
theorem law_eq (ns : List Int) : fnD 7 (glaw cellF namesF builtF (writF 7) (ltextF 7) refusedF bentF ldueF (okF readF) (sameF 7)) [dI ns] = some (.bool true) := by
  obtain ⟨a, b, d, nm, ha, hb, hd⟩ := names_eq (cellAt ns 0)
  have c0 := cell_eq ns 0
  have c1 := cell_eq ns 1
  have bf := built_fine ns (n := ⟨a, b, d⟩) ⟨ha, hb, hd⟩ 99 (by decide)
  have bt := built_eq ns (n := ⟨a, b, d⟩) ⟨ha, hb, hd⟩ 99 (by decide)
  generalize builtS ns ⟨a, b, d⟩ 99 = s at *
  obtain ⟨fs, ds, _⟩ := bf
  have w := writ_eq s 7 fs (by omega) (by omega)
  have lt := ltext_eq s 7 fs (by omega) (by omega)
  have gT := gd_tx fs (by omega)
  have tl5 := txS_len fs (by omega : s.depth ≤ 8)
  obtain ⟨no, nx, nt⟩ := no_thing (cellAt ns 1 / 8)
  have rn := refused_no nt
  obtain ⟨U, hU, gU⟩ := bent_eq gT tl5 (gd_ltr ha) (cellAt ns 1 / 40 + cellAt ns 0)
  have f8 : fdivD (.int (cellAt ns 1)) (.int 8) = some (.int (cellAt ns 1 / 8)) := fdivD_i (by decide)
  have f40 : fdivD (.int (cellAt ns 1)) (.int 40) = some (.int (cellAt ns 1 / 40)) := fdivD_i (by decide)
  have m5 : modD (.int (cellAt ns 1 / 8)) (.int 5) = some (.int (cellAt ns 1 / 8 % 5)) := modD_i (by decide)
  have is : isiD "str" (.str (txS s)) = some (.bool true) := isi_of rfl kit_ss
  have ne : neP (.str (txS s)) (.str (txS s)) = some (.bool false) := by rw [neP_s, sEq_same]; rfl
  have ad : addD (.int (cellAt ns 1 / 40)) (.int (cellAt ns 0)) = some (.int (cellAt ns 1 / 40 + cellAt ns 0)) := rfl
  have n0 : ixD (dS [a, b, d]) (.int 0) = some (.str a) := rfl
  have c0 : cellF [dI ns, .int 0] = some (.int (cellAt ns 0)) := c0
  have c1 : cellF [dI ns, .int 1] = some (.int (cellAt ns 1)) := c1
  have bt : builtF [dI ns, dS [a, b, d], .int 99] = some (enc s) := bt
  have l5 : fLst (fCons (fC .none) (fCons (fC (.int 5)) (fCons (fLst (fCons (fC (.str "yes")) fNil)) (fCons (fTup (fCons (fC (.str "yes")) fNil)) (fCons (fC (.bool true)) fNil))))) = fun _ => some (.list [.none, .int 5, .list [.str "yes"], .tuple [.str "yes"], .bool true]) := rfl
  rw [fnD_ap]
  have e : startR 7 [dI ns] = [some (.d (dI ns)), none, none, none, none, none, none] := rfl
  rw [e, glaw, l5, gSeq_ap, gSet_ap]
  simp only [fCa_ap, fCons_ap, fV_ap, fC_ap, fNil_ap, List.getElem?_cons_zero, List.getElem?_cons_succ, slot_d, consO_some, caO_2, c0, caO_1, nm, setO_some, List.set_cons_succ, List.set_cons_zero, seqO_nx]
  rw [gSeq_ap, gSet_ap]
  simp only [fCa_ap, fCons_ap, fV_ap, fC_ap, fNil_ap, List.getElem?_cons_zero, List.getElem?_cons_succ, slot_d, consO_some, caO_3, bt, setO_some, List.set_cons_succ, List.set_cons_zero, seqO_nx]
  rw [gSeq_ap, gSet_ap]
  simp only [fCa_ap, fCons_ap, fV_ap, fC_ap, fNil_ap, List.getElem?_cons_zero, List.getElem?_cons_succ, slot_d, consO_some, caO_1, w, setO_some, List.set_cons_succ, List.set_cons_zero, seqO_nx]
  rw [gSeq_ap, gIf_ap]
  simp only [fOrT_ap, fNotT_ap, fB_ap, f1_ap, f2_ap, fCa_ap, fCons_ap, fV_ap, fC_ap, fNil_ap, List.getElem?_cons_zero, List.getElem?_cons_succ, slot_d, ap1_some, is, unB_some, Option.map_some, Bool.not_true, orT_f, consO_some, caO_1, lt, ap2_some, ne, iteO_f, gNx_ap, seqO_nx]
  rw [gSeq_ap, gIf_ap]
  simp only [fNotT_ap, fB_ap, f2_ap, fCa_ap, fCons_ap, fV_ap, fC_ap, fNil_ap, List.getElem?_cons_zero, List.getElem?_cons_succ, slot_d, consO_some, caO_2, c1, ap2_some, f8, m5, nx, caO_1, rn, unB_some, Option.map_some, Bool.not_true, iteO_f, gNx_ap, seqO_nx]
  rw [gSeq_ap, gSet_ap]
  simp only [fCa_ap, fCons_ap, fV_ap, fC_ap, fNil_ap, f2_ap, List.getElem?_cons_zero, List.getElem?_cons_succ, slot_d, consO_some, caO_2, c0, c1, ap2_some, f40, ad, n0, caO_3, hU, setO_some, List.set_cons_succ, List.set_cons_zero, seqO_nx]
  obtain ⟨y5, y6, t1⟩ := law_turn gT (some (.d (dI ns))) (some (.d (dS [a, b, d]))) (some (.d (enc s))) (some (.d (.str (txS s)))) (some (.d (.str U))) none
  obtain ⟨z5, z6, t2⟩ := law_turn gU (some (.d (dI ns))) (some (.d (dS [a, b, d]))) (some (.d (enc s))) (some (.d (.str (txS s)))) (some (.d (.str U))) (some (.d y6))
  delta lawB at t1 t2
  rw [gSeq_ap, gFor_ap]
  simp only [fSeq_ap, fLst_ap, fCons_ap, fV_ap, fNil_ap, List.getElem?_cons_zero, List.getElem?_cons_succ, slot_d, consO_some, lstO_2, seqO1_some, seqD_l, forO_some]
  rw [forGo_c, b1_ap, forB_some]
  simp only [List.set_cons_succ, List.set_cons_zero]
  rw [t1, forN_nx, forGo_c, b1_ap, forB_some]
  simp only [List.set_cons_succ, List.set_cons_zero]
  rw [t2, forN_nx, forGo_0]
  simp only [seqO_nx, gRet_ap, fC_ap, retO_some, retD_rt]
end My

namespace Dn
open PySem L2 PySem.Spec PyProof.Rows Gx
/-! ### what the heads have in common -/
theorem cn_int [Tbs] {K : PySem.W.Frag} {mg : Str → Option Value} {x : Str} {i : Int} {u : Tok} (m : mg x = some (.int i u)) : Cn K mg x (.int i) := ⟨.int i, .int i u, m, ⟨u, rfl⟩, fun _ => .int i⟩
theorem cn_str [Tbs] {K : PySem.W.Frag} {mg : Str → Option Value} {x z : Str} {u : Tok} (m : mg x = some (.str z u)) : Cn K mg x (.str z) := ⟨.str z, .str z u, m, ⟨u, rfl⟩, fun _ => .str z⟩
/-- a dict of the module, texts to numbers -/
def entI (e : DictEntry) : Option (Str × Int) := match e.key, e.val with
  | .str x _, .int i _ => some (x, i)
  | _, _ => none
theorem entI_some {e : DictEntry} {x : Str} {i : Int} (h : entI e = some (x, i)) : (∃ t, e.key = .str x t) ∧ ∃ u, e.val = .int i u := by
  unfold entI at h
  split at h
  · rename_i y t j u e1 e2
    cases h
    exact ⟨⟨t, e1⟩, u, e2⟩
  · cases h
theorem find_ents (z : Str) : ∀ (L : List DictEntry) (kv : List (Str × Int)), L.map entI = kv.map some →
    (∀ i, kv.lookup z = some i → ∃ e u, L.find? (·.key.isStr z) = some e ∧ e.val = .int i u) ∧ (kv.lookup z = none → L.find? (·.key.isStr z) = none) ∧ L.any (·.refKey) = false
  | [], [], _ => ⟨fun i h => (by cases h), fun _ => rfl, rfl⟩
  | [], p :: kv, h => by cases h
  | e :: L, [], h => by cases h
  | e :: L, (x, i) :: kv, h => by
    rw [List.map_cons, List.map_cons] at h
    injection h with h1 h2
    obtain ⟨⟨t, ek⟩, u, ev⟩ := entI_some h1
    obtain ⟨a, b, c⟩ := find_ents z L kv h2
    have hk : e.key.isStr z = (x == z) := by rw [ek]; rfl
    have hr : e.refKey = false := by unfold DictEntry.refKey; rw [ek]
    by_cases q : x = z
    · subst q
      have e1 : (x == x) = true := beq_self_eq_true x
      refine ⟨fun j hj => ⟨e, u, by rw [List.find?_cons, hk, e1], ?_⟩, fun hn => ?_, by rw [List.any_cons, hr, c]; rfl⟩
      · rw [List.lookup_cons, e1] at hj
        cases hj
        exact ev
      · rw [List.lookup_cons, e1] at hn; cases hn
    · have e1 : (x == z) = false := beq_eq_false_iff_ne.mpr q
      have e2 : (z == x) = false := beq_eq_false_iff_ne.mpr (Ne.symm q)
      refine ⟨fun j hj => ?_, fun hn => ?_, by rw [List.any_cons, hr, c]; rfl⟩
      · rw [List.lookup_cons, e2] at hj
        obtain ⟨e', u', f1, f2⟩ := a j hj
        exact ⟨e', u', by rw [List.find?_cons, hk, e1]; exact f1, f2⟩
      · rw [List.lookup_cons, e2] at hn
        rw [List.find?_cons, hk, e1]; exact b hn
theorem lookup_map (z : Str) : ∀ (kv : List (Str × Int)), (kv.map fun p => (p.1, PyData.int p.2)).lookup z = (kv.lookup z).map .int
  | [] => rfl
  | (x, i) :: kv => by
    rw [List.map_cons, List.lookup_cons, List.lookup_cons, lookup_map z kv]
    cases z == x <;> rfl
theorem cd_ints [Tbs] {K : PySem.W.Frag} {w : World} {mg : Str → Option Value} {x : Str} {d : Addr} {es : Array DictEntry} {n : Nat} {kv : List (Str × Int)} (m : mg x = some (.ref d)) (l : K.lookup d = some ⟨.type "dict", none, .dict es n, #[]⟩) (hk : PySem.W.KeysLit w.params es.toList) (lo : (d == sysModules) = false) (he : es.toList.map entI = kv.map some) :
    Cd K w mg x (kv.map fun p => (p.1, .int p.2)) := by
  refine ⟨d, es, n, m, ⟨l, hk, lo⟩, fun z p h => ?_, fun z h => ?_⟩
  · rw [lookup_map] at h
    obtain ⟨i, hi, rfl⟩ := Option.map_eq_some_iff.mp h
    obtain ⟨e, u, f1, f2⟩ := (find_ents z es.toList kv he).1 i hi
    refine ⟨.int i u, .int i, ?_, ⟨u, rfl⟩, fun H => .int i⟩
    unfold PySem.W.nsIn
    rw [l]
    simp only
    rw [f1, ← f2]
  · rw [lookup_map] at h
    obtain ⟨_, f2, f3⟩ := find_ents z es.toList kv he
    have f1 := f2 (by cases q : kv.lookup z with | none => rfl | some i => rw [q] at h; cases h)
    unfold PySem.W.nsIn
    rw [l]
    simp only
    rw [f1, f3]
    rfl
/-! ### a law that makes generators: one table -/
def spLawT (K : PySem.W.Frag) (T : Addr) : Sp := fun vs H Q _ => ∃ (a : Addr) (ns : List Int), vs = [.ref a] ∧ SqL K H a (ns.map V.int) ∧ ns.length ≤ 63 ∧ H T = some (.tbl #[]) ∧ ∀ H', Q (.bl true) H'
theorem dq_intsL [Tbs] {K : PySem.W.Frag} {H : Hp} (ns : List Int) : DqAll K H (ns.map V.int) (ns.map PyData.int) := by
  induction ns with
  | nil => exact .nil
  | cons n r ih => exact .cons (.int n) ih
theorem sqL_untL {K : PySem.W.Frag} {H : Hp} {a : Addr} {xs : List V} (h : SqL K H a xs) : SqL K (unt H) a xs := by
  rcases h with (h | ⟨o, h⟩) | h
  · exact .inl (.inl (unt_gw H h (fun ps z => by cases z)))
  · exact .inl (.inr ⟨o, unt_gw H h (fun ps z => by cases z)⟩)
  · exact .inr h
theorem law_ofT [Tbs] {P : Program} {w : World} {K : PySem.W.Frag} {mg : Str → Option Value} {base : Heap} {k : Nat} {f T : Addr} {fd : FuncData} {ps : List Str} {F : List PyData → Option PyData} (hT : Tbs.T = [T]) (h : FnOk P w K mg base CX0 k f fd ps (spD K 1 F)) (hF : ∀ ns : List Int, F [.list (ns.map .int)] = some (.bool true)) : FnOk P w K mg base CX0 k f fd ps (spLawT K T) :=
  h.imp fun vs H Q E ⟨a, ns, e, hS, _, ht, q⟩ => ⟨unt H, [.list (ns.map .int)], .bool true, ⟨unt_same H, unt_nt H, fun P hP => by
    rw [hT] at hP
    cases List.mem_singleton.mp hP
    exact ⟨#[], ht, trivial⟩⟩, by rw [e]; exact .cons (.lst (sqL_untL hS) (dq_intsL ns)) .nil, rfl, hF ns, fun v B' H' t d => by cases d; exact q H'⟩
/-- what the head tells of the table -/
theorem tab_mk {K : PySem.W.Frag} {x : Str} {f c P : Addr} {oc : Value} {od : Option Addr} {fd : FuncData} {sl : Array (Option Value)} {oC : Value} {odC : Option Addr} {vs : Array Value} {slC : Array (Option Value)}
    (a : PySem.W.nsIn K mainGlobals x = some (some (.ref f))) (l : K.lookup f = some ⟨oc, od, .func fd, sl⟩) (hc : fd.code = .ref c) (lC : K.lookup c = some ⟨oC, odC, .fields vs, slC⟩) (hP : (vs[11]? : Option Value) = some (.ref P)) : PySem.W.tabIn K x = some (c, P) := by
  unfold PySem.W.tabIn
  rw [a]
  simp only [l, hc, lC, hP]
theorem walkT {l : PySem.W.OpenLaw} {k : Nat} {q : Program} {loose : List Str} {XP : (Str → Option Value) → Heap → Prop} {YP : World → Heap → Prop} {d : DefRec} {K : Params → PySem.W.Frag} (hn : l.most = some 63) (hdf : d.params.defaults = []) (hr : Room k callerA)
    (hY : ∀ (w : World) (h : Heap), YP w h → (K w.params).In h)
    (F : ∀ (w : World) (mg : Str → Option Value) (fa : Addr) (h : Heap), (K w.params).In h → h.Ns mainGlobals mg → mg d.name = some (.ref fa) →
      ∃ (fd : FuncData) (y : Str) (e : DefRec) (c T : Addr), (recsOf q).find? (fun e => e.name == y) = some e ∧ PySem.W.tabIn (K w.params) y = some (c, T) ∧ (K w.params).lookup T = none ∧ (∀ (s : Shared) (u : Value), BindsTo s fd ⟨[u], []⟩ [("_law_script", u)]) ∧
        ∀ base : Heap, (K w.params).In base → base.Ns mainGlobals mg → GxR.TabB base mg c T → FnOk l.prog w (K w.params) mg base CX0 k fa fd ["_law_script"] (spLawT (K w.params) T)) :
    PySem.W.WalkO q loose XP YP l.row.toRowW d [] (fun f vs => PySem.call f vs) := by
  refine walk_tab (n := 63) (k := k) (x := "_law_script") (CX := fun _ => CX0) hn (by decide) hdf hr hY (fun w mg fa h Y X G hm KT => ?_) fun _ _ _ _ _ z => z
  obtain ⟨fd, y, e, c, T, e1, e2, e3, hb, hF⟩ := F w mg fa h X G hm
  obtain ⟨hC, hT⟩ := KT y e c T e1 e2
  refine ⟨fd, [(c, T)], spLawT (K w.params) T, fun p hp => ?_, fun p hp => ?_, fun p hp => ?_, hb, fun H a ns hl _ hH hS => ⟨a, ns, rfl, hS, hl, hH (c, T) (List.mem_singleton.mpr rfl), fun _ => rfl⟩, fun base I N hTb => ?_⟩
  · cases List.mem_singleton.mp hp; exact hT
  · cases List.mem_singleton.mp hp; exact e3
  · cases List.mem_singleton.mp hp; exact hC
  · have t := hTb (c, T) (List.mem_singleton.mpr rfl)
    exact hF base I N ⟨t.code, t.bm, t.gP⟩
/-! ### own classes by name -/
def clOf (l : List (Str × Addr)) (n : Str) : Addr := (l.lookup n).getD 0
theorem clOf_hit {x : Str} {a : Addr} {l : List (Str × Addr)} : clOf ((x, a) :: l) x = a := by
  unfold clOf
  rw [List.lookup_cons, beq_self_eq_true]
  rfl
theorem clOf_miss {x y : Str} {a : Addr} {l : List (Str × Addr)} (h : (y == x) = false) : clOf ((x, a) :: l) y = clOf l y := by
  unfold clOf
  rw [List.lookup_cons, h]
end Dn

namespace My
open PySem L2 Dn
section
variable [Tbs] {P : Program} {w : World} {K : PySem.W.Frag} {mg : Str → Option Value} {base : Heap}
theorem chain {f cT T : Addr} {fd : FuncData} (hB : Bl mg) (zV : mg "ValueError" = none) (hT : Tbs.T = [T]) (tB : GxR.TabB base mg cT T) (Dis_mark : DfG K mg "is_mark" sis_mark ["thing"] cT) (Dparts_of : Df K mg "parts_of" sparts_of ["statement"]) (Dwritten : Df K mg "written" swritten ["statement"]) (Dread : Df K mg "read" sread ["text"]) (Dread_nested : Df K mg "_read_nested" sread_nested ["text", "most"]) (Dread_mark : Df K mg "_read_mark" sread_mark ["text"]) (Dread_figure : Df K mg "_read_figure" sread_figure ["text"]) (Dparted : Df K mg "_parted" sparted ["text"]) (DL_cell_at : Df K mg "_law_cell_at" sL_cell_at ["_law_script", "_law_k"]) (DL_draw : Df K mg "_law_draw" sL_draw ["_law_script", "_law_spot"]) (DL_names : Df K mg "_law_names" sL_names ["_law_cell"]) (DL_made : Df K mg "_law_made" sL_made ["_law_script", "_law_spot", "_law_names_here", "_law_deep", "_law_ahead"]) (DL_all : Df K mg "_law_all" sL_all ["_law_statement"]) (DL_wishes : Df K mg "_law_wishes" sL_wishes ["_law_statement"]) (DL_fit : Df K mg "_law_fit" sL_fit ["_law_statement", "_law_most"]) (DL_text : Df K mg "_law_text" sL_text ["_law_statement"]) (DL_part_text : Df K mg "_law_part_text" sL_part_text ["_law_part"]) (DL_mark_at : Df K mg "_law_mark_at" sL_mark_at ["_law_text_here", "_law_at_here"]) (DL_at : Df K mg "_law_at" sL_at ["_law_text_here", "_law_at_here", "_law_deep"]) (DL_parts_at : Df K mg "_law_parts_at" sL_parts_at ["_law_text_here", "_law_at_here", "_law_word", "_law_deep"]) (DL_due : Df K mg "_law_due" sL_due ["_law_text_here"]) (DL_odd : Df K mg "_law_odd" sL_odd ["_law_cell", "_law_name"]) (DL_bent : Df K mg "_law_bent" sL_bent ["_law_text_here", "_law_cell", "_law_name"]) (DL_same : Df K mg "_law_same" sL_same ["_law_found", "_law_due_here"]) (DL_built : Df K mg "_law_built" sL_built ["_law_script", "_law_names_here", "_law_most"]) (DL_refused : Df K mg "_law_refused" sL_refused ["_law_thing"]) (kMOST_LETTERS : Cn K mg "MOST_LETTERS" (.int 6)) (kLETTERS : Cn K mg "LETTERS" (.str "abcdefghijklmnopqrstuvwxyz")) (kMOST_NESTED : Cn K mg "MOST_NESTED" (.int 6)) (kMOST_LATER : Cn K mg "MOST_LATER" (.int 4)) (kPARTS : Cd K w mg "PARTS" [("yes", (.int 0)), ("not", (.int 1)), ("and", (.int 2)), ("or", (.int 2)), ("next", (.int 1)), ("until", (.int 2)), ("before", (.int 1)), ("since", (.int 2))])
    (XBadText : ExF K mg "BadText" [.type "ValueError", .type "Exception", .type "BaseException", .type "object"]) (gBadText : mg "BadText" = some (.ref (Tbs.Cl "BadText"))) (gSaidError : mg "SaidError" = some (.ref (Tbs.Cl "SaidError"))) (gBadMark : mg "BadMark" = some (.ref (Tbs.Cl "BadMark"))) (gBadStatement : mg "BadStatement" = some (.ref (Tbs.Cl "BadStatement"))) (gMixed : mg "Mixed" = some (.ref (Tbs.Cl "Mixed"))) (gNoMark : mg "NoMark" = some (.ref (Tbs.Cl "NoMark"))) (gTooMany : mg "TooMany" = some (.ref (Tbs.Cl "TooMany"))) (eB : ExcC K (Tbs.Cl "BadText")) (hx : PySem.W.exmOne K (.ref (Tbs.Cl "BadText")) (.ref (Tbs.Cl "SaidError")) = some true) (kB : PySem.W.kitOne K (.ref (Tbs.Cl "BadText")) (.ref (Tbs.Cl "BadText")) = some true) (kV : PySem.W.kitOne K (.ref (Tbs.Cl "BadText")) (.type "ValueError") = some true) (kN : PySem.W.kitAny K (.ref (Tbs.Cl "BadText")) [.ref (Tbs.Cl "BadMark"), .ref (Tbs.Cl "BadStatement"), .ref (Tbs.Cl "Mixed"), .ref (Tbs.Cl "NoMark"), .ref (Tbs.Cl "TooMany")] = some false) (F : Fun K "law" "law" slaw f fd) : FnOk P w K mg base CX0 40 f fd ["_law_script"] (spLawT K T) := by
  have kparts : Kn P w K mg base 1 1 "parts_of" partsF := okparts_of hB Dparts_of
  have kmark : Kn P w K mg base 2 1 "is_mark" isMarkF := okis_mark (k := 0) hB ⟨tB, by rw [hT]; exact List.mem_singleton.mpr rfl⟩ Dis_mark kMOST_LETTERS kLETTERS
  have kwrit : ∀ n : Nat, Kn P w K mg base (1 + n) 1 "written" (writF n) := fun n => by
    induction n with
    | zero => exact Kn.none Dwritten
    | succ n ih => exact okwritten (k := 1 + n) hB Dwritten (kparts.mono (by omega)) ih
  have krm : KnX P w K mg base 3 1 "_read_mark" rmarkF := okread_mark (k := 2) hB Dread_mark kmark XBadText
  have krf : KnX P w K mg base 3 1 "_read_figure" figureF := okread_figure (k := 2) hB Dread_figure kMOST_LATER XBadText
  have kpa : KnX P w K mg base 3 1 "_parted" partedF := okparted (k := 2) hB Dparted XBadText
  have knest : ∀ n : Nat, KnX P w K mg base (3 + n) 2 "_read_nested" (nestF n) := fun n => by
    induction n with
    | zero => exact KnX.none Dread_nested
    | succ n ih => exact okread_nested (k := 3 + n) hB Dread_nested (krm.mono (by omega)) ih (krf.mono (by omega)) (kpa.mono (by omega)) kPARTS XBadText
  have kread : KnX P w K mg base 11 1 "read" readF := okread (k := 10) hB Dread (knest 7) kMOST_NESTED XBadText
  have krefused : Kn P w K mg base 12 1 "_law_refused" refusedF := okL_refused (k := 11) hB.isinstance zV DL_refused kread gBadMark gBadStatement gMixed gNoMark gTooMany gBadText gSaidError eB hx kB kV kN
  have kcell : Kn P w K mg base 1 2 "_law_cell_at" cellF := okL_cell_at hB DL_cell_at
  have kdraw : KnC P w K mg base 1 2 "_law_draw" drawF := okL_draw hB DL_draw drawF_run
  have knames : Kn P w K mg base 1 1 "_law_names" namesF := okL_names hB DL_names
  have kmade : ∀ n : Nat, KnC P w K mg base (1 + n) 5 "_law_made" (madeF n) := fun n => by
    induction n with
    | zero => rw [madeF_0]; exact KnC.none DL_made
    | succ n ih => exact okL_made (k := 1 + n) hB DL_made (madeF_run n) (kdraw.mono (by omega)) ih
  have kall : ∀ n : Nat, Kn P w K mg base n 1 "_law_all" (allF n) := fun n => by
    induction n with
    | zero => exact Kn.none DL_all
    | succ n ih => exact okL_all hB DL_all ih
  have kwish : Kn P w K mg base 15 1 "_law_wishes" wishesF := okL_wishes hB DL_wishes (kall 14)
  have kfit : Kn P w K mg base 16 2 "_law_fit" fitF := okL_fit hB DL_fit kwish
  have kbuilt : Kn P w K mg base 17 3 "_law_built" builtF := okL_built (k := 16) hB DL_built (kcell.mono (by omega)) kfit ((kmade 8).mono (by omega))
  have ktext : ∀ n : Nat, Kn P w K mg base (1 + 2 * n) 1 "_law_text" (ltextF n) := fun n => by
    induction n with
    | zero => exact Kn.none DL_text
    | succ n ih => exact okL_text (k := 1 + 2 * n + 1) hB DL_text (okL_part_text (k := 1 + 2 * n) hB DL_part_text ih)
  have klm : Kn P w K mg base 1 2 "_law_mark_at" lmarkF := okL_mark_at hB DL_mark_at
  have kat : ∀ n : Nat, Kn P w K mg base (1 + 2 * n) 3 "_law_at" (latF n) := fun n => by
    induction n with
    | zero => exact Kn.none DL_at
    | succ n ih => exact okL_at (k := 1 + 2 * n + 1) hB DL_at (klm.mono (by omega)) (okL_parts_at (k := 1 + 2 * n) hB DL_parts_at ih)
  have kdue : Kn P w K mg base 16 1 "_law_due" ldueF := okL_due (k := 15) hB DL_due (kat 7)
  have kodd : Kn P w K mg base 1 2 "_law_odd" oddF := okL_odd hB DL_odd
  have kbent : Kn P w K mg base 2 3 "_law_bent" bentF := okL_bent hB DL_bent kodd
  have ksame : ∀ n : Nat, Kn P w K mg base (1 + n) 2 "_law_same" (sameF n) := fun n => by
    induction n with
    | zero => exact Kn.none DL_same
    | succ n ih => exact okL_same (k := 1 + n) hB DL_same ih
  have klaw := oklaw (k := 39) hB F (kcell.mono (by omega)) (knames.mono (by omega)) (kbuilt.mono (by omega)) ((kwrit 7).mono (by omega)) ((ktext 7).mono (by omega)) (krefused.mono (by omega)) (kbent.mono (by omega)) (kdue.mono (by omega)) (kread.kn.mono (by omega)) ((ksame 7).mono (by omega))
  exact law_ofT hT klaw law_eq

end
theorem all_mk {l : PySem.W.OpenLaw} {w : World} {K : PySem.W.Frag} {h : Heap} {mg : Str → Option Value} {fa : Addr} (X : K.In h) (G : h.Ns mainGlobals mg) (hfa : mg "law" = some (.ref fa))
    {f0 : Addr} {od0 an0 : Option Addr} {sl0 : Array (Option Value)} {oc0 kV0 dc0 pm0 ct0 : Value} {cT : Addr} (a0 : PySem.W.nsIn K mainGlobals "is_mark" = some (some (.ref f0))) (l0 : K.lookup f0 = some ⟨oc0, od0, .func (PySem.W.fnOf "is_mark" "is_mark" (defArgs sis_mark) (defBody sis_mark) (defScope sis_mark) .none kV0 dc0 pm0 an0 (.ref cT) ct0), sl0⟩) (c0 : PySem.W.codeIn K (.ref cT) "is_mark" = true) (k0 : PySem.W.keepIn K (.ref f0) = true)
    {f1 : Addr} {od1 an1 : Option Addr} {sl1 : Array (Option Value)} {oc1 kV1 dc1 pm1 cd1 ct1 : Value} (a1 : PySem.W.nsIn K mainGlobals "parts_of" = some (some (.ref f1))) (l1 : K.lookup f1 = some ⟨oc1, od1, .func (PySem.W.fnOf "parts_of" "parts_of" (defArgs sparts_of) (defBody sparts_of) (defScope sparts_of) .none kV1 dc1 pm1 an1 cd1 ct1), sl1⟩) (c1 : PySem.W.codeIn K cd1 "parts_of" = true) (k1 : PySem.W.keepIn K (.ref f1) = true)
    {f2 : Addr} {od2 an2 : Option Addr} {sl2 : Array (Option Value)} {oc2 kV2 dc2 pm2 cd2 ct2 : Value} (a2 : PySem.W.nsIn K mainGlobals "written" = some (some (.ref f2))) (l2 : K.lookup f2 = some ⟨oc2, od2, .func (PySem.W.fnOf "written" "written" (defArgs swritten) (defBody swritten) (defScope swritten) .none kV2 dc2 pm2 an2 cd2 ct2), sl2⟩) (c2 : PySem.W.codeIn K cd2 "written" = true) (k2 : PySem.W.keepIn K (.ref f2) = true)
    {f3 : Addr} {od3 an3 : Option Addr} {sl3 : Array (Option Value)} {oc3 kV3 dc3 pm3 cd3 ct3 : Value} (a3 : PySem.W.nsIn K mainGlobals "read" = some (some (.ref f3))) (l3 : K.lookup f3 = some ⟨oc3, od3, .func (PySem.W.fnOf "read" "read" (defArgs sread) (defBody sread) (defScope sread) .none kV3 dc3 pm3 an3 cd3 ct3), sl3⟩) (c3 : PySem.W.codeIn K cd3 "read" = true) (k3 : PySem.W.keepIn K (.ref f3) = true)
    {f4 : Addr} {od4 an4 : Option Addr} {sl4 : Array (Option Value)} {oc4 kV4 dc4 pm4 cd4 ct4 : Value} (a4 : PySem.W.nsIn K mainGlobals "_read_nested" = some (some (.ref f4))) (l4 : K.lookup f4 = some ⟨oc4, od4, .func (PySem.W.fnOf "_read_nested" "_read_nested" (defArgs sread_nested) (defBody sread_nested) (defScope sread_nested) .none kV4 dc4 pm4 an4 cd4 ct4), sl4⟩) (c4 : PySem.W.codeIn K cd4 "_read_nested" = true) (k4 : PySem.W.keepIn K (.ref f4) = true)
    {f5 : Addr} {od5 an5 : Option Addr} {sl5 : Array (Option Value)} {oc5 kV5 dc5 pm5 cd5 ct5 : Value} (a5 : PySem.W.nsIn K mainGlobals "_read_mark" = some (some (.ref f5))) (l5 : K.lookup f5 = some ⟨oc5, od5, .func (PySem.W.fnOf "_read_mark" "_read_mark" (defArgs sread_mark) (defBody sread_mark) (defScope sread_mark) .none kV5 dc5 pm5 an5 cd5 ct5), sl5⟩) (c5 : PySem.W.codeIn K cd5 "_read_mark" = true) (k5 : PySem.W.keepIn K (.ref f5) = true)
    {f6 : Addr} {od6 an6 : Option Addr} {sl6 : Array (Option Value)} {oc6 kV6 dc6 pm6 cd6 ct6 : Value} (a6 : PySem.W.nsIn K mainGlobals "_read_figure" = some (some (.ref f6))) (l6 : K.lookup f6 = some ⟨oc6, od6, .func (PySem.W.fnOf "_read_figure" "_read_figure" (defArgs sread_figure) (defBody sread_figure) (defScope sread_figure) .none kV6 dc6 pm6 an6 cd6 ct6), sl6⟩) (c6 : PySem.W.codeIn K cd6 "_read_figure" = true) (k6 : PySem.W.keepIn K (.ref f6) = true)
    {f7 : Addr} {od7 an7 : Option Addr} {sl7 : Array (Option Value)} {oc7 kV7 dc7 pm7 cd7 ct7 : Value} (a7 : PySem.W.nsIn K mainGlobals "_parted" = some (some (.ref f7))) (l7 : K.lookup f7 = some ⟨oc7, od7, .func (PySem.W.fnOf "_parted" "_parted" (defArgs sparted) (defBody sparted) (defScope sparted) .none kV7 dc7 pm7 an7 cd7 ct7), sl7⟩) (c7 : PySem.W.codeIn K cd7 "_parted" = true) (k7 : PySem.W.keepIn K (.ref f7) = true)
    {f8 : Addr} {od8 an8 : Option Addr} {sl8 : Array (Option Value)} {oc8 kV8 dc8 pm8 cd8 ct8 : Value} (a8 : PySem.W.nsIn K mainGlobals "_law_cell_at" = some (some (.ref f8))) (l8 : K.lookup f8 = some ⟨oc8, od8, .func (PySem.W.fnOf "_law_cell_at" "_law_cell_at" (defArgs sL_cell_at) (defBody sL_cell_at) (defScope sL_cell_at) .none kV8 dc8 pm8 an8 cd8 ct8), sl8⟩) (c8 : PySem.W.codeIn K cd8 "_law_cell_at" = true) (k8 : PySem.W.keepIn K (.ref f8) = true)
    {f9 : Addr} {od9 an9 : Option Addr} {sl9 : Array (Option Value)} {oc9 kV9 dc9 pm9 cd9 ct9 : Value} (a9 : PySem.W.nsIn K mainGlobals "_law_draw" = some (some (.ref f9))) (l9 : K.lookup f9 = some ⟨oc9, od9, .func (PySem.W.fnOf "_law_draw" "_law_draw" (defArgs sL_draw) (defBody sL_draw) (defScope sL_draw) .none kV9 dc9 pm9 an9 cd9 ct9), sl9⟩) (c9 : PySem.W.codeIn K cd9 "_law_draw" = true) (k9 : PySem.W.keepIn K (.ref f9) = true)
    {f10 : Addr} {od10 an10 : Option Addr} {sl10 : Array (Option Value)} {oc10 kV10 dc10 pm10 cd10 ct10 : Value} (a10 : PySem.W.nsIn K mainGlobals "_law_names" = some (some (.ref f10))) (l10 : K.lookup f10 = some ⟨oc10, od10, .func (PySem.W.fnOf "_law_names" "_law_names" (defArgs sL_names) (defBody sL_names) (defScope sL_names) .none kV10 dc10 pm10 an10 cd10 ct10), sl10⟩) (c10 : PySem.W.codeIn K cd10 "_law_names" = true) (k10 : PySem.W.keepIn K (.ref f10) = true)
    {f11 : Addr} {od11 an11 : Option Addr} {sl11 : Array (Option Value)} {oc11 kV11 dc11 pm11 cd11 ct11 : Value} (a11 : PySem.W.nsIn K mainGlobals "_law_made" = some (some (.ref f11))) (l11 : K.lookup f11 = some ⟨oc11, od11, .func (PySem.W.fnOf "_law_made" "_law_made" (defArgs sL_made) (defBody sL_made) (defScope sL_made) .none kV11 dc11 pm11 an11 cd11 ct11), sl11⟩) (c11 : PySem.W.codeIn K cd11 "_law_made" = true) (k11 : PySem.W.keepIn K (.ref f11) = true)
    {f12 : Addr} {od12 an12 : Option Addr} {sl12 : Array (Option Value)} {oc12 kV12 dc12 pm12 cd12 ct12 : Value} (a12 : PySem.W.nsIn K mainGlobals "_law_all" = some (some (.ref f12))) (l12 : K.lookup f12 = some ⟨oc12, od12, .func (PySem.W.fnOf "_law_all" "_law_all" (defArgs sL_all) (defBody sL_all) (defScope sL_all) .none kV12 dc12 pm12 an12 cd12 ct12), sl12⟩) (c12 : PySem.W.codeIn K cd12 "_law_all" = true) (k12 : PySem.W.keepIn K (.ref f12) = true)
    {f13 : Addr} {od13 an13 : Option Addr} {sl13 : Array (Option Value)} {oc13 kV13 dc13 pm13 cd13 ct13 : Value} (a13 : PySem.W.nsIn K mainGlobals "_law_wishes" = some (some (.ref f13))) (l13 : K.lookup f13 = some ⟨oc13, od13, .func (PySem.W.fnOf "_law_wishes" "_law_wishes" (defArgs sL_wishes) (defBody sL_wishes) (defScope sL_wishes) .none kV13 dc13 pm13 an13 cd13 ct13), sl13⟩) (c13 : PySem.W.codeIn K cd13 "_law_wishes" = true) (k13 : PySem.W.keepIn K (.ref f13) = true)
    {f14 : Addr} {od14 an14 : Option Addr} {sl14 : Array (Option Value)} {oc14 kV14 dc14 pm14 cd14 ct14 : Value} (a14 : PySem.W.nsIn K mainGlobals "_law_fit" = some (some (.ref f14))) (l14 : K.lookup f14 = some ⟨oc14, od14, .func (PySem.W.fnOf "_law_fit" "_law_fit" (defArgs sL_fit) (defBody sL_fit) (defScope sL_fit) .none kV14 dc14 pm14 an14 cd14 ct14), sl14⟩) (c14 : PySem.W.codeIn K cd14 "_law_fit" = true) (k14 : PySem.W.keepIn K (.ref f14) = true)
    {f15 : Addr} {od15 an15 : Option Addr} {sl15 : Array (Option Value)} {oc15 kV15 dc15 pm15 cd15 ct15 : Value} (a15 : PySem.W.nsIn K mainGlobals "_law_text" = some (some (.ref f15))) (l15 : K.lookup f15 = some ⟨oc15, od15, .func (PySem.W.fnOf "_law_text" "_law_text" (defArgs sL_text) (defBody sL_text) (defScope sL_text) .none kV15 dc15 pm15 an15 cd15 ct15), sl15⟩) (c15 : PySem.W.codeIn K cd15 "_law_text" = true) (k15 : PySem.W.keepIn K (.ref f15) = true)
    {f16 : Addr} {od16 an16 : Option Addr} {sl16 : Array (Option Value)} {oc16 kV16 dc16 pm16 cd16 ct16 : Value} (a16 : PySem.W.nsIn K mainGlobals "_law_part_text" = some (some (.ref f16))) (l16 : K.lookup f16 = some ⟨oc16, od16, .func (PySem.W.fnOf "_law_part_text" "_law_part_text" (defArgs sL_part_text) (defBody sL_part_text) (defScope sL_part_text) .none kV16 dc16 pm16 an16 cd16 ct16), sl16⟩) (c16 : PySem.W.codeIn K cd16 "_law_part_text" = true) (k16 : PySem.W.keepIn K (.ref f16) = true)
    {f17 : Addr} {od17 an17 : Option Addr} {sl17 : Array (Option Value)} {oc17 kV17 dc17 pm17 cd17 ct17 : Value} (a17 : PySem.W.nsIn K mainGlobals "_law_mark_at" = some (some (.ref f17))) (l17 : K.lookup f17 = some ⟨oc17, od17, .func (PySem.W.fnOf "_law_mark_at" "_law_mark_at" (defArgs sL_mark_at) (defBody sL_mark_at) (defScope sL_mark_at) .none kV17 dc17 pm17 an17 cd17 ct17), sl17⟩) (c17 : PySem.W.codeIn K cd17 "_law_mark_at" = true) (k17 : PySem.W.keepIn K (.ref f17) = true)
    {f18 : Addr} {od18 an18 : Option Addr} {sl18 : Array (Option Value)} {oc18 kV18 dc18 pm18 cd18 ct18 : Value} (a18 : PySem.W.nsIn K mainGlobals "_law_at" = some (some (.ref f18))) (l18 : K.lookup f18 = some ⟨oc18, od18, .func (PySem.W.fnOf "_law_at" "_law_at" (defArgs sL_at) (defBody sL_at) (defScope sL_at) .none kV18 dc18 pm18 an18 cd18 ct18), sl18⟩) (c18 : PySem.W.codeIn K cd18 "_law_at" = true) (k18 : PySem.W.keepIn K (.ref f18) = true)
    {f19 : Addr} {od19 an19 : Option Addr} {sl19 : Array (Option Value)} {oc19 kV19 dc19 pm19 cd19 ct19 : Value} (a19 : PySem.W.nsIn K mainGlobals "_law_parts_at" = some (some (.ref f19))) (l19 : K.lookup f19 = some ⟨oc19, od19, .func (PySem.W.fnOf "_law_parts_at" "_law_parts_at" (defArgs sL_parts_at) (defBody sL_parts_at) (defScope sL_parts_at) .none kV19 dc19 pm19 an19 cd19 ct19), sl19⟩) (c19 : PySem.W.codeIn K cd19 "_law_parts_at" = true) (k19 : PySem.W.keepIn K (.ref f19) = true)
    {f20 : Addr} {od20 an20 : Option Addr} {sl20 : Array (Option Value)} {oc20 kV20 dc20 pm20 cd20 ct20 : Value} (a20 : PySem.W.nsIn K mainGlobals "_law_due" = some (some (.ref f20))) (l20 : K.lookup f20 = some ⟨oc20, od20, .func (PySem.W.fnOf "_law_due" "_law_due" (defArgs sL_due) (defBody sL_due) (defScope sL_due) .none kV20 dc20 pm20 an20 cd20 ct20), sl20⟩) (c20 : PySem.W.codeIn K cd20 "_law_due" = true) (k20 : PySem.W.keepIn K (.ref f20) = true)
    {f21 : Addr} {od21 an21 : Option Addr} {sl21 : Array (Option Value)} {oc21 kV21 dc21 pm21 cd21 ct21 : Value} (a21 : PySem.W.nsIn K mainGlobals "_law_odd" = some (some (.ref f21))) (l21 : K.lookup f21 = some ⟨oc21, od21, .func (PySem.W.fnOf "_law_odd" "_law_odd" (defArgs sL_odd) (defBody sL_odd) (defScope sL_odd) .none kV21 dc21 pm21 an21 cd21 ct21), sl21⟩) (c21 : PySem.W.codeIn K cd21 "_law_odd" = true) (k21 : PySem.W.keepIn K (.ref f21) = true)
    {f22 : Addr} {od22 an22 : Option Addr} {sl22 : Array (Option Value)} {oc22 kV22 dc22 pm22 cd22 ct22 : Value} (a22 : PySem.W.nsIn K mainGlobals "_law_bent" = some (some (.ref f22))) (l22 : K.lookup f22 = some ⟨oc22, od22, .func (PySem.W.fnOf "_law_bent" "_law_bent" (defArgs sL_bent) (defBody sL_bent) (defScope sL_bent) .none kV22 dc22 pm22 an22 cd22 ct22), sl22⟩) (c22 : PySem.W.codeIn K cd22 "_law_bent" = true) (k22 : PySem.W.keepIn K (.ref f22) = true)
    {f23 : Addr} {od23 an23 : Option Addr} {sl23 : Array (Option Value)} {oc23 kV23 dc23 pm23 cd23 ct23 : Value} (a23 : PySem.W.nsIn K mainGlobals "_law_same" = some (some (.ref f23))) (l23 : K.lookup f23 = some ⟨oc23, od23, .func (PySem.W.fnOf "_law_same" "_law_same" (defArgs sL_same) (defBody sL_same) (defScope sL_same) .none kV23 dc23 pm23 an23 cd23 ct23), sl23⟩) (c23 : PySem.W.codeIn K cd23 "_law_same" = true) (k23 : PySem.W.keepIn K (.ref f23) = true)
    {f24 : Addr} {od24 an24 : Option Addr} {sl24 : Array (Option Value)} {oc24 kV24 dc24 pm24 cd24 ct24 : Value} (a24 : PySem.W.nsIn K mainGlobals "_law_built" = some (some (.ref f24))) (l24 : K.lookup f24 = some ⟨oc24, od24, .func (PySem.W.fnOf "_law_built" "_law_built" (defArgs sL_built) (defBody sL_built) (defScope sL_built) .none kV24 dc24 pm24 an24 cd24 ct24), sl24⟩) (c24 : PySem.W.codeIn K cd24 "_law_built" = true) (k24 : PySem.W.keepIn K (.ref f24) = true)
    {f25 : Addr} {od25 an25 : Option Addr} {sl25 : Array (Option Value)} {oc25 kV25 dc25 pm25 cd25 ct25 : Value} (a25 : PySem.W.nsIn K mainGlobals "_law_refused" = some (some (.ref f25))) (l25 : K.lookup f25 = some ⟨oc25, od25, .func (PySem.W.fnOf "_law_refused" "_law_refused" (defArgs sL_refused) (defBody sL_refused) (defScope sL_refused) .none kV25 dc25 pm25 an25 cd25 ct25), sl25⟩) (c25 : PySem.W.codeIn K cd25 "_law_refused" = true) (k25 : PySem.W.keepIn K (.ref f25) = true)
    {f26 : Addr} {od26 an26 : Option Addr} {sl26 : Array (Option Value)} {oc26 kV26 dc26 pm26 cd26 ct26 : Value} (a26 : PySem.W.nsIn K mainGlobals "law" = some (some (.ref f26))) (l26 : K.lookup f26 = some ⟨oc26, od26, .func (PySem.W.fnOf "law" "law" (defArgs slaw) (defBody slaw) (defScope slaw) .none kV26 dc26 pm26 an26 cd26 ct26), sl26⟩) (c26 : PySem.W.codeIn K cd26 "law" = true) (k26 : PySem.W.keepIn K (.ref f26) = true)
    {cBadText cSaidError cBadMark cBadStatement cMixed cNoMark cTooMany : Addr} (gBadText : PySem.W.nsIn K mainGlobals "BadText" = some (some (.ref cBadText))) (gSaidError : PySem.W.nsIn K mainGlobals "SaidError" = some (some (.ref cSaidError))) (gBadMark : PySem.W.nsIn K mainGlobals "BadMark" = some (some (.ref cBadMark))) (gBadStatement : PySem.W.nsIn K mainGlobals "BadStatement" = some (some (.ref cBadStatement))) (gMixed : PySem.W.nsIn K mainGlobals "Mixed" = some (some (.ref cMixed))) (gNoMark : PySem.W.nsIn K mainGlobals "NoMark" = some (some (.ref cNoMark))) (gTooMany : PySem.W.nsIn K mainGlobals "TooMany" = some (some (.ref cTooMany)))
    (xq : PySem.W.excIn K cBadText [.type "ValueError", .type "Exception", .type "BaseException", .type "object"] "ValueError.__new__" = true) (xk : PySem.W.keepIn K (.ref cBadText) = true) (x1 : PySem.W.subIn K (.ref cBadText) (.type "BaseException") = some true) (x2 : PySem.W.typeIn K (.ref cBadText) = some (.type "type"))
    (eg : PySem.W.findIn K (.ref cBadText) "__getattribute__" = some (some (.builtin "BaseException.__getattribute__"))) (ek : PySem.W.findIn K (.ref cBadText) "__getattr__" = some none) (ed : PySem.W.hasDictIn K cBadText = true) (ea : PySem.W.findIn K (.ref cBadText) "__class__" = some (some (.builtin "object.__class__"))) (en : PySem.W.specialIn K (.builtin "object.__class__") "__get__" = some (some (.builtin "getset_descriptor.__get__"))) (et : PySem.W.takesIn K (.builtin "object.__class__") = some true) (em : PySem.W.mroIn K cBadText (.type "object") = some true)
    (hx : PySem.W.exmOne K (.ref cBadText) (.ref cSaidError) = some true) (kB : PySem.W.kitOne K (.ref cBadText) (.ref cBadText) = some true) (kV : PySem.W.kitOne K (.ref cBadText) (.type "ValueError") = some true) (kN : PySem.W.kitAny K (.ref cBadText) [.ref cBadMark, .ref cBadStatement, .ref cMixed, .ref cNoMark, .ref cTooMany] = some false)
    {u1 u2 u3 u4 : Tok} (aML : PySem.W.nsIn K mainGlobals "MOST_LETTERS" = some (some (.int 6 u1))) (aL : PySem.W.nsIn K mainGlobals "LETTERS" = some (some (.str "abcdefghijklmnopqrstuvwxyz" u2))) (aMN : PySem.W.nsIn K mainGlobals "MOST_NESTED" = some (some (.int 6 u3))) (aMA : PySem.W.nsIn K mainGlobals "MOST_LATER" = some (some (.int 4 u4)))
    {dP : Addr} {esP : Array DictEntry} {nP : Nat} (aP : PySem.W.nsIn K mainGlobals "PARTS" = some (some (.ref dP))) (lP : K.lookup dP = some ⟨.type "dict", none, .dict esP nP, #[]⟩) (hkP : PySem.W.KeysLit w.params esP.toList) (loP : (dP == sysModules) = false) (heP : esP.toList.map entI = ([("yes", 0), ("not", 1), ("and", 2), ("or", 2), ("next", 1), ("until", 2), ("before", 1), ("since", 2)] : List (Str × Int)).map some)
    {T : Addr} {oC : Value} {odC : Option Addr} {vsC : Array Value} {slC : Array (Option Value)} (lC : K.lookup cT = some ⟨oC, odC, .fields vsC, slC⟩) (hP : (vsC[11]? : Option Value) = some (.ref T)) (lT : K.lookup T = none)
    (zV : PySem.W.nsIn K mainGlobals "ValueError" = some none) {q : Program} {er : DefRec} (hr : (PyProof.Rows.recsOf q).find? (fun e => e.name == ("is_mark" : Str)) = some er)

    (z_all : PySem.W.nsIn K mainGlobals "all" = some none) (z_bool : PySem.W.nsIn K mainGlobals "bool" = some none) (z_enumerate : PySem.W.nsIn K mainGlobals "enumerate" = some none) (z_int : PySem.W.nsIn K mainGlobals "int" = some none) (z_isinstance : PySem.W.nsIn K mainGlobals "isinstance" = some none) (z_len : PySem.W.nsIn K mainGlobals "len" = some none) (z_range : PySem.W.nsIn K mainGlobals "range" = some none) (z_str : PySem.W.nsIn K mainGlobals "str" = some none) (z_tuple : PySem.W.nsIn K mainGlobals "tuple" = some none) (z_type : PySem.W.nsIn K mainGlobals "type" = some none) (z_zip : PySem.W.nsIn K mainGlobals "zip" = some none) :
    ∃ (fd : FuncData) (y : Str) (e : DefRec) (c T : Addr), (PyProof.Rows.recsOf q).find? (fun e => e.name == y) = some e ∧ PySem.W.tabIn K y = some (c, T) ∧ K.lookup T = none ∧ (∀ (s : Shared) (v : Value), BindsTo s fd ⟨[v], []⟩ [("_law_script", v)]) ∧ ∀ base : Heap, K.In base → base.Ns mainGlobals mg → GxR.TabB base mg c T → FnOk l.prog w K mg base CX0 40 fa fd ["_law_script"] (spLawT K T) := by
  have e := hfa.symm.trans (PySem.W.mg_of X G a26)
  cases e
  letI : Tbs := ⟨[T], clOf [("BadText", cBadText), ("SaidError", cSaidError), ("BadMark", cBadMark), ("BadStatement", cBadStatement), ("Mixed", cMixed), ("NoMark", cNoMark), ("TooMany", cTooMany)]⟩
  have EBadText : Tbs.Cl "BadText" = cBadText := clOf_hit
  have ESaidError : Tbs.Cl "SaidError" = cSaidError := (clOf_miss (by decide +kernel)).trans (clOf_hit)
  have EBadMark : Tbs.Cl "BadMark" = cBadMark := (clOf_miss (by decide +kernel)).trans ((clOf_miss (by decide +kernel)).trans (clOf_hit))
  have EBadStatement : Tbs.Cl "BadStatement" = cBadStatement := (clOf_miss (by decide +kernel)).trans ((clOf_miss (by decide +kernel)).trans ((clOf_miss (by decide +kernel)).trans (clOf_hit)))
  have EMixed : Tbs.Cl "Mixed" = cMixed := (clOf_miss (by decide +kernel)).trans ((clOf_miss (by decide +kernel)).trans ((clOf_miss (by decide +kernel)).trans ((clOf_miss (by decide +kernel)).trans (clOf_hit))))
  have ENoMark : Tbs.Cl "NoMark" = cNoMark := (clOf_miss (by decide +kernel)).trans ((clOf_miss (by decide +kernel)).trans ((clOf_miss (by decide +kernel)).trans ((clOf_miss (by decide +kernel)).trans ((clOf_miss (by decide +kernel)).trans (clOf_hit)))))
  have ETooMany : Tbs.Cl "TooMany" = cTooMany := (clOf_miss (by decide +kernel)).trans ((clOf_miss (by decide +kernel)).trans ((clOf_miss (by decide +kernel)).trans ((clOf_miss (by decide +kernel)).trans ((clOf_miss (by decide +kernel)).trans ((clOf_miss (by decide +kernel)).trans (clOf_hit))))))
  have hB : Bl mg := ⟨PySem.W.mg_none_of X G z_all, PySem.W.mg_none_of X G z_bool, PySem.W.mg_none_of X G z_enumerate, PySem.W.mg_none_of X G z_int, PySem.W.mg_none_of X G z_isinstance, PySem.W.mg_none_of X G z_len, PySem.W.mg_none_of X G z_range, PySem.W.mg_none_of X G z_str, PySem.W.mg_none_of X G z_tuple, PySem.W.mg_none_of X G z_type, PySem.W.mg_none_of X G z_zip⟩
  have Dis_mark : DfG K mg "is_mark" sis_mark ["thing"] cT := ⟨⟨_, _, _, _, _, _, _, _, _, l0, c0, k0, PySem.W.mg_of X G a0, (fun_mk (st := sis_mark) l0 c0 k0).binds (ps := ["thing"]) fun _ _ _ _ _ _ us hl => match us, hl with | [_], _ => rfl⟩⟩
  have Dparts_of : Df K mg "parts_of" sparts_of ["statement"] := df_mk X G a1 l1 c1 k1 fun _ _ _ _ _ _ us hl => match us, hl with | [_], _ => rfl
  have Dwritten : Df K mg "written" swritten ["statement"] := df_mk X G a2 l2 c2 k2 fun _ _ _ _ _ _ us hl => match us, hl with | [_], _ => rfl
  have Dread : Df K mg "read" sread ["text"] := df_mk X G a3 l3 c3 k3 fun _ _ _ _ _ _ us hl => match us, hl with | [_], _ => rfl
  have Dread_nested : Df K mg "_read_nested" sread_nested ["text", "most"] := df_mk X G a4 l4 c4 k4 fun _ _ _ _ _ _ us hl => match us, hl with | [_, _], _ => rfl
  have Dread_mark : Df K mg "_read_mark" sread_mark ["text"] := df_mk X G a5 l5 c5 k5 fun _ _ _ _ _ _ us hl => match us, hl with | [_], _ => rfl
  have Dread_figure : Df K mg "_read_figure" sread_figure ["text"] := df_mk X G a6 l6 c6 k6 fun _ _ _ _ _ _ us hl => match us, hl with | [_], _ => rfl
  have Dparted : Df K mg "_parted" sparted ["text"] := df_mk X G a7 l7 c7 k7 fun _ _ _ _ _ _ us hl => match us, hl with | [_], _ => rfl
  have DL_cell_at : Df K mg "_law_cell_at" sL_cell_at ["_law_script", "_law_k"] := df_mk X G a8 l8 c8 k8 fun _ _ _ _ _ _ us hl => match us, hl with | [_, _], _ => rfl
  have DL_draw : Df K mg "_law_draw" sL_draw ["_law_script", "_law_spot"] := df_mk X G a9 l9 c9 k9 fun _ _ _ _ _ _ us hl => match us, hl with | [_, _], _ => rfl
  have DL_names : Df K mg "_law_names" sL_names ["_law_cell"] := df_mk X G a10 l10 c10 k10 fun _ _ _ _ _ _ us hl => match us, hl with | [_], _ => rfl
  have DL_made : Df K mg "_law_made" sL_made ["_law_script", "_law_spot", "_law_names_here", "_law_deep", "_law_ahead"] := df_mk X G a11 l11 c11 k11 fun _ _ _ _ _ _ us hl => match us, hl with | [_, _, _, _, _], _ => rfl
  have DL_all : Df K mg "_law_all" sL_all ["_law_statement"] := df_mk X G a12 l12 c12 k12 fun _ _ _ _ _ _ us hl => match us, hl with | [_], _ => rfl
  have DL_wishes : Df K mg "_law_wishes" sL_wishes ["_law_statement"] := df_mk X G a13 l13 c13 k13 fun _ _ _ _ _ _ us hl => match us, hl with | [_], _ => rfl
  have DL_fit : Df K mg "_law_fit" sL_fit ["_law_statement", "_law_most"] := df_mk X G a14 l14 c14 k14 fun _ _ _ _ _ _ us hl => match us, hl with | [_, _], _ => rfl
  have DL_text : Df K mg "_law_text" sL_text ["_law_statement"] := df_mk X G a15 l15 c15 k15 fun _ _ _ _ _ _ us hl => match us, hl with | [_], _ => rfl
  have DL_part_text : Df K mg "_law_part_text" sL_part_text ["_law_part"] := df_mk X G a16 l16 c16 k16 fun _ _ _ _ _ _ us hl => match us, hl with | [_], _ => rfl
  have DL_mark_at : Df K mg "_law_mark_at" sL_mark_at ["_law_text_here", "_law_at_here"] := df_mk X G a17 l17 c17 k17 fun _ _ _ _ _ _ us hl => match us, hl with | [_, _], _ => rfl
  have DL_at : Df K mg "_law_at" sL_at ["_law_text_here", "_law_at_here", "_law_deep"] := df_mk X G a18 l18 c18 k18 fun _ _ _ _ _ _ us hl => match us, hl with | [_, _, _], _ => rfl
  have DL_parts_at : Df K mg "_law_parts_at" sL_parts_at ["_law_text_here", "_law_at_here", "_law_word", "_law_deep"] := df_mk X G a19 l19 c19 k19 fun _ _ _ _ _ _ us hl => match us, hl with | [_, _, _, _], _ => rfl
  have DL_due : Df K mg "_law_due" sL_due ["_law_text_here"] := df_mk X G a20 l20 c20 k20 fun _ _ _ _ _ _ us hl => match us, hl with | [_], _ => rfl
  have DL_odd : Df K mg "_law_odd" sL_odd ["_law_cell", "_law_name"] := df_mk X G a21 l21 c21 k21 fun _ _ _ _ _ _ us hl => match us, hl with | [_, _], _ => rfl
  have DL_bent : Df K mg "_law_bent" sL_bent ["_law_text_here", "_law_cell", "_law_name"] := df_mk X G a22 l22 c22 k22 fun _ _ _ _ _ _ us hl => match us, hl with | [_, _, _], _ => rfl
  have DL_same : Df K mg "_law_same" sL_same ["_law_found", "_law_due_here"] := df_mk X G a23 l23 c23 k23 fun _ _ _ _ _ _ us hl => match us, hl with | [_, _], _ => rfl
  have DL_built : Df K mg "_law_built" sL_built ["_law_script", "_law_names_here", "_law_most"] := df_mk X G a24 l24 c24 k24 fun _ _ _ _ _ _ us hl => match us, hl with | [_, _, _], _ => rfl
  have DL_refused : Df K mg "_law_refused" sL_refused ["_law_thing"] := df_mk X G a25 l25 c25 k25 fun _ _ _ _ _ _ us hl => match us, hl with | [_], _ => rfl
  have XB : ExF K mg "BadText" [.type "ValueError", .type "Exception", .type "BaseException", .type "object"] := ⟨by rw [EBadText]; exact xq, by rw [EBadText]; exact PySem.W.mg_of X G gBadText, by rw [EBadText]; exact xk, by rw [EBadText]; exact x1, by rw [EBadText]; exact x2⟩
  have eB : ExcC K (Tbs.Cl "BadText") := by rw [EBadText]; exact ⟨eg, ek, x1, ed, ea, en, et, em⟩
  exact ⟨_, _, er, cT, T, hr, tab_mk a0 l0 rfl lC hP, lT, fun s v => .of_eq rfl, fun base _ _ tB => chain hB (PySem.W.mg_none_of X G zV) rfl tB Dis_mark Dparts_of Dwritten Dread Dread_nested Dread_mark Dread_figure Dparted DL_cell_at DL_draw DL_names DL_made DL_all DL_wishes DL_fit DL_text DL_part_text DL_mark_at DL_at DL_parts_at DL_due DL_odd DL_bent DL_same DL_built DL_refused
    (cn_int (PySem.W.mg_of X G aML)) (cn_str (PySem.W.mg_of X G aL)) (cn_int (PySem.W.mg_of X G aMN)) (cn_int (PySem.W.mg_of X G aMA)) (cd_ints (PySem.W.mg_of X G aP) lP hkP loP heP)
    XB (by rw [EBadText]; exact PySem.W.mg_of X G gBadText) (by rw [ESaidError]; exact PySem.W.mg_of X G gSaidError) (by rw [EBadMark]; exact PySem.W.mg_of X G gBadMark) (by rw [EBadStatement]; exact PySem.W.mg_of X G gBadStatement) (by rw [EMixed]; exact PySem.W.mg_of X G gMixed) (by rw [ENoMark]; exact PySem.W.mg_of X G gNoMark) (by rw [ETooMany]; exact PySem.W.mg_of X G gTooMany) eB (by rw [EBadText, ESaidError]; exact hx) (by rw [EBadText]; exact kB) (by rw [EBadText]; exact kV) (by rw [EBadText, EBadMark, EBadStatement, EMixed, ENoMark, ETooMany]; exact kN)
    (fun_mk (st := slaw) l26 c26 k26)⟩
end My

open PySem PySem.W PyProof.Rows
set_option maxRecDepth 100000 in
set_option maxHeartbeats 0 in
theorem PySem.Challenge.cw_soonsaid_k02_written_and_read_holds : PySem.Challenge.rw_soonsaid_k02_written_and_read.Holds := by
  w_on; o_law; k_head; (case hw => w_witness2)
  k_fill
  refine Dn.walkT (k := 40) (l := PySem.Challenge.rw_soonsaid_k02_written_and_read) rfl rfl ⟨rfl, by decide, by decide⟩ (fun w h Y => PySem.W.kIn_of Y) ?F
  case F =>
    intro w mg fa h KX G hmg
    refine' My.all_mk KX G hmg ?a0 ?l0 ?c0 ?k0 ?a1 ?l1 ?c1 ?k1 ?a2 ?l2 ?c2 ?k2 ?a3 ?l3 ?c3 ?k3 ?a4 ?l4 ?c4 ?k4 ?a5 ?l5 ?c5 ?k5 ?a6 ?l6 ?c6 ?k6 ?a7 ?l7 ?c7 ?k7 ?a8 ?l8 ?c8 ?k8 ?a9 ?l9 ?c9 ?k9 ?a10 ?l10 ?c10 ?k10 ?a11 ?l11 ?c11 ?k11 ?a12 ?l12 ?c12 ?k12 ?a13 ?l13 ?c13 ?k13 ?a14 ?l14 ?c14 ?k14 ?a15 ?l15 ?c15 ?k15 ?a16 ?l16 ?c16 ?k16 ?a17 ?l17 ?c17 ?k17 ?a18 ?l18 ?c18 ?k18 ?a19 ?l19 ?c19 ?k19 ?a20 ?l20 ?c20 ?k20 ?a21 ?l21 ?c21 ?k21 ?a22 ?l22 ?c22 ?k22 ?a23 ?l23 ?c23 ?k23 ?a24 ?l24 ?c24 ?k24 ?a25 ?l25 ?c25 ?k25 ?a26 ?l26 ?c26 ?k26 ?gBadText ?gSaidError ?gBadMark ?gBadStatement ?gMixed ?gNoMark ?gTooMany ?xq ?xk ?x1 ?x2 ?eg ?ek ?ed ?ea ?en ?et ?em ?hx ?kB ?kV ?kN ?aML ?aL ?aMN ?aMA ?aP ?lP ?hkP ?loP ?heP ?lC ?hP ?lT ?zV ?hr ?z_all ?z_bool ?z_enumerate ?z_int ?z_isinstance ?z_len ?z_range ?z_str ?z_tuple ?z_type ?z_zip
    (case a0 => k_is)
    (case l0 => k_is)
    (case c0 => k_is)
    (case k0 => k_is)
    (case a1 => k_is)
    (case l1 => k_is)
    (case c1 => k_is)
    (case k1 => k_is)
    (case a2 => k_is)
    (case l2 => k_is)
    (case c2 => k_is)
    (case k2 => k_is)
    (case a3 => k_is)
    (case l3 => k_is)
    (case c3 => k_is)
    (case k3 => k_is)
    (case a4 => k_is)
    (case l4 => k_is)
    (case c4 => k_is)
    (case k4 => k_is)
    (case a5 => k_is)
    (case l5 => k_is)
    (case c5 => k_is)
    (case k5 => k_is)
    (case a6 => k_is)
    (case l6 => k_is)
    (case c6 => k_is)
    (case k6 => k_is)
    (case a7 => k_is)
    (case l7 => k_is)
    (case c7 => k_is)
    (case k7 => k_is)
    (case a8 => k_is)
    (case l8 => k_is)
    (case c8 => k_is)
    (case k8 => k_is)
    (case a9 => k_is)
    (case l9 => k_is)
    (case c9 => k_is)
    (case k9 => k_is)
    (case a10 => k_is)
    (case l10 => k_is)
    (case c10 => k_is)
    (case k10 => k_is)
    (case a11 => k_is)
    (case l11 => k_is)
    (case c11 => k_is)
    (case k11 => k_is)
    (case a12 => k_is)
    (case l12 => k_is)
    (case c12 => k_is)
    (case k12 => k_is)
    (case a13 => k_is)
    (case l13 => k_is)
    (case c13 => k_is)
    (case k13 => k_is)
    (case a14 => k_is)
    (case l14 => k_is)
    (case c14 => k_is)
    (case k14 => k_is)
    (case a15 => k_is)
    (case l15 => k_is)
    (case c15 => k_is)
    (case k15 => k_is)
    (case a16 => k_is)
    (case l16 => k_is)
    (case c16 => k_is)
    (case k16 => k_is)
    (case a17 => k_is)
    (case l17 => k_is)
    (case c17 => k_is)
    (case k17 => k_is)
    (case a18 => k_is)
    (case l18 => k_is)
    (case c18 => k_is)
    (case k18 => k_is)
    (case a19 => k_is)
    (case l19 => k_is)
    (case c19 => k_is)
    (case k19 => k_is)
    (case a20 => k_is)
    (case l20 => k_is)
    (case c20 => k_is)
    (case k20 => k_is)
    (case a21 => k_is)
    (case l21 => k_is)
    (case c21 => k_is)
    (case k21 => k_is)
    (case a22 => k_is)
    (case l22 => k_is)
    (case c22 => k_is)
    (case k22 => k_is)
    (case a23 => k_is)
    (case l23 => k_is)
    (case c23 => k_is)
    (case k23 => k_is)
    (case a24 => k_is)
    (case l24 => k_is)
    (case c24 => k_is)
    (case k24 => k_is)
    (case a25 => k_is)
    (case l25 => k_is)
    (case c25 => k_is)
    (case k25 => k_is)
    (case a26 => k_is)
    (case l26 => k_is)
    (case c26 => k_is)
    (case k26 => k_is)
    (case gBadText => k_is)
    (case gSaidError => k_is)
    (case gBadMark => k_is)
    (case gBadStatement => k_is)
    (case gMixed => k_is)
    (case gNoMark => k_is)
    (case gTooMany => k_is)
    (case xq => k_exc)
    (case xk => k_is)
    (case x1 => k_is)
    (case x2 => k_is)
    (case eg => k_is)
    (case ek => k_is)
    (case ed => k_is)
    (case ea => k_is)
    (case en => k_is)
    (case et => k_is)
    (case em => k_is)
    (case hx => first | k_is | kernel_rfl | exact rfl)
    (case kB => first | k_is | kernel_rfl | exact rfl)
    (case kV => first | k_is | kernel_rfl | exact rfl)
    (case kN => first | k_is | kernel_rfl | exact rfl)
    (case aML => k_is)
    (case aL => k_is)
    (case aMN => k_is)
    (case aMA => k_is)
    (case aP => k_is)
    (case lP => k_is)
    (case hkP => repeat (first | exact trivial | refine ⟨⟨_, _, rfl, rfl⟩, ?_⟩))
    (case loP => decide)
    (case heP => first | exact rfl | kernel_rfl)
    (case lC => k_is)
    (case hP => exact rfl)
    (case lT => first | kernel_rfl | exact rfl)
    (case zV => k_is)
    (case hr => exact rfl)
    (case z_all => k_is)
    (case z_bool => k_is)
    (case z_enumerate => k_is)
    (case z_int => k_is)
    (case z_isinstance => k_is)
    (case z_len => k_is)
    (case z_range => k_is)
    (case z_str => k_is)
    (case z_tuple => k_is)
    (case z_type => k_is)
    (case z_zip => k_is)
