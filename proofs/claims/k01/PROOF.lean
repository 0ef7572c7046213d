import PyProof.Rows.All
import Wide.All
import OpenK.AllK
import Wide.FinOn
import HandS.Comp
import HandS.Ends
import HandS.AnyAll
import HandS.GenOver
import PyProof.GenQ
import PyProof.CodeObjX
import HandS.Base
import HandS.Call
import HandS.List
import HandS.Iter
import HandS.Text
import HandS.Words
import HandS.ForMost
import HandS.IsInst
import HandS.Style
import HandS.TupAny
import HandS.Deep
import PyProof.ConsumeS
import HandS.EndTab
import KE.KNest
import PyProof.TypeEq
import PyProof.InstEq
import HandS.More
import PyProof.AutoSeq1
import HandS.SetFor
import HandS.Strs
import HandS.Flow
import PyProof.Rows.SortStr
import HandS.TupMul
import HandS.WordsExc
import HandS.ExcOwn
import HandS.ExcIs
import PyProof.Draws
import HandS.Zip
import PyProof.StrOps2
import PyProof.Rows.TupAdd
import PyProof.StrLaws
import HandS.HotCalls
import KE.DataFind
import KE.OsArith
import PyProof.StrLawsIn
import PySem.Challenge.RW_soonsaid_k01_what_is_told
set_option Elab.async false
set_option linter.all false
set_option maxRecDepth 100000
set_option maxHeartbeats 1000000
namespace Gx
open PySem L2 PySem.Spec PyProof.Rows GenW

/-! ### a generator expression's frame as a context -/
abbrev gcx (X : Cx) (s : Shared) (H : Hp) (cenv : Env) (N : List Str) (A : Around) (fp : List Addr) : Cx := { X with A := A, N := N, s_0 := s, H_0 := H, env := cenv, outer := X.stack, stack := cenv :: X.stack, ex := fp, fn := fun _ => false, calm := true, pn := [], xe := fun _ _ => False }
/-- js: for each name of N' its slot outside, where it is taken from there -/
structure GScp (N N' : List Str) (js : List (Option Nat)) (sc scope : Scope) : Prop where
  kind : scope.kind = .function
  co : scope.isCoroutine = false
  cell : ∀ y ∈ scope.names, y.2 ≠ .cell
  dot : scope.names.lookup (".0" : Str) = some NameKind.local
  uniq : ∀ y ∈ scope.names, scope.names.lookup y.1 = some y.2
  free : ∀ y ∈ scope.names, y.2 = .free → sc.names.lookup y.1 = some .cell ∨ sc.names.lookup y.1 = some .free
  len : js.length = N'.length
  ix : ∀ (i j : Nat) (x : Str), N'[i]? = some x → js[i]? = some (some j) → N[j]? = some x ∧ scope.names.lookup x = some .free
def pick (σ : L2.St) (js : List (Option Nat)) : L2.St := js.map fun o => o.bind fun j => (σ[j]?).join
theorem pick_some {σ : L2.St} {js : List (Option Nat)} {i : Nat} {v : V} (h : (pick σ js)[i]? = some (some v)) : ∃ j, js[i]? = some (some j) ∧ σ[j]? = some (some v) := by
  unfold pick at h
  rw [List.getElem?_map] at h
  obtain ⟨o, ho, e⟩ := Option.map_eq_some_iff.mp h
  cases o with
  | none => cases e
  | some j =>
    refine ⟨j, ho, ?_⟩
    have e : (σ[j]?).join = some v := e
    cases q : σ[j]? with
    | none => rw [q] at e; cases e
    | some z =>
      rw [q] at e
      have e : z = some v := e
      rw [e]
theorem Inv.gens {X : Cx} {pins : List (Addr × Obj)} {σ : L2.St} {H : Hp} {s : Shared} (I : Inv X pins σ H s) {g' : Array GenState} (h : AllBare g') : Inv X pins σ H { s with gens := g' } :=
  ⟨I.ok, I.os, h, I.base, I.loc, I.cell, I.free, I.freeC, I.pin, I.hok, I.len⟩
theorem AllBare.set {s : Shared} (h : AllBare s.gens) {g : Nat} {x : GenState} (hx : x.bare = true) : AllBare (s.setGen g x).gens := by
  intro y hy
  have hy : y ∈ s.gens.setIfInBounds g x := hy
  rcases Array.mem_or_eq_of_mem_setIfInBounds hy with z | z
  · exact h y z
  · rw [z]; exact hx
section
variable {X : Cx} {pins : List (Addr × Obj)} {σ : L2.St} {H : Hp} {s s5 : Shared} {N' : List Str} {js : List (Option Nat)} {scope : Scope} {code : Value} {cenv : Env} {A : Around} {fp : List Addr} {a : Addr} {ob : Obj} {m : Str → Option Value}
theorem gen_start (I : Inv X pins σ H s) (S : GScp X.N N' js X.env.scope scope) (he : cenv = genEnv scope (cloFrom X.env.cells scope.names []) s.heap.objs.size code builtinsNs X.env)
    (hA : A.handled = none) (hAf : A.frames = some (cenv :: X.stack)) (hfp : ∀ b ∈ fp, FpOk X pins H b ∧ b < s.heap.objs.size) (hos : s5.os = s.os) (hb : AllBare s5.gens)
    (hk : ∀ b o, s.heap.get? b = some o → s5.heap.get? b = some o) (hn : s5.heap.Ns s.heap.objs.size m) (ha : s5.heap.get? a = some ob) (hal : s.heap.objs.size < a) (hac : ∀ v, ob.data ≠ .cell v) :
    Inv (gcx X s H cenv N' A fp) [(a, ob)] (pick σ js) H s5 := by
  have hL : cenv.locals = s.heap.objs.size := by rw [he]; rfl
  have hcl : cenv.cells = cloFrom X.env.cells scope.names [] := by rw [he]; rfl
  have hsc : cenv.scope = scope := by rw [he]; rfl
  have hfree : ∀ y ∈ scope.names, y.2 = .free → ∃ c, X.env.cells.lookup y.1 = some c := fun y hy e => by
    rcases S.free y hy e with k | k
    · exact I.ok.has _ (.inl k)
    · exact I.ok.has _ (.inr k)
  have cm : ∀ {y c}, cenv.cells.lookup y = some c → X.env.cells.lookup y = some c := fun {y c} e => by
    rw [hcl] at e
    rcases cloFrom_mem (PySem.mem_of_lookup e) with hm | ⟨h1, rfl⟩
    · cases hm
    · obtain ⟨c, hc⟩ := hfree _ h1 rfl
      rw [hc]
      rfl
  have look : ∀ {y}, scope.names.lookup y = some .free → ∃ c, cenv.cells.lookup y = some c ∧ X.env.cells.lookup y = some c := fun {y} hl => by
    obtain ⟨c', e'⟩ := mem_lookup (cloFrom_has (cells := X.env.cells) (acc := []) (PySem.mem_of_lookup hl))
    rw [← hcl] at e'
    exact ⟨c', e', cm e'⟩
  have clt : ∀ {y c}, cenv.cells.lookup y = some c → c < s.heap.objs.size := fun {y c} e => by
    obtain ⟨v, q⟩ := I.cell y c (cm e)
    exact q.lt
  have okG : (gcx X s H cenv N' A fp).Ok := by
    refine ⟨I.ok.mod, by show cenv.scope.kind = _; rw [hsc]; exact S.kind, by show cenv.globals = _; rw [he]; exact I.ok.glob, by show cenv.builtins = _; rw [he]; rfl, by show s.heap.objs.size ≤ cenv.locals; rw [hL]; exact Nat.le_refl _,
      fun y z c e1 e2 => I.ok.inj y z c (cm e1) (cm e2), fun y hy => ?_, fun y c z => ?_, fun _ => hA, hAf, .inr ⟨rfl, by show cenv.frame = some cenv.locals; rw [he]; rfl⟩, fun b hb => ⟨?_, fun y c e z => ?_⟩, I.bs, Nat.le_trans I.ok.bsz I.sz, fun b o e hb => ?_, fun b hb z => ?_, I.stack, I.stkFree⟩
    · have hy : scope.names.lookup y = some .cell ∨ scope.names.lookup y = some .free := by rw [← hsc]; exact hy
      rcases hy with hy | hy
      · exact absurd rfl (S.cell _ (PySem.mem_of_lookup hy))
      · obtain ⟨c, h1, _⟩ := look hy
        exact ⟨c, h1⟩
    · cases z
    · show b ≠ cenv.locals
      rw [hL]; exact Nat.ne_of_lt (hfp b hb).2
    · exact (hfp b hb).1.2.2.2.2.1 y c (cm e) z
    · rcases (hfp b hb).1.2.2.2.1 with z | z
      · exact I.ok.noex b o e z
      · exact absurd (Nat.lt_of_lt_of_le (Heap.lt_size e) (Nat.le_trans I.ok.bsz z)) (Nat.lt_irrefl _)
    · rcases List.mem_cons.mp (I.stkSub b z) with z | z
      · exact (hfp b hb).1.2.1 z
      · exact (hfp b hb).1.2.2.1 z
  refine ⟨okG, hos, hb, Un.kept hk, ⟨m, by show s5.heap.Ns cenv.locals m; rw [hL]; exact hn, fun i y v e1 e2 e3 => ?_⟩, fun y c e => ?_, ?_, fun y c e => I.freeC y c (cm e), fun p hp => ?_, I.hok.kept hk, by show (pick σ js).length = N'.length; unfold pick; rw [List.length_map]; exact S.len⟩
  · obtain ⟨j, hj, hv⟩ := pick_some e2
    obtain ⟨h1, h2⟩ := S.ix i j y e1 hj
    obtain ⟨m0, hn0, hl⟩ := I.loc
    have hk0 : X.env.scope.names.lookup y = some .cell ∨ X.env.scope.names.lookup y = some .free := S.free _ (PySem.mem_of_lookup h2) rfl
    obtain ⟨u, ru, lu⟩ := hl j y v h1 hv (.inr hk0)
    refine ⟨u, ru, .inr ⟨.inr (by show cenv.scope.names.lookup y = _; rw [hsc]; exact h2), ?_⟩⟩
    obtain ⟨c, hc1, hc2⟩ := look h2
    refine ⟨c, hc1, ?_⟩
    rcases lu with ⟨l1, _⟩ | ⟨_, c', l2, l3⟩
    · have l1 : X.env.scope.names.lookup y = some .local := l1
      rcases hk0 with q | q
      · rw [q] at l1; cases l1
      · rw [q] at l1; cases l1
    · rw [hc2] at l2
      cases l2
      obtain ⟨o, ho, hd⟩ := l3
      exact ⟨o, hk _ o ho, hd⟩
  · obtain ⟨v, o, ho, hd⟩ := I.cell y c (cm e)
    exact ⟨v, o, hk _ o ho, hd⟩
  · show H cenv.locals = none
    rw [hL]
    exact I.hok.fresh (Nat.le_refl _)
  · have hp : p ∈ [(a, ob)] := hp
    rcases List.mem_cons.mp hp with rfl | hp
    · refine ⟨ha, I.hok.fresh (Nat.le_of_lt hal), by show a ≠ cenv.locals; rw [hL]; exact Nat.ne_of_gt hal, fun z => ?_, hac⟩
      have z : a ∈ frs X.stack := z
      have h1 := I.stkSub a z
      rcases List.mem_cons.mp h1 with q | q
      · exact absurd (Nat.lt_of_lt_of_le hal (by rw [q]; exact Nat.le_of_lt I.lt)) (Nat.lt_irrefl _)
      · exact I.nofs (Nat.le_of_lt hal) q
    · cases hp
/-- back outside -/
theorem gen_back {s6 : Shared} {σ' : L2.St} {H' : Hp} {pl : List (Addr × Obj)} (I : Inv X pins σ H s) (hfp : ∀ b ∈ fp, FpOk X pins H b) (J : Inv (gcx X s H cenv N' A fp) pl σ' H' s6) : Inv X pins σ H' s6 :=
  I.call' (ch := fp) J.os J.base J.hok J.bare fun b hb => ⟨(hfp b hb).2.2.2.1, (hfp b hb).2.1, (hfp b hb).2.2.2.2.1, (hfp b hb).2.2.2.2.2⟩
end
end Gx

namespace Dn
open PySem L2 PySem.Spec PyProof.Rows

/-- T: the tables of the tracked code objects; Cl: where the own classes stand -/
class Tbs where
  T : List Addr
  Cl : Str → Addr
mutual
/-- data; an empty dict; an instance of an own class that no more changes -/
inductive Dq [Tbs] (K : PySem.W.Frag) (H : Hp) : V → PyData → Prop
  | non : Dq K H .non .none
  | bl (b : Bool) : Dq K H (.bl b) (.bool b)
  | int (i : Int) : Dq K H (.int i) (.int i)
  | str (x : Str) : Dq K H (.str x) (.str x)
  | lst {a : Addr} {xs : List V} {ds : List PyData} : SqL K H a xs → DqAll K H xs ds → Dq K H (.ref a) (.list ds)
  | tup {a : Addr} {xs : List V} {ds : List PyData} : SqT K H a xs → DqAll K H xs ds → Dq K H (.ref a) (.tuple ds)
  | emp {a : Addr} : H a = some (.dK []) → Dq K H (.ref a) (.dict [])
  | ins {a dx : Addr} {n : Str} {fs : List (Str × V)} {ds : List (PyData × PyData)} : H a = some (.ins (Tbs.Cl n) dx fs) → DqF K H fs ds → Dq K H (.ref a) (.dict ((.none, .str n) :: ds))
inductive DqAll [Tbs] (K : PySem.W.Frag) (H : Hp) : List V → List PyData → Prop
  | nil : DqAll K H [] []
  | cons {v : V} {vs : List V} {d : PyData} {ds : List PyData} : Dq K H v d → DqAll K H vs ds → DqAll K H (v :: vs) (d :: ds)
inductive DqF [Tbs] (K : PySem.W.Frag) (H : Hp) : List (Str × V) → List (PyData × PyData) → Prop
  | nil : DqF K H [] []
  | cons {x : Str} {v : V} {d : PyData} {fs : List (Str × V)} {ds : List (PyData × PyData)} : Dq K H v d → DqF K H fs ds → DqF K H ((x, v) :: fs) ((.str x, d) :: ds)
end
section
variable {K : PySem.W.Frag} {H : Hp}
mutual
theorem dq_dp [Tbs] : ∀ {v : V} {d : PyData}, Dq K H v d → d.canLay0 = true → Dp K H v d
  | _, _, .non, _ => .non
  | _, _, .bl b, _ => .bl b
  | _, _, .int i, _ => .int i
  | _, _, .str x, _ => .str x
  | _, _, .lst h a, e => .lst h (dqAll_dp a (by simpa only [PyData.canLay0] using e))
  | _, _, .tup h a, e => .tup h (dqAll_dp a (by simpa only [PyData.canLay0] using e))
  | _, _, .emp h, e => by simp [PyData.canLay0] at e
  | _, _, .ins h a, e => by simp [PyData.canLay0] at e
theorem dqAll_dp [Tbs] : ∀ {vs : List V} {ds : List PyData}, DqAll K H vs ds → PyData.canLayAll0 ds = true → DpAll K H vs ds
  | _, _, .nil, _ => .nil
  | _, _, .cons h t, e => by
    rw [PyData.canLayAll0, Bool.and_eq_true] at e
    exact .cons (dq_dp h e.1) (dqAll_dp t e.2)
end
theorem dq_sh [Tbs] {v : V} {d : PyData} (h : Dq K H v d) (e : SeqAt.shaped d = true) : Dp K H v d := dq_dp h (SeqAt.canLay_of_shaped e)
end

/-! ### heaps: B the part that never changes again, H all -/
/-- no table within -/
def NT (B : Hp) : Prop := ∀ a ps, B a ≠ some (.tbl ps)
/-- all is kept; tables may grow -/
structure Gw (H H' : Hp) : Prop where
  k : ∀ a o, H a = some o → (∀ ps, o ≠ .tbl ps) → H' a = some o
  g : ∀ a ps, H a = some (.tbl ps) → ∃ more, H' a = some (.tbl (ps ++ more)) ∧ (TriplesOk ps.toList → TriplesOk (ps ++ more).toList)
theorem Gw.of {H H' : Hp} (s : Same H H') : Gw H H' := ⟨fun a o e _ => s a o e, fun a ps e => ⟨#[], by rw [Array.append_empty]; exact ⟨s a _ e, id⟩⟩⟩
theorem Gw.refl (H : Hp) : Gw H H := .of (Same.refl H)
theorem Gw.trans {H H1 H2 : Hp} (p : Gw H H1) (q : Gw H1 H2) : Gw H H2 := ⟨fun a o e n => q.k a o (p.k a o e n) n, fun a ps e => by
  obtain ⟨m1, e1, t1⟩ := p.g a ps e
  obtain ⟨m2, e2, t2⟩ := q.g a _ e1
  exact ⟨m1 ++ m2, by rw [e2, Array.append_assoc], fun t => by rw [← Array.append_assoc]; exact t2 (t1 t)⟩⟩
theorem Gw.free {H H' : Hp} (p : Gw H H') {a : Addr} (h : H' a = none) : H a = none := by
  cases e : H a with
  | none => rfl
  | some o =>
    by_cases n : ∃ ps, o = .tbl ps
    · obtain ⟨ps, rfl⟩ := n
      obtain ⟨m, e1, _⟩ := p.g a ps e
      rw [e1] at h; cases h
    · have := p.k a o e (fun ps z => n ⟨ps, z⟩)
      rw [this] at h; cases h
theorem Gw.put {H H' : Hp} {D : Addr} {o : HO} (p : Gw H H') (h : H D = none) : Gw H (upd H' D o) := ⟨fun a u e n => by rw [upd_ne (ne_of_none e h)]; exact p.k a u e n, fun a ps e => by
  obtain ⟨m, e1, t⟩ := p.g a ps e
  exact ⟨m, by rw [upd_ne (ne_of_none e h)]; exact e1, t⟩⟩
theorem Gw.l {H H' : Hp} (p : Gw H H') {a : Addr} {xs : List V} (e : H a = some (.lst xs)) : H' a = some (.lst xs) := p.k a _ e (fun ps z => by cases z)
theorem Gw.tab {H H' : Hp} (p : Gw H H') {a : Addr} (t : GxR.TabG H a) : GxR.TabG H' a := by
  obtain ⟨ps, e, h⟩ := t
  obtain ⟨m, e1, t1⟩ := p.g a ps e
  exact ⟨ps ++ m, e1, t1 h⟩
theorem Gw.same {B H H' : Hp} (n : NT B) (s : Same B H) (p : Gw H H') : Same B H' := fun a o e => p.k a o (s a o e) (fun ps z => n a ps (by rw [e, z]))
structure Tr (B H B' H' : Hp) : Prop where
  b : Same B B'
  t : Same B' H'
  h : Gw H H'
  n : NT B → NT B'
  f : ∀ a o, B' a = some o → B a = none → H a = none
theorem Tr.refl {B H : Hp} (h : Same B H) : Tr B H B H := ⟨Same.refl _, h, Gw.refl _, id, fun a o x y => by rw [y] at x; cases x⟩
theorem Tr.trans {B H B1 H1 B2 H2 : Hp} (p : Tr B H B1 H1) (q : Tr B1 H1 B2 H2) : Tr B H B2 H2 := ⟨p.b.trans q.b, q.t, p.h.trans q.h, fun z => q.n (p.n z), fun a o x y => by
  cases e : B1 a with
  | none => exact p.h.free (q.f a o x e)
  | some u => exact p.f a u e y⟩
theorem same_upd {H : Hp} {p : Addr} {o : HO} (h : H p = none) : Same H (upd H p o) := fun b u e => by rw [upd_ne (ne_of_none e h)]; exact e
theorem same_upd2 {B H : Hp} {p : Addr} {o : HO} (s : Same B H) (h : H p = none) : Same B (upd H p o) := s.trans (same_upd h)
theorem nt_upd {B : Hp} {p : Addr} {o : HO} (n : NT B) (ho : ∀ ps, o ≠ .tbl ps) : NT (upd B p o) := fun a ps e => by
  by_cases z : a = p
  · subst z; rw [upd_same] at e; exact ho ps (Option.some.inj e)
  · rw [upd_ne z] at e; exact n a ps e
theorem Tr.new {B H : Hp} {p : Addr} {o : HO} (s : Same B H) (h : H p = none) (ho : ∀ ps, o ≠ .tbl ps := by intro _ z; cases z) : Tr B H (upd B p o) (upd H p o) := ⟨same_upd (s.free h), fun b u e => by
    by_cases z : b = p
    · subst z; rw [upd_same] at e ⊢; exact e
    · rw [upd_ne z] at e ⊢; exact s b u e, .of (same_upd h), fun n => nt_upd n ho, fun a u x y => by
    by_cases z : a = p
    · subst z; exact h
    · rw [upd_ne z, y] at x; cases x⟩
/-- an object that the data do not know -/
theorem Tr.junk {B H : Hp} {p : Addr} {o : HO} (s : Same B H) (h : H p = none) : Tr B H B (upd H p o) := ⟨Same.refl _, same_upd2 s h, .of (same_upd h), id, fun a u x y => by rw [y] at x; cases x⟩
theorem rd_mono {H H' : Hp} {a : Addr} {u : HO} (e : Same H H') (h : Rd H a u) : Rd H' a u := by
  rcases h with h | ⟨o, h⟩
  · exact Or.inl (e a _ h)
  · exact Or.inr ⟨o, e a _ h⟩
theorem sqL_mono {K : PySem.W.Frag} {H H' : Hp} {a : Addr} {xs : List V} (e : Same H H') (h : SqL K H a xs) : SqL K H' a xs := by
  rcases h with h | h
  · exact Or.inl (rd_mono e h)
  · exact Or.inr h
theorem sqT_mono {K : PySem.W.Frag} {H H' : Hp} {a : Addr} {xs : List V} (e : Same H H') (h : SqT K H a xs) : SqT K H' a xs := by
  rcases h with h | h
  · exact Or.inl (rd_mono e h)
  · exact Or.inr h
section
variable {K : PySem.W.Frag} {H H' : Hp}
mutual
theorem dp_mono [Tbs] (e : Same H H') : ∀ {v : V} {d : PyData}, Dq K H v d → Dq K H' v d
  | _, _, .non => .non
  | _, _, .bl b => .bl b
  | _, _, .int i => .int i
  | _, _, .str x => .str x
  | _, _, .lst h a => .lst (sqL_mono e h) (dpAll_mono e a)
  | _, _, .tup h a => .tup (sqT_mono e h) (dpAll_mono e a)
  | _, _, .emp h => .emp (e _ _ h)
  | _, _, .ins h a => .ins (e _ _ h) (dpF_mono e a)
theorem dpAll_mono [Tbs] (e : Same H H') : ∀ {vs : List V} {ds : List PyData}, DqAll K H vs ds → DqAll K H' vs ds
  | _, _, .nil => .nil
  | _, _, .cons h t => .cons (dp_mono e h) (dpAll_mono e t)
theorem dpF_mono [Tbs] (e : Same H H') : ∀ {vs : List (Str × V)} {ds : List (PyData × PyData)}, DqF K H vs ds → DqF K H' vs ds
  | _, _, .nil => .nil
  | _, _, .cons h t => .cons (dp_mono e h) (dpF_mono e t)
end
theorem dpAll_len [Tbs] {us : List V} {ds : List PyData} (h : DqAll K H us ds) : us.length = ds.length := by
  induction us generalizing ds with
  | nil => cases h; rfl
  | cons v us ih => cases h with | cons a b => simp [ih b]
theorem dpAll_append [Tbs] {us ws : List V} {ds es : List PyData} (h : DqAll K H us ds) (g : DqAll K H ws es) : DqAll K H (us ++ ws) (ds ++ es) := by
  induction us generalizing ds with
  | nil => cases h; exact g
  | cons v us ih => cases h with | cons a b => exact .cons a (ih b)
theorem dpAll_get [Tbs] {vs : List V} {ds : List PyData} (h : DqAll K H vs ds) {i : Nat} {d : PyData} (e : ds[i]? = some d) : ∃ v, vs[i]? = some v ∧ Dq K H v d := by
  induction vs generalizing ds i with
  | nil => cases h; simp at e
  | cons v vs ih => cases h with
    | cons a b =>
      cases i with
      | zero => simp at e; subst e; exact ⟨v, rfl, a⟩
      | succ i => simp at e; simpa using ih b e
theorem dpAll_getV [Tbs] {vs : List V} {ds : List PyData} (h : DqAll K H vs ds) {i : Nat} {v : V} (e : vs[i]? = some v) : ∃ d, ds[i]? = some d ∧ Dq K H v d := by
  induction vs generalizing ds i with
  | nil => simp at e
  | cons w vs ih => cases h with
    | cons a b =>
      cases i with
      | zero => simp at e; subst e; exact ⟨_, rfl, a⟩
      | succ i => simp at e; simpa using ih b e
theorem dpAll_take [Tbs] {vs : List V} {ds : List PyData} (h : DqAll K H vs ds) (n : Nat) : DqAll K H (vs.take n) (ds.take n) := by
  induction vs generalizing ds n with
  | nil => cases h; simp; exact .nil
  | cons w vs ih => cases h with
    | cons a b =>
      cases n with
      | zero => exact .nil
      | succ n => exact .cons a (ih b n)
theorem dpAll_drop [Tbs] {vs : List V} {ds : List PyData} (h : DqAll K H vs ds) (n : Nat) : DqAll K H (vs.drop n) (ds.drop n) := by
  induction vs generalizing ds n with
  | nil => cases h; simp; exact .nil
  | cons w vs ih => cases h with
    | cons a b =>
      cases n with
      | zero => exact .cons a b
      | succ n => exact ih b n
theorem dpAll_rev [Tbs] {us : List V} {ds : List PyData} (h : DqAll K H us ds) : DqAll K H us.reverse ds.reverse := by
  induction us generalizing ds with
  | nil => cases h; exact .nil
  | cons w us ih => cases h with
    | cons a b => rw [List.reverse_cons, List.reverse_cons]; exact dpAll_append (ih b) (.cons a .nil)
end

/-! ### slots -/
/-- what a slot holds: data; or a list that only this slot knows, and that may grow -/
inductive Sv | d (x : PyData) | own (o : Option Addr) (xs : List PyData) | ob (a : Addr) (n : Str) (fs : List (PyData × PyData))
abbrev Rho := List (Option Sv)
/-- self while it is made: slot 0 alone knows it -/
def Obs [Tbs] (K : PySem.W.Frag) (H0 B : Hp) (ρ : Rho) (σ : L2.St) (H : Hp) : Prop := ∀ (i : Nat) (a : Addr) (n : Str) (fs : List (PyData × PyData)), ρ[i]? = some (some (.ob a n fs)) →
  i = 0 ∧ ∃ dx vs, σ[0]? = some (some (V.ref a)) ∧ B a = none ∧ H0 a = none ∧ H a = some (.ins (Tbs.Cl n) dx vs) ∧ DqF K B vs fs
theorem Obs.none [Tbs] {K : PySem.W.Frag} {H0 B H : Hp} {ρ : Rho} {σ : L2.St} (h : ∀ (i : Nat) (a : Addr) (n : Str) (fs : List (PyData × PyData)), ρ[i]? ≠ some (some (.ob a n fs))) : Obs K H0 B ρ σ H := fun i a n fs e => absurd e (h i a n fs)
theorem Obs.set [Tbs] {K : PySem.W.Frag} {H0 B H : Hp} {ρ : Rho} {σ : L2.St} (s : Obs K H0 B ρ σ H) {i : Nat} {x : Option Sv} {y : Option V} (hx : ∀ a n fs, x ≠ some (.ob a n fs)) : Obs K H0 B (ρ.set i x) (σ.set i y) H := fun j a n fs e => by
  by_cases z : i = j
  · subst z
    by_cases hl : i < ρ.length
    · rw [List.getElem?_set_self hl] at e; exact absurd (Option.some.inj e) (hx a n fs)
    · rw [List.getElem?_eq_none (by simpa using hl)] at e; cases e
  · rw [List.getElem?_set_ne z] at e
    obtain ⟨rfl, h⟩ := s j a n fs e
    rw [List.getElem?_set_ne z]
    exact ⟨rfl, h⟩
theorem Obs.setR [Tbs] {K : PySem.W.Frag} {H0 B H : Hp} {ρ : Rho} {σ : L2.St} (s : Obs K H0 B ρ σ H) {i : Nat} {x : Option Sv} (hx : ∀ a n fs, x ≠ some (.ob a n fs)) : Obs K H0 B (ρ.set i x) σ H := fun j a n fs e => by
  by_cases z : i = j
  · subst z
    by_cases hl : i < ρ.length
    · rw [List.getElem?_set_self hl] at e; exact absurd (Option.some.inj e) (hx a n fs)
    · rw [List.getElem?_eq_none (by simpa using hl)] at e; cases e
  · rw [List.getElem?_set_ne z] at e
    exact s j a n fs e
/-- the heap goes on, this instance is kept -/
theorem Obs.go [Tbs] {K : PySem.W.Frag} {H0 B H B' H' : Hp} {ρ : Rho} {σ : L2.St} (s : Obs K H0 B ρ σ H) (b : Same B B') (h : ∀ a C dx vs, B a = .none → H0 a = .none → H a = some (.ins C dx vs) → B' a = .none ∧ H' a = some (.ins C dx vs)) : Obs K H0 B' ρ σ H' := fun j a n fs e => by
  obtain ⟨rfl, dx, vs, e1, e2, e3, e4, e5⟩ := s j a n fs e
  obtain ⟨h1, h2⟩ := h a _ _ _ e2 e3 e4
  exact ⟨rfl, dx, vs, e1, h1, e3, h2, dpF_mono b e5⟩
structure Sl [Tbs] (K : PySem.W.Frag) (H0 B : Hp) (ρ : Rho) (σ : L2.St) (H : Hp) : Prop where
  bh : Same B H
  nt : NT B
  tb : ∀ P ∈ Tbs.T, GxR.TabG H P
  len : ρ.length = σ.length
  dv : ∀ {i : Nat} {x : PyData}, ρ[i]? = some (some (.d x)) → ∃ v, σ[i]? = some (some v) ∧ Dq K B v x
  ow : ∀ {i : Nat} {o : Option Addr} {xs : List PyData}, ρ[i]? = some (some (.own o xs)) → ∃ a us, σ[i]? = some (some (V.ref a)) ∧ B a = none ∧ H0 a = none ∧ H a = some (.lst us) ∧ DqAll K B us xs ∧ ∀ b, o = some b → a = b
  ap : ∀ {i j : Nat} {o o' : Option Addr} {xs ys : List PyData} {a : Addr}, ρ[i]? = some (some (.own o xs)) → ρ[j]? = some (some (.own o' ys)) → σ[i]? = some (some (V.ref a)) → σ[j]? = some (some (V.ref a)) → i = j
  ob : Obs K H0 B ρ σ H
theorem Sl.tr [Tbs] {K : PySem.W.Frag} {H0 B B' H H' : Hp} {ρ : Rho} {σ : L2.St} (s : Sl K H0 B ρ σ H) (t : Tr B H B' H') : Sl K H0 B' ρ σ H' := by
  refine ⟨t.t, t.n s.nt, fun P hP => t.h.tab (s.tb P hP), s.len, fun h => ?_, fun h => ?_, fun a b c d => s.ap a b c d, s.ob.go t.b fun a C dx vs h1 _ h2 => ⟨?_, t.h.k a _ h2 (fun ps z => by cases z)⟩⟩
  · obtain ⟨v, h1, h2⟩ := s.dv h
    exact ⟨v, h1, dp_mono t.b h2⟩
  · obtain ⟨a, vs, h1, h2, h3, h4, h5, h6⟩ := s.ow h
    refine ⟨a, vs, h1, ?_, h3, t.h.l h4, dpAll_mono t.b h5, h6⟩
    cases e : B' a with
    | none => rfl
    | some o => rw [t.f a o e h2] at h4; cases h4
  · cases e : B' a with
    | none => rfl
    | some o => rw [t.f a o e h1] at h2; cases h2

structure Bs [Tbs] (B H : Hp) : Prop where
  s : Same B H
  nt : NT B
  tb : ∀ P ∈ Tbs.T, GxR.TabG H P
theorem Sl.bs [Tbs] {K : PySem.W.Frag} {H0 B H : Hp} {ρ : Rho} {σ : L2.St} (s : Sl K H0 B ρ σ H) : Bs B H := ⟨s.bh, s.nt, s.tb⟩
theorem rd_gw {H H' : Hp} {a : Addr} {u : HO} (e : Gw H H') (n : ∀ ps, u ≠ .tbl ps) (h : Rd H a u) : Rd H' a u := by
  rcases h with h | ⟨o, h⟩
  · exact Or.inl (e.k a _ h n)
  · exact Or.inr ⟨o, e.k a _ h (fun ps z => by cases z)⟩
theorem sqL_gw {K : PySem.W.Frag} {H H' : Hp} {a : Addr} {xs : List V} (e : Gw H H') (h : SqL K H a xs) : SqL K H' a xs := by
  rcases h with h | h
  · exact Or.inl (rd_gw e (fun ps z => by cases z) h)
  · exact Or.inr h
theorem sqT_gw {K : PySem.W.Frag} {H H' : Hp} {a : Addr} {xs : List V} (e : Gw H H') (h : SqT K H a xs) : SqT K H' a xs := by
  rcases h with h | h
  · exact Or.inl (rd_gw e (fun ps z => by cases z) h)
  · exact Or.inr h
mutual
theorem dp_gw [Tbs] {K : PySem.W.Frag} {H H' : Hp} (e : Gw H H') : ∀ {v : V} {d : PyData}, Dq K H v d → Dq K H' v d
  | _, _, .non => .non
  | _, _, .bl b => .bl b
  | _, _, .int i => .int i
  | _, _, .str x => .str x
  | _, _, .lst h a => .lst (sqL_gw e h) (dpAll_gw e a)
  | _, _, .tup h a => .tup (sqT_gw e h) (dpAll_gw e a)
  | _, _, .emp h => .emp (e.k _ _ h (fun ps z => by cases z))
  | _, _, .ins h a => .ins (e.k _ _ h (fun ps z => by cases z)) (dpF_gw e a)
theorem dpAll_gw [Tbs] {K : PySem.W.Frag} {H H' : Hp} (e : Gw H H') : ∀ {vs : List V} {ds : List PyData}, DqAll K H vs ds → DqAll K H' vs ds
  | _, _, .nil => .nil
  | _, _, .cons h t => .cons (dp_gw e h) (dpAll_gw e t)
theorem dpF_gw [Tbs] {K : PySem.W.Frag} {H H' : Hp} (e : Gw H H') : ∀ {vs : List (Str × V)} {ds : List (PyData × PyData)}, DqF K H vs ds → DqF K H' vs ds
  | _, _, .nil => .nil
  | _, _, .cons h t => .cons (dp_gw e h) (dpF_gw e t)
end
/-- H without its tables -/
def unt (H : Hp) : Hp := fun a => match H a with
  | some (.tbl _) => none
  | x => x
theorem unt_same (H : Hp) : Same (unt H) H := fun a o e => by
  unfold unt at e
  split at e
  · cases e
  · exact e
theorem unt_nt (H : Hp) : NT (unt H) := fun a ps e => by
  have h := unt_same H a _ e
  unfold unt at e
  rw [h] at e
  cases e
theorem unt_gw (H : Hp) {a : Addr} {u : HO} (h : H a = some u) (n : ∀ ps, u ≠ .tbl ps) : unt H a = some u := by
  unfold unt
  rw [h]
  cases u <;> first | rfl | exact absurd rfl (n _)

/-! ### readings by data -/
def tD [Tbs] (K : PySem.W.Frag) (f : Rho → Option PyData) : TE := fun σ H Q => ∃ H0 B ρ d, Sl K H0 B ρ σ H ∧ f ρ = some d ∧ ∀ v B' H', Tr B H B' H' → Dq K B' v d → Q v H'
def tDT [Tbs] (K : PySem.W.Frag) (f : Rho → Option Bool) : TT := fun σ H Q => ∃ H0 B ρ d, Sl K H0 B ρ σ H ∧ f ρ = some d ∧ ∀ B' H', Tr B H B' H' → Q d H'
def tDA [Tbs] (K : PySem.W.Frag) (f : Rho → Option (List PyData)) : TA := fun σ H Q => ∃ H0 B ρ d, Sl K H0 B ρ σ H ∧ f ρ = some d ∧ ∀ v B' H', Tr B H B' H' → DqAll K B' v d → Q v H'
abbrev PD [Tbs] (X : Cx) (e : Expr) (f : Rho → Option PyData) : Prop := PE X e (tD X.K f)
abbrev PDT [Tbs] (X : Cx) (e : Expr) (f : Rho → Option Bool) : Prop := PT X e (tDT X.K f)
abbrev PDA [Tbs] (X : Cx) (es : List Expr) (f : Rho → Option (List PyData)) : Prop := PA X es (tDA X.K f)
theorem pe_imp {X : Cx} {e : Expr} {t t' : TE} (h : PE X e t) (i : ∀ σ H Q, t' σ H Q → t σ H Q) : PE X e t' := ⟨fun pins s σ H Q I q => h.run pins s σ H Q I (i σ H Q q)⟩
theorem pt_imp {X : Cx} {e : Expr} {t t' : TT} (h : PT X e t) (i : ∀ σ H Q, t' σ H Q → t σ H Q) : PT X e t' := ⟨fun pins s σ H Q I q => h.run pins s σ H Q I (i σ H Q q)⟩
theorem pw_imp {X : Cx} {e : Expr} {t t' : TT} (h : PW X e t) (i : ∀ σ H Q, t' σ H Q → t σ H Q) : PW X e t' := ⟨fun w pins s σ H Q I q => h.run w pins s σ H Q I (i σ H Q q)⟩
theorem pa_imp {X : Cx} {e : List Expr} {t t' : TA} (h : PA X e t) (i : ∀ σ H Q, t' σ H Q → t σ H Q) : PA X e t' := ⟨fun p pins s σ H Q I q => h.run p pins s σ H Q I (i σ H Q q)⟩
theorem ps_imp {X : Cx} {e : Stmt} {t t' : TS} (h : PS X e t) (i : ∀ D σ H, t' D σ H → t D σ H) : PS X e t' := ⟨fun pins s σ H D I q => h.run pins s σ H D I (i D σ H q)⟩
theorem pss_imp {X : Cx} {e : List Stmt} {t t' : TS} (h : PSs X e t) (i : ∀ D σ H, t' D σ H → t D σ H) : PSs X e t' := ⟨fun pins s σ H D I q => h.run pins s σ H D I (i D σ H q)⟩

section
variable {X : Cx} {e a b c : Expr} {es : List Expr} {pos : Pos} {f g h : Rho → Option PyData} {fs : Rho → Option (List PyData)} {x : Str} {i : Nat} {k : PySem.W.Frag}

/-! ### names, constants -/
def fV (i : Nat) : Rho → Option PyData := fun ρ => match ρ[i]? with
  | some (some (.d x)) => some x
  | _ => none
def fC (d : PyData) : Rho → Option PyData := fun _ => some d
theorem fV_some {ρ : Rho} {d : PyData} (h : fV i ρ = some d) : ρ[i]? = some (some (.d d)) := by
  unfold fV at h
  split at h
  · rename_i y e; rw [e, Option.some.inj h]
  · cases h
theorem pd_v [Tbs] (h : PE X e (tVar i)) : PD X e (fV i) := pe_imp h fun σ H Q ⟨H0, B, ρ, d, s, hf, q⟩ => by
  obtain ⟨v, h1, h2⟩ := s.dv (fV_some hf)
  exact ⟨v, h1, q v B H (Tr.refl s.bh) h2⟩
theorem pd_c [Tbs] {v : V} {d : PyData} (h : PE X e (tC v)) (hd : ∀ K H, Dq K H v d) : PD X e (fC d) := pe_imp h fun σ H Q ⟨H0, B, ρ, d', s, hf, q⟩ => by
  cases hf
  exact q v B H (Tr.refl s.bh) (hd _ _)
theorem pd_int [Tbs] {n : Int} {j pos} : PD X (.Constant (.int n) j pos) (fC (.int n)) := pd_c pe_int fun _ _ => .int n
theorem pd_bl [Tbs] {n : Bool} {j pos} : PD X (.Constant (.bool n) j pos) (fC (.bool n)) := pd_c pe_bl fun _ _ => .bl n
theorem pd_str [Tbs] {n : Str} {j pos} : PD X (.Constant (.str n) j pos) (fC (.str n)) := pd_c pe_str fun _ _ => .str n
theorem pd_non [Tbs] {j pos} : PD X (.Constant .none j pos) (fC .none) := pd_c pe_non fun _ _ => .non

/-! ### two operands -/
def f2 (g : PyData → PyData → Option PyData) (fa fb : Rho → Option PyData) : Rho → Option PyData := fun ρ => (fa ρ).bind fun x => (fb ρ).bind fun y => g x y
def RD [Tbs] (K : PySem.W.Frag) (r : R2) (g : PyData → PyData → Option PyData) : Prop := ∀ (B H : Hp) (x y : V) (dx dy d : PyData) (Q : VK), Same B H → Dq K B x dx → Dq K B y dy → g dx dy = some d → (∀ v B' H', Tr B H B' H' → Dq K B' v d → Q v H') → r x y H Q
theorem bind_some {α β : Type} {o : Option α} {k : α → Option β} {z : β} (h : o.bind k = some z) : ∃ a, o = some a ∧ k a = some z := by
  cases o with
  | none => cases h
  | some a => exact ⟨a, rfl, h⟩
theorem two [Tbs] {K : PySem.W.Frag} {r : R2} {g : PyData → PyData → Option PyData} {fa fb : Rho → Option PyData} (hr : RD K r g) : ∀ σ H Q, tD K (f2 g fa fb) σ H Q → tOp r (tD K fa) (tD K fb) σ H Q := fun σ H Q ⟨H0, B, ρ, d, s, hf, q⟩ => by
  obtain ⟨x, hx, hf⟩ := bind_some hf
  obtain ⟨y, hy, hf⟩ := bind_some hf
  refine ⟨H0, B, ρ, x, s, hx, fun v B1 H1 t1 d1 => ?_⟩
  refine ⟨H0, B1, ρ, y, s.tr t1, hy, fun w B2 H2 t2 d2 => ?_⟩
  exact hr B2 H2 v w x y d Q t2.t (dp_mono t2.b d1) d2 hf fun z B3 H3 t3 d3 => q z B3 H3 ((t1.trans t2).trans t3) d3
theorem pd_op [Tbs] {op : Operator} {r : R2} {g : PyData → PyData → Option PyData} {fa fb : Rho → Option PyData} (ho : OpR X (binaryOp op) r) (hr : RD X.K r g) (ha : PD X a fa) (hb : PD X b fb) : PD X (.BinOp a op b pos) (f2 g fa fb) := pe_imp (pe_op ho ha hb) (two hr)
theorem pd_cmp [Tbs] {op : CmpOp} {r : R2} {g : PyData → PyData → Option PyData} {fa fb : Rho → Option PyData} (ho : OpR X (compareOp op) r) (hr : RD X.K r g) (ha : PD X a fa) (hb : PD X b fb) (hm : behindInMarks op b = false) : PD X (.Compare a [op] [b] pos) (f2 g fa fb) := pe_imp (pe_cmpR ho ha hb hm) (two hr)
def fB (f : Rho → Option PyData) : Rho → Option Bool := fun ρ => match f ρ with
  | some (.bool b) => some b
  | _ => none
theorem fB_some {ρ : Rho} {d : Bool} (h : fB f ρ = some d) : f ρ = some (.bool d) := by
  unfold fB at h
  split at h
  · rename_i y e; rw [e, Option.some.inj h]
  · cases h
theorem of_test [Tbs] {K : PySem.W.Frag} {te : TE} (hi : ∀ σ H Q, tD K f σ H Q → te σ H Q) : ∀ σ H Q, tDT K (fB f) σ H Q → tTest te σ H Q := fun σ H Q ⟨H0, B, ρ, d, s, hf, q⟩ =>
  hi σ H _ ⟨H0, B, ρ, .bool d, s, fB_some hf, fun v B' H' t dd => by cases dd; exact ⟨d, rfl, q B' H' t⟩⟩
theorem pdt_cmp [Tbs] {op : CmpOp} {r : R2} {g : PyData → PyData → Option PyData} {fa fb : Rho → Option PyData} (ho : OpR X (compareOp op) r) (hr : RD X.K r g) (ha : PD X a fa) (hb : PD X b fb) (hm : behindInMarks op b = false) : PDT X (.Compare a [op] [b] pos) (fB (f2 g fa fb)) := pt_imp (pt_cmpR ho ha hb hm) (of_test (two hr))
theorem pdt_val [Tbs] (h : PD X e f) (he : ∀ whole, isTrue e X.env whole = (do let v ← whole; standAt e.pos; holding [v] (truthy v)) := by intro _; rfl) : PDT X e (fB f) := pt_imp (pt_val h he) fun σ H Q q => (of_test (te := tD X.K f) (fun _ _ _ z => z) σ H Q q)

/-! ### and, or, not, if -/
def fAndT (f g : Rho → Option Bool) : Rho → Option Bool := fun ρ => (f ρ).bind fun c => if c then g ρ else some false
def fOrT (f g : Rho → Option Bool) : Rho → Option Bool := fun ρ => (f ρ).bind fun c => if c then some true else g ρ
def fNotT (f : Rho → Option Bool) : Rho → Option Bool := fun ρ => (f ρ).bind fun c => some (!c)
variable {ft gt : Rho → Option Bool}
abbrev PDW [Tbs] (X : Cx) (e : Expr) (f : Rho → Option Bool) : Prop := PW X e (tDT X.K f)
theorem pdw_and1 [Tbs] (ha : PDT X a ft) : PDW X (.BoolOp .And [a] pos) ft := pw_and1 ha
theorem pdw_or1 [Tbs] (ha : PDT X a ft) : PDW X (.BoolOp .Or [a] pos) ft := pw_or1 ha
theorem pdw_and [Tbs] {rest} (ha : PDT X a ft) (hb : PDW X (.BoolOp .And (b :: rest) pos) gt) : PDW X (.BoolOp .And (a :: b :: rest) pos) (fAndT ft gt) := pw_imp (pw_and ha hb) fun σ H Q ⟨H0, B, ρ, d, s, hf, q⟩ => by
  obtain ⟨x, hx, hf⟩ := bind_some hf
  refine ⟨H0, B, ρ, x, s, hx, fun B1 H1 t1 => ?_⟩
  cases x with
  | true => exact ⟨H0, B1, ρ, d, s.tr t1, hf, fun B2 H2 t2 => q B2 H2 (t1.trans t2)⟩
  | false => cases hf; exact q B1 H1 t1
theorem pdw_or [Tbs] {rest} (ha : PDT X a ft) (hb : PDW X (.BoolOp .Or (b :: rest) pos) gt) : PDW X (.BoolOp .Or (a :: b :: rest) pos) (fOrT ft gt) := pw_imp (pw_or ha hb) fun σ H Q ⟨H0, B, ρ, d, s, hf, q⟩ => by
  obtain ⟨x, hx, hf⟩ := bind_some hf
  refine ⟨H0, B, ρ, x, s, hx, fun B1 H1 t1 => ?_⟩
  cases x with
  | true => cases hf; exact q B1 H1 t1
  | false => exact ⟨H0, B1, ρ, d, s.tr t1, hf, fun B2 H2 t2 => q B2 H2 (t1.trans t2)⟩
theorem pdt_w [Tbs] (h : PDW X e ft) : PDT X e ft := h.pt
theorem pdt_not [Tbs] (ha : PDT X a ft) : PDT X (.UnaryOp .Not a pos) (fNotT ft) := pt_imp (pt_not ha) fun σ H Q ⟨H0, B, ρ, d, s, hf, q⟩ => by
  obtain ⟨x, hx, hf⟩ := bind_some hf
  cases hf
  exact ⟨H0, B, ρ, x, s, hx, fun B1 H1 t1 => q B1 H1 t1⟩
def fAnd (f g : Rho → Option PyData) : Rho → Option PyData := fun ρ => (fB f ρ).bind fun c => if c then g ρ else some (.bool false)
def fOr (f g : Rho → Option PyData) : Rho → Option PyData := fun ρ => (fB f ρ).bind fun c => if c then some (.bool true) else g ρ
def fNot (f : Rho → Option PyData) : Rho → Option PyData := fun ρ => (fB f ρ).bind fun c => some (.bool (!c))
theorem pd_one [Tbs] {op} (ha : PD X a f) : PD X (.BoolOp op [a] pos) f := pe_one ha
theorem pd_and [Tbs] {rest} (ha : PD X a f) (hb : PD X (.BoolOp .And (b :: rest) pos) g) : PD X (.BoolOp .And (a :: b :: rest) pos) (fAnd f g) := pe_imp (pe_and ha hb) fun σ H Q ⟨H0, B, ρ, d, s, hf, q⟩ => by
  obtain ⟨x, hx, hf⟩ := bind_some hf
  refine ⟨H0, B, ρ, .bool x, s, fB_some hx, fun v B1 H1 t1 d1 => ?_⟩
  cases d1
  refine ⟨x, rfl, ?_⟩
  cases x with
  | true => exact ⟨H0, B1, ρ, d, s.tr t1, hf, fun v B2 H2 t2 d2 => q v B2 H2 (t1.trans t2) d2⟩
  | false => cases hf; exact q _ B1 H1 t1 (.bl false)
theorem pd_or [Tbs] {rest} (ha : PD X a f) (hb : PD X (.BoolOp .Or (b :: rest) pos) g) : PD X (.BoolOp .Or (a :: b :: rest) pos) (fOr f g) := pe_imp (pe_or ha hb) fun σ H Q ⟨H0, B, ρ, d, s, hf, q⟩ => by
  obtain ⟨x, hx, hf⟩ := bind_some hf
  refine ⟨H0, B, ρ, .bool x, s, fB_some hx, fun v B1 H1 t1 d1 => ?_⟩
  cases d1
  refine ⟨x, rfl, ?_⟩
  cases x with
  | true => cases hf; exact q _ B1 H1 t1 (.bl true)
  | false => exact ⟨H0, B1, ρ, d, s.tr t1, hf, fun v B2 H2 t2 d2 => q v B2 H2 (t1.trans t2) d2⟩
theorem pd_not [Tbs] (ha : PD X a f) : PD X (.UnaryOp .Not a pos) (fNot f) := pe_imp (pe_not ha) fun σ H Q ⟨H0, B, ρ, d, s, hf, q⟩ => by
  obtain ⟨x, hx, hf⟩ := bind_some hf
  cases hf
  refine ⟨H0, B, ρ, .bool x, s, fB_some hx, fun v B1 H1 t1 d1 => ?_⟩
  cases d1
  exact ⟨x, rfl, q _ B1 H1 t1 (.bl _)⟩
def fIf (c : Rho → Option Bool) (f g : Rho → Option PyData) : Rho → Option PyData := fun ρ => (c ρ).bind fun z => if z then f ρ else g ρ
theorem pd_if [Tbs] (hc : PDT X c ft) (ha : PD X a f) (hb : PD X b g) : PD X (.IfExp c a b pos) (fIf ft f g) := pe_imp (pe_ifExp hc ha hb) fun σ H Q ⟨H0, B, ρ, d, s, hf, q⟩ => by
  obtain ⟨x, hx, hf⟩ := bind_some hf
  refine ⟨H0, B, ρ, x, s, hx, fun B1 H1 t1 => ?_⟩
  cases x with
  | true => exact ⟨H0, B1, ρ, d, s.tr t1, hf, fun v B2 H2 t2 d2 => q v B2 H2 (t1.trans t2) d2⟩
  | false => exact ⟨H0, B1, ρ, d, s.tr t1, hf, fun v B2 H2 t2 d2 => q v B2 H2 (t1.trans t2) d2⟩

/-! ### lists of arguments, displays -/
def fNil : Rho → Option (List PyData) := fun _ => some []
def fCons (f : Rho → Option PyData) (fs : Rho → Option (List PyData)) : Rho → Option (List PyData) := fun ρ => (f ρ).bind fun x => (fs ρ).bind fun xs => some (x :: xs)
theorem pda_nil [Tbs] : PDA X [] fNil := pa_imp pa_nil fun σ H Q ⟨H0, B, ρ, d, s, hf, q⟩ => by cases hf; exact q _ B H (Tr.refl s.bh) .nil
theorem pda_cons [Tbs] (ha : PD X e f) (hr : PDA X es fs) (hs : starEach (e :: es) X.env = (false, eval e X.env) :: starEach es X.env := by rfl) : PDA X (e :: es) (fCons f fs) := pa_imp (pa_cons ha hr hs) fun σ H Q ⟨H0, B, ρ, d, s, hf, q⟩ => by
  obtain ⟨x, hx, hf⟩ := bind_some hf
  obtain ⟨xs, hxs, hf⟩ := bind_some hf
  cases hf
  refine ⟨H0, B, ρ, x, s, hx, fun v B1 H1 t1 d1 => ?_⟩
  exact ⟨H0, B1, ρ, xs, s.tr t1, hxs, fun vs B2 H2 t2 d2 => q _ B2 H2 (t1.trans t2) (.cons (dp_mono t2.b d1) d2)⟩
/-- the largest list that is made here -/
abbrev bigL : Nat := 100000
theorem bigL_le {n : Nat} (h : n ≤ bigL) : n ≤ sizeLine := Nat.le_trans h (by decide)
def fLst (fs : Rho → Option (List PyData)) : Rho → Option PyData := fun ρ => (fs ρ).bind fun xs => if xs.length ≤ bigL then some (.list xs) else none
def fTup (fs : Rho → Option (List PyData)) : Rho → Option PyData := fun ρ => (fs ρ).bind fun xs => if xs.length ≤ bigL then some (.tuple xs) else none
theorem ite_some {c : Prop} [Decidable c] {α : Type} {x z : α} (h : (if c then some x else none) = some z) : c ∧ x = z := by
  by_cases hc : c
  · rw [if_pos hc] at h; exact ⟨hc, Option.some.inj h⟩
  · rw [if_neg hc] at h; cases h
theorem pd_lst [Tbs] {x1} (h : PDA X es fs) : PD X (.List es x1) (fLst fs) := pe_imp (pe_lst h) fun σ H Q ⟨H0, B, ρ, d, s, hf, q⟩ => by
  obtain ⟨xs, hxs, hf⟩ := bind_some hf
  obtain ⟨hl, rfl⟩ := ite_some hf
  refine ⟨H0, B, ρ, xs, s, hxs, fun vs B1 H1 t1 d1 => ⟨by rw [dpAll_len d1]; exact bigL_le hl, fun p hp => ?_⟩⟩
  exact q _ _ _ (t1.trans (Tr.new t1.t hp)) (.lst (SqL.of upd_same) (dpAll_mono (same_upd (t1.t.free hp)) d1))
theorem pd_tup [Tbs] {x1} (h : PDA X es fs) : PD X (.Tuple es x1 pos) (fTup fs) := pe_imp (pe_tup h) fun σ H Q ⟨H0, B, ρ, d, s, hf, q⟩ => by
  obtain ⟨xs, hxs, hf⟩ := bind_some hf
  obtain ⟨hl, rfl⟩ := ite_some hf
  refine ⟨H0, B, ρ, xs, s, hxs, fun vs B1 H1 t1 d1 => ⟨by rw [dpAll_len d1]; exact bigL_le hl, fun p hp => ?_⟩⟩
  exact q _ _ _ (t1.trans (Tr.new t1.t hp)) (.tup (SqT.of upd_same) (dpAll_mono (same_upd (t1.t.free hp)) d1))
end
end Dn

namespace Dn
open PySem L2 PySem.Spec PyProof.Rows
section
variable {X : Cx}
/-! ### list + list, list * int, whatever the lists are -/
def rCatL (K : PySem.W.Frag) : R2 := fun x y H Q => ∃ l m xs ys, x = .ref l ∧ y = .ref m ∧ SqL K H l xs ∧ SqL K H m ys ∧ xs.length + ys.length ≤ sizeLine ∧ ∀ p, H p = none → Q (.ref p) (upd H p (.lst (xs ++ ys)))
theorem op_catL : OpR X (binaryOp .Add) (rCatL X.K) := by
  intro pins s σ H x y v u Q I hx hy ⟨l, m, xs, ys, e1, e2, h1, h2, hsz, q⟩
  subst e1 e2
  cases hx
  cases hy
  obtain ⟨its, r, p1, z1⟩ := I.list h1
  obtain ⟨jts, r2, p2, z2⟩ := I.list h2
  obtain ⟨⟨c1, d1, t1, s1⟩, o1, hc, n, hd⟩ := p1.isList
  obtain ⟨⟨c2, d2, t2, s2⟩, o2, hc2, n2, hd2⟩ := p2.isList
  simp only at hc hd hc2 hd2
  subst hc hd hc2 hd2
  have g1 := r.length
  have g2 := r2.length
  refine concat_meets ⟨_, o1, rfl⟩ ⟨_, o2, rfl⟩ noFill_list_add seq_list_add PySem.F.slot_list_add PySem.F.entry_list_add (PySem.F.args_list_add_2 _ _) (list_addW l m its.toArray jts.toArray n n2 d1 d2 s1 s2 (by simp; omega)) ⟨o1, o2, ?_⟩
  rw [show its.toArray ++ jts.toArray = (its ++ jts).toArray by simp]
  exact ⟨.ref _, _, I.lnew (t' := s.toks) (r.append r2) (by simp; omega), rfl, q _ I.fresh⟩
def rRepL (K : PySem.W.Frag) : R2 := fun x y H Q => ∃ l k xs, x = .ref l ∧ y = .int k ∧ SqL K H l xs ∧ -(2 ^ 63) ≤ k ∧ k < 2 ^ 63 ∧ xs.length * k.toNat ≤ sizeLine ∧ ∀ p, H p = none → Q (.ref p) (upd H p (.lst (List.replicate k.toNat xs).flatten))
theorem op_repL : OpR X (binaryOp .Mult) (rRepL X.K) := by
  intro pins s σ H x y v u Q I hx hy ⟨l, k, xs, e1, e2, h1, lo, hi, hsz, q⟩
  subst e1 e2
  cases hx
  obtain ⟨t, rfl⟩ := hy
  obtain ⟨its, r, p1, z1⟩ := I.list h1
  obtain ⟨⟨c1, d1, t1, s1⟩, o1, hc, n, hd⟩ := p1.isList
  simp only at hc hd
  subst hc hd
  have g1 := r.length
  have g2 := sizeLine_eq
  have g3 : its.toArray.size * k.toNat ≤ sizeLine := by simpa [← g1] using hsz
  refine wpAny_binaryOp_repeat_ref (T := "list") (U := "int") (by decide) ⟨_, o1, rfl⟩ (fun s' => typeIs_int s' k t) noFill_list_mul F.fills_int_mul F.slot_int_rmul repeat_list F.slot_int_index.lookup (call_meets F.slot_int_rmul (typeIs_int s k t) F.entry_int_rmul (F.args_int_rmul_2 _ _) (lm_int_rmul_list_any k t l its.toArray n d1 s1) ⟨o1, rfl, ⟨_, o1, rfl⟩, call_meets F.slot_list_mul ⟨_, o1, rfl⟩ F.entry_list_mul (F.args_list_mul_2 _ _) (lm_list_mul_any l its.toArray n d1 s1 k t (by simp [Builtin.List.listFitsIndex]; omega) (by omega) (by simp [Builtin.List.listTooLong]; simp at g3; omega)) ⟨o1, ?_⟩⟩)
  rw [listMul_foldl_if]
  exact ⟨.ref _, _, I.lnew (t' := s.toks) (r.rep k.toNat) (by rw [PyProof.Rows.lm_len_rep_flat, Nat.mul_comm] <;> exact hsz), rfl, q _ I.fresh⟩
end

section
variable {K : PySem.W.Frag} {B H : Hp}
theorem dpAll_rep [Tbs] {vs : List V} {ds : List PyData} (h : DqAll K H vs ds) : ∀ n : Nat, DqAll K H (List.replicate n vs).flatten (List.replicate n ds).flatten
  | 0 => .nil
  | n + 1 => by
    simp only [List.replicate_succ, List.flatten_cons]
    exact dpAll_append h (dpAll_rep h n)
/-- what is scalar, as a value -/
theorem newL [Tbs] {Q : VK} {vs : List V} {ds : List PyData} (s : Same B H) (h : DqAll K B vs ds) (q : ∀ v B' H', Tr B H B' H' → Dq K B' v (.list ds) → Q v H') {p : Addr} (hp : H p = none) : Q (.ref p) (upd H p (.lst vs)) :=
  q _ _ _ (Tr.new s hp) (.lst (SqL.of upd_same) (dpAll_mono (same_upd (s.free hp)) h))
theorem newT [Tbs] {Q : VK} {vs : List V} {ds : List PyData} (s : Same B H) (h : DqAll K B vs ds) (q : ∀ v B' H', Tr B H B' H' → Dq K B' v (.tuple ds) → Q v H') {p : Addr} (hp : H p = none) : Q (.ref p) (upd H p (.tup vs)) :=
  q _ _ _ (Tr.new s hp) (.tup (SqT.of upd_same) (dpAll_mono (same_upd (s.free hp)) h))

/-! ### the operators, by data -/
def ri (op : Int → Int → Int) : PyData → PyData → Option PyData
  | .int a, .int b => some (.int (op a b))
  | _, _ => none
theorem rd_ri [Tbs] {op : Int → Int → Int} : RD K (rI0 fun i j => .int (op i j)) (ri op) := fun B H x y dx dy d Q s hx hy hg q => by
  unfold ri at hg
  split at hg
  · cases hx; cases hy; cases hg; exact ⟨_, _, rfl, rfl, q _ B H (Tr.refl s) (.int _)⟩
  · cases hg
def rb (op : Int → Int → Bool) : PyData → PyData → Option PyData
  | .int a, .int b => some (.bool (op a b))
  | _, _ => none
theorem rd_rb [Tbs] {op : Int → Int → Bool} : RD K (rI0 fun i j => .bl (op i j)) (rb op) := fun B H x y dx dy d Q s hx hy hg q => by
  unfold rb at hg
  split at hg
  · cases hx; cases hy; cases hg; exact ⟨_, _, rfl, rfl, q _ B H (Tr.refl s) (.bl _)⟩
  · cases hg
theorem rd_or [Tbs] {r r' : R2} {g : PyData → PyData → Option PyData} (h : ∀ (B H : Hp) (x y : V) (dx dy d : PyData) (Q : VK), Same B H → Dq K B x dx → Dq K B y dy → g dx dy = some d → (∀ v B' H', Tr B H B' H' → Dq K B' v d → Q v H') → r x y H Q ∨ r' x y H Q) : RD K (fun x y H Q => r x y H Q ∨ r' x y H Q) g := h

def addD : PyData → PyData → Option PyData
  | .int a, .int b => some (.int (a + b))
  | .str a, .str b => if a.length + b.length ≤ bigL then some (.str (a ++ b)) else none
  | .list a, .list b => if a.length + b.length ≤ bigL then some (.list (a ++ b)) else none
  | _, _ => none
def rAddD (K : PySem.W.Frag) : R2 := fun x y H Q => (rI0 fun i j => .int (i + j)) x y H Q ∨ (∃ i j, x = .str i ∧ y = .str j ∧ i.length + j.length ≤ sizeLine ∧ Q (.str (i ++ j)) H) ∨ rCatL K x y H Q
theorem op_addD {X : Cx} : OpR X (binaryOp .Add) (rAddD X.K) := op_add.or (op_add_str.or op_catL)
theorem rd_add [Tbs] : RD K (rAddD K) addD := fun B H x y dx dy d Q s hx hy hg q => by
  unfold addD at hg
  split at hg
  · cases hx; cases hy; cases hg; exact .inl ⟨_, _, rfl, rfl, q _ B H (Tr.refl s) (.int _)⟩
  · cases hx; cases hy; obtain ⟨hl, rfl⟩ := ite_some hg; exact .inr (.inl ⟨_, _, rfl, rfl, bigL_le hl, q _ B H (Tr.refl s) (.str _)⟩)
  · cases hx with
    | lst h1 a1 => cases hy with
      | lst h2 a2 =>
        obtain ⟨hl, rfl⟩ := ite_some hg
        exact .inr (.inr ⟨_, _, _, _, rfl, rfl, sqL_mono s h1, sqL_mono s h2, by rw [dpAll_len a1, dpAll_len a2]; exact bigL_le hl, fun p hp => newL s (dpAll_append a1 a2) q hp⟩)
  · cases hg
theorem rd_sub [Tbs] : RD K (rI0 fun i j => .int (i - j)) (ri fun i j => i - j) := rd_ri
def mulD : PyData → PyData → Option PyData
  | .int a, .int b => if (-(2 ^ 64) < a ∧ a < 2 ^ 64) ∨ (-(2 ^ 64) < b ∧ b < 2 ^ 64) then some (.int (a * b)) else none
  | .list a, .int k => if (0 ≤ k ∧ k ≤ bigL) ∧ a.length * k.toNat ≤ bigL then some (.list (List.replicate k.toNat a).flatten) else none
  | _, _ => none
def rMulD (K : PySem.W.Frag) : R2 := fun x y H Q => (rI CMul fun i j => .int (i * j)) x y H Q ∨ rRepL K x y H Q
theorem op_mulD {X : Cx} : OpR X (binaryOp .Mult) (rMulD X.K) := op_mul.or op_repL
theorem rd_mul [Tbs] : RD K (rMulD K) mulD := fun B H x y dx dy d Q s hx hy hg q => by
  unfold mulD at hg
  split at hg
  · cases hx; cases hy; obtain ⟨hl, rfl⟩ := ite_some hg; exact .inl ⟨_, _, rfl, rfl, hl, q _ B H (Tr.refl s) (.int _)⟩
  · cases hy
    cases hx with
    | lst h1 a1 =>
      obtain ⟨⟨⟨hk0, hk1⟩, hl⟩, rfl⟩ := ite_some hg
      have : (bigL : Int) = 100000 := rfl
      exact .inr ⟨_, _, _, rfl, rfl, sqL_mono s h1, by omega, by omega, by rw [dpAll_len a1]; exact bigL_le hl, fun p hp => newL s (dpAll_rep a1 _) q hp⟩
  · cases hg
def modD : PyData → PyData → Option PyData
  | .int a, .int b => if 0 < b then some (.int (a % b)) else none
  | _, _ => none
theorem rd_mod [Tbs] : RD K (rI (fun _ j => 0 < j) fun i j => .int (i % j)) modD := fun B H x y dx dy d Q s hx hy hg q => by
  unfold modD at hg
  split at hg
  · cases hx; cases hy; obtain ⟨hl, rfl⟩ := ite_some hg; exact ⟨_, _, rfl, rfl, hl, q _ B H (Tr.refl s) (.int _)⟩
  · cases hg
def fdivD : PyData → PyData → Option PyData
  | .int a, .int b => if 0 < b ∧ b < 1073741824 then some (.int (a / b)) else none
  | _, _ => none
theorem rd_fdiv [Tbs] : RD K (rI CDiv fun i j => .int (i / j)) fdivD := fun B H x y dx dy d Q s hx hy hg q => by
  unfold fdivD at hg
  split at hg
  · cases hx; cases hy; obtain ⟨hl, rfl⟩ := ite_some hg; exact ⟨_, _, rfl, rfl, hl, q _ B H (Tr.refl s) (.int _)⟩
  · cases hg

/-! ### ==, in -/
def eqD : PyData → PyData → Option Bool
  | .str a, .str b => some (a == b)
  | .int a, .int b => some (a == b)
  | .bool a, .bool b => some (a == b)
  | .none, .none => some true
  | x, y => if (SeqAt.shaped x && SeqAt.shaped y) = true then some (PyData.eqv x y) else none
def eqP (x y : PyData) : Option PyData := (eqD x y).map .bool
def neP (x y : PyData) : Option PyData := (eqD x y).map fun b => .bool (!b)
def rEqA (K : PySem.W.Frag) : R2 := fun x y H Q => rEq x y H Q ∨ rEqD K x y H Q
def rNeA (K : PySem.W.Frag) : R2 := fun x y H Q => rNe x y H Q ∨ rNeD K x y H Q
theorem op_eqA {X : Cx} (hu : X.A.units + 64 < cLine) : OpR X (compareOp .Eq) (rEqA X.K) := op_eq.or (op_eqD hu)
theorem op_neA {X : Cx} (hu : X.A.units + 64 < cLine) : OpR X (compareOp .NotEq) (rNeA X.K) := op_ne.or (op_neD hu)
theorem eqA_of [Tbs] {x y : V} {dx dy : PyData} {b : Bool} (s : Same B H) (hx : Dq K B x dx) (hy : Dq K B y dy) (h : eqD dx dy = some b) :
    (∀ Q : VK, Q (.bl b) H → rEqA K x y H Q) ∧ (∀ Q : VK, Q (.bl (!b)) H → rNeA K x y H Q) := by
  unfold eqD at h
  split at h
  · cases hx; cases hy; cases h
    constructor
    · intro Q q; exact .inl ⟨rfl, by rw [dec_str]; exact q⟩
    · intro Q q; exact .inl ⟨rfl, by rw [dec_str]; exact q⟩
  · cases hx; cases hy; cases h
    constructor
    · intro Q q; exact .inl ⟨rfl, by rw [dec_int]; exact q⟩
    · intro Q q; exact .inl ⟨rfl, by rw [dec_int]; exact q⟩
  · cases hx; cases hy; cases h
    constructor
    · intro Q q; exact .inl ⟨rfl, by rw [dec_bl]; exact q⟩
    · intro Q q; exact .inl ⟨rfl, by rw [dec_bl]; exact q⟩
  · cases hx; cases hy; cases h
    exact ⟨fun Q q => .inl ⟨rfl, q⟩, fun Q q => .inl ⟨rfl, q⟩⟩
  · obtain ⟨hs, rfl⟩ := ite_some h
    rw [Bool.and_eq_true] at hs
    exact ⟨fun Q q => .inr ⟨_, _, dq_sh (dp_mono s hx) hs.1, dq_sh (dp_mono s hy) hs.2, hs.1, hs.2, q⟩, fun Q q => .inr ⟨_, _, dq_sh (dp_mono s hx) hs.1, dq_sh (dp_mono s hy) hs.2, hs.1, hs.2, q⟩⟩
theorem rd_eq [Tbs] : RD K (rEqA K) eqP := fun B H x y dx dy d Q s hx hy hg q => by
  unfold eqP at hg
  cases e : eqD dx dy with
  | none => rw [e] at hg; cases hg
  | some b => rw [e] at hg; cases hg; exact (eqA_of s hx hy e).1 Q (q _ B H (Tr.refl s) (.bl b))
theorem rd_ne [Tbs] : RD K (rNeA K) neP := fun B H x y dx dy d Q s hx hy hg q => by
  unfold neP at hg
  cases e : eqD dx dy with
  | none => rw [e] at hg; cases hg
  | some b => rw [e] at hg; cases hg; exact (eqA_of s hx hy e).2 Q (q _ B H (Tr.refl s) (.bl _))

/-! ### items -/
theorem dpAll_at [Tbs] {vs : List V} {ds : List PyData} (h : DqAll K H vs ds) {i : Int} {d : PyData} (e : atI ds i = some d) : ∃ v, atI vs i = some v ∧ Dq K H v d := by
  unfold atI at e ⊢
  rw [dpAll_len h]
  obtain ⟨j, hj, e⟩ := bind_some e
  obtain ⟨v, hv, hd⟩ := dpAll_get h e
  exact ⟨v, by rw [hj]; exact hv, hd⟩
def ixD : PyData → PyData → Option PyData
  | .list xs, .int i => atI xs i
  | .tuple xs, .int i => atI xs i
  | .str z, .int i => if z.length ≤ bigL then (atI z.cps.toList i).map fun c => .str ⟨#[c]⟩ else none
  | _, _ => none
theorem rd_ix [Tbs] : RD K (rIx K) ixD := fun B H x y dx dy d Q s hx hy hg q => by
  unfold ixD at hg
  split at hg
  · cases hy
    cases hx with
    | lst h a =>
      obtain ⟨v, e, hd⟩ := dpAll_at a hg
      exact .inl ⟨_, _, _, v, rfl, rfl, sqL_mono s h, e, q v B H (Tr.refl s) hd⟩
  · cases hy
    cases hx with
    | tup h a =>
      obtain ⟨v, e, hd⟩ := dpAll_at a hg
      exact .inr (.inl ⟨_, _, _, v, rfl, rfl, sqT_mono s h, e, q v B H (Tr.refl s) hd⟩)
  · cases hy
    cases hx
    split at hg
    · rename_i hl
      obtain ⟨c, hc, rfl⟩ := Option.map_eq_some_iff.mp hg
      exact .inr (.inr ⟨_, _, c, rfl, rfl, bigL_le hl, hc, q _ B H (Tr.refl s) (.str _)⟩)
    · cases hg
  · cases hg
variable {X : Cx} {a b e : Expr} {es : List Expr} {pos : Pos} {f g : Rho → Option PyData} {fs : Rho → Option (List PyData)}
theorem pd_ix [Tbs] (ha : PD X a f) (hb : PD X b g) (hs : PlainIx b) : PD X (.Subscript a b pos) (f2 ixD f g) := pe_imp (pe_ix ix_seq ha hb hs) (two rd_ix)

/-! ### slices -/
def cutL {α : Type} (xs : List α) (lo hi : Option Int) : List α := (xs.drop (HT.sIx xs.length 0 lo)).take (HT.sIx xs.length xs.length hi - HT.sIx xs.length 0 lo)
theorem dpAll_cut [Tbs] {vs : List V} {ds : List PyData} (h : DqAll K H vs ds) (lo hi : Option Int) : DqAll K H (cutV vs lo hi) (cutL ds lo hi) := by
  unfold cutV cutL
  rw [dpAll_len h]
  exact dpAll_take (dpAll_drop h _) _
def tDO [Tbs] (K : PySem.W.Frag) (f : Rho → Option (Option Int)) : TO := fun σ H Q => ∃ H0 B ρ d, Sl K H0 B ρ σ H ∧ f ρ = some d ∧ ∀ B' H', Tr B H B' H' → Q d H'
abbrev PDO [Tbs] (X : Cx) (e : Option Expr) (f : Rho → Option (Option Int)) : Prop := PO X e (tDO X.K f)
theorem po_imp {X : Cx} {e : Option Expr} {t t' : TO} (h : PO X e t) (i : ∀ σ H Q, t' σ H Q → t σ H Q) : PO X e t' := ⟨fun pins s σ H Q I q => h.run pins s σ H Q I (i σ H Q q)⟩
def fO0 : Rho → Option (Option Int) := fun _ => some none
def fO (f : Rho → Option PyData) : Rho → Option (Option Int) := fun ρ => match f ρ with
  | some (.int i) => some (some i)
  | _ => none
theorem pdo_none [Tbs] : PDO X none fO0 := po_imp po_none fun σ H Q ⟨H0, B, ρ, d, s, hf, q⟩ => by cases hf; exact q B H (Tr.refl s.bh)
theorem pdo_some [Tbs] (h : PD X e f) : PDO X (some e) (fO f) := po_imp (po_some h) fun σ H Q ⟨H0, B, ρ, d, s, hf, q⟩ => by
  unfold fO at hf
  split at hf
  · rename_i i ei
    cases hf
    exact ⟨H0, B, ρ, _, s, ei, fun v B' H' t dd => by cases dd; exact ⟨i, rfl, q B' H' t⟩⟩
  · cases hf
def slD (lo hi : Option Int) : PyData → Option PyData
  | .list xs => some (.list (cutL xs lo hi))
  | .tuple xs => if ¬ (HT.sIx xs.length 0 lo = 0 ∧ HT.sIx xs.length xs.length hi = xs.length) then some (.tuple (cutL xs lo hi)) else none
  | .str z => if z.length ≤ bigL then some (.str (cutS z lo hi)) else none
  | _ => none
def fSl (f : Rho → Option PyData) (lo hi : Rho → Option (Option Int)) : Rho → Option PyData := fun ρ => (f ρ).bind fun x => (lo ρ).bind fun l => (hi ρ).bind fun h => slD l h x
def rSlD (K : PySem.W.Frag) : V → Option Int → Option Int → Hp → VK → Prop := fun x lo hi H Q => rSlL K x lo hi H Q ∨ rSlT K x lo hi H Q ∨ rSlS x lo hi H Q
theorem sl_D {X : Cx} : SlR X (rSlD X.K) := sl_list.or (sl_tup.or sl_str)
theorem pd_sl [Tbs] {lo hi : Option Expr} {fl fh : Rho → Option (Option Int)} {p2 : Pos} (he : PD X e f) (hl : PDO X lo fl) (hh : PDO X hi fh) : PD X (.Subscript e (.Slice lo hi none p2) pos) (fSl f fl fh) := pe_imp (pe_slice sl_D he hl hh) fun σ H Q ⟨H0, B, ρ, d, s, hf, q⟩ => by
  obtain ⟨x, hx, hf⟩ := bind_some hf
  obtain ⟨l, hl, hf⟩ := bind_some hf
  obtain ⟨u, hu, hf⟩ := bind_some hf
  refine ⟨H0, B, ρ, x, s, hx, fun v B1 H1 t1 d1 => ⟨H0, B1, ρ, l, s.tr t1, hl, fun B2 H2 t2 => ⟨H0, B2, ρ, u, (s.tr t1).tr t2, hu, fun B3 H3 t3 => ?_⟩⟩⟩
  have d3 := dp_mono t3.b (dp_mono t2.b d1)
  have T := (t1.trans t2).trans t3
  have q3 : ∀ v B' H', Tr B3 H3 B' H' → Dq X.K B' v d → Q v H' := fun v B' H' t dd => q v B' H' (T.trans t) dd
  unfold slD at hf
  split at hf
  · cases hf
    cases d3 with
    | lst h a => exact .inl ⟨_, _, rfl, sqL_mono t3.t h, fun p hp => newL t3.t (dpAll_cut a l u) q3 hp⟩
  · obtain ⟨hw, rfl⟩ := ite_some hf
    cases d3 with
    | tup h a => exact .inr (.inl ⟨_, _, rfl, sqT_mono t3.t h, by rw [dpAll_len a]; exact hw, fun p hp => newT t3.t (dpAll_cut a l u) q3 hp⟩)
  · obtain ⟨hw, rfl⟩ := ite_some hf
    cases d3
    exact .inr (.inr ⟨_, rfl, bigL_le hw, q _ B3 H3 T (.str _)⟩)
  · cases hf

/-! ### built-ins by name -/
def RC [Tbs] (K : PySem.W.Frag) (r : List V → Hp → VK → Prop) (g : List PyData → Option PyData) : Prop := ∀ (B H : Hp) (vs : List V) (ds : List PyData) (d : PyData) (Q : VK), Same B H → DqAll K B vs ds → g ds = some d → (∀ v B' H', Tr B H B' H' → Dq K B' v d → Q v H') → r vs H Q
def fCl (g : List PyData → Option PyData) (fs : Rho → Option (List PyData)) : Rho → Option PyData := fun ρ => (fs ρ).bind g
theorem cb_imp [Tbs] {r : List V → Hp → VK → Prop} {g : List PyData → Option PyData} (hr : RC X.K r g) : ∀ σ H Q, tD X.K (fCl g fs) σ H Q → tCB r (tDA X.K fs) σ H Q := fun σ H Q ⟨H0, B, ρ, d, s, hf, q⟩ => by
  obtain ⟨xs, hxs, hf⟩ := bind_some hf
  exact ⟨H0, B, ρ, xs, s, hxs, fun v B1 H1 t1 d1 => hr B1 H1 v xs d Q t1.t d1 hf fun z B2 H2 t2 d2 => q z B2 H2 (t1.trans t2) d2⟩
theorem pd_bi [Tbs] {x : Str} {id : String} {r : List V → Hp → VK → Prop} {g : List PyData → Option PyData} {p : Pos} (hc : CallR X (.builtin id) r) (hr : RC X.K r g) (hg : Gl X x) (hm : X.mg x = none) (hv : bootBuiltins x = some (.builtin id)) (ha : PDA X (e :: es) fs)
    (hn : x ≠ "__name__" := by decide) (hdb : (x == ("__debug__" : Str)) = false := by decide) (he : starEach (e :: es) X.env = (false, eval e X.env) :: starEach es X.env := by rfl) (hpl : (backTo pos (starEach es X.env)).any (·.1) = false := by rfl) : PD X (.Call (.Name x p) (e :: es) [] pos) (fCl g fs) :=
  pe_imp (pe_callB hc hg hm hv ha hn hdb he hpl) (cb_imp hr)
theorem pd_ty [Tbs] {x : Str} {T : String} {r : List V → Hp → VK → Prop} {g : List PyData → Option PyData} {p : Pos} (hc : CallR X (.type T) r) (hr : RC X.K r g) (hg : Gl X x) (hm : X.mg x = none) (hv : bootBuiltins x = some (.type T)) (ha : PDA X (e :: es) fs)
    (hn : x ≠ "__name__" := by decide) (hdb : (x == ("__debug__" : Str)) = false := by decide) (he : starEach (e :: es) X.env = (false, eval e X.env) :: starEach es X.env := by rfl) (hpl : (backTo pos (starEach es X.env)).any (·.1) = false := by rfl) : PD X (.Call (.Name x p) (e :: es) [] pos) (fCl g fs) :=
  pe_imp (pe_callTy hc hg hm hv ha hn hdb he hpl) (cb_imp hr)
def one1 (g : PyData → Option PyData) : List PyData → Option PyData
  | [x] => g x
  | _ => none
theorem rc_one [Tbs] {r : List V → Hp → VK → Prop} {g : PyData → Option PyData} (h : ∀ (B H : Hp) (v : V) (x d : PyData) (Q : VK), Same B H → Dq K B v x → g x = some d → (∀ v B' H', Tr B H B' H' → Dq K B' v d → Q v H') → r [v] H Q) : RC K r (one1 g) := fun B H vs ds d Q s hd hg q => by
  unfold one1 at hg
  split at hg
  · cases hd with
    | cons a b => cases b; exact h B H _ _ d Q s a hg q
  · cases hg
def lenD : PyData → Option PyData
  | .list xs => some (.int xs.length)
  | .tuple xs => some (.int xs.length)
  | .str z => if z.length ≤ bigL then some (.int z.length) else none
  | _ => none
def rLenD (K : PySem.W.Frag) : List V → Hp → VK → Prop := fun xs H Q => (∃ p ys, xs = [.ref p] ∧ (SqL K H p ys ∨ SqT K H p ys) ∧ Q (.int ys.length) H) ∨ (∃ z, xs = [.str z] ∧ z.length ≤ sizeLine ∧ Q (.int z.length) H)
theorem call_lenD0 {X : Cx} : CallR X (.builtin "len") (rLenD X.K) := call_len_seq.or call_len_str
theorem rc_len [Tbs] : RC K (rLenD K) (one1 lenD) := rc_one fun B H v x d Q s hx hg q => by
  unfold lenD at hg
  split at hg
  · cases hg; cases hx with
    | lst h a => exact .inl ⟨_, _, rfl, .inl (sqL_mono s h), by rw [dpAll_len a]; exact q _ B H (Tr.refl s) (.int _)⟩
  · cases hg; cases hx with
    | tup h a => exact .inl ⟨_, _, rfl, .inr (sqT_mono s h), by rw [dpAll_len a]; exact q _ B H (Tr.refl s) (.int _)⟩
  · obtain ⟨hl, rfl⟩ := ite_some hg; cases hx; exact .inr ⟨_, rfl, bigL_le hl, q _ B H (Tr.refl s) (.int _)⟩
  · cases hg
/-- a list of truth values -/
def boolsD : List PyData → Option (List Bool)
  | [] => some []
  | .bool b :: r => (boolsD r).map (b :: ·)
  | _ => none
theorem bools_of [Tbs] {vs : List V} : ∀ {ds : List PyData} {bs : List Bool}, DqAll K H vs ds → boolsD ds = some bs → vs = bs.map V.bl := by
  induction vs with
  | nil => intro ds bs h e; cases h; cases e; rfl
  | cons v vs ih =>
    intro ds bs h e
    cases h with
    | cons a b =>
      unfold boolsD at e
      split at e
      · rename_i z; cases z
      · rename_i k r hz
        cases hz
        cases a
        obtain ⟨bs', e', rfl⟩ := Option.map_eq_some_iff.mp e
        rw [ih b e']; rfl
      · cases e
theorem boolsD_map (bs : List Bool) : boolsD (bs.map PyData.bool) = some bs := by
  induction bs with
  | nil => rfl
  | cons b r ih => rw [List.map_cons, boolsD, ih]; rfl
def anyD : PyData → Option PyData
  | .list xs => (boolsD xs).map fun bs => .bool (bs.any id)
  | _ => none
theorem rc_any [Tbs] : RC K (rAny K) (one1 anyD) := rc_one fun B H v x d Q s hx hg q => by
  unfold anyD at hg
  split at hg
  · obtain ⟨bs, e, rfl⟩ := Option.map_eq_some_iff.mp hg
    cases hx with
    | lst h a => exact ⟨_, bs, rfl, by rw [← bools_of a e]; exact sqL_mono s h, q _ B H (Tr.refl s) (.bl _)⟩
  · cases hg
def allD : PyData → Option PyData
  | .list xs => (boolsD xs).map fun bs => .bool (bs.all id)
  | _ => none
theorem rc_all [Tbs] : RC K (rAll K) (one1 allD) := rc_one fun B H v x d Q s hx hg q => by
  unfold allD at hg
  split at hg
  · obtain ⟨bs, e, rfl⟩ := Option.map_eq_some_iff.mp hg
    cases hx with
    | lst h a => exact ⟨_, bs, rfl, by rw [← bools_of a e]; exact sqL_mono s h, q _ B H (Tr.refl s) (.bl _)⟩
  · cases hg
def listD : PyData → Option PyData
  | .list xs => some (.list xs)
  | .tuple xs => some (.list xs)
  | _ => none
theorem rc_list [Tbs] : RC K (fun xs H Q => ∃ p ys, xs = [.ref p] ∧ (SqL K H p ys ∨ SqT K H p ys) ∧ ∀ l, H l = none → Q (.ref l) (upd H l (.lst ys))) (one1 listD) := rc_one fun B H v x d Q s hx hg q => by
  unfold listD at hg
  split at hg
  · cases hg; cases hx with
    | lst h a => exact ⟨_, _, rfl, .inl (sqL_mono s h), fun p hp => newL s a q hp⟩
  · cases hg; cases hx with
    | tup h a => exact ⟨_, _, rfl, .inr (sqT_mono s h), fun p hp => newL s a q hp⟩
  · cases hg
def tupleD : PyData → Option PyData
  | .list xs => some (.tuple xs)
  | .tuple xs => some (.tuple xs)
  | _ => none
theorem rc_tuple [Tbs] : RC K (fun xs H Q => ∃ p ys, xs = [.ref p] ∧ ((SqL K H p ys ∧ ∀ l, H l = none → Q (.ref l) (upd H l (.tup ys))) ∨ (SqT K H p ys ∧ Q (.ref p) H))) (one1 tupleD) := rc_one fun B H v x d Q s hx hg q => by
  unfold tupleD at hg
  split at hg
  · cases hg; cases hx with
    | lst h a => exact ⟨_, _, rfl, .inl ⟨sqL_mono s h, fun p hp => newT s a q hp⟩⟩
  · cases hg; cases hx with
    | tup h a => exact ⟨_, _, rfl, .inr ⟨sqT_mono s h, q _ B H (Tr.refl s) (.tup h a)⟩⟩
  · cases hg
def intD : PyData → Option PyData
  | .int i => some (.int i)
  | .bool c => some (.int (if c then 1 else 0))
  | _ => none
theorem rc_int [Tbs] : RC K (fun xs H Q => (∃ i, xs = [.int i] ∧ Q (.int i) H) ∨ ∃ k, xs = [.bl k] ∧ Q (.int (if k then 1 else 0)) H) (one1 intD) := rc_one fun B H v x d Q s hx hg q => by
  unfold intD at hg
  split at hg
  · cases hg; cases hx; exact .inl ⟨_, rfl, q _ B H (Tr.refl s) (.int _)⟩
  · cases hg; cases hx; exact .inr ⟨_, rfl, q _ B H (Tr.refl s) (.int _)⟩
  · cases hg

/-! ### texts -/
def strsD : List PyData → Option (List Str)
  | [] => some []
  | .str b :: r => (strsD r).map (b :: ·)
  | _ => none
theorem strs_of [Tbs] {vs : List V} : ∀ {ds : List PyData} {bs : List Str}, DqAll K H vs ds → strsD ds = some bs → vs = bs.map V.str := by
  induction vs with
  | nil => intro ds bs h e; cases h; cases e; rfl
  | cons v vs ih =>
    intro ds bs h e
    cases h with
    | cons a b =>
      unfold strsD at e
      split at e
      · rename_i z; cases z
      · rename_i k r hz
        cases hz
        cases a
        obtain ⟨bs', e', rfl⟩ := Option.map_eq_some_iff.mp e
        rw [ih b e']; rfl
      · cases e
theorem strsD_map (bs : List Str) : strsD (bs.map PyData.str) = some bs := by
  induction bs with
  | nil => rfl
  | cons b r ih => rw [List.map_cons, strsD, ih]; rfl
def joinD : PyData → List PyData → Option PyData
  | .str a, [.list xs] => (strsD xs).bind fun ys => if (ys.map (·.length)).sum + ys.length * a.length ≤ bigL then some (.str (Txt.join a ys)) else none
  | _, _ => none
def splitD : PyData → List PyData → Option PyData
  | .str a, [.str b] => if (b.length == 0) = false ∧ a.length + 2 ≤ bigL then some (.list ((Txt.split a b).map .str)) else none
  | _, _ => none
def fMt (g : PyData → List PyData → Option PyData) (f : Rho → Option PyData) (fs : Rho → Option (List PyData)) : Rho → Option PyData := fun ρ => (f ρ).bind fun x => (fs ρ).bind fun xs => g x xs
def RM [Tbs] (K : PySem.W.Frag) (T : String) (r : V → List V → Hp → VK → Prop) (g : PyData → List PyData → Option PyData) : Prop := ∀ (B H : Hp) (v : V) (vs : List V) (x : PyData) (ds : List PyData) (d : PyData) (Q : VK), Same B H → Dq K B v x → DqAll K B vs ds → g x ds = some d → (∀ v B' H', Tr B H B' H' → Dq K B' v d → Q v H') → r v vs H Q
def TyD [Tbs] (K : PySem.W.Frag) (T : String) (g : PyData → List PyData → Option PyData) : Prop := ∀ (B H : Hp) (v : V) (x : PyData) (ds : List PyData) (d : PyData), Same B H → Dq K B v x → g x ds = some d → tyV K T v H
theorem pd_bm [Tbs] {o : Expr} {name : Str} {apos cpos : Pos} {T id : String} {r : V → List V → Hp → VK → Prop} {g : PyData → List PyData → Option PyData} (pa : PlainAttrs T) (slot : Slot T name id) (hty : typeOf (.builtin id) = pure (.type "method_descriptor")) (hm : MtR X id r) (hr : RM X.K T r g) (hT : TyD X.K T g) (ho : PD X o f) (ha : PDA X (e :: es) fs) (hbase : attributeBase o name X.env (eval o X.env) = eval o X.env := by rfl) (hfew : ((backTo cpos (starEach (e :: es) X.env)).all (fun x => !x.1) && (backToKw cpos (keywordEach [] X.env)).all (fun x => x.1.isSome) && decide ((e :: es).length + ([] : List Keyword).length + (if ([] : List Keyword).isEmpty then 0 else 1) < 30)) = true := by rfl) (hline : (apos.endLine == cpos.line) = true := by rfl) (hs : starEach (e :: es) X.env = (false, eval e X.env) :: starEach es X.env := by rfl) (hplain : (backTo cpos (starEach es X.env)).any (·.1) = false := by rfl) : PD X (.Call (.Attribute o name apos) (e :: es) [] cpos) (fMt g f fs):= pe_imp (pe_bm pa slot hty hm ho ha hbase hfew hline hs hplain) fun σ H Q ⟨H0, B, ρ, d, s, hf, q⟩ => by
  obtain ⟨x, hx, hf⟩ := bind_some hf
  obtain ⟨xs, hxs, hf⟩ := bind_some hf
  refine ⟨H0, B, ρ, x, s, hx, fun v B1 H1 t1 d1 => ⟨hT B1 H1 v x xs d t1.t d1 hf, H0, B1, ρ, xs, s.tr t1, hxs, fun vs B2 H2 t2 d2 => ?_⟩⟩
  exact hr B2 H2 v vs x xs d Q t2.t (dp_mono t2.b d1) d2 hf fun z B3 H3 t3 d3 => q z B3 H3 ((t1.trans t2).trans t3) d3
theorem ty_join [Tbs] : TyD K "str" joinD := fun B H v x ds d s hx hg => by
  unfold joinD at hg
  split at hg
  · cases hx; rfl
  · cases hg
theorem ty_split [Tbs] : TyD K "str" splitD := fun B H v x ds d s hx hg => by
  unfold splitD at hg
  split at hg
  · cases hx; rfl
  · cases hg
theorem rm_join [Tbs] : RM K "str" (fun x xs H Q => ∃ a p, ∃ ys : List Str, x = .str a ∧ xs = [.ref p] ∧ (SqL K H p (ys.map V.str) ∨ SqT K H p (ys.map V.str)) ∧
    (ys.map (·.length)).sum + ys.length * a.length ≤ 16777216 ∧ Q (.str (Txt.join a ys)) H) joinD := fun B H v vs x ds d Q s hx hds hg q => by
  unfold joinD at hg
  split at hg
  · cases hx
    cases hds with
    | cons h1 h2 =>
      cases h2
      obtain ⟨ys, hy, hg⟩ := bind_some hg
      obtain ⟨hl, rfl⟩ := ite_some hg
      cases h1 with
      | lst h a => exact ⟨_, _, ys, rfl, rfl, .inl (by rw [← strs_of a hy]; exact sqL_mono s h), Nat.le_trans hl (by decide), q _ B H (Tr.refl s) (.str _)⟩
  · cases hg
theorem dp_strs [Tbs] (ys : List Str) : DqAll K H (ys.map V.str) (ys.map PyData.str) := by
  induction ys with
  | nil => exact .nil
  | cons y r ih => exact .cons (.str y) ih
theorem rm_split [Tbs] : RM K "str" (fun x xs H Q => ∃ a b, x = .str a ∧ xs = [.str b] ∧ (b.length == 0) = false ∧ a.length + 2 ≤ sizeLine ∧ rNewStrs (Txt.split a b) H Q) splitD := fun B H v vs x ds d Q s hx hds hg q => by
  unfold splitD at hg
  split at hg
  · cases hx
    cases hds with
    | cons h1 h2 =>
      cases h2
      cases h1
      obtain ⟨⟨h1, h2⟩, rfl⟩ := ite_some hg
      exact ⟨_, _, rfl, rfl, h1, bigL_le h2, fun p hp => newL s (dp_strs _) q hp⟩
  · cases hg
end
end Dn

namespace Dn
open PySem L2 PySem.Spec PyProof.Rows

/-! ### what is walked, by data -/
def ItD [Tbs] (K : PySem.W.Frag) (B : Hp) (J : It) (xs : List PyData) : Prop :=
  (∀ H, Same B H → J.stop xs.length H) ∧ ∀ (i : Nat) (d : PyData), xs[i]? = some d → ∀ H, Same B H → J.go i H ∧ ∀ x H', J.yld i H x H' → ∀ B1, Same B B1 → Same B1 H → ∃ B2, Tr B1 H B2 H' ∧ Dq K B2 x d
def tDI [Tbs] (K : PySem.W.Frag) (f : Rho → Option (List PyData)) : TI := fun σ H R => ∃ H0 B ρ d, Sl K H0 B ρ σ H ∧ f ρ = some d ∧ ∀ J B' H', Tr B H B' H' → ItD K B' J d → R J H'
abbrev PDI [Tbs] (X : Cx) (tg e : Expr) (f : Rho → Option (List PyData)) : Prop := PI X tg e (tDI X.K f)
theorem pi_imp {X : Cx} {tg e : Expr} {t t' : TI} (h : PI X tg e t) (i : ∀ σ H Q, t' σ H Q → t σ H Q) : PI X tg e t' := ⟨fun pins s σ H Q I q => h.run pins s σ H Q I (i σ H Q q)⟩
section
variable {K : PySem.W.Frag} {B H : Hp}
theorem itD_list [Tbs] {a : Addr} {vs : List V} {ds : List PyData} (h : SqL K B a vs) (hd : DqAll K B vs ds) : ItD K B (Itl K a) ds := by
  refine ⟨fun H s => ⟨vs, sqL_mono s h, Nat.le_of_eq (dpAll_len hd)⟩, fun i d e H s => ?_⟩
  obtain ⟨v, hv, hdv⟩ := dpAll_get hd e
  refine ⟨⟨vs, v, sqL_mono s h, hv⟩, fun x H' y B1 s1 s2 => ?_⟩
  obtain ⟨rfl, y⟩ := y
  have z := y vs (sqL_mono s h)
  rw [hv] at z
  cases z
  exact ⟨B1, Tr.refl s2, dp_mono s1 hdv⟩
theorem itD_tup [Tbs] {a : Addr} {vs : List V} {ds : List PyData} (h : SqT K B a vs) (hd : DqAll K B vs ds) : ItD K B (Itt K a) ds := by
  refine ⟨fun H s => ⟨vs, sqT_mono s h, Nat.le_of_eq (dpAll_len hd)⟩, fun i d e H s => ?_⟩
  obtain ⟨v, hv, hdv⟩ := dpAll_get hd e
  refine ⟨⟨vs, v, sqT_mono s h, hv⟩, fun x H' y B1 s1 s2 => ?_⟩
  obtain ⟨rfl, y⟩ := y
  have z := y vs (sqT_mono s h)
  rw [hv] at z
  cases z
  exact ⟨B1, Tr.refl s2, dp_mono s1 hdv⟩
def signsD (z : Str) : List PyData := z.cps.toList.map fun c => .str ⟨#[c]⟩
theorem itD_str [Tbs] {z : Str} : ItD K B (Its z) (signsD z) := by
  refine ⟨fun H s => by show z.cps.size ≤ (signsD z).length; simp [signsD], fun i d e H s => ?_⟩
  unfold signsD at e
  rw [List.getElem?_map] at e
  obtain ⟨c, hc, rfl⟩ := Option.map_eq_some_iff.mp e
  have hi : i < z.cps.size := by
    have := (List.getElem?_eq_some_iff.mp hc).1
    simpa using this
  refine ⟨hi, fun x H' y B1 s1 s2 => ?_⟩
  obtain ⟨rfl, c', hc', rfl⟩ := y
  have : z.cps.toList[i]? = some c' := by simpa using hc'
  rw [hc] at this
  cases this
  exact ⟨B1, Tr.refl s2, .str _⟩
def intsFrom (lo : Int) (n : Nat) : List PyData := (List.range n).map fun i => .int (lo + (i : Nat))
theorem itD_range [Tbs] {lo : Int} {n : Nat} : ItD K B (Itr lo n) (intsFrom lo n) := by
  refine ⟨fun H s => by show n ≤ (intsFrom lo n).length; simp [intsFrom], fun i d e H s => ?_⟩
  unfold intsFrom at e
  rw [List.getElem?_map] at e
  obtain ⟨c, hc, rfl⟩ := Option.map_eq_some_iff.mp e
  have hi : i < n := by
    have := (List.getElem?_eq_some_iff.mp hc).1
    simpa using this
  rw [List.getElem?_range hi] at hc
  cases hc
  refine ⟨hi, fun x H' y B1 s1 s2 => ?_⟩
  obtain ⟨rfl, rfl⟩ := y
  exact ⟨B1, Tr.refl s2, .int _⟩
def zipD (xs ys : List PyData) : List PyData := (xs.zip ys).map fun p => .tuple [p.1, p.2]
theorem itD_zip [Tbs] {a b : Addr} {vs ws : List V} {ds es : List PyData} (h : SqL K B a vs) (hd : DqAll K B vs ds) (h' : SqL K B b ws) (hd' : DqAll K B ws es) : ItD K B (Itz K a b) (zipD ds es) := by
  refine ⟨fun H s => ⟨vs, ws, sqL_mono s h, sqL_mono s h', ?_⟩, fun i d e H s => ?_⟩
  · have h1 := dpAll_len hd
    have h2 := dpAll_len hd'
    have h3 : (zipD ds es).length = min ds.length es.length := by simp [zipD, List.length_zip]
    omega
  · unfold zipD at e
    rw [List.getElem?_map] at e
    obtain ⟨⟨c1, c2⟩, hc, rfl⟩ := Option.map_eq_some_iff.mp e
    rw [List.getElem?_zip_eq_some] at hc
    obtain ⟨v, hv, hdv⟩ := dpAll_get hd hc.1
    obtain ⟨w, hw, hdw⟩ := dpAll_get hd' hc.2
    refine ⟨⟨vs, ws, v, w, sqL_mono s h, sqL_mono s h', hv, hw⟩, fun x H' y B1 s1 s2 => ?_⟩
    obtain ⟨T, x1, y1, rfl, hT, rfl, z1, z2⟩ := y
    have z1 := z1 vs (sqL_mono s h)
    have z2 := z2 ws (sqL_mono s h')
    rw [hv] at z1
    rw [hw] at z2
    cases z1
    cases z2
    exact ⟨_, Tr.new s2 hT, .tup (SqT.of upd_same) (.cons (dp_mono (s1.trans (same_upd (s2.free hT))) hdv) (.cons (dp_mono (s1.trans (same_upd (s2.free hT))) hdw) .nil))⟩
variable {X : Cx} {tg e e2 : Expr} {f g : Rho → Option PyData}
def seqD : PyData → Option (List PyData)
  | .list xs => some xs
  | .tuple xs => some xs
  | .str z => some (signsD z)
  | _ => none
def fSeq (f : Rho → Option PyData) : Rho → Option (List PyData) := fun ρ => (f ρ).bind seqD
theorem pdi_seq [Tbs] (he : PD X e f) : PDI X tg e (fSeq f) := ⟨fun pins s σ H R I ⟨H0, B, ρ, d, sl, hf, q⟩ => by
  obtain ⟨x, hx, hf⟩ := bind_some hf
  unfold seqD at hf
  split at hf
  · cases hf
    exact (pi_list he).run pins s σ H R I ⟨H0, B, ρ, _, sl, hx, fun v B1 H1 t1 d1 => by
      cases d1 with | lst h a => exact ⟨_, rfl, ⟨_, sqL_mono t1.t h⟩, q _ B1 H1 t1 (itD_list h a)⟩⟩
  · cases hf
    exact (pi_tup he).run pins s σ H R I ⟨H0, B, ρ, _, sl, hx, fun v B1 H1 t1 d1 => by
      cases d1 with | tup h a => exact ⟨_, rfl, ⟨_, sqT_mono t1.t h⟩, q _ B1 H1 t1 (itD_tup h a)⟩⟩
  · cases hf
    exact (pi_str he).run pins s σ H R I ⟨H0, B, ρ, _, sl, hx, fun v B1 H1 t1 d1 => by
      cases d1; exact ⟨_, rfl, q _ B1 H1 t1 itD_str⟩⟩
  · cases hf⟩
def range1D : PyData → Option (List PyData)
  | .int n => if n.natAbs ≤ 1000000 then some (intsFrom 0 n.toNat) else none
  | _ => none
def fR1 (f : Rho → Option PyData) : Rho → Option (List PyData) := fun ρ => (f ρ).bind range1D
theorem pdi_range1 [Tbs] {a : Expr} {p pos : Pos} (hg : Gl X "range") (hm : X.mg "range" = none) (ha : PD X a f) (h0 : starEach [a] X.env = (false, eval a X.env) :: starEach [] X.env := by rfl) (hs : starEach [a] X.env = [(false, eval a X.env)] := by rfl) : PDI X tg (.Call (.Name "range" p) [a] [] pos) (fR1 f) := pi_imp (pi_range1 hg hm (pa_cons ha pa_nil h0) hs) fun σ H R ⟨H0, B, ρ, d, sl, hf, q⟩ => by
  obtain ⟨x, hx, hf⟩ := bind_some hf
  refine ⟨H0, B, ρ, x, sl, hx, fun v B1 H1 t1 d1 => ?_⟩
  unfold range1D at hf
  split at hf
  · obtain ⟨hn, rfl⟩ := ite_some hf
    cases d1
    exact ⟨_, rfl, by omega, by omega, q _ B1 H1 t1 itD_range⟩
  · cases hf
def range2D : PyData → PyData → Option (List PyData)
  | .int i, .int j => if i.natAbs ≤ 1000000 ∧ j.natAbs ≤ 1000000 then some (intsFrom i (j - i).toNat) else none
  | _, _ => none
def fR2 (f g : Rho → Option PyData) : Rho → Option (List PyData) := fun ρ => (f ρ).bind fun x => (g ρ).bind fun y => range2D x y
theorem pdi_range2 [Tbs] {a b : Expr} {p pos : Pos} (hg : Gl X "range") (hm : X.mg "range" = none) (ha : PD X a f) (hb : PD X b g) (h0 : starEach [b] X.env = (false, eval b X.env) :: starEach [] X.env := by rfl) (h1 : starEach [a, b] X.env = (false, eval a X.env) :: starEach [b] X.env := by rfl)
    (hs : starEach [a, b] X.env = [(false, eval a X.env), (false, eval b X.env)] := by rfl) (hs2 : starEach [b] X.env = [(false, eval b X.env)] := by rfl) : PDI X tg (.Call (.Name "range" p) [a, b] [] pos) (fR2 f g) := pi_imp (pi_range2 hg hm (pa_cons ha (pa_cons hb pa_nil h0) h1) hs hs2) fun σ H R ⟨H0, B, ρ, d, sl, hf, q⟩ => by
  obtain ⟨x, hx, hf⟩ := bind_some hf
  obtain ⟨y, hy, hf⟩ := bind_some hf
  refine ⟨H0, B, ρ, x, sl, hx, fun v B1 H1 t1 d1 => ⟨H0, B1, ρ, y, sl.tr t1, hy, fun w B2 H2 t2 d2 => ?_⟩⟩
  have d3 := dp_mono t2.b d1
  unfold range2D at hf
  split at hf
  · obtain ⟨hn, rfl⟩ := ite_some hf
    cases d3
    cases d2
    exact ⟨_, _, rfl, ⟨by omega, by omega, by omega, by omega⟩, q _ B2 H2 (t1.trans t2) itD_range⟩
  · cases hf
def zip2D : PyData → PyData → Option (List PyData)
  | .list xs, .list ys => some (zipD xs ys)
  | _, _ => none
def fZ (f g : Rho → Option PyData) : Rho → Option (List PyData) := fun ρ => (f ρ).bind fun x => (g ρ).bind fun y => zip2D x y
theorem pdi_zip [Tbs] {a b : Expr} {p pos tpos : Pos} {elts : List Expr} {kk : Nat} (hg : Gl X "zip") (hm : X.mg "zip" = none) (ha : PD X a f) (hb : PD X b g) (h0 : starEach [b] X.env = (false, eval b X.env) :: starEach [] X.env := by rfl)
    (hs : starEach [a, b] X.env = (false, eval a X.env) :: starEach [b] X.env := by rfl) (hpl : (backTo pos (starEach [b] X.env)).any (·.1) = false := by rfl) : PDI X (.Tuple elts kk tpos) (.Call (.Name "zip" p) [a, b] [] pos) (fZ f g) := pi_imp (pi_zip hg hm (pa_cons ha (pa_cons hb pa_nil h0) hs) hs hpl) fun σ H R ⟨H0, B, ρ, d, sl, hf, q⟩ => by
  obtain ⟨x, hx, hf⟩ := bind_some hf
  obtain ⟨y, hy, hf⟩ := bind_some hf
  refine ⟨H0, B, ρ, x, sl, hx, fun v B1 H1 t1 d1 => ⟨H0, B1, ρ, y, sl.tr t1, hy, fun w B2 H2 t2 d2 => ?_⟩⟩
  have d3 := dp_mono t2.b d1
  unfold zip2D at hf
  split at hf
  · cases hf
    cases d3 with
    | lst h1 a1 => cases d2 with
      | lst h2 a2 => exact ⟨_, _, _, _, rfl, sqL_mono t2.t h1, sqL_mono t2.t h2, q _ B2 H2 (t1.trans t2) (itD_zip h1 a1 h2 a2)⟩
  · cases hf
end

/-! ### slots set -/
section
variable {K : PySem.W.Frag} {H0 B H : Hp} {ρ : Rho} {σ : L2.St}
theorem get_set {α : Type} {l : List α} {i j : Nat} {x y : α} (h : (l.set i x)[j]? = some y) : (i = j ∧ j < l.length ∧ x = y) ∨ (i ≠ j ∧ l[j]? = some y) := by
  by_cases e : i = j
  · subst e
    by_cases hl : i < l.length
    · rw [List.getElem?_set_self hl] at h; exact .inl ⟨rfl, hl, Option.some.inj h⟩
    · rw [List.getElem?_eq_none (by simpa using hl)] at h; cases h
  · rw [List.getElem?_set_ne e] at h; exact .inr ⟨e, h⟩
theorem sl_setD [Tbs] (s : Sl K H0 B ρ σ H) {i : Nat} {v : V} {x : PyData} (h : Dq K B v x) : Sl K H0 B (ρ.set i (some (.d x))) (σ.set i (some v)) H := by
  refine ⟨s.bh, s.nt, s.tb, by simp [s.len], fun {j y} e => ?_, fun {j o ys} e => ?_, fun {j k o o' xs ys a} e1 e2 e3 e4 => ?_, s.ob.set fun _ _ _ z => by cases z⟩
  · rcases get_set e with ⟨rfl, hl, z⟩ | ⟨hn, e⟩
    · cases z
      exact ⟨v, List.getElem?_set_self (by rw [← s.len]; exact hl), h⟩
    · obtain ⟨w, h1, h2⟩ := s.dv e
      exact ⟨w, by rw [List.getElem?_set_ne hn]; exact h1, h2⟩
  · rcases get_set e with ⟨rfl, hl, z⟩ | ⟨hn, e⟩
    · cases z
    · obtain ⟨a, vs, h1, h2⟩ := s.ow e
      exact ⟨a, vs, by rw [List.getElem?_set_ne hn]; exact h1, h2⟩
  · rcases get_set e1 with ⟨_, _, z⟩ | ⟨n1, e1⟩
    · cases z
    · rcases get_set e2 with ⟨_, _, z⟩ | ⟨n2, e2⟩
      · cases z
      · rw [List.getElem?_set_ne n1] at e3
        rw [List.getElem?_set_ne n2] at e4
        exact s.ap e1 e2 e3 e4
/-- a new list, known to this slot alone -/
theorem sl_setO [Tbs] (s : Sl K H0 B ρ σ H) {i : Nat} {a : Addr} {vs : List V} {xs : List PyData} {o : Option Addr} (hb : B a = none) (h0 : H0 a = none) (ha : H a = some (.lst vs)) (hd : DqAll K B vs xs) (ho : ∀ b, o = some b → a = b)
    (new : ∀ {j : Nat} {o' : Option Addr} {ys : List PyData}, j ≠ i → ρ[j]? = some (some (.own o' ys)) → σ[j]? ≠ some (some (V.ref a))) : Sl K H0 B (ρ.set i (some (.own o xs))) (σ.set i (some (.ref a))) H := by
  refine ⟨s.bh, s.nt, s.tb, by simp [s.len], fun {j y} e => ?_, fun {j oj ys} e => ?_, fun {j k oj ok us ys c} e1 e2 e3 e4 => ?_, s.ob.set fun _ _ _ z => by cases z⟩
  · rcases get_set e with ⟨rfl, hl, z⟩ | ⟨hn, e⟩
    · cases z
    · obtain ⟨w, h1, h2⟩ := s.dv e
      exact ⟨w, by rw [List.getElem?_set_ne hn]; exact h1, h2⟩
  · rcases get_set e with ⟨rfl, hl, z⟩ | ⟨hn, e⟩
    · cases z
      exact ⟨a, vs, List.getElem?_set_self (by rw [← s.len]; exact hl), hb, h0, ha, hd, ho⟩
    · obtain ⟨c, ws, h1, h2⟩ := s.ow e
      exact ⟨c, ws, by rw [List.getElem?_set_ne hn]; exact h1, h2⟩
  · rcases get_set e1 with ⟨rfl, l1, z1⟩ | ⟨n1, e1⟩
    · rcases get_set e2 with ⟨rfl, l2, z2⟩ | ⟨n2, e2⟩
      · rfl
      · rw [List.getElem?_set_ne n2] at e4
        rw [List.getElem?_set_self (by rw [← s.len]; exact l1)] at e3
        cases e3
        exact absurd e4 (new (fun z => n2 z.symm) e2)
    · rcases get_set e2 with ⟨rfl, l2, z2⟩ | ⟨n2, e2⟩
      · rw [List.getElem?_set_ne n1] at e3
        rw [List.getElem?_set_self (by rw [← s.len]; exact l2)] at e4
        cases e4
        exact absurd e3 (new (fun z => n1 z.symm) e1)
      · rw [List.getElem?_set_ne n1] at e3
        rw [List.getElem?_set_ne n2] at e4
        exact s.ap e1 e2 e3 e4
def wipeR (ρ : Rho) : List Nat → Rho
  | [] => ρ
  | v :: vs => (wipeR ρ vs).set v none
theorem sl_none [Tbs] (s : Sl K H0 B ρ σ H) (i : Nat) : Sl K H0 B (ρ.set i none) (σ.set i none) H := by
  refine ⟨s.bh, s.nt, s.tb, by simp [s.len], fun {j y} e => ?_, fun {j oj ys} e => ?_, fun {j k oj ok us ys c} e1 e2 e3 e4 => ?_, s.ob.set fun _ _ _ z => by cases z⟩
  · rcases get_set e with ⟨rfl, hl, z⟩ | ⟨hn, e⟩
    · cases z
    · rw [List.getElem?_set_ne hn]; exact s.dv e
  · rcases get_set e with ⟨rfl, hl, z⟩ | ⟨hn, e⟩
    · cases z
    · rw [List.getElem?_set_ne hn]; exact s.ow e
  · rcases get_set e1 with ⟨_, _, z⟩ | ⟨n1, e1⟩
    · cases z
    · rcases get_set e2 with ⟨_, _, z⟩ | ⟨n2, e2⟩
      · cases z
      · rw [List.getElem?_set_ne n1] at e3
        rw [List.getElem?_set_ne n2] at e4
        exact s.ap e1 e2 e3 e4
theorem sl_wipe [Tbs] (s : Sl K H0 B ρ σ H) : ∀ vs : List Nat, Sl K H0 B (wipeR ρ vs) (wipe σ vs) H
  | [] => s
  | v :: vs => sl_none (sl_wipe s vs) v
theorem set_none_comm {l : List (Option V)} {i j : Nat} {x : Option V} (h : i ≠ j) : (l.set i x).set j none = (l.set j none).set i x := List.set_comm _ _ h
theorem wipe_set {σ : L2.St} {i : Nat} {x : Option V} : ∀ {vs : List Nat}, i ∈ vs → wipe (σ.set i x) vs = wipe σ vs
  | v :: vs, h => by
    unfold wipe
    by_cases e : i ∈ vs
    · rw [wipe_set e]
    · have e2 : i = v := by
        cases List.mem_cons.mp h with | inl z => exact z | inr z => exact absurd z e
      subst e2
      have q : ∀ {us : List Nat}, i ∉ us → wipe (σ.set i x) us = (wipe σ us).set i x := by
        intro us
        induction us with
        | nil => intro _; rfl
        | cons u us ih =>
          intro hu
          unfold wipe
          rw [ih (fun z => hu (List.mem_cons_of_mem _ z)), set_none_comm (fun z => hu (by rw [z]; exact List.mem_cons_self))]
      rw [q e, List.set_set]

/-! ### targets -/
def GD [Tbs] (K : PySem.W.Frag) (g : TG) (bd : PyData → Rho → Option Rho) (is : List Nat) : Prop := ∀ (H0 B H : Hp) (ρ ρ' : Rho) (σ : L2.St) (v : V) (x : PyData) (Q : L2.St → Hp → Prop), Sl K H0 B ρ σ H → Dq K B v x → bd x ρ = some ρ' →
  (∀ σ', (∀ vs : List Nat, (∀ i ∈ is, i ∈ vs) → wipe σ' vs = wipe σ vs) → Sl K H0 B ρ' σ' H → Q σ' H) → g v σ H Q
def b1 (i : Nat) : PyData → Rho → Option Rho := fun x ρ => some (ρ.set i (some (.d x)))
theorem gd_1 [Tbs] {i : Nat} : GD K (gName i) (b1 i) [i] := fun H0 B H ρ ρ' σ v x Q s h hb q => by
  cases hb
  exact q _ (fun vs hv => wipe_set (hv i (by simp))) (sl_setD s h)
def b2 (i j : Nat) : PyData → Rho → Option Rho
  | .tuple [x, y], ρ => some ((ρ.set i (some (.d x))).set j (some (.d y)))
  | _, _ => none
theorem gd_2 [Tbs] {i j : Nat} : GD K (gTup K 2 (gCons (gName i) (gCons (gName j) gNil))) (b2 i j) [i, j] := fun H0 B H ρ ρ' σ v x Q s h hb q => by
  unfold b2 at hb
  split at hb
  · cases hb
    cases h with
    | tup h a =>
      cases a with
      | cons a1 a =>
        cases a with
        | cons a2 a =>
          cases a
          refine ⟨_, _, rfl, sqT_mono s.bh h, rfl, _, _, rfl, _, _, rfl, rfl, q _ (fun vs hv => ?_) (sl_setD (sl_setD s a1) a2)⟩
          rw [wipe_set (hv j (by simp)), wipe_set (hv i (by simp))]
  · cases hb
def b3 (i j k : Nat) : PyData → Rho → Option Rho
  | .tuple [x, y, z], ρ => some (((ρ.set i (some (.d x))).set j (some (.d y))).set k (some (.d z)))
  | _, _ => none
theorem gd_3 [Tbs] {i j k : Nat} : GD K (gTup K 3 (gCons (gName i) (gCons (gName j) (gCons (gName k) gNil)))) (b3 i j k) [i, j, k] := fun H0 B H ρ ρ' σ v x Q s h hb q => by
  unfold b3 at hb
  split at hb
  · cases hb
    cases h with
    | tup h a =>
      cases a with
      | cons a1 a =>
        cases a with
        | cons a2 a =>
          cases a with
          | cons a3 a =>
            cases a
            refine ⟨_, _, rfl, sqT_mono s.bh h, rfl, _, _, rfl, _, _, rfl, _, _, rfl, rfl, q _ (fun vs hv => ?_) (sl_setD (sl_setD (sl_setD s a1) a2) a3)⟩
            rw [wipe_set (hv k (by simp)), wipe_set (hv j (by simp)), wipe_set (hv i (by simp))]
  · cases hb

/-! ### comprehensions -/
def lcGo (bd : PyData → Rho → Option Rho) (t : Rho → Option Bool) (f : Rho → Option PyData) (ρ : Rho) : List PyData → Option (List PyData)
  | [] => some []
  | x :: xs => (bd x ρ).bind fun ρ1 => (t ρ1).bind fun b => if b then (f ρ1).bind fun y => (lcGo bd t f ρ xs).bind fun r => some (y :: r) else lcGo bd t f ρ xs
def fLc (fi : Rho → Option (List PyData)) (bd : PyData → Rho → Option Rho) (t : Rho → Option Bool) (f : Rho → Option PyData) (vs : List Nat) : Rho → Option PyData := fun ρ => (fi ρ).bind fun xs => if xs.length ≤ bigL then (lcGo bd t f (wipeR ρ vs) xs).map .list else none
theorem lcGo_len {bd : PyData → Rho → Option Rho} {t : Rho → Option Bool} {f : Rho → Option PyData} {ρ : Rho} : ∀ {xs ys : List PyData}, lcGo bd t f ρ xs = some ys → ys.length ≤ xs.length
  | [], ys, h => by cases h; exact Nat.le_refl _
  | x :: xs, ys, h => by
    unfold lcGo at h
    obtain ⟨ρ1, h1, h⟩ := bind_some h
    obtain ⟨b, h2, h⟩ := bind_some h
    cases b with
    | true =>
      obtain ⟨y, h3, h⟩ := bind_some h
      obtain ⟨r, h4, h⟩ := bind_some h
      cases h
      exact Nat.succ_le_succ (lcGo_len h4)
    | false => exact Nat.le_succ_of_le (lcGo_len h)
def tYesD : Rho → Option Bool := fun _ => some true
abbrev PDTs [Tbs] (X : Cx) (ifs : List Expr) (f : Rho → Option Bool) : Prop := PTs X ifs (tDT X.K f)
theorem pts_imp {X : Cx} {e : List Expr} {t t' : TT} (h : PTs X e t) (i : ∀ σ H Q, t' σ H Q → t σ H Q) : PTs X e t' := ⟨fun pins s σ H Q I q => h.run pins s σ H Q I (i σ H Q q)⟩
theorem pdts_nil [Tbs] {X : Cx} : PDTs X [] tYesD := pts_imp pts_nil fun σ H Q ⟨H0, B, ρ, d, s, hf, q⟩ => by cases hf; exact q B H (Tr.refl s.bh)
theorem pdts_one [Tbs] {X : Cx} {c : Expr} {f : Rho → Option Bool} (h : PDT X c f) : PDTs X [c] f := pts_one h
theorem Tr.put {B H B' H' : Hp} {D : Addr} {o : HO} (t : Tr B H B' H') (hb : B' D = none) (h : H D = none) : Tr B H B' (upd H' D o) := ⟨t.b, fun a u e => by rw [upd_ne (ne_of_none e hb)]; exact t.t a u e, t.h.put h, t.n, t.f⟩
theorem Tr.stay {B H B' H' : Hp} {D : Addr} {o : HO} (t : Tr B H B' H') (hb : B D = none) (h : H D = some o) : B' D = none := by
  cases e : B' D with
  | none => rfl
  | some u => rw [t.f D u e hb] at h; cases h
theorem set_none_none {l : List (Option V)} {i j : Nat} : (l.set i none).set j none = (l.set j none).set i none := by
  by_cases e : i = j
  · rw [e]
  · exact List.set_comm _ _ e
theorem wipe_none {σ : L2.St} {i : Nat} : ∀ vs : List Nat, wipe (σ.set i none) vs = (wipe σ vs).set i none
  | [] => rfl
  | v :: vs => by unfold wipe; rw [wipe_none vs, set_none_none]
theorem wipe_idem {σ : L2.St} : ∀ vs : List Nat, wipe (wipe σ vs) vs = wipe σ vs
  | [] => rfl
  | v :: vs => by
    show (wipe ((wipe σ vs).set v none) vs).set v none = (wipe σ vs).set v none
    rw [wipe_none, wipe_idem vs, List.set_set]
theorem lc_imp [Tbs] {fi : Rho → Option (List PyData)} {g : TG} {bd : PyData → Rho → Option Rho} {is : List Nat} {t : Rho → Option Bool} {f : Rho → Option PyData} {vs : List Nat} (hg : GD K g bd is) (hv : ∀ i ∈ is, i ∈ vs) :
    ∀ σ H Q, tD K (fLc fi bd t f vs) σ H Q → tLc (tDI K fi) g (tDT K t) (tD K f) vs σ H Q := fun σ H Q ⟨H0, B, ρ, d, s, hf, q⟩ => by
  obtain ⟨xs, hxs, hf⟩ := bind_some hf
  split at hf
  case isFalse => cases hf
  rename_i hlen
  obtain ⟨ys, hys, rfl⟩ := Option.map_eq_some_iff.mp hf
  refine ⟨H0, B, ρ, xs, s, hxs, fun J B1 H1 t1 it D hD => ?_⟩
  have s1 := s.tr t1
  have hBD1 : B1 D = none := t1.t.free hD
  refine ⟨fun i m H' => ∃ B2 acc accD rest, Tr B1 H1 B2 H' ∧ m = xs.length - i ∧ i ≤ xs.length ∧ B2 D = none ∧ H' D = some (.lst acc) ∧ DqAll K B2 acc accD ∧ lcGo bd t f (wipeR ρ vs) (xs.drop i) = some rest ∧ accD ++ rest = ys ∧ accD.length ≤ i,
    ⟨xs.length, B1, [], [], ys, Tr.junk t1.t hD, rfl, Nat.zero_le _, hBD1, upd_same, .nil, hys, rfl, Nat.le_refl _⟩, ?_⟩
  rintro i m H' ⟨B2, acc, accD, rest, t2, rfl, hi, hB, hDl, hacc, hgo, hr, hl⟩
  by_cases hlt : i < xs.length
  · have hx : xs[i]? = some xs[i] := by simp [hlt]
    obtain ⟨go, yld⟩ := it.2 i xs[i] hx H' (t2.b.trans t2.t)
    rw [List.drop_eq_getElem_cons hlt] at hgo
    unfold lcGo at hgo
    obtain ⟨ρ1, h1, hgo⟩ := bind_some hgo
    obtain ⟨b, h2, hgo⟩ := bind_some hgo
    refine .inr ⟨go, _, fun H'' nx => ⟨xs.length - (i + 1), by omega, nx⟩, fun x H3 y => ?_⟩
    obtain ⟨B3, t3, d3⟩ := yld x H3 y B2 t2.b t2.t
    refine hg H0 B3 H3 (wipeR ρ vs) ρ1 (wipe σ vs) x xs[i] _ (sl_wipe ((s1.tr t2).tr t3) vs) d3 h1 fun σ' hw s3 => ⟨by rw [hw vs hv, wipe_idem], ?_⟩
    refine ⟨H0, B3, ρ1, b, s3, h2, fun B4 H4 t4 => ?_⟩
    have t24 := (t2.trans t3).trans t4
    have hD4 := (t3.trans t4).h.l hDl
    have hB4 := (t3.trans t4).stay hB hDl
    cases b with
    | true =>
      obtain ⟨z, h3, hgo⟩ := bind_some hgo
      obtain ⟨rs, h4, hgo⟩ := bind_some hgo
      cases hgo
      refine ⟨H0, B4, ρ1, z, s3.tr t4, h3, fun v B5 H5 t5 d5 => ?_⟩
      have hD5 := t5.h.l hD4
      have hB5 := t5.stay hB4 hD4
      refine ⟨acc, hD5, ?_, B5, acc ++ [v], accD ++ [z], rs, (t24.trans t5).put hB5 hD, rfl, hlt, hB5, upd_same, dpAll_append (dpAll_mono ((t3.trans t4).trans t5).b hacc) (.cons d5 .nil), h4, by rw [← hr]; simp, by simp; omega⟩
      have := dpAll_len hacc
      have h6 : (bigL : Nat) < sizeLine := by decide
      omega
    | false =>
      exact ⟨B4, acc, accD, rest, t24, rfl, hlt, hB4, hD4, dpAll_mono (t3.trans t4).b hacc, hgo, hr, by omega⟩
  · have e : xs.length = i := by omega
    subst e
    rw [List.drop_length] at hgo
    cases hgo
    rw [List.append_nil] at hr
    subst hr
    refine .inl ⟨it.1 H' (t2.b.trans t2.t), q _ (upd B2 D (.lst acc)) H' ?_ (.lst (SqL.of upd_same) (dpAll_mono (same_upd hB) hacc))⟩
    have T := t1.trans t2
    refine ⟨T.b.trans (same_upd hB), fun a u e => ?_, T.h, fun n => nt_upd (T.n n) (fun _ z => by cases z), fun a u e1 e2 => ?_⟩
    · by_cases z : a = D
      · subst z; rw [upd_same] at e; cases e; exact hDl
      · rw [upd_ne z] at e; exact T.t a u e
    · by_cases z : a = D
      · subst z; exact t1.h.free hD
      · rw [upd_ne z] at e1; exact T.f a u e1 e2
end
section
variable {X : Cx} {elt tg iter : Expr} {ifs : List Expr} {scope : Scope} {own : List (Str × Nat)} {pos : Pos} {fi : Rho → Option (List PyData)} {g : TG} {bd : PyData → Rho → Option Rho} {is : List Nat} {t : Rho → Option Bool} {f : Rho → Option PyData}
theorem pd_lc [Tbs] {vs : List Nat} (hgd : GD X.K g bd is) (hv : ∀ i ∈ is, i ∈ vs) (hc : X.calm = true) (hN : X.N.Nodup) (hi : PDI X tg iter fi) (ok : BlkOk X.N X.env.scope scope own)
    (hg : ∀ (s : Shared) (H : Hp) (C : Addr) (cl : List (Str × Addr)) (fp : List Addr), PG (X.blk s H scope (compEnvC scope cl C X.env) fp) tg g) (ht : ∀ (s : Shared) (H : Hp) (C : Addr) (cl : List (Str × Addr)) (fp : List Addr), PDTs (X.blk s H scope (compEnvC scope cl C X.env) fp) ifs t)
    (he : ∀ (s : Shared) (H : Hp) (C : Addr) (cl : List (Str × Addr)) (fp : List Addr), PD (X.blk s H scope (compEnvC scope cl C X.env) fp) elt f) (hw : own.map (·.2) = vs := by rfl) (hs : ∀ x, foldedSetIterable iter X.env x = pure x := by intro _; rfl) :
    PD X (.ListComp elt [⟨tg, iter, ifs, 0⟩] scope pos) (fLc fi bd t f vs) := by
  subst hw
  exact pe_imp (pe_lc hc hN hi ok hg ht he hs) (lc_imp hgd hv)
end

/-! ### statements -/
inductive Out | nx (ρ : Rho) | rt (d : PyData) (ρ : Rho) | bk (ρ : Rho) | ct (ρ : Rho) | rf (xs : List PyData)
section
variable {K : PySem.W.Frag}
/-- B0, H0: at the entry -/
def Stt [Tbs] (K : PySem.W.Frag) (B0 H0 : Hp) (ρ : Rho) (σ : L2.St) (H : Hp) : Prop := ∃ B, Tr B0 H0 B H ∧ Sl K H0 B ρ σ H
def Post [Tbs] (K : PySem.W.Frag) (B0 H0 : Hp) (D : Ends) : Out → Prop
  | .nx ρ => ∀ σ H, Stt K B0 H0 ρ σ H → D.nx σ H
  | .bk ρ => ∀ σ H, Stt K B0 H0 ρ σ H → D.bk σ H
  | .ct ρ => ∀ σ H, Stt K B0 H0 ρ σ H → D.ct σ H
  | .rt d ρ => ∀ v σ B H, Tr B0 H0 B H → Sl K H0 B ρ σ H → Dq K B v d → D.rt v H
  | .rf xs => ∀ a us B H, Tr B0 H0 B H → B a = none → H0 a = none → H a = some (.lst us) → DqAll K B us xs → D.rt (.ref a) H
def tS [Tbs] (K : PySem.W.Frag) (g : Rho → Option Out) : TS := fun D σ H => ∃ B0 H0 ρ o, Stt K B0 H0 ρ σ H ∧ g ρ = some o ∧ Post K B0 H0 D o
abbrev PSD [Tbs] (X : Cx) (st : Stmt) (g : Rho → Option Out) : Prop := PS X st (tS X.K g)
abbrev PSDs [Tbs] (X : Cx) (st : List Stmt) (g : Rho → Option Out) : Prop := PSs X st (tS X.K g)
def gNx : Rho → Option Out := fun ρ => some (.nx ρ)
def gSeq (g h : Rho → Option Out) : Rho → Option Out := fun ρ => (g ρ).bind fun o => match o with
  | .nx ρ' => h ρ'
  | o => some o
variable {X : Cx} {st : Stmt} {rest : List Stmt} {g h : Rho → Option Out} {e a b : Expr} {pos : Pos} {f : Rho → Option PyData} {ft : Rho → Option Bool}
theorem psd_nil [Tbs] : PSDs X [] gNx := pss_imp pss_nil fun D σ H ⟨B0, H0, ρ, o, s, hf, q⟩ => by cases hf; exact q σ H s
theorem psd_cons [Tbs] (h1 : PSD X st g) (h2 : PSDs X rest h) : PSDs X (st :: rest) (gSeq g h) := pss_imp (pss_cons h1 h2) fun D σ H ⟨B0, H0, ρ, o, s, hf, q⟩ => by
  obtain ⟨o1, ho, hf⟩ := bind_some hf
  refine ⟨B0, H0, ρ, o1, s, ho, ?_⟩
  cases o1 with
  | nx ρ' => exact fun σ' H' s' => ⟨B0, H0, ρ', o, s', hf, q⟩
  | rt d ρ' => cases hf; exact q
  | rf d => cases hf; exact q
  | bk d => cases hf; exact q
  | ct d => cases hf; exact q
theorem psd_one [Tbs] (h1 : PSD X st g) : PSDs X [st] g := pss_one h1
def gRet (f : Rho → Option PyData) : Rho → Option Out := fun ρ => (f ρ).map fun d => .rt d ρ
theorem psd_ret [Tbs] (he : PD X e f) : PSD X (.Return (some e) pos) (gRet f) := ps_imp (ps_ret he) fun D σ H ⟨B0, H0, ρ, o, ⟨B, t, s⟩, hf, q⟩ => by
  obtain ⟨d, hd, rfl⟩ := Option.map_eq_some_iff.mp hf
  exact ⟨H0, B, ρ, d, s, hd, fun v B1 H1 t1 d1 => q v σ B1 H1 (t.trans t1) (s.tr t1) d1⟩
/-- the slot's own list becomes data -/
def frz (i : Nat) (ρ : Rho) : Rho := match ρ[i]? with
  | some (some (.own _ xs)) => ρ.set i (some (.d (.list xs)))
  | _ => ρ
theorem set_self_get {l : L2.St} {i : Nat} {x : Option V} (h : l[i]? = some x) : l.set i x = l := by
  apply List.ext_getElem?
  intro j
  by_cases e : i = j
  · subst e
    rw [List.getElem?_set_self (List.getElem?_eq_some_iff.mp h).1, h]
  · rw [List.getElem?_set_ne e]
theorem stt_frz [Tbs] {B0 H0 : Hp} {ρ : Rho} {σ : L2.St} {H : Hp} (s : Stt K B0 H0 ρ σ H) (i : Nat) : Stt K B0 H0 (frz i ρ) σ H := by
  unfold frz
  split
  · rename_i o xs hx
    obtain ⟨B, t, s⟩ := s
    obtain ⟨p, vs, h1, h2, h3, h4, h5, h6⟩ := s.ow hx
    have t2 : Tr B0 H0 (upd B p (.lst vs)) H := ⟨t.b.trans (same_upd h2), fun c u e => by
      by_cases z : c = p
      · subst z; rw [upd_same] at e; cases e; exact h4
      · rw [upd_ne z] at e; exact t.t c u e, t.h, fun n => nt_upd (t.n n) (fun _ z => by cases z), fun c u e1 e2 => by
      by_cases z : c = p
      · subst z; exact h3
      · rw [upd_ne z] at e1; exact t.f c u e1 e2⟩
    refine ⟨_, t2, ?_⟩
    -- all other lists stay apart
    have sw : Sl K H0 B (ρ.set i none) σ H := by
      refine ⟨s.bh, s.nt, s.tb, by simp [s.len], fun {j y} e => ?_, fun {j oj ys} e => ?_, fun {j k oj ok us ys c} e1 e2 e3 e4 => ?_, s.ob.setR fun _ _ _ z => by cases z⟩
      · rcases get_set e with ⟨_, _, z⟩ | ⟨_, e⟩
        · cases z
        · exact s.dv e
      · rcases get_set e with ⟨_, _, z⟩ | ⟨_, e⟩
        · cases z
        · exact s.ow e
      · rcases get_set e1 with ⟨_, _, z⟩ | ⟨_, e1⟩
        · cases z
        · rcases get_set e2 with ⟨_, _, z⟩ | ⟨_, e2⟩
          · cases z
          · exact s.ap e1 e2 e3 e4
    have s2 : Sl K H0 (upd B p (.lst vs)) (ρ.set i none) σ H := by
      refine ⟨t2.t, nt_upd sw.nt (fun _ z => by cases z), sw.tb, sw.len, fun {j y} e => ?_, fun {j oj ys} e => ?_, fun a b c d => sw.ap a b c d, sw.ob.go (same_upd h2) fun a C dx vs e1 _ e2 => ⟨by rw [upd_ne (fun z => by rw [z, h4] at e2; cases e2)]; exact e1, e2⟩⟩
      · obtain ⟨v, e1, e2⟩ := sw.dv e
        exact ⟨v, e1, dp_mono (same_upd h2) e2⟩
      · obtain ⟨c, ws, e1, e2, e3, e4, e5, e6⟩ := sw.ow e
        refine ⟨c, ws, e1, ?_, e3, e4, dpAll_mono (same_upd h2) e5, e6⟩
        have hne : c ≠ p := fun z => by
          subst z
          rcases get_set e with ⟨_, _, z⟩ | ⟨n, e⟩
          · cases z
          · exact n (s.ap hx e h1 e1)
        rw [upd_ne hne]
        exact e2
    have s3 := sl_setD (i := i) (v := V.ref p) (x := PyData.list xs) s2 (.lst (SqL.of upd_same) (dpAll_mono (same_upd h2) h5))
    rw [List.set_set, set_self_get h1] at s3
    exact s3
  · exact s
theorem psd_frz [Tbs] (i : Nat) (h : PSD X st g) : PSD X st (fun ρ => g (frz i ρ)) := ps_imp h fun D σ H ⟨B0, H0, ρ, o, s, hf, q⟩ => ⟨B0, H0, frz i ρ, o, stt_frz s i, hf, q⟩
theorem psds_frz [Tbs] (i : Nat) (h : PSDs X rest g) : PSDs X rest (fun ρ => g (frz i ρ)) := pss_imp h fun D σ H ⟨B0, H0, ρ, o, s, hf, q⟩ => ⟨B0, H0, frz i ρ, o, stt_frz s i, hf, q⟩
def gSet (i : Nat) (f : Rho → Option PyData) : Rho → Option Out := fun ρ => (f ρ).map fun x => .nx (ρ.set i (some (.d x)))
theorem psd_asg [Tbs] {i : Nat} (h : PS X st (tAsg (tD X.K f) (gName i))) : PSD X st (gSet i f) := ps_imp h fun D σ H ⟨B0, H0, ρ, o, ⟨B, t, s⟩, hf, q⟩ => by
  obtain ⟨d, hd, rfl⟩ := Option.map_eq_some_iff.mp hf
  exact ⟨H0, B, ρ, d, s, hd, fun v B1 H1 t1 d1 => q _ _ ⟨B1, t.trans t1, sl_setD (s.tr t1) d1⟩⟩
/-- x = [..]: x alone knows it -/
def gOwn (i : Nat) (fs : Rho → Option (List PyData)) : Rho → Option Out := fun ρ => (fs ρ).bind fun xs => if xs.length ≤ bigL then some (.nx (ρ.set i (some (.own none xs)))) else none
theorem psd_own [Tbs] {i : Nat} {fs : Rho → Option (List PyData)} (h : PS X st (tAsg (tLst (tDA X.K fs)) (gName i))) : PSD X st (gOwn i fs) := ps_imp h fun D σ H ⟨B0, H0, ρ, o, ⟨B, t, s⟩, hf, q⟩ => by
  obtain ⟨xs, hd, hf⟩ := bind_some hf
  obtain ⟨hl, rfl⟩ := ite_some hf
  refine ⟨H0, B, ρ, xs, s, hd, fun vs B1 H1 t1 d1 => ⟨by rw [dpAll_len d1]; exact bigL_le hl, fun p hp => ?_⟩⟩
  have T := t.trans t1
  have s1 := s.tr t1
  refine q _ _ ⟨B1, T.trans (Tr.junk T.t hp), sl_setO (s1.tr (Tr.junk T.t hp)) (T.t.free hp) (T.h.free hp) upd_same d1 (fun b e => nomatch e) fun {j oj ys} n e z => ?_⟩
  obtain ⟨c, ws, e1, _, _, e4, _⟩ := s1.ow e
  rw [z] at e1
  cases e1
  rw [hp] at e4
  cases e4
def gDrop (f : Rho → Option PyData) : Rho → Option Out := fun ρ => (f ρ).map fun _ => .nx ρ
theorem psd_drop [Tbs] (h : PS X st (tDrop (tD X.K f))) : PSD X st (gDrop f) := ps_imp h fun D σ H ⟨B0, H0, ρ, o, ⟨B, t, s⟩, hf, q⟩ => by
  obtain ⟨d, hd, rfl⟩ := Option.map_eq_some_iff.mp hf
  exact ⟨H0, B, ρ, d, s, hd, fun v B1 H1 t1 d1 => q _ _ ⟨B1, t.trans t1, s.tr t1⟩⟩
def gIf (c : Rho → Option Bool) (g h : Rho → Option Out) : Rho → Option Out := fun ρ => (c ρ).bind fun z => if z then g ρ else h ρ
theorem psd_if [Tbs] {c : Expr} {p q : List Stmt} (hc : PDT X c ft) (hp : PSDs X p g) (hq : PSDs X q h) : PSD X (.If c p q pos) (gIf ft g h) := ps_imp (ps_if hc hp hq) fun D σ H ⟨B0, H0, ρ, o, ⟨B, t, s⟩, hf, k⟩ => by
  obtain ⟨z, hz, hf⟩ := bind_some hf
  refine ⟨H0, B, ρ, z, s, hz, fun B1 H1 t1 => ?_⟩
  cases z with
  | true => exact ⟨B0, H0, ρ, o, ⟨B1, t.trans t1, s.tr t1⟩, hf, k⟩
  | false => exact ⟨B0, H0, ρ, o, ⟨B1, t.trans t1, s.tr t1⟩, hf, k⟩
/-- x.append(e), x knows its list alone -/
def gApp (i : Nat) (f : Rho → Option PyData) : Rho → Option Out := fun ρ => match ρ[i]? with
  | some (some (.own o xs)) => (f ρ).bind fun y => if xs.length < bigL then some (.nx (ρ.set i (some (.own o (xs ++ [y]))))) else none
  | _ => none
theorem Gw.put2 [Tbs] {H0 B H : Hp} {ρ : Rho} {σ : L2.St} {ws : List V} (_ : Gw H H) (s : Sl K H0 B ρ σ H) {i : Nat} {a P : Addr} {xs : List PyData} {o : Option Addr} (hx : ρ[i]? = some (some (.own o xs))) (h1 : σ[i]? = some (some (V.ref a))) (t : GxR.TabG H P) : GxR.TabG (upd H a (.lst ws)) P := by
  obtain ⟨a', us', z1, _, _, z4, _⟩ := s.ow hx
  rw [h1] at z1; cases z1
  obtain ⟨ps, e, h⟩ := t
  exact ⟨ps, by rw [upd_ne (fun z => by rw [z, z4] at e; cases e)]; exact e, h⟩
theorem sl_grow [Tbs] {H0 B H : Hp} {ρ : Rho} {σ : L2.St} (s : Sl K H0 B ρ σ H) {i : Nat} {a : Addr} {xs ys : List PyData} {ws : List V} {o : Option Addr} (hx : ρ[i]? = some (some (.own o xs))) (h1 : σ[i]? = some (some (V.ref a))) (hb : B a = none) (h0 : H0 a = none) (hd : DqAll K B ws ys) (ho : ∀ b, o = some b → a = b) :
    Sl K H0 B (ρ.set i (some (.own o ys))) σ (upd H a (.lst ws)) := by
  have hi := (List.getElem?_eq_some_iff.mp h1).1
  have hnl : ∀ C dx vs, H a ≠ some (.ins C dx vs) := fun C dx vs z => by
    obtain ⟨a', us', z1, _, _, z4, _⟩ := s.ow hx
    rw [h1] at z1; cases z1
    rw [z] at z4; cases z4
  refine ⟨fun c u e => ?_, s.nt, fun P hP => (Gw.refl H).put2 s hx h1 (s.tb P hP), by simp [s.len], fun {j y} e => ?_, fun {j oj us} e => ?_, fun {j k oj ok us vs c} e1 e2 e3 e4 => ?_, (s.ob.setR fun _ _ _ z => by cases z).go (Same.refl B) fun a' C dx vs e1 _ e2 => ⟨e1, by rw [upd_ne (fun z => by subst z; exact absurd e2 (hnl _ _ _))]; exact e2⟩⟩
  · rw [upd_ne (ne_of_none e hb)]; exact s.bh c u e
  · rcases get_set e with ⟨_, _, z⟩ | ⟨_, e⟩
    · cases z
    · exact s.dv e
  · rcases get_set e with ⟨rfl, _, z⟩ | ⟨n, e⟩
    · cases z; exact ⟨a, ws, h1, hb, h0, upd_same, hd, ho⟩
    · obtain ⟨c, vs, e1, e2, e3, e4, e5⟩ := s.ow e
      refine ⟨c, vs, e1, e2, e3, ?_, e5⟩
      rw [upd_ne]
      · exact e4
      · intro z; subst z; exact n (s.ap hx e h1 e1)
  · have f1 : ∃ o' us', ρ[j]? = some (some (.own o' us')) := by
      rcases get_set e1 with ⟨rfl, _, _⟩ | ⟨_, e⟩
      · exact ⟨_, _, hx⟩
      · exact ⟨_, _, e⟩
    have f2 : ∃ o' us', ρ[k]? = some (some (.own o' us')) := by
      rcases get_set e2 with ⟨rfl, _, _⟩ | ⟨_, e⟩
      · exact ⟨_, _, hx⟩
      · exact ⟨_, _, e⟩
    obtain ⟨_, _, f1⟩ := f1
    obtain ⟨_, _, f2⟩ := f2
    exact s.ap f1 f2 e3 e4
theorem psd_app [Tbs] {i : Nat} (h : PS X st (tDrop (tBM X.K "list" rAppend (tVar i) (tCons (tD X.K f) tNil)))) : PSD X st (gApp i f) := ps_imp h fun D σ H ⟨B0, H0, ρ, o, ⟨B, t, s⟩, hf, q⟩ => by
  unfold gApp at hf
  split at hf
  · rename_i o xs hx
    obtain ⟨y, hy, hf⟩ := bind_some hf
    obtain ⟨hl, rfl⟩ := ite_some hf
    obtain ⟨a, vs, h1, h2, h3, h4, h5, h6⟩ := s.ow hx
    refine ⟨.ref a, h1, .inl ⟨rfl, vs, SqL.of h4⟩, H0, B, ρ, y, s, hy, fun v B1 H1 t1 d1 => ?_⟩
    have s1 := s.tr t1
    have hb := t1.stay h2 h4
    refine ⟨a, vs, v, rfl, rfl, t1.h.l h4, by rw [dpAll_len h5]; exact Nat.lt_of_lt_of_le hl (by decide), ?_⟩
    refine q _ _ ⟨B1, (t.trans t1).put hb h3, sl_grow s1 hx h1 hb h3 (dpAll_append (dpAll_mono t1.b h5) (.cons d1 .nil)) h6⟩
  · cases hf
end
end Dn

namespace Dn
open PySem L2 PySem.Spec PyProof.Rows
theorem Tr.glue {B0 H0 B1 H1 B H : Hp} (p : Tr B0 H0 B1 H1) (q : Tr B1 H0 B H) : Tr B0 H0 B H := ⟨p.b.trans q.b, q.t, q.h, fun z => q.n (p.n z), fun a o x y => by
  cases e : B1 a with
  | none => exact q.f a o x e
  | some u => exact p.f a u e y⟩
section
variable {K : PySem.W.Frag}
/-! ### loops -/
def forGo (bd : PyData → Rho → Option Rho) (g : Rho → Option Out) : List PyData → Rho → Option Out
  | [], ρ => some (.nx ρ)
  | x :: xs, ρ => (bd x ρ).bind fun ρ1 => (g ρ1).bind fun o => match o with
    | .nx ρ2 => forGo bd g xs ρ2
    | .ct ρ2 => forGo bd g xs ρ2
    | .bk ρ2 => some (.nx ρ2)
    | .rt d ρ2 => some (.rt d ρ2)
    | .rf zs => some (.rf zs)
def gFor (fi : Rho → Option (List PyData)) (bd : PyData → Rho → Option Rho) (g : Rho → Option Out) : Rho → Option Out := fun ρ => (fi ρ).bind fun xs => forGo bd g xs ρ
def whileGo (c : Rho → Option Bool) (g : Rho → Option Out) : Nat → Rho → Option Out
  | 0, _ => none
  | n + 1, ρ => (c ρ).bind fun b => if b then (g ρ).bind fun o => match o with
    | .nx ρ2 => whileGo c g n ρ2
    | .ct ρ2 => whileGo c g n ρ2
    | .bk ρ2 => some (.nx ρ2)
    | .rt d ρ2 => some (.rt d ρ2)
    | .rf zs => some (.rf zs) else some (.nx ρ)
variable {X : Cx} {st : Stmt} {rest body : List Stmt} {g h : Rho → Option Out} {e a b tg iter : Expr} {pos : Pos} {f : Rho → Option PyData} {ft : Rho → Option Bool} {fi : Rho → Option (List PyData)} {bd : PyData → Rho → Option Rho} {is : List Nat} {tgt : TG}
theorem psd_for [Tbs] (hgd : GD X.K tgt bd is) (hp : PassesOwn (model X.prog X.w) X.A X.env X.xe) (hc : X.calm = true) (hi : PDI X tg iter fi) (hg : PG X tg tgt) (hb : PSDs X body g)
    (hs : ∀ x, foldedSetIterable iter X.env x = pure x := by intro _; rfl) : PSD X (.For tg iter body [] pos) (gFor fi bd g) := ps_imp (ps_for hp hc hi hg hb hs) fun D σ H ⟨B0, H0, ρ, o, ⟨B, t, s⟩, hf, q⟩ => by
  obtain ⟨xs, hxs, hf⟩ := bind_some hf
  refine ⟨H0, B, ρ, xs, s, hxs, fun J B1 H1 t1 it => ?_⟩
  have T := t.trans t1
  have T0 : Tr B1 H0 B1 H1 := ⟨Same.refl _, T.t, T.h, id, fun c u e1 e2 => by rw [e2] at e1; cases e1⟩
  refine ⟨fun i m σ' H' => ∃ ρ', Stt X.K B1 H0 ρ' σ' H' ∧ m = xs.length - i ∧ i ≤ xs.length ∧ forGo bd g (xs.drop i) ρ' = some o, ⟨xs.length, ρ, ⟨B1, T0, s.tr t1⟩, rfl, Nat.zero_le _, hf⟩, ?_⟩
  rintro i m σ' H' ⟨ρ', ⟨B2, t2, s2⟩, rfl, hle, hgo⟩
  by_cases hlt : i < xs.length
  · have hx : xs[i]? = some xs[i] := by simp [hlt]
    obtain ⟨go, yld⟩ := it.2 i xs[i] hx H' (t2.b.trans t2.t)
    rw [List.drop_eq_getElem_cons hlt] at hgo
    unfold forGo at hgo
    obtain ⟨ρ1, h1, hgo⟩ := bind_some hgo
    obtain ⟨o1, h2, hgo⟩ := bind_some hgo
    refine .inr ⟨go, _, fun σ'' H'' nx => ⟨xs.length - (i + 1), by omega, nx⟩, fun x H3 y => ?_⟩
    obtain ⟨B3, t3, d3⟩ := yld x H3 y B2 t2.b t2.t
    refine hgd H0 B3 H3 ρ' ρ1 σ' x xs[i] _ (s2.tr t3) d3 h1 fun σ3 _ s3 => ⟨B1, H0, ρ1, o1, ⟨B3, t2.trans t3, s3⟩, h2, ?_⟩
    cases o1 with
    | nx ρ2 => exact fun σ4 H4 s4 => ⟨ρ2, s4, rfl, hlt, hgo⟩
    | ct ρ2 => exact fun σ4 H4 s4 => ⟨ρ2, s4, rfl, hlt, hgo⟩
    | bk ρ2 => cases hgo; exact fun σ4 H4 ⟨B4, t4, s4⟩ => q _ _ ⟨B4, T.glue t4, s4⟩
    | rt d ρ2 => cases hgo; exact fun v σ4 B4 H4 t4 s4 d4 => q v σ4 B4 H4 (T.glue t4) s4 d4
    | rf zs => cases hgo; exact fun a us B4 H4 t4 w1 w2 w3 w4 => q a us B4 H4 (T.glue t4) w1 w2 w3 w4
  · have e : xs.length = i := by omega
    subst e
    rw [List.drop_length] at hgo
    cases hgo
    exact .inl ⟨it.1 H' (t2.b.trans t2.t), q _ _ ⟨B2, T.glue t2, s2⟩⟩
theorem psd_while [Tbs] (n : Nat) {c : Expr} (hp : PassesOwn (model X.prog X.w) X.A X.env X.xe) (hc : PDT X c ft) (hb : PSDs X body g) : PSD X (.While c body [] pos) (whileGo ft g n) := ps_imp (ps_while hp hc hb) fun D σ H ⟨B0, H0, ρ, o, s, hf, q⟩ => by
  refine ⟨fun m σ' H' => ∃ ρ', Stt X.K B0 H0 ρ' σ' H' ∧ whileGo ft g m ρ' = some o, ⟨n, ρ, s, hf⟩, ?_⟩
  rintro m σ' H' ⟨ρ', ⟨B2, t2, s2⟩, hgo⟩
  cases m with
  | zero => cases hgo
  | succ m =>
    unfold whileGo at hgo
    obtain ⟨z, h1, hgo⟩ := bind_some hgo
    refine ⟨H0, B2, ρ', z, s2, h1, fun B3 H3 t3 => ?_⟩
    cases z with
    | true =>
      obtain ⟨o1, h2, hgo⟩ := bind_some hgo
      refine ⟨_, fun σ'' H'' nx => ⟨m, Nat.lt_succ_self m, nx⟩, B0, H0, ρ', o1, ⟨B3, t2.trans t3, s2.tr t3⟩, h2, ?_⟩
      cases o1 with
      | nx ρ2 => exact fun σ4 H4 s4 => ⟨ρ2, s4, hgo⟩
      | ct ρ2 => exact fun σ4 H4 s4 => ⟨ρ2, s4, hgo⟩
      | bk ρ2 => cases hgo; exact fun σ4 H4 s4 => q _ _ s4
      | rt d ρ2 => cases hgo; exact fun v σ4 B4 H4 t4 s4 d4 => q v σ4 B4 H4 t4 s4 d4
      | rf zs => cases hgo; exact fun a us B4 H4 t4 w1 w2 w3 w4 => q a us B4 H4 t4 w1 w2 w3 w4
    | false =>
      cases hgo
      exact q _ _ ⟨B3, t2.trans t3, s2.tr t3⟩
/-! ### more statements -/
def gBk : Rho → Option Out := fun ρ => some (.bk ρ)
def gCt : Rho → Option Out := fun ρ => some (.ct ρ)
theorem psd_pass [Tbs] : PSD X (.Pass pos) gNx := ps_imp ps_pass fun D σ H ⟨B0, H0, ρ, o, s, hf, q⟩ => by cases hf; exact q σ H s
theorem psd_break [Tbs] : PSD X (.Break pos) gBk := ps_imp ps_break fun D σ H ⟨B0, H0, ρ, o, s, hf, q⟩ => by cases hf; exact q σ H s
theorem psd_cont [Tbs] : PSD X (.Continue pos) gCt := ps_imp ps_continue fun D σ H ⟨B0, H0, ρ, o, s, hf, q⟩ => by cases hf; exact q σ H s
theorem psd_doc [Tbs] {x j pos'} : PSD X (.Expr (.Constant (.str x) j pos) pos') gNx := ps_imp ps_doc fun D σ H ⟨B0, H0, ρ, o, s, hf, q⟩ => by cases hf; exact q σ H s
theorem psd_never [Tbs] (g : Rho → Option Out) (hg : ∀ ρ, g ρ = none) : PSD X st g := ps_imp ps_never fun D σ H ⟨B0, H0, ρ, o, s, hf, q⟩ => by rw [hg] at hf; cases hf
/-- i += e, i -= e of ints -/
def gAug (i : Nat) (op : Int → Int → Int) (f : Rho → Option PyData) : Rho → Option Out := fun ρ => (fV i ρ).bind fun x => (f ρ).bind fun y => (ri op x y).map fun z => .nx (ρ.set i (some (.d z)))
theorem psd_aug [Tbs] {i : Nat} {op : Int → Int → Int} (h : PS X st (tAug i (tD X.K f) (ipI op))) : PSD X st (gAug i op f) := ps_imp h fun D σ H ⟨B0, H0, ρ, o, ⟨B, t, s⟩, hf, q⟩ => by
  obtain ⟨x, hx, hf⟩ := bind_some hf
  obtain ⟨y, hy, hf⟩ := bind_some hf
  obtain ⟨z, hz, rfl⟩ := Option.map_eq_some_iff.mp hf
  unfold ri at hz
  split at hz
  · cases hz
    obtain ⟨v, h1, h2⟩ := s.dv (fV_some hx)
    cases h2
    refine ⟨_, h1, H0, B, ρ, _, s, hy, fun w B1 H1 t1 d1 => ?_⟩
    cases d1
    exact ⟨_, _, rfl, rfl, q _ _ ⟨B1, t.trans t1, sl_setD (s.tr t1) (.int _)⟩⟩
  · cases hz
/-- x.extend(e) -/
def gExt (i : Nat) (f : Rho → Option PyData) : Rho → Option Out := fun ρ => match ρ[i]? with
  | some (some (.own o xs)) => (f ρ).bind fun y => match y with
    | .list ys => if xs.length + ys.length ≤ bigL then some (.nx (ρ.set i (some (.own o (xs ++ ys))))) else none
    | _ => none
  | _ => none
def rExtL (K : PySem.W.Frag) : V → List V → Hp → VK → Prop := fun x vs H Q => ∃ l b xs zs, x = .ref l ∧ vs = [.ref b] ∧ H l = some (.lst xs) ∧ H b = some (.lst zs) ∧ xs.length + zs.length ≤ sizeLine ∧ Q .non (upd H l (.lst (xs ++ zs)))
/-! ### isinstance -/
def tyN : PyData → String
  | .none => "NoneType"
  | .bool _ => "bool"
  | .int _ => "int"
  | .str _ => "str"
  | .list _ => "list"
  | .tuple _ => "tuple"
  | .dict _ => "dict"
/-- no instance -/
def bareD : PyData → Bool
  | .dict (_ :: _) => false
  | _ => true
def isiD (T : String) (x : PyData) : Option PyData := if bareD x = true then (kitB (tyN x) T).map .bool else none
theorem tyX_of [Tbs] {B H : Hp} {v : V} {d : PyData} (s : Same B H) (h : Dq K B v d) (hb : bareD d = true) : TyX K H v (.type (tyN d)) := by
  cases h with
  | non => exact .base .non
  | bl b => exact .base (.bl b)
  | int i => exact .base (.int i)
  | str x => exact .base (.str x)
  | lst h a =>
    rcases sqL_mono s h with (h | ⟨o, h⟩) | ⟨o, its, n, h, c, _⟩
    · exact .base (.lst h)
    · exact .base (.frz h)
    · exact .kList h c
  | tup h a =>
    rcases sqT_mono s h with (h | ⟨o, h⟩) | ⟨o, its, n, h, c, _⟩
    · exact .base (.tup h)
    · exact .fTuple h
    · exact .kTuple h c
  | emp h => exact .base (.dK (s _ _ h))
  | ins h a => cases hb
def f1 (g : PyData → Option PyData) (f : Rho → Option PyData) : Rho → Option PyData := fun ρ => (f ρ).bind g
theorem pd_isi [Tbs] {T : String} {e2 : Expr} {p : Pos} (hg : Gl X "isinstance") (hm : X.mg "isinstance" = none) (he : PD X e f) (h2 : PE X e2 (tC (.ty T)))
    (h0 : starEach [e2] X.env = (false, eval e2 X.env) :: starEach [] X.env := by rfl) (hs : starEach [e, e2] X.env = (false, eval e X.env) :: starEach [e2] X.env := by rfl) (hpl : (backTo pos (starEach [e2] X.env)).any (·.1) = false := by rfl)
    (hv : bootBuiltins "isinstance" = some (.builtin "isinstance") := by decide +kernel) : PD X (.Call (.Name "isinstance" p) [e, e2] [] pos) (f1 (isiD T) f) :=
  pe_imp (pe_callB call_isi hg hm hv (pa_cons he (pa_cons h2 pa_nil h0) hs) (by decide) (by decide) hs hpl) fun σ H Q ⟨H0, B, ρ, d, s, hf, q⟩ => by
  obtain ⟨x, hx, hf⟩ := bind_some hf
  unfold isiD at hf
  split at hf
  case isFalse => cases hf
  rename_i hbr
  obtain ⟨r, er, rfl⟩ := Option.map_eq_some_iff.mp hf
  exact ⟨H0, B, ρ, x, s, hx, fun v B1 H1 t1 d1 => ⟨v, .ty T, _, _, r, rfl, .ty T, tyX_of t1.t d1 hbr, kit_ty er, q _ B1 H1 t1 (.bl r)⟩⟩
/-! ### in -/
def flatD : PyData → Bool
  | .str _ | .int _ | .bool _ | .none => true
  | _ => false
theorem flatV_of [Tbs] {B : Hp} {v : V} {d : PyData} (h : Dq K B v d) (f : flatD d = true) : flatV v = true := by cases h <;> first | rfl | cases f
theorem eqV_of [Tbs] {B : Hp} {v w : V} {d e : PyData} (h : Dq K B v d) (f : flatD d = true) (h' : Dq K B w e) (f' : flatD e = true) : eqV v w = PyData.eqv d e := by
  cases h <;> cases h' <;> first | (simp only [eqV, PyData.eqv]; done) | cases f | cases f'
theorem inV_of [Tbs] {B : Hp} {v : V} {d : PyData} (h : Dq K B v d) (f : flatD d = true) {vs : List V} : ∀ {ds : List PyData}, DqAll K B vs ds → ds.all flatD = true → (inV v vs = ds.any fun z => PyData.eqv z d) ∧ vs.all flatV = true := by
  induction vs with
  | nil => intro ds h2 _; cases h2; exact ⟨rfl, rfl⟩
  | cons w vs ih =>
    intro ds h2 h3
    cases h2 with
    | cons a b =>
      rw [List.all_cons, Bool.and_eq_true] at h3
      obtain ⟨e1, e2⟩ := ih b h3.2
      refine ⟨?_, by rw [List.all_cons, flatV_of a h3.1, e2]; rfl⟩
      unfold inV at e1 ⊢
      rw [List.any_cons, List.any_cons, e1, eqV_of a h3.1 h f]
def inD : PyData → PyData → Option Bool
  | x, .tuple ys => if (flatD x && ys.all flatD) = true then some (ys.any fun z => PyData.eqv z x) else none
  | x, .list ys => if (SeqAt.shaped x && SeqAt.shaped (.list ys)) = true then some (ys.any fun z => PyData.eqv z x) else none
  | .str i, .str j => some (!(Builtin.Str.occurrences j i 0 j.length 1).isEmpty)
  | _, _ => none
def inP (x y : PyData) : Option PyData := (inD x y).map .bool
def niP (x y : PyData) : Option PyData := (inD x y).map fun b => .bool (!b)
def rInA (K : PySem.W.Frag) : R2 := fun x y H Q => rIn K false x y H Q ∨ rInD K x y H Q ∨ (∃ i j, x = .str i ∧ y = .str j ∧ Q (.bl (!(Builtin.Str.occurrences j i 0 j.length 1).isEmpty)) H)
def rNiA (K : PySem.W.Frag) : R2 := fun x y H Q => rIn K true x y H Q ∨ rNotInD K x y H Q ∨ (∃ i j, x = .str i ∧ y = .str j ∧ Q (.bl (!(!(Builtin.Str.occurrences j i 0 j.length 1).isEmpty))) H)
theorem op_inA (hu : X.A.units + 65 < cLine) : OpR X (compareOp .In) (rInA X.K) := op_in_seq.or ((op_inD hu).or op_in_str)
theorem op_niA (hu : X.A.units + 65 < cLine) : OpR X (compareOp .NotIn) (rNiA X.K) := op_notIn_seq.or ((op_notInD hu).or op_notin_str)
theorem inA_of [Tbs] {B H : Hp} {x y : V} {dx dy : PyData} {r : Bool} (s : Same B H) (hx : Dq K B x dx) (hy : Dq K B y dy) (h : inD dx dy = some r) :
    (∀ Q : VK, Q (.bl r) H → rInA K x y H Q) ∧ (∀ Q : VK, Q (.bl (!r)) H → rNiA K x y H Q) := by
  unfold inD at h
  split at h
  · obtain ⟨hs, rfl⟩ := ite_some h
    rw [Bool.and_eq_true] at hs
    cases hy with
    | tup hq a =>
      obtain ⟨e1, e2⟩ := inV_of hx hs.1 a hs.2
      refine ⟨fun Q q => .inl ⟨_, _, rfl, .inr (sqT_mono s hq), flatV_of hx hs.1, e2, ?_⟩, fun Q q => .inl ⟨_, _, rfl, .inr (sqT_mono s hq), flatV_of hx hs.1, e2, ?_⟩⟩
      · rw [if_neg Bool.false_ne_true, e1]; exact q
      · rw [if_pos rfl, e1]; exact q
  · obtain ⟨hs, rfl⟩ := ite_some h
    rw [Bool.and_eq_true] at hs
    exact ⟨fun Q q => .inr (.inl ⟨_, _, dq_sh (dp_mono s hx) hs.1, dq_sh (dp_mono s hy) hs.2, hs.1, hs.2, q⟩), fun Q q => .inr (.inl ⟨_, _, dq_sh (dp_mono s hx) hs.1, dq_sh (dp_mono s hy) hs.2, hs.1, hs.2, q⟩)⟩
  · cases hx; cases hy; cases h
    exact ⟨fun Q q => .inr (.inr ⟨_, _, rfl, rfl, q⟩), fun Q q => .inr (.inr ⟨_, _, rfl, rfl, q⟩)⟩
  · cases h
theorem rd_in [Tbs] : RD K (rInA K) inP := fun B H x y dx dy d Q s hx hy hg q => by
  unfold inP at hg
  obtain ⟨r, e, rfl⟩ := Option.map_eq_some_iff.mp hg
  exact (inA_of s hx hy e).1 Q (q _ B H (Tr.refl s) (.bl r))
theorem rd_ni [Tbs] : RD K (rNiA K) niP := fun B H x y dx dy d Q s hx hy hg q => by
  unfold niP at hg
  obtain ⟨r, e, rfl⟩ := Option.map_eq_some_iff.mp hg
  exact (inA_of s hx hy e).2 Q (q _ B H (Tr.refl s) (.bl _))
/-- e in x, x a slot that may still grow -/
def fOwn (i : Nat) : Rho → Option PyData := fun ρ => match ρ[i]? with
  | some (some (.d x)) => some x
  | some (some (.own _ xs)) => some (.list xs)
  | _ => none
/-- what is asked of a slot's list, whether it may still grow or not: the answer hangs on no address -/
theorem own_read [Tbs] {H0 B H : Hp} {ρ : Rho} {σ : L2.St} {i : Nat} {d : PyData} (s : Sl K H0 B ρ σ H) (h : fOwn i ρ = some d) : ∃ v, σ[i]? = some (some v) ∧ Dq K H v d := by
  unfold fOwn at h
  split at h
  · rename_i x e
    cases h
    obtain ⟨v, h1, h2⟩ := s.dv e
    exact ⟨v, h1, dp_mono s.bh h2⟩
  · rename_i o xs e
    cases h
    obtain ⟨p, vs, h1, h2, h3, h4, h5, _⟩ := s.ow e
    exact ⟨.ref p, h1, .lst (SqL.of h4) (dpAll_mono s.bh h5)⟩
  · cases h
/-- flat answers -/
theorem flat_dp [Tbs] {B H : Hp} {v : V} {d : PyData} (h : Dq K H v d) (f : flatD d = true) : Dq K B v d := by
  cases h <;> first | exact .non | exact .bl _ | exact .int _ | exact .str _ | cases f
def fO2 (g : PyData → PyData → Option PyData) (fa fb : Rho → Option PyData) : Rho → Option PyData := fun ρ => (fa ρ).bind fun x => (fb ρ).bind fun y => (g x y).bind fun z => if flatD z = true then some z else none
theorem two_own [Tbs] {r : R2} {g : PyData → PyData → Option PyData} {fa : Rho → Option PyData} {i : Nat} (hr : RD K r g) : ∀ σ H Q, tD K (fO2 g fa (fOwn i)) σ H Q → tOp r (tD K fa) (tVar i) σ H Q := fun σ H Q ⟨H0, B, ρ, d, s, hf, q⟩ => by
  obtain ⟨x, hx, hf⟩ := bind_some hf
  obtain ⟨y, hy, hf⟩ := bind_some hf
  obtain ⟨z, hz, hf⟩ := bind_some hf
  obtain ⟨hfl, rfl⟩ := ite_some hf
  refine ⟨H0, B, ρ, x, s, hx, fun v B1 H1 t1 d1 => ?_⟩
  obtain ⟨w, e1, e2⟩ := own_read (s.tr t1) hy
  refine ⟨w, e1, hr H1 H1 v w x y z Q (Same.refl _) (dp_mono t1.t d1) e2 hz fun u B2 H2 t2 d2 => q u B1 H2 (t1.trans ⟨Same.refl _, t1.t.trans (t2.b.trans t2.t), t2.h, id, fun c o e1 e2 => by rw [e2] at e1; cases e1⟩) (flat_dp d2 hfl)⟩
theorem pd_cmpO [Tbs] {op : CmpOp} {r : R2} {g : PyData → PyData → Option PyData} {fa : Rho → Option PyData} {i : Nat} (ho : OpR X (compareOp op) r) (hr : RD X.K r g) (ha : PD X a fa) (hb : PE X b (tVar i)) (hm : behindInMarks op b = false) : PD X (.Compare a [op] [b] pos) (fO2 g fa (fOwn i)) := pe_imp (pe_cmpR ho ha hb hm) (two_own hr)
theorem pdt_cmpO [Tbs] {op : CmpOp} {r : R2} {g : PyData → PyData → Option PyData} {fa : Rho → Option PyData} {i : Nat} (ho : OpR X (compareOp op) r) (hr : RD X.K r g) (ha : PD X a fa) (hb : PE X b (tVar i)) (hm : behindInMarks op b = false) : PDT X (.Compare a [op] [b] pos) (fB (fO2 g fa (fOwn i))) := pt_imp (pt_cmpR ho ha hb hm) (of_test (two_own hr))
/-! ### xs[::-1] -/
def revD : PyData → Option PyData
  | .list xs => some (.list xs.reverse)
  | _ => none
theorem pd_rev [Tbs] {k : Nat} {p1 p2 p3 : Pos} (he : PD X e f) : PD X (.Subscript e (.Slice none none (some (.UnaryOp .USub (.Constant (.int 1) k p1) p2)) p3) pos) (f1 revD f) := pe_imp (pe_revL he) fun σ H Q ⟨H0, B, ρ, d, s, hf, q⟩ => by
  obtain ⟨x, hx, hf⟩ := bind_some hf
  refine ⟨H0, B, ρ, x, s, hx, fun v B1 H1 t1 d1 => ?_⟩
  unfold revD at hf
  split at hf
  · cases hf
    cases d1 with
    | lst h a => exact ⟨_, _, rfl, sqL_mono t1.t h, fun p hp => newL t1.t (dpAll_rev a) (fun v B' H' t dd => q v B' H' (t1.trans t) dd) hp⟩
  · cases hf
/-! ### -n -/
def negD : PyData → Option PyData
  | .int i => some (.int (-i))
  | _ => none
theorem pd_neg [Tbs] (he : PD X e f) : PD X (.UnaryOp .USub e pos) (f1 negD f) := pe_imp (pe_un un_neg he) fun σ H Q ⟨H0, B, ρ, d, s, hf, q⟩ => by
  obtain ⟨x, hx, hf⟩ := bind_some hf
  refine ⟨H0, B, ρ, x, s, hx, fun v B1 H1 t1 d1 => ?_⟩
  unfold negD at hf
  split at hf
  · cases hf; cases d1; exact ⟨_, rfl, q _ B1 H1 t1 (.int _)⟩
  · cases hf

/-! ### what a def is worth -/
/-- the promise: data in, data out, nothing that stood is changed -/
def spD [Tbs] (K : PySem.W.Frag) (n : Nat) (F : List PyData → Option PyData) : Sp := fun vs H Q _ => ∃ B ds d, Bs B H ∧ DqAll K B vs ds ∧ ds.length = n ∧ F ds = some d ∧ ∀ v B' H', Tr B H B' H' → Dq K B' v d → Q v H'
def startR (n : Nat) (ds : List PyData) : Rho := ds.map (fun d => some (.d d)) ++ List.replicate (n - ds.length) none
def retD : Option Out → Option PyData
  | some (.rt d _) => some d
  | some (.nx _) => some .none
  | _ => none
def fnD (n : Nat) (g : Rho → Option Out) : List PyData → Option PyData := fun ds => retD (g (startR n ds))
theorem sl_start [Tbs] {B H : Hp} {vs : List V} {ds : List PyData} {N : List Str} (s : Bs B H) (h : DqAll K B vs ds) : Sl K H B (startR N.length ds) (L2.start N vs) H := by
  have hl := dpAll_len h
  refine ⟨s.s, s.nt, s.tb, by simp [startR, L2.start, hl], fun {i x} e => ?_, fun {i o xs} e => ?_, fun {i j o o' xs ys c} e _ _ _ => ?_, fun i a n fs e => ?_⟩
  · unfold startR at e
    by_cases hi : i < ds.length
    · rw [List.getElem?_append_left (by simpa using hi), List.getElem?_map] at e
      obtain ⟨d, hd, e⟩ := Option.map_eq_some_iff.mp e
      cases e
      obtain ⟨v, hv, hdv⟩ := dpAll_get h hd
      refine ⟨v, ?_, hdv⟩
      unfold L2.start
      rw [List.getElem?_append_left (by simpa [hl] using hi), List.getElem?_map, hv]
      rfl
    · rw [List.getElem?_append_right (by simpa using hi), List.getElem?_replicate] at e
      split at e <;> cases e
  all_goals
    unfold startR at e
    by_cases hi : i < ds.length
    · rw [List.getElem?_append_left (by simpa using hi), List.getElem?_map] at e
      obtain ⟨d, hd, e⟩ := Option.map_eq_some_iff.mp e
      cases e
    · rw [List.getElem?_append_right (by simpa using hi), List.getElem?_replicate] at e
      split at e <;> cases e
end
section
variable {P : Program} {w : World} {K : PySem.W.Frag} {mg : Str → Option Value} {base : Heap}
/-- THE RULE for a def over data -/
theorem fn_ok [Tbs] {x qual : Str} {st : Stmt} {f : Addr} {fd : FuncData} {N ps : List Str} {k : Nat} {g : Rho → Option Out} (F : Fun K x qual st f fd) (S : FnScope N ps (defScope st))
    (hb : ∀ (cdv : Value) (A : Around) (outer : List Env) (s : Shared) (H : Hp) (E : XK), Room k (A.deeper (envOfC qual (defScope st) s.heap.objs.size f cdv)) → PSDs (cxOf CX0 P w K mg base N qual (defScope st) f cdv A outer s H E).nox (defBody st) g) :
    FnOk P w K mg base CX0 (k + 1) f fd ps (spD K ps.length (fnD N.length g)) := by
  refine F.ok S (fun vs H Q E ⟨B, ds, d, h1, h2, h3, _⟩ => by rw [dpAll_len h2, h3]) (fun cdv A outer s H vs Q E hr ⟨B, ds, d, h1, h2, h3, h4, q⟩ => ?_)
  refine ⟨_, hb cdv A outer s H E hr, B, H, startR N.length ds, ?_⟩
  unfold fnD retD at h4
  split at h4
  · rename_i o ρ' e
    cases h4
    exact ⟨_, ⟨B, Tr.refl h1.s, sl_start h1 h2⟩, e, fun v σ' B' H' t _ dd => q v B' H' t dd⟩
  · rename_i o ρ e
    cases h4
    exact ⟨_, ⟨B, Tr.refl h1.s, sl_start h1 h2⟩, e, fun σ' H' ⟨B', t, _⟩ => q .non B' H' t .non⟩
  · cases h4
theorem no_fn [Tbs] {n k : Nat} {f : Addr} {fd : FuncData} {ps : List Str} : FnOk P w K mg base CX0 k f fd ps (spD K n fun _ => none) := by
  have no : ∀ vs H Q E, ¬ spD K n (fun _ => none) vs H Q E := fun vs H Q E ⟨B, ds, d, h1, h2, h3, h4, _⟩ => nomatch h4
  exact ⟨fun vs H Q E h => absurd h (no vs H Q E), fun A outer s H args us vs Q E _ _ _ _ h => absurd h (no vs H Q E)⟩
end
section
variable {X : Cx} {k n : Nat} {f : Addr} {fd : FuncData} {ps : List Str} {x : Str} {p pos : Pos} {e : Expr} {es : List Expr} {fs : Rho → Option (List PyData)} {F : List PyData → Option PyData}
def fCa (n : Nat) (F : List PyData → Option PyData) (fs : Rho → Option (List PyData)) : Rho → Option PyData := fun ρ => (fs ρ).bind fun ds => if ds.length = n then F ds else none
theorem pd_call [Tbs] (G : FnOk X.prog X.w X.K X.mg X.base CX0 k f fd ps (spD X.K n F)) (hr : Room k X.A) (hm : X.mg x = some (.ref f)) (hk : PySem.W.keepIn X.K (.ref f) = true) (hb : Binds X.K fd ps []) (ha : PDA X (e :: es) fs) (hg : Gl X x := by rfl) (hdb : (x == ("__debug__" : Str)) = false := by decide) (he : starEach (e :: es) X.env = (false, eval e X.env) :: starEach es X.env := by rfl) (hpl : (backTo pos (starEach es X.env)).any (·.1) = false := by rfl) : PD X (.Call (.Name x p) (e :: es) [] pos) (fCa n F fs):= pe_imp (pe_call (E := E0) G hr hg hm hk hb .nil pass0 ha hdb he hpl) fun σ H Q ⟨H0, B, ρ, d, s, hf, q⟩ => by
  obtain ⟨ds, hds, hf⟩ := bind_some hf
  split at hf
  · rename_i hl
    refine ⟨H0, B, ρ, ds, s, hds, fun vs B1 H1 t1 d1 => ?_⟩
    show spD X.K n F (vs ++ []) H1 Q E0
    rw [List.append_nil]
    exact ⟨B1, ds, d, (s.tr t1).bs, d1, hl, hf, fun v B' H' t dd => q v B' H' (t1.trans t) dd⟩
  · cases hf
end
end Dn

namespace Dn
open PySem L2 PySem.Spec PyProof.Rows
/-- a def that is known by what it is worth: k its level, n how many arguments -/
structure Kn [Tbs] (P : Program) (w : World) (K : PySem.W.Frag) (mg : Str → Option Value) (base : Heap) (k n : Nat) (x : Str) (F : List PyData → Option PyData) : Prop where
  ex : ∃ f fd ps, FnOk P w K mg base CX0 k f fd ps (spD K n F) ∧ mg x = some (.ref f) ∧ PySem.W.keepIn K (.ref f) = true ∧ L2.Binds K fd ps []
/-- a def as it stands behind the top -/
structure Df (K : PySem.W.Frag) (mg : Str → Option Value) (x : Str) (st : Stmt) (ps : List Str) : Prop where
  ex : ∃ f fd, Fun K x x st f fd ∧ mg x = some (.ref f) ∧ L2.Binds K fd ps []
section
variable {P : Program} {w : World} {K : PySem.W.Frag} {mg : Str → Option Value} {base : Heap} {x : Str} {st : Stmt}
theorem Kn.mono [Tbs] {j k n : Nat} {F : List PyData → Option PyData} (h : Kn P w K mg base j n x F) (l : j ≤ k) : Kn P w K mg base k n x F := by
  obtain ⟨f, fd, ps, a, b⟩ := h.ex
  exact ⟨f, fd, ps, a.mono l, b⟩
theorem Kn.none [Tbs] (D : Df K mg x st ps) {k n : Nat} : Kn P w K mg base k n x fun _ => .none := by
  obtain ⟨f, fd, F, m, b⟩ := D.ex
  exact ⟨f, fd, ps, no_fn, m, F.kp, b⟩
theorem kn_of [Tbs] {N ps : List Str} {k : Nat} {g : Rho → Option Out} (D : Df K mg x st ps) (S : FnScope N ps (defScope st))
    (hb : ∀ (f : Addr) (cdv : Value) (A : Around) (outer : List Env) (s : Shared) (H : Hp) (E : XK), Room k (A.deeper (envOfC x (defScope st) s.heap.objs.size f cdv)) → PSDs (cxOf CX0 P w K mg base N x (defScope st) f cdv A outer s H E).nox (defBody st) g) :
    Kn P w K mg base (k + 1) ps.length x (fnD N.length g) := by
  obtain ⟨f, fd, F, m, b⟩ := D.ex
  exact ⟨f, fd, ps, fn_ok F S (hb f), m, F.kp, b⟩
theorem df_mk {h : Heap} (X : K.In h) (G : h.Ns mainGlobals mg) {ps : List Str} {f : Addr} {oc : Value} {od an : Option Addr} {osl : Array (Option Value)} {kV doc pm cdv ct : Value}
    (a : PySem.W.nsIn K mainGlobals x = some (some (.ref f))) (l : K.lookup f = some ⟨oc, od, .func (PySem.W.fnOf x x (defArgs st) (defBody st) (defScope st) .none kV doc pm an cdv ct), osl⟩)
    (c : PySem.W.codeIn K cdv x = true) (k : PySem.W.keepIn K (.ref f) = true)
    (hb : ∀ (kV doc pm : Value) (an : Option Addr) (cdv ct : Value) (us : List Value), us.length = ps.length → bindArgs (PySem.W.fnOf x x (defArgs st) (defBody st) (defScope st) .none kV doc pm an cdv ct) ⟨us, []⟩ = pure (ps.zip us)) : Df K mg x st ps := by
  have F := fun_mk (st := st) l c k
  exact ⟨f, _, F, PySem.W.mg_of X G a, F.binds hb⟩
end
section
variable {X : Cx} {k n : Nat} {x : Str} {p pos : Pos} {e : Expr} {es : List Expr} {fs : Rho → Option (List PyData)} {F : List PyData → Option PyData}
theorem pd_kn [Tbs] (h : Kn X.prog X.w X.K X.mg X.base k n x F) (hr : Room k X.A) (ha : PDA X (e :: es) fs) (hg : Gl X x := by rfl) (hdb : (x == ("__debug__" : Str)) = false := by decide) (he : starEach (e :: es) X.env = (false, eval e X.env) :: starEach es X.env := by rfl) (hpl : (backTo pos (starEach es X.env)).any (·.1) = false := by rfl) : PD X (.Call (.Name x p) (e :: es) [] pos) (fCa n F fs):= by
  obtain ⟨f, fd, ps, a, b, c, d⟩ := h.ex
  exact pd_call a hr b c d ha hg hdb he hpl
theorem units65 {A : Around} (r : Room k A) : A.units + 65 < cLine := by have := r.un; omega
theorem psd_retN [Tbs] : PSD X (.Return none pos) (gRet (fC .none)) := ps_imp ps_retN fun D σ H ⟨B0, H0, ρ, o, ⟨B, t, s⟩, hf, q⟩ => by
  cases hf
  exact q .non σ B H t s .non
theorem psd_setLc [Tbs] {vs : List Nat} {i : Nat} {y : Str} {py : Pos} {elt tg iter : Expr} {ifs : List Expr} {scope : Scope} {own : List (Str × Nat)} {spos : Pos} {fi : Rho → Option (List PyData)} {g : TG} {bd : PyData → Rho → Option Rho} {is : List Nat} {t : Rho → Option Bool} {f : Rho → Option PyData}
    (hgd : GD X.K g bd is) (hv : ∀ i ∈ is, i ∈ vs) (hc : X.calm = true) (hN : X.N.Nodup) (hy : X.N[i]? = some y) (hyl : X.env.scope.names.lookup y = some .local)
    (hsw : swapsWith (.ListComp elt [⟨tg, iter, ifs, 0⟩] scope pos) (some (.Name y py)) spos.line X.env = pure true) (hi : PDI X tg iter fi) (ok : BlkOk X.N X.env.scope scope own)
    (hg : ∀ (s : Shared) (H : Hp) (C : Addr) (cl : List (Str × Addr)) (fp : List Addr), PG (X.blk s H scope (compEnvC scope cl C X.env) fp) tg g) (ht : ∀ (s : Shared) (H : Hp) (C : Addr) (cl : List (Str × Addr)) (fp : List Addr), PDTs (X.blk s H scope (compEnvC scope cl C X.env) fp) ifs t)
    (he : ∀ (s : Shared) (H : Hp) (C : Addr) (cl : List (Str × Addr)) (fp : List Addr), PD (X.blk s H scope (compEnvC scope cl C X.env) fp) elt f) (hw : own.map (·.2) = vs := by rfl) (hs : ∀ x, foldedSetIterable iter X.env x = pure x := by intro _; rfl) :
    PSD X (.Assign [.Name y py] (.ListComp elt [⟨tg, iter, ifs, 0⟩] scope pos) spos) (gSet i (fLc fi bd t f vs)) := by
  subst hw
  exact psd_asg (ps_imp (ps_setLc hc hN hy hyl hsw hi ok hg ht he hs) fun D σ H h => lc_imp hgd hv σ H _ h)
/-- reading a list that may still grow: its length, an item of it -/
theorem rc_own [Tbs] {r : List V → Hp → VK → Prop} {g : PyData → Option PyData} {i : Nat} (hr : RC X.K r (one1 g)) : ∀ σ H Q, tD X.K (fun ρ => (fOwn i ρ).bind fun x => (g x).bind fun z => if flatD z = true then some z else none) σ H Q → tCB r (tCons (tVar i) tNil) σ H Q := fun σ H Q ⟨H0, B, ρ, d, s, hf, q⟩ => by
  obtain ⟨x, hx, hf⟩ := bind_some hf
  obtain ⟨z, hz, hf⟩ := bind_some hf
  obtain ⟨hfl, rfl⟩ := ite_some hf
  obtain ⟨w, e1, e2⟩ := own_read s hx
  refine ⟨w, e1, hr H H [w] [x] z Q (Same.refl _) (.cons e2 .nil) hz fun u B2 H2 t2 d2 => q u B H2 ⟨Same.refl _, s.bh.trans (t2.b.trans t2.t), t2.h, id, fun c o e1 e2 => by rw [e2] at e1; cases e1⟩ (flat_dp d2 hfl)⟩
end
end Dn

namespace Dn
open PySem L2 PySem.Spec PyProof.Rows
/-! ### lists that change: an item stored, an item read -/
section
variable {K : PySem.W.Frag} {H0 B H : Hp} {ρ : Rho} {σ : L2.St}
theorem dpAll_set [Tbs] {vs : List V} {ds : List PyData} (h : DqAll K H vs ds) {v : V} {d : PyData} (hv : Dq K H v d) : ∀ j : Nat, DqAll K H (vs.set j v) (ds.set j d) := by
  induction vs generalizing ds with
  | nil => intro j; cases h; exact .nil
  | cons w vs ih =>
    intro j
    cases h with
    | cons a b =>
      cases j with
      | zero => exact .cons hv b
      | succ j => exact .cons a (ih b j)
variable {X : Cx} {st : Stmt} {e a b : Expr} {es : List Expr} {pos : Pos} {f g : Rho → Option PyData}
/-- x[e] = y, x knows its list alone -/
def gSeti (i : Nat) (f g : Rho → Option PyData) : Rho → Option Out := fun ρ => match ρ[i]? with
  | some (some (.own o xs)) => (f ρ).bind fun y => (g ρ).bind fun k => match k with
    | .int n => (ixN xs.length n).map fun j => .nx (ρ.set i (some (.own o (xs.set j y))))
    | _ => none
  | _ => none
theorem psd_seti [Tbs] {i : Nat} (h : PS X st (tAsg (tD X.K f) (gSub (tVar i) (tD X.K g) rSetL))) : PSD X st (gSeti i f g) := ps_imp h fun D σ H ⟨B0, H0, ρ, o, ⟨B, t, s⟩, hf, q⟩ => by
  unfold gSeti at hf
  split at hf
  · rename_i ow xs hx
    obtain ⟨y, hy, hf⟩ := bind_some hf
    obtain ⟨k, hk, hf⟩ := bind_some hf
    split at hf
    · rename_i n
      obtain ⟨j, hj, rfl⟩ := Option.map_eq_some_iff.mp hf
      refine ⟨H0, B, ρ, y, s, hy, fun v B1 H1 t1 d1 => ?_⟩
      have s1 := s.tr t1
      obtain ⟨p, vs, h1, h2, h3, h4, h5, h6⟩ := s1.ow hx
      refine ⟨.ref p, h1, H0, B1, ρ, _, s1, hk, fun w B2 H2 t2 d2 => ?_⟩
      cases d2
      have s2 := s1.tr t2
      have hb := t2.stay h2 h4
      refine ⟨p, vs, n, j, rfl, rfl, t2.h.l h4, by rw [dpAll_len h5]; exact hj, ?_⟩
      exact q _ _ ⟨B2, ((t.trans t1).trans t2).put hb h3, sl_grow s2 hx h1 hb h3 (dpAll_set (dpAll_mono t2.b h5) (dp_mono t2.b d1) j) h6⟩
    · cases hf
  · cases hf
/-- x[e], x a list that may still change, the item flat -/
def fIxO (i : Nat) (g : Rho → Option PyData) : Rho → Option PyData := fun ρ => (fOwn i ρ).bind fun x => (g ρ).bind fun y => (ixD x y).bind fun z => if flatD z = true then some z else none
theorem pd_ixO [Tbs] {i : Nat} (ha : PE X a (tVar i)) (hb : PD X b g) (hs : PlainIx b) : PD X (.Subscript a b pos) (fIxO i g) := pe_imp (pe_ix ix_seq ha hb hs) fun σ H Q ⟨H0, B, ρ, d, s, hf, q⟩ => by
  obtain ⟨x, hx, hf⟩ := bind_some hf
  obtain ⟨y, hy, hf⟩ := bind_some hf
  obtain ⟨z, hz, hf⟩ := bind_some hf
  obtain ⟨hfl, rfl⟩ := ite_some hf
  obtain ⟨w, e1, e2⟩ := own_read s hx
  refine ⟨w, e1, H0, B, ρ, y, s, hy, fun v B1 H1 t1 d1 => ?_⟩
  exact rd_ix H1 H1 w v x y z Q (Same.refl _) (dp_gw t1.h e2) (dp_mono t1.t d1) hz fun u B2 H2 t2 d2 => q u B1 H2 (t1.trans ⟨Same.refl _, t1.t.trans (t2.b.trans t2.t), t2.h, id, fun c o e1 e2 => by rw [e2] at e1; cases e1⟩) (flat_dp d2 hfl)

/-! ### expressions that change a slot's list -/
structure TrX (H0 B H B' H' : Hp) : Prop where
  b : Same B B'
  t : Same B' H'
  n : NT B → NT B'
  h : Gw H0 H → Gw H0 H' ∧ ∀ a o, B' a = some o → B a = none → H0 a = none
theorem TrX.of {H0 B H B' H' : Hp} (t : Tr B H B' H') : TrX H0 B H B' H' := ⟨t.b, t.t, t.n, fun s => ⟨s.trans t.h, fun a o x y => s.free (t.f a o x y)⟩⟩
theorem TrX.trans {H0 B H B1 H1 B2 H2 : Hp} (p : TrX H0 B H B1 H1) (q : TrX H0 B1 H1 B2 H2) : TrX H0 B H B2 H2 := ⟨p.b.trans q.b, q.t, fun z => q.n (p.n z), fun s => by
  obtain ⟨p1, p2⟩ := p.h s
  obtain ⟨q1, q2⟩ := q.h p1
  refine ⟨q1, fun a o x y => ?_⟩
  cases e : B1 a with
  | none => exact q2 a o x e
  | some u => exact p2 a u e y⟩
theorem Tr.cell {B0 H0 B H B' H' : Hp} (t : Tr B0 H0 B H) (x : TrX H0 B H B' H') : Tr B0 H0 B' H' := by
  obtain ⟨p1, p2⟩ := x.h t.h
  refine ⟨t.b.trans x.b, x.t, p1, fun z => x.n (t.n z), fun a o u y => ?_⟩
  cases e : B a with
  | none => exact p2 a o u e
  | some w => exact t.f a w e y
def tDE [Tbs] (K : PySem.W.Frag) (f : Rho → Option (PyData × Rho)) : TE := fun σ H Q => ∃ H0 B ρ d ρ', Sl K H0 B ρ σ H ∧ f ρ = some (d, ρ') ∧ ∀ v B' H', TrX H0 B H B' H' → Sl K H0 B' ρ' σ H' → Dq K B' v d → Q v H'
def tDAE [Tbs] (K : PySem.W.Frag) (f : Rho → Option (List PyData × Rho)) : TA := fun σ H Q => ∃ H0 B ρ d ρ', Sl K H0 B ρ σ H ∧ f ρ = some (d, ρ') ∧ ∀ v B' H', TrX H0 B H B' H' → Sl K H0 B' ρ' σ H' → DqAll K B' v d → Q v H'
abbrev PDE [Tbs] (X : Cx) (e : Expr) (f : Rho → Option (PyData × Rho)) : Prop := PE X e (tDE X.K f)
abbrev PDAE [Tbs] (X : Cx) (es : List Expr) (f : Rho → Option (List PyData × Rho)) : Prop := PA X es (tDAE X.K f)
variable {fe : Rho → Option (PyData × Rho)} {fa : Rho → Option (List PyData × Rho)} {fs : Rho → Option (List PyData)}
def fE1 (fe : Rho → Option (PyData × Rho)) (fs : Rho → Option (List PyData)) : Rho → Option (List PyData × Rho) := fun ρ => (fe ρ).bind fun p => (fs p.2).bind fun xs => some (p.1 :: xs, p.2)
theorem pdae_first [Tbs] (he : PDE X e fe) (hr : PDA X es fs) (hs : starEach (e :: es) X.env = (false, eval e X.env) :: starEach es X.env := by rfl) : PDAE X (e :: es) (fE1 fe fs) := pa_imp (pa_cons he hr hs) fun σ H Q ⟨H0, B, ρ, d, ρ', s, hf, q⟩ => by
  obtain ⟨⟨x, ρ1⟩, hx, hf⟩ := bind_some hf
  obtain ⟨xs, hxs, hf⟩ := bind_some hf
  cases hf
  refine ⟨H0, B, ρ, x, ρ1, s, hx, fun v B1 H1 t1 s1 d1 => ⟨H0, B1, ρ1, xs, s1, hxs, fun vs B2 H2 t2 d2 => ?_⟩⟩
  exact q _ B2 H2 (t1.trans (TrX.of t2)) (s1.tr t2) (.cons (dp_mono t2.b d1) d2)
def fE2 (f : Rho → Option PyData) (fa : Rho → Option (List PyData × Rho)) : Rho → Option (List PyData × Rho) := fun ρ => (f ρ).bind fun x => (fa ρ).bind fun p => some (x :: p.1, p.2)
theorem pdae_cons [Tbs] (he : PD X e f) (hr : PDAE X es fa) (hs : starEach (e :: es) X.env = (false, eval e X.env) :: starEach es X.env := by rfl) : PDAE X (e :: es) (fE2 f fa) := pa_imp (pa_cons he hr hs) fun σ H Q ⟨H0, B, ρ, d, ρ', s, hf, q⟩ => by
  obtain ⟨x, hx, hf⟩ := bind_some hf
  obtain ⟨⟨xs, ρ1⟩, hxs, hf⟩ := bind_some hf
  cases hf
  refine ⟨H0, B, ρ, x, s, hx, fun v B1 H1 t1 d1 => ⟨H0, B1, ρ, xs, ρ1, s.tr t1, hxs, fun vs B2 H2 t2 s2 d2 => ?_⟩⟩
  exact q _ B2 H2 ((TrX.of t1).trans t2) s2 (.cons (dp_mono t2.b d1) d2)
def fTupE (fa : Rho → Option (List PyData × Rho)) : Rho → Option (PyData × Rho) := fun ρ => (fa ρ).bind fun p => if p.1.length ≤ bigL then some (.tuple p.1, p.2) else none
theorem pde_tup [Tbs] {x1} (h : PDAE X es fa) : PDE X (.Tuple es x1 pos) (fTupE fa) := pe_imp (pe_tup h) fun σ H Q ⟨H0, B, ρ, d, ρ', s, hf, q⟩ => by
  obtain ⟨⟨xs, ρ1⟩, hxs, hf⟩ := bind_some hf
  obtain ⟨hl, e⟩ := ite_some hf
  cases e
  refine ⟨H0, B, ρ, xs, _, s, hxs, fun vs B1 H1 t1 s1 d1 => ⟨by rw [dpAll_len d1]; exact bigL_le hl, fun p hp => ?_⟩⟩
  have t2 := Tr.new (o := .tup vs) s1.bh hp
  exact q _ _ _ (t1.trans (TrX.of t2)) (s1.tr t2) (.tup (SqT.of upd_same) (dpAll_mono t2.b d1))
/-- a call of a def over data, one of its arguments changing a list -/
def fCaE (n : Nat) (F : List PyData → Option PyData) (fa : Rho → Option (List PyData × Rho)) : Rho → Option (PyData × Rho) := fun ρ => (fa ρ).bind fun p => if p.1.length = n then (F p.1).map fun d => (d, p.2) else none
theorem pde_kn [Tbs] {n k : Nat} {x : Str} {p : Pos} {F : List PyData → Option PyData} (h : Kn X.prog X.w X.K X.mg X.base k n x F) (hr : Room k X.A) (ha : PDAE X (e :: es) fa) (hg : Gl X x := by rfl) (hdb : (x == ("__debug__" : Str)) = false := by decide)
    (he : starEach (e :: es) X.env = (false, eval e X.env) :: starEach es X.env := by rfl) (hpl : (backTo pos (starEach es X.env)).any (·.1) = false := by rfl) : PDE X (.Call (.Name x p) (e :: es) [] pos) (fCaE n F fa) := by
  obtain ⟨f, fd, ps, G, hm, hk, hb⟩ := h.ex
  refine pe_imp (pe_call (E := E0) G hr hg hm hk hb .nil pass0 ha hdb he hpl) fun σ H Q ⟨H0, B, ρ, d, ρ', s, hf, q⟩ => ?_
  obtain ⟨⟨ds, ρ1⟩, hds, hf⟩ := bind_some hf
  split at hf
  · rename_i hl
    obtain ⟨r, hF, e⟩ := Option.map_eq_some_iff.mp hf
    cases e
    refine ⟨H0, B, ρ, ds, _, s, hds, fun vs B1 H1 t1 s1 d1 => ?_⟩
    show spD X.K n F (vs ++ []) H1 Q E0
    rw [List.append_nil]
    exact ⟨B1, ds, _, s1.bs, d1, hl, hF, fun v B' H' t dd => q v B' H' (t1.trans (TrX.of t)) (s1.tr t) dd⟩
  · cases hf
def gSetE (i : Nat) (fe : Rho → Option (PyData × Rho)) : Rho → Option Out := fun ρ => (fe ρ).map fun p => .nx (p.2.set i (some (.d p.1)))
theorem psd_asgE [Tbs] {i : Nat} (h : PS X st (tAsg (tDE X.K fe) (gName i))) : PSD X st (gSetE i fe) := ps_imp h fun D σ H ⟨B0, H0, ρ, o, ⟨B, t, s⟩, hf, q⟩ => by
  obtain ⟨⟨d, ρ1⟩, hd, rfl⟩ := Option.map_eq_some_iff.mp hf
  exact ⟨H0, B, ρ, d, ρ1, s, hd, fun v B1 H1 t1 s1 d1 => q _ _ ⟨B1, t.cell t1, sl_setD s1 d1⟩⟩
def gRetE (fe : Rho → Option (PyData × Rho)) : Rho → Option Out := fun ρ => (fe ρ).map fun p => .rt p.1 p.2
theorem psd_retE [Tbs] (he : PDE X e fe) : PSD X (.Return (some e) pos) (gRetE fe) := ps_imp (ps_ret he) fun D σ H ⟨B0, H0, ρ, o, ⟨B, t, s⟩, hf, q⟩ => by
  obtain ⟨⟨d, ρ1⟩, hd, rfl⟩ := Option.map_eq_some_iff.mp hf
  exact ⟨H0, B, ρ, d, ρ1, s, hd, fun v B1 H1 t1 s1 d1 => q v σ B1 H1 (t.cell t1) s1 d1⟩

/-! ### a def that changes the list that is its second argument -/
def rm (H : Hp) (a : Addr) : Hp := fun b => if b = a then none else H b
theorem rm_ne {H : Hp} {a b : Addr} (h : b ≠ a) : rm H a b = H b := by unfold rm; rw [if_neg h]
theorem rm_same {H : Hp} {a : Addr} : rm H a a = none := by unfold rm; rw [if_pos rfl]
theorem rm_le {H : Hp} {a : Addr} : Same (rm H a) H := fun b o e => by
  by_cases z : b = a
  · subst z; rw [rm_same] at e; cases e
  · rw [rm_ne z] at e; exact e
theorem same_rm {B H : Hp} {a : Addr} (s : Same B H) (h : B a = none) : Same B (rm H a) := fun b o e => by
  rw [rm_ne (ne_of_none e h)]
  exact s b o e
theorem Gw.rm {H0 H : Hp} {a : Addr} (s : Gw H0 H) (h0 : H0 a = none) : Gw H0 (rm H a) := ⟨fun c o e n => by rw [rm_ne (ne_of_none e h0)]; exact s.k c o e n, fun c ps e => by
  obtain ⟨m, e1, t⟩ := s.g c ps e
  exact ⟨m, by rw [rm_ne (ne_of_none e h0)]; exact e1, t⟩⟩
def spC [Tbs] (K : PySem.W.Frag) (n : Nat) (F : List PyData → List PyData → Option (PyData × List PyData)) : Sp := fun vs H Q _ => ∃ (B : Hp) (v0 : V) (a : Addr) (rest : List V) (ds xs : List PyData) (us : List V) (d : PyData) (xs' : List PyData),
  vs = v0 :: .ref a :: rest ∧ Bs B H ∧ B a = none ∧ H a = some (.lst us) ∧ DqAll K B us xs ∧ DqAll K B (v0 :: rest) ds ∧ ds.length + 1 = n ∧ F ds xs = some (d, xs') ∧
  ∀ v B' H' ws, Tr B (rm H a) B' H' → B' a = none → H' a = some (.lst ws) → DqAll K B' ws xs' → Dq K B' v d → Q v H'
def startC (n : Nat) (a : Addr) (ds xs : List PyData) : Rho := match ds with
  | [] => []
  | d :: r => some (.d d) :: some (.own (some a) xs) :: (r.map (fun d => some (.d d)) ++ List.replicate (n - (r.length + 2)) none)
def retC (a : Addr) : Option Out → Option (PyData × List PyData)
  | some (.rt d ρ) => match (ρ[1]? : Option (Option Sv)) with
    | some (some (.own (some b) xs)) => if b = a then some (d, xs) else none
    | _ => none
  | _ => none
theorem sl_startC [Tbs] {v0 : V} {a : Addr} {rest us : List V} {ds xs : List PyData} {N : List Str} (s : Bs B H) (hb : B a = none) (ha : H a = some (.lst us)) (hx : DqAll K B us xs) (h : DqAll K B (v0 :: rest) ds) :
    Sl K (rm H a) B (startC N.length a ds xs) (L2.start N (v0 :: .ref a :: rest)) H := by
  cases h with
  | @cons _ _ d r h1 h2 =>
    have hl := dpAll_len h2
    have hN : L2.start N (v0 :: .ref a :: rest) = some v0 :: some (.ref a) :: (rest.map some ++ List.replicate (N.length - (rest.length + 2)) none) := rfl
    rw [hN]
    have own1 : ∀ {i : Nat} {o : Option Addr} {ys : List PyData}, (startC N.length a (d :: r) xs)[i]? = some (some (.own o ys)) → i = 1 ∧ o = some a ∧ ys = xs := by
      intro i o ys e
      unfold startC at e
      match i, e with
      | 0, e => cases e
      | 1, e => cases e; exact ⟨rfl, rfl, rfl⟩
      | i + 2, e =>
        simp only [List.getElem?_cons_succ] at e
        by_cases hi : i < r.length
        · rw [List.getElem?_append_left (by simpa using hi), List.getElem?_map] at e
          obtain ⟨d', hd, e⟩ := Option.map_eq_some_iff.mp e
          cases e
        · rw [List.getElem?_append_right (by simpa using hi), List.getElem?_replicate] at e
          split at e <;> cases e
    refine ⟨s.s, s.nt, s.tb, by simp [startC, hl], fun {i x} e => ?_, fun {i o ys} e => ?_, fun {i j o o' ys zs c} e e' _ _ => ?_, fun i a n fs e => ?_⟩
    · unfold startC at e
      match i, e with
      | 0, e => cases e; exact ⟨v0, rfl, h1⟩
      | 1, e => cases e
      | i + 2, e =>
        simp only [List.getElem?_cons_succ] at e ⊢
        by_cases hi : i < r.length
        · rw [List.getElem?_append_left (by simpa using hi), List.getElem?_map] at e
          obtain ⟨d', hd, e⟩ := Option.map_eq_some_iff.mp e
          cases e
          obtain ⟨v, hv, hdv⟩ := dpAll_get h2 hd
          refine ⟨v, ?_, hdv⟩
          rw [List.getElem?_append_left (by simpa [hl] using hi), List.getElem?_map, hv]
          rfl
        · rw [List.getElem?_append_right (by simpa using hi), List.getElem?_replicate] at e
          split at e <;> cases e
    · obtain ⟨rfl, rfl, rfl⟩ := own1 e
      exact ⟨a, us, rfl, hb, rm_same, ha, hx, fun b e => Option.some.inj e⟩
    · rw [(own1 e).1, (own1 e').1]
    · unfold startC at e
      match i, e with
      | 0, e => cases e
      | 1, e => cases e
      | i + 2, e =>
        simp only [List.getElem?_cons_succ] at e
        by_cases hi : i < r.length
        · rw [List.getElem?_append_left (by simpa using hi), List.getElem?_map] at e
          obtain ⟨d', hd, e⟩ := Option.map_eq_some_iff.mp e
          cases e
        · rw [List.getElem?_append_right (by simpa using hi), List.getElem?_replicate] at e
          split at e <;> cases e
structure KnC [Tbs] (P : Program) (w : World) (K : PySem.W.Frag) (mg : Str → Option Value) (base : Heap) (k n : Nat) (x : Str) (F : List PyData → List PyData → Option (PyData × List PyData)) : Prop where
  ex : ∃ f fd ps, FnOk P w K mg base CX0 k f fd ps (spC K n F) ∧ mg x = some (.ref f) ∧ PySem.W.keepIn K (.ref f) = true ∧ L2.Binds K fd ps []
end
section
variable {P : Program} {w : World} {K : PySem.W.Frag} {mg : Str → Option Value} {base : Heap} {x : Str} {st : Stmt} {F : List PyData → List PyData → Option (PyData × List PyData)}
theorem KnC.mono [Tbs] {j k n : Nat} (h : KnC P w K mg base j n x F) (l : j ≤ k) : KnC P w K mg base k n x F := by
  obtain ⟨f, fd, ps, a, b⟩ := h.ex
  exact ⟨f, fd, ps, a.mono l, b⟩
theorem KnC.none [Tbs] {ps : List Str} (D : Df K mg x st ps) {k n : Nat} : KnC P w K mg base k n x fun _ _ => .none := by
  obtain ⟨f, fd, Fu, m, b⟩ := D.ex
  have no : ∀ vs H Q E, ¬ spC K n (fun _ _ => Option.none) vs H Q E := fun vs H Q E ⟨_, _, _, _, _, _, _, _, _, _, _, _, _, _, _, _, h, _⟩ => nomatch h
  exact ⟨f, fd, ps, ⟨fun vs H Q E h => absurd h (no vs H Q E), fun A outer s H args us vs Q E _ _ _ _ h => absurd h (no vs H Q E)⟩, m, Fu.kp, b⟩
theorem knC_of [Tbs] {N ps : List Str} {k : Nat} {g : Rho → Option Out} (D : Df K mg x st ps) (S : FnScope N ps (defScope st)) (hF : ∀ a ds xs r, ds.length + 1 = ps.length → F ds xs = some r → retC a (g (startC N.length a ds xs)) = some r)
    (hb : ∀ (f : Addr) (cdv : Value) (A : Around) (outer : List Env) (s : Shared) (H : Hp) (E : XK), Room k (A.deeper (envOfC x (defScope st) s.heap.objs.size f cdv)) → PSDs (cxOf CX0 P w K mg base N x (defScope st) f cdv A outer s H E).nox (defBody st) g) :
    KnC P w K mg base (k + 1) ps.length x F := by
  obtain ⟨f, fd, Fu, m, b⟩ := D.ex
  refine ⟨f, fd, ps, Fu.ok S (fun vs H Q E ⟨B, v0, a, rest, ds, xs, us, d, xs', e, _, _, _, _, h5, h6, _⟩ => ?_) (fun cdv A outer s H vs Q E hr ⟨B, v0, a, rest, ds, xs, us, d, xs', e, h1, h2, h3, h4, h5, h6, h7, q⟩ => ?_), m, Fu.kp, b⟩
  · rw [e, ← h6, ← dpAll_len h5]; rfl
  · subst e
    refine ⟨_, hb f cdv A outer s H E hr, B, rm H a, startC N.length a ds xs, ?_⟩
    have h8 := hF a ds xs _ h6 h7
    unfold retC at h8
    split at h8
    · rename_i o d1 ρ1 e1
      split at h8
      · rename_i b1 ys e2
        obtain ⟨rfl, e3⟩ := ite_some h8
        cases e3
        refine ⟨_, ⟨B, ⟨Same.refl _, h1.s, .of rm_le, id, fun c o e1 e2 => by rw [e2] at e1; cases e1⟩, ?_⟩, e1, fun v σ' B' H' t s' dd => ?_⟩
        · exact sl_startC h1 h2 h3 h4 h5
        · obtain ⟨c, ws, z1, z2, z3, z4, z5, z6⟩ := s'.ow e2
          have := z6 _ rfl
          subst this
          exact q v B' H' ws t z2 z4 z5 dd
      · cases h8
    · cases h8
end
section
variable {X : Cx} {k n : Nat} {x : Str} {p pos : Pos} {e es0 : Expr} {es : List Expr} {f : Rho → Option PyData} {fs : Rho → Option (List PyData)} {F : List PyData → List PyData → Option (PyData × List PyData)}
def fCaC (n : Nat) (F : List PyData → List PyData → Option (PyData × List PyData)) (j : Nat) (f : Rho → Option PyData) (fs : Rho → Option (List PyData)) : Rho → Option (PyData × Rho) := fun ρ => (f ρ).bind fun d0 => (fs ρ).bind fun ds => match ρ[j]? with
  | some (some (.own o xs)) => if ds.length + 2 = n then (F (d0 :: ds) xs).map fun p => (p.1, ρ.set j (some (.own o p.2))) else none
  | _ => none
theorem sl_cell [Tbs] {K : PySem.W.Frag} {H0 B H B' H' : Hp} {ρ : Rho} {σ : L2.St} (s : Sl K H0 B ρ σ H) {j : Nat} {a : Addr} {o : Option Addr} {xs ys : List PyData} {ws : List V} (hx : ρ[j]? = some (some (.own o xs))) (h1 : σ[j]? = some (some (V.ref a)))
    (h0 : H0 a = none) (t : Tr B (rm H a) B' H') (hb : B' a = none) (ha : H' a = some (.lst ws)) (hd : DqAll K B' ws ys) (ho : ∀ b, o = some b → a = b) : Sl K H0 B' (ρ.set j (some (.own o ys))) σ H' := by
  refine ⟨t.t, t.n s.nt, fun P hP => ?_, by simp [s.len], fun {i y} e => ?_, fun {i oi us} e => ?_, fun {i m oi om us vs c} e1 e2 e3 e4 => ?_, (s.ob.setR fun _ _ _ z => by cases z).go t.b fun c C dx vs e1 _ e2 => ?_⟩
  · obtain ⟨a', us', z1, _, _, z4, _⟩ := s.ow hx
    rw [h1] at z1; cases z1
    obtain ⟨ps, e, h⟩ := s.tb P hP
    exact t.h.tab ⟨ps, by rw [rm_ne (fun z => by rw [z, z4] at e; cases e)]; exact e, h⟩
  · rcases get_set e with ⟨_, _, z⟩ | ⟨_, e⟩
    · cases z
    · obtain ⟨v, e1, e2⟩ := s.dv e
      exact ⟨v, e1, dp_mono t.b e2⟩
  · rcases get_set e with ⟨rfl, _, z⟩ | ⟨n, e⟩
    · cases z; exact ⟨a, ws, h1, hb, h0, ha, hd, ho⟩
    · obtain ⟨c, vs, e1, e2, e3, e4, e5, e6⟩ := s.ow e
      have hne : c ≠ a := fun z => by subst z; exact n (s.ap hx e h1 e1)
      have hr : rm H a c = some (.lst vs) := by rw [rm_ne hne]; exact e4
      exact ⟨c, vs, e1, t.stay e2 hr, e3, t.h.l hr, dpAll_mono t.b e5, e6⟩
  · have f1 : ∃ o' us', ρ[i]? = some (some (.own o' us')) := by
      rcases get_set e1 with ⟨rfl, _, _⟩ | ⟨_, e⟩
      · exact ⟨_, _, hx⟩
      · exact ⟨_, _, e⟩
    have f2 : ∃ o' us', ρ[m]? = some (some (.own o' us')) := by
      rcases get_set e2 with ⟨rfl, _, _⟩ | ⟨_, e⟩
      · exact ⟨_, _, hx⟩
      · exact ⟨_, _, e⟩
    obtain ⟨_, _, f1⟩ := f1
    obtain ⟨_, _, f2⟩ := f2
    exact s.ap f1 f2 e3 e4
  · have hne : c ≠ a := fun z => by
      subst z
      obtain ⟨a', us', z1, _, _, z4, _⟩ := s.ow hx
      rw [h1] at z1; cases z1
      rw [e2] at z4; cases z4
    have hr : rm H a c = some (.ins C dx vs) := by rw [rm_ne hne]; exact e2
    exact ⟨t.stay e1 hr, t.h.k c _ hr (fun ps z => by cases z)⟩
theorem trX_cell {H0 B H B' H' : Hp} {a : Addr} (h0 : H0 a = none) (t : Tr B (rm H a) B' H') (hb : B' a = none) : TrX H0 B H B' H' := ⟨t.b, t.t, t.n, fun s => ⟨(s.rm h0).trans t.h, fun c o e1 e2 => by
  have z := t.f c o e1 e2
  have hne : c ≠ a := fun w => by subst w; rw [hb] at e1; cases e1
  rw [rm_ne hne] at z
  exact s.free z⟩⟩
theorem pde_knC [Tbs] {j : Nat} (h : KnC X.prog X.w X.K X.mg X.base k n x F) (hr : Room k X.A) (h0 : PD X e f) (hj : PE X es0 (tVar j)) (ha : PDA X es fs) (hg : Gl X x := by rfl) (hdb : (x == ("__debug__" : Str)) = false := by decide)
    (he : starEach (e :: es0 :: es) X.env = (false, eval e X.env) :: starEach (es0 :: es) X.env := by rfl) (he2 : starEach (es0 :: es) X.env = (false, eval es0 X.env) :: starEach es X.env := by rfl) (hpl : (backTo pos (starEach (es0 :: es) X.env)).any (·.1) = false := by rfl) :
    PDE X (.Call (.Name x p) (e :: es0 :: es) [] pos) (fCaC n F j f fs) := by
  obtain ⟨fa, fd, ps, G, hm, hk, hb⟩ := h.ex
  refine pe_imp (pe_call (E := E0) G hr hg hm hk hb .nil pass0 (pa_cons h0 (pa_cons hj ha he2) he) hdb he hpl) fun σ H Q ⟨H0, B, ρ, d, ρ', s, hf, q⟩ => ?_
  obtain ⟨d0, hd0, hf⟩ := bind_some hf
  obtain ⟨ds, hds, hf⟩ := bind_some hf
  split at hf
  · rename_i o xs hx
    split at hf
    · rename_i hl
      obtain ⟨⟨r, xs'⟩, hF, e⟩ := Option.map_eq_some_iff.mp hf
      cases e
      refine ⟨H0, B, ρ, d0, s, hd0, fun v B1 H1 t1 d1 => ?_⟩
      have s1 := s.tr t1
      obtain ⟨a, us, z1, z2, z3, z4, z5, z6⟩ := s1.ow hx
      refine ⟨.ref a, z1, H0, B1, ρ, ds, s1, hds, fun vs B2 H2 t2 d2 => ?_⟩
      have s2 := s1.tr t2
      have hb2 := t2.stay z2 z4
      show spC X.K n F ((v :: V.ref a :: vs) ++ []) H2 Q E0
      rw [List.append_nil]
      refine ⟨B2, v, a, vs, d0 :: ds, xs, us, r, xs', rfl, s2.bs, hb2, t2.h.l z4, dpAll_mono t2.b z5, .cons (dp_mono t2.b d1) d2, hl, hF, fun u B' H' ws t hb' ha' dw du => ?_⟩
      exact q u B' H' ((TrX.of (t1.trans t2)).trans (trX_cell z3 t hb')) (sl_cell s2 hx z1 z3 t hb' ha' dw z6) du
    · cases hf
  · cases hf
end
end Dn

set_option maxHeartbeats 1000000
namespace Gx
open PySem L2 PySem.Spec PyProof.Rows GenW

/-- the turns: what is walked, the target, the tests, the element; Fin: at the end; Yd: an item is handed out, Nx what is to hold when it goes on -/
def Turns (J : It) (g : TG) (tt : TT) (te : TE) (σ0 : L2.St) (own : List Nat) (Fin : Hp → Prop) (Yd : V → Hp → (Hp → Prop) → Prop) (W : Nat → Nat → Hp → Prop) : Prop :=
  ∀ i m H, W i m H → (J.stop i H ∧ Fin H) ∨ (J.go i H ∧ ∃ Nx : Hp → Prop, (∀ H', Nx H' → ∃ m', m' < m ∧ W (i + 1) m' H') ∧ ∀ x H', J.yld i H x H' → g x σ0 H' fun σ2 H2 => wipe σ2 own = σ0 ∧ tt σ2 H2 fun b H3 =>
    if b = true then te σ2 H3 fun y H4 => Yd y H4 Nx else Nx H3)
/-- the generator rests -/
structure Rest (Z : Cx) (pl : List (Addr × Obj)) (σ0 : L2.St) (fp : List Addr) (tn : Nat → Heap → Prop) (g i : Nat) (H : Hp) (s : Shared) : Prop where
  inv : Inv Z pl σ0 H s
  tn : tn i s.heap
  fp : ∀ b ∈ fp, H b = none
  sz : g < s.gens.size
def PEnd (Z : Cx) (pl : List (Addr × Obj)) (σ0 : L2.St) (g : Nat) (Fin : Hp → Prop) : Nat → Shared → Shared → Prop := fun _ _ s₁ => ∃ H, Inv Z pl σ0 H s₁ ∧ g < s₁.gens.size ∧ Fin H
def YOut (Z : Cx) (pl : List (Addr × Obj)) (σ0 : L2.St) (fp : List Addr) (tn : Nat → Heap → Prop) (g : Nat) (Yd : V → Hp → (Hp → Prop) → Prop) (W : Nat → Nat → Hp → Prop) : Protocol := fun n _ v s kap =>
  ∃ i H y Nx m, RelV y v ∧ Rest Z pl σ0 fp tn g (i + 1) H s ∧ Yd y H Nx ∧ m ≤ n ∧ (∀ H', Nx H' → ∃ m', m' < m ∧ W (i + 1) m' H') ∧ ∀ H'' s'', Rest Z pl σ0 fp tn g (i + 1) H'' s'' → Nx H'' → kap (.send .none) s''

section
variable {X : Cx} {s4 : Shared} {H4 : Hp} {N' : List Str} {cenv : Env} {A2 : Around} {fp : List Addr} {a it : Addr} {ob : Obj} {tn : Nat → Heap → Prop} {σ0 : L2.St} {own : List Nat} {elt tg iter : Expr} {ifs : List Expr} {scope : Scope} {pos : Pos}
variable {J : It} {g : TG} {tt : TT} {te : TE} {Fin : Hp → Prop} {Yd : V → Hp → (Hp → Prop) → Prop} {W : Nat → Nat → Hp → Prop} {gn : Nat}
abbrev gcode (elt tg iter : Expr) (ifs : List Expr) (scope : Scope) (pos : Pos) (it : Addr) (cenv : Env) : Code := .compLoop (.GeneratorExp elt [⟨tg, iter, ifs, 0⟩] scope pos) 0 (.ref it) .none cenv
theorem stat {Z : Cx} {σ' : L2.St} {H' : Hp} {s' : Shared} {pl : List (Addr × Obj)} (hx : Z.ex = fp) (hp : ∀ p ∈ Z.pn ++ pl, p.1 ∉ fp) (I' : Inv Z pl σ' H' s') (hn : ∀ b ∈ fp, H' b = none) : ∀ b ∈ fp, FpOk Z pl H' b := fun b hb =>
  ⟨hn b hb, (I'.ok.exf b (by rw [hx]; exact hb)).1, I'.ok.exfs b (by rw [hx]; exact hb), .inl (by rw [hx]; exact hb), fun x c e => (I'.ok.exf b (by rw [hx]; exact hb)).2 x c e, fun p q z => hp p q (by rw [z]; exact hb)⟩
theorem seg_gl (hac : a ∉ fp) (T : Turn X.prog X.w X.K tg J fp it tn) (hco : cenv.scope.isCoroutine = false)
    (pg : PG (gcx X s4 H4 cenv N' (A2.over (gcode elt tg iter ifs scope pos it cenv) []) fp) tg g) (pt : PTs (gcx X s4 H4 cenv N' (A2.over (gcode elt tg iter ifs scope pos it cenv) []) fp) ifs tt) (pe : PE (gcx X s4 H4 cenv N' (A2.over (gcode elt tg iter ifs scope pos it cenv) []) fp) elt te)
    (turn : Turns J g tt te σ0 own Fin Yd W) :
    ∀ (m n i : Nat) (H : Hp) (s₀ s : Shared), m < n → W i m H → Rest (gcx X s4 H4 cenv N' (A2.over (gcode elt tg iter ifs scope pos it cenv) []) fp) [(a, ob)] σ0 fp tn gn i H s →
      Seg (model X.prog X.w) A2 (fun n s₀ r s₁ => r = .ok .next ∧ PEnd (gcx X s4 H4 cenv N' (A2.over (gcode elt tg iter ifs scope pos it cenv) []) fp) [(a, ob)] σ0 gn Fin n s₀ s₁)
        (YOut (gcx X s4 H4 cenv N' (A2.over (gcode elt tg iter ifs scope pos it cenv) []) fp) [(a, ob)] σ0 fp tn gn Yd W) n s₀ (gcode elt tg iter ifs scope pos it cenv) ((model X.prog X.w).den (gcode elt tg iter ifs scope pos it cenv)) [] s := by
  generalize hZ : gcx X s4 H4 cenv N' (A2.over (gcode elt tg iter ifs scope pos it cenv) []) fp = Z at pg pt pe ⊢
  have zx : Z.ex = fp := by rw [← hZ]
  have zp : ∀ p ∈ Z.pn ++ [(a, ob)], p.1 ∉ fp := fun p hp => by
    have : Z.pn = [] := by rw [← hZ]
    rw [this] at hp
    rcases List.mem_cons.mp hp with rfl | hp
    · exact hac
    · cases hp
  have zpr : Z.prog = X.prog := by rw [← hZ]
  have zw : Z.w = X.w := by rw [← hZ]
  have zK : Z.K = X.K := by rw [← hZ]
  have zc : Z.calm = true := by rw [← hZ]
  have zA : Z.A = A2.over (gcode elt tg iter ifs scope pos it cenv) [] := by rw [← hZ]
  have ze : Z.env = cenv := by rw [← hZ]
  have zxe : Z.xe = fun _ _ => False := by rw [← hZ]
  intro m
  induction m using Nat.strongRecOn with
  | ind m ih =>
  intro n i H s₀ s hmn w R
  obtain ⟨I, st, nf, hg⟩ := R
  show Seg _ A2 _ _ _ s₀ _ ((compTurn (.GeneratorExp elt [⟨tg, iter, ifs, 0⟩] scope pos) 0 (.ref it) .none cenv).onRaise (leaving cenv)) [] s
  rw [compTurn_gen, Sem.onRaise_eq_wrap]
  refine seg_bind_wrap (wpAny_standAt ?_)
  rcases turn i m H w with ⟨stop, fin⟩ | ⟨go, Nx, hNx, step⟩
  · have td := T.done Z zpr zw zK zc i _ s σ0 H (fun _ _ => False) I (stat zx zp I nf) st stop
    rw [zA] at td
    refine seg_bind_wrap (wpAny_gsz hg (thnF td fun r s1 hx hsz => ?_))
    obtain ⟨hr, I1⟩ := hx
    subst hr
    exact seg_end (.ok .next) ⟨rfl, H, I1, hsz, fin⟩
  · have ti := T.item Z zpr zw zK zc i _ s σ0 H (fun _ _ => False) I (stat zx zp I nf) st go
    rw [zA] at ti
    refine seg_bind_wrap (wpAny_gsz hg (thnF ti fun r s1 hx hsz1 => ?_))
    obtain ⟨u, hr, h1⟩ := hx
    subst hr
    refine seg_bind_wrap (wpAny_gsz hsz1 (thnF h1 fun _ s2 hx hsz2 => ?_))
    obtain ⟨x, H2, I2, r2, y2, st2, n2⟩ := hx
    have I2' := I2.pinned (stat zx zp I2 n2) (T.obj _ _ st2)
    have hpg := pg.run _ s2 σ0 H2 x u _ I2' r2 (step x H2 y2)
    rw [zA, ze, zpr, zw, zxe] at hpg
    refine seg_bind_wrap (wpAny_gsz hsz2 (thnF hpg fun _ s3 hx hsz3 => ?_))
    obtain ⟨σ3, H3, I3, hw3, q3⟩ := hx
    have hpt := pt.run _ s3 σ3 H3 _ I3 q3
    rw [zA, ze, zpr, zw, zxe] at hpt
    refine seg_bind_wrap (wpAny_gsz hsz3 (thnF hpt fun b s5 hx hsz5 => ?_))
    obtain ⟨H5, I5, q5⟩ := hx
    -- the turn's end
    have fin : ∀ {s' : Shared} {H' : Hp}, Inv Z ([(a, ob)] ++ pinsAt fp s2.heap) σ3 H' s' → gn < s'.gens.size → Rest Z [(a, ob)] σ0 fp tn gn (i + 1) H' s' := fun {s' H'} I' hz => by
      have pin' : ∀ b ∈ fp, ∀ o, s2.heap.get? b = some o → s'.heap.get? b = some o ∧ H' b = none := fun b hb o e =>
        let z := I'.pin (b, o) (List.mem_append_right _ (List.mem_append_right _ (mem_pinsAt hb e)))
        ⟨z.1, z.2.1⟩
      refine ⟨I'.unpinned.weak (by rw [← hw3, wipe_length]) (fun j v e => ?_), T.keep _ _ _ st2 fun b hb o e => (pin' b hb o e).1, fun b hb => ?_, hz⟩
      · rw [← hw3] at e
        exact (wipe_some e).1
      · obtain ⟨o, e, _⟩ := T.obj _ _ st2 b hb
        exact (pin' b hb o e).2
    cases b with
    | false =>
      simp only [Bool.false_eq_true, if_false] at q5 ⊢
      obtain ⟨m', hm, w'⟩ := hNx H5 q5
      exact seg_again rfl (ih m' hm n (i + 1) H5 s₀ s5 (by omega) w' (fin I5 hsz5))
    | true =>
      simp only [if_true] at q5 ⊢
      have hy : ∀ v, yieldOut cenv v = yieldValue v := fun v => by simp only [yieldOut, hco, Bool.false_eq_true, if_false]
      simp only [hy]
      rw [Sem.bind_eq_wrap', Sem.bind_eq_wrap', Sem.wrap_wrap, Sem.wrap_wrap]
      have hpe := pe.run _ s5 σ3 H5 _ I5 q5
      rw [zA, ze, zpr, zw, zxe] at hpe
      refine seg_wrap (wpAny_gsz hsz5 (thnF hpe fun v s6 hx hsz6 => ?_))
      obtain ⟨y, H6, I6, r6, q6⟩ := hx
      obtain ⟨n', rfl⟩ : ∃ k, n = k + 1 := ⟨n - 1, by omega⟩
      refine seg_at (seg_yield rfl rfl rfl ⟨i, H6, y, Nx, m, r6, fin I6 hsz6, q6, by omega, hNx, fun H'' s'' R'' nx => ?_⟩)
      obtain ⟨m', hm, w'⟩ := hNx H'' nx
      exact seg_again rfl (ih m' hm n' (i + 1) H'' s'' s'' (by omega) w' R'')
end
end Gx

set_option maxHeartbeats 1000000
namespace Gx
open PySem L2 PySem.Spec PyProof.Rows GenW

section
variable {X : Cx} {s4 : Shared} {H4 : Hp} {N' : List Str} {cenv : Env} {A2 : Around} {fp : List Addr} {a it : Addr} {ob : Obj} {tn : Nat → Heap → Prop} {σ0 : L2.St} {own : List Nat} {elt tg iter : Expr} {ifs : List Expr} {scope : Scope} {pos : Pos}
variable {J : It} {g : TG} {tt : TT} {te : TE} {Fin : Hp → Prop} {Yd : V → Hp → (Hp → Prop) → Prop} {W : Nat → Nat → Hp → Prop} {gn : Nat}
abbrev scode (elt tg iter : Expr) (ifs : List Expr) (scope : Scope) (pos : Pos) (it : Addr) (cenv : Env) : Code := .compStart (.GeneratorExp elt [⟨tg, iter, ifs, 0⟩] scope pos) 0 (.ref it) .none cenv
/-- the segment's start, from that of its loop -/
theorem seg_gs {R : GenEnd} {Y : Protocol} {n : Nat} {s₀ s : Shared} (T : Turn X.prog X.w X.K tg J fp it tn) (st : tn 0 s.heap)
    (loop : Seg (model X.prog X.w) A2 R Y n s₀ (gcode elt tg iter ifs scope pos it cenv) ((model X.prog X.w).den (gcode elt tg iter ifs scope pos it cenv)) [] s) :
    Seg (model X.prog X.w) A2 R Y n s₀ (scode elt tg iter ifs scope pos it cenv) ((model X.prog X.w).den (scode elt tg iter ifs scope pos it cenv)) [] s := by
  show Seg _ A2 _ _ _ s₀ _ ((compStart (.GeneratorExp elt [⟨tg, iter, ifs, 0⟩] scope pos) 0 (.ref it) .none cenv).onRaise (leaving cenv)) [] s
  unfold compStart
  rw [Sem.onRaise_eq_wrap]
  show Seg _ A2 _ _ _ s₀ _ ((ask >>= _).wrap _ _ _ _) [] s
  refine seg_bind_wrap (wpAny_askSetting ?_)
  split
  · exact seg_again rfl loop
  · first
      | exact seg_bind_wrap (wpAny_rule (seg_bind_wrap (wpAny_standAt (seg_bind_wrap (T.self _ 0 s _ _ st (seg_again rfl loop))))))
      | (refine seg_bind_wrap (wpAny_rule ?_); show Seg _ A2 _ _ _ s₀ _ ((standAt iter.pos >>= _).wrap _ _ _ _) [] s; exact seg_bind_wrap (wpAny_standAt (seg_bind_wrap (T.self _ 0 s _ _ st (seg_again rfl loop)))))
end

/-- it may be asked for the next item -/
structure Rdy (P : Program) (w : World) (Z : Cx) (pl : List (Addr × Obj)) (σ0 : L2.St) (fp : List Addr) (tn : Nat → Heap → Prop) (gn : Nat) (Fin : Hp → Prop) (Yd : V → Hp → (Hp → Prop) → Prop) (W : Nat → Nat → Hp → Prop) (A2 : Around) (n i : Nat) (H : Hp) (s : Shared) : Prop where
  rest : Rest Z pl σ0 fp tn gn i H s
  goes : ∃ gs, s.gens[gn]? = some gs ∧ gs.Goes (model P w) A2 (fun n s₀ r s₁ => r = .ok .next ∧ PEnd Z pl σ0 gn Fin n s₀ s₁) (YOut Z pl σ0 fp tn gn Yd W) n (.send .none) (s.setGen gn .running)
section
variable {P : Program} {w : World} {Z : Cx} {pl : List (Addr × Obj)} {σ0 : L2.St} {fp : List Addr} {tn : Nat → Heap → Prop} {gn : Nat} {Fin : Hp → Prop} {Yd : V → Hp → (Hp → Prop) → Prop} {W : Nat → Nat → Hp → Prop} {A : Around} {a : Addr} {n i : Nat} {H : Hp} {s : Shared}
theorem Rest.set (r : Rest Z pl σ0 fp tn gn i H s) {g : Nat} {x : GenState} (hx : x.bare = true) : Rest Z pl σ0 fp tn gn i H (s.setGen g x) :=
  ⟨Inv.gens r.inv (AllBare.set r.inv.bare hx), r.tn, r.fp, by rw [setGen_size]; exact r.sz⟩
/-- the next item -/
theorem next_g (hh : A.handled = none) (hd : A.depth < recursionLimit) (hob : ∀ σ' H' s', Inv Z pl σ' H' s' → s'.heap.IsGen a gn) (hl : ∀ σ' H' s', Inv Z pl σ' H' s' → s'.heap.NoLimit) (R : Rdy P w Z pl σ0 fp tn gn Fin Yd W A.in1 n i H s) {Q : Option Value → Shared → Prop} {E : Value → Shared → Prop}
    (hY : ∀ v s₁ y H1 i1 m1 Nx, RelV y v → Rest Z pl σ0 fp tn gn (i1 + 1) H1 s₁ → Yd y H1 Nx → m1 ≤ n - 1 → (∀ H', Nx H' → ∃ m', m' < m1 ∧ W (i1 + 1) m' H') →
      (∀ H'' s'', Rest Z pl σ0 fp tn gn (i1 + 1) H'' s'' → s''.gens[gn]? = s₁.gens[gn]? → Nx H'' → Rdy P w Z pl σ0 fp tn gn Fin Yd W A.in1 (n - 1) (i1 + 1) H'' s'') → Q (some v) s₁)
    (hE : ∀ s₁ H1, Inv Z pl σ0 H1 s₁ → Fin H1 → Q none s₁) :
    wpAny (model P w) A (pyNext (.ref a)) Q E s := by
  obtain ⟨rest, gs, hgs, hgo⟩ := R
  refine wpAny_pyNext_genexpQ hh (hl _ _ _ rest.inv) hd (hob _ _ _ rest.inv) hgs hgo (fun v s₁ gs' hb hv => ?_) (fun s₁ hp h' hk => ?_)
  · obtain ⟨i1, H1, y, Nx, m1, rv, r1, yd, hm, hNx, hkap⟩ := hv
    have lt : gn < s₁.gens.size := r1.sz
    have self : (s₁.setGen gn gs').gens[gn]? = some gs' := by simp [Shared.setGen, lt]
    refine hY v _ y H1 i1 m1 Nx rv (r1.set hb) yd hm hNx fun H'' s'' R'' e nx => ?_
    rw [self] at e
    have hk := hkap H'' (s''.setGen gn .running) (R''.set rfl) nx
    cases n with
    | zero => exact hk.elim
    | succ n => exact ⟨R'', gs', e, hk⟩
  · obtain ⟨H1, I1, hz, hf⟩ := hp
    have I2 : Inv Z pl σ0 H1 (s₁.setGen gn .finished) := Inv.gens I1 (AllBare.set I1.bare rfl)
    exact hE _ H1 (I2.kept (h' := h') (t' := s₁.toks) hk) hf

/-! ### any, all -/
def YAny (QT : Hp → Prop) : V → Hp → (Hp → Prop) → Prop := fun y H Nx => ∃ b, y = .bl b ∧ if b = true then QT H else Nx H
def YAll (QF : Hp → Prop) : V → Hp → (Hp → Prop) → Prop := fun y H Nx => ∃ b, y = .bl b ∧ if b = true then Nx H else QF H
theorem any_loop {QT QF : Hp → Prop} {R : Result → Shared → Prop} (hh : A.handled = none) (hd : A.depth < recursionLimit) (hob : ∀ σ' H' s', Inv Z pl σ' H' s' → s'.heap.IsGen a gn) (hl : ∀ σ' H' s', Inv Z pl σ' H' s' → s'.heap.NoLimit)
    (hT : ∀ s' H', Inv Z pl σ0 H' s' → QT H' → R (.ok (.ret (.bool true))) s') (hF : ∀ s' H', Inv Z pl σ0 H' s' → QF H' → R (.ok (.ret (.bool false))) s') :
    ∀ (n i : Nat) (H : Hp) (s : Shared), Rdy P w Z pl σ0 fp tn gn QF (YAny QT) W A.in1.in1 n i H s → codeAny (model P w) A (.builtin "any.loop" ⟨[.ref a], []⟩) R s := by
  intro n
  induction n with
  | zero =>
    intro i H s r
    refine codeAny_builtin F.entry_any_loop ?_
    rw [Around.under_plainId F.plain_any_loop _]
    show wpAny _ A.in1 (pyNext (.ref a) >>= _) _ _ s
    refine wpAny_bind (next_g (A := A.in1) hh hd hob hl r (fun v s₁ y H1 i1 m1 Nx rv r1 yd hm hNx cont => ?_) fun s₁ H1 I1 hf => ?_)
    · obtain ⟨b, rfl, hb⟩ := yd
      obtain rfl : v = Value.bool b := rv
      refine wpAny_bind (wpAny_holding (wpAny_truthy_bool ?_))
      refine wpAny_bind (wpAny_letGo ?_)
      cases b with
      | true =>
        simp only [if_true] at hb ⊢
        exact wpAny_bind (wpAny_rule (wpAny_pure (hT _ H1 r1.inv hb)))
      | false =>
        simp only [Bool.false_eq_true, if_false] at hb
        obtain ⟨m', h1, _⟩ := hNx H1 hb
        omega
    · exact wpAny_bind (wpAny_rule (wpAny_pure (hF _ H1 I1 hf)))
  | succ n ih =>
    intro i H s r
    refine codeAny_builtin F.entry_any_loop ?_
    rw [Around.under_plainId F.plain_any_loop _]
    show wpAny _ A.in1 (pyNext (.ref a) >>= _) _ _ s
    refine wpAny_bind (next_g (A := A.in1) hh hd hob hl r (fun v s₁ y H1 i1 m1 Nx rv r1 yd hm hNx cont => ?_) fun s₁ H1 I1 hf => ?_)
    · obtain ⟨b, rfl, hb⟩ := yd
      obtain rfl : v = Value.bool b := rv
      refine wpAny_bind (wpAny_holding (wpAny_truthy_bool ?_))
      refine wpAny_bind (wpAny_letGo ?_)
      cases b with
      | true =>
        simp only [if_true] at hb ⊢
        exact wpAny_bind (wpAny_rule (wpAny_pure (hT _ H1 r1.inv hb)))
      | false =>
        simp only [Bool.false_eq_true, if_false] at hb ⊢
        exact wpAny_pure ⟨plainId_quiet F.plain_any_loop _, ih _ _ _ (cont H1 _ r1 rfl hb)⟩
    · exact wpAny_bind (wpAny_rule (wpAny_pure (hF _ H1 I1 hf)))
theorem all_loop {QT QF : Hp → Prop} {R : Result → Shared → Prop} (hh : A.handled = none) (hd : A.depth < recursionLimit) (hob : ∀ σ' H' s', Inv Z pl σ' H' s' → s'.heap.IsGen a gn) (hl : ∀ σ' H' s', Inv Z pl σ' H' s' → s'.heap.NoLimit)
    (hT : ∀ s' H', Inv Z pl σ0 H' s' → QT H' → R (.ok (.ret (.bool true))) s') (hF : ∀ s' H', Inv Z pl σ0 H' s' → QF H' → R (.ok (.ret (.bool false))) s') :
    ∀ (n i : Nat) (H : Hp) (s : Shared), Rdy P w Z pl σ0 fp tn gn QT (YAll QF) W A.in1.in1 n i H s → codeAny (model P w) A (.builtin "all.loop" ⟨[.ref a], []⟩) R s := by
  intro n
  induction n with
  | zero =>
    intro i H s r
    refine codeAny_builtin F.entry_all_loop ?_
    rw [Around.under_plainId F.plain_all_loop _]
    show wpAny _ A.in1 (pyNext (.ref a) >>= _) _ _ s
    refine wpAny_bind (next_g (A := A.in1) hh hd hob hl r (fun v s₁ y H1 i1 m1 Nx rv r1 yd hm hNx cont => ?_) fun s₁ H1 I1 hf => ?_)
    · obtain ⟨b, rfl, hb⟩ := yd
      obtain rfl : v = Value.bool b := rv
      refine wpAny_bind (wpAny_holding (wpAny_truthy_bool ?_))
      refine wpAny_bind (wpAny_letGo ?_)
      cases b with
      | false =>
        simp only [Bool.false_eq_true, if_false] at hb ⊢
        exact wpAny_bind (wpAny_rule (wpAny_pure (hF _ H1 r1.inv hb)))
      | true =>
        simp only [if_true] at hb
        obtain ⟨m', h1, _⟩ := hNx H1 hb
        omega
    · exact wpAny_bind (wpAny_rule (wpAny_pure (hT _ H1 I1 hf)))
  | succ n ih =>
    intro i H s r
    refine codeAny_builtin F.entry_all_loop ?_
    rw [Around.under_plainId F.plain_all_loop _]
    show wpAny _ A.in1 (pyNext (.ref a) >>= _) _ _ s
    refine wpAny_bind (next_g (A := A.in1) hh hd hob hl r (fun v s₁ y H1 i1 m1 Nx rv r1 yd hm hNx cont => ?_) fun s₁ H1 I1 hf => ?_)
    · obtain ⟨b, rfl, hb⟩ := yd
      obtain rfl : v = Value.bool b := rv
      refine wpAny_bind (wpAny_holding (wpAny_truthy_bool ?_))
      refine wpAny_bind (wpAny_letGo ?_)
      cases b with
      | false =>
        simp only [Bool.false_eq_true, if_false] at hb ⊢
        exact wpAny_bind (wpAny_rule (wpAny_pure (hF _ H1 r1.inv hb)))
      | true =>
        simp only [if_true] at hb ⊢
        exact wpAny_pure ⟨plainId_quiet F.plain_all_loop _, ih _ _ _ (cont H1 _ r1 rfl hb)⟩
    · exact wpAny_bind (wpAny_rule (wpAny_pure (hT _ H1 I1 hf)))
/-- the calls -/
theorem call_anyG {QT QF : Hp → Prop} {Q : Value → Shared → Prop} {E : Value → Shared → Prop} (hh : A.handled = none) (hd : A.depth < recursionLimit) (hob : ∀ σ' H' s', Inv Z pl σ' H' s' → s'.heap.IsGen a gn) (hl : ∀ σ' H' s', Inv Z pl σ' H' s' → s'.heap.NoLimit)
    (r : Rdy P w Z pl σ0 fp tn gn QF (YAny QT) W A.in1.in1 n i H s) (hT : ∀ s' H', Inv Z pl σ0 H' s' → QT H' → Q (.bool true) s') (hF : ∀ s' H', Inv Z pl σ0 H' s' → QF H' → Q (.bool false) s') :
    wpAny (model P w) A (call (.builtin "any") [.ref a]) Q E s := by
  refine call_function_tree F.kind_any F.plain_any F.entry_any (F.args_any1 _) ?_
  unfold Builtin.«any»
  refine wpAny_bind (m := oneArg "any" _) (wpAny_pure ?_)
  refine wpAny_bind (wpAny_pyIter_gen (hob _ _ _ r.rest.inv) ?_)
  exact wpAny_pure ⟨plainId_quiet F.plain_any_loop _, any_loop hh hd hob hl (fun s' H' I q => by first | exact hT s' H' I q | exact ⟨_, rfl, hT s' H' I q⟩) (fun s' H' I q => by first | exact hF s' H' I q | exact ⟨_, rfl, hF s' H' I q⟩) n i H s r⟩
theorem call_allG {QT QF : Hp → Prop} {Q : Value → Shared → Prop} {E : Value → Shared → Prop} (hh : A.handled = none) (hd : A.depth < recursionLimit) (hob : ∀ σ' H' s', Inv Z pl σ' H' s' → s'.heap.IsGen a gn) (hl : ∀ σ' H' s', Inv Z pl σ' H' s' → s'.heap.NoLimit)
    (r : Rdy P w Z pl σ0 fp tn gn QT (YAll QF) W A.in1.in1 n i H s) (hT : ∀ s' H', Inv Z pl σ0 H' s' → QT H' → Q (.bool true) s') (hF : ∀ s' H', Inv Z pl σ0 H' s' → QF H' → Q (.bool false) s') :
    wpAny (model P w) A (call (.builtin "all") [.ref a]) Q E s := by
  refine call_function_tree F.kind_all F.plain_all F.entry_all (F.args_all1 _) ?_
  unfold Builtin.«all»
  refine wpAny_bind (m := oneArg "all" _) (wpAny_pure ?_)
  refine wpAny_bind (wpAny_pyIter_gen (hob _ _ _ r.rest.inv) ?_)
  exact wpAny_pure ⟨plainId_quiet F.plain_all_loop _, all_loop hh hd hob hl (fun s' H' I q => by first | exact hT s' H' I q | exact ⟨_, rfl, hT s' H' I q⟩) (fun s' H' I q => by first | exact hF s' H' I q | exact ⟨_, rfl, hF s' H' I q⟩) n i H s r⟩
end
end Gx

set_option maxHeartbeats 1000000
namespace Gx
open PySem L2 PySem.Spec PyProof.Rows GenW GxR

/-- the table at P has grown, all else stands -/
structure Grown (P : Addr) (H H' : Hp) : Prop where
  at_ : ∃ ps more, H P = some (.tbl ps) ∧ H' P = some (.tbl (ps ++ more)) ∧ TriplesOk (ps ++ more).toList
  else_ : ∀ b, b ≠ P → H' b = H b
abbrev gAround (X : Cx) (elt tg iter : Expr) (ifs : List Expr) (scope : Scope) (pos : Pos) (it : Addr) (cenv : Env) : Around := X.A.in1.in1.over (gcode elt tg iter ifs scope pos it cenv) []
theorem g_frames {X : Cx} {elt tg iter : Expr} {ifs : List Expr} {scope : Scope} {pos : Pos} {it : Addr} {cenv : Env} (h : X.A.frames = some X.stack) : (gAround X elt tg iter ifs scope pos it cenv).frames = some (cenv :: X.stack) := by
  have e : (gAround X elt tg iter ifs scope pos it cenv).frames = X.A.frames.map ([cenv] ++ ·) := rfl
  rw [e, h]
  rfl
theorem g_room {X : Cx} {elt tg iter : Expr} {ifs : List Expr} {scope : Scope} {pos : Pos} {it : Addr} {cenv : Env} {k : Nat} (hr : Room (k + 1) X.A) : Room k (gAround X elt tg iter ifs scope pos it cenv) := by
  have e1 : (gAround X elt tg iter ifs scope pos it cenv).depth = X.A.depth + 1 := rfl
  have e2 : (gAround X elt tg iter ifs scope pos it cenv).units = X.A.units + 5 := rfl
  refine ⟨hr.hd, ?_, ?_⟩
  · rw [e1]; have := hr.dp; omega
  · rw [e2]; have := hr.un; omega
section
variable {X : Cx} {pins : List (Addr × Obj)} {σ : L2.St} {H : Hp} {s : Shared} {N' : List Str} {js : List (Option Nat)} {own : List Nat} {elt tg iter : Expr} {ifs : List Expr} {scope : Scope} {pos : Pos} {c P : Addr} {k : Nat}
variable {wi : TI} {g : TG} {tt : TT} {te : TE} {Fin : Hp → Prop} {Yd : V → Hp → (Hp → Prop) → Prop}
/-- what a generator expression is to do -/
def tGenX (P : Addr) (wi : TI) (g : TG) (tt : TT) (te : TE) (js : List (Option Nat)) (own : List Nat) (Fin : Hp → Prop) (Yd : V → Hp → (Hp → Prop) → Prop) : L2.St → Hp → Prop := fun σ H =>
  wi σ H fun J H1 => TabG H1 P ∧ ∀ H2, Grown P H1 H2 → ∃ W : Nat → Nat → Hp → Prop, (∃ m, W 0 m H2) ∧ Turns J g tt te (pick σ js) own Fin Yd W
/-- a generator has come -/
def GenCame (X : Cx) (pins : List (Addr × Obj)) (σ : L2.St) (Fin : Hp → Prop) (Yd : V → Hp → (Hp → Prop) → Prop) (u : Value) (s5 : Shared) : Prop :=
  ∃ (Z : Cx) (a : Addr) (pl : List (Addr × Obj)) (σ0 : L2.St) (fp : List Addr) (tn : Nat → Heap → Prop) (gn n i : Nat) (H : Hp) (W : Nat → Nat → Hp → Prop), u = .ref a ∧ (∀ σ' H' s', Inv Z pl σ' H' s' → s'.heap.IsGen a gn) ∧ (∀ σ' H' s', Inv Z pl σ' H' s' → s'.heap.NoLimit) ∧
    (∀ σ' H' s', Inv Z pl σ' H' s' → Inv X pins σ H' s') ∧ Rdy X.prog X.w Z pl σ0 fp tn gn Fin Yd W X.A.in1.in1 n i H s5
theorem gen_make (hr : Room (k + 1) X.A) (TB : TabB X.base X.mg c P) (hcode : X.env.code = .ref c) (S : GScp X.N N' js X.env.scope scope) (hi : PI X tg iter wi) (hs : ∀ v, genFold iter X.env v = pure v)
    (hg : ∀ (s : Shared) (H : Hp) (C : Addr) (cl : List (Str × Addr)) (code : Value) (A : Around) (fp : List Addr), Room k A → PG (gcx X s H (genEnv scope cl C code builtinsNs X.env) N' A fp) tg g)
    (ht : ∀ (s : Shared) (H : Hp) (C : Addr) (cl : List (Str × Addr)) (code : Value) (A : Around) (fp : List Addr), Room k A → PTs (gcx X s H (genEnv scope cl C code builtinsNs X.env) N' A fp) ifs tt)
    (he : ∀ (s : Shared) (H : Hp) (C : Addr) (cl : List (Str × Addr)) (code : Value) (A : Around) (fp : List Addr), Room k A → PE (gcx X s H (genEnv scope cl C code builtinsNs X.env) N' A fp) elt te)
    (I : Inv X pins σ H s) (h : tGenX P wi g tt te js own Fin Yd σ H) :
    wpAny (model X.prog X.w) X.A (eval (.GeneratorExp elt [⟨tg, iter, ifs, 0⟩] scope pos) X.env) (GenCame X pins σ Fin Yd) X.xe s := by
  have hfree : ∀ y ∈ scope.names, y.2 = .free → ∃ c, X.env.cells.lookup y.1 = some c := fun y hy e => by
    rcases S.free y hy e with k | k
    · exact I.ok.has _ (.inl k)
    · exact I.ok.has _ (.inr k)
  refine wpAny_GeneratorExp_make S.co (closure_ok hfree) S.cell S.dot S.kind hr.depth ?_ hs
  refine thn (hi.run pins s σ H _ I h) fun xv s1 hx => thn hx fun itv s2 h2 => ?_
  obtain ⟨it, fp, tn, J, H1, rfl, I1, T, st1, f1, ⟨ps, hP, htr⟩, q⟩ := h2
  refine ⟨I1.nolimit, ?_⟩
  have hPs : s2.heap.get? P = some { cls := .none, data := .fields ps } := I1.hok P _ hP
  have cd : PySem.W.CodeHd s2.heap c P := TB.code.keeps fun b u e => I1.bk b u e
  have cont : ∀ (code : Value) (h3 : Heap) (tk : Nat) (ps' : Array Value), Heap.ExtBut P s2.heap h3 → s2.heap.objs.size ≤ h3.objs.size → h3.get? P = some { cls := .none, data := .fields ps' } → (∃ more, ps' = ps ++ more) → TriplesOk ps'.toList →
      wpAny (model X.prog X.w) X.A (builtinsFor X.env.globals X.env.builtins) (fun bi s₄ =>
        ∀ h', h'.Ns s₄.heap.objs.size (fun y => if y = ".0" then some (Value.ref it) else none) → Heap.SameBut s₄.heap.objs.size (s₄.heap.push { cls := .type "frame", data := .dict #[] }) h' →
          GenCame X pins σ Fin Yd (.ref h'.objs.size) { s₄ with
            gens := s₄.gens.push (.fresh (.compStart (.GeneratorExp elt [⟨tg, iter, ifs, 0⟩] scope pos) 0 (.ref it) .none (genEnv scope (cloFrom X.env.cells scope.names []) s₄.heap.objs.size code bi X.env))),
            toks := s₄.toks + 1 + 1 + 1,
            heap := h'.push { cls := .type "generator", data := .fields #[.int s₄.gens.size 0, .str "<genexpr>" (s₄.toks + 1), .str (X.env.qual ++ "<genexpr>") (s₄.toks + 1 + 1)] } }) X.xe { s2 with heap := h3, toks := tk } := by
    intro code h3 tk ps' hx hsz hP3 hmore ht3
    obtain ⟨bm, ob, e1, e2, e3, e4, e5, e6, e7, e8⟩ := TB.bm
    have keep3 : ∀ b u, b ≠ P → s2.heap.get? b = some u → h3.get? b = some u := fun b u hb e => hx b u hb e
    obtain ⟨more, em⟩ := hmore
    have J3 : Inv X pins σ (upd H1 P (.tbl (ps ++ more))) { s2 with heap := h3, toks := tk } := inv_tab (more := more) (h' := h3) (g' := s2.gens) (d' := s2.drawn) (t' := tk) I1 hP (fun b u hb e => keep3 b u hb e) (by rw [← em]; exact hP3) I1.bare
    have tb : Grown P H1 (upd H1 P (.tbl (ps ++ more))) := ⟨⟨ps, more, hP, upd_same, by rw [← em]; exact ht3⟩, fun b hb => upd_ne hb⟩
    generalize upd H1 P (.tbl (ps ++ more)) = H2 at J3 tb
    refine wpAny_builtinsFor (m := X.mg) (by rw [I1.ok.glob]; exact (I1.mod.glob.keeps I1.bk).extBut hx TB.gP) e1 e2 (keep3 _ _ e4 (I1.bk _ _ e5)) e6 e7 e8 ?_
    intro h' hn' hs'
    generalize hs3 : ({ s2 with heap := h3, toks := tk } : Shared) = s3 at J3 hn' hs' ⊢
    have h3e : s3.heap = h3 := by rw [← hs3]
    have hsz' : h'.objs.size = s3.heap.objs.size + 1 := by rw [hs'.1, Heap.size_push]
    have keep' : ∀ b o, s3.heap.get? b = some o → h'.get? b = some o := fun b o e => hs'.extBut b o (Nat.ne_of_lt (Heap.lt_size e)) (Heap.get?_push_of_some _ e)
    obtain ⟨W, ⟨m0, w0⟩, turn⟩ := q H2 tb
    have nP : ∀ b ∈ fp, b ≠ P := fun b hb z => by
      have := (f1 b hb).1
      rw [z, hP] at this
      cases this
    have hfp : ∀ b ∈ fp, FpOk X pins H2 b ∧ b < s3.heap.objs.size := fun b hb => by
      refine ⟨⟨?_, (f1 b hb).2⟩, ?_⟩
      · rw [tb.else_ b (nP b hb)]; exact (f1 b hb).1
      · obtain ⟨o, e, _⟩ := T.obj _ _ st1 b hb
        rw [h3e]
        exact Heap.lt_size (keep3 b o (nP b hb) e)
    have stt : ∀ b ∈ fp, ∀ o, s2.heap.get? b = some o → s3.heap.get? b = some o := fun b hb o e => by rw [h3e]; exact keep3 b o (nP b hb) e
    generalize hce : genEnv scope (cloFrom X.env.cells scope.names []) s3.heap.objs.size code builtinsNs X.env = cenv
    have hsc : cenv.scope = scope := by rw [← hce]; rfl
    generalize hob : ({ cls := .type "generator", data := .fields #[.int s3.gens.size 0, .str "<genexpr>" (s3.toks + 1), .str (X.env.qual ++ "<genexpr>") (s3.toks + 1 + 1)] } : Obj) = ob
    have key : ∀ b o, s3.heap.get? b = some o → (h'.push ob).get? b = some o := fun b o e => Heap.get?_push_of_some _ (keep' b o e)
    have hob1 : ob.isFreed = false := by rw [← hob]; rfl
    have ha : (h'.push ob).get? h'.objs.size = some ob := Heap.get?_push_size _ hob1
    have J5 := gen_start (N' := N') (js := js) (scope := scope) (code := code) (cenv := cenv) (A := gAround X elt tg iter ifs scope pos it cenv) (fp := fp) (a := h'.objs.size) (ob := ob) (m := fun y => if y = ".0" then some (Value.ref it) else none)
      (s5 := { s3 with gens := s3.gens.push (.fresh (.compStart (.GeneratorExp elt [⟨tg, iter, ifs, 0⟩] scope pos) 0 (.ref it) .none cenv)), toks := s3.toks + 1 + 1 + 1, heap := h'.push ob }) J3 S hce.symm hr.hd
      (g_frames I.ok.frames) hfp rfl (AllBare.push J3.bare rfl) key (hn'.push _) ha (by rw [hsz']; exact Nat.lt_succ_self _) (fun v z => by rw [← hob] at z; cases z)
    refine ⟨gcx X s3 H2 cenv N' (gAround X elt tg iter ifs scope pos it cenv) fp, h'.objs.size, [(h'.objs.size, ob)], pick σ js, fp, tn, s3.gens.size, m0 + 1, 0, H2, W, rfl, fun σ' H' s' Ij => ?_, fun σ' H' s' Ij => Ij.nolimit, fun σ' H' s' Ij => gen_back J3 (fun b hb => (hfp b hb).1) Ij, ?_⟩
    · have hp := (Ij.pin (h'.objs.size, ob) (List.mem_append_right _ List.mem_cons_self)).1
      rw [← hob] at hp
      exact ⟨_, _, _, hp, rfl, rfl, rfl⟩
    · have rest : Rest (gcx X s3 H2 cenv N' (gAround X elt tg iter ifs scope pos it cenv) fp) [(h'.objs.size, ob)] (pick σ js) fp tn s3.gens.size 0 H2 ({ s3 with gens := s3.gens.push (.fresh (.compStart (.GeneratorExp elt [⟨tg, iter, ifs, 0⟩] scope pos) 0 (.ref it) .none cenv)), toks := s3.toks + 1 + 1 + 1, heap := h'.push ob }) :=
        ⟨J5, T.keep _ _ _ st1 fun b hb o e => key b o (stt b hb o e), fun b hb => (hfp b hb).1.1, by show s3.gens.size < (s3.gens.push _).size; rw [Array.size_push]; exact Nat.lt_succ_self _⟩
      refine ⟨rest, _, Array.getElem?_push_size .., rfl, ?_⟩
      refine seg_gs T ?_ (seg_gl (fun z => ?_) T (by rw [hsc]; exact S.co) ?_ ?_ ?_ turn m0 (m0 + 1) 0 H2 _ _ (Nat.lt_succ_self _) w0 (rest.set rfl))
      · exact (rest.set (g := s3.gens.size) (x := .running) rfl).tn
      · have h1 := (hfp _ z).2
        rw [hsz'] at h1
        exact absurd (Nat.lt_of_succ_lt h1) (Nat.lt_irrefl _)
      · rw [← hce]; exact hg _ _ _ _ _ _ _ (g_room hr)
      · rw [← hce]; exact ht _ _ _ _ _ _ _ (g_room hr)
      · rw [← hce]; exact he _ _ _ _ _ _ _ (g_room hr)
  cases hf : codeAmong pos ps.toList with
  | none =>
    refine wpAny_genexprCodeX hcode (cd.code hPs htr) (cd.tab hPs) hf fun c' h' tk hx hge hlt hco' _ htab' _ => ?_
    obtain ⟨o1, vs, f1, tf, fl, tg, inF, tx, tt, op, _, _, _, _, _, _, _, _, _, htr2, _⟩ := hco'
    exact cont _ h' tk _ hx (Nat.le_trans hge (Nat.le_of_lt hlt)) htab'.2 ⟨_, rfl⟩ htr2
  | some cv =>
    refine wpAny_genexprCode_hit hcode (cd.code hPs htr) hf ?_
    exact cont cv s2.heap s2.toks ps (Heap.ExtBut.refl _ _) (Nat.le_refl _) hPs ⟨#[], by simp⟩ htr

/-- any(elt for tg in iter if ..) -/
def tAnyG (P : Addr) (wi : TI) (g : TG) (tt : TT) (te : TE) (js : List (Option Nat)) (own : List Nat) : TE := fun σ H Q => tGenX P wi g tt te js own (Q (.bl false)) (YAny (Q (.bl true))) σ H
def tAllG (P : Addr) (wi : TI) (g : TG) (tt : TT) (te : TE) (js : List (Option Nat)) (own : List Nat) : TE := fun σ H Q => tGenX P wi g tt te js own (Q (.bl true)) (YAll (Q (.bl false))) σ H
theorem pe_anyG {p cpos : Pos} (hr : Room (k + 1) X.A) (TB : TabB X.base X.mg c P) (hcode : X.env.code = .ref c) (S : GScp X.N N' js X.env.scope scope) (hgl : Gl X "any") (hm : X.mg "any" = none) (hi : PI X tg iter wi)
    (hg : ∀ (s : Shared) (H : Hp) (C : Addr) (cl : List (Str × Addr)) (code : Value) (A : Around) (fp : List Addr), Room k A → PG (gcx X s H (genEnv scope cl C code builtinsNs X.env) N' A fp) tg g)
    (ht : ∀ (s : Shared) (H : Hp) (C : Addr) (cl : List (Str × Addr)) (code : Value) (A : Around) (fp : List Addr), Room k A → PTs (gcx X s H (genEnv scope cl C code builtinsNs X.env) N' A fp) ifs tt)
    (he : ∀ (s : Shared) (H : Hp) (C : Addr) (cl : List (Str × Addr)) (code : Value) (A : Around) (fp : List Addr), Room k A → PE (gcx X s H (genEnv scope cl C code builtinsNs X.env) N' A fp) elt te)
    (hs : ∀ v, genFold iter X.env v = pure v := by intro _; rfl)
    (hst : starEach [.GeneratorExp elt [⟨tg, iter, ifs, 0⟩] scope pos] X.env = (false, eval (.GeneratorExp elt [⟨tg, iter, ifs, 0⟩] scope pos) X.env) :: starEach [] X.env := by rfl) :
    PE X (.Call (.Name "any" p) [.GeneratorExp elt [⟨tg, iter, ifs, 0⟩] scope pos] [] cpos) (tAnyG P wi g tt te js own) := by
  refine ⟨fun pins s σ H Q I h => ?_⟩
  refine wpAny_Call_Name_kw (ld_blt I hgl hm boot_any ?_)
  refine PyProof.Rows.callWith_builtin1 ?_ hst (by rfl)
  rw [hst]
  show wpAny _ _ (spliced ((false, eval (.GeneratorExp elt [⟨tg, iter, ifs, 0⟩] scope pos) X.env) :: backTo cpos (starEach [] X.env))) _ _ s
  refine Calls.spliced_cons (thn (gen_make hr TB hcode S hi hs hg ht he I h) fun u s5 hc => ?_)
  obtain ⟨Z, a, pl, σ0, fp, tn, gn, n, i, H5, W, rfl, hob, hl, back, R⟩ := hc
  refine Calls.spliced_nil ?_
  exact call_anyG hr.hd hr.depth hob hl R (fun s' H' J q => ⟨.bl true, H', back _ _ _ J, rfl, q⟩) fun s' H' J q => ⟨.bl false, H', back _ _ _ J, rfl, q⟩
theorem pe_allG {p cpos : Pos} (hr : Room (k + 1) X.A) (TB : TabB X.base X.mg c P) (hcode : X.env.code = .ref c) (S : GScp X.N N' js X.env.scope scope) (hgl : Gl X "all") (hm : X.mg "all" = none) (hb : bootBuiltins "all" = some (.builtin "all")) (hi : PI X tg iter wi)
    (hg : ∀ (s : Shared) (H : Hp) (C : Addr) (cl : List (Str × Addr)) (code : Value) (A : Around) (fp : List Addr), Room k A → PG (gcx X s H (genEnv scope cl C code builtinsNs X.env) N' A fp) tg g)
    (ht : ∀ (s : Shared) (H : Hp) (C : Addr) (cl : List (Str × Addr)) (code : Value) (A : Around) (fp : List Addr), Room k A → PTs (gcx X s H (genEnv scope cl C code builtinsNs X.env) N' A fp) ifs tt)
    (he : ∀ (s : Shared) (H : Hp) (C : Addr) (cl : List (Str × Addr)) (code : Value) (A : Around) (fp : List Addr), Room k A → PE (gcx X s H (genEnv scope cl C code builtinsNs X.env) N' A fp) elt te)
    (hs : ∀ v, genFold iter X.env v = pure v := by intro _; rfl)
    (hst : starEach [.GeneratorExp elt [⟨tg, iter, ifs, 0⟩] scope pos] X.env = (false, eval (.GeneratorExp elt [⟨tg, iter, ifs, 0⟩] scope pos) X.env) :: starEach [] X.env := by rfl) :
    PE X (.Call (.Name "all" p) [.GeneratorExp elt [⟨tg, iter, ifs, 0⟩] scope pos] [] cpos) (tAllG P wi g tt te js own) := by
  refine ⟨fun pins s σ H Q I h => ?_⟩
  refine wpAny_Call_Name_kw (ld_blt I hgl hm hb ?_)
  refine PyProof.Rows.callWith_builtin1 ?_ hst (by rfl)
  rw [hst]
  show wpAny _ _ (spliced ((false, eval (.GeneratorExp elt [⟨tg, iter, ifs, 0⟩] scope pos) X.env) :: backTo cpos (starEach [] X.env))) _ _ s
  refine Calls.spliced_cons (thn (gen_make hr TB hcode S hi hs hg ht he I h) fun u s5 hc => ?_)
  obtain ⟨Z, a, pl, σ0, fp, tn, gn, n, i, H5, W, rfl, hob, hl, back, R⟩ := hc
  refine Calls.spliced_nil ?_
  exact call_allG hr.hd hr.depth hob hl R (fun s' H' J q => ⟨.bl true, H', back _ _ _ J, rfl, q⟩) fun s' H' J q => ⟨.bl false, H', back _ _ _ J, rfl, q⟩
end
end Gx

namespace Dn
open PySem L2 PySem.Spec PyProof.Rows Gx GxR

/-! ### any, all of a generator expression, by data -/
def pickR (ρ : Rho) (js : List (Option Nat)) : Rho := js.map fun o => match o with
  | some j => match ρ[j]? with
    | some (some (.d x)) => some (.d x)
    | _ => none
  | none => none
theorem pickR_get {ρ : Rho} {js : List (Option Nat)} {i : Nat} {z : Sv} (h : (pickR ρ js)[i]? = some (some z)) : ∃ j x, js[i]? = some (some j) ∧ ρ[j]? = some (some (.d x)) ∧ z = .d x := by
  unfold pickR at h
  rw [List.getElem?_map] at h
  obtain ⟨o, ho, e⟩ := Option.map_eq_some_iff.mp h
  cases o with
  | none => cases e
  | some j =>
    simp only at e
    split at e
    · rename_i x hx
      cases e
      exact ⟨j, x, ho, hx, rfl⟩
    · cases e
theorem sl_pick [Tbs] {K : PySem.W.Frag} {H0 B H : Hp} {ρ : Rho} {σ : L2.St} (s : Sl K H0 B ρ σ H) (js : List (Option Nat)) : Sl K H0 B (pickR ρ js) (pick σ js) H := by
  refine ⟨s.bh, s.nt, s.tb, by simp [pickR, pick], fun {i x} e => ?_, fun {i o xs} e => ?_, fun {i j o o' xs ys a} e _ _ _ => ?_, fun i a n fs e => ?_⟩
  · obtain ⟨j, y, h1, h2, h3⟩ := pickR_get e
    cases h3
    obtain ⟨v, hv, hd⟩ := s.dv h2
    refine ⟨v, ?_, hd⟩
    unfold pick
    rw [List.getElem?_map, h1]
    show some ((σ[j]?).join) = _
    rw [hv]
    rfl
  · obtain ⟨j, y, h1, h2, h3⟩ := pickR_get e
    cases h3
  · obtain ⟨j, y, h1, h2, h3⟩ := pickR_get e
    cases h3
  · obtain ⟨j, y, h1, h2, h3⟩ := pickR_get e
    cases h3
theorem wipe_fix {σ : L2.St} : ∀ {vs : List Nat}, (∀ i ∈ vs, σ[i]? = some none) → wipe σ vs = σ
  | [], _ => rfl
  | v :: vs, h => by
    unfold wipe
    rw [wipe_fix (fun i hi => h i (List.mem_cons_of_mem _ hi))]
    exact set_self_get (h v List.mem_cons_self)
theorem pick_own {σ : L2.St} {js : List (Option Nat)} {vs : List Nat} (h : ∀ i ∈ vs, js[i]? = some none) : ∀ i ∈ vs, (pick σ js)[i]? = some none := fun i hi => by
  unfold pick
  rw [List.getElem?_map, h i hi]
  rfl
/-- stop: the answer that ends the walk early -/
def gAny (stop : Bool) (bd : PyData → Rho → Option Rho) (t : Rho → Option Bool) (f : Rho → Option PyData) (ρ : Rho) : List PyData → Option Bool
  | [] => some (!stop)
  | x :: xs => (bd x ρ).bind fun ρ1 => (t ρ1).bind fun b => if b then (fB f ρ1).bind fun c => if c = stop then some stop else gAny stop bd t f ρ xs else gAny stop bd t f ρ xs
def fAnyG (stop : Bool) (fi : Rho → Option (List PyData)) (bd : PyData → Rho → Option Rho) (t : Rho → Option Bool) (f : Rho → Option PyData) (js : List (Option Nat)) : Rho → Option PyData := fun ρ => (fi ρ).bind fun xs => (gAny stop bd t f (pickR ρ js) xs).map .bool
theorem tr_tab [Tbs] {B H H2 : Hp} {P : Addr} (n : NT B) (s : Same B H) (t : Grown P H H2) : Tr B H B H2 := by
  obtain ⟨⟨ps, more, e1, e2, ht⟩, k⟩ := t
  have g : Gw H H2 := ⟨fun a o e nn => by
    by_cases z : a = P
    · subst z; rw [e1] at e; cases e; exact absurd rfl (nn ps)
    · rw [k a z]; exact e, fun a qs e => by
    by_cases z : a = P
    · subst z; rw [e1] at e; cases e; exact ⟨more, e2, fun _ => ht⟩
    · exact ⟨#[], by rw [Array.append_empty, k a z]; exact ⟨e, id⟩⟩⟩
  exact ⟨Same.refl _, Gw.same n s g, g, id, fun a o x y => by rw [y] at x; cases x⟩
theorem any_imp [Tbs] {K : PySem.W.Frag} {fi : Rho → Option (List PyData)} {g : TG} {bd : PyData → Rho → Option Rho} {is own : List Nat} {t : Rho → Option Bool} {f : Rho → Option PyData} {js : List (Option Nat)} {P : Addr} {stop : Bool} (hP : P ∈ Tbs.T) (hg : GD K g bd is) (hv : ∀ i ∈ is, i ∈ own) (hj : ∀ i ∈ own, js[i]? = some none)
    {Yd : V → Hp → (Hp → Prop) → Prop} {σ : L2.St} {H : Hp} {Q : VK} (hY : ∀ (b : Bool) (H' : Hp) (Nx : Hp → Prop), (if b = stop then Q (.bl stop) H' else Nx H') → Yd (.bl b) H' Nx) (h : tD K (fAnyG stop fi bd t f js) σ H Q) :
    tGenX P (tDI K fi) g (tDT K t) (tD K f) js own (Q (.bl (!stop))) Yd σ H := by
  obtain ⟨H0, B, ρ, d, s, hf, q⟩ := h
  obtain ⟨xs, hxs, hf⟩ := bind_some hf
  obtain ⟨r, hr, rfl⟩ := Option.map_eq_some_iff.mp hf
  refine ⟨H0, B, ρ, xs, s, hxs, fun J B1 H1 t1 it => ⟨(s.tr t1).tb P hP, fun H2 gr => ?_⟩⟩
  have s1 := s.tr t1
  have t2 := tr_tab s1.nt s1.bh gr
  have s2 := s1.tr t2
  have fix : wipe (pick σ js) own = pick σ js := wipe_fix (pick_own hj)
  refine ⟨fun i m H' => ∃ B2, Tr B1 H2 B2 H' ∧ m = xs.length - i ∧ i ≤ xs.length ∧ gAny stop bd t f (pickR ρ js) (xs.drop i) = some r, ⟨xs.length, B1, Tr.refl s2.bh, rfl, Nat.zero_le _, hr⟩, ?_⟩
  rintro i m H' ⟨B2, t3, rfl, hi, hgo⟩
  have T3 := (t1.trans t2).trans t3
  by_cases hlt : i < xs.length
  · have hx : xs[i]? = some xs[i] := by simp [hlt]
    obtain ⟨go, yld⟩ := it.2 i xs[i] hx H' (t3.b.trans t3.t)
    rw [List.drop_eq_getElem_cons hlt] at hgo
    unfold gAny at hgo
    obtain ⟨ρ1, h1, hgo⟩ := bind_some hgo
    obtain ⟨b, h2, hgo⟩ := bind_some hgo
    refine .inr ⟨go, _, fun H'' nx => ⟨xs.length - (i + 1), by omega, nx⟩, fun x H3 y => ?_⟩
    obtain ⟨B3, t4, d4⟩ := yld x H3 y B2 t3.b t3.t
    refine hg H0 B3 H3 (pickR ρ js) ρ1 (pick σ js) x xs[i] _ (sl_pick ((s2.tr t3).tr t4) js) d4 h1 fun σ' hw s4 => ⟨by rw [hw own hv, fix], ?_⟩
    refine ⟨H0, B3, ρ1, b, s4, h2, fun B4 H4 t5 => ?_⟩
    have T5 := (t3.trans t4).trans t5
    cases b with
    | true =>
      simp only [if_true] at hgo ⊢
      obtain ⟨c, h3, hgo⟩ := bind_some hgo
      refine ⟨H0, B4, ρ1, .bool c, s4.tr t5, fB_some h3, fun v B5 H5 t6 d6 => ?_⟩
      cases d6
      refine hY c H5 _ ?_
      by_cases hc : c = stop
      · rw [if_pos hc] at hgo ⊢
        cases hgo
        exact q _ B5 H5 ((t1.trans t2).trans (T5.trans t6)) (.bl _)
      · rw [if_neg hc] at hgo ⊢
        exact ⟨B5, T5.trans t6, (by trivial), hlt, hgo⟩
    | false =>
      simp only [Bool.false_eq_true, if_false] at hgo ⊢
      exact ⟨B4, T5, (by trivial), hlt, hgo⟩
  · have e : xs.length = i := by omega
    subst e
    rw [List.drop_length] at hgo
    cases hgo
    exact .inl ⟨it.1 H' (t3.b.trans t3.t), q _ B2 H' T3 (.bl _)⟩
section
variable {X : Cx} {N' : List Str} {js : List (Option Nat)} {own is : List Nat} {elt tg iter : Expr} {ifs : List Expr} {scope : Scope} {pos p cpos : Pos} {c P : Addr} {k : Nat} {fi : Rho → Option (List PyData)} {g : TG} {bd : PyData → Rho → Option Rho} {t : Rho → Option Bool} {f : Rho → Option PyData}
theorem pd_anyG [Tbs] (hgd : GD X.K g bd is) (hv : ∀ i ∈ is, i ∈ own) (hj : ∀ i ∈ own, js[i]? = some none) (hr : Room (k + 1) X.A) (TB : TabB X.base X.mg c P ∧ P ∈ Tbs.T) (hcode : X.env.code = .ref c) (S : GScp X.N N' js X.env.scope scope) (hgl : Gl X "any") (hm : X.mg "any" = none) (hi : PDI X tg iter fi)
    (hg : ∀ (s : Shared) (H : Hp) (C : Addr) (cl : List (Str × Addr)) (code : Value) (A : Around) (fp : List Addr), Room k A → PG (gcx X s H (genEnv scope cl C code builtinsNs X.env) N' A fp) tg g)
    (ht : ∀ (s : Shared) (H : Hp) (C : Addr) (cl : List (Str × Addr)) (code : Value) (A : Around) (fp : List Addr), Room k A → PDTs (gcx X s H (genEnv scope cl C code builtinsNs X.env) N' A fp) ifs t)
    (he : ∀ (s : Shared) (H : Hp) (C : Addr) (cl : List (Str × Addr)) (code : Value) (A : Around) (fp : List Addr), Room k A → PD (gcx X s H (genEnv scope cl C code builtinsNs X.env) N' A fp) elt f)
    (hs : ∀ v, genFold iter X.env v = pure v := by intro _; rfl)
    (hst : starEach [.GeneratorExp elt [⟨tg, iter, ifs, 0⟩] scope pos] X.env = (false, eval (.GeneratorExp elt [⟨tg, iter, ifs, 0⟩] scope pos) X.env) :: starEach [] X.env := by rfl) :
    PD X (.Call (.Name "any" p) [.GeneratorExp elt [⟨tg, iter, ifs, 0⟩] scope pos] [] cpos) (fAnyG true fi bd t f js) :=
  pe_imp (pe_anyG hr TB.1 hcode S hgl hm hi hg ht he hs hst) fun σ H Q h => any_imp TB.2 hgd hv hj (fun b H' Nx z => ⟨b, rfl, by cases b <;> simpa using z⟩) h
theorem pd_allG [Tbs] (hgd : GD X.K g bd is) (hv : ∀ i ∈ is, i ∈ own) (hj : ∀ i ∈ own, js[i]? = some none) (hr : Room (k + 1) X.A) (TB : TabB X.base X.mg c P ∧ P ∈ Tbs.T) (hcode : X.env.code = .ref c) (S : GScp X.N N' js X.env.scope scope) (hgl : Gl X "all") (hm : X.mg "all" = none) (hi : PDI X tg iter fi)
    (hg : ∀ (s : Shared) (H : Hp) (C : Addr) (cl : List (Str × Addr)) (code : Value) (A : Around) (fp : List Addr), Room k A → PG (gcx X s H (genEnv scope cl C code builtinsNs X.env) N' A fp) tg g)
    (ht : ∀ (s : Shared) (H : Hp) (C : Addr) (cl : List (Str × Addr)) (code : Value) (A : Around) (fp : List Addr), Room k A → PDTs (gcx X s H (genEnv scope cl C code builtinsNs X.env) N' A fp) ifs t)
    (he : ∀ (s : Shared) (H : Hp) (C : Addr) (cl : List (Str × Addr)) (code : Value) (A : Around) (fp : List Addr), Room k A → PD (gcx X s H (genEnv scope cl C code builtinsNs X.env) N' A fp) elt f)
    (hs : ∀ v, genFold iter X.env v = pure v := by intro _; rfl)
    (hb : bootBuiltins "all" = some (.builtin "all") := by decide +kernel)
    (hst : starEach [.GeneratorExp elt [⟨tg, iter, ifs, 0⟩] scope pos] X.env = (false, eval (.GeneratorExp elt [⟨tg, iter, ifs, 0⟩] scope pos) X.env) :: starEach [] X.env := by rfl) :
    PD X (.Call (.Name "all" p) [.GeneratorExp elt [⟨tg, iter, ifs, 0⟩] scope pos] [] cpos) (fAnyG false fi bd t f js) :=
  pe_imp (pe_allG hr TB.1 hcode S hgl hm hb hi hg ht he hs hst) fun σ H Q h => any_imp TB.2 hgd hv hj (fun b H' Nx z => ⟨b, rfl, by cases b <;> simpa using z⟩) h
end
end Dn

namespace Dn
open PySem L2 PySem.Spec PyProof.Rows Gx GxR

/-- a def as it stands behind the top, its code object at c -/
structure DfG (K : PySem.W.Frag) (mg : Str → Option Value) (x : Str) (st : Stmt) (ps : List Str) (c : Addr) : Prop where
  ex : ∃ (f : Addr) (oc : Value) (od : Option Addr) (kV doc pm : Value) (an : Option Addr) (ct : Value) (osl : Array (Option Value)),
    K.lookup f = some ⟨oc, od, .func (PySem.W.fnOf x x (defArgs st) (defBody st) (defScope st) .none kV doc pm an (.ref c) ct), osl⟩ ∧ PySem.W.codeIn K (.ref c) x = true ∧ PySem.W.keepIn K (.ref f) = true ∧ mg x = some (.ref f) ∧
    L2.Binds K (PySem.W.fnOf x x (defArgs st) (defBody st) (defScope st) .none kV doc pm an (.ref c) ct) ps []
section
variable {P : Program} {w : World} {K : PySem.W.Frag} {mg : Str → Option Value} {base : Heap} {x : Str} {st : Stmt}
theorem DfG.df {ps : List Str} {c : Addr} (D : DfG K mg x st ps c) : Df K mg x st ps := by
  obtain ⟨f, oc, od, kV, doc, pm, an, ct, osl, l, h, k, m, b⟩ := D.ex
  exact ⟨f, _, fun_mk l h k, m, b⟩
theorem kn_ofG [Tbs] {N ps : List Str} {k : Nat} {c : Addr} {g : Rho → Option Out} (D : DfG K mg x st ps c) (S : FnScope N ps (defScope st))
    (hb : ∀ (f : Addr) (A : Around) (outer : List Env) (s : Shared) (H : Hp) (E : XK), Room k (A.deeper (envOfC x (defScope st) s.heap.objs.size f (.ref c))) → PSDs (cxOf CX0 P w K mg base N x (defScope st) f (.ref c) A outer s H E).nox (defBody st) g) :
    Kn P w K mg base (k + 1) ps.length x (fnD N.length g) := by
  obtain ⟨f, oc, od, kV, doc, pm, an, ct, osl, l, hcd, kp, m, b⟩ := D.ex
  refine ⟨f, _, ps, ?_, m, kp, b⟩
  refine fn_of l hcd S (fun vs H Q E ⟨B, ds, d, h1, h2, h3, _⟩ => by rw [dpAll_len h2, h3]) fun A outer s H vs Q E hr ⟨B, ds, d, h1, h2, h3, h4, q⟩ => ?_
  refine ⟨_, (hb f A outer s H E hr).nox, B, H, startR N.length ds, ?_⟩
  unfold fnD retD at h4
  split at h4
  · rename_i o ρ' e
    cases h4
    exact ⟨_, ⟨B, Tr.refl h1.s, sl_start h1 h2⟩, e, fun v σ' B' H' t _ dd => q v B' H' t dd⟩
  · rename_i o ρ e
    cases h4
    exact ⟨_, ⟨B, Tr.refl h1.s, sl_start h1 h2⟩, e, fun σ' H' ⟨B', t, _⟩ => q .non B' H' t .non⟩
  · cases h4
end
theorem walk_tab {l : PySem.W.OpenLaw} {n k : Nat} {q : Program} {loose : List Str} {XP : (Str → Option Value) → Heap → Prop} {YP : World → Heap → Prop} {d : DefRec} {K : Params → PySem.W.Frag} {CX : World → CXT} {x : Str}
    (hn : l.most = some n) (hn2 : n ≤ sizeLine) (hdf : d.params.defaults = []) (hr : Room k callerA) (hY : ∀ (w : World) (h : Heap), YP w h → (K w.params).In h)
    (F : ∀ (w : World) (mg : Str → Option Value) (fa : Addr) (h : Heap), YP w h → (K w.params).In h → h.Ns mainGlobals mg → mg d.name = some (.ref fa) →
      (∀ (y : Str) (e : DefRec) (c P : Addr), (recsOf q).find? (fun e => e.name == y) = some e → PySem.W.tabIn (K w.params) y = some (c, P) → PySem.W.CodeHd h c P ∧ h.get? P = some { cls := .none, data := .fields #[] }) → LamX.LawAtS l w (K w.params) (CX w) k n x mg fa h)
    (hCX : ∀ (w : World) (H : Hp) (s : Shared) (e : Value) (s' : Shared), CX w [] H s (fun _ _ _ => False) e s' → False) :
    PySem.W.WalkO q loose XP YP l.row.toRowW d [] (fun f vs => PySem.call f vs) := by
  refine Att.attach_callB hn hdf fun w s₀ s₁ mg mb fa o pm cd doc a vs ns G Y ho hd hcd hmg hobj hints hlen hbits hg => ?_
  have KX := hY w _ Y
  obtain ⟨fd, cs, sp, hT, nT, C, hb, hsp, hF⟩ := F w mg fa _ Y KX G.T.g hmg (fun y e c P e1 e2 => PySem.W.tab_of G.T KX e1 e2)
  exact LamX.law_callTs KX G.T.g G.T.b G.T.builtins G.T.nolimit hg hT nT C G.T.bmain hobj hints (Nat.le_trans hlen hn2) hr hF hb (fun H hH hS => hsp H a ns hlen hbits hH hS) fun H e s' => hCX w H s₁ e s'
end Dn

namespace Gx
open PySem L2 PySem.Spec PyProof.Rows
def isFn : ScopeKind → Bool
  | .function => true
  | _ => false
def gscpC (N N' : List Str) (js : List (Option Nat)) (sc scope : Scope) : Bool :=
  (isFn scope.kind && (!scope.isCoroutine && decide (scope.names.lookup (".0" : Str) = some NameKind.local))) && (decide (js.length = N'.length) &&
    (scope.names.all (fun y => decide (y.2 ≠ .cell) && (decide (scope.names.lookup y.1 = some y.2) && (decide (y.2 ≠ .free) || (decide (sc.names.lookup y.1 = some .cell) || decide (sc.names.lookup y.1 = some .free))))) &&
      (List.range N'.length).all (fun i => match N'[i]?, js[i]? with
        | some x, some (some j) => decide (N[j]? = some x) && decide (scope.names.lookup x = some .free)
        | _, _ => true)))
theorem gscp_by {N N' : List Str} {js : List (Option Nat)} {sc scope : Scope} (h : gscpC N N' js sc scope = true) : GScp N N' js sc scope := by
  unfold gscpC at h
  simp only [Bool.and_eq_true, List.all_eq_true, decide_eq_true_eq, Bool.not_eq_true', Bool.or_eq_true] at h
  obtain ⟨⟨h1, h2, h3⟩, h4, h5, h6⟩ := h
  refine ⟨?_, h2, fun y hy => (h5 y hy).1, h3, fun y hy => (h5 y hy).2.1, fun y hy e => ?_, h4, fun i j x e1 e2 => ?_⟩
  · unfold isFn at h1
    split at h1
    · assumption
    · cases h1
  · rcases (h5 y hy).2.2 with z | z
    · exact absurd e z
    · exact z
  · have q := h6 i (List.mem_range.mpr (List.getElem?_eq_some_iff.mp e1).1)
    simp only [e1, e2, Bool.and_eq_true, decide_eq_true_eq] at q
    exact q
end Gx

namespace Dn
open PySem L2 PySem.Spec PyProof.Rows
/-- a constant of the module -/
structure Cn [Tbs] (K : PySem.W.Frag) (mg : Str → Option Value) (x : Str) (d : PyData) : Prop where
  ex : ∃ v u, mg x = some u ∧ RelV v u ∧ ∀ H, Dq K H v d
theorem pd_gl [Tbs] {X : Cx} {x : Str} {d : PyData} {pos : Pos} (h : Cn X.K X.mg x d) (hg : Gl X x := by rfl) (hd : (x == ("__debug__" : Str)) = false := by decide) : PD X (.Name x pos) (fC d) := by
  obtain ⟨v, u, hm, r, q⟩ := h.ex
  refine pe_imp (pe_glob hg hm r hd) fun σ H Q ⟨H0, B, ρ, d', s, hf, k⟩ => ?_
  cases hf
  exact k v B H (Tr.refl s.bh) (q B)
end Dn

namespace Gx
open PySem PySem.TypeEq
open Sem (wp)
theorem slot_type_ne : Slot "type" (cmpInfo .NotEq).2.1 "object.__ne__" :=
  .of (owner := "object") (n := "__ne__") (by rw [typeLookup_type, builtinLookup_eq_fast]; kernel_rfl) (by decide +kernel) (by decide +kernel) (by decide +kernel)
    (by first | exact .inl (by decide +kernel) | exact .inr (by decide +kernel)) (by rw [isSubtype_type]; kernel_rfl)
theorem slot_type_ne_refl : Slot "type" (cmpInfo .NotEq).2.2 "object.__ne__" :=
  .of (owner := "object") (n := "__ne__") (by rw [typeLookup_type, builtinLookup_eq_fast]; kernel_rfl) (by decide +kernel) (by decide +kernel) (by decide +kernel)
    (by first | exact .inl (by decide +kernel) | exact .inr (by decide +kernel)) (by rw [isSubtype_type]; kernel_rfl)
section
variable {prog : Program} {w : World} {A : Around} {E : Value → Shared → Prop} {s : Shared}
theorem ne_call {X Y : String} {r : Value} (hX : ∀ s' : Shared, s'.TypeIs (.type X) "type") (hr : Gives (Builtin.«object.__eq__» ⟨[.type X, .type Y], []⟩) (.val r)) {out : Value} (ho : (r = .notImplemented ∧ out = .notImplemented) ∨ ∃ b, r = .bool b ∧ out = .bool (!b)) {Q : Value → Shared → Prop} (hQ : Q out s) :
    wpAny (model prog w) A (call (.builtin "object.__ne__") [.type X, .type Y]) Q E s := by
  refine wpAny_call_entry slot_type_ne (hX s) PySem.F.cmpEntry_ne ?_ (PySem.F.cmpArgs_ne _ _)
  unfold Builtin.«object.__ne__»
  have hsp : ∀ {Q' : Option Value → Shared → Prop}, Q' (some r) s → wpAny (model prog w) A.in1 (callSpecialIfBound? (.type X) "__eq__" [.type Y]) Q' E s := fun h =>
    wpAny_callSpecialIfBound?_slot (hX s) slot_type_eq (call_gives slot_type_eq (hX s) F.entry_object_eq (F.args_object_eq_2 _ _) hr h)
  rcases ho with ⟨rfl, rfl⟩ | ⟨b, rfl, rfl⟩
  · repeat (first | with_reducible refine wpAny_cRoomFor_or (.inl rfl) ?_ | with_reducible refine hsp ?_ | wp_step)
    exact ⟨_, rfl, hQ⟩
  · repeat (first | with_reducible refine wpAny_cRoomFor_or (.inl rfl) ?_ | with_reducible refine hsp ?_ | wp_step)
    exact ⟨_, rfl, hQ⟩
end
section
variable {M : Model} {A : Around} {E : Value → Shared → Prop} {s : Shared}
theorem rc_ne_same_decline {a b : Value} {T id : String} {k : Bool} {Q : Value → Shared → Prop} (ha : ∀ s' : Shared, s'.TypeIs a T) (hb : ∀ s' : Shared, s'.TypeIs b T)
    (h1 : Slot T (cmpInfo .NotEq).2.1 id) (h2 : Slot T (cmpInfo .NotEq).2.2 id) (hv : [a, b].any Value.onHeap = false) (hk : isSame a b = pure k)
    (hc : wpAny M A (call (.builtin id) [a, b]) (fun v s₁ => v = .notImplemented ∧ wpAny M A (call (.builtin id) [b, a]) (fun v s₂ => v = .notImplemented ∧ Q (.bool (!k)) s₂) E s₁) E s) :
    wpAny M A (richCompare .NotEq a b) Q E s := by
  rcases hi : cmpInfo CmpOp.NotEq with ⟨sym, f, r⟩
  rw [hi] at h1 h2
  simp only [richCompare, hi, (ha s).oneThing_none]
  try with_reducible refine wpAny_holding ?_
  refine wpAny_bind (wpAny_cRoomFor_or (.inl hv) ?_)
  refine wpAny_bind (wpAny_typeOf (ha s) (wpAny_bind (wpAny_typeOf (hb s) ?_)))
  simp only [bne_self_eq_false, Bool.false_eq_true, if_false, pure_bind, Bool.not_false, if_true]
  refine wpAny_bind (m := tryCompare a _ b) (wpAny_tryCompare_declines (ha s) h1 (wpAny_mono hc (fun v s₁ h₁ => ⟨h₁.1, ?_⟩) fun _ _ x => x))
  refine wpAny_bind (m := tryCompare b _ a) (wpAny_tryCompare_declines (hb s₁) h2 (wpAny_mono h₁.2 (fun v s₂ h₂ => ⟨h₂.1, ?_⟩) fun _ _ x => x))
  refine wpAny_bind (wpAny_rule (wpAny_bind (wpAny_of_eq hk (wpAny_pure h₂.2))))
end
section
variable {prog : Program} {w : World} {A : Around} {E : Value → Shared → Prop} {s : Shared} {Q : Value → Shared → Prop}
theorem ne_type_same {X : String} (hX : ∀ s' : Shared, s'.TypeIs (.type X) "type") (h : Q (.bool false) s) : wpAny (model prog w) A (compareOp .NotEq (.type X) (.type X)) Q E s := by
  show wpAny _ A (richCompare .NotEq _ _) Q E s
  exact wpAny_richCompare_same (T := "type") (hX s) (hX s) slot_type_ne (ne_call hX (object_eq_same rfl (by simp)) (.inr ⟨true, rfl, rfl⟩) ⟨(by intro e; cases e), h⟩)
theorem ne_type_other {X Y : String} (hX : ∀ s' : Shared, s'.TypeIs (.type X) "type") (hY : ∀ s' : Shared, s'.TypeIs (.type Y) "type") (hne : (Value.type X == Value.type Y) = false) (h : Q (.bool true) s) : wpAny (model prog w) A (compareOp .NotEq (.type X) (.type Y)) Q E s := by
  have hne' : (Value.type Y == Value.type X) = false := by
    rw [Bool.eq_false_iff] at hne ⊢
    intro e
    exact hne (by rw [beq_iff_eq] at e ⊢; exact e.symm)
  show wpAny _ A (richCompare .NotEq _ _) Q E s
  exact rc_ne_same_decline (T := "type") (k := false) hX hY slot_type_ne slot_type_ne_refl rfl (by rw [isSame_plain rfl, hne])
    (ne_call hX (object_eq_other rfl hne) (.inl ⟨rfl, rfl⟩) ⟨rfl, ne_call hY (object_eq_other rfl hne') (.inl ⟨rfl, rfl⟩) ⟨rfl, h⟩⟩)
end
section
open L2 PySem.Spec PyProof.Rows
variable {X : Cx}
def TyGood (T : String) : Prop := ∀ s' : Shared, s'.TypeIs (.type T) "type"
theorem op_eqTyp : OpR X (compareOp .Eq) (fun x y H Q => ∃ m n, x = .ty m ∧ y = .ty n ∧ TyGood m ∧ TyGood n ∧ Q (.bl (decide (m = n))) H) := by
  intro pins s σ H x y v u Q I rx ry h
  obtain ⟨m, n, rfl, rfl, gm, gn, q⟩ := h
  cases (show v = Value.type m from rx)
  cases (show u = Value.type n from ry)
  by_cases e : m = n
  · subst e
    exact eq_type_same gm ⟨.bl true, H, I, rfl, by simpa using q⟩
  · exact eq_type_other gm gn (by rw [ty_beq]; simpa using e) ⟨.bl false, H, I, rfl, by simpa [e] using q⟩
theorem op_neTyp : OpR X (compareOp .NotEq) (fun x y H Q => ∃ m n, x = .ty m ∧ y = .ty n ∧ TyGood m ∧ TyGood n ∧ Q (.bl (!decide (m = n))) H) := by
  intro pins s σ H x y v u Q I rx ry h
  obtain ⟨m, n, rfl, rfl, gm, gn, q⟩ := h
  cases (show v = Value.type m from rx)
  cases (show u = Value.type n from ry)
  by_cases e : m = n
  · subst e
    exact ne_type_same gm ⟨.bl false, H, I, rfl, by simpa using q⟩
  · exact ne_type_other gm gn (by rw [ty_beq]; simpa using e) ⟨.bl true, H, I, rfl, by simpa [e] using q⟩
end
end Gx

namespace Dn
open PySem L2 PySem.Spec PyProof.Rows Gx

/-! ### type(e) == T, type(e) != T -/
theorem tyGood (d : PyData) : TyGood (tyN d) := by
  cases d <;> first | exact TypeEq.meta_NoneType | exact TypeEq.meta_bool | exact TypeEq.meta_int | exact TypeEq.meta_str | exact TypeEq.meta_list | exact TypeEq.meta_tuple | exact TypeEq.meta_dict
theorem tyB_of [Tbs] {K : PySem.W.Frag} {B H : Hp} {v : V} {d : PyData} (s : Same B H) (h : Dq K B v d) (hb : bareD d = true) : TyB K H v (tyN d) := by
  cases h with
  | non => exact .non
  | bl b => exact .bl b
  | int i => exact .int i
  | str x => exact .str x
  | lst h a => exact .lst (sqL_mono s h)
  | tup h a => exact .tup (sqT_mono s h)
  | emp h => exact .dK (s _ _ h)
  | ins h a => cases hb
def tyEqD (T : String) (x : PyData) : Option PyData := if bareD x = true then some (.bool (decide (tyN x = T))) else none
def tyNeD (T : String) (x : PyData) : Option PyData := if bareD x = true then some (.bool (!decide (tyN x = T))) else none
section
variable {X : Cx} {e e2 : Expr} {f : Rho → Option PyData} {T : String} {p cpos pos : Pos}
theorem ty_imp [Tbs] {op : Bool} (gT : TyGood T) (he : ∀ σ H Q, tD X.K f σ H Q → tD X.K f σ H Q) : ∀ σ H Q, tD X.K (f1 (if op then tyEqD T else tyNeD T) f) σ H Q →
    tOp (if op then (fun x y H Q => ∃ m n, x = V.ty m ∧ y = .ty n ∧ TyGood m ∧ TyGood n ∧ Q (.bl (decide (m = n))) H) else (fun x y H Q => ∃ m n, x = V.ty m ∧ y = .ty n ∧ TyGood m ∧ TyGood n ∧ Q (.bl (!decide (m = n))) H)) (tCB (rTyp X.K) (tCons (tD X.K f) tNil)) (tC (.ty T)) σ H Q := fun σ H Q ⟨H0, B, ρ, d, s, hf, q⟩ => by
  obtain ⟨x, hx, hf⟩ := bind_some hf
  have hbr : bareD x = true := by
    cases op with
    | true => exact (ite_some (show (if bareD x = true then some (PyData.bool (decide (tyN x = T))) else none) = some d from hf)).1
    | false => exact (ite_some (show (if bareD x = true then some (PyData.bool (!decide (tyN x = T))) else none) = some d from hf)).1
  refine ⟨H0, B, ρ, x, s, hx, fun v B1 H1 t1 d1 => ⟨v, tyN x, rfl, tyB_of t1.t d1 hbr, ?_⟩⟩
  cases op with
  | true => obtain ⟨_, rfl⟩ := ite_some (show (if bareD x = true then some (PyData.bool (decide (tyN x = T))) else none) = some d from hf); exact ⟨tyN x, T, rfl, rfl, tyGood x, gT, q _ B1 H1 t1 (.bl _)⟩
  | false => obtain ⟨_, rfl⟩ := ite_some (show (if bareD x = true then some (PyData.bool (!decide (tyN x = T))) else none) = some d from hf); exact ⟨tyN x, T, rfl, rfl, tyGood x, gT, q _ B1 H1 t1 (.bl _)⟩
theorem boot_type : bootBuiltins "type" = some (.type "type") := by decide +kernel
theorem pd_tyEq [Tbs] (hg : Gl X "type") (hm : X.mg "type" = none) (he : PD X e f) (h2 : PE X e2 (tC (.ty T))) (gT : TyGood T) (hk : behindInMarks .Eq e2 = false) (hs : starEach [e] X.env = (false, eval e X.env) :: starEach [] X.env := by rfl) (hpl : (backTo cpos (starEach [] X.env)).any (·.1) = false := by rfl) :
    PD X (.Compare (.Call (.Name "type" p) [e] [] cpos) [.Eq] [e2] pos) (f1 (tyEqD T) f) := pe_imp (pe_cmpR op_eqTyp (pe_callTy call_type1 hg hm boot_type (pa_cons he pa_nil hs) (by decide) (by decide) hs hpl) h2 hk) (ty_imp (op := true) gT fun _ _ _ z => z)
theorem pdt_tyEq [Tbs] (hg : Gl X "type") (hm : X.mg "type" = none) (he : PD X e f) (h2 : PE X e2 (tC (.ty T))) (gT : TyGood T) (hk : behindInMarks .Eq e2 = false) (hs : starEach [e] X.env = (false, eval e X.env) :: starEach [] X.env := by rfl) (hpl : (backTo cpos (starEach [] X.env)).any (·.1) = false := by rfl) :
    PDT X (.Compare (.Call (.Name "type" p) [e] [] cpos) [.Eq] [e2] pos) (fB (f1 (tyEqD T) f)) := pt_imp (pt_cmpR op_eqTyp (pe_callTy call_type1 hg hm boot_type (pa_cons he pa_nil hs) (by decide) (by decide) hs hpl) h2 hk) (of_test (ty_imp (op := true) gT fun _ _ _ z => z))
theorem pd_tyNe [Tbs] (hg : Gl X "type") (hm : X.mg "type" = none) (he : PD X e f) (h2 : PE X e2 (tC (.ty T))) (gT : TyGood T) (hk : behindInMarks .NotEq e2 = false) (hs : starEach [e] X.env = (false, eval e X.env) :: starEach [] X.env := by rfl) (hpl : (backTo cpos (starEach [] X.env)).any (·.1) = false := by rfl) :
    PD X (.Compare (.Call (.Name "type" p) [e] [] cpos) [.NotEq] [e2] pos) (f1 (tyNeD T) f) := pe_imp (pe_cmpR op_neTyp (pe_callTy call_type1 hg hm boot_type (pa_cons he pa_nil hs) (by decide) (by decide) hs hpl) h2 hk) (ty_imp (op := false) gT fun _ _ _ z => z)
theorem pdt_tyNe [Tbs] (hg : Gl X "type") (hm : X.mg "type" = none) (he : PD X e f) (h2 : PE X e2 (tC (.ty T))) (gT : TyGood T) (hk : behindInMarks .NotEq e2 = false) (hs : starEach [e] X.env = (false, eval e X.env) :: starEach [] X.env := by rfl) (hpl : (backTo cpos (starEach [] X.env)).any (·.1) = false := by rfl) :
    PDT X (.Compare (.Call (.Name "type" p) [e] [] cpos) [.NotEq] [e2] pos) (fB (f1 (tyNeD T) f)) := pt_imp (pt_cmpR op_neTyp (pe_callTy call_type1 hg hm boot_type (pa_cons he pa_nil hs) (by decide) (by decide) hs hpl) h2 hk) (of_test (ty_imp (op := false) gT fun _ _ _ z => z))

/-! ### a op b op' c -/
variable {a b c : Expr} {fa fb fc : Rho → Option PyData}
def fCh (g g' : PyData → PyData → Option PyData) (fa fb fc : Rho → Option PyData) : Rho → Option PyData := fun ρ => (fa ρ).bind fun x => (fb ρ).bind fun y => (g x y).bind fun z => match z with
  | .bool true => (fc ρ).bind fun w => g' y w
  | .bool false => some (.bool false)
  | _ => none
theorem chain_imp [Tbs] {K : PySem.W.Frag} {r r' : R2} {g g' : PyData → PyData → Option PyData} (hr : RD K r g) (hr' : RD K r' g') : ∀ σ H Q, tD K (fCh g g' fa fb fc) σ H Q → tChain r r' (tD K fa) (tD K fb) (tD K fc) σ H Q := fun σ H Q ⟨H0, B, ρ, d, s, hf, q⟩ => by
  obtain ⟨x, hx, hf⟩ := bind_some hf
  obtain ⟨y, hy, hf⟩ := bind_some hf
  obtain ⟨z, hz, hf⟩ := bind_some hf
  refine ⟨H0, B, ρ, x, s, hx, fun v B1 H1 t1 d1 => ?_⟩
  have s1 := s.tr t1
  refine ⟨H0, B1, ρ, y, s1, hy, fun w B2 H2 t2 d2 => ?_⟩
  have s2 := s1.tr t2
  refine hr B2 H2 v w x y z _ t2.t (dp_mono t2.b d1) d2 hz fun u B3 H3 t3 d3 => ?_
  have s3 := s2.tr t3
  have T3 := (t1.trans t2).trans t3
  split at hf
  · cases d3
    refine ⟨true, rfl, ?_⟩
    rw [if_pos rfl]
    obtain ⟨m, hm, hf⟩ := bind_some hf
    refine ⟨H0, B3, ρ, m, s3, hm, fun n B4 H4 t4 d4 => ?_⟩
    exact hr' B4 H4 w n y m d Q t4.t (dp_mono t4.b (dp_mono t3.b d2)) d4 hf fun o B5 H5 t5 d5 => q o B5 H5 ((T3.trans t4).trans t5) d5
  · cases d3
    cases hf
    refine ⟨false, rfl, ?_⟩
    rw [if_neg Bool.false_ne_true]
    exact q _ B3 H3 T3 (.bl _)
  · cases hf
theorem pd_chain [Tbs] {op op' : CmpOp} {r r' : R2} {g g' : PyData → PyData → Option PyData} (ho : OpR X (compareOp op) r) (hr : RD X.K r g) (ho' : OpR X (compareOp op') r') (hr' : RD X.K r' g') (ha : PD X a fa) (hb : PD X b fb) (hc : PD X c fc)
    (hm : lastMarks [op, op'] [b, c] = false := by with_unfolding_all rfl) : PD X (.Compare a [op, op'] [b, c] pos) (fCh g g' fa fb fc) := pe_imp (pe_chain ho ho' ha hb hc hm) (chain_imp hr hr')
theorem pdt_chain [Tbs] {op op' : CmpOp} {r r' : R2} {g g' : PyData → PyData → Option PyData} (ho : OpR X (compareOp op) r) (hr : RD X.K r g) (ho' : OpR X (compareOp op') r') (hr' : RD X.K r' g') (ha : PD X a fa) (hb : PD X b fb) (hc : PD X c fc)
    (hm : lastMarks [op, op'] [b, c] = false := by with_unfolding_all rfl) : PDT X (.Compare a [op, op'] [b, c] pos) (fB (fCh g g' fa fb fc)) := pt_imp (pt_chain ho ho' ha hb hc hm) (of_test (chain_imp hr hr'))
end
end Dn

set_option maxHeartbeats 1000000
namespace PySem
theorem list_extendW (l : Addr) (items : Array Value) (n : Nat) (b : Addr) (items2 : Array Value) (n2 : Nat) (dd : Option Addr) (sl : Array (Option Value)) (hc0 : ¬(!items.isEmpty && Builtin.List.listTooLong (items.size + items2.size)) = true) (hc1 : items.size ≤ sizeLine) (hs2 : items.size + items2.size ≤ sizeLine + 1) :
    Meets (Builtin.«list.extend» ⟨[.ref l, .ref b], []⟩) (fun _ R s => s.heap.get? l = some { cls := .type "list", dict := none, data := .seq items n, slots := #[] } ∧ s.heap.get? b = some { cls := .type "list", dict := dd, data := .seq items2 n2, slots := sl } ∧ R (.ok (.ret Value.none)) { s with heap := s.heap.update l (Obj.mapSeq fun x => x ++ items2), toks := s.toks }) :=
  .of_wp fun prog w A R s h => by
    obtain ⟨hp, g, d, tk, os⟩ := s; obtain ⟨hl, hb, h⟩ := h; have f1 := AutoSeq1.idx_int; have f2 := AutoSeq1.sub_tuple_tuple; have f3 := AutoSeq1.sub_list_list; have f4 := AutoSeq1.sub_tuple_list; have f5 := AutoSeq1.sub_list_tuple
    have hz' : (items ++ items2).size ≤ sizeLine + 1 := by rw [Array.size_append]; exact hs2
    wp_walk using (wpAny_updateSeq hl rfl (hz := hc1) (_hz' := hz')), wpAny_loadPart' hl, wpAny_loadPart' hb
    exact ⟨_, rfl, h⟩
end PySem
namespace Dn
open PySem L2 PySem.Spec PyProof.Rows Gx
def rExtG (K : PySem.W.Frag) : V → List V → Hp → VK → Prop := fun x vs H Q => ∃ l b xs zs, x = .ref l ∧ vs = [.ref b] ∧ H l = some (.lst xs) ∧ SqL K H b zs ∧ xs.length + zs.length ≤ sizeLine ∧ Q .non (upd H l (.lst (xs ++ zs)))
section
variable {X : Cx} {st : Stmt} {f : Rho → Option PyData}
theorem mt_extG : MtM X "list.extend" (rExtG X.K) := by
  intro pins s σ H x vs v us Q I rx rv h
  obtain ⟨l, b, xs, zs, rfl, rfl, hH, hB, hz, q⟩ := h
  cases rx
  obtain ⟨u, rfl, ru⟩ := rv.one
  cases ru
  obtain ⟨z, its, n, r, hl, e⟩ := I.lstM hH
  obtain ⟨jts, r2, p2, z2⟩ := I.list hB
  obtain ⟨⟨c2, d2, t2, s2⟩, o2, hc2, n2, hd2⟩ := p2.isList
  simp only at hc2 hd2
  subst hc2 hd2
  have g1 := r.length
  have g2 := r2.length
  have hsz : its.toArray.size + jts.toArray.size ≤ sizeLine := by simp; omega
  have hlong : ¬ (!its.toArray.isEmpty && Builtin.List.listTooLong (its.toArray.size + jts.toArray.size)) = true := by
    rw [notLongL hsz, Bool.and_false]
    exact Bool.false_ne_true
  refine call_meets PySem.F.slot_list_extend ⟨_, e, rfl⟩ PySem.F.entry_list_extend (PySem.F.args_list_extend_2 _ _)
    (list_extendW l its.toArray n b jts.toArray n2 d2 s2 hlong (by simp; omega) (by omega)) ⟨e, o2, ?_⟩
  refine ⟨.non, _, I.lset (its' := its ++ jts) hH e (by simp) (r.append r2) ?_, rfl, q⟩
  rw [List.length_append]
  omega
theorem psd_ext [Tbs] {i : Nat} (h : PS X st (tDrop (tBM X.K "list" (rExtG X.K) (tVar i) (tCons (tD X.K f) tNil)))) : PSD X st (gExt i f) := ps_imp h fun D σ H ⟨B0, H0, ρ, o, ⟨B, t, s⟩, hf, q⟩ => by
  unfold gExt at hf
  split at hf
  · rename_i o xs hx
    obtain ⟨y, hy, hf⟩ := bind_some hf
    split at hf
    · rename_i ys
      obtain ⟨hl, rfl⟩ := ite_some hf
      obtain ⟨a, vs, h1, h2, h3, h4, h5, h6⟩ := s.ow hx
      refine ⟨.ref a, h1, .inl ⟨rfl, vs, SqL.of h4⟩, H0, B, ρ, _, s, hy, fun v B1 H1 t1 d1 => ?_⟩
      have s1 := s.tr t1
      have hb := t1.stay h2 h4
      cases d1 with
      | @lst _ ws _ hw aw =>
        have e5 := dpAll_len h5
        have e6 := dpAll_len aw
        refine ⟨a, _, vs, _, rfl, rfl, t1.h.l h4, sqL_mono t1.t hw, bigL_le (by omega), ?_⟩
        refine q _ _ ⟨B1, (t.trans t1).put hb h3, sl_grow s1 hx h1 hb h3 (dpAll_append (dpAll_mono t1.b h5) aw) h6⟩
    · cases hf
  · cases hf
end
end Dn

namespace Dn
open PySem L2 PySem.Spec PyProof.Rows Gx
/-! ### a constant dict of the module, its keys texts -/
structure Cd [Tbs] (K : PySem.W.Frag) (w : World) (mg : Str → Option Value) (x : Str) (kv : List (Str × PyData)) : Prop where
  ex : ∃ d es n, mg x = some (.ref d) ∧ L2.KDict K w d es n ∧ (∀ z p, kv.lookup z = some p → ∃ u v, PySem.W.nsIn K d z = some (some u) ∧ RelV v u ∧ ∀ H, Dq K H v p) ∧ ∀ z, kv.lookup z = none → PySem.W.nsIn K d z = some none
def inCD (kv : List (Str × PyData)) : PyData → Option PyData
  | .str z => some (.bool (kv.lookup z).isSome)
  | _ => none
def niCD (kv : List (Str × PyData)) : PyData → Option PyData
  | .str z => some (.bool (!(kv.lookup z).isSome))
  | _ => none
def ixCD (kv : List (Str × PyData)) : PyData → Option PyData
  | .str z => kv.lookup z
  | _ => none
section
variable {X : Cx} {a : Expr} {fa : Rho → Option PyData} {x : Str} {p pos : Pos} {kv : List (Str × PyData)}
theorem cd_ns [Tbs] {K : PySem.W.Frag} {d : Addr} (h1 : ∀ z p, kv.lookup z = some p → ∃ u v, PySem.W.nsIn K d z = some (some u) ∧ RelV v u ∧ ∀ H, Dq K H v p) (h2 : ∀ z, kv.lookup z = none → PySem.W.nsIn K d z = some none) (z : Str) : ∃ r, PySem.W.nsIn K d z = some r ∧ r.isSome = (kv.lookup z).isSome := by
  cases e : kv.lookup z with
  | none => exact ⟨none, h2 z e, rfl⟩
  | some p =>
    obtain ⟨u, v, h, _⟩ := h1 z p e
    exact ⟨some u, h, rfl⟩
theorem inC_imp [Tbs] {d : Addr} (h1 : ∀ z p, kv.lookup z = some p → ∃ u v, PySem.W.nsIn X.K d z = some (some u) ∧ RelV v u ∧ ∀ H, Dq X.K H v p) (h2 : ∀ z, kv.lookup z = none → PySem.W.nsIn X.K d z = some none) : ∀ σ H Q, tD X.K (f1 (inCD kv) fa) σ H Q →
    tOp (fun x y H Q => ∃ (z : Str) (r : Option Value), x = .str z ∧ y = .ref d ∧ PySem.W.nsIn X.K d z = some r ∧ Q (.bl r.isSome) H) (tD X.K fa) (tC (.ref d)) σ H Q := fun σ H Q ⟨H0, B, ρ, r, s, hf, q⟩ => by
  obtain ⟨y, hy, hf⟩ := bind_some hf
  unfold inCD at hf
  split at hf
  · rename_i z
    cases hf
    refine ⟨H0, B, ρ, _, s, hy, fun v B1 H1 t1 d1 => ?_⟩
    cases d1
    obtain ⟨r, e, er⟩ := cd_ns h1 h2 z
    exact ⟨z, r, rfl, rfl, e, by rw [er]; exact q _ B1 H1 t1 (.bl _)⟩
  · cases hf
theorem niC_imp [Tbs] {d : Addr} (h1 : ∀ z p, kv.lookup z = some p → ∃ u v, PySem.W.nsIn X.K d z = some (some u) ∧ RelV v u ∧ ∀ H, Dq X.K H v p) (h2 : ∀ z, kv.lookup z = none → PySem.W.nsIn X.K d z = some none) : ∀ σ H Q, tD X.K (f1 (niCD kv) fa) σ H Q →
    tOp (fun x y H Q => ∃ (z : Str) (r : Option Value), x = .str z ∧ y = .ref d ∧ PySem.W.nsIn X.K d z = some r ∧ Q (.bl (!r.isSome)) H) (tD X.K fa) (tC (.ref d)) σ H Q := fun σ H Q ⟨H0, B, ρ, r, s, hf, q⟩ => by
  obtain ⟨y, hy, hf⟩ := bind_some hf
  unfold niCD at hf
  split at hf
  · rename_i z
    cases hf
    refine ⟨H0, B, ρ, _, s, hy, fun v B1 H1 t1 d1 => ?_⟩
    cases d1
    obtain ⟨r, e, er⟩ := cd_ns h1 h2 z
    exact ⟨z, r, rfl, rfl, e, by rw [er]; exact q _ B1 H1 t1 (.bl _)⟩
  · cases hf
theorem pd_inC [Tbs] (h : Cd X.K X.w X.mg x kv) (ha : PD X a fa) (hg : Gl X x := by rfl) (hd : (x == ("__debug__" : Str)) = false := by decide) (hm : behindInMarks .In (.Name x p) = false := by rfl) : PD X (.Compare a [.In] [.Name x p] pos) (f1 (inCD kv) fa) := by
  obtain ⟨d, es, n, m, D, h1, h2⟩ := h.ex
  exact pe_imp (pe_cmpR (op_in_kd D) ha (pe_glob (v := .ref d) hg m rfl hd) hm) (inC_imp h1 h2)
theorem pdt_inC [Tbs] (h : Cd X.K X.w X.mg x kv) (ha : PD X a fa) (hg : Gl X x := by rfl) (hd : (x == ("__debug__" : Str)) = false := by decide) (hm : behindInMarks .In (.Name x p) = false := by rfl) : PDT X (.Compare a [.In] [.Name x p] pos) (fB (f1 (inCD kv) fa)) := by
  obtain ⟨d, es, n, m, D, h1, h2⟩ := h.ex
  exact pt_imp (pt_cmpR (op_in_kd D) ha (pe_glob (v := .ref d) hg m rfl hd) hm) (of_test (inC_imp h1 h2))
theorem pd_niC [Tbs] (h : Cd X.K X.w X.mg x kv) (ha : PD X a fa) (hg : Gl X x := by rfl) (hd : (x == ("__debug__" : Str)) = false := by decide) (hm : behindInMarks .NotIn (.Name x p) = false := by rfl) : PD X (.Compare a [.NotIn] [.Name x p] pos) (f1 (niCD kv) fa) := by
  obtain ⟨d, es, n, m, D, h1, h2⟩ := h.ex
  exact pe_imp (pe_cmpR (op_notIn_kd D) ha (pe_glob (v := .ref d) hg m rfl hd) hm) (niC_imp h1 h2)
theorem pdt_niC [Tbs] (h : Cd X.K X.w X.mg x kv) (ha : PD X a fa) (hg : Gl X x := by rfl) (hd : (x == ("__debug__" : Str)) = false := by decide) (hm : behindInMarks .NotIn (.Name x p) = false := by rfl) : PDT X (.Compare a [.NotIn] [.Name x p] pos) (fB (f1 (niCD kv) fa)) := by
  obtain ⟨d, es, n, m, D, h1, h2⟩ := h.ex
  exact pt_imp (pt_cmpR (op_notIn_kd D) ha (pe_glob (v := .ref d) hg m rfl hd) hm) (of_test (niC_imp h1 h2))
theorem pd_ixC [Tbs] (h : Cd X.K X.w X.mg x kv) (ha : PD X a fa) (hs : PlainIx a) (hg : Gl X x := by rfl) (hd : (x == ("__debug__" : Str)) = false := by decide) : PD X (.Subscript (.Name x p) a pos) (f1 (ixCD kv) fa) := by
  obtain ⟨d, es, n, m, D, h1, h2⟩ := h.ex
  refine pe_imp (pe_ix ix_kdict (pe_glob (v := .ref d) hg m rfl hd) ha hs) fun σ H Q ⟨H0, B, ρ, r, s, hf, q⟩ => ?_
  obtain ⟨y, hy, hf⟩ := bind_some hf
  unfold ixCD at hf
  split at hf
  · rename_i z
    obtain ⟨u, v, e, rv, dv⟩ := h1 z r hf
    refine ⟨H0, B, ρ, _, s, hy, fun w B1 H1 t1 d1 => ?_⟩
    cases d1
    exact ⟨d, z, v, rfl, rfl, ⟨es, n, u, D.at_, D.lit, e, rv⟩, q v B1 H1 t1 (dv B1)⟩
  · cases hf
end
end Dn

/-! sorted(set(xs)), xs a list of fewer than 63 texts: the texts, each once, rising -/
namespace Sx
open PySem PySem.Spec PyProof.Rows L2
abbrev sk (P : Program) (w : World) := PySem.strKind P w
abbrev txtOf (e : Int × Value) : Str := match e.2 with
  | .str k _ => k
  | _ => Str.empty
def Gd (w : World) (e : Int × Value) : Prop := ∃ k tk, e.2 = Value.str k tk ∧ e.1 = hashStr w k
/-- at a stands a set that can be walked, its members are M -/
def SR (w : World) (h : Heap) (a : Addr) (M : List Str) : Prop := ∃ o es ep t, h.get? a = some o ∧ o.ExactSet ∧ o.data = .set es ep t ∧ (∀ e ∈ es.toList, Gd w e) ∧ (es.toList.map txtOf).Perm M ∧ M.Nodup ∧
  M.length < scanBound ∧ t.fits es.size = true ∧ Ris t.place.toList ∧ (w.params.followText "set-order" = true ∨ t.led = true)
section
variable {P : Program} {w : World} {h h' : Heap} {a : Addr} {M : List Str}
theorem SR.go (R : SR w h a M) (k : ∀ o, h.get? a = some o → h'.get? a = some o) : SR w h' a M := let ⟨o, es, ep, t, ho, r⟩ := R; ⟨o, es, ep, t, k o ho, r⟩
theorem gd_is {e : Int × Value} (g : Gd w e) (k : Str) : (sk P w).is k e.2 = true ↔ txtOf e = k := by
  obtain ⟨k0, tk, e1, _⟩ := g
  constructor
  · intro z
    rw [e1] at z
    unfold txtOf
    rw [e1]
    exact (sk P w).inj _ _ _ (strKind_is P w k0 tk) z
  · intro z
    unfold txtOf at z
    rw [e1] at z ⊢
    subst z
    exact strKind_is P w _ tk
theorem gd_all {l : List (Int × Value)} (g : ∀ e ∈ l, Gd w e) : ElemsOf (sk P w) l := fun e he => let ⟨k, tk, e1, e2⟩ := g e he; ⟨⟨k, by rw [e1]; exact strKind_is P w k tk, e2⟩, by rw [e1]; rfl⟩
theorem gd_in {l : List (Int × Value)} (g : ∀ e ∈ l, Gd w e) (k : Str) : k ∈ l.map txtOf ↔ ∃ e ∈ l, (sk P w).is k e.2 = true := by
  rw [List.mem_map]
  exact ⟨fun ⟨e, he, q⟩ => ⟨e, he, (gd_is (g e he) k).2 q⟩, fun ⟨e, he, q⟩ => ⟨e, he, (gd_is (g e he) k).1 q⟩⟩
end
section
variable {P : Program} {w : World} {A : Around} {E : Value → Shared → Prop} {s : Shared} {a : Addr} {M : List Str}
theorem put_tail {g : Bool → Sem Unit} (hg : ∀ (b : Bool) (s₁ : Shared) (Q' : Unit → Shared → Prop), Q' () s₁ → wpAny (model P w) A (g b) Q' E s₁) {o : Obj} {es : Array (Int × Value)} {ep : Nat} {t : SetTable}
    (ho : s.heap.get? a = some o) (hex : o.ExactSet) (hd : o.data = .set es ep t) {es1 : Array (Int × Value)} {t2 : SetTable} {N : List Str} (g1 : ∀ e ∈ es1.toList, Gd w e) (p1 : (es1.toList.map txtOf).Perm N) (nN : N.Nodup) (bN : N.length < scanBound)
    (hf2 : t2.fits es1.size = true) (hr : Ris t2.place.toList) (hl : w.params.followText "set-order" = true ∨ t2.led = true) {dm : Bool} {R : Option Bool → Shared → Prop} (hR : ∀ h', Heap.SameBut a s.heap h' → SR w h' a N → R (some true) { s with heap := h' }) :
    wpAny (model P w) A (do storeSet a es1 t2; if (!dm && t2.tooFull) = true then (do g (relayAll t2 es1 (SetTable.grown es1.size)).2.2; storeSet a (relayAll t2 es1 (SetTable.grown es1.size)).1 (relayAll t2 es1 (SetTable.grown es1.size)).2.1; pure (some true)) else pure (some true)) R E s := by
  have z1 : es1.size = N.length := by rw [← Array.length_toList, ← p1.length_eq, List.length_map]
  have b1 : es1.size < scanBound := z1 ▸ bN
  refine wpAny_bind (wpAny_storeSet_of ho hd ?_ (fits_of_scanBound b1))
  have u1 := store_at (es' := es1) (t' := t2) ho hd
  have sb1 : Heap.SameBut a s.heap _ := Heap.SameBut.update s.heap a (Obj.putSet es1 t2)
  split
  · have pm := relayAll_perm t2 es1 (SetTable.grown es1.size)
    have f3 := relayAll_fits t2 es1 (SetTable.grown es1.size)
    have r3 := relayAll_ris t2 es1 (SetTable.grown es1.size)
    have l3 := relayAll_led t2 es1 (SetTable.grown es1.size)
    generalize relayAll t2 es1 (SetTable.grown es1.size) = Z at pm f3 r3 l3 ⊢
    obtain ⟨es2, t3, gave⟩ := Z
    dsimp only at pm f3 r3 l3 ⊢
    have z2 : es2.size = es1.size := by rw [← Array.length_toList, pm.length_eq, Array.length_toList]
    refine wpAny_bind (hg _ _ _ (wpAny_bind (wpAny_storeSet_of u1 rfl ?_ (fits_of_scanBound (by rw [z2]; exact b1)))))
    have u2 := store_at (es' := es2) (t' := t3) u1 rfl
    exact wpAny_pure (hR _ (sb1.trans (Heap.SameBut.update _ a _)) ⟨_, es2, _, t3, u2, hex, rfl, fun e he => g1 e (pm.mem_iff.mp he), (pm.map txtOf).trans p1, nN, bN, f3, r3, hl.imp id fun z => by rw [l3]; exact z⟩)
  · exact wpAny_pure (hR _ sb1 ⟨_, es1, _, t2, u1, hex, rfl, g1, p1, nN, bN, hf2, hr, hl⟩)
theorem put_hashed {k : Str} {tk : Tok} {Q : Bool → Shared → Prop} (R : SR w s.heap a M) (room : M.length + 1 < scanBound)
    (hQ : ∀ h' b, Heap.SameBut a s.heap h' → SR w h' a (if k ∈ M then M else k :: M) → Q b { s with heap := h' }) : wpAny (model P w) A (setAddHashed a (.str k tk) ((sk P w).hash k)) Q E s := by
  obtain ⟨o, es, ep, t, ho, hex, hd, g, pM, nM, bM, hf, hr, hl⟩ := R
  have key : (sk P w).is k (.str k tk) = true := strKind_is P w k tk
  have sc : (Value.str k tk).scannable = true := rfl
  have el : ElemsOf (sk P w) es.toList := gd_all g
  have zM : es.size = M.length := by rw [← Array.length_toList, ← pM.length_eq, List.length_map]
  unfold setAddHashed setAddHashedIn
  refine wpAny_holding (wpAny_bind (wpAny_setState_of ho hd hf ?_))
  dsimp only
  rw [byScan_of sc (by rw [zM]; exact bM) el]
  simp only [↓reduceIte]
  unfold setAddByScan
  refine wpAny_bind (wpAny_bind (wpAny_rule (wpAny_bind (wpAny_setScan_of key ho hd hf el ?_))))
  cases fi : List.findIdx? (fun e => (sk P w).is k e.2) es.toList with
  | some j =>
    dsimp only
    obtain ⟨hj, pj, _⟩ := List.findIdx?_eq_some_iff_getElem.mp fi
    have kM : k ∈ M := pM.mem_iff.mp ((gd_in (P := P) g k).2 ⟨es.toList[j], List.getElem_mem hj, pj⟩)
    refine wpAny_pure (wpAny_pure (hQ s.heap _ (Heap.SameBut.refl a s.heap) ?_))
    rw [if_pos kM]
    exact ⟨o, es, ep, t, ho, hex, hd, g, pM, nM, bM, hf, hr, hl⟩
  | none =>
    dsimp only
    have kn : k ∉ es.toList.map txtOf := fun z => by
      obtain ⟨e, he, q⟩ := (gd_in (P := P) g k).1 z
      have c := List.findIdx?_eq_none_iff.mp fi e he
      rw [q] at c; cases c
    have kM : k ∉ M := fun z => kn (pM.mem_iff.mpr z)
    have hgw : ∀ (b : Bool) {s₁ : Shared} {Q' : Unit → Shared → Prop}, Q' () s₁ → wpAny (model P w) A (match b with | true => rule "set.scan.the-table-gave-way" | false => pure ()) Q' E s₁ := fun b _ _ q => by cases b <;> first | exact wpAny_pure q | exact wpAny_rule q
    have pm := layNew_perm t es ((sk P w).hash k) (.str k tk)
    have f1 := layNew_fits t es ((sk P w).hash k) (.str k tk)
    have r1 := layNew_ris t es ((sk P w).hash k) (.str k tk) hr
    have l1 := layNew_led t es ((sk P w).hash k) (.str k tk)
    generalize layNew t es ((sk P w).hash k) (.str k tk) = Z at pm f1 r1 l1 ⊢
    obtain ⟨es1, t1, dm, gave⟩ := Z
    dsimp only at pm f1 r1 l1 ⊢
    rw [Array.toList_push] at pm
    have pc : es1.toList.Perm (((sk P w).hash k, Value.str k tk) :: es.toList) := pm.trans (List.perm_append_singleton _ _)
    have pk : (es1.toList.map txtOf).Perm (k :: M) := (pc.map txtOf).trans (pM.cons k)
    have g1 : ∀ e ∈ es1.toList, Gd w e := fun e he => by
      rcases List.mem_cons.mp (pc.mem_iff.mp he) with z | z
      · rw [z]; exact ⟨k, tk, rfl, rfl⟩
      · exact g e z
    have n1 : (k :: M).Nodup := List.nodup_cons.mpr ⟨kM, nM⟩
    have led1 : w.params.followText "set-order" = true ∨ t1.led = true := hl.imp id fun z => by rw [l1]; exact z
    have fin : ∀ h', Heap.SameBut a s.heap h' → SR w h' a (k :: M) → Q true { s with heap := h' } := fun h' sb r => hQ h' _ sb (by rw [if_neg kM]; exact r)
    refine wpAny_bind (hgw _ ?_)
    split
    · refine wpAny_bind ?_
      rw [hashByValue_scannable 8 sc]
      refine wpAny_pure (put_tail ?_ ho hex hd g1 pk n1 (by simpa using room) ?_ ?_ ?_ ?_)
      · intro b s₁ Q' q; cases b <;> first | exact wpAny_pure q | exact wpAny_rule q
      · first | (split <;> first | exact f1 | exact SetTable.fits_plain_off f1) | exact f1
      · first | (split <;> exact r1) | exact r1
      · first | (split <;> exact led1) | exact led1
      · intro h' sb r; dsimp only; exact wpAny_pure (fin h' sb r)
    · refine wpAny_bind (wpAny_pure ?_)
      simp only [↓reduceIte]
      refine put_tail ?_ ho hex hd g1 pk n1 (by simpa using room) f1 r1 led1 ?_
      · intro b s₁ Q' q; cases b <;> first | exact wpAny_pure q | exact wpAny_rule q
      · intro h' sb r; dsimp only; exact wpAny_pure (fin h' sb r)
end
end Sx

namespace Sx
open PySem PySem.Spec PyProof.Rows L2
/-- what is in after i of the texts -/
def got (xs : List Str) : Nat → List Str
  | 0 => []
  | i + 1 => if xs.getD i Str.empty ∈ got xs i then got xs i else xs.getD i Str.empty :: got xs i
theorem got_len (xs : List Str) : ∀ i, (got xs i).length ≤ i
  | 0 => Nat.le_refl _
  | i + 1 => by
    unfold got
    split
    · exact Nat.le_succ_of_le (got_len xs i)
    · exact Nat.succ_le_succ (got_len xs i)
theorem got_mem (xs : List Str) (z : Str) : ∀ i, i ≤ xs.length → (z ∈ got xs i ↔ z ∈ xs.take i)
  | 0, _ => by simp [got]
  | i + 1, h => by
    have hi : i < xs.length := h
    have e : xs.take (i + 1) = xs.take i ++ [xs.getD i Str.empty] := by
      rw [List.take_succ, List.getD_eq_getElem?_getD, List.getElem?_eq_getElem hi]; rfl
    have ih := got_mem xs z i (Nat.le_of_lt hi)
    have ih2 := got_mem xs (xs.getD i Str.empty) i (Nat.le_of_lt hi)
    unfold got
    rw [e, List.mem_append, List.mem_singleton]
    split
    · rename_i c
      rw [ih]
      exact ⟨.inl, fun q => q.elim id fun q => by rw [q]; exact ih2.mp c⟩
    · rw [List.mem_cons, ih]
      exact Or.comm
section
variable {prog : Program} {w : World} {A : Around} {R : Result → Shared → Prop} {I : Addr} {fp wr : List Addr} {G : Array GenState → Array GenState → Prop} {n : Nat} {Pv : Nat → Value → Prop} {St : Nat → Shared → Prop}
theorem upd_loop (W : WalksS prog w A.in1 I fp wr G n Pv St) (S : Addr) (hf : S ∉ fp) (xs : List Str) (few : n < 100) (hv : ∀ i v, Pv i v → ∃ t, v = .str (xs.getD i Str.empty) t) : ∀ (k i : Nat) (s : Shared), n - i = k → i ≤ n → St i s → SR w s.heap S (got xs i) →
    (∀ s', Moved (S :: wr) G s s' → SR w s'.heap S (got xs n) → R (.ok (.ret .none)) s') → codeAny (model prog w) A (.builtin "set.update.loop" ⟨[.ref S, .ref I], []⟩) R s := by
  have nw : S ∉ wr := fun h => hf (W.sub _ h)
  have sub : ∀ b ∈ wr, b ∈ S :: wr := fun b hb => List.mem_cons_of_mem _ hb
  intro k
  induction k with
  | zero =>
    intro i s hk hi st hS hR
    obtain rfl : i = n := by omega
    refine codeAny_builtin PyProof.Rows.F.entry_set_update_loop ?_
    rw [Around.under_plainId PyProof.Rows.F.plain_set_update_loop _]
    show wpAny _ A.in1 (pyNext (.ref I) >>= _) _ _ s
    refine wpAny_bind (W.done s _ _ st fun s' hm => ?_)
    exact wpAny_pure (hR s' (hm.mono sub) (hS.go fun o e => hm.heap S o nw e))
  | succ k ih =>
    intro i s hk hi st hS hR
    have lt : i < n := by omega
    refine codeAny_builtin PyProof.Rows.F.entry_set_update_loop ?_
    rw [Around.under_plainId PyProof.Rows.F.plain_set_update_loop _]
    show wpAny _ A.in1 (pyNext (.ref I) >>= _) _ _ s
    refine wpAny_bind (W.item i s _ _ lt st fun v s' hP st' hm => ?_)
    obtain ⟨t, rfl⟩ := hv i v hP
    have hS' : SR w s'.heap S (got xs i) := hS.go fun o e => hm.heap S o nw e
    show wpAny _ A.in1 (holding [Value.str (xs.getD i Str.empty) t] (setAdd S (.str (xs.getD i Str.empty) t)) >>= _) _ _ s'
    refine wpAny_bind (wpAny_holding ?_)
    unfold setAdd
    refine wpAny_holding (wpAny_bind ((sk prog w).pyHash (k := xs.getD i Str.empty) (strKind_is _ _ _ _) ?_))
    have room : (got xs i).length + 1 < scanBound := by have := got_len xs i; unfold scanBound; omega
    refine put_hashed (P := prog) (s := { s' with toks := s'.toks + 1 }) hS' room fun h' b sb h2 => ?_
    refine wpAny_pure ⟨plainId_quiet PyProof.Rows.F.plain_set_update_loop _, ih (i + 1) _ (by omega) lt (W.frame _ s' _ _ st' (Nat.le_succ _) fun c hc o e => ?_) h2 fun s'' hm2 h3 => hR s'' (Moved.trans W.gtrans ((hm.mono sub).then_heap (Nat.le_succ _) fun c o hc e => ?_) hm2) h3⟩
    · rw [sb.2 c (fun z : c = S => hf (z ▸ hc))]; exact e
    · rw [sb.2 c (fun z : c = S => hc (z ▸ List.mem_cons_self))]; exact e
end
abbrev nil0 (w : World) : Obj := { cls := .type "set", dict := none, data := .set #[] 0 (.fresh 0 0 (!w.params.followText "set-order")) }
theorem sr_nil {h : Heap} {a : Addr} {w : World} (e : h.get? a = some (nil0 w)) : SR w h a [] := ⟨_, #[], 0, _, e, ⟨rfl, rfl, rfl⟩, rfl, (fun e he => by simp at he), List.Perm.nil, List.nodup_nil, by decide, by rfl, List.Pairwise.nil, by
  show _ ∨ (!w.params.followText "set-order") = true
  cases w.params.followText "set-order" <;> first | exact .inr rfl | exact .inl rfl⟩
section
variable {prog : Program} {w : World} {A : Around} {E : Value → Shared → Prop} {s : Shared}
set_option maxHeartbeats 3200000 in
theorem call_set {l : Addr} {items : Array Value} {xs : List Str} {Q : Value → Shared → Prop} (hh : A.handled = none) (hl : s.heap.IsList l items) (hi : PyProof.Rows.StrsAre items.toList xs) (few : items.size < 100)
    (h : ∀ (h' : Heap) (tk : Nat), SR w h' s.heap.objs.size (got xs items.size) → (∀ b o, s.heap.get? b = some o → h'.get? b = some o) → Q (.ref s.heap.objs.size) { s with heap := h', toks := tk }) : wpAny (model prog w) A (call (.type "set") [.ref l]) Q E s := by
  obtain ⟨c, tl, x1⟩ := PySem.F.called_set.mro
  have x2 := PySem.F.called_set.made
  have x3 := PySem.F.called_set.sub
  refine wpAny_call (codeAny_of_tree (show wpAny _ _ (callAny (.type "set") _) _ _ _ from ?_))
  refine wpAny_pure ⟨Code.quiet_builtin _ (by decide +kernel), codeAny_builtin PySem.F.entry_type_call ?_⟩
  rw [Around.under_plain (weight_type_call_type "set" [.ref l] []) rfl]
  have x4 := PySem.F.called_set.notType
  have x5 := PySem.F.called_set.canCreate
  have x6 := PySem.F.typeCall_set_1 (.ref l)
  repeat (any_goals (first | assumption | wp_step))
  refine codeAny_mono (code_set_led1 (.ref l) (E := E) (Q₁ := fun ob s₁ => ob = .ref s.heap.objs.size ∧ s₁ = { s with heap := s.heap.push (nil0 w) }) ⟨rfl, rfl⟩) fun r s₁ hr => ?_
  cases r with
  | error e => exact hr
  | ok fl =>
    cases fl with
    | ret ob =>
      obtain ⟨rfl, rfl⟩ := hr
      have y1 : (s.heap.push (nil0 w)).get? s.heap.objs.size = some (nil0 w) := Heap.get?_push_size _ rfl
      have y2 : Shared.TypeIs { s with heap := s.heap.push (nil0 w) } (.ref s.heap.objs.size) "set" := ⟨_, y1, rfl⟩
      have y3 := PySem.F.called_set.init.lookup
      have y4 := PySem.F.called_set.init.bind (.ref s.heap.objs.size)
      repeat (any_goals (first | assumption | wp_step))
      refine codeAny_mono (codeAny_call_builtin (R := wants (fun r s₂ => r = .none ∧ ∃ h' tk, s₂ = { s with heap := h', toks := tk } ∧ SR w h' s.heap.objs.size (got xs items.size) ∧ ∀ b o, s.heap.get? b = some o → h'.get? b = some o) E) PySem.F.called_set.init.plain PySem.F.entry_set_init (check_set_init_1 y2 ?_)) fun r₂ s₂ hr₂ => ?_
      · obtain ⟨⟨oc, od, odt, os⟩, hol, z1, nl, z2⟩ := hl
        simp only at z1 z2
        subst z1 z2
        have hol' : (s.heap.push (nil0 w)).get? l = some { cls := .type "list", dict := od, data := .seq items nl, slots := os } := Heap.get?_push_of_some _ hol
        have s1 := PySem.F.sub_list_set
        have s2 := PySem.F.sub_list_frozenset
        have s3 : (Value.type "list" == Value.type "dict") = false := by decide
        have l1 : (s.heap.push (nil0 w)).IsList l items := ⟨_, hol', rfl, nl, rfl⟩
        unfold Builtin.«set.__init__» noKeywords Builtin.Frozenset.updateFrom
        generalize ePI : pyIter = PI
        wp_walk
        subst ePI
        refine wpAny_pyIter_list l1 (wpAny_bind (wpAny_runValue ?_))
        have lS : l < s.heap.objs.size := Heap.lt_size hol
        have h3 : A.in1.in1.in1.handled = none := by simp [hh]
        have nI : l ≠ (s.heap.push (nil0 w)).objs.size := by rw [Heap.size_push]; exact Nat.ne_of_lt (Nat.lt_succ_of_lt lS)
        have nS : s.heap.objs.size ∉ [(s.heap.push (nil0 w)).objs.size, l] := by
          rw [Heap.size_push]
          simp only [List.mem_cons, List.mem_singleton, List.not_mem_nil, or_false, not_or]
          exact ⟨Nat.ne_of_lt (Nat.lt_succ_self _), Nat.ne_of_gt lS⟩
        have hval : ∀ (i : Nat) (v : Value), items[i]? = some v → ∃ t, v = .str (xs.getD i Str.empty) t := fun i v hv => SS.strs_at hi i v (by rw [Array.getElem?_toList]; exact hv)
        refine upd_loop ((Walks.list h3 _ l nI items).toS) s.heap.objs.size nS xs few hval (items.size - 0) 0 _ (by omega) (Nat.zero_le _) ⟨⟨_, Heap.get?_push_size _ rfl, rfl, rfl⟩, (l1.push _)⟩ (sr_nil (Heap.get?_push_of_some _ y1)) ?hR
        case hR =>
          intro s' hm hS'
          obtain ⟨h', g', d', tk', os'⟩ := s'
          have e1 : g' = s.gens := hm.gens
          have e2 : d' = s.drawn := hm.drawn
          have e3 : os' = s.os := hm.os
          subst e1 e2 e3
          show wpAny _ _ _ _ _ _
          refine wpAny_pure (show wpAny _ _ (ret Value.none) _ _ _ from wpAny_pure ⟨rfl, h', tk', rfl, hS', fun b o e => ?_⟩)
          have hb := Heap.lt_size e
          refine hm.heap b o ?_ (Heap.get?_push_of_some _ (Heap.get?_push_of_some _ e))
          simp only [List.mem_cons, List.mem_singleton, List.not_mem_nil, or_false, not_or]
          exact ⟨Nat.ne_of_lt hb, by rw [Heap.size_push]; exact Nat.ne_of_lt (Nat.lt_succ_of_lt hb)⟩
      · cases r₂ with
        | error e => exact hr₂
        | ok fl₂ =>
          cases fl₂ with
          | ret r =>
            obtain ⟨rfl, h', tk, rfl, hS', hk'⟩ := hr₂
            repeat (any_goals (first | assumption | wp_step))
            exact h _ _ hS' hk'
          | _ => exact hr₂.elim
    | _ => exact hr.elim
theorem sorted_sr {a : Addr} {M : List Str} {Q : Value → Shared → Prop} (R : SR w s.heap a M) (hh : A.handled = none) (few : M.length < 64)
    (hQ : ∀ s' p (out : Array Value) (c : Nat) (ys : List Str), (∀ b o, s.heap.get? b = some o → s'.heap.get? b = some o) → s'.gens = s.gens → s'.os = s.os → s.heap.objs.size ≤ p → s'.heap.get? p = some (seqObj "list" out c) → PyProof.Rows.StrsAre out.toList ys → ys.Perm M → sortedS ys = true → Q (.ref p) s') :
    wpAny (model prog w) A (call (.builtin "sorted") [.ref a]) Q E s := by
  obtain ⟨o, es, ep, t, ho, hex, hd, g, pM, nM, bM, hf, hr, hl⟩ := R
  have zM : es.size = M.length := by rw [← Array.length_toList, ← pM.length_eq, List.length_map]
  refine Calls.call_function_entry kind_sorted plain_sorted entry_sorted (args_sorted1 _) ?_
  unfold Builtin.«sorted»
  refine wpAny_bind (m := checkCount "sorted" 1 1 _) (wpAny_pure (wpAny_bind (collect_set (A := A.in1) hh ⟨o, ho, hex.1, hd⟩ hf (by rw [zM]; exact bM) hr hl fun s1 vs k1 z1 g1 o1 pm => ?_)))
  have vl : vs.length = M.length := by rw [pm.length_eq, List.length_map, Array.length_toList]; exact zM
  have vS : PyProof.Rows.StrsAre vs (vs.map PyProof.Rows.strOf) := strsAre_map vs fun v hv => by
    obtain ⟨e, he, q⟩ := List.mem_map.mp (pm.mem_iff.mp hv)
    obtain ⟨k, tk, h1, _⟩ := g e he
    exact ⟨k, tk, by rw [← q]; exact h1⟩
  have pS : (vs.map PyProof.Rows.strOf).Perm M := by
    have q := pm.map PyProof.Rows.strOf
    rw [List.map_map] at q
    refine q.trans (List.Perm.trans (List.Perm.of_eq (List.map_congr_left fun e he => ?_)) pM)
    obtain ⟨k, tk, h1, _⟩ := g e he
    show PyProof.Rows.strOf e.2 = txtOf e
    unfold txtOf
    rw [h1]; rfl
  refine wpAny_bind (wpAny_newList ?_ (by rw [vl, sizeLine_eq]; omega))
  have oL : (s1.heap.push (seqObj "list" vs.toArray 0)).get? s1.heap.objs.size = some (seqObj "list" vs.toArray 0) := Heap.get?_push_size _ rfl
  refine wpAny_bind (wpAny_holding (wpAny_call_entry slot_list_sort ⟨_, oL, rfl⟩ entry_list_sort (list_sort_treeK strKind_oneLt oL vS.keysOf (fun v₁ v₂ rest e => keyKind_strs (ss := vs.map PyProof.Rows.strOf) (by rw [← e]; exact vS)) (by rw [vl]; exact few) fun st' hp hs => ⟨_, rfl, ?_⟩) (args_list_sort _)))
  obtain ⟨ys, a1, a2, a3⟩ := sorted_out_str vS hp hs
  obtain ⟨c, hc⟩ := sortedHeap_at (vs := vs) (out := (arrOf st').map (·.2)) oL
  refine wpAny_pure ⟨_, rfl, hQ _ s1.heap.objs.size _ c ys (fun b u e => ?_) g1 o1 z1 hc a1 (a2.trans pS) a3⟩
  have q := k1 b u e
  have lt := Heap.lt_size q
  show (sortedHeap (s1.heap.push (seqObj "list" vs.toArray 0)) s1.heap.objs.size vs _).get? b = some u
  rw [sortedHeap_old (Nat.ne_of_lt lt) (by rw [size_push']; exact Nat.lt_succ_of_lt lt)]
  exact Heap.get?_push_of_some _ q
end
/-- sorted(set(e)) -/
def tSS (K : PySem.W.Frag) (ta : TE) : TE := fun σ H Q => ta σ H fun x H1 => ∃ (l : Addr) (xs : List Str), x = V.ref l ∧ SqL K H1 l (xs.map V.str) ∧ xs.length < 64 ∧ ∀ (ys : List Str) (p : Addr), ys.Nodup → sortedS ys = true → (∀ z, z ∈ ys ↔ z ∈ xs) → ys.length ≤ xs.length → H1 p = none → Q (.ref p) (upd H1 p (.lst (ys.map V.str)))
theorem pe_sortedSet {X : Cx} {a : Expr} {ta : TE} {p p2 q pos : Pos} (hc : X.calm = true) (hg : Gl X "sorted") (hm : X.mg "sorted" = none) (hg2 : Gl X "set") (hm2 : X.mg "set" = none) (ha : PE X a ta)
    (na : starEach [a] X.env = (false, eval a X.env) :: starEach [] X.env := by rfl) : PE X (.Call (.Name "sorted" p) [.Call (.Name "set" p2) [a] [] q] [] pos) (tSS X.K ta) := by
  refine ⟨fun pins s σ H Q I h => ?_⟩
  refine Call_ (ld_blt I hg hm (u := .builtin "sorted") (by decide +kernel) ?_)
  refine PyProof.Rows.callWith_builtin1 (PyProof.Rows.args_cons ?_ rfl) rfl rfl
  refine Call_ (ld_blt I hg2 hm2 PyProof.Rows.boot_set ?_)
  refine PyProof.Rows.callWith_type1 (PyProof.Rows.args_cons (thn (ha.run pins s σ H _ I h) fun v s1 ⟨x, H1, I1, r1, q1⟩ => PyProof.Rows.args_nil ?_) na) na rfl
  obtain ⟨l, xs, rfl, hq, h1, q1⟩ := q1
  cases r1
  obtain ⟨its, r, pl, hz⟩ := I1.list hq
  have hl : its.toArray.size = xs.length := by rw [List.size_toArray, ← r.length, List.length_map]
  refine call_set (I1.ok.hd hc) pl.isList (xs := xs) (by simpa using r.strs) (by omega) fun h' tk hS hk => ?_
  rw [hl] at hS
  refine PyProof.Rows.args_nil ?_
  have I2 : Inv X pins σ H1 { s1 with heap := h', toks := tk } := I1.kept fun b o e => hk b o e
  have gl := got_len xs xs.length
  refine sorted_sr hS (I2.ok.hd hc) (by omega) fun s' p out c ys k g o hp hg hi hpm hs => ?_
  have yl : ys.length ≤ xs.length := by rw [hpm.length_eq]; exact gl
  have n1 : H1 p = none := I2.hok.fresh hp
  have len : (ys.map V.str).length ≤ sizeLine := by rw [List.length_map, sizeLine_eq]; omega
  have J : Inv X pins σ (upd H1 p (.lst (ys.map V.str))) { ({ s1 with heap := h', toks := tk } : Shared) with heap := s'.heap, gens := s'.gens, drawn := s'.drawn, toks := s'.toks } :=
    I2.call (ch := []) (Un.laid k hp n1) (I2.hok.laid k hp ⟨len, out.toList, c, vals_of_strs hi, hg⟩) (by rw [g]; exact I2.bare) (fun _ z => nomatch z)
  have e : s' = { ({ s1 with heap := h', toks := tk } : Shared) with heap := s'.heap, gens := s'.gens, drawn := s'.drawn, toks := s'.toks } := by
    cases s'; cases s1; cases o; rfl
  rw [e]
  have nd : (got xs xs.length).Nodup := by obtain ⟨_, _, _, _, _, _, _, _, _, n, _⟩ := hS; exact n
  exact ⟨.ref p, _, J, rfl, q1 ys p (hpm.nodup_iff.mpr nd) hs (fun z => by rw [hpm.mem_iff, got_mem xs z xs.length (Nat.le_refl _), List.take_length]) yl n1⟩
end Sx

namespace Dn
open PySem L2 PySem.Spec PyProof.Rows
/-! ### bits -/
def shlD : PyData → PyData → Option PyData
  | .int a, .int b => if 0 ≤ b ∧ b.natAbs ≤ 100000 ∧ a.natAbs ≤ 1000000 then some (.int (a * 2 ^ b.toNat)) else none
  | _, _ => none
def shrD : PyData → PyData → Option PyData
  | .int a, .int b => if 0 ≤ b then some (.int (a / 2 ^ b.toNat)) else none
  | _, _ => none
section
variable {K : PySem.W.Frag}
theorem rd_shl [Tbs] : RD K (rI CPow fun i j => .int (i * 2 ^ j.toNat)) shlD := fun B H x y dx dy d Q s hx hy hg q => by
  unfold shlD at hg
  split at hg
  · obtain ⟨⟨h1, h2, h3⟩, rfl⟩ := ite_some hg
    cases hx; cases hy
    exact ⟨_, _, rfl, rfl, ⟨h1, by omega, by omega⟩, q _ B H (Tr.refl s) (.int _)⟩
  · cases hg
theorem rd_shr [Tbs] : RD K (rI (fun _ j => 0 ≤ j) fun i j => .int (i / 2 ^ j.toNat)) shrD := fun B H x y dx dy d Q s hx hy hg q => by
  unfold shrD at hg
  split at hg
  · obtain ⟨h1, rfl⟩ := ite_some hg
    cases hx; cases hy
    exact ⟨_, _, rfl, rfl, h1, q _ B H (Tr.refl s) (.int _)⟩
  · cases hg
/-! ### sum -/
def intsD : List PyData → Option (List Int)
  | [] => some []
  | .int b :: r => (intsD r).map (b :: ·)
  | _ => none
theorem ints_of [Tbs] {H : Hp} {vs : List V} : ∀ {ds : List PyData} {bs : List Int}, DqAll K H vs ds → intsD ds = some bs → vs = bs.map V.int := by
  induction vs with
  | nil => intro ds bs h e; cases h; cases e; rfl
  | cons v vs ih =>
    intro ds bs h e
    cases h with
    | cons a b =>
      unfold intsD at e
      split at e
      · rename_i z; cases z
      · rename_i k r hz
        cases hz
        cases a
        obtain ⟨bs', e', rfl⟩ := Option.map_eq_some_iff.mp e
        rw [ih b e']; rfl
      · cases e
theorem intsD_map (bs : List Int) : intsD (bs.map PyData.int) = some bs := by
  induction bs with
  | nil => rfl
  | cons b r ih => rw [List.map_cons, intsD, ih]; rfl
def sumD : PyData → Option PyData
  | .list xs => (intsD xs).map fun ns => .int ns.sum
  | _ => none
theorem rc_sum [Tbs] : RC K (rSum K) (one1 sumD) := rc_one fun B H v x d Q s hx hg q => by
  unfold sumD at hg
  split at hg
  · obtain ⟨bs, e, rfl⟩ := Option.map_eq_some_iff.mp hg
    cases hx with
    | lst h a => exact ⟨_, bs, rfl, by rw [← ints_of a e]; exact sqL_mono s h, q _ B H (Tr.refl s) (.int _)⟩
  · cases hg
/-! ### list.index -/
def indexD : PyData → List PyData → Option PyData
  | .list ds, [d] => if (SeqAt.shaped (.list ds) && SeqAt.shaped d) = true then (ds.findIdx? fun z => PyData.eqv z d).map fun j => .int (j : Nat) else none
  | _, _ => none
theorem ty_index [Tbs] : TyD K "list" indexD := fun B H v x ds d s hx hg => by
  unfold indexD at hg
  split at hg
  · cases hx with | lst h a => exact .inl ⟨rfl, _, sqL_mono s h⟩
  · cases hg
theorem rm_index [Tbs] : RM K "list" (rIndexD K) indexD := fun B H v vs x ds d Q s hx hds hg q => by
  unfold indexD at hg
  split at hg
  · obtain ⟨hs, hg⟩ : _ ∧ _ := by
      split at hg
      · rename_i h; exact ⟨h, hg⟩
      · cases hg
    rw [Bool.and_eq_true] at hs
    obtain ⟨j, hj, rfl⟩ := Option.map_eq_some_iff.mp hg
    obtain ⟨hlt, h1, h2⟩ := List.findIdx?_eq_some_iff_getElem.mp hj
    cases hds with
    | cons hy hn =>
      cases hn
      rename_i xs dd vy
      refine (?_ : rIndexD K v [vy] H Q)
      have hv : ∃ a, v = .ref a := by cases hx with | lst h a => exact ⟨_, rfl⟩
      obtain ⟨a, rfl⟩ := hv
      refine ⟨a, _, _, _, j, _, rfl, rfl, dq_sh (dp_mono s hx) hs.1, dq_sh (dp_mono s hy) hs.2, hs.1, hs.2, List.getElem?_eq_getElem hlt, h1, fun m z' hm hz => ?_, q _ B H (Tr.refl s) (.int _)⟩
      obtain ⟨hml, rfl⟩ := List.getElem?_eq_some_iff.mp hz
      simpa using h2 m hm
  · cases hg
end
/-! ### x or y, by truth -/
section
variable {X : Cx} {a b e : Expr} {rest : List Expr} {es : List Expr} {pos : Pos} {f g : Rho → Option PyData} {fs : Rho → Option (List PyData)}
def truD : PyData → Option Bool
  | .list xs => some (!xs.isEmpty)
  | .tuple xs => some (!xs.isEmpty)
  | .int i => some (i != 0)
  | .bool b => some b
  | .none => some false
  | _ => none
theorem truV_of [Tbs] {K : PySem.W.Frag} {B H : Hp} {v : V} {d : PyData} {k : Bool} (s : Same B H) (h : Dq K B v d) (e : truD d = some k) : TruV K v H k := by
  cases h with
  | non => cases e; rfl
  | bl b => cases e; rfl
  | int i => cases e; rfl
  | str x => cases e
  | emp h => cases e
  | ins h a => cases e
  | lst hq ha =>
    rename_i a xs ds
    cases e
    refine .inl ⟨xs, sqL_mono s hq, ?_⟩
    have := dpAll_len ha
    cases xs <;> cases ds <;> first | rfl | (simp at this)
  | tup hq ha =>
    rename_i a xs ds
    cases e
    refine .inr (.inl ⟨xs, sqT_mono s hq, ?_⟩)
    have := dpAll_len ha
    cases xs <;> cases ds <;> first | rfl | (simp at this)
def fOrV (f g : Rho → Option PyData) : Rho → Option PyData := fun ρ => (f ρ).bind fun x => (truD x).bind fun k => if k then some x else g ρ
theorem pd_orT [Tbs] (ha : PD X a f) (hb : PD X (.BoolOp .Or (b :: rest) pos) g) : PD X (.BoolOp .Or (a :: b :: rest) pos) (fOrV f g) := pe_imp (pe_orT ha hb) fun σ H Q ⟨H0, B, ρ, d, s, hf, q⟩ => by
  obtain ⟨x, hx, hf⟩ := bind_some hf
  obtain ⟨k, hk, hf⟩ := bind_some hf
  refine ⟨H0, B, ρ, x, s, hx, fun v B1 H1 t1 d1 => ⟨k, truV_of t1.t d1 hk, ?_⟩⟩
  cases k with
  | true => cases hf; exact q v B1 H1 t1 d1
  | false => exact ⟨H0, B1, ρ, d, s.tr t1, hf, fun v B2 H2 t2 d2 => q v B2 H2 (t1.trans t2) d2⟩
/-! ### enumerate -/
def enumD (xs : List PyData) : List PyData := xs.zipIdx.map fun p => .tuple [.int (p.2 : Nat), p.1]
theorem itD_enum [Tbs] {K : PySem.W.Frag} {B : Hp} {a : Addr} {vs : List V} {ds : List PyData} (h : SqL K B a vs) (hd : DqAll K B vs ds) : ItD K B (Ite K a) (enumD ds) := by
  refine ⟨fun H s => ⟨vs, sqL_mono s h, ?_⟩, fun i d e H s => ?_⟩
  · have h1 := dpAll_len hd
    simp [enumD, h1]
  · unfold enumD at e
    rw [List.getElem?_map, List.getElem?_zipIdx] at e
    obtain ⟨p, hp, rfl⟩ := Option.map_eq_some_iff.mp e
    obtain ⟨c, hc, rfl⟩ := Option.map_eq_some_iff.mp hp
    obtain ⟨v, hv, hdv⟩ := dpAll_get hd hc
    refine ⟨⟨vs, v, sqL_mono s h, hv⟩, fun x H' y B1 s1 s2 => ?_⟩
    obtain ⟨T, x1, rfl, hT, rfl, z1⟩ := y
    have z1 := z1 vs (sqL_mono s h)
    rw [hv] at z1
    cases z1
    refine ⟨_, Tr.new s2 hT, .tup (SqT.of upd_same) (.cons ?_ (.cons (dp_mono (s1.trans (same_upd (s2.free hT))) hdv) .nil))⟩
    show Dq K _ (V.int (i : Nat)) (PyData.int (((0 + i : Nat)) : Int))
    rw [Nat.zero_add]
    exact .int _
def enum2D : PyData → Option (List PyData)
  | .list xs => some (enumD xs)
  | _ => none
def fEn (f : Rho → Option PyData) : Rho → Option (List PyData) := fun ρ => (f ρ).bind enum2D
theorem pdi_enum [Tbs] {p tpos : Pos} {elts : List Expr} {kk : Nat} (hg : Gl X "enumerate") (hm : X.mg "enumerate" = none) (ha : PD X a f) (h0 : starEach [a] X.env = (false, eval a X.env) :: starEach [] X.env := by rfl) (hs : starEach [a] X.env = [(false, eval a X.env)] := by rfl) :
    PDI X (.Tuple elts kk tpos) (.Call (.Name "enumerate" p) [a] [] pos) (fEn f) := pi_imp (pi_enum hg hm (pa_cons ha pa_nil h0) hs) fun σ H R ⟨H0, B, ρ, d, sl, hf, q⟩ => by
  obtain ⟨x, hx, hf⟩ := bind_some hf
  refine ⟨H0, B, ρ, x, sl, hx, fun v B1 H1 t1 d1 => ?_⟩
  unfold enum2D at hf
  split at hf
  · cases hf
    cases d1 with
    | lst h1 a1 => exact ⟨_, _, rfl, sqL_mono t1.t h1, q _ B1 H1 t1 (itD_enum h1 a1)⟩
  · cases hf
/-! ### a, b = e -/
def gAsg (bd : PyData → Rho → Option Rho) (f : Rho → Option PyData) : Rho → Option Out := fun ρ => (f ρ).bind fun x => (bd x ρ).map .nx
theorem psd_asgG [Tbs] {st : Stmt} {g : TG} {bd : PyData → Rho → Option Rho} {is : List Nat} (hg : GD X.K g bd is) (h : PS X st (tAsg (tD X.K f) g)) : PSD X st (gAsg bd f) := ps_imp h fun D σ H ⟨B0, H0, ρ, o, ⟨B, t, s⟩, hf, q⟩ => by
  obtain ⟨x, hx, hf⟩ := bind_some hf
  obtain ⟨ρ', hb, rfl⟩ := Option.map_eq_some_iff.mp hf
  exact ⟨H0, B, ρ, x, s, hx, fun v B1 H1 t1 d1 => hg H0 B1 H1 ρ ρ' σ v x _ (s.tr t1) d1 hb fun σ' _ s' => q σ' H1 ⟨B1, t.trans t1, s'⟩⟩
def b4 (i j k l : Nat) : PyData → Rho → Option Rho
  | .tuple [x, y, z, u], ρ => some ((((ρ.set i (some (.d x))).set j (some (.d y))).set k (some (.d z))).set l (some (.d u)))
  | _, _ => none
theorem gd_4 [Tbs] {K : PySem.W.Frag} {i j k l : Nat} : GD K (gTup K 4 (gCons (gName i) (gCons (gName j) (gCons (gName k) (gCons (gName l) gNil))))) (b4 i j k l) [i, j, k, l] := fun H0 B H ρ ρ' σ v x Q s h hb q => by
  unfold b4 at hb
  split at hb
  · cases hb
    cases h with
    | tup h a =>
      cases a with
      | cons a1 a =>
        cases a with
        | cons a2 a =>
          cases a with
          | cons a3 a =>
            cases a with
            | cons a4 a =>
              cases a
              refine ⟨_, _, rfl, sqT_mono s.bh h, rfl, _, _, rfl, _, _, rfl, _, _, rfl, _, _, rfl, rfl, q _ (fun vs hv => ?_) (sl_setD (sl_setD (sl_setD (sl_setD s a1) a2) a3) a4)⟩
              rw [wipe_set (hv l (by simp)), wipe_set (hv k (by simp)), wipe_set (hv j (by simp)), wipe_set (hv i (by simp))]
  · cases hb
end
end Dn

namespace Dn
open PySem PySem.Spec PyProof.Rows
def leS (a b : Str) : Bool := !ltCps b.cps.toList a.cps.toList
theorem leS_iff (a b : Str) : leS a b = true ↔ a.cps.toList ≤ b.cps.toList := by
  unfold leS
  rw [ltCps_eq]
  simp
theorem str_ext {a b : Str} (h : a.cps.toList = b.cps.toList) : a = b := by
  cases a; cases b
  simp only at h
  rw [Array.toList_inj.mp h]
theorem leS_anti {a b : Str} (h : leS a b = true) (g : leS b a = true) : a = b := str_ext (List.le_antisymm ((leS_iff a b).mp h) ((leS_iff b a).mp g))
theorem leS_trans {a b c : Str} (h : leS a b = true) (g : leS b c = true) : leS a c = true := (leS_iff a c).mpr (List.le_trans ((leS_iff a b).mp h) ((leS_iff b c).mp g))
theorem leS_total (a b : Str) : leS a b = true ∨ leS b a = true := (List.le_total a.cps.toList b.cps.toList).imp (leS_iff a b).mpr (leS_iff b a).mpr
def insS (x : Str) : List Str → List Str
  | [] => [x]
  | y :: r => if leS x y then x :: y :: r else y :: insS x r
def sortT (xs : List Str) : List Str := xs.foldr insS []
theorem insS_perm (x : Str) : ∀ l : List Str, (insS x l).Perm (x :: l)
  | [] => List.Perm.refl _
  | y :: r => by
    unfold insS
    split
    · exact List.Perm.refl _
    · exact ((insS_perm x r).cons y).trans (List.Perm.swap x y r)
theorem sortT_perm : ∀ l : List Str, (sortT l).Perm l
  | [] => List.Perm.refl _
  | x :: r => (insS_perm x _).trans ((sortT_perm r).cons x)
theorem insS_pw (x : Str) : ∀ l : List Str, l.Pairwise (fun a b => leS a b = true) → (insS x l).Pairwise fun a b => leS a b = true
  | [], _ => by simp [insS]
  | y :: r, h => by
    unfold insS
    obtain ⟨h1, h2⟩ := List.pairwise_cons.mp h
    split
    · rename_i c
      exact List.pairwise_cons.mpr ⟨fun z hz => by
        rcases List.mem_cons.mp hz with rfl | hz
        · exact c
        · exact leS_trans c (h1 z hz), h⟩
    · rename_i c
      refine List.pairwise_cons.mpr ⟨fun z hz => ?_, insS_pw x r h2⟩
      rcases List.mem_cons.mp ((insS_perm x r).mem_iff.mp hz) with rfl | hz
      · exact (leS_total _ _).resolve_left c
      · exact h1 z hz
theorem sortT_pw : ∀ l : List Str, (sortT l).Pairwise fun a b => leS a b = true
  | [] => List.Pairwise.nil
  | x :: r => insS_pw x _ (sortT_pw r)
theorem rising_pw : ∀ (p : Str) (l : List Str), risingS p l = true → (p :: l).Pairwise fun a b => leS a b = true
  | p, [], _ => by simp
  | p, x :: r, h => by
    have h' : (!ltCps x.cps.toList p.cps.toList && risingS x r) = true := h
    rw [Bool.and_eq_true] at h'
    have ih := rising_pw x r h'.2
    refine List.pairwise_cons.mpr ⟨fun z hz => ?_, ih⟩
    rcases List.mem_cons.mp hz with rfl | hz
    · exact h'.1
    · exact leS_trans h'.1 ((List.pairwise_cons.mp ih).1 z hz)
theorem sorted_pw : ∀ l : List Str, sortedS l = true → l.Pairwise fun a b => leS a b = true
  | [], _ => List.Pairwise.nil
  | x :: r, h => rising_pw x r h
theorem perm_pw_eq : ∀ (l m : List Str), l.Perm m → (l.Pairwise fun a b => leS a b = true) → (m.Pairwise fun a b => leS a b = true) → l = m
  | [], m, p, _, _ => (List.Perm.nil_eq p)
  | x :: r, [], p, _, _ => absurd p.length_eq (by simp)
  | x :: r, y :: t, p, h, g => by
    obtain ⟨h1, h2⟩ := List.pairwise_cons.mp h
    obtain ⟨g1, g2⟩ := List.pairwise_cons.mp g
    have e : x = y := by
      have a1 : x ∈ y :: t := p.mem_iff.mp List.mem_cons_self
      have a2 : y ∈ x :: r := p.mem_iff.mpr List.mem_cons_self
      rcases List.mem_cons.mp a1 with e | a1
      · exact e
      · rcases List.mem_cons.mp a2 with e | a2
        · exact e.symm
        · exact leS_anti (h1 y a2) (g1 x a1)
    subst e
    rw [perm_pw_eq r t (List.Perm.cons_inv p) h2 g2]
theorem sort_eq {xs ys : List Str} (p : ys.Perm xs) (h : sortedS ys = true) : ys = sortT xs := perm_pw_eq ys (sortT xs) (p.trans (sortT_perm xs).symm) (sorted_pw ys h) (sortT_pw xs)
def onceT : List Str → List Str
  | [] => []
  | x :: r => if x ∈ r then onceT r else x :: onceT r
theorem onceT_mem (z : Str) : ∀ l : List Str, z ∈ onceT l ↔ z ∈ l
  | [] => Iff.rfl
  | x :: r => by
    unfold onceT
    have ih := onceT_mem z r
    split
    · rename_i c
      rw [ih, List.mem_cons]
      exact ⟨.inr, fun q => q.elim (fun e => e ▸ c) id⟩
    · rw [List.mem_cons, List.mem_cons, ih]
theorem onceT_nd : ∀ l : List Str, (onceT l).Nodup
  | [] => List.nodup_nil
  | x :: r => by
    unfold onceT
    split
    · exact onceT_nd r
    · rename_i c
      exact List.nodup_cons.mpr ⟨fun z => c ((onceT_mem x r).mp z), onceT_nd r⟩
theorem nodup_perm {α : Type} [DecidableEq α] : ∀ (l m : List α), l.Nodup → m.Nodup → (∀ z, z ∈ l ↔ z ∈ m) → l.Perm m := fun l m a b h => by
  rw [List.perm_iff_count]
  intro z
  by_cases hz : z ∈ l
  · rw [a.count, b.count, if_pos hz, if_pos ((h z).mp hz)]
  · rw [List.count_eq_zero.mpr hz, List.count_eq_zero.mpr (fun c => hz ((h z).mpr c))]
theorem sortset_eq {xs ys : List Str} (n : ys.Nodup) (h : sortedS ys = true) (m : ∀ z, z ∈ ys ↔ z ∈ xs) : ys = sortT (onceT xs) := sort_eq (nodup_perm ys (onceT xs) n (onceT_nd xs) fun z => (m z).trans (onceT_mem z xs).symm) h
end Dn

set_option maxHeartbeats 4000000
/-! tuple * 0, tuple * 1 -/
namespace Gx
open PySem PySem.Spec PyProof.Rows L2
section
variable {l : Addr} {items : Array Value} {n : Nat} {dd : Option Addr} {sl : Array (Option Value)} {u : Tok}
theorem mul_one (h0 : items.isEmpty = false) : Meets (Builtin.«tuple.__mul__» ⟨[.ref l, .int 1 u], []⟩) (fun _ R s => s.heap.get? l = some { cls := .type "tuple", dict := dd, data := .seq items n, slots := sl } ∧ R (.ok (.ret (Value.ref l))) s) :=
  .of_wp fun prog w A R s h => by
    obtain ⟨hp, g, d, tk, os⟩ := s
    obtain ⟨hl, h⟩ := h
    have ix := AutoSeq1.idx_int
    have c1 : (items.isEmpty || (1 : Int) == 1) = true := by rw [h0]; rfl
    wp_walk using wpAny_loadPart' hl
    repeat (first
      | (refine wpAny_ite_true (decide_eq_true c1) ?_; wp_walk using wpAny_loadPart' hl)
      | (refine wpAny_ite_false (decide_eq_false (by decide)) ?_; wp_walk using wpAny_loadPart' hl))
    all_goals first | exact ⟨_, rfl, h⟩ | skip
theorem mul_zero (h0 : items.isEmpty = false) : Meets (Builtin.«tuple.__mul__» ⟨[.ref l, .int 0 u], []⟩) (fun _ R s => s.heap.get? l = some { cls := .type "tuple", dict := dd, data := .seq items n, slots := sl } ∧ R (.ok (.ret (Value.ref s.heap.objs.size))) { s with heap := s.heap.push { cls := Value.type "tuple", data := Data.seq #[] }, toks := s.toks }) :=
  .of_wp fun prog w A R s h => by
    obtain ⟨hp, g, d, tk, os⟩ := s
    obtain ⟨hl, h⟩ := h
    have ix := AutoSeq1.idx_int
    have c1 : (items.isEmpty || (0 : Int) == 1) = false := by rw [h0]; rfl
    wp_walk using wpAny_loadPart' hl
    repeat (first
      | (refine wpAny_ite_false (decide_eq_false (by rw [c1]; exact Bool.false_ne_true)) ?_; wp_walk using wpAny_loadPart' hl)
      | (refine wpAny_ite_false (decide_eq_false (by decide)) ?_; wp_walk using wpAny_loadPart' hl))
    all_goals first | exact ⟨_, rfl, h⟩ | skip
end
/-- a tuple, not the empty one, taken k times -/
def rTimes (K : PySem.W.Frag) : R2 := fun x y H Q => ∃ l k xs, x = .ref l ∧ y = .int k ∧ SqT K H l xs ∧ xs ≠ [] ∧ 0 ≤ k ∧ k ≤ 1000 ∧ xs.length ≤ 1000 ∧ (k = 1 → Q (.ref l) H) ∧ (k ≠ 1 → ∀ p, H p = none → Q (.ref p) (upd H p (.tup (List.replicate k.toNat xs).flatten)))
section
variable {X : Cx}
theorem op_times : OpR X (binaryOp .Mult) (rTimes X.K) := by
  intro pins s σ H x y v u Q I rx ry h
  obtain ⟨l, k, xs, rfl, rfl, hT, hne, k0, k1, hz, q1, q2⟩ := h
  by_cases big : 2 ≤ k
  · exact op_repT pins s σ H (.ref l) (.int k) v u Q I rx ry ⟨l, k, xs, rfl, rfl, hT, hne, big, k1, hz, q2 (by omega)⟩
  · cases rx
    obtain ⟨t, rfl⟩ := ry
    obtain ⟨its, r, ⟨⟨cls, dd, data, sl⟩, ho, hc, n, hd⟩, hs⟩ := I.tuple hT
    simp only at hc hd
    subst hc hd
    have hi : its.toArray.isEmpty = false := by
      have e := r.length
      cases its with
      | nil => exact absurd (List.eq_nil_of_length_eq_zero e) hne
      | cons a b => rfl
    have k2 : k = 0 ∨ k = 1 := by omega
    rcases k2 with rfl | rfl
    · refine wpAny_binaryOp_repeat_ref (T := "tuple") (U := "int") (by decide) ⟨_, ho, rfl⟩ (fun s' => typeIs_int s' 0 t) noFill_tuple_mul F.fills_int_mul F.slot_int_rmul repeat_tuple F.slot_int_index.lookup (call_meets F.slot_int_rmul (typeIs_int s 0 t) F.entry_int_rmul (F.args_int_rmul_2 _ _) (int_rmul_tuple 0 t l its.toArray n dd sl)
        ⟨ho, rfl, ⟨_, ho, rfl⟩, call_meets F.slot_tuple_mul ⟨_, ho, rfl⟩ F.entry_tuple_mul (F.args_tuple_mul_2 _ _) (mul_zero hi) ⟨ho, ?_⟩⟩)
      refine ⟨.ref s.heap.objs.size, _, I.laid (t' := s.toks) (o := .tup []) (fun b ob q => Heap.get?_push_of_some _ q) (Nat.le_refl _) ?_, rfl, q2 (by decide) _ (I.hok.fresh (Nat.le_refl _))⟩
      exact ⟨Nat.zero_le _, _, .nil, IsTup.new _ _⟩
    · refine wpAny_binaryOp_repeat_ref (T := "tuple") (U := "int") (by decide) ⟨_, ho, rfl⟩ (fun s' => typeIs_int s' 1 t) noFill_tuple_mul F.fills_int_mul F.slot_int_rmul repeat_tuple F.slot_int_index.lookup (call_meets F.slot_int_rmul (typeIs_int s 1 t) F.entry_int_rmul (F.args_int_rmul_2 _ _) (int_rmul_tuple 1 t l its.toArray n dd sl)
        ⟨ho, rfl, ⟨_, ho, rfl⟩, call_meets F.slot_tuple_mul ⟨_, ho, rfl⟩ F.entry_tuple_mul (F.args_tuple_mul_2 _ _) (mul_one hi) ⟨ho, ?_⟩⟩)
      exact ⟨.ref l, H, I, rfl, q1 rfl⟩
end
end Gx

namespace Dn
open PySem L2 PySem.Spec PyProof.Rows Gx
/-! ### tuple * int -/
def timesD : PyData → PyData → Option PyData
  | .tuple a, .int k => if (a.isEmpty = false ∧ a.length ≤ 1000) ∧ (0 ≤ k ∧ k.natAbs ≤ 1000) then some (.tuple (List.replicate k.toNat a).flatten) else none
  | _, _ => none
section
variable {K : PySem.W.Frag}
theorem rd_times [Tbs] : RD K (rTimes K) timesD := fun B H x y dx dy d Q s hx hy hg q => by
  unfold timesD at hg
  split at hg
  · obtain ⟨⟨⟨h1, h2⟩, h3, h4⟩, rfl⟩ := ite_some hg
    cases hy
    rename_i ds k
    cases hx with
    | @tup a xs _ h ha =>
      have hl := dpAll_len ha
      refine ⟨a, k, xs, rfl, rfl, sqT_mono s h, fun z => ?_, h3, by omega, by omega, fun e => ?_, fun _ p hp => newT s (dpAll_rep ha _) q hp⟩
      · subst z
        cases ds with
        | nil => cases h1
        | cons _ _ => simp at hl
      · subst e
        refine q _ B H (Tr.refl s) ?_
        show Dq K B (.ref a) (.tuple (List.replicate 1 ds).flatten)
        rw [show (List.replicate 1 ds).flatten = ds by simp]
        exact .tup h ha
  · cases hg
/-! ### sorted(xs), sorted(set(xs)) of texts -/
def sortedD : PyData → Option PyData
  | .list xs => (strsD xs).bind fun ys => if ys.length < 64 then some (.list ((sortT ys).map .str)) else none
  | _ => none
theorem rc_sorted [Tbs] : RC K (rSortedS K) (one1 sortedD) := rc_one fun B H v x d Q s hx hg q => by
  unfold sortedD at hg
  split at hg
  · obtain ⟨ys, hy, hg⟩ := bind_some hg
    obtain ⟨hl, rfl⟩ := ite_some hg
    cases hx with
    | lst h a =>
      refine ⟨_, ys, rfl, by rw [← strs_of a hy]; exact sqL_mono s h, hl, fun zs p h1 h2 h3 => ?_⟩
      rw [sort_eq h1 h2]
      exact newL s (dp_strs _) q h3
  · cases hg
def ssD : PyData → Option PyData
  | .list xs => (strsD xs).bind fun ys => if ys.length < 64 then some (.list ((sortT (onceT ys)).map .str)) else none
  | _ => none
end
section
variable {X : Cx} {a e : Expr} {f : Rho → Option PyData} {p p2 q pos : Pos}
theorem pd_ss [Tbs] (hc : X.calm = true) (hg : Gl X "sorted") (hm : X.mg "sorted" = none) (hg2 : Gl X "set") (hm2 : X.mg "set" = none) (ha : PD X a f)
    (na : starEach [a] X.env = (false, eval a X.env) :: starEach [] X.env := by rfl) : PD X (.Call (.Name "sorted" p) [.Call (.Name "set" p2) [a] [] q] [] pos) (f1 ssD f) := pe_imp (Sx.pe_sortedSet hc hg hm hg2 hm2 ha na) fun σ H Q ⟨H0, B, ρ, d, s, hf, q⟩ => by
  obtain ⟨x, hx, hf⟩ := bind_some hf
  refine ⟨H0, B, ρ, x, s, hx, fun v B1 H1 t1 d1 => ?_⟩
  unfold ssD at hf
  split at hf
  · obtain ⟨ys, hy, hf⟩ := bind_some hf
    obtain ⟨hl, rfl⟩ := ite_some hf
    cases d1 with
    | lst h a =>
      refine ⟨_, ys, rfl, by rw [← strs_of a hy]; exact sqL_mono t1.t h, hl, fun zs p h1 h2 h3 _ h4 => ?_⟩
      rw [sortset_eq h1 h2 h3]
      exact newL t1.t (dp_strs _) (fun v B' H' t dd => q v B' H' (t1.trans t) dd) h4
  · cases hf
end
/-! ### comprehensions of two clauses -/
def lc2Go (bd : PyData → Rho → Option Rho) (t : Rho → Option Bool) (fi1 : Rho → Option (List PyData)) (bd1 : PyData → Rho → Option Rho) (t1 : Rho → Option Bool) (f : Rho → Option PyData) (vs1 : List Nat) (ρ : Rho) : List PyData → Option (List PyData)
  | [] => some []
  | x :: xs => (bd x ρ).bind fun ρ1 => (t ρ1).bind fun b => if b then (fi1 ρ1).bind fun ys => (lcGo bd1 t1 f (wipeR ρ1 vs1) ys).bind fun r1 => (lc2Go bd t fi1 bd1 t1 f vs1 ρ xs).bind fun r => some (r1 ++ r) else lc2Go bd t fi1 bd1 t1 f vs1 ρ xs
def fLc2 (fi : Rho → Option (List PyData)) (bd : PyData → Rho → Option Rho) (t : Rho → Option Bool) (fi1 : Rho → Option (List PyData)) (bd1 : PyData → Rho → Option Rho) (t1 : Rho → Option Bool) (f : Rho → Option PyData) (vs vs1 : List Nat) : Rho → Option PyData := fun ρ => (fi ρ).bind fun xs => (lc2Go bd t fi1 bd1 t1 f vs1 (wipeR ρ vs) xs).bind fun r => if r.length ≤ bigL then some (.list r) else none
/-- a list at D that no slot knows -/
theorem sl_h0 [Tbs] {K : PySem.W.Frag} {H0 B H : Hp} {ρ : Rho} {σ : L2.St} (s : Sl K H0 B ρ σ H) {D : Addr} (hD : H D = none) (o : HO) : Sl K (upd H0 D o) B ρ σ (upd H D o) := by
  refine ⟨same_upd2 s.bh hD, s.nt, fun P hP => (Gw.of (same_upd hD)).tab (s.tb P hP), s.len, s.dv, fun e => ?_, s.ap, fun i a n fs e => ?_⟩
  · obtain ⟨a, us, h1, h2, h3, h4, h5⟩ := s.ow e
    have ne := ne_of_none h4 hD
    exact ⟨a, us, h1, h2, by rw [upd_ne ne]; exact h3, by rw [upd_ne ne]; exact h4, h5⟩
  · obtain ⟨rfl, dx, us, h1, h2, h3, h4, h5⟩ := s.ob i a n fs e
    have ne := ne_of_none h4 hD
    exact ⟨rfl, dx, us, h1, h2, by rw [upd_ne ne]; exact h3, by rw [upd_ne ne]; exact h4, h5⟩
theorem sl_off [Tbs] {K : PySem.W.Frag} {H0 B H : Hp} {ρ : Rho} {σ : L2.St} (s : Sl K H0 B ρ σ H) {D : Addr} {us ws : List V} (h0 : H0 D ≠ none) (hB : B D = none) (hD : H D = some (.lst us)) : Sl K H0 B ρ σ (upd H D (.lst ws)) := by
  refine ⟨fun a o e => by rw [upd_ne (ne_of_none e hB)]; exact s.bh a o e, s.nt, fun P hP => ?_, s.len, s.dv, fun e => ?_, s.ap, fun i a n fs e => ?_⟩
  · obtain ⟨ps, e, h⟩ := s.tb P hP
    exact ⟨ps, by rw [upd_ne (fun z => by rw [z, hD] at e; cases e)]; exact e, h⟩
  · obtain ⟨a, vs, h1, h2, h3, h4, h5⟩ := s.ow e
    exact ⟨a, vs, h1, h2, h3, by rw [upd_ne (fun z => h0 (by rw [← z]; exact h3))]; exact h4, h5⟩
  · obtain ⟨rfl, dx, vs, h1, h2, h3, h4, h5⟩ := s.ob i a n fs e
    exact ⟨rfl, dx, vs, h1, h2, h3, by rw [upd_ne (fun z => h0 (by rw [← z]; exact h3))]; exact h4, h5⟩
theorem lc2_imp [Tbs] {K : PySem.W.Frag} {fi fi1 : Rho → Option (List PyData)} {g g1 : TG} {bd bd1 : PyData → Rho → Option Rho} {is is1 : List Nat} {t t1 : Rho → Option Bool} {f : Rho → Option PyData} {vs vs1 : List Nat} (hg : GD K g bd is) (hv : ∀ i ∈ is, i ∈ vs) (hg1 : GD K g1 bd1 is1) (hv1 : ∀ i ∈ is1, i ∈ vs1) :
    ∀ σ H Q, tD K (fLc2 fi bd t fi1 bd1 t1 f vs vs1) σ H Q → tLc2 (tDI K fi) g (tDT K t) (tDI K fi1) g1 (tDT K t1) (tD K f) vs vs1 σ H Q := fun σ H Q ⟨H00, B, ρ, d, s, hf, q⟩ => by
  obtain ⟨xs, hxs, hf⟩ := bind_some hf
  obtain ⟨ys, hys, hf⟩ := bind_some hf
  obtain ⟨hlen, rfl⟩ := ite_some hf
  refine ⟨H00, B, ρ, xs, s, hxs, fun J B1 H1 tr1 it D hD => ?_⟩
  have hBD1 : B1 D = none := tr1.t.free hD
  obtain ⟨H0, hH0⟩ : ∃ H0, H0 = upd H00 D (HO.lst []) := ⟨_, rfl⟩
  have h0 : H0 D ≠ none := by rw [hH0, upd_same]; exact fun z => by cases z
  have s1 : Sl K H0 B1 ρ σ (upd H1 D (.lst [])) := by rw [hH0]; exact sl_h0 (s.tr tr1) hD _
  refine ⟨fun i m H' => ∃ B2 acc accD rest, Tr B1 H1 B2 H' ∧ Sl K H0 B2 ρ σ H' ∧ m = xs.length - i ∧ i ≤ xs.length ∧ B2 D = none ∧ H' D = some (.lst acc) ∧ DqAll K B2 acc accD ∧ lc2Go bd t fi1 bd1 t1 f vs1 (wipeR ρ vs) (xs.drop i) = some rest ∧ accD ++ rest = ys,
    ⟨xs.length, B1, [], [], ys, Tr.junk tr1.t hD, s1, rfl, Nat.zero_le _, hBD1, upd_same, .nil, hys, rfl⟩, ?_⟩
  rintro i m H' ⟨B2, acc, accD, rest, t2, s2, rfl, hi, hB, hDl, hacc, hgo, hr⟩
  by_cases hlt : i < xs.length
  · have hx : xs[i]? = some xs[i] := by simp [hlt]
    obtain ⟨go, yld⟩ := it.2 i xs[i] hx H' (t2.b.trans t2.t)
    rw [List.drop_eq_getElem_cons hlt] at hgo
    unfold lc2Go at hgo
    obtain ⟨ρ1, h1, hgo⟩ := bind_some hgo
    obtain ⟨b, h2, hgo⟩ := bind_some hgo
    refine .inr ⟨go, _, fun H'' nx => ⟨xs.length - (i + 1), by omega, nx⟩, fun x H3 y => ?_⟩
    obtain ⟨B3, t3, d3⟩ := yld x H3 y B2 t2.b t2.t
    refine hg H0 B3 H3 (wipeR ρ vs) ρ1 (wipe σ vs) x xs[i] _ (sl_wipe (s2.tr t3) vs) d3 h1 fun σ' hw s3 => ⟨by rw [hw vs hv, wipe_idem], ?_⟩
    refine ⟨H0, B3, ρ1, b, s3, h2, fun B4 H4 t4 => ?_⟩
    have t24 := (t2.trans t3).trans t4
    have hD4 := (t3.trans t4).h.l hDl
    have hB4 := (t3.trans t4).stay hB hDl
    have s4 := s3.tr t4
    have z4 := (s2.tr t3).tr t4
    cases b with
    | true =>
      obtain ⟨zs, h3, hgo⟩ := bind_some hgo
      obtain ⟨r1, h4, hgo⟩ := bind_some hgo
      obtain ⟨rs, h5, hgo⟩ := bind_some hgo
      cases hgo
      refine ⟨H0, B4, ρ1, zs, s4, h3, fun J1 B5 H5 t5 it1 => ?_⟩
      refine ⟨fun j m1 H6 => ∃ B6 acc6 accD6 rest6, Tr B1 H1 B6 H6 ∧ Same B5 B6 ∧ Sl K H0 B6 ρ σ H6 ∧ Sl K H0 B6 ρ1 σ' H6 ∧ m1 = zs.length - j ∧ j ≤ zs.length ∧ B6 D = none ∧ H6 D = some (.lst acc6) ∧ DqAll K B6 acc6 accD6 ∧ lcGo bd1 t1 f (wipeR ρ1 vs1) (zs.drop j) = some rest6 ∧ accD6 ++ (rest6 ++ rs) = ys,
        ⟨zs.length, B5, acc, accD, r1, t24.trans t5, Same.refl _, z4.tr t5, s4.tr t5, rfl, Nat.zero_le _, t5.stay hB4 hD4, t5.h.l hD4, dpAll_mono ((t3.trans t4).trans t5).b hacc, h4, hr⟩, ?_⟩
      rintro j m1 H6 ⟨B6, acc6, accD6, rest6, t6, b6s, z6, s6, rfl, hj, hB6, hD6, hacc6, hgo6, hr6⟩
      by_cases hlt1 : j < zs.length
      · have hx1 : zs[j]? = some zs[j] := by simp [hlt1]
        obtain ⟨go1, yld1⟩ := it1.2 j zs[j] hx1 H6 (b6s.trans t6.t)
        rw [List.drop_eq_getElem_cons hlt1] at hgo6
        unfold lcGo at hgo6
        obtain ⟨ρ2, h61, hgo6⟩ := bind_some hgo6
        obtain ⟨b6, h62, hgo6⟩ := bind_some hgo6
        refine .inr ⟨go1, _, fun H'' nx => ⟨zs.length - (j + 1), by omega, nx⟩, fun x1 H7 y1 => ?_⟩
        obtain ⟨B7, t7, d7⟩ := yld1 x1 H7 y1 B6 b6s t6.t
        refine hg1 H0 B7 H7 (wipeR ρ1 vs1) ρ2 (wipe σ' vs1) x1 zs[j] _ (sl_wipe (s6.tr t7) vs1) d7 h61 fun σ7 hw7 s7 => ⟨by rw [hw7 vs1 hv1, wipe_idem], ?_⟩
        refine ⟨H0, B7, ρ2, b6, s7, h62, fun B8 H8 t8 => ?_⟩
        have t78 := t7.trans t8
        have hD8 := t78.h.l hD6
        have hB8 := t78.stay hB6 hD6
        cases b6 with
        | true =>
          obtain ⟨w6, h63, hgo6⟩ := bind_some hgo6
          obtain ⟨rs6, h64, hgo6⟩ := bind_some hgo6
          cases hgo6
          refine ⟨H0, B8, ρ2, w6, s7.tr t8, h63, fun v B9 H9 t9 d9 => ?_⟩
          have t79 := t78.trans t9
          have hD9 := t9.h.l hD8
          have hB9 := t9.stay hB8 hD8
          exact ⟨acc6, hD9, by
            have := dpAll_len hacc6
            have h6 : (bigL : Nat) < sizeLine := by decide
            have h7 := congrArg List.length hr6
            simp at h7
            omega, B9, acc6 ++ [v], accD6 ++ [w6], rs6, (t6.trans t79).put hB9 hD, b6s.trans t79.b, sl_off (z6.tr t79) h0 hB9 hD9, sl_off (s6.tr t79) h0 hB9 hD9, rfl, hlt1, hB9, upd_same, dpAll_append (dpAll_mono t79.b hacc6) (.cons d9 .nil), h64, by rw [← hr6]; simp⟩
        | false => exact ⟨B8, acc6, accD6, rest6, t6.trans t78, b6s.trans t78.b, z6.tr t78, s6.tr t78, rfl, hlt1, hB8, hD8, dpAll_mono t78.b hacc6, hgo6, hr6⟩
      · have e : zs.length = j := by omega
        subst e
        rw [List.drop_length] at hgo6
        cases hgo6
        exact .inl ⟨it1.1 H6 (b6s.trans t6.t), B6, acc6, accD6, rs, t6, z6, rfl, hlt, hB6, hD6, hacc6, h5, hr6⟩
    | false => exact ⟨B4, acc, accD, rest, t24, z4, rfl, hlt, hB4, hD4, dpAll_mono (t3.trans t4).b hacc, hgo, hr⟩
  · have e : xs.length = i := by omega
    subst e
    rw [List.drop_length] at hgo
    cases hgo
    rw [List.append_nil] at hr
    subst hr
    refine .inl ⟨it.1 H' (t2.b.trans t2.t), q _ (upd B2 D (.lst acc)) H' ?_ (.lst (SqL.of upd_same) (dpAll_mono (same_upd hB) hacc))⟩
    have T := tr1.trans t2
    refine ⟨T.b.trans (same_upd hB), fun a u e => ?_, T.h, fun n => nt_upd (T.n n) (fun _ z => by cases z), fun a u e1 e2 => ?_⟩
    · by_cases z : a = D
      · subst z; rw [upd_same] at e; cases e; exact hDl
      · rw [upd_ne z] at e; exact T.t a u e
    · by_cases z : a = D
      · subst z; exact tr1.h.free hD
      · rw [upd_ne z] at e1; exact T.f a u e1 e2
section
variable {X : Cx} {elt tg iter tg1 iter1 : Expr} {ifs ifs1 : List Expr} {scope : Scope} {own : List (Str × Nat)} {pos : Pos} {fi fi1 : Rho → Option (List PyData)} {g g1 : TG} {bd bd1 : PyData → Rho → Option Rho} {is is1 : List Nat} {t t1 : Rho → Option Bool} {f : Rho → Option PyData} {vs vs1 : List Nat}
theorem pd_lc2 [Tbs] (hgd : GD X.K g bd is) (hv : ∀ i ∈ is, i ∈ vs) (hgd1 : GD X.K g1 bd1 is1) (hv1 : ∀ i ∈ is1, i ∈ vs1) (hvv : ∀ i ∈ vs1, i ∈ vs) (hc : X.calm = true) (hN : X.N.Nodup) (hi : PDI X tg iter fi) (ok : BlkOk X.N X.env.scope scope own)
    (hg : ∀ (s : Shared) (H : Hp) (C : Addr) (cl : List (Str × Addr)) (fp : List Addr), PG (X.blk s H scope (compEnvC scope cl C X.env) fp) tg g) (ht : ∀ (s : Shared) (H : Hp) (C : Addr) (cl : List (Str × Addr)) (fp : List Addr), PDTs (X.blk s H scope (compEnvC scope cl C X.env) fp) ifs t)
    (hi1 : ∀ (s : Shared) (H : Hp) (C : Addr) (cl : List (Str × Addr)) (fp : List Addr), PDI (X.blk s H scope (compEnvC scope cl C X.env) fp) tg1 iter1 fi1)
    (hg1 : ∀ (s : Shared) (H : Hp) (C : Addr) (cl : List (Str × Addr)) (fp : List Addr), PG (X.blk s H scope (compEnvC scope cl C X.env) fp) tg1 g1) (ht1 : ∀ (s : Shared) (H : Hp) (C : Addr) (cl : List (Str × Addr)) (fp : List Addr), PDTs (X.blk s H scope (compEnvC scope cl C X.env) fp) ifs1 t1)
    (he : ∀ (s : Shared) (H : Hp) (C : Addr) (cl : List (Str × Addr)) (fp : List Addr), PD (X.blk s H scope (compEnvC scope cl C X.env) fp) elt f) (hw : own.map (·.2) = vs := by rfl) (hs : ∀ x, foldedSetIterable iter X.env x = pure x := by intro _; rfl) (hs1 : ∀ env x, foldedSetIterable iter1 env x = pure x := by intro _ _; rfl) :
    PD X (.ListComp elt [⟨tg, iter, ifs, 0⟩, ⟨tg1, iter1, ifs1, 0⟩] scope pos) (fLc2 fi bd t fi1 bd1 t1 f vs vs1) := by
  subst hw
  exact pe_imp (pe_lc2 (vs1 := vs1) hc hN hi ok hvv hg ht hi1 hg1 ht1 he hs hs1) (lc2_imp hgd hv hgd1 hv1)
end
end Dn

namespace Dn
open PySem L2 PySem.Spec PyProof.Rows Gx
/-! ### instances that no more change: their fields -/
def lkF (f : Str) : List (PyData × PyData) → Option PyData
  | (.str x, d) :: r => if f == x then some d else lkF f r
  | _ => none
def puF (f : Str) (y : PyData) : List (PyData × PyData) → List (PyData × PyData)
  | (.str g, x) :: r => if g = f then (.str g, y) :: r else (.str g, x) :: puF f y r
  | _ => [(.str f, y)]
theorem dqF_lk [Tbs] {K : PySem.W.Frag} {B : Hp} {f : Str} {d : PyData} {vs : List (Str × V)} : ∀ {fs : List (PyData × PyData)}, DqF K B vs fs → lkF f fs = some d → ∃ v, vs.lookup f = some v ∧ Dq K B v d := by
  induction vs with
  | nil => intro fs h e; cases h; cases e
  | cons p vs ih =>
    intro fs h e
    cases h with
    | cons a b =>
      rename_i x v d' fs'
      unfold lkF at e
      rw [List.lookup_cons]
      cases hx : f == x with
      | true => rw [hx] at e; cases e; exact ⟨v, rfl, a⟩
      | false => rw [hx] at e; exact ih b e
theorem dqF_pu [Tbs] {K : PySem.W.Frag} {B : Hp} {f : Str} {y : V} {d : PyData} (hd : Dq K B y d) {vs : List (Str × V)} : ∀ {fs : List (PyData × PyData)}, DqF K B vs fs → DqF K B (putF f y vs) (puF f d fs) := by
  induction vs with
  | nil => intro fs h; cases h; exact .cons hd .nil
  | cons p vs ih =>
    intro fs h
    cases h with
    | cons a b =>
      unfold putF puF
      split
      · exact .cons hd b
      · exact .cons a (ih b)
theorem dqF_len [Tbs] {K : PySem.W.Frag} {B : Hp} {vs : List (Str × V)} : ∀ {fs : List (PyData × PyData)}, DqF K B vs fs → vs.length = fs.length := by
  induction vs with
  | nil => intro fs h; cases h; rfl
  | cons p vs ih => intro fs h; cases h with | cons a b => simp [ih b]
/-- what an own class has -/
structure Cla [Tbs] (K : PySem.W.Frag) (n : Str) (fl : List Str) : Prop where
  cl : Cls K (Tbs.Cl n)
  na : ∀ f ∈ fl, NoAttr K (Tbs.Cl n) f
def fldD (n f : Str) : PyData → Option PyData
  | .dict ((.none, .str m) :: fs) => if m = n then lkF f fs else none
  | _ => none
section
variable {X : Cx} {e o value : Expr} {es : List Expr} {n f : Str} {fl : List Str} {g fe : Rho → Option PyData} {fs : Rho → Option (List PyData)} {pos pos' : Pos}
theorem pd_fld [Tbs] (C : Cla X.K n fl) (hf : f ∈ fl) (he : PD X e g) (hb : attributeBase e f X.env (eval e X.env) = eval e X.env := by rfl) : PD X (.Attribute e f pos) (f1 (fldD n f) g) := pe_imp (pe_fld he hb) fun σ H Q ⟨H0, B, ρ, d, s, hx, q⟩ => by
  obtain ⟨x, hx, hy⟩ := bind_some hx
  refine ⟨H0, B, ρ, x, s, hx, fun v B1 H1 t1 d1 => ?_⟩
  unfold fldD at hy
  split at hy
  · rename_i m fs0
    split at hy
    · rename_i em
      subst em
      cases d1 with
      | ins h a =>
        obtain ⟨u, e1, e2⟩ := dqF_lk a hy
        exact ⟨_, _, _, _, u, rfl, t1.t _ _ h, C.cl, C.na f hf, e1, q u B1 H1 t1 e2⟩
    · cases hy
  · cases hy
/-! ### self in __init__ -/
def obF (n : Str) (ρ : Rho) : Option (List (PyData × PyData)) := match (ρ[0]? : Option (Option Sv)) with
  | some (some (.ob _ m fs)) => if m = n then some fs else none
  | _ => none
theorem obF_some {ρ : Rho} {gs : List (PyData × PyData)} (h : obF n ρ = some gs) : ∃ a, ρ[0]? = some (some (.ob a n gs)) := by
  unfold obF at h
  split at h
  · rename_i a m fs e
    obtain ⟨rfl, rfl⟩ := ite_some h
    exact ⟨a, e⟩
  · cases h
def fSlf (n f : Str) : Rho → Option PyData := fun ρ => (obF n ρ).bind (lkF f)
theorem pd_slf [Tbs] (C : Cla X.K n fl) (hf : f ∈ fl) (he : PE X e (tVar 0)) (hb : attributeBase e f X.env (eval e X.env) = eval e X.env := by rfl) : PD X (.Attribute e f pos) (fSlf n f) := pe_imp (pe_fld he hb) fun σ H Q ⟨H0, B, ρ, d, s, hx, q⟩ => by
  obtain ⟨gs, h1, h2⟩ := bind_some hx
  obtain ⟨a, ha⟩ := obF_some h1
  obtain ⟨_, dx, vs, e1, e2, e3, e4, e5⟩ := s.ob 0 a n gs ha
  obtain ⟨u, u1, u2⟩ := dqF_lk e5 h2
  exact ⟨.ref a, e1, a, _, dx, vs, u, rfl, e4, C.cl, C.na f hf, u1, q u B H (Tr.refl s.bh) u2⟩
/-- self.f = e -/
def gFld (n f : Str) (fe : Rho → Option PyData) : Rho → Option Out := fun ρ => (fe ρ).bind fun d => match (ρ[0]? : Option (Option Sv)) with
  | some (some (.ob a m gs)) => if m = n ∧ gs.length < 100 then some (.nx (ρ.set 0 (some (.ob a m (puF f d gs))))) else none
  | _ => none
theorem psd_fld [Tbs] (C : Cla X.K n fl) (hf : f ∈ fl) (ho : PE X o (tVar 0)) (hv : PD X value fe) (hs : swapsWith value (some (.Attribute o f pos')) pos.line X.env = pure false := by rfl) : PSD X (.Assign [.Attribute o f pos'] value pos) (gFld n f fe) := ps_imp (ps_fld ho hv hs) fun D σ H ⟨B0, H0, ρ, ou, ⟨B, t, s⟩, hx, q⟩ => by
  obtain ⟨d, hd, hx⟩ := bind_some hx
  split at hx
  · rename_i a m gs ha
    obtain ⟨⟨rfl, hl⟩, rfl⟩ := ite_some hx
    refine ⟨H0, B, ρ, d, s, hd, fun v B1 H1 t1 d1 => ?_⟩
    have s1 := s.tr t1
    have T := t.trans t1
    obtain ⟨_, dx, vs, e1, e2, e3, e4, e5⟩ := s1.ob 0 a m gs ha
    refine ⟨.ref a, e1, a, _, dx, vs, rfl, e4, C.cl, C.na f hf, by rw [dqF_len e5]; omega, q _ _ ⟨B1, T.put e2 e3, ?_⟩⟩
    have hne : ∀ {b : Addr} {us : List V}, H1 b = some (.lst us) → b ≠ a := fun hb z => by rw [z, e4] at hb; cases hb
    refine ⟨fun b u e => by rw [upd_ne (ne_of_none e e2)]; exact s1.bh b u e, s1.nt, fun P hP => ?_, by simp [s1.len], fun {i y} e => ?_, fun {i oo us} e => ?_, fun {i j o' o2 us ws b} x1 x2 x3 x4 => ?_, fun i b m2 gs2 e => ?_⟩
    · obtain ⟨ps, e, h⟩ := s1.tb P hP
      exact ⟨ps, by rw [upd_ne (fun z => by rw [z, e4] at e; cases e)]; exact e, h⟩
    · rcases get_set e with ⟨_, _, z⟩ | ⟨_, e⟩
      · cases z
      · exact s1.dv e
    · rcases get_set e with ⟨_, _, z⟩ | ⟨_, e⟩
      · cases z
      · obtain ⟨c, ws, w1, w2, w3, w4, w5⟩ := s1.ow e
        exact ⟨c, ws, w1, w2, w3, by rw [upd_ne (hne w4)]; exact w4, w5⟩
    · rcases get_set x1 with ⟨_, _, z⟩ | ⟨_, x1⟩
      · cases z
      · rcases get_set x2 with ⟨_, _, z⟩ | ⟨_, x2⟩
        · cases z
        · exact s1.ap x1 x2 x3 x4
    · rcases get_set e with ⟨rfl, _, z⟩ | ⟨n0, e⟩
      · cases z
        exact ⟨rfl, dx, _, e1, e2, e3, upd_same, dqF_pu d1 e5⟩
      · obtain ⟨z, _⟩ := s1.ob i b m2 gs2 e
        exact absurd z.symm n0
  · cases hx
end
/-! ### a def called with self -/
mutual
def noD : PyData → Bool
  | .list xs => noDs xs
  | .tuple xs => noDs xs
  | .dict _ => false
  | _ => true
def noDs : List PyData → Bool
  | [] => true
  | x :: r => noD x && noDs r
end
section
variable {K : PySem.W.Frag} {H : Hp} {a : Addr}
theorem rd_rm {b : Addr} {u : HO} (h : Rd H b u) (hn : ∀ o, H a ≠ some u ∧ H a ≠ some (.frz o u)) : Rd (rm H a) b u := by
  rcases h with h | ⟨o, h⟩
  · exact .inl (by rw [rm_ne (fun z => (hn (default : Obj)).1 (by rw [← z]; exact h))]; exact h)
  · exact .inr ⟨o, by rw [rm_ne (fun z => (hn o).2 (by rw [← z]; exact h))]; exact h⟩
mutual
theorem dq_rm [Tbs] {C dx : Addr} {fs : List (Str × V)} (ha : H a = some (.ins C dx fs)) : ∀ {v : V} {d : PyData}, Dq K H v d → noD d = true → Dq K (rm H a) v d
  | _, _, .non, _ => .non
  | _, _, .bl b, _ => .bl b
  | _, _, .int i, _ => .int i
  | _, _, .str x, _ => .str x
  | _, _, .lst h as, e => .lst (by
      rcases h with h | h
      · exact .inl (rd_rm h fun o => by rw [ha]; exact ⟨(fun z => by cases z), (fun z => by cases z)⟩)
      · exact .inr h) (dqAll_rm ha as (by simpa only [noD] using e))
  | _, _, .tup h as, e => .tup (by
      rcases h with h | h
      · exact .inl (rd_rm h fun o => by rw [ha]; exact ⟨(fun z => by cases z), (fun z => by cases z)⟩)
      · exact .inr h) (dqAll_rm ha as (by simpa only [noD] using e))
  | _, _, .emp h, e => by simp [noD] at e
  | _, _, .ins h as, e => by simp [noD] at e
theorem dqAll_rm [Tbs] {C dx : Addr} {fs : List (Str × V)} (ha : H a = some (.ins C dx fs)) : ∀ {vs : List V} {ds : List PyData}, DqAll K H vs ds → noDs ds = true → DqAll K (rm H a) vs ds
  | _, _, .nil, _ => .nil
  | _, _, .cons h t, e => by
    rw [noDs, Bool.and_eq_true] at e
    exact .cons (dq_rm ha h e.1) (dqAll_rm ha t e.2)
end
end
section
variable {X : Cx} {k n : Nat} {x nm : Str} {p pos : Pos} {e : Expr} {es : List Expr} {fs : Rho → Option (List PyData)} {F : List PyData → Option PyData}
def fCaO (n : Nat) (nm : Str) (F : List PyData → Option PyData) (fs : Rho → Option (List PyData)) : Rho → Option PyData := fun ρ => (fs ρ).bind fun ds => (obF nm ρ).bind fun gs => if ds.length + 1 = n then (F (.dict ((.none, .str nm) :: gs) :: ds)).bind fun d => if noD d = true then some d else none else none
theorem pd_knO [Tbs] (h : Kn X.prog X.w X.K X.mg X.base k n x F) (hr : Room k X.A) (h0 : PE X e (tVar 0)) (ha : PDA X es fs) (hg : Gl X x := by rfl) (hdb : (x == ("__debug__" : Str)) = false := by decide) (he : starEach (e :: es) X.env = (false, eval e X.env) :: starEach es X.env := by rfl) (hpl : (backTo pos (starEach es X.env)).any (·.1) = false := by rfl) :
    PD X (.Call (.Name x p) (e :: es) [] pos) (fCaO n nm F fs) := by
  obtain ⟨f, fd, ps, G, hm, hk, hb⟩ := h.ex
  refine pe_imp (pe_call (E := E0) G hr hg hm hk hb .nil pass0 (pa_cons h0 ha he) hdb he hpl) fun σ H Q ⟨H0, B, ρ, d, s, hf, q⟩ => ?_
  obtain ⟨ds, hds, hf⟩ := bind_some hf
  obtain ⟨gs, hgs, hf⟩ := bind_some hf
  split at hf
  case isFalse => cases hf
  rename_i hl
  obtain ⟨r, hF, hf⟩ := bind_some hf
  obtain ⟨hn, rfl⟩ := ite_some hf
  obtain ⟨a, ha⟩ := obF_some hgs
  obtain ⟨_, dx0, vs0, e1, _⟩ := s.ob 0 a nm gs ha
  refine ⟨.ref a, e1, H0, B, ρ, ds, s, hds, fun us B1 H1 t1 d1 => ?_⟩
  have s1 := s.tr t1
  obtain ⟨_, dx, vs, e1, e2, e3, e4, e5⟩ := s1.ob 0 a nm gs ha
  show spD X.K n F ((V.ref a :: us) ++ []) H1 Q E0
  rw [List.append_nil]
  have b2 : Same B1 (upd B1 a (.ins (Tbs.Cl nm) dx vs)) := same_upd e2
  have b3 : Same (upd B1 a (.ins (Tbs.Cl nm) dx vs)) H1 := fun c u w => by
    by_cases z : c = a
    · subst z; rw [upd_same] at w; cases w; exact e4
    · rw [upd_ne z] at w; exact t1.t c u w
  refine ⟨upd B1 a (.ins (Tbs.Cl nm) dx vs), _, r, ⟨b3, nt_upd s1.nt (fun _ z => by cases z), s1.tb⟩, .cons (.ins upd_same (dpF_mono b2 e5)) (dpAll_mono b2 d1), hl, hF, fun v B' H' t dd => ?_⟩
  have ha' : B' a = some (.ins (Tbs.Cl nm) dx vs) := t.b _ _ upd_same
  have T : Tr B1 H1 (rm B' a) H' := ⟨fun c u w => by rw [rm_ne (ne_of_none w e2)]; exact t.b _ _ (b2 _ _ w), fun c u w => t.t _ _ (rm_le c u w), t.h, fun _ => (fun c ps w => t.n (nt_upd s1.nt (fun _ z => by cases z)) c ps (rm_le _ _ w)), fun c u w1 w2 => by
    have hne : c ≠ a := fun z => by subst z; rw [rm_same] at w1; cases w1
    exact t.f c u (rm_le _ _ w1) (by rw [upd_ne hne]; exact w2)⟩
  exact q v (rm B' a) H' (t1.trans T) (dq_rm ha' dd hn)
end
/-! ### __init__ and the making -/
def spI [Tbs] (K : PySem.W.Frag) (nm : Str) (n : Nat) (F : List PyData → Option (List (PyData × PyData))) : Sp := fun vs H Q _ => ∃ (B : Hp) (a dx : Addr) (rest : List V) (ds : List PyData) (gs : List (PyData × PyData)),
  vs = .ref a :: rest ∧ Bs B H ∧ B a = none ∧ H a = some (.ins (Tbs.Cl nm) dx []) ∧ DqAll K B rest ds ∧ ds.length + 1 = n ∧ F ds = some gs ∧
  ∀ B' H' dx' ws, Tr B (rm H a) B' H' → B' a = none → H' a = some (.ins (Tbs.Cl nm) dx' ws) → DqF K B' ws gs → Q .non H'
def startI (n : Nat) (a : Addr) (nm : Str) (ds : List PyData) : Rho := some (.ob a nm []) :: (ds.map (fun d => some (.d d)) ++ List.replicate (n - (ds.length + 1)) none)
def retI (nm : Str) : Option Out → Option (List (PyData × PyData))
  | some (.nx ρ) => obF nm ρ
  | _ => none
def fnI (n : Nat) (nm : Str) (g : Rho → Option Out) : List PyData → Option (List (PyData × PyData)) := fun ds => retI nm (g (startI n 0 nm ds))
structure KnI [Tbs] (P : Program) (w : World) (K : PySem.W.Frag) (mg : Str → Option Value) (base : Heap) (k n : Nat) (nm : Str) (F : List PyData → Option (List (PyData × PyData))) : Prop where
  ex : ∃ f fd ps, FnOk P w K mg base CX0 k f fd ps (spI K nm n F) ∧ Mk K (Tbs.Cl nm) f ∧ mg nm = some (.ref (Tbs.Cl nm)) ∧ L2.Binds K fd ps []
section
variable {P : Program} {w : World} {K : PySem.W.Frag} {mg : Str → Option Value} {base : Heap} {nm : Str} {st : Stmt} {F : List PyData → Option (List (PyData × PyData))}
theorem KnI.mono [Tbs] {j k n : Nat} (h : KnI P w K mg base j n nm F) (l : j ≤ k) : KnI P w K mg base k n nm F := by
  obtain ⟨f, fd, ps, a, b⟩ := h.ex
  exact ⟨f, fd, ps, a.mono l, b⟩
theorem sl_startI [Tbs] {B H : Hp} {a dx : Addr} {vs : List V} {ds : List PyData} {N : List Str} (s : Bs B H) (hb : B a = none) (ha : H a = some (.ins (Tbs.Cl nm) dx [])) (h : DqAll K B vs ds) :
    Sl K (rm H a) B (startI N.length a nm ds) (L2.start N (.ref a :: vs)) H := by
  have hl := dpAll_len h
  have hN : L2.start N (.ref a :: vs) = some (.ref a) :: (vs.map some ++ List.replicate (N.length - (vs.length + 1)) none) := rfl
  rw [hN]
  have nd : ∀ (i : Nat) (y : Sv), (ds.map (fun d => some (Sv.d d)) ++ List.replicate (N.length - (ds.length + 1)) none)[i]? = some (some y) → ∃ d, ds[i]? = some d ∧ y = .d d := by
    intro i y e
    by_cases hi : i < ds.length
    · rw [List.getElem?_append_left (by simpa using hi), List.getElem?_map] at e
      obtain ⟨d, hd, e⟩ := Option.map_eq_some_iff.mp e
      cases e
      exact ⟨d, hd, rfl⟩
    · rw [List.getElem?_append_right (by simpa using hi), List.getElem?_replicate] at e
      split at e <;> cases e
  refine ⟨s.s, s.nt, s.tb, by simp [startI, hl], fun {i x} e => ?_, fun {i o xs} e => ?_, fun {i j o o' xs ys c} e _ _ _ => ?_, fun i b m gs e => ?_⟩
  · unfold startI at e
    cases i with
    | zero => cases e
    | succ i =>
      obtain ⟨d, hd, ez⟩ := nd i _ e
      cases ez
      obtain ⟨v, hv, hdv⟩ := dpAll_get h hd
      refine ⟨v, ?_, hdv⟩
      have hi := (List.getElem?_eq_some_iff.mp hv).1
      rw [List.getElem?_cons_succ, List.getElem?_append_left (by simpa using hi), List.getElem?_map, hv]
      rfl
  · unfold startI at e
    cases i with
    | zero => cases e
    | succ i => obtain ⟨d, hd, ez⟩ := nd i _ e; cases ez
  · unfold startI at e
    cases i with
    | zero => cases e
    | succ i => obtain ⟨d, hd, ez⟩ := nd i _ e; cases ez
  · unfold startI at e
    cases i with
    | zero => cases e; exact ⟨rfl, dx, [], rfl, hb, rm_same, ha, .nil⟩
    | succ i => obtain ⟨d, hd, ez⟩ := nd i _ e; cases ez
theorem knI_of [Tbs] {x qual : Str} {N ps : List Str} {k : Nat} {g : Rho → Option Out} {f : Addr} {fd : FuncData} (Fu : Fun K x qual st f fd) (M : Mk K (Tbs.Cl nm) f) (hm : mg nm = some (.ref (Tbs.Cl nm))) (bd : L2.Binds K fd ps []) (S : FnScope N ps (defScope st))
    (hF : ∀ a ds gs, F ds = some gs → retI nm (g (startI N.length a nm ds)) = some gs ∧ ∀ ρ, g (startI N.length a nm ds) = some (.nx ρ) → ∃ hs, ρ[0]? = some (some (.ob a nm hs)))
    (hb : ∀ (cdv : Value) (A : Around) (outer : List Env) (s : Shared) (H : Hp) (E : XK), Room k (A.deeper (envOfC qual (defScope st) s.heap.objs.size f cdv)) → PSDs (cxOf CX0 P w K mg base N qual (defScope st) f cdv A outer s H E).nox (defBody st) g) :
    KnI P w K mg base (k + 1) ps.length nm F := by
  refine ⟨f, fd, ps, Fu.ok S (fun vs H Q E ⟨B, a, dx, rest, ds, gs, e, _, _, _, h4, h5, _⟩ => ?_) (fun cdv A outer s H vs Q E hr ⟨B, a, dx, rest, ds, gs, e, h1, h2, h3, h4, h5, h6, q⟩ => ?_), M, hm, bd⟩
  · rw [e, ← h5, ← dpAll_len h4]; rfl
  · subst e
    obtain ⟨r1, r2⟩ := hF a ds gs h6
    refine ⟨_, hb cdv A outer s H E hr, B, rm H a, startI N.length a nm ds, ?_⟩
    unfold retI at r1
    split at r1
    · rename_i o ρ1 e1
      obtain ⟨hs, e2⟩ := r2 ρ1 e1
      have e3 : hs = gs := by
        unfold obF at r1
        rw [e2] at r1
        simpa using r1
      subst e3
      refine ⟨_, ⟨B, ⟨Same.refl _, h1.s, .of rm_le, id, fun c o w1 w2 => by rw [w2] at w1; cases w1⟩, sl_startI h1 h2 h3 h4⟩, e1, fun σ' H' ⟨B', t, s'⟩ => ?_⟩
      obtain ⟨_, dx', ws, z1, z2, z3, z4, z5⟩ := s'.ob 0 a nm hs e2
      exact q B' H' dx' ws ⟨t.b, t.t, t.h, t.n, t.f⟩ z2 z4 z5
    · cases r1
end
section
variable {X : Cx} {k n : Nat} {nm : Str} {p pos : Pos} {e : Expr} {es : List Expr} {fs : Rho → Option (List PyData)} {F : List PyData → Option (List (PyData × PyData))}
def fMk (nm : Str) (n : Nat) (F : List PyData → Option (List (PyData × PyData))) (fs : Rho → Option (List PyData)) : Rho → Option PyData := fun ρ => (fs ρ).bind fun ds => if ds.length + 1 = n then (F ds).map fun gs => .dict ((.none, .str nm) :: gs) else none
theorem pd_mk [Tbs] (h : KnI X.prog X.w X.K X.mg X.base k n nm F) (hr : Room (k + 1) X.A) (ha : PDA X (e :: es) fs) (hg : Gl X nm := by rfl) (hdb : (nm == ("__debug__" : Str)) = false := by decide) (he : starEach (e :: es) X.env = (false, eval e X.env) :: starEach es X.env := by rfl) (hpl : (backTo pos (starEach es X.env)).any (·.1) = false := by rfl) :
    PD X (.Call (.Name nm p) (e :: es) [] pos) (fMk nm n F fs) := by
  obtain ⟨f, fd, ps, G, M, hm, hb⟩ := h.ex
  refine pe_imp (pe_make (E := E0) M G hr hg hm hb .nil pass0 ha hdb he hpl) fun σ H Q ⟨H0, B, ρ, d, s, hf, q⟩ => ?_
  obtain ⟨ds, hds, hf⟩ := bind_some hf
  split at hf
  case isFalse => cases hf
  rename_i hl
  obtain ⟨gs, hF, rfl⟩ := Option.map_eq_some_iff.mp hf
  refine ⟨H0, B, ρ, ds, s, hds, fun us B1 H1 t1 d1 => fun x dx hx hdx hne => ?_⟩
  have s1 := s.tr t1
  show spI X.K nm n F (V.ref x :: (us ++ [])) _ _ E0
  rw [List.append_nil]
  have hdx' : (upd H1 dx (.own x)) x = none := by rw [upd_ne hne.symm]; exact hx
  have sH : Same H1 (upd (upd H1 dx (.own x)) x (.ins (Tbs.Cl nm) dx [])) := (same_upd hdx).trans (same_upd hdx')
  have bx : B1 x = none := s1.bh.free hx
  refine ⟨B1, x, dx, us, ds, gs, rfl, ⟨s1.bh.trans sH, s1.nt, fun P hP => (Gw.of sH).tab (s1.tb P hP)⟩, bx, upd_same, d1, hl, hF, fun B' H' dx' ws t z1 z2 z3 => ⟨rfl, ?_⟩⟩
  have hrm : ∀ c, c ≠ x → rm (upd (upd H1 dx (.own x)) x (.ins (Tbs.Cl nm) dx [])) x c = upd H1 dx (.own x) c := fun c hc => by rw [rm_ne hc, upd_ne hc]
  have T : Tr B1 H1 (upd B' x (.ins (Tbs.Cl nm) dx' ws)) H' := by
    refine ⟨t.b.trans (same_upd z1), fun c u w => ?_, ?_, fun m => nt_upd (t.n m) (fun _ z => by cases z), fun c u w1 w2 => ?_⟩
    · by_cases z : c = x
      · subst z; rw [upd_same] at w; cases w; exact z2
      · rw [upd_ne z] at w; exact t.t c u w
    · refine Gw.trans (.of fun c u w => ?_) t.h
      have hc : c ≠ x := ne_of_none w hx
      rw [hrm c hc]
      exact same_upd hdx c u w
    · by_cases z : c = x
      · subst z; exact hx
      · rw [upd_ne z] at w1
        have y := t.f c u w1 w2
        rw [hrm c z] at y
        by_cases z2 : c = dx
        · subst z2; rw [upd_same] at y; cases y
        · rw [upd_ne z2] at y; exact y
  exact q _ _ _ (t1.trans T) (.ins upd_same (dpF_mono (same_upd z1) z3))
end
end Dn

namespace Dn
open PySem L2 PySem.Spec PyProof.Rows Gx
/-! ### lists that nobody else knows: made, returned, kept -/
def tF [Tbs] (K : PySem.W.Frag) (f : Rho → Option (List PyData)) : TE := fun σ H Q => ∃ H0 B ρ xs, Sl K H0 B ρ σ H ∧ f ρ = some xs ∧ ∀ a us B' H', Tr B H B' H' → B' a = none → H a = none → H' a = some (.lst us) → DqAll K B' us xs → Q (.ref a) H'
abbrev PDF [Tbs] (X : Cx) (e : Expr) (f : Rho → Option (List PyData)) : Prop := PE X e (tF X.K f)
/-- a list that was fresh becomes data -/
theorem fresh_dq [Tbs] {K : PySem.W.Frag} {B H B' H' : Hp} {a : Addr} {us : List V} {xs : List PyData} (t : Tr B H B' H') (b : B' a = none) (h0 : H a = none) (h : H' a = some (.lst us)) (d : DqAll K B' us xs) : Tr B H (upd B' a (.lst us)) H' ∧ Dq K (upd B' a (.lst us)) (.ref a) (.list xs) := ⟨⟨t.b.trans (same_upd b), fun c u e => by
  by_cases z : c = a
  · subst z; rw [upd_same] at e; cases e; exact h
  · rw [upd_ne z] at e; exact t.t c u e, t.h, fun n => nt_upd (t.n n) (fun _ z => by cases z), fun c u e1 e2 => by
  by_cases z : c = a
  · subst z; exact h0
  · rw [upd_ne z] at e1; exact t.f c u e1 e2⟩, .lst (SqL.of upd_same) (dpAll_mono (same_upd b) d)⟩
section
variable {X : Cx} {e a : Expr} {es : List Expr} {st : Stmt} {f : Rho → Option (List PyData)} {fe : Rho → Option PyData} {pos p p2 q : Pos}
theorem pd_of_f [Tbs] (h : PDF X e f) : PD X e (fun ρ => (f ρ).map .list) := pe_imp h fun σ H Q ⟨H0, B, ρ, d, s, hf, q⟩ => by
  obtain ⟨xs, hx, rfl⟩ := Option.map_eq_some_iff.mp hf
  exact ⟨H0, B, ρ, xs, s, hx, fun a us B' H' t b h0 h d => let ⟨t2, d2⟩ := fresh_dq t b h0 h d; q _ _ _ t2 d2⟩
def fFl (f : Rho → Option (List PyData)) : Rho → Option (List PyData) := fun ρ => (f ρ).bind fun xs => if xs.length ≤ bigL then some xs else none
theorem pdf_lst [Tbs] {x1} (h : PDA X es f) : PDF X (.List es x1) (fFl f) := pe_imp (pe_lst h) fun σ H Q ⟨H0, B, ρ, d, s, hf, q⟩ => by
  obtain ⟨xs, hxs, hf⟩ := bind_some hf
  obtain ⟨hl, rfl⟩ := ite_some hf
  refine ⟨H0, B, ρ, xs, s, hxs, fun vs B1 H1 t1 d1 => ⟨by rw [dpAll_len d1]; exact bigL_le hl, fun p hp => ?_⟩⟩
  exact q p vs B1 _ (t1.trans (Tr.junk t1.t hp)) (t1.t.free hp) (t1.h.free hp) upd_same d1
def ssF : PyData → Option (List PyData)
  | .list xs => (strsD xs).bind fun ys => if ys.length < 64 then some ((sortT (onceT ys)).map .str) else none
  | _ => none
def f1F (g : PyData → Option (List PyData)) (f : Rho → Option PyData) : Rho → Option (List PyData) := fun ρ => (f ρ).bind g
theorem pdf_ss [Tbs] (hc : X.calm = true) (hg : Gl X "sorted") (hm : X.mg "sorted" = none) (hg2 : Gl X "set") (hm2 : X.mg "set" = none) (ha : PD X a fe)
    (na : starEach [a] X.env = (false, eval a X.env) :: starEach [] X.env := by rfl) : PDF X (.Call (.Name "sorted" p) [.Call (.Name "set" p2) [a] [] q] [] pos) (f1F ssF fe) := pe_imp (Sx.pe_sortedSet hc hg hm hg2 hm2 ha na) fun σ H Q ⟨H0, B, ρ, d, s, hf, q⟩ => by
  obtain ⟨x, hx, hf⟩ := bind_some hf
  refine ⟨H0, B, ρ, x, s, hx, fun v B1 H1 t1 d1 => ?_⟩
  unfold ssF at hf
  split at hf
  · obtain ⟨ys, hy, hf⟩ := bind_some hf
    obtain ⟨hl, rfl⟩ := ite_some hf
    cases d1 with
    | lst h a =>
      refine ⟨_, ys, rfl, by rw [← strs_of a hy]; exact sqL_mono t1.t h, hl, fun zs p h1 h2 h3 _ h4 => ?_⟩
      rw [sortset_eq h1 h2 h3]
      exact q p _ B1 _ (t1.trans (Tr.junk t1.t h4)) (t1.t.free h4) (t1.h.free h4) upd_same (dp_strs _)
  · cases hf
/-- x = such a list -/
def gOwnF (i : Nat) (f : Rho → Option (List PyData)) : Rho → Option Out := fun ρ => (f ρ).map fun xs => .nx (ρ.set i (some (.own none xs)))
theorem psd_ownF [Tbs] {i : Nat} (h : PS X st (tAsg (tF X.K f) (gName i))) : PSD X st (gOwnF i f) := ps_imp h fun D σ H ⟨B0, H0, ρ, o, ⟨B, t, s⟩, hf, q⟩ => by
  obtain ⟨xs, hx, rfl⟩ := Option.map_eq_some_iff.mp hf
  refine ⟨H0, B, ρ, xs, s, hx, fun a us B1 H1 t1 b h0 h d => ?_⟩
  have s1 := s.tr t1
  refine q _ _ ⟨B1, t.trans t1, sl_setO s1 b (t.h.free h0) h d (fun c e => nomatch e) fun {j oj ys} n e z => ?_⟩
  obtain ⟨c, ws, e1, _, _, e4, _⟩ := s.ow e
  rw [z] at e1
  cases e1
  rw [h0] at e4
  cases e4
def gRetF (f : Rho → Option (List PyData)) : Rho → Option Out := fun ρ => (f ρ).map fun xs => .rf xs
theorem psd_retF [Tbs] (h : PDF X e f) : PSD X (.Return (some e) pos) (gRetF f) := ps_imp (ps_ret h) fun D σ H ⟨B0, H0, ρ, o, ⟨B, t, s⟩, hf, q⟩ => by
  obtain ⟨xs, hx, rfl⟩ := Option.map_eq_some_iff.mp hf
  exact ⟨H0, B, ρ, xs, s, hx, fun a us B1 H1 t1 b h0 h d => q a us B1 H1 (t.trans t1) b (t.h.free h0) h d⟩
/-- return x, x knows its list alone -/
def fOw (i : Nat) (ρ : Rho) : Option (List PyData) := match ρ[i]? with
  | some (some (.own _ xs)) => some xs
  | _ => none
def gRetO (i : Nat) : Rho → Option Out := fun ρ => (fOw i ρ).map fun xs => .rf xs
theorem psd_retO [Tbs] {i : Nat} (h : PE X e (tVar i)) : PSD X (.Return (some e) pos) (gRetO i) := ps_imp (ps_ret h) fun D σ H ⟨B0, H0, ρ, o, ⟨B, t, s⟩, hf, q⟩ => by
  obtain ⟨xs, hx, rfl⟩ := Option.map_eq_some_iff.mp hf
  unfold fOw at hx
  split at hx
  · rename_i oo ys e
    cases hx
    obtain ⟨a, us, h1, h2, h3, h4, h5, _⟩ := s.ow e
    exact ⟨.ref a, h1, q a us B H t h2 h3 h4 h5⟩
  · cases hx
end
/-- len(x), x a slot's own list -/
def flatG (g : PyData → Option PyData) (x : PyData) : Option PyData := (g x).bind fun z => if flatD z = true then some z else none
theorem pd_biO [Tbs] {X : Cx} {x : Str} {id : String} {r : List V → Hp → VK → Prop} {g : PyData → Option PyData} {i : Nat} {e : Expr} {p pos : Pos} (hc : CallR X (.builtin id) r) (hr : RC X.K r (one1 g)) (hg : Gl X x) (hm : X.mg x = none) (hv : bootBuiltins x = some (.builtin id)) (he1 : PE X e (tVar i))
    (hn : x ≠ "__name__" := by decide) (hdb : (x == ("__debug__" : Str)) = false := by decide) (he : starEach [e] X.env = (false, eval e X.env) :: starEach [] X.env := by rfl) (hpl : (backTo pos (starEach [] X.env)).any (·.1) = false := by rfl) : PD X (.Call (.Name x p) [e] [] pos) (f1 (flatG g) (fOwn i)) :=
  pe_imp (pe_callB hc hg hm hv (pa_cons he1 pa_nil he) hn hdb he hpl) fun σ H Q h => rc_own (i := i) hr σ H Q h
/-! ### defs that return such a list -/
def spF [Tbs] (K : PySem.W.Frag) (n : Nat) (F : List PyData → Option (List PyData)) : Sp := fun vs H Q _ => ∃ B ds xs, Bs B H ∧ DqAll K B vs ds ∧ ds.length = n ∧ F ds = some xs ∧ ∀ a us B' H', Tr B H B' H' → B' a = none → H a = none → H' a = some (.lst us) → DqAll K B' us xs → Q (.ref a) H'
structure KnF [Tbs] (P : Program) (w : World) (K : PySem.W.Frag) (mg : Str → Option Value) (base : Heap) (k n : Nat) (x : Str) (F : List PyData → Option (List PyData)) : Prop where
  ex : ∃ f fd ps, FnOk P w K mg base CX0 k f fd ps (spF K n F) ∧ mg x = some (.ref f) ∧ PySem.W.keepIn K (.ref f) = true ∧ L2.Binds K fd ps []
def retF : Option Out → Option (List PyData)
  | some (.rf xs) => some xs
  | _ => none
def fnF (n : Nat) (g : Rho → Option Out) : List PyData → Option (List PyData) := fun ds => retF (g (startR n ds))
section
variable {P : Program} {w : World} {K : PySem.W.Frag} {mg : Str → Option Value} {base : Heap} {x : Str} {st : Stmt}
theorem KnF.mono [Tbs] {j k n : Nat} {F : List PyData → Option (List PyData)} (h : KnF P w K mg base j n x F) (l : j ≤ k) : KnF P w K mg base k n x F := by
  obtain ⟨f, fd, ps, a, b⟩ := h.ex
  exact ⟨f, fd, ps, a.mono l, b⟩
theorem KnF.none [Tbs] {ps : List Str} (D : Df K mg x st ps) {k n : Nat} : KnF P w K mg base k n x fun _ => .none := by
  obtain ⟨f, fd, Fu, m, b⟩ := D.ex
  have no : ∀ vs H Q E, ¬ spF K n (fun _ => Option.none) vs H Q E := fun vs H Q E ⟨_, _, _, _, _, _, h, _⟩ => nomatch h
  exact ⟨f, fd, ps, ⟨fun vs H Q E h => absurd h (no vs H Q E), fun A outer s H args us vs Q E _ _ _ _ h => absurd h (no vs H Q E)⟩, m, Fu.kp, b⟩
theorem knF_of [Tbs] {N ps : List Str} {k : Nat} {g : Rho → Option Out} (D : Df K mg x st ps) (S : FnScope N ps (defScope st))
    (hb : ∀ (f : Addr) (cdv : Value) (A : Around) (outer : List Env) (s : Shared) (H : Hp) (E : XK), Room k (A.deeper (envOfC x (defScope st) s.heap.objs.size f cdv)) → PSDs (cxOf CX0 P w K mg base N x (defScope st) f cdv A outer s H E).nox (defBody st) g) :
    KnF P w K mg base (k + 1) ps.length x (fnF N.length g) := by
  obtain ⟨f, fd, Fu, m, b⟩ := D.ex
  refine ⟨f, fd, ps, Fu.ok S (fun vs H Q E ⟨B, ds, xs, h1, h2, h3, _⟩ => by rw [dpAll_len h2, h3]) (fun cdv A outer s H vs Q E hr ⟨B, ds, xs, h1, h2, h3, h4, q⟩ => ?_), m, Fu.kp, b⟩
  refine ⟨_, hb f cdv A outer s H E hr, B, H, startR N.length ds, ?_⟩
  unfold fnF retF at h4
  split at h4
  · rename_i o ys e
    cases h4
    exact ⟨_, ⟨B, Tr.refl h1.s, sl_start h1 h2⟩, e, fun a us B' H' t b0 h0 h d => q a us B' H' t b0 h0 h d⟩
  · cases h4
theorem KnF.kn [Tbs] {k n : Nat} {F : List PyData → Option (List PyData)} (h : KnF P w K mg base k n x F) : Kn P w K mg base k n x (fun ds => (F ds).map .list) := by
  obtain ⟨f, fd, ps, G, b⟩ := h.ex
  refine ⟨f, fd, ps, G.imp fun vs H Q E ⟨B, ds, d, h1, h2, h3, h4, q⟩ => ?_, b⟩
  obtain ⟨xs, hx, rfl⟩ := Option.map_eq_some_iff.mp h4
  exact ⟨B, ds, xs, h1, h2, h3, hx, fun a us B' H' t b0 h0 h d => let ⟨t2, d2⟩ := fresh_dq t b0 h0 h d; q _ _ _ t2 d2⟩
end
section
variable {X : Cx} {k n : Nat} {x : Str} {p pos : Pos} {e : Expr} {es : List Expr} {fs : Rho → Option (List PyData)} {F : List PyData → Option (List PyData)}
abbrev ofF (F : List PyData → Option (List PyData)) : List PyData → Option PyData := fun ds => (F ds).map .list
def fCaF (n : Nat) (F : List PyData → Option (List PyData)) (fs : Rho → Option (List PyData)) : Rho → Option (List PyData) := fun ρ => (fs ρ).bind fun ds => if ds.length = n then F ds else none
theorem pdf_kn [Tbs] (h : KnF X.prog X.w X.K X.mg X.base k n x F) (hr : Room k X.A) (ha : PDA X (e :: es) fs) (hg : Gl X x := by rfl) (hdb : (x == ("__debug__" : Str)) = false := by decide) (he : starEach (e :: es) X.env = (false, eval e X.env) :: starEach es X.env := by rfl) (hpl : (backTo pos (starEach es X.env)).any (·.1) = false := by rfl) : PDF X (.Call (.Name x p) (e :: es) [] pos) (fCaF n F fs) := by
  obtain ⟨f, fd, ps, G, hm, hk, hb⟩ := h.ex
  refine pe_imp (pe_call (E := E0) G hr hg hm hk hb .nil pass0 ha hdb he hpl) fun σ H Q ⟨H0, B, ρ, d, s, hf, q⟩ => ?_
  obtain ⟨ds, hds, hf⟩ := bind_some hf
  split at hf
  · rename_i hl
    refine ⟨H0, B, ρ, ds, s, hds, fun vs B1 H1 t1 d1 => ?_⟩
    show spF X.K n F (vs ++ []) H1 Q E0
    rw [List.append_nil]
    exact ⟨B1, ds, d, (s.tr t1).bs, d1, hl, hf, fun a us B' H' t b h0 h dd => q a us B' H' (t1.trans t) b (t1.h.free h0) h dd⟩
  · cases hf
end
end Dn

/-! The meanings, applied: for simp, without going under a binder. -/
namespace Dn
open PySem L2
/-- two texts are the same -/
def sEq (a b : Str) : Bool := decide (a = b)
@[simp] theorem sEq_same (a : Str) : sEq a a = true := decide_eq_true rfl
theorem sEq_ne {a b : Str} (h : ¬ a = b) : sEq a b = false := decide_eq_false h
theorem sEq_iff {a b : Str} : sEq a b = true ↔ a = b := decide_eq_true_iff
section
variable (ρ : Rho) (i j n : Nat) (f g h : Rho → Option PyData) (ft gt : Rho → Option Bool) (fs : Rho → Option (List PyData)) (G G' : Rho → Option Out) (fl fh : Rho → Option (Option Int)) (d x y : PyData) (xs ys : List PyData) (b : Bool) (k m : Int)
def slot : Option (Option Sv) → Option PyData
  | some (some (.d x)) => some x
  | _ => none
@[simp] theorem fV_ap : fV i ρ = slot ρ[i]? := by unfold fV slot; rfl
@[simp] theorem slot_d : slot (some (some (.d x))) = some x := rfl
@[simp] theorem fC_ap : fC d ρ = some d := rfl
def ap2 (op : PyData → PyData → Option PyData) : Option PyData → Option PyData → Option PyData
  | some x, some y => op x y
  | _, _ => none
@[simp] theorem ap2_some (op) : ap2 op (some x) (some y) = op x y := rfl
@[simp] theorem f2_ap (op) : f2 op f g ρ = ap2 op (f ρ) (g ρ) := by unfold f2 ap2; cases f ρ <;> cases g ρ <;> rfl
def ap1 (op : PyData → Option PyData) : Option PyData → Option PyData
  | some x => op x
  | _ => none
@[simp] theorem ap1_some (op) : ap1 op (some x) = op x := rfl
@[simp] theorem f1_ap (op) : f1 op f ρ = ap1 op (f ρ) := by unfold f1 ap1; cases f ρ <;> rfl
def unB : Option PyData → Option Bool
  | some (.bool b) => some b
  | _ => none
@[simp] theorem unB_some : unB (some (.bool b)) = some b := rfl
@[simp] theorem fB_ap : fB f ρ = unB (f ρ) := rfl
def andT : Option Bool → Option Bool → Option Bool
  | some true, y => y
  | some false, _ => some false
  | none, _ => none
def orT : Option Bool → Option Bool → Option Bool
  | some true, _ => some true
  | some false, y => y
  | none, _ => none
@[simp] theorem andT_t (y) : andT (some true) y = y := rfl
@[simp] theorem andT_f (y) : andT (some false) y = some false := rfl
@[simp] theorem orT_t (y) : orT (some true) y = some true := rfl
@[simp] theorem orT_f (y) : orT (some false) y = y := rfl
theorem andT_ss (a c : Bool) : andT (some a) (some c) = some (a && c) := by cases a <;> rfl
theorem orT_ss (a c : Bool) : orT (some a) (some c) = some (a || c) := by cases a <;> rfl
@[simp] theorem fAndT_ap : fAndT ft gt ρ = andT (ft ρ) (gt ρ) := by unfold fAndT andT; cases ft ρ with | none => rfl | some c => cases c <;> rfl
@[simp] theorem fOrT_ap : fOrT ft gt ρ = orT (ft ρ) (gt ρ) := by unfold fOrT orT; cases ft ρ with | none => rfl | some c => cases c <;> rfl
@[simp] theorem fNotT_ap : fNotT ft ρ = (ft ρ).map (!·) := by unfold fNotT; cases ft ρ <;> rfl
def andV : Option Bool → Option PyData → Option PyData
  | some true, y => y
  | some false, _ => some (.bool false)
  | none, _ => none
def orV : Option Bool → Option PyData → Option PyData
  | some true, _ => some (.bool true)
  | some false, y => y
  | none, _ => none
@[simp] theorem andV_t (y) : andV (some true) y = y := rfl
@[simp] theorem andV_f (y) : andV (some false) y = some (.bool false) := rfl
@[simp] theorem orV_t (y) : orV (some true) y = some (.bool true) := rfl
@[simp] theorem orV_f (y) : orV (some false) y = y := rfl
@[simp] theorem andV_ss (a c : Bool) : andV (some a) (some (.bool c)) = some (.bool (a && c)) := by cases a <;> rfl
@[simp] theorem orV_ss (a c : Bool) : orV (some a) (some (.bool c)) = some (.bool (a || c)) := by cases a <;> rfl
@[simp] theorem fAnd_ap : fAnd f g ρ = andV (unB (f ρ)) (g ρ) := by unfold fAnd andV; rw [fB_ap]; cases unB (f ρ) with | none => rfl | some c => cases c <;> rfl
@[simp] theorem fOr_ap : fOr f g ρ = orV (unB (f ρ)) (g ρ) := by unfold fOr orV; rw [fB_ap]; cases unB (f ρ) with | none => rfl | some c => cases c <;> rfl
@[simp] theorem fNot_ap : fNot f ρ = (unB (f ρ)).map fun c => .bool (!c) := by unfold fNot; rw [fB_ap]; cases unB (f ρ) <;> rfl
def iteV : Option Bool → (Rho → Option PyData) → (Rho → Option PyData) → Rho → Option PyData
  | some true, f, _, ρ => f ρ
  | some false, _, g, ρ => g ρ
  | none, _, _, _ => none
@[simp] theorem iteV_t : iteV (some true) f g ρ = f ρ := rfl
@[simp] theorem iteV_f : iteV (some false) f g ρ = g ρ := rfl
@[simp] theorem fIf_ap : fIf ft f g ρ = iteV (ft ρ) f g ρ := by unfold fIf iteV; cases ft ρ with | none => rfl | some c => cases c <;> rfl
@[simp] theorem fNil_ap : fNil ρ = some [] := rfl
def consO : Option PyData → Option (List PyData) → Option (List PyData)
  | some x, some xs => some (x :: xs)
  | _, _ => none
@[simp] theorem consO_some : consO (some x) (some xs) = some (x :: xs) := rfl
@[simp] theorem fCons_ap : fCons f fs ρ = consO (f ρ) (fs ρ) := by unfold fCons consO; cases f ρ <;> cases fs ρ <;> rfl
def lstO : Option (List PyData) → Option PyData
  | some xs => if xs.length ≤ bigL then some (.list xs) else none
  | none => none
def tupO : Option (List PyData) → Option PyData
  | some xs => if xs.length ≤ bigL then some (.tuple xs) else none
  | none => none
@[simp] theorem lstO_0 : lstO (some []) = some (.list []) := rfl
@[simp] theorem lstO_1 (a) : lstO (some [a]) = some (.list [a]) := rfl
@[simp] theorem lstO_2 (a b) : lstO (some [a, b]) = some (.list [a, b]) := rfl
@[simp] theorem lstO_3 (a b c) : lstO (some [a, b, c]) = some (.list [a, b, c]) := rfl
@[simp] theorem lstO_5 (a b c d e) : lstO (some [a, b, c, d, e]) = some (.list [a, b, c, d, e]) := rfl
@[simp] theorem tupO_1 (a) : tupO (some [a]) = some (.tuple [a]) := rfl
@[simp] theorem tupO_2 (a b) : tupO (some [a, b]) = some (.tuple [a, b]) := rfl
@[simp] theorem tupO_3 (a b c) : tupO (some [a, b, c]) = some (.tuple [a, b, c]) := rfl
@[simp] theorem fLst_ap : fLst fs ρ = lstO (fs ρ) := by unfold fLst lstO; cases fs ρ <;> rfl
@[simp] theorem fTup_ap : fTup fs ρ = tupO (fs ρ) := by unfold fTup tupO; cases fs ρ <;> rfl
@[simp] theorem fO0_ap : fO0 ρ = some none := rfl
def intO : Option PyData → Option (Option Int)
  | some (.int i) => some (some i)
  | _ => none
@[simp] theorem intO_some : intO (some (.int k)) = some (some k) := rfl
@[simp] theorem fO_ap : fO f ρ = intO (f ρ) := rfl
def slO : Option PyData → Option (Option Int) → Option (Option Int) → Option PyData
  | some x, some l, some h => slD l h x
  | _, _, _ => none
@[simp] theorem slO_some (l u) : slO (some x) (some l) (some u) = slD l u x := rfl
@[simp] theorem fSl_ap : fSl f fl fh ρ = slO (f ρ) (fl ρ) (fh ρ) := by unfold fSl slO; cases f ρ <;> cases fl ρ <;> cases fh ρ <;> rfl
def clO (F : List PyData → Option PyData) : Option (List PyData) → Option PyData
  | some xs => F xs
  | none => none
@[simp] theorem clO_some (F) : clO F (some xs) = F xs := rfl
@[simp] theorem fCl_ap (F) : fCl F fs ρ = clO F (fs ρ) := by unfold fCl clO; cases fs ρ <;> rfl
@[simp] theorem one1_ap (F) : one1 F [x] = F x := rfl
def caO (n : Nat) (F : List PyData → Option PyData) : Option (List PyData) → Option PyData
  | some xs => if xs.length = n then F xs else none
  | none => none
@[simp] theorem caO_1 (F a) : caO 1 F (some [a]) = F [a] := rfl
@[simp] theorem caO_2 (F a b) : caO 2 F (some [a, b]) = F [a, b] := rfl
@[simp] theorem caO_3 (F a b c) : caO 3 F (some [a, b, c]) = F [a, b, c] := rfl
@[simp] theorem caO_4 (F a b c d) : caO 4 F (some [a, b, c, d]) = F [a, b, c, d] := rfl
@[simp] theorem caO_5 (F a b c d e) : caO 5 F (some [a, b, c, d, e]) = F [a, b, c, d, e] := rfl
@[simp] theorem fCa_ap (F) : fCa n F fs ρ = caO n F (fs ρ) := by unfold fCa caO; cases fs ρ <;> rfl
def mtO (F : PyData → List PyData → Option PyData) : Option PyData → Option (List PyData) → Option PyData
  | some x, some xs => F x xs
  | _, _ => none
@[simp] theorem mtO_some (F) : mtO F (some x) (some xs) = F x xs := rfl
@[simp] theorem fMt_ap (F) : fMt F f fs ρ = mtO F (f ρ) (fs ρ) := by unfold fMt mtO; cases f ρ <;> cases fs ρ <;> rfl
def seqO1 (F : PyData → Option (List PyData)) : Option PyData → Option (List PyData)
  | some x => F x
  | none => none
@[simp] theorem seqO1_some (F) : seqO1 F (some x) = F x := rfl
@[simp] theorem fSeq_ap : fSeq f ρ = seqO1 seqD (f ρ) := by unfold fSeq seqO1; cases f ρ <;> rfl
@[simp] theorem fR1_ap : fR1 f ρ = seqO1 range1D (f ρ) := by unfold fR1 seqO1; cases f ρ <;> rfl
def seqO2 (F : PyData → PyData → Option (List PyData)) : Option PyData → Option PyData → Option (List PyData)
  | some x, some y => F x y
  | _, _ => none
@[simp] theorem seqO2_some (F) : seqO2 F (some x) (some y) = F x y := rfl
@[simp] theorem fR2_ap : fR2 f g ρ = seqO2 range2D (f ρ) (g ρ) := by unfold fR2 seqO2; cases f ρ <;> cases g ρ <;> rfl
@[simp] theorem fZ_ap : fZ f g ρ = seqO2 zip2D (f ρ) (g ρ) := by unfold fZ seqO2; cases f ρ <;> cases g ρ <;> rfl
@[simp] theorem seqD_l : seqD (.list xs) = some xs := rfl
@[simp] theorem seqD_t : seqD (.tuple xs) = some xs := rfl
@[simp] theorem seqD_s (z : Str) : seqD (.str z) = some (signsD z) := rfl
@[simp] theorem zip2D_l : zip2D (.list xs) (.list ys) = some (zipD xs ys) := rfl
@[simp] theorem b1_ap : b1 i x ρ = some (ρ.set i (some (.d x))) := rfl
@[simp] theorem b2_ap : b2 i j (.tuple [x, y]) ρ = some ((ρ.set i (some (.d x))).set j (some (.d y))) := rfl
@[simp] theorem tYesD_ap : tYesD ρ = some true := rfl
@[simp] theorem wipeR_0 : wipeR ρ [] = ρ := rfl
@[simp] theorem wipeR_c (vs) : wipeR ρ (i :: vs) = (wipeR ρ vs).set i none := rfl
def lcO (bd : PyData → Rho → Option Rho) (t : Rho → Option Bool) (f : Rho → Option PyData) (ρ : Rho) : Option (List PyData) → Option PyData
  | some xs => if xs.length ≤ bigL then (lcGo bd t f ρ xs).map .list else none
  | none => none
@[simp] theorem lcO_0 (bd t f ρ) : lcO bd t f ρ (some []) = some (.list []) := rfl
@[simp] theorem lcO_1 (bd t f ρ a) : lcO bd t f ρ (some [a]) = (lcGo bd t f ρ [a]).map .list := rfl
@[simp] theorem lcO_2 (bd t f ρ a c) : lcO bd t f ρ (some [a, c]) = (lcGo bd t f ρ [a, c]).map .list := rfl
@[simp] theorem fLc_ap (fi bd t vs) : fLc fi bd t f vs ρ = lcO bd t f (wipeR ρ vs) (fi ρ) := by unfold fLc lcO; cases fi ρ <;> rfl
def lcC : Option Bool → Option PyData → Option (List PyData) → Option (List PyData)
  | some true, some y, some r => some (y :: r)
  | some false, _, r => r
  | _, _, _ => none
@[simp] theorem lcC_t (r) : lcC (some true) (some y) (some r) = some (y :: r) := rfl
@[simp] theorem lcC_f (z r) : lcC (some false) z r = r := rfl
def lcB (t : Rho → Option Bool) (f : Rho → Option PyData) (r : Option (List PyData)) : Option Rho → Option (List PyData)
  | some ρ1 => lcC (t ρ1) (f ρ1) r
  | none => none
@[simp] theorem lcB_some (t r) : lcB t f r (some ρ) = lcC (t ρ) (f ρ) r := rfl
@[simp] theorem lcGo_0 (bd t) : lcGo bd t f ρ [] = some [] := rfl
@[simp] theorem lcGo_c (bd t) : lcGo bd t f ρ (x :: xs) = lcB t f (lcGo bd t f ρ xs) (bd x ρ) := by
  rw [lcGo]
  unfold lcB lcC
  cases bd x ρ with
  | none => rfl
  | some ρ1 =>
    simp only [Option.bind_some]
    cases t ρ1 with
    | none => rfl
    | some c =>
      cases c with
      | false => simp
      | true =>
        cases f ρ1 with
        | none => rfl
        | some y => cases lcGo bd t f ρ xs <;> rfl
/-! statements -/
@[simp] theorem gNx_ap : gNx ρ = some (.nx ρ) := rfl
def seqO (h : Rho → Option Out) : Option Out → Option Out
  | some (.nx ρ) => h ρ
  | o => o
@[simp] theorem seqO_nx : seqO G (some (.nx ρ)) = G ρ := rfl
@[simp] theorem seqO_rt : seqO G (some (.rt d ρ)) = some (.rt d ρ) := rfl
@[simp] theorem seqO_bk : seqO G (some (.bk ρ)) = some (.bk ρ) := rfl
@[simp] theorem seqO_ct : seqO G (some (.ct ρ)) = some (.ct ρ) := rfl
@[simp] theorem gSeq_ap : gSeq G G' ρ = seqO G' (G ρ) := by unfold gSeq seqO; cases G ρ with | none => rfl | some o => cases o <;> rfl
def retO (ρ : Rho) : Option PyData → Option Out
  | some d => some (.rt d ρ)
  | none => none
@[simp] theorem retO_some : retO ρ (some d) = some (.rt d ρ) := rfl
@[simp] theorem gRet_ap : gRet f ρ = retO ρ (f ρ) := by unfold gRet retO; cases f ρ <;> rfl
def setO (i : Nat) (ρ : Rho) : Option PyData → Option Out
  | some d => some (.nx (ρ.set i (some (.d d))))
  | none => none
@[simp] theorem setO_some : setO i ρ (some d) = some (.nx (ρ.set i (some (.d d)))) := rfl
@[simp] theorem gSet_ap : gSet i f ρ = setO i ρ (f ρ) := by unfold gSet setO; cases f ρ <;> rfl
def ownO (i : Nat) (ρ : Rho) : Option (List PyData) → Option Out
  | some xs => if xs.length ≤ bigL then some (.nx (ρ.set i (some (.own none xs)))) else none
  | none => none
@[simp] theorem ownO_0 : ownO i ρ (some []) = some (.nx (ρ.set i (some (.own none [])))) := rfl
@[simp] theorem ownO_1 : ownO i ρ (some [x]) = some (.nx (ρ.set i (some (.own none [x])))) := rfl
@[simp] theorem gOwn_ap : gOwn i fs ρ = ownO i ρ (fs ρ) := by unfold gOwn ownO; cases fs ρ <;> rfl
def iteO : Option Bool → (Rho → Option Out) → (Rho → Option Out) → Rho → Option Out
  | some true, g, _, ρ => g ρ
  | some false, _, h, ρ => h ρ
  | none, _, _, _ => none
@[simp] theorem iteO_t : iteO (some true) G G' ρ = G ρ := rfl
@[simp] theorem iteO_f : iteO (some false) G G' ρ = G' ρ := rfl
@[simp] theorem gIf_ap : gIf ft G G' ρ = iteO (ft ρ) G G' ρ := by unfold gIf iteO; cases ft ρ with | none => rfl | some c => cases c <;> rfl
def appO (i : Nat) (ρ : Rho) : Option (Option Sv) → Option PyData → Option Out
  | some (some (.own o xs)), some y => if xs.length < bigL then some (.nx (ρ.set i (some (.own o (xs ++ [y]))))) else none
  | _, _ => none
@[simp] theorem gApp_ap : gApp i f ρ = appO i ρ ρ[i]? (f ρ) := by
  unfold gApp appO
  split
  · rename_i o xs e; rw [e]; cases f ρ <;> rfl
  · rename_i h
    split
    · rename_i o xs y e1 e2; exact absurd e1 (h o xs)
    · rfl
def forO (bd : PyData → Rho → Option Rho) (G : Rho → Option Out) (ρ : Rho) : Option (List PyData) → Option Out
  | some xs => forGo bd G xs ρ
  | none => none
@[simp] theorem forO_some (bd) : forO bd G ρ (some xs) = forGo bd G xs ρ := rfl
@[simp] theorem gFor_ap (fi bd) : gFor fi bd G ρ = forO bd G ρ (fi ρ) := by unfold gFor forO; cases fi ρ <;> rfl
@[simp] theorem forGo_0 (bd) : forGo bd G [] ρ = some (.nx ρ) := rfl
def forN (bd : PyData → Rho → Option Rho) (G : Rho → Option Out) (xs : List PyData) : Option Out → Option Out
  | some (.nx ρ) => forGo bd G xs ρ
  | some (.ct ρ) => forGo bd G xs ρ
  | some (.bk ρ) => some (.nx ρ)
  | some (.rt d ρ) => some (.rt d ρ)
  | some (.rf zs) => some (.rf zs)
  | none => none
@[simp] theorem forN_nx (bd) : forN bd G xs (some (.nx ρ)) = forGo bd G xs ρ := rfl
@[simp] theorem forN_ct (bd) : forN bd G xs (some (.ct ρ)) = forGo bd G xs ρ := rfl
@[simp] theorem forN_bk (bd) : forN bd G xs (some (.bk ρ)) = some (.nx ρ) := rfl
@[simp] theorem forN_rt (bd) : forN bd G xs (some (.rt d ρ)) = some (.rt d ρ) := rfl
def forB (bd : PyData → Rho → Option Rho) (G : Rho → Option Out) (xs : List PyData) : Option Rho → Option Out
  | some ρ => forN bd G xs (G ρ)
  | none => none
@[simp] theorem forB_some (bd) : forB bd G xs (some ρ) = forN bd G xs (G ρ) := rfl
@[simp] theorem forGo_c (bd) : forGo bd G (x :: xs) ρ = forB bd G xs (bd x ρ) := by
  rw [forGo]
  unfold forB
  cases bd x ρ with
  | none => rfl
  | some ρ1 =>
    simp only [Option.bind_some]
    unfold forN
    cases G ρ1 with
    | none => rfl
    | some o => cases o <;> rfl
@[simp] theorem gBk_ap : gBk ρ = some (.bk ρ) := rfl
@[simp] theorem gCt_ap : gCt ρ = some (.ct ρ) := rfl
def whO (c : Rho → Option Bool) (G : Rho → Option Out) (n : Nat) : Option Out → Option Out
  | some (.nx ρ) => whileGo c G n ρ
  | some (.ct ρ) => whileGo c G n ρ
  | some (.bk ρ) => some (.nx ρ)
  | some (.rt d ρ) => some (.rt d ρ)
  | some (.rf zs) => some (.rf zs)
  | none => none
@[simp] theorem whO_nx : whO ft G n (some (.nx ρ)) = whileGo ft G n ρ := rfl
@[simp] theorem whO_ct : whO ft G n (some (.ct ρ)) = whileGo ft G n ρ := rfl
@[simp] theorem whO_bk : whO ft G n (some (.bk ρ)) = some (.nx ρ) := rfl
@[simp] theorem whO_rt : whO ft G n (some (.rt d ρ)) = some (.rt d ρ) := rfl
def augO (i : Nat) (ρ : Rho) : Option PyData → Option Out
  | some z => some (.nx (ρ.set i (some (.d z))))
  | none => none
@[simp] theorem augO_some : augO i ρ (some d) = some (.nx (ρ.set i (some (.d d)))) := rfl
@[simp] theorem gAug_ap (op) : gAug i op f ρ = augO i ρ (ap2 (ri op) (slot ρ[i]?) (f ρ)) := by
  unfold gAug augO
  rw [fV_ap]
  unfold ap2
  cases slot ρ[i]? with
  | none => rfl
  | some x =>
    cases f ρ with
    | none => rfl
    | some y =>
      simp only [Option.bind_some]
      generalize ri op x y = z
      cases z <;> rfl
def ownV : Option (Option Sv) → Option PyData
  | some (some (.d x)) => some x
  | some (some (.own _ xs)) => some (.list xs)
  | _ => none
@[simp] theorem ownV_d : ownV (some (some (.d x))) = some x := rfl
@[simp] theorem ownV_o (o) : ownV (some (some (.own o xs))) = some (.list xs) := rfl
@[simp] theorem fOwn_ap : fOwn i ρ = ownV ρ[i]? := by unfold fOwn ownV; rfl
def flatO : Option PyData → Option PyData
  | some z => if flatD z = true then some z else none
  | none => none
@[simp] theorem flatO_b : flatO (some (.bool b)) = some (.bool b) := rfl
@[simp] theorem flatO_i : flatO (some (.int k)) = some (.int k) := rfl
@[simp] theorem flatO_s (z) : flatO (some (.str z)) = some (.str z) := rfl
@[simp] theorem flatO_n : flatO (some .none) = some .none := rfl
@[simp] theorem fO2_ap (op) : fO2 op f g ρ = flatO (ap2 op (f ρ) (g ρ)) := by
  unfold fO2 flatO ap2
  cases f ρ with
  | none => rfl
  | some x =>
    cases g ρ with
    | none => rfl
    | some y => simp only [Option.bind_some]; cases op x y <;> rfl
@[simp] theorem fIxO_ap : fIxO i g ρ = flatO (ap2 ixD (ownV ρ[i]?) (g ρ)) := by
  unfold fIxO flatO ap2
  rw [fOwn_ap]
  cases ownV ρ[i]? with
  | none => rfl
  | some x =>
    cases g ρ with
    | none => rfl
    | some y => simp only [Option.bind_some]; cases ixD x y <;> rfl
def frzO (i : Nat) (ρ : Rho) : Option (Option Sv) → Rho
  | some (some (.own _ xs)) => ρ.set i (some (.d (.list xs)))
  | _ => ρ
@[simp] theorem frz_ap : frz i ρ = frzO i ρ ρ[i]? := by unfold frz frzO; rfl
@[simp] theorem frzO_o (o) : frzO i ρ (some (some (.own o xs))) = ρ.set i (some (.d (.list xs))) := rfl
@[simp] theorem frzO_d : frzO i ρ (some (some (.d x))) = ρ := rfl
@[simp] theorem retD_rt : retD (some (.rt d ρ)) = some d := rfl
@[simp] theorem retD_nx : retD (some (.nx ρ)) = some .none := rfl
theorem fnD_ap (n : Nat) : fnD n G xs = retD (G (startR n xs)) := rfl
@[simp] theorem startR_0 (n : Nat) : startR n [] = List.replicate n none := rfl
/-! effects -/
def setiO (i : Nat) (ρ : Rho) : Option (Option Sv) → Option PyData → Option PyData → Option Out
  | some (some (.own o xs)), some y, some (.int n) => (ixN xs.length n).map fun j => .nx (ρ.set i (some (.own o (xs.set j y))))
  | _, _, _ => none
@[simp] theorem gSeti_ap : gSeti i f g ρ = setiO i ρ ρ[i]? (f ρ) (g ρ) := by
  unfold gSeti setiO
  split
  · rename_i o xs e
    rw [e]
    cases f ρ with
    | none => rfl
    | some y =>
      cases g ρ with
      | none => rfl
      | some k => cases k <;> rfl
  · rename_i h
    split
    · rename_i o xs y n e1 e2 e3; exact absurd e1 (h o xs)
    · rfl
@[simp] theorem setiO_0 (o) : setiO i ρ (some (some (.own o [x]))) (some y) (some (.int 0)) = some (.nx (ρ.set i (some (.own o [y])))) := rfl
@[simp] theorem seqO_rf : seqO G (some (.rf xs)) = some (.rf xs) := rfl
@[simp] theorem forN_rf (bd) : forN bd G ys (some (.rf xs)) = some (.rf xs) := rfl
@[simp] theorem whO_rf : whO ft G n (some (.rf xs)) = some (.rf xs) := rfl
@[simp] theorem retF_rf : retF (some (.rf xs)) = some xs := rfl
theorem fnF_ap (n : Nat) : fnF n G xs = retF (G (startR n xs)) := rfl
def retFO : Option (List PyData) → Option Out
  | some xs => some (.rf xs)
  | none => none
@[simp] theorem retFO_some : retFO (some xs) = some (.rf xs) := rfl
@[simp] theorem gRetF_ap : gRetF fs ρ = retFO (fs ρ) := by unfold gRetF retFO; cases fs ρ <;> rfl
def owO : Option (Option Sv) → Option (List PyData)
  | some (some (.own _ xs)) => some xs
  | _ => none
@[simp] theorem owO_o (o) : owO (some (some (.own o xs))) = some xs := rfl
@[simp] theorem gRetO_ap : gRetO i ρ = retFO (owO ρ[i]?) := by
  unfold gRetO retFO
  have e : fOw i ρ = owO ρ[i]? := by unfold fOw owO; rfl
  rw [e]
  cases owO ρ[i]? <;> rfl
def ownFO (i : Nat) (ρ : Rho) : Option (List PyData) → Option Out
  | some xs => some (.nx (ρ.set i (some (.own none xs))))
  | none => none
@[simp] theorem ownFO_some : ownFO i ρ (some xs) = some (.nx (ρ.set i (some (.own none xs)))) := rfl
@[simp] theorem gOwnF_ap : gOwnF i fs ρ = ownFO i ρ (fs ρ) := by unfold gOwnF ownFO; cases fs ρ <;> rfl
def flO : Option (List PyData) → Option (List PyData)
  | some xs => if xs.length ≤ bigL then some xs else none
  | none => none
@[simp] theorem flO_0 : flO (some []) = some [] := rfl
@[simp] theorem flO_1 (a) : flO (some [a]) = some [a] := rfl
@[simp] theorem fFl_ap : fFl fs ρ = flO (fs ρ) := by unfold fFl flO; cases fs ρ <;> rfl
@[simp] theorem f1F_ap (op : PyData → Option (List PyData)) : f1F op f ρ = seqO1 op (f ρ) := by unfold f1F seqO1; cases f ρ <;> rfl
def caF (n : Nat) (F : List PyData → Option (List PyData)) : Option (List PyData) → Option (List PyData)
  | some xs => if xs.length = n then F xs else none
  | none => none
@[simp] theorem caF_1 (F : List PyData → Option (List PyData)) (a) : caF 1 F (some [a]) = F [a] := rfl
@[simp] theorem fCaF_ap (F : List PyData → Option (List PyData)) : fCaF n F fs ρ = caF n F (fs ρ) := by unfold fCaF caF; cases fs ρ <;> rfl
@[simp] theorem fEn_ap : fEn f ρ = seqO1 enum2D (f ρ) := by unfold fEn seqO1; cases f ρ <;> rfl
@[simp] theorem enum2D_l : enum2D (.list xs) = some (enumD xs) := rfl
def orVV (g : Rho → Option PyData) (ρ : Rho) : Option PyData → Option PyData
  | some x => match truD x with
    | some true => some x
    | some false => g ρ
    | none => none
  | none => none
@[simp] theorem fOrV_ap : fOrV f g ρ = orVV g ρ (f ρ) := by
  unfold fOrV orVV
  cases f ρ with
  | none => rfl
  | some x =>
    simp only [Option.bind_some]
    cases truD x with
    | none => rfl
    | some k => cases k <;> rfl
@[simp] theorem orVV_nil : orVV g ρ (some (.list [])) = g ρ := rfl
@[simp] theorem orVV_cons : orVV g ρ (some (.list (x :: xs))) = some (.list (x :: xs)) := rfl
def asgO (bd : PyData → Rho → Option Rho) (ρ : Rho) : Option PyData → Option Out
  | some x => (bd x ρ).map .nx
  | none => none
@[simp] theorem asgO_some (bd : PyData → Rho → Option Rho) : asgO bd ρ (some x) = (bd x ρ).map .nx := rfl
@[simp] theorem gAsg_ap (bd : PyData → Rho → Option Rho) : gAsg bd f ρ = asgO bd ρ (f ρ) := by unfold gAsg asgO; cases f ρ <;> rfl
@[simp] theorem b3_ap (k : Nat) (z : PyData) : b3 i j k (.tuple [x, y, z]) ρ = some (((ρ.set i (some (.d x))).set j (some (.d y))).set k (some (.d z))) := rfl
@[simp] theorem b4_ap (k l : Nat) (z u : PyData) : b4 i j k l (.tuple [x, y, z, u]) ρ = some ((((ρ.set i (some (.d x))).set j (some (.d y))).set k (some (.d z))).set l (some (.d u))) := rfl
@[simp] theorem flatG_ap (op : PyData → Option PyData) : flatG op x = flatO (op x) := by unfold flatG flatO; cases op x <;> rfl

variable (fe : Rho → Option (PyData × Rho)) (fa : Rho → Option (List PyData × Rho))
def E1O (fs : Rho → Option (List PyData)) : Option (PyData × Rho) → Option (List PyData × Rho)
  | some (x, ρ) => (fs ρ).map fun xs => (x :: xs, ρ)
  | none => none
@[simp] theorem fE1_ap : fE1 fe fs ρ = E1O fs (fe ρ) := by
  unfold fE1 E1O
  cases fe ρ with
  | none => rfl
  | some p => obtain ⟨x, ρ1⟩ := p; simp only [Option.bind_some]; generalize fs ρ1 = z; cases z <;> rfl
@[simp] theorem E1O_some : E1O fs (some (x, ρ)) = (fs ρ).map fun xs => (x :: xs, ρ) := rfl
def E2O : Option PyData → Option (List PyData × Rho) → Option (List PyData × Rho)
  | some x, some (xs, ρ) => some (x :: xs, ρ)
  | _, _ => none
@[simp] theorem E2O_some : E2O (some x) (some (xs, ρ)) = some (x :: xs, ρ) := rfl
@[simp] theorem fE2_ap : fE2 f fa ρ = E2O (f ρ) (fa ρ) := by unfold fE2 E2O; cases f ρ <;> cases fa ρ <;> rfl
def tupEO : Option (List PyData × Rho) → Option (PyData × Rho)
  | some (xs, ρ) => if xs.length ≤ bigL then some (.tuple xs, ρ) else none
  | none => none
@[simp] theorem fTupE_ap : fTupE fa ρ = tupEO (fa ρ) := by unfold fTupE tupEO; cases fa ρ <;> rfl
@[simp] theorem tupEO_3 (a b c) : tupEO (some ([a, b, c], ρ)) = some (.tuple [a, b, c], ρ) := rfl
def caEO (n : Nat) (F : List PyData → Option PyData) : Option (List PyData × Rho) → Option (PyData × Rho)
  | some (xs, ρ) => if xs.length = n then (F xs).map fun d => (d, ρ) else none
  | none => none
@[simp] theorem fCaE_ap (F) : fCaE n F fa ρ = caEO n F (fa ρ) := by unfold fCaE caEO; cases fa ρ <;> rfl
@[simp] theorem caEO_2 (F a b) : caEO 2 F (some ([a, b], ρ)) = (F [a, b]).map fun d => (d, ρ) := rfl
def setEO (i : Nat) : Option (PyData × Rho) → Option Out
  | some (d, ρ) => some (.nx (ρ.set i (some (.d d))))
  | none => none
@[simp] theorem setEO_some : setEO i (some (d, ρ)) = some (.nx (ρ.set i (some (.d d)))) := rfl
@[simp] theorem gSetE_ap : gSetE i fe ρ = setEO i (fe ρ) := by unfold gSetE setEO; cases fe ρ <;> rfl
def retEO : Option (PyData × Rho) → Option Out
  | some (d, ρ) => some (.rt d ρ)
  | none => none
@[simp] theorem retEO_some : retEO (some (d, ρ)) = some (.rt d ρ) := rfl
@[simp] theorem gRetE_ap : gRetE fe ρ = retEO (fe ρ) := by unfold gRetE retEO; cases fe ρ <;> rfl
def caCO (n : Nat) (F : List PyData → List PyData → Option (PyData × List PyData)) (j : Nat) (ρ : Rho) : Option PyData → Option (List PyData) → Option (Option Sv) → Option (PyData × Rho)
  | some d0, some ds, some (some (.own o xs)) => if ds.length + 2 = n then (F (d0 :: ds) xs).map fun p => (p.1, ρ.set j (some (.own o p.2))) else none
  | _, _, _ => none
@[simp] theorem fCaC_ap (F) : fCaC n F j f fs ρ = caCO n F j ρ (f ρ) (fs ρ) ρ[j]? := by
  unfold fCaC caCO
  cases f ρ with
  | none => rfl
  | some d0 =>
    cases fs ρ with
    | none => rfl
    | some ds =>
      simp only [Option.bind_some]
      cases ρ[j]? with
      | none => rfl
      | some z =>
        cases z with
        | none => rfl
        | some z => cases z <;> rfl
@[simp] theorem caCO_2 (F d0 o) : caCO 2 F j ρ (some d0) (some []) (some (some (.own o xs))) = (F [d0] xs).map fun p => (p.1, ρ.set j (some (.own o p.2))) := rfl
@[simp] theorem caCO_5 (F d0 a b c o) : caCO 5 F j ρ (some d0) (some [a, b, c]) (some (some (.own o xs))) = (F [d0, a, b, c] xs).map fun p => (p.1, ρ.set j (some (.own o p.2))) := rfl
/-! by data -/
@[simp] theorem addD_i : addD (.int k) (.int m) = some (.int (k + m)) := rfl
@[simp] theorem ri_ap (op) : ri op (.int k) (.int m) = some (.int (op k m)) := rfl
@[simp] theorem rb_ap (op) : rb op (.int k) (.int m) = some (.bool (op k m)) := rfl
@[simp] theorem eqP_s (a b : Str) : eqP (.str a) (.str b) = some (.bool (sEq a b)) := by
  have h : eqD (.str a) (.str b) = some (sEq a b) := rfl
  unfold eqP
  rw [h, Option.map_some]
@[simp] theorem eqP_i : eqP (.int k) (.int m) = some (.bool (decide (k = m))) := rfl
@[simp] theorem eqP_b (a b : Bool) : eqP (.bool a) (.bool b) = some (.bool (a == b)) := rfl
@[simp] theorem neP_s (a b : Str) : neP (.str a) (.str b) = some (.bool (!sEq a b)) := by
  have h : eqD (.str a) (.str b) = some (sEq a b) := rfl
  unfold neP
  rw [h, Option.map_some]
@[simp] theorem neP_i : neP (.int k) (.int m) = some (.bool (!decide (k = m))) := rfl
@[simp] theorem neP_b (a b : Bool) : neP (.bool a) (.bool b) = some (.bool (!(a == b))) := rfl
@[simp] theorem ixD_l : ixD (.list xs) (.int k) = atI xs k := rfl
@[simp] theorem ixD_t : ixD (.tuple xs) (.int k) = atI xs k := rfl
@[simp] theorem slD_l (l u) : slD l u (.list xs) = some (.list (cutL xs l u)) := rfl
@[simp] theorem lenD_l : lenD (.list xs) = some (.int xs.length) := rfl
@[simp] theorem lenD_t : lenD (.tuple xs) = some (.int xs.length) := rfl
@[simp] theorem listD_l : listD (.list xs) = some (.list xs) := rfl
@[simp] theorem listD_t : listD (.tuple xs) = some (.list xs) := rfl
@[simp] theorem intD_i : intD (.int k) = some (.int k) := rfl
@[simp] theorem intD_b : intD (.bool b) = some (.int (if b then 1 else 0)) := rfl
@[simp] theorem revD_l : revD (.list xs) = some (.list xs.reverse) := rfl
@[simp] theorem negD_i : negD (.int k) = some (.int (-k)) := rfl
@[simp] theorem anyD_m (bs : List Bool) : anyD (.list (bs.map .bool)) = some (.bool (bs.any id)) := by show (boolsD _).map _ = _; rw [boolsD_map]; rfl
@[simp] theorem allD_m (bs : List Bool) : allD (.list (bs.map .bool)) = some (.bool (bs.all id)) := by show (boolsD _).map _ = _; rw [boolsD_map]; rfl
@[simp] theorem atI_0 {α : Type} (a : α) (r : List α) : atI (a :: r) 0 = some a := by simp [atI, ixN]
@[simp] theorem atI_1 {α : Type} (a c : α) (r : List α) : atI (a :: c :: r) 1 = some c := by
  have e : ixN (a :: c :: r).length 1 = some 1 := by
    unfold ixN
    rw [if_pos (by omega), if_pos (by simp only [List.length_cons]; omega)]
    rfl
  simp only [atI, e, Option.bind_some]
  rfl
@[simp] theorem atI_2 {α : Type} (a c d : α) (r : List α) : atI (a :: c :: d :: r) 2 = some d := by
  have e : ixN (a :: c :: d :: r).length 2 = some 2 := by
    unfold ixN
    rw [if_pos (by omega), if_pos (by simp only [List.length_cons]; omega)]
    rfl
  simp only [atI, e, Option.bind_some]
  rfl
end
section
variable {ρ : Rho} {i j n : Nat} {f g h : Rho → Option PyData} {ft gt : Rho → Option Bool} {fs : Rho → Option (List PyData)} {G G' : Rho → Option Out} {d x y : PyData} {xs ys : List PyData} {b : Bool} {k m : Int}
theorem lstO_some (h : xs.length ≤ 100000) : lstO (some xs) = some (.list xs) := if_pos h
theorem tupO_some (h : xs.length ≤ 100000) : tupO (some xs) = some (.tuple xs) := if_pos h
theorem lcO_some {bd t f ρ} (h : xs.length ≤ 100000) : lcO bd t f ρ (some xs) = (lcGo bd t f ρ xs).map .list := if_pos h
theorem appO_some {o : Option Addr} (h : xs.length < 100000) : appO i ρ (some (some (.own o xs))) (some y) = some (.nx (ρ.set i (some (.own o (xs ++ [y]))))) := if_pos h
theorem while_t (h : ft ρ = some true) : whileGo ft G (n + 1) ρ = whO ft G n (G ρ) := by
  rw [whileGo, h]
  simp only [Option.bind_some, if_pos]
  unfold whO
  cases G ρ with
  | none => rfl
  | some o => cases o <;> rfl
theorem while_f (h : ft ρ = some false) : whileGo ft G (n + 1) ρ = some (.nx ρ) := by
  rw [whileGo, h]; rfl
theorem addD_l (h : xs.length + ys.length ≤ 100000) : addD (.list xs) (.list ys) = some (.list (xs ++ ys)) := if_pos h
theorem addD_s {a b : Str} (h : a.length + b.length ≤ 100000) : addD (.str a) (.str b) = some (.str (a ++ b)) := if_pos h
theorem modD_i (h : 0 < m) : modD (.int k) (.int m) = some (.int (k % m)) := if_pos h
theorem fdivD_i (h : 0 < m ∧ m < 1073741824) : fdivD (.int k) (.int m) = some (.int (k / m)) := if_pos h
theorem mulD_i (h : (-(2 ^ 64) < k ∧ k < 2 ^ 64) ∨ (-(2 ^ 64) < m ∧ m < 2 ^ 64)) : mulD (.int k) (.int m) = some (.int (k * m)) := if_pos h
theorem range1D_n {m : Nat} (h : m ≤ 1000000) : range1D (.int m) = some (intsFrom 0 m) := by
  unfold range1D
  simp only
  rw [if_pos (by omega)]
  simp
end
/-- a comprehension over a list, by a function -/
theorem lc_map {bd : PyData → Rho → Option Rho} {t : Rho → Option Bool} {f : Rho → Option PyData} {ρ : Rho} {α : Type} (e : α → PyData) (h : α → PyData) : ∀ xs : List α, (∀ x ∈ xs, ∃ ρ1, bd (e x) ρ = some ρ1 ∧ t ρ1 = some true ∧ f ρ1 = some (h x)) → lcGo bd t f ρ (xs.map e) = some (xs.map h)
  | [], _ => rfl
  | x :: xs, q => by
    obtain ⟨ρ1, e1, e2, e3⟩ := q x (by simp)
    rw [List.map_cons, lcGo_c, e1, lcB_some, e2, e3, lc_map e h xs fun y hy => q y (by simp [hy])]
    rfl
end Dn

namespace Dn
open PySem L2
/-! the ten words are ten -/
@[simp] theorem w_mark_yes : sEq "mark" "yes" = false := sEq_ne (by decide +kernel)
@[simp] theorem v_mark_yes : (Str.ofString "mark" = Str.ofString "yes") = False := eq_false (by decide +kernel)
@[simp] theorem w_mark_not : sEq "mark" "not" = false := sEq_ne (by decide +kernel)
@[simp] theorem v_mark_not : (Str.ofString "mark" = Str.ofString "not") = False := eq_false (by decide +kernel)
@[simp] theorem w_mark_and : sEq "mark" "and" = false := sEq_ne (by decide +kernel)
@[simp] theorem v_mark_and : (Str.ofString "mark" = Str.ofString "and") = False := eq_false (by decide +kernel)
@[simp] theorem w_mark_or : sEq "mark" "or" = false := sEq_ne (by decide +kernel)
@[simp] theorem v_mark_or : (Str.ofString "mark" = Str.ofString "or") = False := eq_false (by decide +kernel)
@[simp] theorem w_mark_next : sEq "mark" "next" = false := sEq_ne (by decide +kernel)
@[simp] theorem v_mark_next : (Str.ofString "mark" = Str.ofString "next") = False := eq_false (by decide +kernel)
@[simp] theorem w_mark_until : sEq "mark" "until" = false := sEq_ne (by decide +kernel)
@[simp] theorem v_mark_until : (Str.ofString "mark" = Str.ofString "until") = False := eq_false (by decide +kernel)
@[simp] theorem w_mark_within : sEq "mark" "within" = false := sEq_ne (by decide +kernel)
@[simp] theorem v_mark_within : (Str.ofString "mark" = Str.ofString "within") = False := eq_false (by decide +kernel)
@[simp] theorem w_mark_before : sEq "mark" "before" = false := sEq_ne (by decide +kernel)
@[simp] theorem v_mark_before : (Str.ofString "mark" = Str.ofString "before") = False := eq_false (by decide +kernel)
@[simp] theorem w_mark_since : sEq "mark" "since" = false := sEq_ne (by decide +kernel)
@[simp] theorem v_mark_since : (Str.ofString "mark" = Str.ofString "since") = False := eq_false (by decide +kernel)
@[simp] theorem w_yes_mark : sEq "yes" "mark" = false := sEq_ne (by decide +kernel)
@[simp] theorem v_yes_mark : (Str.ofString "yes" = Str.ofString "mark") = False := eq_false (by decide +kernel)
@[simp] theorem w_yes_not : sEq "yes" "not" = false := sEq_ne (by decide +kernel)
@[simp] theorem v_yes_not : (Str.ofString "yes" = Str.ofString "not") = False := eq_false (by decide +kernel)
@[simp] theorem w_yes_and : sEq "yes" "and" = false := sEq_ne (by decide +kernel)
@[simp] theorem v_yes_and : (Str.ofString "yes" = Str.ofString "and") = False := eq_false (by decide +kernel)
@[simp] theorem w_yes_or : sEq "yes" "or" = false := sEq_ne (by decide +kernel)
@[simp] theorem v_yes_or : (Str.ofString "yes" = Str.ofString "or") = False := eq_false (by decide +kernel)
@[simp] theorem w_yes_next : sEq "yes" "next" = false := sEq_ne (by decide +kernel)
@[simp] theorem v_yes_next : (Str.ofString "yes" = Str.ofString "next") = False := eq_false (by decide +kernel)
@[simp] theorem w_yes_until : sEq "yes" "until" = false := sEq_ne (by decide +kernel)
@[simp] theorem v_yes_until : (Str.ofString "yes" = Str.ofString "until") = False := eq_false (by decide +kernel)
@[simp] theorem w_yes_within : sEq "yes" "within" = false := sEq_ne (by decide +kernel)
@[simp] theorem v_yes_within : (Str.ofString "yes" = Str.ofString "within") = False := eq_false (by decide +kernel)
@[simp] theorem w_yes_before : sEq "yes" "before" = false := sEq_ne (by decide +kernel)
@[simp] theorem v_yes_before : (Str.ofString "yes" = Str.ofString "before") = False := eq_false (by decide +kernel)
@[simp] theorem w_yes_since : sEq "yes" "since" = false := sEq_ne (by decide +kernel)
@[simp] theorem v_yes_since : (Str.ofString "yes" = Str.ofString "since") = False := eq_false (by decide +kernel)
@[simp] theorem w_not_mark : sEq "not" "mark" = false := sEq_ne (by decide +kernel)
@[simp] theorem v_not_mark : (Str.ofString "not" = Str.ofString "mark") = False := eq_false (by decide +kernel)
@[simp] theorem w_not_yes : sEq "not" "yes" = false := sEq_ne (by decide +kernel)
@[simp] theorem v_not_yes : (Str.ofString "not" = Str.ofString "yes") = False := eq_false (by decide +kernel)
@[simp] theorem w_not_and : sEq "not" "and" = false := sEq_ne (by decide +kernel)
@[simp] theorem v_not_and : (Str.ofString "not" = Str.ofString "and") = False := eq_false (by decide +kernel)
@[simp] theorem w_not_or : sEq "not" "or" = false := sEq_ne (by decide +kernel)
@[simp] theorem v_not_or : (Str.ofString "not" = Str.ofString "or") = False := eq_false (by decide +kernel)
@[simp] theorem w_not_next : sEq "not" "next" = false := sEq_ne (by decide +kernel)
@[simp] theorem v_not_next : (Str.ofString "not" = Str.ofString "next") = False := eq_false (by decide +kernel)
@[simp] theorem w_not_until : sEq "not" "until" = false := sEq_ne (by decide +kernel)
@[simp] theorem v_not_until : (Str.ofString "not" = Str.ofString "until") = False := eq_false (by decide +kernel)
@[simp] theorem w_not_within : sEq "not" "within" = false := sEq_ne (by decide +kernel)
@[simp] theorem v_not_within : (Str.ofString "not" = Str.ofString "within") = False := eq_false (by decide +kernel)
@[simp] theorem w_not_before : sEq "not" "before" = false := sEq_ne (by decide +kernel)
@[simp] theorem v_not_before : (Str.ofString "not" = Str.ofString "before") = False := eq_false (by decide +kernel)
@[simp] theorem w_not_since : sEq "not" "since" = false := sEq_ne (by decide +kernel)
@[simp] theorem v_not_since : (Str.ofString "not" = Str.ofString "since") = False := eq_false (by decide +kernel)
@[simp] theorem w_and_mark : sEq "and" "mark" = false := sEq_ne (by decide +kernel)
@[simp] theorem v_and_mark : (Str.ofString "and" = Str.ofString "mark") = False := eq_false (by decide +kernel)
@[simp] theorem w_and_yes : sEq "and" "yes" = false := sEq_ne (by decide +kernel)
@[simp] theorem v_and_yes : (Str.ofString "and" = Str.ofString "yes") = False := eq_false (by decide +kernel)
@[simp] theorem w_and_not : sEq "and" "not" = false := sEq_ne (by decide +kernel)
@[simp] theorem v_and_not : (Str.ofString "and" = Str.ofString "not") = False := eq_false (by decide +kernel)
@[simp] theorem w_and_or : sEq "and" "or" = false := sEq_ne (by decide +kernel)
@[simp] theorem v_and_or : (Str.ofString "and" = Str.ofString "or") = False := eq_false (by decide +kernel)
@[simp] theorem w_and_next : sEq "and" "next" = false := sEq_ne (by decide +kernel)
@[simp] theorem v_and_next : (Str.ofString "and" = Str.ofString "next") = False := eq_false (by decide +kernel)
@[simp] theorem w_and_until : sEq "and" "until" = false := sEq_ne (by decide +kernel)
@[simp] theorem v_and_until : (Str.ofString "and" = Str.ofString "until") = False := eq_false (by decide +kernel)
@[simp] theorem w_and_within : sEq "and" "within" = false := sEq_ne (by decide +kernel)
@[simp] theorem v_and_within : (Str.ofString "and" = Str.ofString "within") = False := eq_false (by decide +kernel)
@[simp] theorem w_and_before : sEq "and" "before" = false := sEq_ne (by decide +kernel)
@[simp] theorem v_and_before : (Str.ofString "and" = Str.ofString "before") = False := eq_false (by decide +kernel)
@[simp] theorem w_and_since : sEq "and" "since" = false := sEq_ne (by decide +kernel)
@[simp] theorem v_and_since : (Str.ofString "and" = Str.ofString "since") = False := eq_false (by decide +kernel)
@[simp] theorem w_or_mark : sEq "or" "mark" = false := sEq_ne (by decide +kernel)
@[simp] theorem v_or_mark : (Str.ofString "or" = Str.ofString "mark") = False := eq_false (by decide +kernel)
@[simp] theorem w_or_yes : sEq "or" "yes" = false := sEq_ne (by decide +kernel)
@[simp] theorem v_or_yes : (Str.ofString "or" = Str.ofString "yes") = False := eq_false (by decide +kernel)
@[simp] theorem w_or_not : sEq "or" "not" = false := sEq_ne (by decide +kernel)
@[simp] theorem v_or_not : (Str.ofString "or" = Str.ofString "not") = False := eq_false (by decide +kernel)
@[simp] theorem w_or_and : sEq "or" "and" = false := sEq_ne (by decide +kernel)
@[simp] theorem v_or_and : (Str.ofString "or" = Str.ofString "and") = False := eq_false (by decide +kernel)
@[simp] theorem w_or_next : sEq "or" "next" = false := sEq_ne (by decide +kernel)
@[simp] theorem v_or_next : (Str.ofString "or" = Str.ofString "next") = False := eq_false (by decide +kernel)
@[simp] theorem w_or_until : sEq "or" "until" = false := sEq_ne (by decide +kernel)
@[simp] theorem v_or_until : (Str.ofString "or" = Str.ofString "until") = False := eq_false (by decide +kernel)
@[simp] theorem w_or_within : sEq "or" "within" = false := sEq_ne (by decide +kernel)
@[simp] theorem v_or_within : (Str.ofString "or" = Str.ofString "within") = False := eq_false (by decide +kernel)
@[simp] theorem w_or_before : sEq "or" "before" = false := sEq_ne (by decide +kernel)
@[simp] theorem v_or_before : (Str.ofString "or" = Str.ofString "before") = False := eq_false (by decide +kernel)
@[simp] theorem w_or_since : sEq "or" "since" = false := sEq_ne (by decide +kernel)
@[simp] theorem v_or_since : (Str.ofString "or" = Str.ofString "since") = False := eq_false (by decide +kernel)
@[simp] theorem w_next_mark : sEq "next" "mark" = false := sEq_ne (by decide +kernel)
@[simp] theorem v_next_mark : (Str.ofString "next" = Str.ofString "mark") = False := eq_false (by decide +kernel)
@[simp] theorem w_next_yes : sEq "next" "yes" = false := sEq_ne (by decide +kernel)
@[simp] theorem v_next_yes : (Str.ofString "next" = Str.ofString "yes") = False := eq_false (by decide +kernel)
@[simp] theorem w_next_not : sEq "next" "not" = false := sEq_ne (by decide +kernel)
@[simp] theorem v_next_not : (Str.ofString "next" = Str.ofString "not") = False := eq_false (by decide +kernel)
@[simp] theorem w_next_and : sEq "next" "and" = false := sEq_ne (by decide +kernel)
@[simp] theorem v_next_and : (Str.ofString "next" = Str.ofString "and") = False := eq_false (by decide +kernel)
@[simp] theorem w_next_or : sEq "next" "or" = false := sEq_ne (by decide +kernel)
@[simp] theorem v_next_or : (Str.ofString "next" = Str.ofString "or") = False := eq_false (by decide +kernel)
@[simp] theorem w_next_until : sEq "next" "until" = false := sEq_ne (by decide +kernel)
@[simp] theorem v_next_until : (Str.ofString "next" = Str.ofString "until") = False := eq_false (by decide +kernel)
@[simp] theorem w_next_within : sEq "next" "within" = false := sEq_ne (by decide +kernel)
@[simp] theorem v_next_within : (Str.ofString "next" = Str.ofString "within") = False := eq_false (by decide +kernel)
@[simp] theorem w_next_before : sEq "next" "before" = false := sEq_ne (by decide +kernel)
@[simp] theorem v_next_before : (Str.ofString "next" = Str.ofString "before") = False := eq_false (by decide +kernel)
@[simp] theorem w_next_since : sEq "next" "since" = false := sEq_ne (by decide +kernel)
@[simp] theorem v_next_since : (Str.ofString "next" = Str.ofString "since") = False := eq_false (by decide +kernel)
@[simp] theorem w_until_mark : sEq "until" "mark" = false := sEq_ne (by decide +kernel)
@[simp] theorem v_until_mark : (Str.ofString "until" = Str.ofString "mark") = False := eq_false (by decide +kernel)
@[simp] theorem w_until_yes : sEq "until" "yes" = false := sEq_ne (by decide +kernel)
@[simp] theorem v_until_yes : (Str.ofString "until" = Str.ofString "yes") = False := eq_false (by decide +kernel)
@[simp] theorem w_until_not : sEq "until" "not" = false := sEq_ne (by decide +kernel)
@[simp] theorem v_until_not : (Str.ofString "until" = Str.ofString "not") = False := eq_false (by decide +kernel)
@[simp] theorem w_until_and : sEq "until" "and" = false := sEq_ne (by decide +kernel)
@[simp] theorem v_until_and : (Str.ofString "until" = Str.ofString "and") = False := eq_false (by decide +kernel)
@[simp] theorem w_until_or : sEq "until" "or" = false := sEq_ne (by decide +kernel)
@[simp] theorem v_until_or : (Str.ofString "until" = Str.ofString "or") = False := eq_false (by decide +kernel)
@[simp] theorem w_until_next : sEq "until" "next" = false := sEq_ne (by decide +kernel)
@[simp] theorem v_until_next : (Str.ofString "until" = Str.ofString "next") = False := eq_false (by decide +kernel)
@[simp] theorem w_until_within : sEq "until" "within" = false := sEq_ne (by decide +kernel)
@[simp] theorem v_until_within : (Str.ofString "until" = Str.ofString "within") = False := eq_false (by decide +kernel)
@[simp] theorem w_until_before : sEq "until" "before" = false := sEq_ne (by decide +kernel)
@[simp] theorem v_until_before : (Str.ofString "until" = Str.ofString "before") = False := eq_false (by decide +kernel)
@[simp] theorem w_until_since : sEq "until" "since" = false := sEq_ne (by decide +kernel)
@[simp] theorem v_until_since : (Str.ofString "until" = Str.ofString "since") = False := eq_false (by decide +kernel)
@[simp] theorem w_within_mark : sEq "within" "mark" = false := sEq_ne (by decide +kernel)
@[simp] theorem v_within_mark : (Str.ofString "within" = Str.ofString "mark") = False := eq_false (by decide +kernel)
@[simp] theorem w_within_yes : sEq "within" "yes" = false := sEq_ne (by decide +kernel)
@[simp] theorem v_within_yes : (Str.ofString "within" = Str.ofString "yes") = False := eq_false (by decide +kernel)
@[simp] theorem w_within_not : sEq "within" "not" = false := sEq_ne (by decide +kernel)
@[simp] theorem v_within_not : (Str.ofString "within" = Str.ofString "not") = False := eq_false (by decide +kernel)
@[simp] theorem w_within_and : sEq "within" "and" = false := sEq_ne (by decide +kernel)
@[simp] theorem v_within_and : (Str.ofString "within" = Str.ofString "and") = False := eq_false (by decide +kernel)
@[simp] theorem w_within_or : sEq "within" "or" = false := sEq_ne (by decide +kernel)
@[simp] theorem v_within_or : (Str.ofString "within" = Str.ofString "or") = False := eq_false (by decide +kernel)
@[simp] theorem w_within_next : sEq "within" "next" = false := sEq_ne (by decide +kernel)
@[simp] theorem v_within_next : (Str.ofString "within" = Str.ofString "next") = False := eq_false (by decide +kernel)
@[simp] theorem w_within_until : sEq "within" "until" = false := sEq_ne (by decide +kernel)
@[simp] theorem v_within_until : (Str.ofString "within" = Str.ofString "until") = False := eq_false (by decide +kernel)
@[simp] theorem w_within_before : sEq "within" "before" = false := sEq_ne (by decide +kernel)
@[simp] theorem v_within_before : (Str.ofString "within" = Str.ofString "before") = False := eq_false (by decide +kernel)
@[simp] theorem w_within_since : sEq "within" "since" = false := sEq_ne (by decide +kernel)
@[simp] theorem v_within_since : (Str.ofString "within" = Str.ofString "since") = False := eq_false (by decide +kernel)
@[simp] theorem w_before_mark : sEq "before" "mark" = false := sEq_ne (by decide +kernel)
@[simp] theorem v_before_mark : (Str.ofString "before" = Str.ofString "mark") = False := eq_false (by decide +kernel)
@[simp] theorem w_before_yes : sEq "before" "yes" = false := sEq_ne (by decide +kernel)
@[simp] theorem v_before_yes : (Str.ofString "before" = Str.ofString "yes") = False := eq_false (by decide +kernel)
@[simp] theorem w_before_not : sEq "before" "not" = false := sEq_ne (by decide +kernel)
@[simp] theorem v_before_not : (Str.ofString "before" = Str.ofString "not") = False := eq_false (by decide +kernel)
@[simp] theorem w_before_and : sEq "before" "and" = false := sEq_ne (by decide +kernel)
@[simp] theorem v_before_and : (Str.ofString "before" = Str.ofString "and") = False := eq_false (by decide +kernel)
@[simp] theorem w_before_or : sEq "before" "or" = false := sEq_ne (by decide +kernel)
@[simp] theorem v_before_or : (Str.ofString "before" = Str.ofString "or") = False := eq_false (by decide +kernel)
@[simp] theorem w_before_next : sEq "before" "next" = false := sEq_ne (by decide +kernel)
@[simp] theorem v_before_next : (Str.ofString "before" = Str.ofString "next") = False := eq_false (by decide +kernel)
@[simp] theorem w_before_until : sEq "before" "until" = false := sEq_ne (by decide +kernel)
@[simp] theorem v_before_until : (Str.ofString "before" = Str.ofString "until") = False := eq_false (by decide +kernel)
@[simp] theorem w_before_within : sEq "before" "within" = false := sEq_ne (by decide +kernel)
@[simp] theorem v_before_within : (Str.ofString "before" = Str.ofString "within") = False := eq_false (by decide +kernel)
@[simp] theorem w_before_since : sEq "before" "since" = false := sEq_ne (by decide +kernel)
@[simp] theorem v_before_since : (Str.ofString "before" = Str.ofString "since") = False := eq_false (by decide +kernel)
@[simp] theorem w_since_mark : sEq "since" "mark" = false := sEq_ne (by decide +kernel)
@[simp] theorem v_since_mark : (Str.ofString "since" = Str.ofString "mark") = False := eq_false (by decide +kernel)
@[simp] theorem w_since_yes : sEq "since" "yes" = false := sEq_ne (by decide +kernel)
@[simp] theorem v_since_yes : (Str.ofString "since" = Str.ofString "yes") = False := eq_false (by decide +kernel)
@[simp] theorem w_since_not : sEq "since" "not" = false := sEq_ne (by decide +kernel)
@[simp] theorem v_since_not : (Str.ofString "since" = Str.ofString "not") = False := eq_false (by decide +kernel)
@[simp] theorem w_since_and : sEq "since" "and" = false := sEq_ne (by decide +kernel)
@[simp] theorem v_since_and : (Str.ofString "since" = Str.ofString "and") = False := eq_false (by decide +kernel)
@[simp] theorem w_since_or : sEq "since" "or" = false := sEq_ne (by decide +kernel)
@[simp] theorem v_since_or : (Str.ofString "since" = Str.ofString "or") = False := eq_false (by decide +kernel)
@[simp] theorem w_since_next : sEq "since" "next" = false := sEq_ne (by decide +kernel)
@[simp] theorem v_since_next : (Str.ofString "since" = Str.ofString "next") = False := eq_false (by decide +kernel)
@[simp] theorem w_since_until : sEq "since" "until" = false := sEq_ne (by decide +kernel)
@[simp] theorem v_since_until : (Str.ofString "since" = Str.ofString "until") = False := eq_false (by decide +kernel)
@[simp] theorem w_since_within : sEq "since" "within" = false := sEq_ne (by decide +kernel)
@[simp] theorem v_since_within : (Str.ofString "since" = Str.ofString "within") = False := eq_false (by decide +kernel)
@[simp] theorem w_since_before : sEq "since" "before" = false := sEq_ne (by decide +kernel)
@[simp] theorem v_since_before : (Str.ofString "since" = Str.ofString "before") = False := eq_false (by decide +kernel)
end Dn

namespace Dn
open PySem L2 PySem.Spec PyProof.Rows Gx
/-! ### own exceptions, told by their class's name: what may raise is worth .error name, or .ok data -/
def XPost [Tbs] (K : PySem.W.Frag) (W : Value → Hp → Prop) (Q : VK) (B H : Hp) : Except Str PyData → Prop
  | .ok d => ∀ v B' H', Tr B H B' H' → Dq K B' v d → Q v H'
  | .error n => ∀ B' H', Tr B H B' H' → W (.ref (Tbs.Cl n)) H'
def XPostA [Tbs] (K : PySem.W.Frag) (W : Value → Hp → Prop) (Q : List V → Hp → Prop) (B H : Hp) : Except Str (List PyData) → Prop
  | .ok d => ∀ v B' H', Tr B H B' H' → DqAll K B' v d → Q v H'
  | .error n => ∀ B' H', Tr B H B' H' → W (.ref (Tbs.Cl n)) H'
def tX [Tbs] (K : PySem.W.Frag) (W : WX) (f : Rho → Option (Except Str PyData)) : TE := fun σ H Q => ∃ H0 B ρ r, Sl K H0 B ρ σ H ∧ f ρ = some r ∧ XPost K (fun c H' => W c none σ H') Q B H r
def tXA [Tbs] (K : PySem.W.Frag) (W : WX) (f : Rho → Option (Except Str (List PyData))) : TA := fun σ H Q => ∃ H0 B ρ r, Sl K H0 B ρ σ H ∧ f ρ = some r ∧ XPostA K (fun c H' => W c none σ H') Q B H r
abbrev PX [Tbs] (X : Cx) (W : WX) (e : Expr) (f : Rho → Option (Except Str PyData)) : Prop := PE X e (tX X.K W f)
abbrev PXA [Tbs] (X : Cx) (W : WX) (es : List Expr) (f : Rho → Option (Except Str (List PyData))) : Prop := PA X es (tXA X.K W f)
theorem XPost.tr [Tbs] {K : PySem.W.Frag} {W : Value → Hp → Prop} {Q : VK} {B H B1 H1 : Hp} {r : Except Str PyData} (t : Tr B H B1 H1) (h : XPost K W Q B H r) : XPost K W Q B1 H1 r := by
  cases r with
  | ok d => exact fun v B' H' t' d' => h v B' H' (t.trans t') d'
  | error n => exact fun B' H' t' => h B' H' (t.trans t')
section
variable {X : Cx} {W : WX} {e : Expr} {es : List Expr} {pos p : Pos} {f : Rho → Option PyData}
def fOk (f : Rho → Option PyData) : Rho → Option (Except Str PyData) := fun ρ => (f ρ).map .ok
theorem px_of [Tbs] (h : PD X e f) : PX X W e (fOk f) := pe_imp h fun σ H Q ⟨H0, B, ρ, r, s, hf, q⟩ => by
  obtain ⟨d, hd, rfl⟩ := Option.map_eq_some_iff.mp hf
  exact ⟨H0, B, ρ, d, s, hd, q⟩
def fXNil : Rho → Option (Except Str (List PyData)) := fun _ => some (.ok [])
theorem pxa_nil [Tbs] : PXA X W [] fXNil := pa_imp pa_nil fun σ H Q ⟨H0, B, ρ, r, s, hf, q⟩ => by
  cases hf
  exact q [] B H (Tr.refl s.bh) .nil
def xcons (d : PyData) : Except Str (List PyData) → Except Str (List PyData)
  | .ok ds => .ok (d :: ds)
  | .error n => .error n
def fXCons (f : Rho → Option (Except Str PyData)) (fs : Rho → Option (Except Str (List PyData))) : Rho → Option (Except Str (List PyData)) := fun ρ => (f ρ).bind fun r => match r with
  | .ok d => (fs ρ).map (xcons d)
  | .error n => some (.error n)
theorem pxa_cons [Tbs] {f : Rho → Option (Except Str PyData)} {fs : Rho → Option (Except Str (List PyData))} (h : PX X W e f) (t : PXA X W es fs)
    (he : starEach (e :: es) X.env = (false, eval e X.env) :: starEach es X.env := by rfl) : PXA X W (e :: es) (fXCons f fs) := pa_imp (pa_cons h t he) fun σ H Q ⟨H0, B, ρ, r, s, hf, q⟩ => by
  obtain ⟨r1, h1, hf⟩ := bind_some hf
  cases r1 with
  | error n =>
    cases hf
    exact ⟨H0, B, ρ, .error n, s, h1, q⟩
  | ok d =>
    obtain ⟨r2, h2, rfl⟩ := Option.map_eq_some_iff.mp hf
    refine ⟨H0, B, ρ, .ok d, s, h1, fun v B1 H1 t1 d1 => ?_⟩
    refine ⟨H0, B1, ρ, r2, s.tr t1, h2, ?_⟩
    cases r2 with
    | error n => exact fun B' H' t' => q B' H' (t1.trans t')
    | ok ds => exact fun vs B' H' t' d' => q (v :: vs) B' H' (t1.trans t') (.cons (dp_mono t'.b d1) d')
def fXTup (fs : Rho → Option (Except Str (List PyData))) : Rho → Option (Except Str PyData) := fun ρ => (fs ρ).bind fun r => match r with
  | .ok ds => if ds.length ≤ bigL then some (.ok (.tuple ds)) else none
  | .error n => some (.error n)
theorem px_tup [Tbs] {x1} {fs : Rho → Option (Except Str (List PyData))} (h : PXA X W es fs) : PX X W (.Tuple es x1 pos) (fXTup fs) := pe_imp (pe_tup h) fun σ H Q ⟨H0, B, ρ, r, s, hf, q⟩ => by
  obtain ⟨r1, h1, hf⟩ := bind_some hf
  refine ⟨H0, B, ρ, r1, s, h1, ?_⟩
  cases r1 with
  | error n => cases hf; exact q
  | ok ds =>
    obtain ⟨hl, rfl⟩ := ite_some hf
    exact fun vs B1 H1 t1 d1 => ⟨by rw [dpAll_len d1]; exact bigL_le hl, fun p hp => q _ _ _ (t1.trans (Tr.new t1.t hp)) (.tup (SqT.of upd_same) (dpAll_mono (same_upd (t1.t.free hp)) d1))⟩
end
/-! ### defs that may raise -/
def spX [Tbs] (K : PySem.W.Frag) (n : Nat) (F : List PyData → Option (Except Str PyData)) : Sp := fun vs H Q E => ∃ B ds r, Bs B H ∧ DqAll K B vs ds ∧ ds.length = n ∧ F ds = some r ∧ XPost K (fun c H' => E c none H') Q B H r
structure KnX [Tbs] (P : Program) (w : World) (K : PySem.W.Frag) (mg : Str → Option Value) (base : Heap) (k n : Nat) (x : Str) (F : List PyData → Option (Except Str PyData)) : Prop where
  ex : ∃ f fd ps, FnOk P w K mg base (L2.CX P w) k f fd ps (spX K n F) ∧ mg x = some (.ref f) ∧ PySem.W.keepIn K (.ref f) = true ∧ L2.Binds K fd ps []
section
variable {P : Program} {w : World} {K : PySem.W.Frag} {mg : Str → Option Value} {base : Heap} {x : Str} {st : Stmt}
theorem KnX.mono [Tbs] {j k n : Nat} {F : List PyData → Option (Except Str PyData)} (h : KnX P w K mg base j n x F) (l : j ≤ k) : KnX P w K mg base k n x F := by
  obtain ⟨f, fd, ps, a, b⟩ := h.ex
  exact ⟨f, fd, ps, a.mono l, b⟩
theorem KnX.none [Tbs] {ps : List Str} (D : Df K mg x st ps) {k n : Nat} : KnX P w K mg base k n x fun _ => .none := by
  obtain ⟨f, fd, Fu, m, b⟩ := D.ex
  have no : ∀ vs H Q E, ¬ spX K n (fun _ => Option.none) vs H Q E := fun vs H Q E ⟨_, _, _, _, _, _, h, _⟩ => nomatch h
  exact ⟨f, fd, ps, ⟨fun vs H Q E h => absurd h (no vs H Q E), fun A outer s H args us vs Q E _ _ _ _ h => absurd h (no vs H Q E)⟩, m, Fu.kp, b⟩
end
section
variable {X : Cx} {W : WX} {k n : Nat} {x : Str} {p pos : Pos} {e : Expr} {es : List Expr} {fs : Rho → Option (List PyData)} {F : List PyData → Option (Except Str PyData)}
def fXc (n : Nat) (F : List PyData → Option (Except Str PyData)) (fs : Rho → Option (List PyData)) : Rho → Option (Except Str PyData) := fun ρ => (fs ρ).bind fun ds => if ds.length = n then F ds else none
theorem px_kn [Tbs] (h : KnX X.prog X.w X.K X.mg X.base k n x F) (hr : Room k X.A) (tk : Takes X W) (ha : PDA X (e :: es) fs) (hg : Gl X x := by rfl) (hdb : (x == ("__debug__" : Str)) = false := by decide) (he : starEach (e :: es) X.env = (false, eval e X.env) :: starEach es X.env := by rfl) (hpl : (backTo pos (starEach es X.env)).any (·.1) = false := by rfl) :
    PX X W (.Call (.Name x p) (e :: es) [] pos) (fXc n F fs) := by
  obtain ⟨f, fd, ps, G, hm, hk, hb⟩ := h.ex
  refine pe_imp (pe_callS (E := WE W) G hr hg hm hk hb (fun σ => passAt tk σ) ha hdb he hpl) fun σ H Q ⟨H0, B, ρ, r, s, hf, q⟩ => ?_
  obtain ⟨ds, hds, hf⟩ := bind_some hf
  split at hf
  case isFalse => cases hf
  rename_i hl
  exact ⟨H0, B, ρ, ds, s, hds, fun vs B1 H1 t1 d1 => ⟨B1, ds, r, (s.tr t1).bs, d1, hl, hf, q.tr t1⟩⟩
end
/-! ### statements -/
section
variable {K : PySem.W.Frag}
def PostX [Tbs] (K : PySem.W.Frag) (E : XK) (B0 H0 : Hp) (D : Ends) : Except Str Out → Prop
  | .ok o => Post K B0 H0 D o
  | .error n => ∀ B H, Tr B0 H0 B H → E (.ref (Tbs.Cl n)) none H
def tSX [Tbs] (K : PySem.W.Frag) (E : XK) (g : Rho → Option (Except Str Out)) : TS := fun D σ H => ∃ B0 H0 ρ o, Stt K B0 H0 ρ σ H ∧ g ρ = some o ∧ PostX K E B0 H0 D o
abbrev PSX [Tbs] (X : Cx) (E : XK) (st : Stmt) (g : Rho → Option (Except Str Out)) : Prop := PS X st (tSX X.K E g)
abbrev PSXs [Tbs] (X : Cx) (E : XK) (st : List Stmt) (g : Rho → Option (Except Str Out)) : Prop := PSs X st (tSX X.K E g)
def gOk (g : Rho → Option Out) : Rho → Option (Except Str Out) := fun ρ => (g ρ).map .ok
def gSeqX (g h : Rho → Option (Except Str Out)) : Rho → Option (Except Str Out) := fun ρ => (g ρ).bind fun o => match o with
  | .ok (.nx ρ') => h ρ'
  | o => some o
def gIfX (ft : Rho → Option Bool) (g h : Rho → Option (Except Str Out)) : Rho → Option (Except Str Out) := fun ρ => (ft ρ).bind fun c => if c = true then g ρ else h ρ
def xOut (k : PyData → Out) : Except Str PyData → Except Str Out
  | .ok d => .ok (k d)
  | .error n => .error n
def gRetX (f : Rho → Option (Except Str PyData)) : Rho → Option (Except Str Out) := fun ρ => (f ρ).map (xOut fun d => .rt d ρ)
def gRaise (n : Str) : Rho → Option (Except Str Out) := fun _ => some (.error n)
variable {X : Cx} {E : XK} {st : Stmt} {rest : List Stmt} {g h : Rho → Option (Except Str Out)} {e : Expr} {a b : List Stmt} {c : Expr} {pos : Pos}
theorem PS.nox {st : Stmt} {t : TS} (h : PS X.nox st t) : PS X st t := ⟨fun pins s σ H D I hw =>
  wpAny_mono (h.run pins s σ H D (I.wish _) hw) (fun _ _ q => q.unwish) fun _ _ z => False.elim z⟩
theorem psx_of [Tbs] {g : Rho → Option Out} (h : PSD X st g) : PSX X E st (gOk g) := ps_imp h fun D σ H ⟨B0, H0, ρ, o, s, hf, q⟩ => by
  obtain ⟨o1, h1, rfl⟩ := Option.map_eq_some_iff.mp hf
  exact ⟨B0, H0, ρ, o1, s, h1, q⟩
/-- what doesn't raise -/
theorem psx_nox [Tbs] {g : Rho → Option Out} (h : PSD X.nox st g) : PSX X E st (gOk g) := psx_of (PS.nox h)
theorem psx_cons [Tbs] (h1 : PSX X E st g) (h2 : PSXs X E rest h) : PSXs X E (st :: rest) (gSeqX g h) := pss_imp (pss_cons h1 h2) fun D σ H ⟨B0, H0, ρ, o, s, hf, q⟩ => by
  obtain ⟨o1, ho, hf⟩ := bind_some hf
  refine ⟨B0, H0, ρ, o1, s, ho, ?_⟩
  cases o1 with
  | error n => cases hf; exact q
  | ok o1 =>
    cases o1 with
    | nx ρ' => exact fun σ' H' s' => ⟨B0, H0, ρ', o, s', hf, q⟩
    | rt d ρ' => cases hf; exact q
    | rf d => cases hf; exact q
    | bk d => cases hf; exact q
    | ct d => cases hf; exact q
theorem psx_one [Tbs] (h : PSX X E st g) : PSXs X E [st] g := pss_one h
theorem psx_nil [Tbs] : PSXs X E [] (gOk gNx) := pss_imp pss_nil fun D σ H ⟨B0, H0, ρ, o, s, hf, q⟩ => by cases hf; exact q σ H s
theorem psx_if [Tbs] {ft : Rho → Option Bool} (hc : PDT X c ft) (ha : PSXs X E a g) (hb : PSXs X E b h) : PSX X E (.If c a b pos) (gIfX ft g h) := ps_imp (ps_if hc ha hb) fun D σ H ⟨B0, H0, ρ, o, ⟨B, t, s⟩, hf, q⟩ => by
  obtain ⟨d, hd, hf⟩ := bind_some hf
  refine ⟨H0, B, ρ, d, s, hd, fun B1 H1 t1 => ?_⟩
  cases d with
  | true => rw [if_pos rfl] at hf ⊢; exact ⟨B0, H0, ρ, o, ⟨B1, t.trans t1, s.tr t1⟩, hf, q⟩
  | false => rw [if_neg Bool.false_ne_true] at hf ⊢; exact ⟨B0, H0, ρ, o, ⟨B1, t.trans t1, s.tr t1⟩, hf, q⟩
abbrev wE (E : XK) : WX := fun cls d _ H => E cls d H
theorem psx_ret [Tbs] {f : Rho → Option (Except Str PyData)} (he : PX X (wE E) e f) : PSX X E (.Return (some e) pos) (gRetX f) := ps_imp (ps_ret he) fun D σ H ⟨B0, H0, ρ, o, ⟨B, t, s⟩, hf, q⟩ => by
  obtain ⟨r, hr, rfl⟩ := Option.map_eq_some_iff.mp hf
  refine ⟨H0, B, ρ, r, s, hr, ?_⟩
  cases r with
  | ok d => exact fun v B' H' t' d' => q v σ B' H' (t.trans t') (s.tr t') d'
  | error n => exact fun B' H' t' => q B' H' (t.trans t')
/-- what the head must tell of an own exception -/
structure ExF [Tbs] (K : PySem.W.Frag) (mg : Str → Option Value) (n : Str) (bm : List Value) : Prop where
  q : PySem.W.excIn K (Tbs.Cl n) bm "ValueError.__new__" = true
  g : mg n = some (.ref (Tbs.Cl n))
  k : PySem.W.keepIn K (.ref (Tbs.Cl n)) = true
  r1 : PySem.W.subIn K (.ref (Tbs.Cl n)) (.type "BaseException") = some true
  r2 : PySem.W.typeIn K (.ref (Tbs.Cl n)) = some (.type "type")
theorem psx_raise [Tbs] {n m : Str} {j : Nat} {p p2 pos' : Pos} (hc : X.calm = true) (tk : Takes X (wE E)) (F : ExF X.K X.mg n [.type "ValueError", .type "Exception", .type "BaseException", .type "object"]) (hg : Gl X n) (hdb : (n == ("__debug__" : Str)) = false := by decide) :
    PSX X E (.Raise (some (.Call (.Name n p) [.Constant (.str m) j p2] [] pos)) none pos') (gRaise n) := ps_imp (ps_raise hc tk (pmk_own PySem.F.excBase_ValueError F.q F.g F.k (raises_own F.r1 F.r2) hg hdb)) fun D σ H ⟨B0, H0, ρ, o, ⟨B, t, s⟩, hf, q⟩ => by
  cases hf
  exact q B H t
def gAsgX (bd : PyData → Rho → Option Rho) (f : Rho → Option (Except Str PyData)) : Rho → Option (Except Str Out) := fun ρ => (f ρ).bind fun r => match r with
  | .ok x => (bd x ρ).map fun ρ' => .ok (.nx ρ')
  | .error n => some (.error n)
theorem psx_asgG [Tbs] {f : Rho → Option (Except Str PyData)} {g : TG} {bd : PyData → Rho → Option Rho} {is : List Nat} (hg : GD X.K g bd is) (h : PS X st (tAsg (tX X.K (wE E) f) g)) : PSX X E st (gAsgX bd f) := ps_imp h fun D σ H ⟨B0, H0, ρ, o, ⟨B, t, s⟩, hf, q⟩ => by
  obtain ⟨r, h1, hf⟩ := bind_some hf
  refine ⟨H0, B, ρ, r, s, h1, ?_⟩
  cases r with
  | error n => cases hf; exact fun B' H' t' => q B' H' (t.trans t')
  | ok x =>
    obtain ⟨ρ', h2, rfl⟩ := Option.map_eq_some_iff.mp hf
    exact fun v B1 H1 t1 d1 => hg H0 B1 H1 ρ ρ' σ v x _ (s.tr t1) d1 h2 fun σ' _ s' => q σ' H1 ⟨B1, t.trans t1, s'⟩
end
def fnX (n : Nat) (g : Rho → Option (Except Str Out)) : List PyData → Option (Except Str PyData) := fun ds => (g (startR n ds)).bind fun r => match r with
  | .ok (.rt d _) => some (.ok d)
  | .ok (.nx _) => some (.ok .none)
  | .error n => some (.error n)
  | _ => none
section
variable {P : Program} {w : World} {K : PySem.W.Frag} {mg : Str → Option Value} {base : Heap} {x : Str} {st : Stmt}
theorem knX_of [Tbs] {N ps : List Str} {k : Nat} {g : Rho → Option (Except Str Out)} (D : Df K mg x st ps) (S : FnScope N ps (defScope st))
    (hb : ∀ (f : Addr) (cdv : Value) (A : Around) (outer : List Env) (s : Shared) (H : Hp) (E : XK), Room k (A.deeper (envOfC x (defScope st) s.heap.objs.size f cdv)) → PSXs (cxOf (L2.CX P w) P w K mg base N x (defScope st) f cdv A outer s H E) E (defBody st) g) :
    KnX P w K mg base (k + 1) ps.length x (fnX N.length g) := by
  obtain ⟨f, fd, Fu, m, b⟩ := D.ex
  refine ⟨f, fd, ps, Fu.okX S (fun vs H Q E ⟨B, ds, r, h1, h2, h3, _⟩ => by rw [dpAll_len h2, h3]) (fun cdv A outer s H vs Q E hr ⟨B, ds, r, h1, h2, h3, h4, q⟩ => ?_), m, Fu.kp, b⟩
  unfold fnX at h4
  obtain ⟨o, ho, h4⟩ := bind_some h4
  refine ⟨_, hb f cdv A outer s H E hr, B, H, startR N.length ds, o, ⟨B, Tr.refl h1.s, sl_start h1 h2⟩, ho, ?_⟩
  cases o with
  | error n => cases h4; exact fun B' H' t => q B' H' t
  | ok o =>
    cases o with
    | rt d ρ => cases h4; exact fun v σ B' H' t s' d' => q v B' H' t d'
    | nx ρ => cases h4; exact fun σ H' ⟨B', t, s'⟩ => q .non B' H' t .non
    | bk ρ => cases h4
    | ct ρ => cases h4
    | rf xs => cases h4
/-- where it doesn't raise it is a def like any other -/
def okF (F : List PyData → Option (Except Str PyData)) : List PyData → Option PyData := fun ds => match F ds with
  | some (.ok d) => some d
  | _ => none
theorem KnX.kn [Tbs] {k n : Nat} {F : List PyData → Option (Except Str PyData)} (h : KnX P w K mg base k n x F) : Kn P w K mg base k n x (okF F) := by
  obtain ⟨f, fd, ps, G, b⟩ := h.ex
  have key : ∀ vs H Q E, spD K n (okF F) vs H Q E → spX K n F vs H Q (fun _ _ _ => False) := fun vs H Q E ⟨B, ds, d, h1, h2, h3, h4, q⟩ => by
    unfold okF at h4
    split at h4
    · rename_i d' e
      cases h4
      exact ⟨B, ds, .ok d, h1, h2, h3, e, q⟩
    · cases h4
  refine ⟨f, fd, ps, ⟨fun vs H Q E h => G.len vs H Q _ (key vs H Q E h), fun A outer s H args us vs Q E a1 a2 a3 a4 h => ?_⟩, b⟩
  refine codeAny_mono (G.run A outer s H args us vs Q _ a1 a2 a3 a4 (key vs H Q E h)) fun r s' hq => ?_
  cases r with
  | error e =>
    obtain ⟨_, _, _, _, _, _, _, _, _, _, _, _, z⟩ := hq
    exact z.elim
  | ok fl => cases fl <;> exact hq
end
end Dn


namespace Dn
open PySem L2 PySem.Spec PyProof.Rows Gx
/-! ### more words over texts, for the data -/
section
variable {K : PySem.W.Frag} {X : Cx}
def strD : PyData → Option PyData
  | .int i => if i.natAbs.log2 < 1920 then some (.str (toString i)) else none
  | _ => none
theorem rc_str [Tbs] : RC K (fun xs H Q => ∃ i : Int, xs = [.int i] ∧ i.natAbs.log2 < 1920 ∧ Q (.str (toString i)) H) (one1 strD) := rc_one fun B H v x d Q s hx hg q => by
  unfold strD at hg
  split at hg
  · cases hx
    obtain ⟨hl, rfl⟩ := ite_some hg
    exact ⟨_, rfl, hl, q _ B H (Tr.refl s) (.str _)⟩
  · cases hg
/-- int(text) -/
def intTD : PyData → Option PyData
  | .str a => if a.length ≤ 640 then (PySem.intText? a).map .int else none
  | _ => none
theorem rc_intT [Tbs] : RC K (fun xs H Q => ∃ (a : Str) (n : Int), xs = [.str a] ∧ PySem.intText? a = some n ∧ a.length ≤ 640 ∧ Q (.int n) H) (one1 intTD) := rc_one fun B H v x d Q s hx hg q => by
  unfold intTD at hg
  split at hg
  · cases hx
    split at hg
    case isFalse => cases hg
    rename_i hl
    obtain ⟨n, hn, rfl⟩ := Option.map_eq_some_iff.mp hg
    exact ⟨_, n, rfl, hn, hl, q _ B H (Tr.refl s) (.int _)⟩
  · cases hg
def startsD : PyData → List PyData → Option PyData
  | .str a, [.str b] => some (.bool (Txt.startswith a b))
  | _, _ => none
theorem ty_starts [Tbs] : TyD K "str" startsD := fun B H v x ds d s hx hg => by
  unfold startsD at hg
  split at hg
  · cases hx; rfl
  · cases hg
theorem rm_starts [Tbs] : RM K "str" (fun x xs H Q => ∃ a b, x = .str a ∧ xs = [.str b] ∧ Q (.bl (Txt.startswith a b)) H) startsD := fun B H v vs x ds d Q s hx hds hg q => by
  unfold startsD at hg
  split at hg
  · cases hx
    cases hds with
    | cons h1 h2 => cases h2; cases h1; cases hg; exact ⟨_, _, rfl, rfl, q _ B H (Tr.refl s) (.bl _)⟩
  · cases hg
def endsD : PyData → List PyData → Option PyData
  | .str a, [.str b] => some (.bool (Txt.endswith a b))
  | _, _ => none
theorem ty_ends [Tbs] : TyD K "str" endsD := fun B H v x ds d s hx hg => by
  unfold endsD at hg
  split at hg
  · cases hx; rfl
  · cases hg
theorem rm_ends [Tbs] : RM K "str" (fun x xs H Q => ∃ a b, x = .str a ∧ xs = [.str b] ∧ Q (.bl (Txt.endswith a b)) H) endsD := fun B H v vs x ds d Q s hx hds hg q => by
  unfold endsD at hg
  split at hg
  · cases hx
    cases hds with
    | cons h1 h2 => cases h2; cases h1; cases hg; exact ⟨_, _, rfl, rfl, q _ B H (Tr.refl s) (.bl _)⟩
  · cases hg
def partD : PyData → List PyData → Option PyData
  | .str a, [.str b] => if (b.length == 0) = false ∧ a.length ≤ bigL then some (.tuple [.str (Txt.partition a b).1, .str (Txt.partition a b).2.1, .str (Txt.partition a b).2.2]) else none
  | _, _ => none
theorem ty_part [Tbs] : TyD K "str" partD := fun B H v x ds d s hx hg => by
  unfold partD at hg
  split at hg
  · cases hx; rfl
  · cases hg
theorem rm_part [Tbs] : RM K "str" (fun x xs H Q => ∃ a b, x = .str a ∧ xs = [.str b] ∧ (b.length == 0) = false ∧ a.length ≤ sizeLine ∧ ∀ p, H p = none → Q (.ref p) (upd H p (.tup [.str (Txt.partition a b).1, .str (Txt.partition a b).2.1, .str (Txt.partition a b).2.2]))) partD := fun B H v vs x ds d Q s hx hds hg q => by
  unfold partD at hg
  split at hg
  · cases hx
    cases hds with
    | cons h1 h2 =>
      cases h2; cases h1
      obtain ⟨⟨w1, w2⟩, rfl⟩ := ite_some hg
      exact ⟨_, _, rfl, rfl, w1, bigL_le w2, fun p hp => newT s (.cons (.str _) (.cons (.str _) (.cons (.str _) .nil))) q hp⟩
  · cases hg
/-! ### is None -/
def nonB : PyData → Bool
  | .none => true
  | _ => false
def isNoneD : PyData → PyData → Option PyData
  | x, .none => some (.bool (nonB x))
  | _, _ => none
def notNoneD : PyData → PyData → Option PyData
  | x, .none => some (.bool (!nonB x))
  | _, _ => none
theorem dq_none [Tbs] {B : Hp} {v : V} {d : PyData} (h : Dq K B v d) : decide (v = .non) = nonB d := by
  cases h <;> first | rfl | (simp [nonB]; done)
theorem rd_isN [Tbs] : RD K (fun x y H Q => y = .non ∧ Q (.bl (decide (x = .non))) H) isNoneD := fun B H x y dx dy d Q s hx hy hg q => by
  unfold isNoneD at hg
  split at hg
  · cases hy
    cases hg
    refine ⟨rfl, ?_⟩
    rw [dq_none hx]
    exact q _ B H (Tr.refl s) (.bl _)
  · cases hg
theorem rd_notN [Tbs] : RD K (fun x y H Q => y = .non ∧ Q (.bl (!decide (x = .non))) H) notNoneD := fun B H x y dx dy d Q s hx hy hg q => by
  unfold notNoneD at hg
  split at hg
  · cases hy
    cases hg
    refine ⟨rfl, ?_⟩
    rw [dq_none hx]
    exact q _ B H (Tr.refl s) (.bl _)
  · cases hg
end
end Dn

namespace Dn
open PySem L2 PySem.Spec PyProof.Rows Gx
/-! ### enumerate(text) -/
def Itn (x : Str) : It := ⟨fun i _ => i < x.cps.size, fun i H v H' => ∃ T c, v = .ref T ∧ H T = none ∧ H' = upd H T (.tup [.int (i : Nat), .str ⟨#[c]⟩]) ∧ x.cps[i]? = some c, fun i _ => i = x.cps.size⟩
theorem turn_enumS {P : Program} {w : World} {K : PySem.W.Frag} {elts : List Expr} {kk : Nat} {tpos : Pos} (x : Str) (t : Tok) (e it : Addr) (ty : String) (hty : ty = "str_ascii_iterator" ∨ ty = "str_iterator") :
    Turn P w K (.Tuple elts kk tpos) (Itn x) [e, it] e (fun i h => (∃ old, IsEnum h e it ((i : Nat) : Int) old) ∧ h.IsStrIter it ty x t i ∧ e ≠ it) where
  mem := by simp
  obj := fun i h st b hb => by
    obtain ⟨⟨old, he⟩, ⟨o, ho, hc, hd⟩, _⟩ := st
    have e' : b = e ∨ b = it := by simpa using hb
    rcases e' with z | z
    · rw [z]; exact ⟨_, he, fun v q => nomatch q⟩
    · rw [z]; exact ⟨o, ho, fun v q => by rw [hd] at q; cases q⟩
  keep := fun i h h' st k => let ⟨⟨old, he⟩, ⟨o, ho, r⟩, hne⟩ := st; ⟨⟨old, k e (by simp) _ he⟩, ⟨o, k it (by simp) o ho, r⟩, hne⟩
  item := by
    intro X hP hw hK hc i pins s σ H E I hf st hg
    subst hP hw hK
    obtain ⟨⟨old, he⟩, hit, hne⟩ := st
    have hel : e < s.heap.objs.size := Heap.lt_size he
    have hil : it < s.heap.objs.size := by obtain ⟨_, q, _⟩ := hit; exact Heap.lt_size q
    have D : Draws X.prog X.w X.A.in1 it [it] x.cps.size (SignAt x) (fun i h => h.IsStrIter it ty x t i) := by
      rcases hty with z | z
      · rw [z]; exact Draws.strAscii (A := X.A.in1) (show X.A.in1.handled = none from I.ok.hd hc) it x t
      · rw [z]; exact Draws.strWide (A := X.A.in1) (show X.A.in1.handled = none from I.ok.hd hc) it x t
    refine wpAny_pyNext_enum_itemD D he hit hg hne (by simpa using hne) fun u h' tk hP ho hit' hT hsz hk => ?_
    obtain ⟨c, u2, hcx, rfl⟩ := hP
    refine ⟨_, rfl, wpAny_letOwnedTupleGo_enum (s := { s with heap := h', toks := tk + 1 }) ho fun h'' he' sb => ?_⟩
    have hT2 : h''.get? s.heap.objs.size = some { cls := .type "tuple", data := .seq #[.int i tk, .str ⟨#[c]⟩ u2] } := (sb.2 _ (Nat.ne_of_gt hel)).trans hT
    have new : ObjOk X.prog X.w (upd H s.heap.objs.size (.tup [.int (i : Nat), .str ⟨#[c]⟩])) h'' s.heap.objs.size (.tup [.int (i : Nat), .str ⟨#[c]⟩]) :=
      ⟨by show 2 ≤ sizeLine; decide, [.int i tk, .str ⟨#[c]⟩ u2], .cons ⟨_, rfl⟩ (.cons ⟨_, rfl⟩ .nil), ⟨_, hT2, rfl, _, rfl⟩⟩
    have I1 : Inv X pins σ (upd H s.heap.objs.size (.tup [.int (i : Nat), .str ⟨#[c]⟩])) { s with heap := h'', toks := tk + 1 } :=
      I.turnedNew (ch := [e, it]) (fun b ob hb q => (sb.2 b (fun z => hb (by simp [z]))).trans (hk b ob (fun z => hb (by simp [z])) (fun z => hb (by simp [z])) q)) hf (Nat.le_refl _) new
    refine ⟨.ref s.heap.objs.size, _, I1, rfl, ⟨_, c, rfl, I.hok.fresh (Nat.le_refl _), rfl, hcx⟩, ⟨⟨.str ⟨#[c]⟩ u2, ?_⟩, ?_, hne⟩, fun b hb => ?_⟩
    · have e1 : ((i + 1 : Nat) : Int) = (i : Int) + 1 := by omega
      rw [e1]; exact he'
    · obtain ⟨o, ho2, r⟩ := hit'
      exact ⟨o, (sb.2 it (Ne.symm hne)).trans ho2, r⟩
    · have hb' : b < s.heap.objs.size := by
        have e' : b = e ∨ b = it := by simpa using hb
        rcases e' with z | z
        · rw [z]; exact hel
        · rw [z]; exact hil
      rw [upd_ne (Nat.ne_of_lt hb')]
      exact (hf b hb).1
  done := by
    intro X hP hw hK hc i pins s σ H E I hf st hg
    subst hP hw hK
    obtain ⟨⟨old, he⟩, hit, hne⟩ := st
    obtain ⟨f0, f1, f2, f3, f4, f5⟩ := hf it (by simp)
    have D : Draws X.prog X.w X.A.in1 it [it] x.cps.size (SignAt x) (fun i h => h.IsStrIter it ty x t i) := by
      rcases hty with z | z
      · rw [z]; exact Draws.strAscii (A := X.A.in1) (show X.A.in1.handled = none from I.ok.hd hc) it x t
      · rw [z]; exact Draws.strWide (A := X.A.in1) (show X.A.in1.handled = none from I.ok.hd hc) it x t
    have hg' : i = x.cps.size := hg
    subst hg'
    exact wpAny_pyNext_enum_endD D he hit fun h' eb => ⟨rfl, I.turned (t' := s.toks) (fun b o hb q => eb b o hb q) f0 f1 f3 f4 f5⟩
  self := fun A i s Q E st h => let ⟨⟨_, he⟩, _⟩ := st; wpAny_pyIter_enum he h
def iEnumS (ta : TA) : TI := fun σ H R => ta σ H fun vs H1 => ∃ x, vs = [.str x] ∧ R (Itn x) H1
theorem pi_enumS {X : Cx} {e : Expr} {ta : TA} {p pos tpos : Pos} {elts : List Expr} {kk : Nat} (hg : Gl X "enumerate") (hm : X.mg "enumerate" = none) (ha : PA X [e] ta) (hs : starEach [e] X.env = [(false, eval e X.env)] := by rfl) :
    PI X (.Tuple elts kk tpos) (.Call (.Name "enumerate" p) [e] [] pos) (iEnumS ta) := by
  refine ⟨fun pins s σ H R I h => ?_⟩
  refine Call_ (ld_blt I hg hm boot_enumerate (PyProof.Rows.callWith_type1 (thn (ha.run pos pins s σ H _ I h) fun us s1 ⟨vs, H1, I1, r1, q1⟩ => ?_) hs rfl))
  obtain ⟨x, ex, q⟩ := q1
  subst ex
  cases r1 with
  | cons r rr =>
    cases rr
    obtain ⟨t, rfl⟩ := r
    refine call_enumerate_str fun h' he hit hsz hk => wpAny_pyIter_enum he ?_
    have I2 : Inv X pins σ H1 { s1 with heap := h' } := I1.kept (t' := s1.toks) hk
    have hty : strIterType x = "str_ascii_iterator" ∨ strIterType x = "str_iterator" := by unfold strIterType; split <;> simp
    refine ⟨s1.heap.objs.size + 1, [s1.heap.objs.size + 1, s1.heap.objs.size], _, _, H1, rfl, I2, turn_enumS x t (s1.heap.objs.size + 1) s1.heap.objs.size _ hty, ⟨⟨.none, he⟩, hit, Nat.succ_ne_self _⟩, fun b hb => ?_, q⟩
    have e' : b = s1.heap.objs.size + 1 ∨ b = s1.heap.objs.size := by simpa using hb
    have hle : s1.heap.objs.size ≤ b := by
      rcases e' with z | z
      · rw [z]; exact Nat.le_add_right _ _
      · rw [z]; exact Nat.le_refl _
    exact I1.fpOk hle (I1.hok.fresh hle)
def enum2S : PyData → Option (List PyData)
  | .str z => some (enumD (signsD z))
  | _ => none
theorem itD_enumS [Tbs] {K : PySem.W.Frag} {B : Hp} (z : Str) : ItD K B (Itn z) (enumD (signsD z)) := by
  have ln : (enumD (signsD z)).length = z.cps.size := by unfold enumD signsD; simp
  refine ⟨fun H s => ln, fun i d e H s => ?_⟩
  unfold enumD at e
  rw [List.getElem?_map, List.getElem?_zipIdx] at e
  obtain ⟨p, hp, rfl⟩ := Option.map_eq_some_iff.mp e
  obtain ⟨c, hc, rfl⟩ := Option.map_eq_some_iff.mp hp
  unfold signsD at hc
  rw [List.getElem?_map] at hc
  obtain ⟨c0, hc0, rfl⟩ := Option.map_eq_some_iff.mp hc
  have hi : i < z.cps.size := by
    have := (List.getElem?_eq_some_iff.mp hc0).1
    simpa using this
  refine ⟨hi, fun x H' y B1 s1 s2 => ?_⟩
  obtain ⟨T, c', rfl, hT, rfl, hc'⟩ := y
  have this : z.cps.toList[i]? = some c' := by simpa using hc'
  rw [hc0] at this
  cases this
  refine ⟨_, Tr.new s2 hT, .tup (SqT.of upd_same) (.cons ?_ (.cons (.str _) .nil))⟩
  show Dq K _ (V.int (i : Nat)) (PyData.int (((0 + i : Nat)) : Int))
  rw [Nat.zero_add]
  exact .int _
def fEnS (f : Rho → Option PyData) : Rho → Option (List PyData) := fun ρ => (f ρ).bind enum2S
theorem pdi_enumS [Tbs] {X : Cx} {a : Expr} {f : Rho → Option PyData} {pos p tpos : Pos} {elts : List Expr} {kk : Nat} (hg : Gl X "enumerate") (hm : X.mg "enumerate" = none) (ha : PD X a f) (h0 : starEach [a] X.env = (false, eval a X.env) :: starEach [] X.env := by rfl) (hs : starEach [a] X.env = [(false, eval a X.env)] := by rfl) :
    PDI X (.Tuple elts kk tpos) (.Call (.Name "enumerate" p) [a] [] pos) (fEnS f) := pi_imp (pi_enumS hg hm (pa_cons ha pa_nil h0) hs) fun σ H R ⟨H0, B, ρ, d, sl, hf, q⟩ => by
  obtain ⟨x, hx, hf⟩ := bind_some hf
  refine ⟨H0, B, ρ, x, sl, hx, fun v B1 H1 t1 d1 => ?_⟩
  unfold enum2S at hf
  split at hf
  · cases hf
    cases d1
    exact ⟨_, rfl, q _ B1 H1 t1 (itD_enumS _)⟩
  · cases hf
end Dn

namespace Dn
open PySem L2 PySem.Spec PyProof.Rows Gx
/-- isinstance(e, (c, ..)), e the exception that the suite holds -/
def rIsET (K : PySem.W.Frag) (D a : Addr) : List V → Hp → VK → Prop := fun xs H Q => ∃ (tp : Addr) (cs : List V) (us : List Value) (b : Bool), xs = [.ref a, .ref tp] ∧ H tp = some (.tup cs) ∧ Paired ClsV cs us ∧ PySem.W.kitAny K (.ref D) us = some b ∧ Q (.bl b) H
theorem call_isET {X : Cx} {a D : Addr} {oe : Obj} {pn : List (Addr × Obj)} (C : ExcC X.K D) (hz : Zc (.ref D) none oe) (hf : ∃ vs, oe.data = .fields vs) : CallR (X.suite a ((a, oe) :: pn)) (.builtin "isinstance") (rIsET X.K D a) := by
  intro pins s σ H xs us Q I r h
  obtain ⟨tp, cs, ws, b, rfl, hT, k, e, q⟩ := h
  cases r with
  | cons rx rr =>
    cases rr with
    | cons rt rr =>
      cases rr
      cases rx
      cases (show _ = Value.ref tp from rt)
      obtain ⟨hget, _⟩ := I.pin (a, oe) (List.mem_append.mpr (.inl List.mem_cons_self))
      obtain ⟨vs, hv⟩ := hf
      have J : PySem.W.InstAt s.heap a oe D none := by
        obtain ⟨oc, od, oda, osl⟩ := oe
        obtain ⟨h1, h2⟩ := hz
        dsimp only at h1 h2 hv
        subst h1 h2 hv
        exact ⟨hget, rfl, rfl, trivial⟩
      obtain ⟨_, its, rv, o, h1, h2, n, h3⟩ := (show ObjOk X.prog X.w H s.heap tp (.tup cs) from I.hok tp _ hT)
      have e3 := ClsV.all k rv
      subst e3
      obtain ⟨oc, od, dt, sl⟩ := o
      simp only at h2 h3
      subst h2 h3
      exact PySem.W.kia_tup (PySem.W.handS_kitx_exc C.hg C.hk C.hs C.hd C.ha C.hn C.ht C.hm) I.kIn J h1 e (fun z => nomatch z) fun tk => ⟨.bl b, H, I.kept (t' := tk) fun _ _ z => z, rfl, q⟩
/-- behind a suite that tells what it caught -/
def tRef (a : Addr) (ie : Nat) : TS := fun D σ H => σ[ie]? = some (some (.ref a)) ∧ ie + 1 < σ.length ∧ ∀ tp o, H tp = none → D.rt (.bl true) (upd H tp o)
def gTry (ie : Nat) (m : Str) (f : Rho → Option (Except Str PyData)) : Rho → Option Out := fun ρ => if ie + 1 < ρ.length then (f ρ).bind fun r => match r with
  | .ok d => some (.nx ρ)
  | .error n => if n = m then some (.rt (.bool true) ρ) else none
  else none
theorem psd_try [Tbs] {X : Cx} {callE : Expr} {p1 np pos pos' : Pos} {x n m : Str} {CS : Addr} {ie : Nat} {b₀ : Stmt} {suite : List Stmt} {f : Rho → Option (Except Str PyData)}
    (hs : X.stack = X.env :: X.outer) (hfr : X.env.frame = some X.env.locals) (hN : X.N.Nodup) (hi : X.N[ie]? = some n) (hln : X.env.kindOf n = some .local) (hc : Names X x (.ref CS)) (hx : PySem.W.exmOne X.K (.ref (Tbs.Cl m)) (.ref CS) = some true)
    (hb : ∀ (W : WX) (pn : List (Addr × Obj)) (xe : Value → Shared → Prop), Takes (X.tr pn xe) W → PX (X.tr pn xe) W callE f) (hsw : ∀ (pn : List (Addr × Obj)) (xe : Value → Shared → Prop), swapsWith callE none p1.line (X.tr pn xe).env = pure false := by intro _ _; rfl)
    (hsu : ∀ (a : Addr) (oe : Obj) (pn : List (Addr × Obj)), Zc (.ref (Tbs.Cl m)) none oe → (∃ vs, oe.data = .fields vs) → PSs (X.suite a ((a, oe) :: pn)) (b₀ :: suite) (tRef a ie)) :
    PSD X (.Try [.Expr callE p1] [.ExceptHandler (some (.Name x np)) (some n) (b₀ :: suite) pos'] [] [] pos) (gTry ie m f) := by
  refine ps_imp (ps_try_as (tb := fun W => tDrop (tX X.K W f)) (ts := fun a cls d => fun D σ H => cls = .ref (Tbs.Cl m) ∧ d = none ∧ tRef a ie D σ H) (Wout := fun _ _ _ _ => False) hs hfr hN hi hln hc takes0
    (fun W pn xe tk _ => pss_one (ps_expr (hb W pn xe tk) (hsw pn xe))) (fun a oe cls d pn hz hf => ⟨fun pins s σ H D I h => by
      obtain ⟨rfl, rfl, h⟩ := h
      exact (hsu a oe pn hz hf).run pins s σ H D I h⟩)) fun D σ H ⟨B0, H0, ρ, o, ⟨B, t, s⟩, hf, q⟩ => ?_
  unfold gTry at hf
  split at hf
  case isFalse => cases hf
  rename_i hi2
  have hie2 : ie + 1 < σ.length := by rw [← s.len]; exact hi2
  have hie : ie < σ.length := by omega
  obtain ⟨r, hr, hf⟩ := bind_some hf
  refine ⟨H0, B, ρ, r, s, hr, ?_⟩
  cases r with
  | ok d =>
    cases hf
    exact fun v B' H' t' d' => q σ H' ⟨B', t.trans t', s.tr t'⟩
  | error k =>
    obtain ⟨rfl, rfl⟩ := ite_some hf
    refine fun B' H' t' => ⟨true, hx, fun _ a ha => ⟨rfl, rfl, List.getElem?_set_self hie, by rw [List.length_set]; exact hie2, fun tp o htp => ?_⟩, fun z => by cases z⟩
    have j : Tr B' H' B' (upd H' tp o) := Tr.junk t'.t htp
    exact q (.bl true) σ B' (upd H' tp o) ((t.trans t').trans j) ((s.tr t').tr j) (.bl true)
/-- the list that split makes, still its owner's -/
def splitF : PyData → List PyData → Option (List PyData)
  | .str a, [.str b] => if (b.length == 0) = false ∧ a.length + 2 ≤ bigL then some ((Txt.split a b).map .str) else none
  | _, _ => none
def fMtF (g : PyData → List PyData → Option (List PyData)) (f : Rho → Option PyData) (fs : Rho → Option (List PyData)) : Rho → Option (List PyData) := fun ρ => (f ρ).bind fun x => (fs ρ).bind fun xs => g x xs
theorem pdf_split [Tbs] {X : Cx} {o e : Expr} {es : List Expr} {apos cpos : Pos} {f : Rho → Option PyData} {fs : Rho → Option (List PyData)} (ho : PD X o f) (ha : PDA X (e :: es) fs) (hbase : attributeBase o "split" X.env (eval o X.env) = eval o X.env := by rfl) (hfew : ((backTo cpos (starEach (e :: es) X.env)).all (fun x => !x.1) && (backToKw cpos (keywordEach [] X.env)).all (fun x => x.1.isSome) && decide ((e :: es).length + ([] : List Keyword).length + (if ([] : List Keyword).isEmpty then 0 else 1) < 30)) = true := by rfl) (hline : (apos.endLine == cpos.line) = true := by rfl) (hs : starEach (e :: es) X.env = (false, eval e X.env) :: starEach es X.env := by rfl) (hplain : (backTo cpos (starEach es X.env)).any (·.1) = false := by rfl) :
    PDF X (.Call (.Attribute o "split" apos) (e :: es) [] cpos) (fMtF splitF f fs) := pe_imp (pe_bm PySem.F.plainAttrs_str PySem.F.slot_str_split PySem.F.type_str_split mt_split ho ha hbase hfew hline hs hplain) fun σ H Q ⟨H0, B, ρ, d, s, hf, q⟩ => by
  obtain ⟨x, hx, hf⟩ := bind_some hf
  obtain ⟨xs, hxs, hf⟩ := bind_some hf
  unfold splitF at hf
  split at hf
  case h_2 => cases hf
  obtain ⟨⟨w1, w2⟩, rfl⟩ := ite_some hf
  refine ⟨H0, B, ρ, _, s, hx, fun v B1 H1 t1 d1 => ?_⟩
  cases d1
  refine ⟨rfl, H0, B1, ρ, _, s.tr t1, hxs, fun vs B2 H2 t2 d2 => ?_⟩
  cases d2 with
  | cons h1 h2 =>
    cases h2; cases h1
    refine ⟨_, _, rfl, rfl, w1, bigL_le w2, fun p hp => ?_⟩
    have t12 := t1.trans t2
    exact q p _ B2 _ (t12.put (t2.t.free hp) (t12.h.free hp)) (t2.t.free hp) (t12.h.free hp) upd_same (dp_strs _)
/-! ### zip of two tuples -/
theorem itD_zipT [Tbs] {K : PySem.W.Frag} {B : Hp} {a b : Addr} {vs ws : List V} {ds es : List PyData} (h : SqT K B a vs) (hd : DqAll K B vs ds) (h' : SqT K B b ws) (hd' : DqAll K B ws es) : ItD K B (RZ.ItzT K a b) (zipD ds es) := by
  refine ⟨fun H s => ⟨vs, ws, sqT_mono s h, sqT_mono s h', ?_⟩, fun i d e H s => ?_⟩
  · have h1 := dpAll_len hd
    have h2 := dpAll_len hd'
    have h3 : (zipD ds es).length = min ds.length es.length := by simp [zipD, List.length_zip]
    omega
  · unfold zipD at e
    rw [List.getElem?_map] at e
    obtain ⟨⟨c1, c2⟩, hc, rfl⟩ := Option.map_eq_some_iff.mp e
    rw [List.getElem?_zip_eq_some] at hc
    obtain ⟨v, hv, hdv⟩ := dpAll_get hd hc.1
    obtain ⟨w, hw, hdw⟩ := dpAll_get hd' hc.2
    refine ⟨⟨vs, ws, v, w, sqT_mono s h, sqT_mono s h', hv, hw⟩, fun x H' y B1 s1 s2 => ?_⟩
    obtain ⟨T, x1, y1, rfl, hT, rfl, z1, z2⟩ := y
    have z1 := z1 vs (sqT_mono s h)
    have z2 := z2 ws (sqT_mono s h')
    rw [hv] at z1
    rw [hw] at z2
    cases z1
    cases z2
    exact ⟨_, Tr.new s2 hT, .tup (SqT.of upd_same) (.cons (dp_mono (s1.trans (same_upd (s2.free hT))) hdv) (.cons (dp_mono (s1.trans (same_upd (s2.free hT))) hdw) .nil))⟩
def zip2T : PyData → PyData → Option (List PyData)
  | .tuple xs, .tuple ys => some (zipD xs ys)
  | _, _ => none
def fZT (f g : Rho → Option PyData) : Rho → Option (List PyData) := fun ρ => (f ρ).bind fun x => (g ρ).bind fun y => zip2T x y
theorem pdi_zipT [Tbs] {X : Cx} {f g : Rho → Option PyData} {a b : Expr} {p pos tpos : Pos} {elts : List Expr} {kk : Nat} (hg : Gl X "zip") (hm : X.mg "zip" = none) (ha : PD X a f) (hb : PD X b g) (h0 : starEach [b] X.env = (false, eval b X.env) :: starEach [] X.env := by rfl)
    (hs : starEach [a, b] X.env = (false, eval a X.env) :: starEach [b] X.env := by rfl) (hpl : (backTo pos (starEach [b] X.env)).any (·.1) = false := by rfl) : PDI X (.Tuple elts kk tpos) (.Call (.Name "zip" p) [a, b] [] pos) (fZT f g) := pi_imp (RZ.pi_zipA hg hm (pa_cons ha (pa_cons hb pa_nil h0) hs) hs hpl) fun σ H R ⟨H0, B, ρ, d, sl, hf, q⟩ => by
  obtain ⟨x, hx, hf⟩ := bind_some hf
  obtain ⟨y, hy, hf⟩ := bind_some hf
  refine ⟨H0, B, ρ, x, sl, hx, fun v B1 H1 t1 d1 => ⟨H0, B1, ρ, y, sl.tr t1, hy, fun w B2 H2 t2 d2 => ?_⟩⟩
  have d3 := dp_mono t2.b d1
  unfold zip2T at hf
  split at hf
  · cases hf
    cases d3 with
    | tup h1 a1 => cases d2 with
      | tup h2 a2 => exact ⟨_, _, _, _, rfl, .inr ⟨sqT_mono t2.t h1, sqT_mono t2.t h2, q _ B2 H2 (t1.trans t2) (itD_zipT h1 a1 h2 a2)⟩⟩
  · cases hf
end Dn

namespace Dn
open PySem L2 PySem.Spec PyProof.Rows Gx
/-! ### a text some times -/
def repS (a : Str) (n : Nat) : Str := ⟨(List.replicate n a.cps).foldl (· ++ ·) #[]⟩
theorem repS_list (a : Str) (n : Nat) : (repS a n).cps.toList = (List.replicate n a.cps.toList).flatten := by
  have := size_foldl n a.cps
  unfold repS
  exact this
where
  size_foldl (n : Nat) (x : Array Nat) : ((List.replicate n x).foldl (· ++ ·) #[]).toList = (List.replicate n x.toList).flatten := by
    have key : ∀ (m : Nat) (acc : Array Nat), ((List.replicate m x).foldl (· ++ ·) acc).toList = acc.toList ++ (List.replicate m x.toList).flatten := by
      intro m
      induction m with
      | zero => intro acc; simp
      | succ m ih => intro acc; rw [List.replicate_succ, List.foldl_cons, ih, List.replicate_succ, List.flatten_cons, Array.toList_append, List.append_assoc]
    rw [key n #[]]; rfl
theorem repS_len (a : Str) (n : Nat) : (repS a n).length = n * a.length := by
  have h := congrArg List.length (repS_list a n)
  rw [List.length_flatten, List.map_replicate, List.sum_replicate_nat] at h
  simpa [Str.length] using h
def rTimesS : R2 := fun x y H Q => ∃ (a : Str) (k : Int), x = .str a ∧ y = .int k ∧ 2 ≤ k ∧ k ≤ 100 ∧ 1 ≤ a.length ∧ a.length ≤ 100 ∧ Q (.str (repS a k.toNat)) H
theorem op_timesS {X : Cx} : OpR X (binaryOp .Mult) rTimesS := by
  intro pins s σ H x y v u Q I rx ry h
  obtain ⟨a, k, rfl, rfl, k1, k2, l1, l2, q⟩ := h
  obtain ⟨t, rfl⟩ := rx
  obtain ⟨t', rfl⟩ := ry
  have nk : ¬ k < 1 := by omega
  have h1 : (k == 1 || a.length == 0) = false := by
    rw [Bool.or_eq_false_iff]
    exact ⟨beq_eq_false_iff_ne.mpr (by omega), beq_eq_false_iff_ne.mpr (by omega)⟩
  have b2 : k.toNat * a.length ≤ 100 * 100 := Nat.mul_le_mul (by omega) l2
  refine PySem.P.mul_str ?_ (fun _ _ => ?_) (fun _ _ => ?_) ?_
  · rw [decide_eq_false (by omega), decide_eq_false (by omega)]; rfl
  · have h2 : (2 ^ 63 - 1) / 100 ≤ ((2 ^ 63 - 1) / k : Int) := by
      have e : (2 ^ 63 - 1) / 100 ≤ ((2 ^ 63 - 1) / k : Int) ↔ (2 ^ 63 - 1) / 100 * k ≤ (2 ^ 63 - 1 : Int) := Int.le_ediv_iff_mul_le (by omega)
      rw [e]; omega
    omega
  · show decide (_ > sizeLine) = false
    have h9 : (10000 : Nat) ≤ sizeLine := by decide
    exact decide_eq_false (by rw [Nat.mul_comm]; omega)
  · rw [if_neg nk, if_neg (by rw [h1]; exact Bool.false_ne_true)]
    refine ⟨?_, .str (repS a k.toNat), H, I.tok _, ⟨_, rfl⟩, q⟩
    have h9 : (10000 : Nat) ≤ sizeLine := by decide
    have := repS_len a k.toNat
    unfold repS at this
    rw [this]; omega
def timesSD : PyData → PyData → Option PyData
  | .str a, .int k => if (2 ≤ k ∧ k ≤ 100) ∧ (1 ≤ a.length ∧ a.length ≤ 100) then some (.str (repS a k.toNat)) else none
  | _, _ => none
theorem rd_timesS [Tbs] {K : PySem.W.Frag} : RD K rTimesS timesSD := fun B H x y dx dy d Q s hx hy hg q => by
  unfold timesSD at hg
  split at hg
  · obtain ⟨⟨⟨h1, h2⟩, h3, h4⟩, rfl⟩ := ite_some hg
    cases hx; cases hy
    exact ⟨_, _, rfl, rfl, h1, h2, h3, h4, q _ B H (Tr.refl s) (.str _)⟩
  · cases hg
/-! ### tuple + tuple, both with something in -/
def rCatTT (K : PySem.W.Frag) : R2 := fun x y H Q => ∃ l m xs ys, x = .ref l ∧ y = .ref m ∧ SqT K H l xs ∧ SqT K H m ys ∧ xs ≠ [] ∧ ys ≠ [] ∧ xs.length + ys.length ≤ sizeLine ∧ ∀ p, H p = none → Q (.ref p) (upd H p (.tup (xs ++ ys)))
theorem op_catTT {X : Cx} : OpR X (binaryOp .Add) (rCatTT X.K) := by
  intro pins s σ H x y v u Q I hx hy ⟨l, m, xs, ys, e1, e2, h1, h2, n1, n2, hsz, q⟩
  subst e1 e2
  cases hx
  cases hy
  obtain ⟨its, r, ⟨⟨c1, d1, t1, s1⟩, o1, hc, n, hd⟩, hs1⟩ := I.tuple h1
  obtain ⟨jts, r2, ⟨⟨c2, d2, t2, s2⟩, o2, hc2, n2', hd2⟩, hs2⟩ := I.tuple h2
  simp only at hc hd hc2 hd2
  subst hc hd hc2 hd2
  have g1 := r.length
  have g2 := r2.length
  have i1 : ¬ its.toArray.isEmpty = true := by
    cases its with
    | nil => exact absurd (List.eq_nil_of_length_eq_zero g1) n1
    | cons a b => simp
  have i2 : ¬ jts.toArray.isEmpty = true := by
    cases jts with
    | nil => exact absurd (List.eq_nil_of_length_eq_zero g2) n2
    | cons a b => simp
  refine concat_meets ⟨_, o1, rfl⟩ ⟨_, o2, rfl⟩ noFill_tuple_add seq_tuple_add PySem.F.slot_tuple_add PySem.F.entry_tuple_add (PySem.F.args_tuple_add_2 _ _) (tuple_addW2 l m its.toArray jts.toArray n n2' d1 d2 s1 s2 i1 i2 (by simp; omega)) ⟨o1, o2, ?_⟩
  rw [show its.toArray ++ jts.toArray = (its ++ jts).toArray by simp]
  refine ⟨.ref s.heap.objs.size, _, I.laid (t' := s.toks) (o := .tup (xs ++ ys)) (fun b ob q => Heap.get?_push_of_some _ q) (Nat.le_refl _) ?_, rfl, q _ (I.hok.fresh (Nat.le_refl _))⟩
  exact ⟨by rw [List.length_append]; omega, _, r.append r2, IsTup.new _ _⟩
def catTD : PyData → PyData → Option PyData
  | .tuple a, .tuple b => if (a.isEmpty = false ∧ b.isEmpty = false) ∧ a.length + b.length ≤ bigL then some (.tuple (a ++ b)) else none
  | _, _ => none
theorem rd_catTT [Tbs] {K : PySem.W.Frag} : RD K (rCatTT K) catTD := fun B H x y dx dy d Q s hx hy hg q => by
  unfold catTD at hg
  split at hg
  · obtain ⟨⟨⟨h1, h2⟩, h3⟩, rfl⟩ := ite_some hg
    cases hx with
    | tup t1 a1 => cases hy with
      | tup t2 a2 =>
        refine ⟨_, _, _, _, rfl, rfl, sqT_mono s t1, sqT_mono s t2, fun e => ?_, fun e => ?_, by rw [dpAll_len a1, dpAll_len a2]; exact bigL_le h3, fun p hp => newT s (dpAll_append a1 a2) q hp⟩
        · rw [e] at a1; cases a1; cases h1
        · rw [e] at a2; cases a2; cases h2
  · cases hg
def chO (g g' : PyData → PyData → Option PyData) (h : Rho → Option PyData) (ρ : Rho) : Option PyData → Option PyData → Option PyData
  | some x, some y => match g x y with
    | some (.bool true) => (h ρ).bind fun w => g' y w
    | some (.bool false) => some (.bool false)
    | _ => none
  | _, _ => none
@[simp] theorem fCh_ap (g g' : PyData → PyData → Option PyData) (fa fb fc : Rho → Option PyData) (ρ : Rho) : fCh g g' fa fb fc ρ = chO g g' fc ρ (fa ρ) (fb ρ) := by
  unfold fCh chO
  cases fa ρ with
  | none => rfl
  | some x =>
    cases fb ρ with
    | none => rfl
    | some y =>
      simp only [Option.bind_some]
      cases g x y with
      | none => rfl
      | some z => cases z with
        | bool b => cases b <;> rfl
        | _ => rfl
end Dn

namespace Dn
open PySem L2 PySem.Spec PyProof.Rows Gx
/-! ### what the heads have in common -/
theorem cn_int [Tbs] {K : PySem.W.Frag} {mg : Str → Option Value} {x : Str} {i : Int} {u : Tok} (m : mg x = some (.int i u)) : Cn K mg x (.int i) := ⟨.int i, .int i u, m, ⟨u, rfl⟩, fun _ => .int i⟩
theorem cn_str [Tbs] {K : PySem.W.Frag} {mg : Str → Option Value} {x z : Str} {u : Tok} (m : mg x = some (.str z u)) : Cn K mg x (.str z) := ⟨.str z, .str z u, m, ⟨u, rfl⟩, fun _ => .str z⟩
/-- a dict of the module, texts to numbers -/
def entI (e : DictEntry) : Option (Str × Int) := match e.key, e.val with
  | .str x _, .int i _ => some (x, i)
  | _, _ => none
theorem entI_some {e : DictEntry} {x : Str} {i : Int} (h : entI e = some (x, i)) : (∃ t, e.key = .str x t) ∧ ∃ u, e.val = .int i u := by
  unfold entI at h
  split at h
  · rename_i y t j u e1 e2
    cases h
    exact ⟨⟨t, e1⟩, u, e2⟩
  · cases h
theorem find_ents (z : Str) : ∀ (L : List DictEntry) (kv : List (Str × Int)), L.map entI = kv.map some →
    (∀ i, kv.lookup z = some i → ∃ e u, L.find? (·.key.isStr z) = some e ∧ e.val = .int i u) ∧ (kv.lookup z = none → L.find? (·.key.isStr z) = none) ∧ L.any (·.refKey) = false
  | [], [], _ => ⟨fun i h => (by cases h), fun _ => rfl, rfl⟩
  | [], p :: kv, h => by cases h
  | e :: L, [], h => by cases h
  | e :: L, (x, i) :: kv, h => by
    rw [List.map_cons, List.map_cons] at h
    injection h with h1 h2
    obtain ⟨⟨t, ek⟩, u, ev⟩ := entI_some h1
    obtain ⟨a, b, c⟩ := find_ents z L kv h2
    have hk : e.key.isStr z = (x == z) := by rw [ek]; rfl
    have hr : e.refKey = false := by unfold DictEntry.refKey; rw [ek]
    by_cases q : x = z
    · subst q
      have e1 : (x == x) = true := beq_self_eq_true x
      refine ⟨fun j hj => ⟨e, u, by rw [List.find?_cons, hk, e1], ?_⟩, fun hn => ?_, by rw [List.any_cons, hr, c]; rfl⟩
      · rw [List.lookup_cons, e1] at hj
        cases hj
        exact ev
      · rw [List.lookup_cons, e1] at hn; cases hn
    · have e1 : (x == z) = false := beq_eq_false_iff_ne.mpr q
      have e2 : (z == x) = false := beq_eq_false_iff_ne.mpr (Ne.symm q)
      refine ⟨fun j hj => ?_, fun hn => ?_, by rw [List.any_cons, hr, c]; rfl⟩
      · rw [List.lookup_cons, e2] at hj
        obtain ⟨e', u', f1, f2⟩ := a j hj
        exact ⟨e', u', by rw [List.find?_cons, hk, e1]; exact f1, f2⟩
      · rw [List.lookup_cons, e2] at hn
        rw [List.find?_cons, hk, e1]; exact b hn
theorem lookup_map (z : Str) : ∀ (kv : List (Str × Int)), (kv.map fun p => (p.1, PyData.int p.2)).lookup z = (kv.lookup z).map .int
  | [] => rfl
  | (x, i) :: kv => by
    rw [List.map_cons, List.lookup_cons, List.lookup_cons, lookup_map z kv]
    cases z == x <;> rfl
theorem cd_ints [Tbs] {K : PySem.W.Frag} {w : World} {mg : Str → Option Value} {x : Str} {d : Addr} {es : Array DictEntry} {n : Nat} {kv : List (Str × Int)} (m : mg x = some (.ref d)) (l : K.lookup d = some ⟨.type "dict", none, .dict es n, #[]⟩) (hk : PySem.W.KeysLit w.params es.toList) (lo : (d == sysModules) = false) (he : es.toList.map entI = kv.map some) :
    Cd K w mg x (kv.map fun p => (p.1, .int p.2)) := by
  refine ⟨d, es, n, m, ⟨l, hk, lo⟩, fun z p h => ?_, fun z h => ?_⟩
  · rw [lookup_map] at h
    obtain ⟨i, hi, rfl⟩ := Option.map_eq_some_iff.mp h
    obtain ⟨e, u, f1, f2⟩ := (find_ents z es.toList kv he).1 i hi
    refine ⟨.int i u, .int i, ?_, ⟨u, rfl⟩, fun H => .int i⟩
    unfold PySem.W.nsIn
    rw [l]
    simp only
    rw [f1, ← f2]
  · rw [lookup_map] at h
    obtain ⟨_, f2, f3⟩ := find_ents z es.toList kv he
    have f1 := f2 (by cases q : kv.lookup z with | none => rfl | some i => rw [q] at h; cases h)
    unfold PySem.W.nsIn
    rw [l]
    simp only
    rw [f1, f3]
    rfl
/-! ### a law that makes generators: one table -/
def spLawT (K : PySem.W.Frag) (T : Addr) : Sp := fun vs H Q _ => ∃ (a : Addr) (ns : List Int), vs = [.ref a] ∧ SqL K H a (ns.map V.int) ∧ ns.length ≤ 63 ∧ H T = some (.tbl #[]) ∧ ∀ H', Q (.bl true) H'
theorem dq_intsL [Tbs] {K : PySem.W.Frag} {H : Hp} (ns : List Int) : DqAll K H (ns.map V.int) (ns.map PyData.int) := by
  induction ns with
  | nil => exact .nil
  | cons n r ih => exact .cons (.int n) ih
theorem sqL_untL {K : PySem.W.Frag} {H : Hp} {a : Addr} {xs : List V} (h : SqL K H a xs) : SqL K (unt H) a xs := by
  rcases h with (h | ⟨o, h⟩) | h
  · exact .inl (.inl (unt_gw H h (fun ps z => by cases z)))
  · exact .inl (.inr ⟨o, unt_gw H h (fun ps z => by cases z)⟩)
  · exact .inr h
theorem law_ofT [Tbs] {P : Program} {w : World} {K : PySem.W.Frag} {mg : Str → Option Value} {base : Heap} {k : Nat} {f T : Addr} {fd : FuncData} {ps : List Str} {F : List PyData → Option PyData} (hT : Tbs.T = [T]) (h : FnOk P w K mg base CX0 k f fd ps (spD K 1 F)) (hF : ∀ ns : List Int, F [.list (ns.map .int)] = some (.bool true)) : FnOk P w K mg base CX0 k f fd ps (spLawT K T) :=
  h.imp fun vs H Q E ⟨a, ns, e, hS, _, ht, q⟩ => ⟨unt H, [.list (ns.map .int)], .bool true, ⟨unt_same H, unt_nt H, fun P hP => by
    rw [hT] at hP
    cases List.mem_singleton.mp hP
    exact ⟨#[], ht, trivial⟩⟩, by rw [e]; exact .cons (.lst (sqL_untL hS) (dq_intsL ns)) .nil, rfl, hF ns, fun v B' H' t d => by cases d; exact q H'⟩
/-- what the head tells of the table -/
theorem tab_mk {K : PySem.W.Frag} {x : Str} {f c P : Addr} {oc : Value} {od : Option Addr} {fd : FuncData} {sl : Array (Option Value)} {oC : Value} {odC : Option Addr} {vs : Array Value} {slC : Array (Option Value)}
    (a : PySem.W.nsIn K mainGlobals x = some (some (.ref f))) (l : K.lookup f = some ⟨oc, od, .func fd, sl⟩) (hc : fd.code = .ref c) (lC : K.lookup c = some ⟨oC, odC, .fields vs, slC⟩) (hP : (vs[11]? : Option Value) = some (.ref P)) : PySem.W.tabIn K x = some (c, P) := by
  unfold PySem.W.tabIn
  rw [a]
  simp only [l, hc, lC, hP]
theorem walkT {l : PySem.W.OpenLaw} {k : Nat} {q : Program} {loose : List Str} {XP : (Str → Option Value) → Heap → Prop} {YP : World → Heap → Prop} {d : DefRec} {K : Params → PySem.W.Frag} (hn : l.most = some 63) (hdf : d.params.defaults = []) (hr : Room k callerA)
    (hY : ∀ (w : World) (h : Heap), YP w h → (K w.params).In h)
    (F : ∀ (w : World) (mg : Str → Option Value) (fa : Addr) (h : Heap), (K w.params).In h → h.Ns mainGlobals mg → mg d.name = some (.ref fa) →
      ∃ (fd : FuncData) (y : Str) (e : DefRec) (c T : Addr), (recsOf q).find? (fun e => e.name == y) = some e ∧ PySem.W.tabIn (K w.params) y = some (c, T) ∧ (K w.params).lookup T = none ∧ (∀ (s : Shared) (u : Value), BindsTo s fd ⟨[u], []⟩ [("_law_script", u)]) ∧
        ∀ base : Heap, (K w.params).In base → base.Ns mainGlobals mg → GxR.TabB base mg c T → FnOk l.prog w (K w.params) mg base CX0 k fa fd ["_law_script"] (spLawT (K w.params) T)) :
    PySem.W.WalkO q loose XP YP l.row.toRowW d [] (fun f vs => PySem.call f vs) := by
  refine walk_tab (n := 63) (k := k) (x := "_law_script") (CX := fun _ => CX0) hn (by decide) hdf hr hY (fun w mg fa h Y X G hm KT => ?_) fun _ _ _ _ _ z => z
  obtain ⟨fd, y, e, c, T, e1, e2, e3, hb, hF⟩ := F w mg fa h X G hm
  obtain ⟨hC, hT⟩ := KT y e c T e1 e2
  refine ⟨fd, [(c, T)], spLawT (K w.params) T, fun p hp => ?_, fun p hp => ?_, fun p hp => ?_, hb, fun H a ns hl _ hH hS => ⟨a, ns, rfl, hS, hl, hH (c, T) (List.mem_singleton.mpr rfl), fun _ => rfl⟩, fun base I N hTb => ?_⟩
  · cases List.mem_singleton.mp hp; exact hT
  · cases List.mem_singleton.mp hp; exact e3
  · cases List.mem_singleton.mp hp; exact hC
  · have t := hTb (c, T) (List.mem_singleton.mpr rfl)
    exact hF base I N ⟨t.code, t.bm, t.gP⟩
/-! ### own classes by name -/
def clOf (l : List (Str × Addr)) (n : Str) : Addr := (l.lookup n).getD 0
theorem clOf_hit {x : Str} {a : Addr} {l : List (Str × Addr)} : clOf ((x, a) :: l) x = a := by
  unfold clOf
  rw [List.lookup_cons, beq_self_eq_true]
  rfl
theorem clOf_miss {x y : Str} {a : Addr} {l : List (Str × Addr)} (h : (y == x) = false) : clOf ((x, a) :: l) y = clOf l y := by
  unfold clOf
  rw [List.lookup_cons, h]
end Dn

namespace Dn
open PySem L2 PySem.Spec PyProof.Rows Gx
/-! ### a def that is handed the caught exception -/
/-- the slot bears something that the data don't know -/
theorem sl_junk [Tbs] {K : PySem.W.Frag} {H0 B H : Hp} {ρ : Rho} {σ : L2.St} (s : Sl K H0 B ρ σ H) (i : Nat) (y : Option V) : Sl K H0 B (ρ.set i none) (σ.set i y) H := by
  refine ⟨s.bh, s.nt, s.tb, by simp [s.len], fun {j x} e => ?_, fun {j oj ys} e => ?_, fun {j k oj ok us ys c} e1 e2 e3 e4 => ?_, s.ob.set fun _ _ _ z => by cases z⟩
  · rcases get_set e with ⟨rfl, hl, z⟩ | ⟨hn, e⟩
    · cases z
    · rw [List.getElem?_set_ne hn]; exact s.dv e
  · rcases get_set e with ⟨rfl, hl, z⟩ | ⟨hn, e⟩
    · cases z
    · rw [List.getElem?_set_ne hn]; exact s.ow e
  · rcases get_set e1 with ⟨_, _, z⟩ | ⟨n1, e1⟩
    · cases z
    · rcases get_set e2 with ⟨_, _, z⟩ | ⟨n2, e2⟩
      · cases z
      · rw [List.getElem?_set_ne n1] at e3
        rw [List.getElem?_set_ne n2] at e4
        exact s.ap e1 e2 e3 e4
/-- isinstance(e, c) where e's object is pinned all the way -/
theorem call_isP {X : Cx} {a D : Addr} {oe : Obj} (C : ExcC X.K D) (hp : (a, oe) ∈ X.pn) (hz : Zc (.ref D) none oe) (hf : ∃ vs, oe.data = .fields vs) : CallR X (.builtin "isinstance") (rIsE X.K D a) := by
  intro pins s σ H xs us Q I r h
  obtain ⟨c, cv, b, rfl, hc, e, q⟩ := h
  cases r with
  | cons rx rr => cases rr with
    | cons rt rr =>
      cases rr; cases rx
      cases hc _ rt
      have hget := (I.pin (a, oe) (List.mem_append_left _ hp)).1
      obtain ⟨vs, hv⟩ := hf
      have J : PySem.W.InstAt s.heap a oe D none := by
        cases oe
        cases hz.1; cases hz.2; cases hv
        exact ⟨hget, rfl, rfl, trivial⟩
      refine PySem.W.kia_one (PySem.W.handS_kitx_exc C.hg C.hk C.hs C.hd C.ha C.hn C.ht C.hm) I.kIn J e (fun z => nomatch z) fun tk => ?_
      exact ⟨.bl b, H, I.kept (t' := tk) fun _ _ z => z, rfl, q⟩
structure FnW [Tbs] (P : Program) (w : World) (K : PySem.W.Frag) (mg : Str → Option Value) (base : Heap) (k : Nat) (f : Addr) (fd : FuncData) (y : Str) (F : Str → Option PyData) : Prop where
  run : ∀ (A : Around) (outer : List Env) (s : Shared) (H B : Hp) (n : Str) (p : Addr × Obj) (d : PyData) (Q : VK), L2H.RoomH k A → L2H.PinOk outer H s p → Zc (.ref (Tbs.Cl n)) none p.2 → (∃ vs, p.2.data = .fields vs) → Env0 P w K mg base A outer s H → BindsTo s fd ⟨[.ref p.1], []⟩ [(y, .ref p.1)] →
    Bs B H → F n = some d → (∀ v B' H', Tr B H B' H' → Dq K B' v d → Q v H') → codeAny (model P w) A (.call (.ref f) ⟨[.ref p.1], []⟩) (CR CX0 outer P w H s Q E0) s
/-- THE RULE for such a def -/
theorem fnW_of [Tbs] {P : Program} {w : World} {K : PySem.W.Frag} {mg : Str → Option Value} {base : Heap} {k : Nat} {f : Addr} {x y : Str} {st : Stmt} {kV doc pm cdv ct oc : Value} {an od : Option Addr} {osl : Array (Option Value)} {N : List Str} {F : Str → Option PyData}
    (lk : K.lookup f = some ⟨oc, od, .func (PySem.W.fnOf x x (defArgs st) (defBody st) (defScope st) .none kV doc pm an cdv ct), osl⟩) (hcd : PySem.W.codeIn K cdv x = true) (S : FnScope N [y] (defScope st))
    (hbody : ∀ (A : Around) (outer : List Env) (s : Shared) (H B : Hp) (n : Str) (p : Addr × Obj) (d : PyData) (Q : VK), Zc (.ref (Tbs.Cl n)) none p.2 → (∃ vs, p.2.data = .fields vs) → L2H.RoomH k (A.deeper (envOfC x (defScope st) s.heap.objs.size f cdv)) → Bs B H → F n = some d → (∀ v B' H', Tr B H B' H' → Dq K B' v d → Q v H') →
      ∃ t, PSs (L2H.cxH CX0 P w K mg base N x (defScope st) f cdv A outer s H E0 p) (defBody st) t ∧ t { nx := fun _ H' => Q .non H', rt := Q } (L2.start N [.ref p.1]) H) :
    FnW P w K mg base (k + 1) f (PySem.W.fnOf x x (defArgs st) (defBody st) (defScope st) .none kV doc pm an cdv ct) y F := by
  refine ⟨fun A outer s H B n p d Q hr hpin hz hf e0 hb hB hF q => ?_⟩
  have kin : K.In s.heap := e0.mod.kin.keeps fun b o z => (e0.bs b o z).1
  have nol : s.heap.NoLimit := e0.mod.nolimit.keeps fun b o z => (e0.bs b o z).1
  have kinds : ∀ z ∈ [(y, Value.ref p.1)], (defScope st).names.lookup z.1 = some .local ∨ ((defScope st).names.lookup z.1 = some .cell ∧ ((cellsFrom (s.heap.objs.size + 1) (defScope st).names []).lookup z.1).isSome = true) := by
    intro z hz
    cases List.mem_singleton.mp hz
    exact (S.par y (by simp)).imp id fun c => ⟨c, PySem.W.cellsFrom_some _ _ _ (.inl c)⟩
  refine codeAny_call_function hr.depth (kin _ _ lk) rfl S.co S.gen rfl (PySem.W.codeRec_of kin hcd) (hb _ _ _ _ ?_)
  refine wpAny_newFunctionEnv_cells S.kind kinds fun env ee s1 inC => ?_
  subst ee
  refine ⟨nol.keeps inC.toInCall.keep, codeAny_func ?_⟩
  obtain ⟨t, T, h⟩ := hbody A outer s H B n p d Q hz hf (hr.deeper _) hB hF q
  have I : Inv (L2H.cxH CX0 P w K mg base N x (defScope st) f cdv A outer s H E0 p) [] (L2.start N [.ref p.1]) H s1 := L2H.inv_startH (us := [.ref p.1]) S hpin e0 rfl (.cons rfl .nil) inC
  refine wpAny_mono (T.run [] s1 _ H _ I h) (fun fl s' g => ?_) fun e s' g => g
  cases fl with
  | ret u => obtain ⟨v, σ', H', J, rv, g⟩ := g; exact ⟨v, H', J.os, J.bare, J.base, J.hok, rv, g⟩
  | next => obtain ⟨σ', H', J, g⟩ := g; exact ⟨V.non, H', J.os, J.bare, J.base, J.hok, rfl, g⟩
  | brk => obtain ⟨_, _, _, g⟩ := g; exact g.elim
  | cont => obtain ⟨_, _, _, g⟩ := g; exact g.elim
structure KnW [Tbs] (P : Program) (w : World) (K : PySem.W.Frag) (mg : Str → Option Value) (base : Heap) (k : Nat) (x : Str) (F : Str → Option PyData) : Prop where
  ex : ∃ f fd y, FnW P w K mg base k f fd y F ∧ mg x = some (.ref f) ∧ PySem.W.keepIn K (.ref f) = true ∧ L2.Binds K fd [y] []
theorem KnW.mono [Tbs] {P : Program} {w : World} {K : PySem.W.Frag} {mg : Str → Option Value} {base : Heap} {j k : Nat} {x : Str} {F : Str → Option PyData} (h : KnW P w K mg base j x F) (l : j ≤ k) : KnW P w K mg base k x F := by
  obtain ⟨f, fd, y, a, b⟩ := h.ex
  exact ⟨f, fd, y, ⟨fun A outer s H B n p d Q hr => a.run A outer s H B n p d Q (hr.mono l)⟩, b⟩
/-- what its call is worth in the suite -/
def tW [Tbs] (K : PySem.W.Frag) (a : Addr) (ie : Nat) (n : Str) (F : Str → Option PyData) : TE := fun σ H Q => σ[ie]? = some (some (.ref a)) ∧ ∃ B d, Bs B H ∧ F n = some d ∧ ∀ v B' H', Tr B H B' H' → Dq K B' v d → Q v H'
theorem pe_W [Tbs] {X : Cx} {k : Nat} {x e : Str} {F : Str → Option PyData} {a : Addr} {oe : Obj} {pn : List (Addr × Obj)} {n : Str} {ie : Nat} {p p2 pos : Pos} (h : KnW X.prog X.w X.K X.mg X.base k x F) (hr : Room k X.A) (hz : Zc (.ref (Tbs.Cl n)) none oe) (hf : ∃ vs, oe.data = .fields vs)
    (he : PE (X.suite a ((a, oe) :: pn)) (.Name e p2) (tVar ie)) (hg : Gl (X.suite a ((a, oe) :: pn)) x := by rfl) (hdb : (x == ("__debug__" : Str)) = false := by decide)
    (hs : starEach [.Name e p2] (X.suite a ((a, oe) :: pn)).env = (false, eval (.Name e p2) (X.suite a ((a, oe) :: pn)).env) :: starEach [] (X.suite a ((a, oe) :: pn)).env := by rfl) (hpl : (backTo pos (starEach [] (X.suite a ((a, oe) :: pn)).env)).any (·.1) = false := by rfl) :
    PE (X.suite a ((a, oe) :: pn)) (.Call (.Name x p) [.Name e p2] [] pos) (tW X.K a ie n F) := by
  obtain ⟨f, fd, y, G, hm, hk, hb⟩ := h.ex
  refine ⟨fun pins s σ H Q I q => ?_⟩
  obtain ⟨hσ, B, d, hB, hF, q⟩ := q
  have ha : PA (X.suite a ((a, oe) :: pn)) [.Name e p2] (tCons (tVar ie) tNil) := pa_cons he pa_nil hs
  refine wpAny_Call_Name_kw (ld_glob I hg hm ?_ hdb)
  refine PySem.W.callWith_K (h₀ := X.base) I.ok.mod.kin hk (thn (ha.run pos pins s σ H (fun vs H1 => vs = [.ref a] ∧ H1 = H) I ⟨.ref a, hσ, rfl, rfl⟩) fun us s1 z => ⟨z.choose_spec.choose_spec.1.kIn, ?_⟩) hs hpl
  obtain ⟨vs, H1, I1, r, rfl, rfl⟩ := z
  cases r with
  | cons r1 r2 =>
    cases r2
    cases r1
    have P1 := I1.pin (a, oe) (List.mem_append_left _ List.mem_cons_self)
    have pin : L2H.PinOk (X.suite a ((a, oe) :: pn)).stack H1 s1 (a, oe) := ⟨P1.1, P1.2.1, fun hm => (List.mem_cons.mp (I1.stkSub a hm)).elim P1.2.2.1 P1.2.2.2.1, P1.2.2.2.2⟩
    have bd := hb s1 [.ref a] I1.kIn rfl
    refine wpAny_call (codeAny_mono (G.run (X.suite a ((a, oe) :: pn)).A (X.suite a ((a, oe) :: pn)).stack s1 H1 B n (a, oe) d Q ⟨hr.dp, hr.un⟩ pin hz hf I1.env0 bd hB hF q) fun r s' g => ?_)
    cases r with
    | error e => exact g.elim
    | ok fl => cases fl with
      | ret u => exact I1.after g
      | next => exact g.elim
      | brk => exact g.elim
      | cont => exact g.elim
end Dn

namespace Dn
open PySem L2 PySem.Spec PyProof.Rows Gx
/-! ### try .. except X as e: return f(e), or y = f(e) -/
def BodyOk [Tbs] (K : PySem.W.Frag) (f : Rho → Option (Except Str Rho)) (tb : WX → TS) : Prop := ∀ (W : WX) (D : Ends) (σ : L2.St) (H0 B H : Hp) (ρ : Rho) (r : Except Str Rho), Sl K H0 B ρ σ H → f ρ = some r →
  (∀ ρ', r = .ok ρ' → ∀ σ' B' H', Tr B H B' H' → Sl K H0 B' ρ' σ' H' → D.nx σ' H') → (∀ n, r = .error n → ∀ B' H', Tr B H B' H' → W (.ref (Tbs.Cl n)) none σ H') → tb W D σ H
def fBx (f : Rho → Option (Except Str PyData)) : Rho → Option (Except Str Rho) := fun ρ => (f ρ).map fun r => match r with
  | .ok _ => .ok ρ
  | .error n => .error n
theorem body_expr [Tbs] {K : PySem.W.Frag} {f : Rho → Option (Except Str PyData)} : BodyOk K (fBx f) fun W => tDrop (tX K W f) := fun W D σ H0 B H ρ r s hf q1 q2 => by
  obtain ⟨r0, h0, rfl⟩ := Option.map_eq_some_iff.mp hf
  refine ⟨H0, B, ρ, r0, s, h0, ?_⟩
  cases r0 with
  | ok d => exact fun v B' H' t d' => q1 ρ rfl σ B' H' t (s.tr t)
  | error n => exact fun B' H' t => q2 n rfl B' H' t
def fBs (j : Nat) (f : Rho → Option (Except Str PyData)) : Rho → Option (Except Str Rho) := fun ρ => (f ρ).map fun r => match r with
  | .ok d => .ok (ρ.set j (some (.d d)))
  | .error n => .error n
theorem body_set [Tbs] {K : PySem.W.Frag} {j : Nat} {f : Rho → Option (Except Str PyData)} : BodyOk K (fBs j f) fun W => tAsg (tX K W f) (gName j) := fun W D σ H0 B H ρ r s hf q1 q2 => by
  obtain ⟨r0, h0, rfl⟩ := Option.map_eq_some_iff.mp hf
  refine ⟨H0, B, ρ, r0, s, h0, ?_⟩
  cases r0 with
  | ok d => exact fun v B' H' t d' => q1 _ rfl _ B' H' t (sl_setD (s.tr t) d')
  | error n => exact fun B' H' t => q2 n rfl B' H' t
def gTryW (ie : Nat) (f : Rho → Option (Except Str Rho)) (F : Str → Option PyData) (k : PyData → Rho → Out) : Rho → Option Out := fun ρ => if ie < ρ.length then (f ρ).bind fun r => match r with
  | .ok ρ' => some (.nx ρ')
  | .error n => (F n).map fun d => k d (ρ.set ie none)
  else none
def kRet : PyData → Rho → Out := fun d ρ => .rt d ρ
def kSet (ie j : Nat) : PyData → Rho → Out := fun d ρ => .nx ((ρ.set j (some (.d d))).set ie none)
section
variable {X : Cx} {p1 np pos pos' : Pos} {x nm : Str} {CS : Addr} {ie j : Nat} {st b₀ : Stmt} {f : Rho → Option (Except Str Rho)} {F : Str → Option PyData} {tb : WX → TS}
theorem psd_tryR [Tbs] (hs : X.stack = X.env :: X.outer) (hfr : X.env.frame = some X.env.locals) (hN : X.N.Nodup) (hi : X.N[ie]? = some nm) (hln : X.env.kindOf nm = some .local) (hc : Names X x (.ref CS)) (hx : ∀ n d, F n = some d → PySem.W.exmOne X.K (.ref (Tbs.Cl n)) (.ref CS) = some true)
    (hB : BodyOk X.K f tb) (hb : ∀ (W : WX) (pn : List (Addr × Obj)) (xe : Value → Shared → Prop), Takes (X.tr pn xe) W → PS (X.tr pn xe) st (tb W))
    (hsu : ∀ (a : Addr) (oe : Obj) (n : Str) (pn : List (Addr × Obj)), Zc (.ref (Tbs.Cl n)) none oe → (∃ vs, oe.data = .fields vs) → PSs (X.suite a ((a, oe) :: pn)) [b₀] (fun D σ H => tW X.K a ie n F σ H D.rt)) :
    PSD X (.Try [st] [.ExceptHandler (some (.Name x np)) (some nm) [b₀] pos'] [] [] pos) (gTryW ie f F kRet) := by
  refine ps_imp (ps_try_as (tb := tb) (ts := fun a cls d => fun D σ H => ∃ n, cls = .ref (Tbs.Cl n) ∧ d = none ∧ tW X.K a ie n F σ H D.rt) (Wout := fun _ _ _ _ => False) hs hfr hN hi hln hc takes0
    (fun W pn xe tk _ => pss_one (hb W pn xe tk)) (fun a oe cls d pn hz hf => ⟨fun pins s σ H D I h => by
      obtain ⟨n, rfl, rfl, h⟩ := h
      exact (hsu a oe n pn hz hf).run pins s σ H D I h⟩)) fun D σ H ⟨B0, H0, ρ, o, ⟨B, t, s⟩, hf, q⟩ => ?_
  unfold gTryW at hf
  split at hf
  case isFalse => cases hf
  rename_i hie
  obtain ⟨r, hr, hf⟩ := bind_some hf
  refine hB _ D σ H0 B H ρ r s hr (fun ρ' e σ' B' H' t' s' => ?_) fun n e B' H' t' => ?_
  · subst e
    cases hf
    exact q σ' H' ⟨B', t.trans t', s'⟩
  · subst e
    obtain ⟨d, hd, rfl⟩ := Option.map_eq_some_iff.mp hf
    refine ⟨true, hx n d hd, fun _ a ha => ⟨n, rfl, rfl, List.getElem?_set_self (by rw [← s.len]; exact hie), B', d, (s.tr t').bs, hd, fun v B2 H2 t2 d2 => ?_⟩, fun z => by cases z⟩
    exact q v (σ.set ie (some (.ref a))) B2 H2 ((t.trans t').trans t2) ((sl_junk (s.tr t') ie _).tr t2) d2
theorem psd_tryS [Tbs] (hs : X.stack = X.env :: X.outer) (hfr : X.env.frame = some X.env.locals) (hN : X.N.Nodup) (hi : X.N[ie]? = some nm) (hln : X.env.kindOf nm = some .local) (hc : Names X x (.ref CS)) (hx : ∀ n d, F n = some d → PySem.W.exmOne X.K (.ref (Tbs.Cl n)) (.ref CS) = some true)
    (hB : BodyOk X.K f tb) (hb : ∀ (W : WX) (pn : List (Addr × Obj)) (xe : Value → Shared → Prop), Takes (X.tr pn xe) W → PS (X.tr pn xe) st (tb W))
    (hsu : ∀ (a : Addr) (oe : Obj) (n : Str) (pn : List (Addr × Obj)), Zc (.ref (Tbs.Cl n)) none oe → (∃ vs, oe.data = .fields vs) → PSs (X.suite a ((a, oe) :: pn)) [b₀] (tAsg (tW X.K a ie n F) (gName j))) :
    PSD X (.Try [st] [.ExceptHandler (some (.Name x np)) (some nm) [b₀] pos'] [] [] pos) (gTryW ie f F (kSet ie j)) := by
  refine ps_imp (ps_try_as (tb := tb) (ts := fun a cls d => fun D σ H => ∃ n, cls = .ref (Tbs.Cl n) ∧ d = none ∧ tAsg (tW X.K a ie n F) (gName j) D σ H) (Wout := fun _ _ _ _ => False) hs hfr hN hi hln hc takes0
    (fun W pn xe tk _ => pss_one (hb W pn xe tk)) (fun a oe cls d pn hz hf => ⟨fun pins s σ H D I h => by
      obtain ⟨n, rfl, rfl, h⟩ := h
      exact (hsu a oe n pn hz hf).run pins s σ H D I h⟩)) fun D σ H ⟨B0, H0, ρ, o, ⟨B, t, s⟩, hf, q⟩ => ?_
  unfold gTryW at hf
  split at hf
  case isFalse => cases hf
  rename_i hie
  obtain ⟨r, hr, hf⟩ := bind_some hf
  refine hB _ D σ H0 B H ρ r s hr (fun ρ' e σ' B' H' t' s' => ?_) fun n e B' H' t' => ?_
  · subst e
    cases hf
    exact q σ' H' ⟨B', t.trans t', s'⟩
  · subst e
    obtain ⟨d, hd, rfl⟩ := Option.map_eq_some_iff.mp hf
    refine ⟨true, hx n d hd, fun _ a ha => ⟨n, rfl, rfl, List.getElem?_set_self (by rw [← s.len]; exact hie), B', d, (s.tr t').bs, hd, fun v B2 H2 t2 d2 => ?_⟩, fun z => by cases z⟩
    exact q _ H2 ⟨B2, (t.trans t').trans t2, sl_none (sl_setD ((sl_junk (s.tr t') ie _).tr t2) d2) ie⟩
end
/-! ### an expression that may raise, compared -/
def fX2 (g : PyData → PyData → Option PyData) (f : Rho → Option (Except Str PyData)) (h : Rho → Option PyData) : Rho → Option (Except Str PyData) := fun ρ => (f ρ).bind fun r => match r with
  | .ok x => (h ρ).bind fun y => (g x y).map .ok
  | .error n => some (.error n)
theorem px_cmp [Tbs] {X : Cx} {W : WX} {op : CmpOp} {r : R2} {g : PyData → PyData → Option PyData} {a b : Expr} {pos : Pos} {f : Rho → Option (Except Str PyData)} {h : Rho → Option PyData} (ho : OpR X (compareOp op) r) (hr : RD X.K r g) (ha : PX X W a f) (hb : PD X b h) (hm : behindInMarks op b = false) : PX X W (.Compare a [op] [b] pos) (fX2 g f h) := pe_imp (pe_cmpR ho ha hb hm) fun σ H Q ⟨H0, B, ρ, d, s, hf, q⟩ => by
  obtain ⟨r1, h1, hf⟩ := bind_some hf
  refine ⟨H0, B, ρ, r1, s, h1, ?_⟩
  cases r1 with
  | error n => cases hf; exact q
  | ok x =>
    obtain ⟨y, hy, hf⟩ := bind_some hf
    obtain ⟨z, hz, rfl⟩ := Option.map_eq_some_iff.mp hf
    refine fun v B1 H1 t1 d1 => ⟨H0, B1, ρ, y, s.tr t1, hy, fun w B2 H2 t2 d2 => ?_⟩
    exact hr B2 H2 v w x y z Q t2.t (dp_mono t2.b d1) d2 hz fun u B3 H3 t3 d3 => q u B3 H3 ((t1.trans t2).trans t3) d3
end Dn

namespace Dn
open PySem L2 PySem.Spec PyProof.Rows Gx
/-! ### the making of an instance whose __init__ may raise -/
section
variable {X : Cx} {CX : CXT} {k : Nat} {f C : Addr} {fd : FuncData} {ps : List Str} {sp : Sp} {E : L2.St → XK} {x : Str} {p pos : Pos} {e : Expr} {es : List Expr} {t : TA}
def tMakeS (C : Addr) (sp : Sp) (E : L2.St → XK) (t : TA) : TE := fun σ H Q => t σ H fun vs H1 => ∀ y dx, H1 y = none → H1 dx = none → dx ≠ y → sp (.ref y :: vs) (upd (upd H1 dx (.own y)) y (.ins C dx [])) (fun v H2 => v = .non ∧ Q (.ref y) H2) (E σ)
theorem pe_makeS (M : Mk X.K C f) (F : FnOk X.prog X.w X.K X.mg X.base CX k f fd ps sp) (hr : Room (k + 1) X.A) (hg : Gl X x) (hm : X.mg x = some (.ref C)) (hb : Binds X.K fd ps []) (hx : ∀ σ, PassesAt CX X σ (E σ))
    (ha : PA X (e :: es) t) (hdb : (x == ("__debug__" : Str)) = false := by decide) (he : starEach (e :: es) X.env = (false, eval e X.env) :: starEach es X.env := by rfl) (hpl : (backTo pos (starEach es X.env)).any (·.1) = false := by rfl) :
    PE X (.Call (.Name x p) (e :: es) [] pos) (tMakeS C sp E t) := by
  refine ⟨fun pins s0 σ H0 Q I0 h => ?_⟩
  refine wpAny_Call_Name_kw (ld_glob I0 hg hm ?_ hdb)
  refine PySem.W.callWith_K (h₀ := X.base) I0.ok.mod.kin M.kp (thn (ha.run pos pins s0 σ H0 _ I0 h) fun us s ⟨vs, H, I, r, q⟩ => ⟨I.kIn, ?_⟩) he hpl
  have q1 := q (s.heap.objs.size + 1) s.heap.objs.size (I.hok.fresh (Nat.le_succ _)) (I.hok.fresh (Nat.le_refl _)) (Nat.ne_of_lt (Nat.lt_succ_self _))
  have J := Inv.made (C := C) I
  have rv : Vals (V.ref (s.heap.objs.size + 1) :: vs) (Value.ref (s.heap.objs.size + 1) :: us) := .cons rfl r
  have ln : (Value.ref (s.heap.objs.size + 1) :: us).length = ps.length := rv.length.symm.trans (F.len _ _ _ _ q1)
  have bd := hb _ (Value.ref (s.heap.objs.size + 1) :: us) J.kIn (by rw [List.append_nil]; exact ln)
  rw [List.append_nil] at bd
  have run := F.run _ X.stack _ _ ⟨Value.ref (s.heap.objs.size + 1) :: us, []⟩ (Value.ref (s.heap.objs.size + 1) :: us) _ _ (E σ) (hr.make C us []) (J.env0.make C us []) bd rv q1
  refine wpAny_call (make_map (f := f) I.kIn M.makes M.init (beq_iff_eq.mp M.fn) (codeAny_mono run fun r s' g => ?_))
  cases r with
  | error e => exact hx σ pins _ _ e s' J g
  | ok fl =>
    cases fl with
    | ret u =>
      obtain ⟨v, H', J2, rv2, rfl, g2⟩ := J.after g
      exact ⟨rv2, V.ref (s.heap.objs.size + 1), H', J2, rfl, g2⟩
    | next => exact g.elim
    | brk => exact g.elim
    | cont => exact g.elim
end
abbrev Flds := List (PyData × PyData)
def spIX [Tbs] (K : PySem.W.Frag) (nm : Str) (n : Nat) (F : List PyData → Option (Except Str Flds)) : Sp := fun vs H Q E => ∃ (B : Hp) (a dx : Addr) (rest : List V) (ds : List PyData) (r : Except Str Flds),
  vs = .ref a :: rest ∧ Bs B H ∧ B a = none ∧ H a = some (.ins (Tbs.Cl nm) dx []) ∧ DqAll K B rest ds ∧ ds.length + 1 = n ∧ F ds = some r ∧
  (∀ gs, r = .ok gs → ∀ B' H' dx' ws, Tr B (rm H a) B' H' → B' a = none → H' a = some (.ins (Tbs.Cl nm) dx' ws) → DqF K B' ws gs → Q .non H') ∧ ∀ c, r = .error c → ∀ B' H', Tr B (rm H a) B' H' → E (.ref (Tbs.Cl c)) none H'
structure KnIX [Tbs] (P : Program) (w : World) (K : PySem.W.Frag) (mg : Str → Option Value) (base : Heap) (k n : Nat) (nm : Str) (F : List PyData → Option (Except Str Flds)) : Prop where
  ex : ∃ f fd ps, FnOk P w K mg base (L2.CX P w) k f fd ps (spIX K nm n F) ∧ Mk K (Tbs.Cl nm) f ∧ mg nm = some (.ref (Tbs.Cl nm)) ∧ L2.Binds K fd ps []
section
variable {P : Program} {w : World} {K : PySem.W.Frag} {mg : Str → Option Value} {base : Heap} {nm : Str} {st : Stmt} {F : List PyData → Option (Except Str Flds)}
theorem KnIX.mono [Tbs] {j k n : Nat} (h : KnIX P w K mg base j n nm F) (l : j ≤ k) : KnIX P w K mg base k n nm F := by
  obtain ⟨f, fd, ps, a, b⟩ := h.ex
  exact ⟨f, fd, ps, a.mono l, b⟩
theorem knIX_of [Tbs] {x qual : Str} {N ps : List Str} {k : Nat} {g : Rho → Option (Except Str Out)} {f : Addr} {fd : FuncData} (Fu : Fun K x qual st f fd) (M : Mk K (Tbs.Cl nm) f) (hm : mg nm = some (.ref (Tbs.Cl nm))) (bd : L2.Binds K fd ps []) (S : FnScope N ps (defScope st))
    (hF : ∀ a ds gs, F ds = some (.ok gs) → ∃ ρ, g (startI N.length a nm ds) = some (.ok (.nx ρ)) ∧ ρ[0]? = some (some (.ob a nm gs))) (hE : ∀ a ds c, F ds = some (.error c) → g (startI N.length a nm ds) = some (.error c))
    (hb : ∀ (cdv : Value) (A : Around) (outer : List Env) (s : Shared) (H : Hp) (E : XK), Room k (A.deeper (envOfC qual (defScope st) s.heap.objs.size f cdv)) → PSXs (cxOf (L2.CX P w) P w K mg base N qual (defScope st) f cdv A outer s H E) E (defBody st) g) :
    KnIX P w K mg base (k + 1) ps.length nm F := by
  refine ⟨f, fd, ps, Fu.okX S (fun vs H Q E ⟨B, a, dx, rest, ds, r, e, _, _, _, h4, h5, _⟩ => ?_) (fun cdv A outer s H vs Q E hr ⟨B, a, dx, rest, ds, r, e, h1, h2, h3, h4, h5, h6, q1, q2⟩ => ?_), M, hm, bd⟩
  · rw [e, ← h5, ← dpAll_len h4]; rfl
  · subst e
    have st0 : Stt K B (rm H a) (startI N.length a nm ds) (L2.start N (.ref a :: rest)) H := ⟨B, ⟨Same.refl _, h1.s, .of rm_le, id, fun c o w1 w2 => by rw [w2] at w1; cases w1⟩, sl_startI h1 h2 h3 h4⟩
    refine ⟨_, hb cdv A outer s H E hr, B, rm H a, startI N.length a nm ds, ?_⟩
    cases r with
    | error c => exact ⟨_, st0, hE a ds c h6, fun B' H' t => q2 c rfl B' H' t⟩
    | ok gs =>
      obtain ⟨ρ, e1, e2⟩ := hF a ds gs h6
      refine ⟨_, st0, e1, fun σ' H' ⟨B', t, s'⟩ => ?_⟩
      obtain ⟨_, dx', ws, z1, z2, z3, z4, z5⟩ := s'.ob 0 a nm gs e2
      exact q1 gs rfl B' H' dx' ws ⟨t.b, t.t, t.h, t.n, t.f⟩ z2 z4 z5
end
section
variable {X : Cx} {W : WX} {k n : Nat} {nm : Str} {p pos : Pos} {e : Expr} {es : List Expr} {F : List PyData → Option (Except Str Flds)}
def obX (nm : Str) : Except Str Flds → Except Str PyData
  | .ok gs => .ok (.dict ((.none, .str nm) :: gs))
  | .error c => .error c
def fXMk (nm : Str) (n : Nat) (F : List PyData → Option (Except Str Flds)) (fs : Rho → Option (List PyData)) : Rho → Option (Except Str PyData) := fun ρ => (fs ρ).bind fun ds => if ds.length + 1 = n then (F ds).map (obX nm) else none
/-- the junk that is left of a making -/
theorem tr_left {B1 H1 B' H' : Hp} {x dx C : Addr} (hx : H1 x = none) (hdx : H1 dx = none) (hne : dx ≠ x) (t : Tr B1 (rm (upd (upd H1 dx (.own x)) x (.ins C dx [])) x) B' H') : Tr B1 H1 B' H' := by
  have hrm : ∀ c, c ≠ x → rm (upd (upd H1 dx (.own x)) x (.ins C dx [])) x c = upd H1 dx (.own x) c := fun c hc => by rw [rm_ne hc, upd_ne hc]
  refine ⟨t.b, t.t, Gw.trans (.of fun c u w => ?_) t.h, t.n, fun c u w1 w2 => ?_⟩
  · rw [hrm c (ne_of_none w hx)]
    exact same_upd hdx c u w
  · by_cases z : c = x
    · subst z; exact hx
    · have y := t.f c u w1 w2
      rw [hrm c z] at y
      by_cases z2 : c = dx
      · subst z2; rw [upd_same] at y; cases y
      · rw [upd_ne z2] at y; exact y
theorem px_mk [Tbs] {fs : Rho → Option (List PyData)} (h : KnIX X.prog X.w X.K X.mg X.base k n nm F) (hr : Room (k + 1) X.A) (tk : Takes X W) (ha : PDA X (e :: es) fs) (hg : Gl X nm := by rfl) (hdb : (nm == ("__debug__" : Str)) = false := by decide) (he : starEach (e :: es) X.env = (false, eval e X.env) :: starEach es X.env := by rfl) (hpl : (backTo pos (starEach es X.env)).any (·.1) = false := by rfl) :
    PX X W (.Call (.Name nm p) (e :: es) [] pos) (fXMk nm n F fs) := by
  obtain ⟨f, fd, ps, G, M, hm, hb⟩ := h.ex
  refine pe_imp (pe_makeS (E := WE W) M G hr hg hm hb (fun σ => passAt tk σ) ha hdb he hpl) fun σ H Q ⟨H0, B, ρ, r, s, hf, q⟩ => ?_
  obtain ⟨ds, hds, hf⟩ := bind_some hf
  split at hf
  case isFalse => cases hf
  rename_i hl
  obtain ⟨r0, hF, rfl⟩ := Option.map_eq_some_iff.mp hf
  refine ⟨H0, B, ρ, ds, s, hds, fun us B1 H1 t1 d1 => fun x dx hx hdx hne => ?_⟩
  have s1 := s.tr t1
  have hdx' : (upd H1 dx (.own x)) x = none := by rw [upd_ne hne.symm]; exact hx
  have sH : Same H1 (upd (upd H1 dx (.own x)) x (.ins (Tbs.Cl nm) dx [])) := (same_upd hdx).trans (same_upd hdx')
  refine ⟨B1, x, dx, us, ds, r0, rfl, ⟨s1.bh.trans sH, s1.nt, fun P hP => (Gw.of sH).tab (s1.tb P hP)⟩, s1.bh.free hx, upd_same, d1, hl, hF, fun gs e B' H' dx' ws t z1 z2 z3 => ⟨rfl, ?_⟩, fun c e B' H' t => ?_⟩
  · subst e
    have T0 := tr_left hx hdx hne t
    have T : Tr B1 H1 (upd B' x (.ins (Tbs.Cl nm) dx' ws)) H' := by
      refine ⟨T0.b.trans (same_upd z1), fun c u w => ?_, T0.h, fun m => nt_upd (T0.n m) (fun _ z => by cases z), fun c u w1 w2 => ?_⟩
      · by_cases z : c = x
        · subst z; rw [upd_same] at w; cases w; exact z2
        · rw [upd_ne z] at w; exact T0.t c u w
      · by_cases z : c = x
        · subst z; exact hx
        · rw [upd_ne z] at w1; exact T0.f c u w1 w2
    exact q _ _ _ (t1.trans T) (.ins upd_same (dpF_mono (same_upd z1) z3))
  · subst e
    exact q B' H' (t1.trans (tr_left hx hdx hne t))
/-- Plan(e), the argument may raise -/
def fMkX (nm : Str) (n : Nat) (F : List PyData → Option Flds) (fs : Rho → Option (Except Str (List PyData))) : Rho → Option (Except Str PyData) := fun ρ => (fs ρ).bind fun r => match r with
  | .ok ds => if ds.length + 1 = n then (F ds).map fun gs => .ok (.dict ((.none, .str nm) :: gs)) else none
  | .error c => some (.error c)
theorem px_mkA [Tbs] {F : List PyData → Option Flds} {fs : Rho → Option (Except Str (List PyData))} (h : KnI X.prog X.w X.K X.mg X.base k n nm F) (hr : Room (k + 1) X.A) (ha : PXA X W (e :: es) fs) (hg : Gl X nm := by rfl) (hdb : (nm == ("__debug__" : Str)) = false := by decide) (he : starEach (e :: es) X.env = (false, eval e X.env) :: starEach es X.env := by rfl) (hpl : (backTo pos (starEach es X.env)).any (·.1) = false := by rfl) :
    PX X W (.Call (.Name nm p) (e :: es) [] pos) (fMkX nm n F fs) := by
  obtain ⟨f, fd, ps, G, M, hm, hb⟩ := h.ex
  refine pe_imp (pe_make (E := E0) M G hr hg hm hb .nil pass0 ha hdb he hpl) fun σ H Q ⟨H0, B, ρ, r, s, hf, q⟩ => ?_
  obtain ⟨r1, hds, hf⟩ := bind_some hf
  refine ⟨H0, B, ρ, r1, s, hds, ?_⟩
  cases r1 with
  | error c => cases hf; exact q
  | ok ds =>
    simp only at hf
    split at hf
    case isFalse => cases hf
    rename_i hl
    obtain ⟨gs, hF, rfl⟩ := Option.map_eq_some_iff.mp hf
    refine fun us B1 H1 t1 d1 => fun x dx hx hdx hne => ?_
    have s1 := s.tr t1
    show spI X.K nm n F (V.ref x :: (us ++ [])) _ _ E0
    rw [List.append_nil]
    have hdx' : (upd H1 dx (.own x)) x = none := by rw [upd_ne hne.symm]; exact hx
    have sH : Same H1 (upd (upd H1 dx (.own x)) x (.ins (Tbs.Cl nm) dx [])) := (same_upd hdx).trans (same_upd hdx')
    refine ⟨B1, x, dx, us, ds, gs, rfl, ⟨s1.bh.trans sH, s1.nt, fun P hP => (Gw.of sH).tab (s1.tb P hP)⟩, s1.bh.free hx, upd_same, d1, hl, hF, fun B' H' dx' ws t z1 z2 z3 => ⟨rfl, ?_⟩⟩
    have T0 := tr_left hx hdx hne t
    have T : Tr B1 H1 (upd B' x (.ins (Tbs.Cl nm) dx' ws)) H' := by
      refine ⟨T0.b.trans (same_upd z1), fun c u w => ?_, T0.h, fun m => nt_upd (T0.n m) (fun _ z => by cases z), fun c u w1 w2 => ?_⟩
      · by_cases z : c = x
        · subst z; rw [upd_same] at w; cases w; exact z2
        · rw [upd_ne z] at w; exact T0.t c u w
      · by_cases z : c = x
        · subst z; exact hx
        · rw [upd_ne z] at w1; exact T0.f c u w1 w2
    exact q _ _ _ (t1.trans T) (.ins upd_same (dpF_mono (same_upd z1) z3))
end
/-! ### self.f = e, e may raise -/
def gFldX (n f : Str) (fe : Rho → Option (Except Str PyData)) : Rho → Option (Except Str Out) := fun ρ => (fe ρ).bind fun r => match r with
  | .ok d => (match (ρ[0]? : Option (Option Sv)) with
    | some (some (.ob a m gs)) => if m = n ∧ gs.length < 100 then some (.ok (.nx (ρ.set 0 (some (.ob a m (puF f d gs)))))) else none
    | _ => none)
  | .error c => some (.error c)
theorem psx_fld [Tbs] {X : Cx} {E : XK} {n f : Str} {fl : List Str} {o value : Expr} {pos pos' : Pos} {fe : Rho → Option (Except Str PyData)} (C : Cla X.K n fl) (hf : f ∈ fl) (ho : PE X o (tVar 0)) (hv : PX X (wE E) value fe) (hs : swapsWith value (some (.Attribute o f pos')) pos.line X.env = pure false := by rfl) : PSX X E (.Assign [.Attribute o f pos'] value pos) (gFldX n f fe) := ps_imp (ps_fld ho hv hs) fun D σ H ⟨B0, H0, ρ, ou, ⟨B, t, s⟩, hx, q⟩ => by
  obtain ⟨r, hd, hx⟩ := bind_some hx
  refine ⟨H0, B, ρ, r, s, hd, ?_⟩
  cases r with
  | error c => cases hx; exact fun B' H' t' => q B' H' (t.trans t')
  | ok d =>
    simp only at hx
    split at hx
    case h_2 => cases hx
    rename_i a m gs ha
    obtain ⟨⟨rfl, hl⟩, rfl⟩ := ite_some hx
    refine fun v B1 H1 t1 d1 => ?_
    have s1 := s.tr t1
    have T := t.trans t1
    obtain ⟨_, dx, vs, e1, e2, e3, e4, e5⟩ := s1.ob 0 a m gs ha
    refine ⟨.ref a, e1, a, _, dx, vs, rfl, e4, C.cl, C.na f hf, by rw [dqF_len e5]; omega, q _ _ ⟨B1, T.put e2 e3, ?_⟩⟩
    have hne : ∀ {b : Addr} {us : List V}, H1 b = some (.lst us) → b ≠ a := fun hb z => by rw [z, e4] at hb; cases hb
    refine ⟨fun b u e => by rw [upd_ne (ne_of_none e e2)]; exact s1.bh b u e, s1.nt, fun P hP => ?_, by simp [s1.len], fun {i y} e => ?_, fun {i oo us} e => ?_, fun {i j o' o2 us ws b} x1 x2 x3 x4 => ?_, fun i b m2 gs2 e => ?_⟩
    · obtain ⟨ps, e, h⟩ := s1.tb P hP
      exact ⟨ps, by rw [upd_ne (fun z => by rw [z, e4] at e; cases e)]; exact e, h⟩
    · rcases get_set e with ⟨_, _, z⟩ | ⟨_, e⟩
      · cases z
      · exact s1.dv e
    · rcases get_set e with ⟨_, _, z⟩ | ⟨_, e⟩
      · cases z
      · obtain ⟨c, ws, w1, w2, w3, w4, w5⟩ := s1.ow e
        exact ⟨c, ws, w1, w2, w3, by rw [upd_ne (hne w4)]; exact w4, w5⟩
    · rcases get_set x1 with ⟨_, _, z⟩ | ⟨_, x1⟩
      · cases z
      · rcases get_set x2 with ⟨_, _, z⟩ | ⟨_, x2⟩
        · cases z
        · exact s1.ap x1 x2 x3 x4
    · rcases get_set e with ⟨rfl, _, z⟩ | ⟨n0, e⟩
      · cases z
        exact ⟨rfl, dx, _, e1, e2, e3, upd_same, dqF_pu d1 e5⟩
      · obtain ⟨z, _⟩ := s1.ob i b m2 gs2 e
        exact absurd z.symm n0
/-! ### {}, max, count -/
theorem pd_emp [Tbs] {X : Cx} {pos : Pos} : PD X (.Dict [] [] pos) (fC (.dict [])) := pe_imp pe_dnewK fun σ H Q ⟨H0, B, ρ, d, s, hf, q⟩ => by
  cases hf
  intro p hp
  exact q _ _ _ (Tr.new s.bh hp) (.emp upd_same)
def maxL : List Int → Option Int
  | [] => none
  | a :: r => some (r.foldl max a)
theorem foldl_max : ∀ (r : List Int) (a : Int), (a = r.foldl max a ∨ r.foldl max a ∈ r) ∧ a ≤ r.foldl max a ∧ ∀ y ∈ r, y ≤ r.foldl max a
  | [], a => ⟨.inl rfl, Int.le_refl _, by simp⟩
  | b :: r, a => by
    obtain ⟨h1, h2, h3⟩ := foldl_max r (max a b)
    rw [List.foldl_cons]
    refine ⟨?_, by omega, fun y hy => ?_⟩
    · rcases h1 with h1 | h1
      · rcases Int.le_total a b with h | h
        · rw [Int.max_eq_right h] at h1 ⊢
          exact .inr (by rw [← h1]; simp)
        · rw [Int.max_eq_left h] at h1 ⊢
          exact .inl h1
      · exact .inr (by simp [h1])
    · rcases List.mem_cons.mp hy with rfl | hy
      · omega
      · exact h3 y hy
def maxD : PyData → Option PyData
  | .list xs => (intsD xs).bind fun ns => (maxL ns).map .int
  | _ => none
theorem rc_max [Tbs] {K : PySem.W.Frag} : RC K (rMax K) (one1 maxD) := rc_one fun B H v x d Q s hx hg q => by
  unfold maxD at hg
  split at hg
  · obtain ⟨ns, e, hg⟩ := bind_some hg
    obtain ⟨m, hm, rfl⟩ := Option.map_eq_some_iff.mp hg
    cases hx with
    | lst h a =>
      cases ns with
      | nil => cases hm
      | cons b r =>
        cases hm
        obtain ⟨h1, h2, h3⟩ := foldl_max r b
        refine ⟨_, b :: r, rfl, by rw [← ints_of a e]; exact sqL_mono s h, by simp, fun m hm hall => ?_⟩
        have e1 : m = r.foldl max b := by
          have l1 : m ≤ r.foldl max b := by
            rcases List.mem_cons.mp hm with rfl | hm
            · exact h2
            · exact h3 m hm
          have l2 : r.foldl max b ≤ m := by
            rcases h1 with h1 | h1
            · rw [← h1]; exact hall b (by simp)
            · exact hall _ (by simp [h1])
          omega
        rw [e1]
        exact q _ B H (Tr.refl s) (.int _)
  · cases hg
end Dn

namespace Dn
open PySem L2 PySem.Spec PyProof.Rows Gx
/-! ### list.count -/
def rCountD (K : PySem.W.Frag) : V → List V → Hp → VK → Prop := fun x xs H Q => ∃ (a : Addr) (y : V) (d : PyData) (ds : List PyData), x = V.ref a ∧ xs = [y] ∧ Dp K H (V.ref a) (.list ds) ∧ Dp K H y d ∧
  SeqAt.shaped (.list ds) = true ∧ SeqAt.shaped d = true ∧ PyData.plainAll ds = true ∧ d.plain = true ∧ Q (.int (ds.countP fun z => PyData.eqv z d : Nat)) H
theorem mt_countD {X : Cx} (hu : X.A.units + 65 < cLine) : MtR X "list.count" (rCountD X.K) := by
  intro pins s σ H x xs v us Q I rx rxs h
  obtain ⟨a, y, d, ds, rfl, rfl, hl, hy, sl, sd, pl, pd, q⟩ := h
  cases rx
  cases rxs with
  | cons ry rt =>
    cases rt
    obtain ⟨bs, r1⟩ := Dp.reads I d y _ hy ry
    cases hl with
    | lst hs ha =>
      obtain ⟨its, rv, p, hlen⟩ := I.list hs
      obtain ⟨as, h4⟩ := Dp.readsAll I ds _ its ha rv
      exact PySem.SeqAt.count_list_data (vs := its.toArray) p.isList (by simpa using h4) r1 pl pd (room_in_shaped sd hu) ⟨.int _, H, I.tok _, ⟨_, rfl⟩, q⟩
def countD : PyData → List PyData → Option PyData
  | .list ds, [d] => if (SeqAt.shaped (.list ds) && SeqAt.shaped d) = true ∧ (PyData.plainAll ds && d.plain) = true then some (.int (ds.countP fun z => PyData.eqv z d : Nat)) else none
  | _, _ => none
section
variable {K : PySem.W.Frag}
theorem ty_count [Tbs] : TyD K "list" countD := fun B H v x ds d s hx hg => by
  unfold countD at hg
  split at hg
  · cases hx with | lst h a => exact .inl ⟨rfl, _, sqL_mono s h⟩
  · cases hg
theorem rm_count [Tbs] : RM K "list" (rCountD K) countD := fun B H v vs x ds d Q s hx hds hg q => by
  unfold countD at hg
  split at hg
  · obtain ⟨⟨h1, h2⟩, rfl⟩ := ite_some hg
    rw [Bool.and_eq_true] at h1 h2
    cases hds with
    | cons hy hn =>
      cases hn
      cases hx with
      | lst h a => exact ⟨_, _, _, _, rfl, rfl, dq_sh (.lst (sqL_mono s h) (dpAll_mono s a)) h1.1, dq_sh (dp_mono s hy) h1.2, h1.1, h1.2, h2.1, h2.2, q _ B H (Tr.refl s) (.int _)⟩
  · cases hg
end
end Dn

namespace Dn
open PySem L2
/-! the fields are unlike -/
@[simp] theorem fe_wishes_pasts : (Str.ofString "wishes" = Str.ofString "pasts") = False := eq_false (by decide +kernel)
@[simp] theorem fb_wishes_pasts : (Str.ofString "wishes" == Str.ofString "pasts") = false := by decide +kernel
@[simp] theorem fe_wishes_marks : (Str.ofString "wishes" = Str.ofString "marks") = False := eq_false (by decide +kernel)
@[simp] theorem fb_wishes_marks : (Str.ofString "wishes" == Str.ofString "marks") = false := by decide +kernel
@[simp] theorem fe_wishes_weights : (Str.ofString "wishes" = Str.ofString "weights") = False := eq_false (by decide +kernel)
@[simp] theorem fb_wishes_weights : (Str.ofString "wishes" == Str.ofString "weights") = false := by decide +kernel
@[simp] theorem fe_wishes_everywhere : (Str.ofString "wishes" = Str.ofString "everywhere") = False := eq_false (by decide +kernel)
@[simp] theorem fb_wishes_everywhere : (Str.ofString "wishes" == Str.ofString "everywhere") = false := by decide +kernel
@[simp] theorem fe_wishes_lines : (Str.ofString "wishes" = Str.ofString "lines") = False := eq_false (by decide +kernel)
@[simp] theorem fb_wishes_lines : (Str.ofString "wishes" == Str.ofString "lines") = false := by decide +kernel
@[simp] theorem fe_wishes_wish_lines : (Str.ofString "wishes" = Str.ofString "wish_lines") = False := eq_false (by decide +kernel)
@[simp] theorem fb_wishes_wish_lines : (Str.ofString "wishes" == Str.ofString "wish_lines") = false := by decide +kernel
@[simp] theorem fe_wishes_kept_lines : (Str.ofString "wishes" = Str.ofString "kept_lines") = False := eq_false (by decide +kernel)
@[simp] theorem fb_wishes_kept_lines : (Str.ofString "wishes" == Str.ofString "kept_lines") = false := by decide +kernel
@[simp] theorem fe_pasts_wishes : (Str.ofString "pasts" = Str.ofString "wishes") = False := eq_false (by decide +kernel)
@[simp] theorem fb_pasts_wishes : (Str.ofString "pasts" == Str.ofString "wishes") = false := by decide +kernel
@[simp] theorem fe_pasts_marks : (Str.ofString "pasts" = Str.ofString "marks") = False := eq_false (by decide +kernel)
@[simp] theorem fb_pasts_marks : (Str.ofString "pasts" == Str.ofString "marks") = false := by decide +kernel
@[simp] theorem fe_pasts_weights : (Str.ofString "pasts" = Str.ofString "weights") = False := eq_false (by decide +kernel)
@[simp] theorem fb_pasts_weights : (Str.ofString "pasts" == Str.ofString "weights") = false := by decide +kernel
@[simp] theorem fe_pasts_everywhere : (Str.ofString "pasts" = Str.ofString "everywhere") = False := eq_false (by decide +kernel)
@[simp] theorem fb_pasts_everywhere : (Str.ofString "pasts" == Str.ofString "everywhere") = false := by decide +kernel
@[simp] theorem fe_pasts_lines : (Str.ofString "pasts" = Str.ofString "lines") = False := eq_false (by decide +kernel)
@[simp] theorem fb_pasts_lines : (Str.ofString "pasts" == Str.ofString "lines") = false := by decide +kernel
@[simp] theorem fe_pasts_wish_lines : (Str.ofString "pasts" = Str.ofString "wish_lines") = False := eq_false (by decide +kernel)
@[simp] theorem fb_pasts_wish_lines : (Str.ofString "pasts" == Str.ofString "wish_lines") = false := by decide +kernel
@[simp] theorem fe_pasts_kept_lines : (Str.ofString "pasts" = Str.ofString "kept_lines") = False := eq_false (by decide +kernel)
@[simp] theorem fb_pasts_kept_lines : (Str.ofString "pasts" == Str.ofString "kept_lines") = false := by decide +kernel
@[simp] theorem fe_marks_wishes : (Str.ofString "marks" = Str.ofString "wishes") = False := eq_false (by decide +kernel)
@[simp] theorem fb_marks_wishes : (Str.ofString "marks" == Str.ofString "wishes") = false := by decide +kernel
@[simp] theorem fe_marks_pasts : (Str.ofString "marks" = Str.ofString "pasts") = False := eq_false (by decide +kernel)
@[simp] theorem fb_marks_pasts : (Str.ofString "marks" == Str.ofString "pasts") = false := by decide +kernel
@[simp] theorem fe_marks_weights : (Str.ofString "marks" = Str.ofString "weights") = False := eq_false (by decide +kernel)
@[simp] theorem fb_marks_weights : (Str.ofString "marks" == Str.ofString "weights") = false := by decide +kernel
@[simp] theorem fe_marks_everywhere : (Str.ofString "marks" = Str.ofString "everywhere") = False := eq_false (by decide +kernel)
@[simp] theorem fb_marks_everywhere : (Str.ofString "marks" == Str.ofString "everywhere") = false := by decide +kernel
@[simp] theorem fe_marks_lines : (Str.ofString "marks" = Str.ofString "lines") = False := eq_false (by decide +kernel)
@[simp] theorem fb_marks_lines : (Str.ofString "marks" == Str.ofString "lines") = false := by decide +kernel
@[simp] theorem fe_marks_wish_lines : (Str.ofString "marks" = Str.ofString "wish_lines") = False := eq_false (by decide +kernel)
@[simp] theorem fb_marks_wish_lines : (Str.ofString "marks" == Str.ofString "wish_lines") = false := by decide +kernel
@[simp] theorem fe_marks_kept_lines : (Str.ofString "marks" = Str.ofString "kept_lines") = False := eq_false (by decide +kernel)
@[simp] theorem fb_marks_kept_lines : (Str.ofString "marks" == Str.ofString "kept_lines") = false := by decide +kernel
@[simp] theorem fe_weights_wishes : (Str.ofString "weights" = Str.ofString "wishes") = False := eq_false (by decide +kernel)
@[simp] theorem fb_weights_wishes : (Str.ofString "weights" == Str.ofString "wishes") = false := by decide +kernel
@[simp] theorem fe_weights_pasts : (Str.ofString "weights" = Str.ofString "pasts") = False := eq_false (by decide +kernel)
@[simp] theorem fb_weights_pasts : (Str.ofString "weights" == Str.ofString "pasts") = false := by decide +kernel
@[simp] theorem fe_weights_marks : (Str.ofString "weights" = Str.ofString "marks") = False := eq_false (by decide +kernel)
@[simp] theorem fb_weights_marks : (Str.ofString "weights" == Str.ofString "marks") = false := by decide +kernel
@[simp] theorem fe_weights_everywhere : (Str.ofString "weights" = Str.ofString "everywhere") = False := eq_false (by decide +kernel)
@[simp] theorem fb_weights_everywhere : (Str.ofString "weights" == Str.ofString "everywhere") = false := by decide +kernel
@[simp] theorem fe_weights_lines : (Str.ofString "weights" = Str.ofString "lines") = False := eq_false (by decide +kernel)
@[simp] theorem fb_weights_lines : (Str.ofString "weights" == Str.ofString "lines") = false := by decide +kernel
@[simp] theorem fe_weights_wish_lines : (Str.ofString "weights" = Str.ofString "wish_lines") = False := eq_false (by decide +kernel)
@[simp] theorem fb_weights_wish_lines : (Str.ofString "weights" == Str.ofString "wish_lines") = false := by decide +kernel
@[simp] theorem fe_weights_kept_lines : (Str.ofString "weights" = Str.ofString "kept_lines") = False := eq_false (by decide +kernel)
@[simp] theorem fb_weights_kept_lines : (Str.ofString "weights" == Str.ofString "kept_lines") = false := by decide +kernel
@[simp] theorem fe_everywhere_wishes : (Str.ofString "everywhere" = Str.ofString "wishes") = False := eq_false (by decide +kernel)
@[simp] theorem fb_everywhere_wishes : (Str.ofString "everywhere" == Str.ofString "wishes") = false := by decide +kernel
@[simp] theorem fe_everywhere_pasts : (Str.ofString "everywhere" = Str.ofString "pasts") = False := eq_false (by decide +kernel)
@[simp] theorem fb_everywhere_pasts : (Str.ofString "everywhere" == Str.ofString "pasts") = false := by decide +kernel
@[simp] theorem fe_everywhere_marks : (Str.ofString "everywhere" = Str.ofString "marks") = False := eq_false (by decide +kernel)
@[simp] theorem fb_everywhere_marks : (Str.ofString "everywhere" == Str.ofString "marks") = false := by decide +kernel
@[simp] theorem fe_everywhere_weights : (Str.ofString "everywhere" = Str.ofString "weights") = False := eq_false (by decide +kernel)
@[simp] theorem fb_everywhere_weights : (Str.ofString "everywhere" == Str.ofString "weights") = false := by decide +kernel
@[simp] theorem fe_everywhere_lines : (Str.ofString "everywhere" = Str.ofString "lines") = False := eq_false (by decide +kernel)
@[simp] theorem fb_everywhere_lines : (Str.ofString "everywhere" == Str.ofString "lines") = false := by decide +kernel
@[simp] theorem fe_everywhere_wish_lines : (Str.ofString "everywhere" = Str.ofString "wish_lines") = False := eq_false (by decide +kernel)
@[simp] theorem fb_everywhere_wish_lines : (Str.ofString "everywhere" == Str.ofString "wish_lines") = false := by decide +kernel
@[simp] theorem fe_everywhere_kept_lines : (Str.ofString "everywhere" = Str.ofString "kept_lines") = False := eq_false (by decide +kernel)
@[simp] theorem fb_everywhere_kept_lines : (Str.ofString "everywhere" == Str.ofString "kept_lines") = false := by decide +kernel
@[simp] theorem fe_lines_wishes : (Str.ofString "lines" = Str.ofString "wishes") = False := eq_false (by decide +kernel)
@[simp] theorem fb_lines_wishes : (Str.ofString "lines" == Str.ofString "wishes") = false := by decide +kernel
@[simp] theorem fe_lines_pasts : (Str.ofString "lines" = Str.ofString "pasts") = False := eq_false (by decide +kernel)
@[simp] theorem fb_lines_pasts : (Str.ofString "lines" == Str.ofString "pasts") = false := by decide +kernel
@[simp] theorem fe_lines_marks : (Str.ofString "lines" = Str.ofString "marks") = False := eq_false (by decide +kernel)
@[simp] theorem fb_lines_marks : (Str.ofString "lines" == Str.ofString "marks") = false := by decide +kernel
@[simp] theorem fe_lines_weights : (Str.ofString "lines" = Str.ofString "weights") = False := eq_false (by decide +kernel)
@[simp] theorem fb_lines_weights : (Str.ofString "lines" == Str.ofString "weights") = false := by decide +kernel
@[simp] theorem fe_lines_everywhere : (Str.ofString "lines" = Str.ofString "everywhere") = False := eq_false (by decide +kernel)
@[simp] theorem fb_lines_everywhere : (Str.ofString "lines" == Str.ofString "everywhere") = false := by decide +kernel
@[simp] theorem fe_lines_wish_lines : (Str.ofString "lines" = Str.ofString "wish_lines") = False := eq_false (by decide +kernel)
@[simp] theorem fb_lines_wish_lines : (Str.ofString "lines" == Str.ofString "wish_lines") = false := by decide +kernel
@[simp] theorem fe_lines_kept_lines : (Str.ofString "lines" = Str.ofString "kept_lines") = False := eq_false (by decide +kernel)
@[simp] theorem fb_lines_kept_lines : (Str.ofString "lines" == Str.ofString "kept_lines") = false := by decide +kernel
@[simp] theorem fe_wish_lines_wishes : (Str.ofString "wish_lines" = Str.ofString "wishes") = False := eq_false (by decide +kernel)
@[simp] theorem fb_wish_lines_wishes : (Str.ofString "wish_lines" == Str.ofString "wishes") = false := by decide +kernel
@[simp] theorem fe_wish_lines_pasts : (Str.ofString "wish_lines" = Str.ofString "pasts") = False := eq_false (by decide +kernel)
@[simp] theorem fb_wish_lines_pasts : (Str.ofString "wish_lines" == Str.ofString "pasts") = false := by decide +kernel
@[simp] theorem fe_wish_lines_marks : (Str.ofString "wish_lines" = Str.ofString "marks") = False := eq_false (by decide +kernel)
@[simp] theorem fb_wish_lines_marks : (Str.ofString "wish_lines" == Str.ofString "marks") = false := by decide +kernel
@[simp] theorem fe_wish_lines_weights : (Str.ofString "wish_lines" = Str.ofString "weights") = False := eq_false (by decide +kernel)
@[simp] theorem fb_wish_lines_weights : (Str.ofString "wish_lines" == Str.ofString "weights") = false := by decide +kernel
@[simp] theorem fe_wish_lines_everywhere : (Str.ofString "wish_lines" = Str.ofString "everywhere") = False := eq_false (by decide +kernel)
@[simp] theorem fb_wish_lines_everywhere : (Str.ofString "wish_lines" == Str.ofString "everywhere") = false := by decide +kernel
@[simp] theorem fe_wish_lines_lines : (Str.ofString "wish_lines" = Str.ofString "lines") = False := eq_false (by decide +kernel)
@[simp] theorem fb_wish_lines_lines : (Str.ofString "wish_lines" == Str.ofString "lines") = false := by decide +kernel
@[simp] theorem fe_wish_lines_kept_lines : (Str.ofString "wish_lines" = Str.ofString "kept_lines") = False := eq_false (by decide +kernel)
@[simp] theorem fb_wish_lines_kept_lines : (Str.ofString "wish_lines" == Str.ofString "kept_lines") = false := by decide +kernel
@[simp] theorem fe_kept_lines_wishes : (Str.ofString "kept_lines" = Str.ofString "wishes") = False := eq_false (by decide +kernel)
@[simp] theorem fb_kept_lines_wishes : (Str.ofString "kept_lines" == Str.ofString "wishes") = false := by decide +kernel
@[simp] theorem fe_kept_lines_pasts : (Str.ofString "kept_lines" = Str.ofString "pasts") = False := eq_false (by decide +kernel)
@[simp] theorem fb_kept_lines_pasts : (Str.ofString "kept_lines" == Str.ofString "pasts") = false := by decide +kernel
@[simp] theorem fe_kept_lines_marks : (Str.ofString "kept_lines" = Str.ofString "marks") = False := eq_false (by decide +kernel)
@[simp] theorem fb_kept_lines_marks : (Str.ofString "kept_lines" == Str.ofString "marks") = false := by decide +kernel
@[simp] theorem fe_kept_lines_weights : (Str.ofString "kept_lines" = Str.ofString "weights") = False := eq_false (by decide +kernel)
@[simp] theorem fb_kept_lines_weights : (Str.ofString "kept_lines" == Str.ofString "weights") = false := by decide +kernel
@[simp] theorem fe_kept_lines_everywhere : (Str.ofString "kept_lines" = Str.ofString "everywhere") = False := eq_false (by decide +kernel)
@[simp] theorem fb_kept_lines_everywhere : (Str.ofString "kept_lines" == Str.ofString "everywhere") = false := by decide +kernel
@[simp] theorem fe_kept_lines_lines : (Str.ofString "kept_lines" = Str.ofString "lines") = False := eq_false (by decide +kernel)
@[simp] theorem fb_kept_lines_lines : (Str.ofString "kept_lines" == Str.ofString "lines") = false := by decide +kernel
@[simp] theorem fe_kept_lines_wish_lines : (Str.ofString "kept_lines" = Str.ofString "wish_lines") = False := eq_false (by decide +kernel)
@[simp] theorem fb_kept_lines_wish_lines : (Str.ofString "kept_lines" == Str.ofString "wish_lines") = false := by decide +kernel
theorem obF_c (n : Str) (a : Addr) (gs : List (PyData × PyData)) (r : Rho) : obF n (some (.ob a n gs) :: r) = some gs := if_pos rfl
@[simp] theorem fSlf_ob (n f : Str) (a : Addr) (gs : List (PyData × PyData)) (r : Rho) : fSlf n f (some (.ob a n gs) :: r) = lkF f gs := by unfold fSlf; rw [obF_c]; rfl
def fldO (f : Str) (a : Addr) (n : Str) (gs : List (PyData × PyData)) (r : Rho) : Option PyData → Option Out
  | some d => if gs.length < 100 then some (.nx (some (.ob a n (puF f d gs)) :: r)) else none
  | none => none
@[simp] theorem gFld_ob (n f : Str) (fe : Rho → Option PyData) (a : Addr) (gs : List (PyData × PyData)) (r : Rho) : gFld n f fe (some (.ob a n gs) :: r) = fldO f a n gs r (fe (some (.ob a n gs) :: r)) := by
  unfold gFld fldO
  cases fe (some (.ob a n gs) :: r) with
  | none => rfl
  | some d =>
    simp only [Option.bind_some, List.getElem?_cons_zero, List.set_cons_zero, true_and]
def ooO (k : Nat) (n : Str) (F : List PyData → Option PyData) (gs : List (PyData × PyData)) : Option (List PyData) → Option PyData
  | some ds => if ds.length + 1 = k then (match F (.dict ((.none, .str n) :: gs) :: ds) with
    | some d => if noD d = true then some d else none
    | none => none) else none
  | none => none
@[simp] theorem fCaO_ob (k : Nat) (n : Str) (F : List PyData → Option PyData) (fs : Rho → Option (List PyData)) (a : Addr) (gs : List (PyData × PyData)) (r : Rho) : fCaO k n F fs (some (.ob a n gs) :: r) = ooO k n F gs (fs (some (.ob a n gs) :: r)) := by
  unfold fCaO ooO
  cases fs (some (.ob a n gs) :: r) with
  | none => rfl
  | some ds =>
    rw [obF_c]
    simp only [Option.bind_some]
    split
    · cases F (.dict ((.none, .str n) :: gs) :: ds) <;> rfl
    · rfl
def mkO (nm : Str) (n : Nat) (F : List PyData → Option (List (PyData × PyData))) : Option (List PyData) → Option PyData
  | some ds => if ds.length + 1 = n then (F ds).map fun gs => .dict ((.none, .str nm) :: gs) else none
  | none => none
@[simp] theorem fMk_ap (nm : Str) (n : Nat) (F : List PyData → Option (List (PyData × PyData))) (fs : Rho → Option (List PyData)) (ρ : Rho) : fMk nm n F fs ρ = mkO nm n F (fs ρ) := by unfold fMk mkO; cases fs ρ <;> rfl
@[simp] theorem mkO_1 (nm : Str) (F : List PyData → Option (List (PyData × PyData))) (x : PyData) : mkO nm 2 F (some [x]) = (F [x]).map fun gs => .dict ((.none, .str nm) :: gs) := rfl

end Dn

namespace My
open PySem L2 Dn Gx
def top (i : Nat) : Stmt := PySem.Challenge.pw_soonsaid_k01_what_is_told.main.body.getD i (.Pass ⟨0, 0, 0, 0⟩)
structure Bl (mg : Str → Option Value) : Prop where
  all : mg "all" = none
  any : mg "any" = none
  bool : mg "bool" = none
  int : mg "int" = none
  isinstance : mg "isinstance" = none
  len : mg "len" = none
  max : mg "max" = none
  range : mg "range" = none
  set : mg "set" = none
  sorted : mg "sorted" = none
  str : mg "str" = none
  sum : mg "sum" = none
  tuple : mg "tuple" = none
  type : mg "type" = none
abbrev flPlan : List Str := ["wishes", "pasts", "marks", "weights", "everywhere", "lines", "wish_lines", "kept_lines"]
abbrev flTeller : List Str := ["_plan", "_state", "_marks", "_last", "_verdicts"]
section
variable [Tbs] {P : Program} {w : World} {K : PySem.W.Frag} {mg : Str → Option Value} {base : Heap}
abbrev sis_mark : Stmt := top 18
abbrev Nis_mark : List Str := ["thing"]
theorem scis_mark : FnScope Nis_mark ["thing"] (defScope sis_mark) := ⟨rfl, rfl, rfl, by decide +kernel, rfl, by decide +kernel, by decide +kernel⟩
def gis_mark : Rho → Option Out := (gRet (fAnd (f1 (tyEqD "str") (fV 0)) (fAnd (f2 (rb fun i j => decide (i ≤ j)) (fCl (one1 lenD) (fCons (fV 0) fNil)) (fC (.int 6))) (fAnyG false (fSeq (fV 0)) (b1 0) tYesD (f2 inP (fV 0) (fC (.str "abcdefghijklmnopqrstuvwxyz"))) [none]))))
theorem okis_mark {k : Nat} {c T : Addr} (hB : Bl mg) (hT : GxR.TabB base mg c T ∧ T ∈ Tbs.T) (D : DfG K mg "is_mark" sis_mark ["thing"] c)  (kMOST_LETTERS : Cn K mg "MOST_LETTERS" (.int 6)) (kLETTERS : Cn K mg "LETTERS" (.str "abcdefghijklmnopqrstuvwxyz")) : Kn P w K mg base (k + 2) 1 "is_mark" (fnD 1 (gis_mark )) := by
  refine kn_ofG (P := P) (w := w) (base := base) (N := Nis_mark) (ps := ["thing"]) (g := gis_mark ) D scis_mark fun f A outer s H E hr => ?_
  exact (psd_one (psd_ret (pd_and (pd_tyEq rfl hB.type (pd_v (pv 0)) (pe_bltn rfl hB.str (by decide +kernel) rfl) PySem.TypeEq.meta_str (nomark _)) (pd_and (pd_cmp op_le rd_rb (pd_bi call_lenD0 rc_len rfl hB.len (by decide +kernel) (pda_cons (pd_v (pv 0)) pda_nil)) (pd_gl kMOST_LETTERS) (nomark _)) (pd_one (pd_allG (N' := ["letter"]) (js := [none]) (own := [0]) gd_1 (by decide) (by decide) hr hT rfl (gscp_by (N := Nis_mark) (sc := defScope sis_mark) (by decide +kernel)) rfl hB.all (pdi_seq (pd_v (pv 0))) (fun _ _ _ _ _ _ _ hr => (pg_name (i := 0) (show (["letter"] : List Str).Nodup by decide +kernel) rfl (by first | exact Or.inl rfl | exact Or.inr rfl))) (fun _ _ _ _ _ _ _ hr => pdts_nil) (fun _ _ _ _ _ _ _ hr => (pd_cmp (op_inA (units65 hr)) rd_in (pd_v (pv 0)) (pd_gl kLETTERS) (by rfl)))))))))
abbrev sis_statement : Stmt := top 19
abbrev Nis_statement : List Str := ["thing"]
theorem scis_statement : FnScope Nis_statement ["thing"] (defScope sis_statement) := ⟨rfl, rfl, rfl, by decide +kernel, rfl, by decide +kernel, by decide +kernel⟩
def gis_statement (Fis_nested : List PyData → Option PyData) : Rho → Option Out := (gRet (fCa 2 Fis_nested (fCons (fV 0) (fCons (fC (.int 6)) fNil))))
theorem okis_statement {k : Nat} {Fis_nested : List PyData → Option PyData} (hB : Bl mg) (D : Df K mg "is_statement" sis_statement ["thing"]) (cis_nested : Kn P w K mg base k 2 "_is_nested" Fis_nested) (kMOST_NESTED : Cn K mg "MOST_NESTED" (.int 6)) : Kn P w K mg base (k + 1) 1 "is_statement" (fnD 1 (gis_statement Fis_nested)) := by
  refine kn_of (P := P) (w := w) (base := base) (N := Nis_statement) (ps := ["thing"]) (g := gis_statement Fis_nested) D scis_statement fun f cdv A outer s H E hr => ?_
  exact (psd_one (psd_ret (pd_kn cis_nested hr (pda_cons (pd_v (pv 0)) (pda_cons (pd_gl kMOST_NESTED) pda_nil)))))
abbrev sis_nested : Stmt := top 20
abbrev Nis_nested : List Str := ["thing", "most", "word"]
theorem scis_nested : FnScope Nis_nested ["thing", "most"] (defScope sis_nested) := ⟨rfl, rfl, rfl, by decide +kernel, rfl, by decide +kernel, by decide +kernel⟩
def gis_nested (Fis_mark : List PyData → Option PyData) (Fis_later : List PyData → Option PyData) (Fis_nested : List PyData → Option PyData) : Rho → Option Out := (gSeq (gIf (fOrT (fB (f2 eqP (fV 1) (fC (.int 0)))) (fOrT (fB (f1 (tyNeD "tuple") (fV 0))) (fB (f2 eqP (fCl (one1 lenD) (fCons (fV 0) fNil)) (fC (.int 0)))))) (gRet (fC (.bool false))) gNx) (gSeq (gSet 2 (f2 ixD (fV 0) (fC (.int 0)))) (gSeq (gIf (fB (f1 (tyNeD "str") (fV 2))) (gRet (fC (.bool false))) gNx) (gSeq (gIf (fB (f2 eqP (fV 2) (fC (.str "mark")))) (gRet (fAnd (f2 eqP (fCl (one1 lenD) (fCons (fV 0) fNil)) (fC (.int 2))) (fAnd (fCa 1 Fis_mark (fCons (f2 ixD (fV 0) (fC (.int 1))) fNil)) (f2 neP (f2 ixD (fV 0) (fC (.int 1))) (fC (.str "")))))) gNx) (gSeq (gIf (fB (f2 eqP (fV 2) (fC (.str "within")))) (gRet (fAnd (f2 eqP (fCl (one1 lenD) (fCons (fV 0) fNil)) (fC (.int 3))) (fAnd (fCa 1 Fis_later (fCons (f2 ixD (fV 0) (fC (.int 1))) fNil)) (fCa 2 Fis_nested (fCons (f2 ixD (fV 0) (fC (.int 2))) (fCons (f2 (ri fun i j => i - j) (fV 1) (fC (.int 1))) fNil)))))) gNx) (gSeq (gIf (fOrT (fB (f1 (niCD [("yes", (.int 0)), ("not", (.int 1)), ("and", (.int 2)), ("or", (.int 2)), ("next", (.int 1)), ("until", (.int 2)), ("before", (.int 1)), ("since", (.int 2))]) (fV 2))) (fB (f2 neP (fCl (one1 lenD) (fCons (fV 0) fNil)) (f2 addD (f1 (ixCD [("yes", (.int 0)), ("not", (.int 1)), ("and", (.int 2)), ("or", (.int 2)), ("next", (.int 1)), ("until", (.int 2)), ("before", (.int 1)), ("since", (.int 2))]) (fV 2)) (fC (.int 1)))))) (gRet (fC (.bool false))) gNx) (gRet (fAnyG false (fSeq (fSl (fV 0) (fO (fC (.int 1))) fO0)) (b1 0) tYesD (fCa 2 Fis_nested (fCons (fV 0) (fCons (f2 (ri fun i j => i - j) (fV 1) (fC (.int 1))) fNil))) [none, some 1]))))))))
theorem okis_nested {k : Nat} {c T : Addr} {Fis_mark : List PyData → Option PyData} {Fis_later : List PyData → Option PyData} {Fis_nested : List PyData → Option PyData} (hB : Bl mg) (hT : GxR.TabB base mg c T ∧ T ∈ Tbs.T) (D : DfG K mg "_is_nested" sis_nested ["thing", "most"] c) (cis_mark : Kn P w K mg base k 1 "is_mark" Fis_mark) (cis_later : Kn P w K mg base k 1 "_is_later" Fis_later) (cis_nested : Kn P w K mg base k 2 "_is_nested" Fis_nested) (kPARTS : Cd K w mg "PARTS" [("yes", (.int 0)), ("not", (.int 1)), ("and", (.int 2)), ("or", (.int 2)), ("next", (.int 1)), ("until", (.int 2)), ("before", (.int 1)), ("since", (.int 2))]) : Kn P w K mg base (k + 2) 2 "_is_nested" (fnD 3 (gis_nested Fis_mark Fis_later Fis_nested)) := by
  refine kn_ofG (P := P) (w := w) (base := base) (N := Nis_nested) (ps := ["thing", "most"]) (g := gis_nested Fis_mark Fis_later Fis_nested) D scis_nested fun f A outer s H E hr => ?_
  exact (psd_cons (psd_if (pdt_w (pdw_or (pdt_cmp (op_eqA hr.units) rd_eq (pd_v (pv 1)) pd_int (nomark _)) (pdw_or (pdt_tyNe rfl hB.type (pd_v (pv 0)) (pe_bltn rfl hB.tuple (by decide +kernel) rfl) PySem.TypeEq.meta_tuple (nomark _)) (pdw_or1 (pdt_cmp (op_eqA hr.units) rd_eq (pd_bi call_lenD0 rc_len rfl hB.len (by decide +kernel) (pda_cons (pd_v (pv 0)) pda_nil)) pd_int (nomark _)))))) (psd_one (psd_ret pd_bl)) psd_nil) (psd_cons (psd_asg (ps_set (i := 2) scis_nested.nd rfl (by first | exact Or.inl rfl | exact Or.inr rfl) (pd_ix (pd_v (pv 0)) pd_int (fun _ _ => rfl)))) (psd_cons (psd_if (pdt_tyNe rfl hB.type (pd_v (pv 2)) (pe_bltn rfl hB.str (by decide +kernel) rfl) PySem.TypeEq.meta_str (nomark _)) (psd_one (psd_ret pd_bl)) psd_nil) (psd_cons (psd_if (pdt_cmp (op_eqA hr.units) rd_eq (pd_v (pv 2)) pd_str (nomark _)) (psd_one (psd_ret (pd_and (pd_cmp (op_eqA hr.units) rd_eq (pd_bi call_lenD0 rc_len rfl hB.len (by decide +kernel) (pda_cons (pd_v (pv 0)) pda_nil)) pd_int (nomark _)) (pd_and (pd_kn (cis_mark.mono (Nat.le_succ _)) hr (pda_cons (pd_ix (pd_v (pv 0)) pd_int (fun _ _ => rfl)) pda_nil)) (pd_one (pd_cmp (op_neA hr.units) rd_ne (pd_ix (pd_v (pv 0)) pd_int (fun _ _ => rfl)) pd_str (nomark _))))))) psd_nil) (psd_cons (psd_if (pdt_cmp (op_eqA hr.units) rd_eq (pd_v (pv 2)) pd_str (nomark _)) (psd_one (psd_ret (pd_and (pd_cmp (op_eqA hr.units) rd_eq (pd_bi call_lenD0 rc_len rfl hB.len (by decide +kernel) (pda_cons (pd_v (pv 0)) pda_nil)) pd_int (nomark _)) (pd_and (pd_kn (cis_later.mono (Nat.le_succ _)) hr (pda_cons (pd_ix (pd_v (pv 0)) pd_int (fun _ _ => rfl)) pda_nil)) (pd_one (pd_kn (cis_nested.mono (Nat.le_succ _)) hr (pda_cons (pd_ix (pd_v (pv 0)) pd_int (fun _ _ => rfl)) (pda_cons (pd_op op_sub rd_sub (pd_v (pv 1)) pd_int) pda_nil)))))))) psd_nil) (psd_cons (psd_if (pdt_w (pdw_or (pdt_niC kPARTS (pd_v (pv 2))) (pdw_or1 (pdt_cmp (op_neA hr.units) rd_ne (pd_bi call_lenD0 rc_len rfl hB.len (by decide +kernel) (pda_cons (pd_v (pv 0)) pda_nil)) (pd_op op_addD rd_add (pd_ixC kPARTS (pd_v (pv 2)) (fun _ _ => rfl)) pd_int) (nomark _))))) (psd_one (psd_ret pd_bl)) psd_nil) (psd_one (psd_ret (pd_allG (N' := ["part", "most"]) (js := [none, some 1]) (own := [0]) gd_1 (by decide) (by decide) hr hT rfl (gscp_by (N := Nis_nested) (sc := defScope sis_nested) (by decide +kernel)) rfl hB.all (pdi_seq (pd_sl (pd_v (pv 0)) (pdo_some pd_int) pdo_none)) (fun _ _ _ _ _ _ _ hr => (pg_name (i := 0) (show (["part", "most"] : List Str).Nodup by decide +kernel) rfl (by first | exact Or.inl rfl | exact Or.inr rfl))) (fun _ _ _ _ _ _ _ hr => pdts_nil) (fun _ _ _ _ _ _ _ hr => (pd_kn cis_nested hr (pda_cons (pd_v (pv 0)) (pda_cons (pd_op op_sub rd_sub (pd_v (pv 1)) pd_int) pda_nil)))))))))))))
abbrev sis_later : Stmt := top 21
abbrev Nis_later : List Str := ["thing"]
theorem scis_later : FnScope Nis_later ["thing"] (defScope sis_later) := ⟨rfl, rfl, rfl, by decide +kernel, rfl, by decide +kernel, by decide +kernel⟩
def gis_later : Rho → Option Out := (gRet (fAnd (f1 (tyEqD "int") (fV 0)) (fCh (rb fun i j => decide (i ≤ j)) (rb fun i j => decide (i ≤ j)) (fC (.int 0)) (fV 0) (fC (.int 4)))))
theorem okis_later {k : Nat} (hB : Bl mg) (D : Df K mg "_is_later" sis_later ["thing"])  (kMOST_LATER : Cn K mg "MOST_LATER" (.int 4)) : Kn P w K mg base (k + 1) 1 "_is_later" (fnD 1 (gis_later )) := by
  refine kn_of (P := P) (w := w) (base := base) (N := Nis_later) (ps := ["thing"]) (g := gis_later ) D scis_later fun f cdv A outer s H E hr => ?_
  exact (psd_one (psd_ret (pd_and (pd_tyEq rfl hB.type (pd_v (pv 0)) (pe_bltn rfl hB.int (by decide +kernel) rfl) PySem.TypeEq.meta_int (nomark _)) (pd_one (pd_chain op_le rd_rb op_le rd_rb pd_int (pd_v (pv 0)) (pd_gl kMOST_LATER))))))
abbrev sparts_of : Stmt := top 22
abbrev Nparts_of : List Str := ["statement", "part"]
theorem scparts_of : FnScope Nparts_of ["statement"] (defScope sparts_of) := ⟨rfl, rfl, rfl, by decide +kernel, rfl, by decide +kernel, by decide +kernel⟩
def gparts_of : Rho → Option Out := (gRet (fLc (fSeq (fSl (fV 0) (fO (fC (.int 1))) fO0)) (b1 1) (fB (f1 (isiD "tuple") (fV 1))) (fV 1) [1]))
theorem okparts_of {k : Nat} (hB : Bl mg) (D : Df K mg "parts_of" sparts_of ["statement"])  : Kn P w K mg base (k + 1) 1 "parts_of" (fnD 2 (gparts_of )) := by
  refine kn_of (P := P) (w := w) (base := base) (N := Nparts_of) (ps := ["statement"]) (g := gparts_of ) D scparts_of fun f cdv A outer s H E hr => ?_
  exact (psd_one (psd_ret (pd_lc gd_1 (by decide) rfl scparts_of.nd (pdi_seq (pd_sl (pd_v (pv 0)) (pdo_some pd_int) pdo_none)) (blkOk_by (N := Nparts_of) (sc := defScope sparts_of) (own := [("part", 1)]) (by decide +kernel)) (fun _ _ _ _ _ => (pg_name (i := 1) scparts_of.nd rfl (by first | exact Or.inl rfl | exact Or.inr rfl))) (fun _ _ _ _ _ => pdts_one (pdt_val (pd_isi rfl hB.isinstance (pd_v (pv 1)) (pe_bltn rfl hB.tuple (by decide +kernel) rfl)))) (fun _ _ _ _ _ => (pd_v (pv 1))))))
abbrev sstanding_in : Stmt := top 23
abbrev Nstanding_in : List Str := ["statement", "found", "part"]
theorem scstanding_in : FnScope Nstanding_in ["statement"] (defScope sstanding_in) := ⟨rfl, rfl, rfl, by decide +kernel, rfl, by decide +kernel, by decide +kernel⟩
def gstanding_in (Fparts_of : List PyData → Option PyData) (Fstanding_in : List PyData → Option PyData) : Rho → Option Out := (gSeq (gOwn 1 fNil) (gSeq (gFor (fSeq (fCa 1 Fparts_of (fCons (fV 0) fNil))) (b1 2) (gExt 1 (fCa 1 Fstanding_in (fCons (fV 2) fNil)))) (gSeq (gApp 1 (fV 0)) (fun ρ => (gRet (fV 1)) (frz 1 ρ)))))
theorem okstanding_in {k : Nat} {Fparts_of : List PyData → Option PyData} {Fstanding_in : List PyData → Option PyData} (hB : Bl mg) (D : Df K mg "standing_in" sstanding_in ["statement"]) (cparts_of : Kn P w K mg base k 1 "parts_of" Fparts_of) (cstanding_in : Kn P w K mg base k 1 "standing_in" Fstanding_in) : Kn P w K mg base (k + 1) 1 "standing_in" (fnD 3 (gstanding_in Fparts_of Fstanding_in)) := by
  refine kn_of (P := P) (w := w) (base := base) (N := Nstanding_in) (ps := ["statement"]) (g := gstanding_in Fparts_of Fstanding_in) D scstanding_in fun f cdv A outer s H E hr => ?_
  exact (psd_cons (psd_own (ps_set (i := 1) scstanding_in.nd rfl (by first | exact Or.inl rfl | exact Or.inr rfl) (pe_lst pda_nil))) (psd_cons (psd_for gd_1 PassesOwn.never rfl (pdi_seq (pd_kn cparts_of hr (pda_cons (pd_v (pv 0)) pda_nil))) (pg_name (i := 2) scstanding_in.nd rfl (by first | exact Or.inl rfl | exact Or.inr rfl)) (psd_one (psd_ext (ps_expr (pe_bm PySem.F.plainAttrs_list PySem.F.slot_list_extend PySem.F.type_list_extend mt_extG (pv 1) (pa_cons (pd_kn cstanding_in hr (pda_cons (pd_v (pv 2)) pda_nil)) pa_nil)))))) (psd_cons (psd_app (ps_expr (pe_bm PySem.F.plainAttrs_list PySem.F.slot_list_append PySem.F.type_list_append mt_append (pv 1) (pa_cons (pd_v (pv 0)) pa_nil)))) (psd_one (psd_frz 1 (psd_ret (pd_v (pv 1))))))))
abbrev seach_once : Stmt := top 24
abbrev Neach_once : List Str := ["statements", "found", "statement"]
theorem sceach_once : FnScope Neach_once ["statements"] (defScope seach_once) := ⟨rfl, rfl, rfl, by decide +kernel, rfl, by decide +kernel, by decide +kernel⟩
def geach_once : Rho → Option Out := (gSeq (gOwn 1 fNil) (gSeq (gFor (fSeq (fV 0)) (b1 2) (gIf (fB (fO2 niP (fV 2) (fOwn 1))) (gApp 1 (fV 2)) gNx)) (gRetO 1)))
theorem okeach_once {k : Nat} (hB : Bl mg) (D : Df K mg "each_once" seach_once ["statements"])  : KnF P w K mg base (k + 1) 1 "each_once" (fnF 3 (geach_once )) := by
  refine knF_of (P := P) (w := w) (base := base) (N := Neach_once) (ps := ["statements"]) (g := geach_once ) D sceach_once fun f cdv A outer s H E hr => ?_
  exact (psd_cons (psd_own (ps_set (i := 1) sceach_once.nd rfl (by first | exact Or.inl rfl | exact Or.inr rfl) (pe_lst pda_nil))) (psd_cons (psd_for gd_1 PassesOwn.never rfl (pdi_seq (pd_v (pv 0))) (pg_name (i := 2) sceach_once.nd rfl (by first | exact Or.inl rfl | exact Or.inr rfl)) (psd_one (psd_if (pdt_cmpO (op_niA (units65 hr)) rd_ni (pd_v (pv 2)) (pv 1) (by rfl)) (psd_one (psd_app (ps_expr (pe_bm PySem.F.plainAttrs_list PySem.F.slot_list_append PySem.F.type_list_append mt_append (pv 1) (pa_cons (pd_v (pv 2)) pa_nil))))) psd_nil))) (psd_one (psd_retO (pv 1)))))
abbrev slooks_ahead : Stmt := top 25
abbrev Nlooks_ahead : List Str := ["statement"]
theorem sclooks_ahead : FnScope Nlooks_ahead ["statement"] (defScope slooks_ahead) := ⟨rfl, rfl, rfl, by decide +kernel, rfl, by decide +kernel, by decide +kernel⟩
def glooks_ahead (Fstanding_in : List PyData → Option PyData) : Rho → Option Out := (gRet (fAnyG true (fSeq (fCa 1 Fstanding_in (fCons (fV 0) fNil))) (b1 0) tYesD (f2 inP (f2 ixD (fV 0) (fC (.int 0))) (fC (.tuple [(.str "next"), (.str "until"), (.str "within")]))) [none]))
theorem oklooks_ahead {k : Nat} {c T : Addr} {Fstanding_in : List PyData → Option PyData} (hB : Bl mg) (hT : GxR.TabB base mg c T ∧ T ∈ Tbs.T) (D : DfG K mg "looks_ahead" slooks_ahead ["statement"] c) (cstanding_in : Kn P w K mg base k 1 "standing_in" Fstanding_in) (kAHEAD : Cn K mg "AHEAD" (.tuple [(.str "next"), (.str "until"), (.str "within")])) : Kn P w K mg base (k + 2) 1 "looks_ahead" (fnD 1 (glooks_ahead Fstanding_in)) := by
  refine kn_ofG (P := P) (w := w) (base := base) (N := Nlooks_ahead) (ps := ["statement"]) (g := glooks_ahead Fstanding_in) D sclooks_ahead fun f A outer s H E hr => ?_
  exact (psd_one (psd_ret (pd_anyG (N' := ["part"]) (js := [none]) (own := [0]) gd_1 (by decide) (by decide) hr hT rfl (gscp_by (N := Nlooks_ahead) (sc := defScope slooks_ahead) (by decide +kernel)) rfl hB.any (pdi_seq (pd_kn (cstanding_in.mono (Nat.le_succ _)) hr (pda_cons (pd_v (pv 0)) pda_nil))) (fun _ _ _ _ _ _ _ hr => (pg_name (i := 0) (show (["part"] : List Str).Nodup by decide +kernel) rfl (by first | exact Or.inl rfl | exact Or.inr rfl))) (fun _ _ _ _ _ _ _ hr => pdts_nil) (fun _ _ _ _ _ _ _ hr => (pd_cmp (op_inA (units65 hr)) rd_in (pd_ix (pd_v (pv 0)) pd_int (fun _ _ => rfl)) (pd_gl kAHEAD) (by rfl))))))
abbrev spasts_in : Stmt := top 26
abbrev Npasts_in : List Str := ["statement", "part"]
theorem scpasts_in : FnScope Npasts_in ["statement"] (defScope spasts_in) := ⟨rfl, rfl, rfl, by decide +kernel, rfl, by decide +kernel, by decide +kernel⟩
def gpasts_in (Fstanding_in : List PyData → Option PyData) (Feach_once : List PyData → Option (List PyData)) : Rho → Option Out := (gRetF (fCaF 1 Feach_once (fCons (fLc (fSeq (fCa 1 Fstanding_in (fCons (fV 0) fNil))) (b1 1) (fB (f2 inP (f2 ixD (fV 1) (fC (.int 0))) (fC (.tuple [(.str "before"), (.str "since")])))) (fV 1) [1]) fNil)))
theorem okpasts_in {k : Nat} {Fstanding_in : List PyData → Option PyData} {Feach_once : List PyData → Option (List PyData)} (hB : Bl mg) (D : Df K mg "pasts_in" spasts_in ["statement"]) (cstanding_in : Kn P w K mg base k 1 "standing_in" Fstanding_in) (ceach_once : KnF P w K mg base k 1 "each_once" Feach_once) (kPAST : Cn K mg "PAST" (.tuple [(.str "before"), (.str "since")])) : KnF P w K mg base (k + 1) 1 "pasts_in" (fnF 2 (gpasts_in Fstanding_in Feach_once)) := by
  refine knF_of (P := P) (w := w) (base := base) (N := Npasts_in) (ps := ["statement"]) (g := gpasts_in Fstanding_in Feach_once) D scpasts_in fun f cdv A outer s H E hr => ?_
  exact (psd_one (psd_retF (pdf_kn ceach_once hr (pda_cons (pd_lc gd_1 (by decide) rfl scpasts_in.nd (pdi_seq (pd_kn cstanding_in hr (pda_cons (pd_v (pv 0)) pda_nil))) (blkOk_by (N := Npasts_in) (sc := defScope spasts_in) (own := [("part", 1)]) (by decide +kernel)) (fun _ _ _ _ _ => (pg_name (i := 1) scpasts_in.nd rfl (by first | exact Or.inl rfl | exact Or.inr rfl))) (fun _ _ _ _ _ => pdts_one (pdt_cmp (op_inA (units65 hr)) rd_in (pd_ix (pd_v (pv 1)) pd_int (fun _ _ => rfl)) (pd_gl kPAST) (by rfl))) (fun _ _ _ _ _ => (pd_v (pv 1)))) pda_nil))))
abbrev sis_mixed : Stmt := top 27
abbrev Nis_mixed : List Str := ["statement"]
theorem scis_mixed : FnScope Nis_mixed ["statement"] (defScope sis_mixed) := ⟨rfl, rfl, rfl, by decide +kernel, rfl, by decide +kernel, by decide +kernel⟩
def gis_mixed (Fpasts_in : List PyData → Option (List PyData)) (Flooks_ahead : List PyData → Option PyData) : Rho → Option Out := (gRet (fAnyG true (fSeq (fCa 1 (ofF Fpasts_in) (fCons (fV 0) fNil))) (b1 0) tYesD (fCa 1 Flooks_ahead (fCons (fV 0) fNil)) [none]))
theorem okis_mixed {k : Nat} {c T : Addr} {Fpasts_in : List PyData → Option (List PyData)} {Flooks_ahead : List PyData → Option PyData} (hB : Bl mg) (hT : GxR.TabB base mg c T ∧ T ∈ Tbs.T) (D : DfG K mg "is_mixed" sis_mixed ["statement"] c) (cpasts_in : KnF P w K mg base k 1 "pasts_in" Fpasts_in) (clooks_ahead : Kn P w K mg base k 1 "looks_ahead" Flooks_ahead) : Kn P w K mg base (k + 2) 1 "is_mixed" (fnD 1 (gis_mixed Fpasts_in Flooks_ahead)) := by
  refine kn_ofG (P := P) (w := w) (base := base) (N := Nis_mixed) (ps := ["statement"]) (g := gis_mixed Fpasts_in Flooks_ahead) D scis_mixed fun f A outer s H E hr => ?_
  exact (psd_one (psd_ret (pd_anyG (N' := ["past"]) (js := [none]) (own := [0]) gd_1 (by decide) (by decide) hr hT rfl (gscp_by (N := Nis_mixed) (sc := defScope sis_mixed) (by decide +kernel)) rfl hB.any (pdi_seq (pd_kn (cpasts_in.mono (Nat.le_succ _)).kn hr (pda_cons (pd_v (pv 0)) pda_nil))) (fun _ _ _ _ _ _ _ hr => (pg_name (i := 0) (show (["past"] : List Str).Nodup by decide +kernel) rfl (by first | exact Or.inl rfl | exact Or.inr rfl))) (fun _ _ _ _ _ _ _ hr => pdts_nil) (fun _ _ _ _ _ _ _ hr => (pd_kn clooks_ahead hr (pda_cons (pd_v (pv 0)) pda_nil))))))
abbrev smarks_in : Stmt := top 28
abbrev Nmarks_in : List Str := ["statement", "named", "part"]
theorem scmarks_in : FnScope Nmarks_in ["statement"] (defScope smarks_in) := ⟨rfl, rfl, rfl, by decide +kernel, rfl, by decide +kernel, by decide +kernel⟩
def gmarks_in (Fstanding_in : List PyData → Option PyData) : Rho → Option Out := (gSeq (gSet 1 (fLc (fSeq (fCa 1 Fstanding_in (fCons (fV 0) fNil))) (b1 2) (fB (f2 eqP (f2 ixD (fV 2) (fC (.int 0))) (fC (.str "mark")))) (f2 ixD (fV 2) (fC (.int 1))) [2])) (gRetF (f1F ssF (f2 addD (fV 1) (fLst (fCons (fC (.str "")) fNil))))))
theorem okmarks_in {k : Nat} {Fstanding_in : List PyData → Option PyData} (hB : Bl mg) (D : Df K mg "marks_in" smarks_in ["statement"]) (cstanding_in : Kn P w K mg base k 1 "standing_in" Fstanding_in) : KnF P w K mg base (k + 1) 1 "marks_in" (fnF 3 (gmarks_in Fstanding_in)) := by
  refine knF_of (P := P) (w := w) (base := base) (N := Nmarks_in) (ps := ["statement"]) (g := gmarks_in Fstanding_in) D scmarks_in fun f cdv A outer s H E hr => ?_
  exact (psd_cons (psd_setLc (i := 1) gd_1 (by decide) rfl scmarks_in.nd rfl rfl (sw_true rfl rfl rfl (by decide +kernel)) (pdi_seq (pd_kn cstanding_in hr (pda_cons (pd_v (pv 0)) pda_nil))) (blkOk_by (N := Nmarks_in) (sc := defScope smarks_in) (own := [("part", 2)]) (by decide +kernel)) (fun _ _ _ _ _ => (pg_name (i := 2) scmarks_in.nd rfl (by first | exact Or.inl rfl | exact Or.inr rfl))) (fun _ _ _ _ _ => pdts_one (pdt_cmp (op_eqA hr.units) rd_eq (pd_ix (pd_v (pv 2)) pd_int (fun _ _ => rfl)) pd_str (nomark _))) (fun _ _ _ _ _ => (pd_ix (pd_v (pv 2)) pd_int (fun _ _ => rfl)))) (psd_one (psd_retF (pdf_ss rfl rfl hB.sorted rfl hB.set (pd_op op_addD rd_add (pd_v (pv 1)) (pd_lst (pda_cons pd_str pda_nil)))))))
abbrev sawaited : Stmt := top 29
abbrev Nawaited : List Str := ["statement", "word"]
theorem scawaited : FnScope Nawaited ["statement"] (defScope sawaited) := ⟨rfl, rfl, rfl, by decide +kernel, rfl, by decide +kernel, by decide +kernel⟩
def gawaited : Rho → Option Out := (gSeq (gSet 1 (f2 ixD (fV 0) (fC (.int 0)))) (gSeq (gIf (fB (f2 eqP (fV 1) (fC (.str "next")))) (gRetF (fFl (fCons (f2 ixD (fV 0) (fC (.int 1))) fNil))) gNx) (gSeq (gIf (fB (f2 eqP (fV 1) (fC (.str "until")))) (gRetF (fFl (fCons (fV 0) fNil))) gNx) (gSeq (gIf (fAndT (fB (f2 eqP (fV 1) (fC (.str "within")))) (fB (f2 (rb fun i j => decide (j < i)) (f2 ixD (fV 0) (fC (.int 1))) (fC (.int 0))))) (gRetF (fFl (fCons (fTup (fCons (fC (.str "within")) (fCons (f2 (ri fun i j => i - j) (f2 ixD (fV 0) (fC (.int 1))) (fC (.int 1))) (fCons (f2 ixD (fV 0) (fC (.int 2))) fNil)))) fNil))) gNx) (gRetF (fFl fNil))))))
theorem okawaited {k : Nat} (hB : Bl mg) (D : Df K mg "awaited" sawaited ["statement"])  : KnF P w K mg base (k + 1) 1 "awaited" (fnF 2 (gawaited )) := by
  refine knF_of (P := P) (w := w) (base := base) (N := Nawaited) (ps := ["statement"]) (g := gawaited ) D scawaited fun f cdv A outer s H E hr => ?_
  exact (psd_cons (psd_asg (ps_set (i := 1) scawaited.nd rfl (by first | exact Or.inl rfl | exact Or.inr rfl) (pd_ix (pd_v (pv 0)) pd_int (fun _ _ => rfl)))) (psd_cons (psd_if (pdt_cmp (op_eqA hr.units) rd_eq (pd_v (pv 1)) pd_str (nomark _)) (psd_one (psd_retF (pdf_lst (pda_cons (pd_ix (pd_v (pv 0)) pd_int (fun _ _ => rfl)) pda_nil)))) psd_nil) (psd_cons (psd_if (pdt_cmp (op_eqA hr.units) rd_eq (pd_v (pv 1)) pd_str (nomark _)) (psd_one (psd_retF (pdf_lst (pda_cons (pd_v (pv 0)) pda_nil)))) psd_nil) (psd_cons (psd_if (pdt_w (pdw_and (pdt_cmp (op_eqA hr.units) rd_eq (pd_v (pv 1)) pd_str (nomark _)) (pdw_and1 (pdt_cmp op_gt rd_rb (pd_ix (pd_v (pv 0)) pd_int (fun _ _ => rfl)) pd_int (nomark _))))) (psd_one (psd_retF (pdf_lst (pda_cons (pd_tup (pda_cons pd_str (pda_cons (pd_op op_sub rd_sub (pd_ix (pd_v (pv 0)) pd_int (fun _ _ => rfl)) pd_int) (pda_cons (pd_ix (pd_v (pv 0)) pd_int (fun _ _ => rfl)) pda_nil)))) pda_nil)))) psd_nil) (psd_one (psd_retF (pdf_lst pda_nil)))))))
abbrev shung_on : Stmt := top 30
abbrev Nhung_on : List Str := ["statement", "found", "part"]
theorem schung_on : FnScope Nhung_on ["statement"] (defScope shung_on) := ⟨rfl, rfl, rfl, by decide +kernel, rfl, by decide +kernel, by decide +kernel⟩
def ghung_on (Fawaited : List PyData → Option (List PyData)) (Fparts_of : List PyData → Option PyData) (Fhung_on : List PyData → Option (List PyData)) : Rho → Option Out := (gSeq (gOwnF 1 (fCaF 1 Fawaited (fCons (fV 0) fNil))) (gSeq (gIf (fB (f2 neP (f2 ixD (fV 0) (fC (.int 0))) (fC (.str "next")))) (gFor (fSeq (fCa 1 Fparts_of (fCons (fV 0) fNil))) (b1 2) (gExt 1 (fCa 1 (ofF Fhung_on) (fCons (fV 2) fNil)))) gNx) (gRetO 1)))
theorem okhung_on {k : Nat} {Fawaited : List PyData → Option (List PyData)} {Fparts_of : List PyData → Option PyData} {Fhung_on : List PyData → Option (List PyData)} (hB : Bl mg) (D : Df K mg "hung_on" shung_on ["statement"]) (cawaited : KnF P w K mg base k 1 "awaited" Fawaited) (cparts_of : Kn P w K mg base k 1 "parts_of" Fparts_of) (chung_on : KnF P w K mg base k 1 "hung_on" Fhung_on) : KnF P w K mg base (k + 1) 1 "hung_on" (fnF 3 (ghung_on Fawaited Fparts_of Fhung_on)) := by
  refine knF_of (P := P) (w := w) (base := base) (N := Nhung_on) (ps := ["statement"]) (g := ghung_on Fawaited Fparts_of Fhung_on) D schung_on fun f cdv A outer s H E hr => ?_
  exact (psd_cons (psd_ownF (ps_set (i := 1) schung_on.nd rfl (by first | exact Or.inl rfl | exact Or.inr rfl) (pdf_kn cawaited hr (pda_cons (pd_v (pv 0)) pda_nil)))) (psd_cons (psd_if (pdt_cmp (op_neA hr.units) rd_ne (pd_ix (pd_v (pv 0)) pd_int (fun _ _ => rfl)) pd_str (nomark _)) (psd_one (psd_for gd_1 PassesOwn.never rfl (pdi_seq (pd_kn cparts_of hr (pda_cons (pd_v (pv 0)) pda_nil))) (pg_name (i := 2) schung_on.nd rfl (by first | exact Or.inl rfl | exact Or.inr rfl)) (psd_one (psd_ext (ps_expr (pe_bm PySem.F.plainAttrs_list PySem.F.slot_list_extend PySem.F.type_list_extend mt_extG (pv 1) (pa_cons (pd_kn chung_on.kn hr (pda_cons (pd_v (pv 2)) pda_nil)) pa_nil))))))) psd_nil) (psd_one (psd_retO (pv 1)))))
abbrev swishes_in : Stmt := top 31
abbrev Nwishes_in : List Str := ["statement", "wishes", "done"]
theorem scwishes_in : FnScope Nwishes_in ["statement"] (defScope swishes_in) := ⟨rfl, rfl, rfl, by decide +kernel, rfl, by decide +kernel, by decide +kernel⟩
def gwishes_in (Fhung_on : List PyData → Option (List PyData)) (Feach_once : List PyData → Option (List PyData)) : Rho → Option Out := (gSeq (gOwn 1 (fCons (fV 0) fNil)) (gSeq (gSet 2 (fC (.int 0))) (gSeq (whileGo (fB (f2 (rb fun i j => decide (i < j)) (fV 2) (f1 (flatG lenD) (fOwn 1)))) (gSeq (fun ρ => (gOwnF 1 (fCaF 1 Feach_once (fCons (f2 addD (fV 1) (fCa 1 (ofF Fhung_on) (fCons (f2 ixD (fV 1) (fV 2)) fNil))) fNil))) (frz 1 ρ)) (gAug 2 (fun i j => i + j) (fC (.int 1)))) 1000) (gRetO 1))))
theorem okwishes_in {k : Nat} {Fhung_on : List PyData → Option (List PyData)} {Feach_once : List PyData → Option (List PyData)} (hB : Bl mg) (D : Df K mg "wishes_in" swishes_in ["statement"]) (chung_on : KnF P w K mg base k 1 "hung_on" Fhung_on) (ceach_once : KnF P w K mg base k 1 "each_once" Feach_once) : KnF P w K mg base (k + 1) 1 "wishes_in" (fnF 3 (gwishes_in Fhung_on Feach_once)) := by
  refine knF_of (P := P) (w := w) (base := base) (N := Nwishes_in) (ps := ["statement"]) (g := gwishes_in Fhung_on Feach_once) D scwishes_in fun f cdv A outer s H E hr => ?_
  exact (psd_cons (psd_own (ps_set (i := 1) scwishes_in.nd rfl (by first | exact Or.inl rfl | exact Or.inr rfl) (pe_lst (pda_cons (pd_v (pv 0)) pda_nil)))) (psd_cons (psd_asg (ps_set (i := 2) scwishes_in.nd rfl (by first | exact Or.inl rfl | exact Or.inr rfl) pd_int)) (psd_cons (psd_while 1000 PassesOwn.never (pdt_cmp op_lt rd_rb (pd_v (pv 2)) (pd_biO call_lenD0 rc_len rfl hB.len PySem.boot_len (pv 1)) (nomark _)) (psd_cons (psd_frz 1 (psd_ownF (ps_set (i := 1) scwishes_in.nd rfl (by first | exact Or.inl rfl | exact Or.inr rfl) (pdf_kn ceach_once hr (pda_cons (pd_op op_addD rd_add (pd_v (pv 1)) (pd_kn chung_on.kn hr (pda_cons (pd_ix (pd_v (pv 1)) (pd_v (pv 2)) (fun _ _ => rfl)) pda_nil))) pda_nil))))) (psd_one (psd_aug (ps_aug scwishes_in.nd rfl (by first | exact Or.inl rfl | exact Or.inr rfl) pd_int ip_add))))) (psd_one (psd_retO (pv 1))))))
abbrev sneed_told : Stmt := top 32
abbrev Nneed_told : List Str := ["statement"]
theorem scneed_told : FnScope Nneed_told ["statement"] (defScope sneed_told) := ⟨rfl, rfl, rfl, by decide +kernel, rfl, by decide +kernel, by decide +kernel⟩
def gneed_told (Fis_statement : List PyData → Option PyData) (Fis_mixed : List PyData → Option PyData) (Fwishes_in : List PyData → Option (List PyData)) : Rho → Option (Except Str Out) := (gSeqX (gIfX (fNotT (fB (fCa 1 Fis_statement (fCons (fV 0) fNil)))) (gRaise "BadStatement") (gOk gNx)) (gSeqX (gIfX (fB (fCa 1 Fis_mixed (fCons (fV 0) fNil))) (gRaise "Mixed") (gOk gNx)) (gSeqX (gIfX (fB (f2 (rb fun i j => decide (j < i)) (fCl (one1 lenD) (fCons (fCa 1 (ofF Fwishes_in) (fCons (fV 0) fNil)) fNil)) (fC (.int 6)))) (gRaise "TooMany") (gOk gNx)) (gOk (gRet (fV 0))))))
theorem okneed_told {k : Nat} {Fis_statement : List PyData → Option PyData} {Fis_mixed : List PyData → Option PyData} {Fwishes_in : List PyData → Option (List PyData)} (hB : Bl mg) (D : Df K mg "need_told" sneed_told ["statement"]) (cis_statement : Kn P w K mg base k 1 "is_statement" Fis_statement) (cis_mixed : Kn P w K mg base k 1 "is_mixed" Fis_mixed) (cwishes_in : KnF P w K mg base k 1 "wishes_in" Fwishes_in) (kMOST_WISHES : Cn K mg "MOST_WISHES" (.int 6)) (XBadStatement : ExF K mg "BadStatement" [.type "ValueError", .type "Exception", .type "BaseException", .type "object"]) (XMixed : ExF K mg "Mixed" [.type "ValueError", .type "Exception", .type "BaseException", .type "object"]) (XTooMany : ExF K mg "TooMany" [.type "ValueError", .type "Exception", .type "BaseException", .type "object"]) : KnX P w K mg base (k + 1) 1 "need_told" (fnX 1 (gneed_told Fis_statement Fis_mixed Fwishes_in)) := by
  refine knX_of (P := P) (w := w) (base := base) (N := Nneed_told) (ps := ["statement"]) (g := gneed_told Fis_statement Fis_mixed Fwishes_in) D scneed_told fun f cdv A outer s H E hr => ?_
  exact (psx_cons (psx_if (pdt_not (pdt_val (pd_kn cis_statement hr (pda_cons (pd_v (pv 0)) pda_nil)))) (psx_one (psx_raise rfl (takes_of rfl rfl rfl rfl) XBadStatement rfl)) psx_nil) (psx_cons (psx_if (pdt_val (pd_kn cis_mixed hr (pda_cons (pd_v (pv 0)) pda_nil))) (psx_one (psx_raise rfl (takes_of rfl rfl rfl rfl) XMixed rfl)) psx_nil) (psx_cons (psx_if (pdt_cmp op_gt rd_rb (pd_bi call_lenD0 rc_len rfl hB.len (by decide +kernel) (pda_cons (pd_kn cwishes_in.kn hr (pda_cons (pd_v (pv 0)) pda_nil)) pda_nil)) (pd_gl kMOST_WISHES) (nomark _)) (psx_one (psx_raise rfl (takes_of rfl rfl rfl rfl) XTooMany rfl)) psx_nil) (psx_one (psx_of (psd_ret (pd_v (pv 0))))))))
abbrev sPlan : Stmt := inClass (top 34) 0
abbrev NPlan : List Str := ["self", "statement", "number", "standing", "wish", "part", "past"]
theorem scPlan : FnScope NPlan ["self", "statement"] (defScope sPlan) := ⟨rfl, rfl, rfl, by decide +kernel, rfl, by decide +kernel, by decide +kernel⟩
def gPlan (Fwishes_in : List PyData → Option (List PyData)) (Fpasts_in : List PyData → Option (List PyData)) (Fmarks_in : List PyData → Option (List PyData)) (Fstanding_in : List PyData → Option PyData) (Feach_once : List PyData → Option (List PyData)) (Fline : List PyData → Option PyData) (Fkept_of : List PyData → Option PyData) : Rho → Option Out := (gSeq (gFld "Plan" "wishes" (fCa 1 (ofF Fwishes_in) (fCons (fV 1) fNil))) (gSeq (gFld "Plan" "pasts" (fCa 1 (ofF Fpasts_in) (fCons (fV 1) fNil))) (gSeq (gFld "Plan" "marks" (fCa 1 (ofF Fmarks_in) (fCons (fV 1) fNil))) (gSeq (gFld "Plan" "weights" (fLc (fR1 (f2 addD (fCl (one1 lenD) (fCons (fSlf "Plan" "wishes") fNil)) (fC (.int 1)))) (b1 2) tYesD (f2 shlD (fC (.int 1)) (fV 2)) [2])) (gSeq (gFld "Plan" "everywhere" (f2 (ri fun i j => i - j) (f2 shlD (fC (.int 1)) (f2 ixD (fSlf "Plan" "weights") (f1 negD (fC (.int 1))))) (fC (.int 1)))) (gSeq (gSet 3 (fCa 1 (ofF Feach_once) (fCons (fLc2 (fSeq (fSlf "Plan" "wishes")) (b1 4) tYesD (fSeq (fCa 1 Fstanding_in (fCons (fV 4) fNil))) (b1 5) tYesD (fV 5) [4, 5] [5]) fNil))) (gSeq (gFld "Plan" "lines" (fLc (fSeq (fV 3)) (b1 1) tYesD (fCaO 3 "Plan" Fline (fCons (fV 3) (fCons (fV 1) fNil))) [1])) (gSeq (gFld "Plan" "wish_lines" (fLc (fSeq (fSlf "Plan" "wishes")) (b1 4) tYesD (fMt indexD (fV 3) (fCons (fV 4) fNil)) [4])) (gFld "Plan" "kept_lines" (fLc (fSeq (fSlf "Plan" "pasts")) (b1 6) tYesD (fMt indexD (fV 3) (fCons (fCa 1 Fkept_of (fCons (fV 6) fNil)) fNil)) [6]))))))))))
theorem okPlan {k : Nat} {Fwishes_in : List PyData → Option (List PyData)} {Fpasts_in : List PyData → Option (List PyData)} {Fmarks_in : List PyData → Option (List PyData)} {Fstanding_in : List PyData → Option PyData} {Feach_once : List PyData → Option (List PyData)} {Fline : List PyData → Option PyData} {Fkept_of : List PyData → Option PyData} {R : List PyData → Option (List (PyData × PyData))} {f : Addr} {fd : FuncData} (hB : Bl mg) (Fu : Fun K "__init__" "Plan.__init__" sPlan f fd) (M : Mk K (Tbs.Cl "Plan") f) (hm : mg "Plan" = some (.ref (Tbs.Cl "Plan"))) (bd : L2.Binds K fd ["self", "statement"] []) (hF : ∀ a ds gs, R ds = some gs → retI "Plan" ((gPlan Fwishes_in Fpasts_in Fmarks_in Fstanding_in Feach_once Fline Fkept_of) (startI 7 a "Plan" ds)) = some gs ∧ ∀ ρ, (gPlan Fwishes_in Fpasts_in Fmarks_in Fstanding_in Feach_once Fline Fkept_of) (startI 7 a "Plan" ds) = some (.nx ρ) → ∃ hs, ρ[0]? = some (some (.ob a "Plan" hs))) (cwishes_in : KnF P w K mg base k 1 "wishes_in" Fwishes_in) (cpasts_in : KnF P w K mg base k 1 "pasts_in" Fpasts_in) (cmarks_in : KnF P w K mg base k 1 "marks_in" Fmarks_in) (cstanding_in : Kn P w K mg base k 1 "standing_in" Fstanding_in) (ceach_once : KnF P w K mg base k 1 "each_once" Feach_once) (cline : Kn P w K mg base k 3 "_line" Fline) (ckept_of : Kn P w K mg base k 1 "_kept_of" Fkept_of) (CPlan : Cla K "Plan" flPlan) : KnI P w K mg base (k + 1) 2 "Plan" R := by
  refine knI_of (P := P) (w := w) (base := base) (N := NPlan) (ps := ["self", "statement"]) (g := gPlan Fwishes_in Fpasts_in Fmarks_in Fstanding_in Feach_once Fline Fkept_of) Fu M hm bd scPlan hF fun cdv A outer s H E hr => ?_
  exact (psd_cons (psd_fld CPlan (by simp [flPlan]) (pv 0) (pd_kn cwishes_in.kn hr (pda_cons (pd_v (pv 1)) pda_nil))) (psd_cons (psd_fld CPlan (by simp [flPlan]) (pv 0) (pd_kn cpasts_in.kn hr (pda_cons (pd_v (pv 1)) pda_nil))) (psd_cons (psd_fld CPlan (by simp [flPlan]) (pv 0) (pd_kn cmarks_in.kn hr (pda_cons (pd_v (pv 1)) pda_nil))) (psd_cons (psd_fld CPlan (by simp [flPlan]) (pv 0) (pd_lc gd_1 (by decide) rfl scPlan.nd (pdi_range1 rfl hB.range (pd_op op_addD rd_add (pd_bi call_lenD0 rc_len rfl hB.len (by decide +kernel) (pda_cons (pd_slf CPlan (by simp [flPlan]) (pv 0)) pda_nil)) pd_int)) (blkOk_by (N := NPlan) (sc := defScope sPlan) (own := [("number", 2)]) (by decide +kernel)) (fun _ _ _ _ _ => (pg_name (i := 2) scPlan.nd rfl (by first | exact Or.inl rfl | exact Or.inr rfl))) (fun _ _ _ _ _ => pdts_nil) (fun _ _ _ _ _ => (pd_op op_shl rd_shl pd_int (pd_v (pv 2)))))) (psd_cons (psd_fld CPlan (by simp [flPlan]) (pv 0) (pd_op op_sub rd_sub (pd_op op_shl rd_shl pd_int (pd_ix (pd_slf CPlan (by simp [flPlan]) (pv 0)) (pd_neg pd_int) (fun _ _ => rfl))) pd_int)) (psd_cons (psd_asg (ps_set (i := 3) scPlan.nd rfl (by first | exact Or.inl rfl | exact Or.inr rfl) (pd_kn ceach_once.kn hr (pda_cons (pd_lc2 (vs1 := [5]) gd_1 (by decide) gd_1 (by decide) (by decide) rfl scPlan.nd (pdi_seq (pd_slf CPlan (by simp [flPlan]) (pv 0))) (blkOk_by (N := NPlan) (sc := defScope sPlan) (own := [("wish", 4), ("part", 5)]) (by decide +kernel)) (fun _ _ _ _ _ => (pg_name (i := 4) scPlan.nd rfl (by first | exact Or.inl rfl | exact Or.inr rfl))) (fun _ _ _ _ _ => pdts_nil) (fun _ _ _ _ _ => (pdi_seq (pd_kn cstanding_in hr (pda_cons (pd_v (pv 4)) pda_nil)))) (fun _ _ _ _ _ => (pg_name (i := 5) scPlan.nd rfl (by first | exact Or.inl rfl | exact Or.inr rfl))) (fun _ _ _ _ _ => pdts_nil) (fun _ _ _ _ _ => (pd_v (pv 5)))) pda_nil)))) (psd_cons (psd_fld CPlan (by simp [flPlan]) (pv 0) (pd_lc gd_1 (by decide) rfl scPlan.nd (pdi_seq (pd_v (pv 3))) (blkOk_by (N := NPlan) (sc := defScope sPlan) (own := [("statement", 1)]) (by decide +kernel)) (fun _ _ _ _ _ => (pg_name (i := 1) scPlan.nd rfl (by first | exact Or.inl rfl | exact Or.inr rfl))) (fun _ _ _ _ _ => pdts_nil) (fun _ _ _ _ _ => (pd_knO (nm := "Plan") cline hr (pv 0) (pda_cons (pd_v (pv 3)) (pda_cons (pd_v (pv 1)) pda_nil)))))) (psd_cons (psd_fld CPlan (by simp [flPlan]) (pv 0) (pd_lc gd_1 (by decide) rfl scPlan.nd (pdi_seq (pd_slf CPlan (by simp [flPlan]) (pv 0))) (blkOk_by (N := NPlan) (sc := defScope sPlan) (own := [("wish", 4)]) (by decide +kernel)) (fun _ _ _ _ _ => (pg_name (i := 4) scPlan.nd rfl (by first | exact Or.inl rfl | exact Or.inr rfl))) (fun _ _ _ _ _ => pdts_nil) (fun _ _ _ _ _ => (pd_bm PySem.F.plainAttrs_list PySem.F.slot_list_index PySem.F.type_list_index (mt_indexD (units65 hr)) rm_index ty_index (pd_v (pv 3)) (pda_cons (pd_v (pv 4)) pda_nil))))) (psd_one (psd_fld CPlan (by simp [flPlan]) (pv 0) (pd_lc gd_1 (by decide) rfl scPlan.nd (pdi_seq (pd_slf CPlan (by simp [flPlan]) (pv 0))) (blkOk_by (N := NPlan) (sc := defScope sPlan) (own := [("past", 6)]) (by decide +kernel)) (fun _ _ _ _ _ => (pg_name (i := 6) scPlan.nd rfl (by first | exact Or.inl rfl | exact Or.inr rfl))) (fun _ _ _ _ _ => pdts_nil) (fun _ _ _ _ _ => (pd_bm PySem.F.plainAttrs_list PySem.F.slot_list_index PySem.F.type_list_index (mt_indexD (units65 hr)) rm_index ty_index (pd_v (pv 3)) (pda_cons (pd_kn ckept_of hr (pda_cons (pd_v (pv 6)) pda_nil)) pda_nil))))))))))))))
abbrev sline : Stmt := top 35
abbrev Nline : List Str := ["plan", "standing", "statement", "parts", "part"]
theorem scline : FnScope Nline ["plan", "standing", "statement"] (defScope sline) := ⟨rfl, rfl, rfl, by decide +kernel, rfl, by decide +kernel, by decide +kernel⟩
def gline (Fparts_of : List PyData → Option PyData) (Fbeside : List PyData → Option PyData) : Rho → Option Out := (gSeq (gSet 3 (fOrV (fLc (fSeq (fCa 1 Fparts_of (fCons (fV 2) fNil))) (b1 4) tYesD (fMt indexD (fV 1) (fCons (fV 4) fNil)) [4]) (fLst (fCons (fC (.int 0)) fNil)))) (gRet (fTup (fCons (f2 ixD (fV 2) (fC (.int 0))) (fCons (f2 ixD (fV 3) (fC (.int 0))) (fCons (f2 ixD (fV 3) (f1 negD (fC (.int 1)))) (fCons (fCa 2 Fbeside (fCons (fV 0) (fCons (fV 2) fNil))) fNil)))))))
theorem okline {k : Nat} {Fparts_of : List PyData → Option PyData} {Fbeside : List PyData → Option PyData} (hB : Bl mg) (D : Df K mg "_line" sline ["plan", "standing", "statement"]) (cparts_of : Kn P w K mg base k 1 "parts_of" Fparts_of) (cbeside : Kn P w K mg base k 2 "_beside" Fbeside) : Kn P w K mg base (k + 1) 3 "_line" (fnD 5 (gline Fparts_of Fbeside)) := by
  refine kn_of (P := P) (w := w) (base := base) (N := Nline) (ps := ["plan", "standing", "statement"]) (g := gline Fparts_of Fbeside) D scline fun f cdv A outer s H E hr => ?_
  exact (psd_cons (psd_asg (ps_set (i := 3) scline.nd rfl (by first | exact Or.inl rfl | exact Or.inr rfl) (pd_orT (pd_lc gd_1 (by decide) rfl scline.nd (pdi_seq (pd_kn cparts_of hr (pda_cons (pd_v (pv 2)) pda_nil))) (blkOk_by (N := Nline) (sc := defScope sline) (own := [("part", 4)]) (by decide +kernel)) (fun _ _ _ _ _ => (pg_name (i := 4) scline.nd rfl (by first | exact Or.inl rfl | exact Or.inr rfl))) (fun _ _ _ _ _ => pdts_nil) (fun _ _ _ _ _ => (pd_bm PySem.F.plainAttrs_list PySem.F.slot_list_index PySem.F.type_list_index (mt_indexD (units65 hr)) rm_index ty_index (pd_v (pv 1)) (pda_cons (pd_v (pv 4)) pda_nil)))) (pd_one (pd_lst (pda_cons pd_int pda_nil)))))) (psd_one (psd_ret (pd_tup (pda_cons (pd_ix (pd_v (pv 2)) pd_int (fun _ _ => rfl)) (pda_cons (pd_ix (pd_v (pv 3)) pd_int (fun _ _ => rfl)) (pda_cons (pd_ix (pd_v (pv 3)) (pd_neg pd_int) (fun _ _ => rfl)) (pda_cons (pd_kn cbeside hr (pda_cons (pd_v (pv 0)) (pda_cons (pd_v (pv 2)) pda_nil))) pda_nil))))))))
abbrev sbeside : Stmt := top 36
abbrev Nbeside : List Str := ["plan", "statement", "wish"]
theorem scbeside : FnScope Nbeside ["plan", "statement"] (defScope sbeside) := ⟨rfl, rfl, rfl, by decide +kernel, rfl, by decide +kernel, by decide +kernel⟩
def gbeside (Fawaited : List PyData → Option (List PyData)) (Fbits_of_wish : List PyData → Option PyData) : Rho → Option Out := (gSeq (gIf (fB (f2 eqP (f2 ixD (fV 1) (fC (.int 0))) (fC (.str "mark")))) (gRet (f2 ixD (fV 1) (fC (.int 1)))) gNx) (gSeq (gIf (fB (f2 inP (f2 ixD (fV 1) (fC (.int 0))) (fC (.tuple [(.str "before"), (.str "since")])))) (gRet (fMt indexD (f1 (fldD "Plan" "pasts") (fV 0)) (fCons (fV 1) fNil))) gNx) (gRet (fCl (one1 sumD) (fCons (fLc (fSeq (fCa 1 (ofF Fawaited) (fCons (fV 1) fNil))) (b1 2) tYesD (fCa 2 Fbits_of_wish (fCons (fV 0) (fCons (fV 2) fNil))) [2]) fNil)))))
theorem okbeside {k : Nat} {Fawaited : List PyData → Option (List PyData)} {Fbits_of_wish : List PyData → Option PyData} (hB : Bl mg) (D : Df K mg "_beside" sbeside ["plan", "statement"]) (cawaited : KnF P w K mg base k 1 "awaited" Fawaited) (cbits_of_wish : Kn P w K mg base k 2 "_bits_of_wish" Fbits_of_wish) (kPAST : Cn K mg "PAST" (.tuple [(.str "before"), (.str "since")])) (CPlan : Cla K "Plan" flPlan) : Kn P w K mg base (k + 1) 2 "_beside" (fnD 3 (gbeside Fawaited Fbits_of_wish)) := by
  refine kn_of (P := P) (w := w) (base := base) (N := Nbeside) (ps := ["plan", "statement"]) (g := gbeside Fawaited Fbits_of_wish) D scbeside fun f cdv A outer s H E hr => ?_
  exact (psd_cons (psd_if (pdt_cmp (op_eqA hr.units) rd_eq (pd_ix (pd_v (pv 1)) pd_int (fun _ _ => rfl)) pd_str (nomark _)) (psd_one (psd_ret (pd_ix (pd_v (pv 1)) pd_int (fun _ _ => rfl)))) psd_nil) (psd_cons (psd_if (pdt_cmp (op_inA (units65 hr)) rd_in (pd_ix (pd_v (pv 1)) pd_int (fun _ _ => rfl)) (pd_gl kPAST) (by rfl)) (psd_one (psd_ret (pd_bm PySem.F.plainAttrs_list PySem.F.slot_list_index PySem.F.type_list_index (mt_indexD (units65 hr)) rm_index ty_index (pd_fld CPlan (by simp [flPlan]) (pd_v (pv 0))) (pda_cons (pd_v (pv 1)) pda_nil)))) psd_nil) (psd_one (psd_ret (pd_bi (cr_sum rfl) rc_sum rfl hB.sum (by decide +kernel) (pda_cons (pd_lc gd_1 (by decide) rfl scbeside.nd (pdi_seq (pd_kn cawaited.kn hr (pda_cons (pd_v (pv 1)) pda_nil))) (blkOk_by (N := Nbeside) (sc := defScope sbeside) (own := [("wish", 2)]) (by decide +kernel)) (fun _ _ _ _ _ => (pg_name (i := 2) scbeside.nd rfl (by first | exact Or.inl rfl | exact Or.inr rfl))) (fun _ _ _ _ _ => pdts_nil) (fun _ _ _ _ _ => (pd_kn cbits_of_wish hr (pda_cons (pd_v (pv 0)) (pda_cons (pd_v (pv 2)) pda_nil))))) pda_nil))))))
abbrev sbits_of_wish : Stmt := top 37
abbrev Nbits_of_wish : List Str := ["plan", "wish", "weight", "place"]
theorem scbits_of_wish : FnScope Nbits_of_wish ["plan", "wish"] (defScope sbits_of_wish) := ⟨rfl, rfl, rfl, by decide +kernel, rfl, by decide +kernel, by decide +kernel⟩
def gbits_of_wish : Rho → Option Out := (gSeq (gSet 2 (f2 ixD (f1 (fldD "Plan" "weights") (fV 0)) (fMt indexD (f1 (fldD "Plan" "wishes") (fV 0)) (fCons (fV 1) fNil)))) (gRet (fCl (one1 sumD) (fCons (fLc (fR1 (f2 ixD (f1 (fldD "Plan" "weights") (fV 0)) (f1 negD (fC (.int 1))))) (b1 3) (fB (f2 (rb fun i j => decide (j < i)) (f2 (ri Builtin.bitAnd) (fV 3) (fV 2)) (fC (.int 0)))) (f2 shlD (fC (.int 1)) (fV 3)) [3]) fNil))))
theorem okbits_of_wish {k : Nat} (hB : Bl mg) (D : Df K mg "_bits_of_wish" sbits_of_wish ["plan", "wish"])  (CPlan : Cla K "Plan" flPlan) : Kn P w K mg base (k + 1) 2 "_bits_of_wish" (fnD 4 (gbits_of_wish )) := by
  refine kn_of (P := P) (w := w) (base := base) (N := Nbits_of_wish) (ps := ["plan", "wish"]) (g := gbits_of_wish ) D scbits_of_wish fun f cdv A outer s H E hr => ?_
  exact (psd_cons (psd_asg (ps_set (i := 2) scbits_of_wish.nd rfl (by first | exact Or.inl rfl | exact Or.inr rfl) (pd_ix (pd_fld CPlan (by simp [flPlan]) (pd_v (pv 0))) (pd_bm PySem.F.plainAttrs_list PySem.F.slot_list_index PySem.F.type_list_index (mt_indexD (units65 hr)) rm_index ty_index (pd_fld CPlan (by simp [flPlan]) (pd_v (pv 0))) (pda_cons (pd_v (pv 1)) pda_nil)) (fun _ _ => rfl)))) (psd_one (psd_ret (pd_bi (cr_sum rfl) rc_sum rfl hB.sum (by decide +kernel) (pda_cons (pd_lc gd_1 (by decide) rfl scbits_of_wish.nd (pdi_range1 rfl hB.range (pd_ix (pd_fld CPlan (by simp [flPlan]) (pd_v (pv 0))) (pd_neg pd_int) (fun _ _ => rfl))) (blkOk_by (N := Nbits_of_wish) (sc := defScope sbits_of_wish) (own := [("place", 3)]) (by decide +kernel)) (fun _ _ _ _ _ => (pg_name (i := 3) scbits_of_wish.nd rfl (by first | exact Or.inl rfl | exact Or.inr rfl))) (fun _ _ _ _ _ => pdts_one (pdt_cmp op_gt rd_rb (pd_op op_and rd_ri (pd_v (pv 3)) (pd_v (pv 2))) pd_int (nomark _))) (fun _ _ _ _ _ => (pd_op op_shl rd_shl pd_int (pd_v (pv 3))))) pda_nil)))))
abbrev skept_of : Stmt := top 38
abbrev Nkept_of : List Str := ["past"]
theorem sckept_of : FnScope Nkept_of ["past"] (defScope skept_of) := ⟨rfl, rfl, rfl, by decide +kernel, rfl, by decide +kernel, by decide +kernel⟩
def gkept_of : Rho → Option Out := (gRet (fIf (fB (f2 eqP (f2 ixD (fV 0) (fC (.int 0))) (fC (.str "before")))) (f2 ixD (fV 0) (fC (.int 1))) (fV 0)))
theorem okkept_of {k : Nat} (hB : Bl mg) (D : Df K mg "_kept_of" skept_of ["past"])  : Kn P w K mg base (k + 1) 1 "_kept_of" (fnD 1 (gkept_of )) := by
  refine kn_of (P := P) (w := w) (base := base) (N := Nkept_of) (ps := ["past"]) (g := gkept_of ) D sckept_of fun f cdv A outer s H E hr => ?_
  exact (psd_one (psd_ret (pd_if (pdt_cmp (op_eqA hr.units) rd_eq (pd_ix (pd_v (pv 0)) pd_int (fun _ _ => rfl)) pd_str (nomark _)) (pd_ix (pd_v (pv 0)) pd_int (fun _ _ => rfl)) (pd_v (pv 0)))))
abbrev sbegun : Stmt := top 39
abbrev Nbegun : List Str := ["plan", "table", "place"]
theorem scbegun : FnScope Nbegun ["plan"] (defScope sbegun) := ⟨rfl, rfl, rfl, by decide +kernel, rfl, by decide +kernel, by decide +kernel⟩
def gbegun : Rho → Option Out := (gSeq (gSet 1 (fCl (one1 tupleD) (fCons (fLc (fR1 (f2 ixD (f1 (fldD "Plan" "weights") (fV 0)) (f1 negD (fC (.int 1))))) (b1 2) tYesD (f2 (rb fun i j => decide (j < i)) (f2 (ri Builtin.bitAnd) (fV 2) (fC (.int 1))) (fC (.int 0))) [2]) fNil))) (gRet (fTup (fCons (f2 timesD (fTup (fCons (fC (.bool false)) fNil)) (fCl (one1 lenD) (fCons (f1 (fldD "Plan" "pasts") (fV 0)) fNil))) (fCons (fV 1) fNil)))))
theorem okbegun {k : Nat} (hB : Bl mg) (D : Df K mg "begun" sbegun ["plan"])  (CPlan : Cla K "Plan" flPlan) : Kn P w K mg base (k + 1) 1 "begun" (fnD 3 (gbegun )) := by
  refine kn_of (P := P) (w := w) (base := base) (N := Nbegun) (ps := ["plan"]) (g := gbegun ) D scbegun fun f cdv A outer s H E hr => ?_
  exact (psd_cons (psd_asg (ps_set (i := 1) scbegun.nd rfl (by first | exact Or.inl rfl | exact Or.inr rfl) (pd_ty call_tuple_of rc_tuple rfl hB.tuple (by decide +kernel) (pda_cons (pd_lc gd_1 (by decide) rfl scbegun.nd (pdi_range1 rfl hB.range (pd_ix (pd_fld CPlan (by simp [flPlan]) (pd_v (pv 0))) (pd_neg pd_int) (fun _ _ => rfl))) (blkOk_by (N := Nbegun) (sc := defScope sbegun) (own := [("place", 2)]) (by decide +kernel)) (fun _ _ _ _ _ => (pg_name (i := 2) scbegun.nd rfl (by first | exact Or.inl rfl | exact Or.inr rfl))) (fun _ _ _ _ _ => pdts_nil) (fun _ _ _ _ _ => (pd_cmp op_gt rd_rb (pd_op op_and rd_ri (pd_v (pv 2)) pd_int) pd_int (nomark _)))) pda_nil)))) (psd_one (psd_ret (pd_tup (pda_cons (pd_op Gx.op_times rd_times (pd_tup (pda_cons pd_bl pda_nil)) (pd_bi call_lenD0 rc_len rfl hB.len (by decide +kernel) (pda_cons (pd_fld CPlan (by simp [flPlan]) (pd_v (pv 0))) pda_nil))) (pda_cons (pd_v (pv 1)) pda_nil))))))
abbrev sTeller : Stmt := inClass (top 50) 0
abbrev NTeller : List Str := ["self", "statement"]
theorem scTeller : FnScope NTeller ["self", "statement"] (defScope sTeller) := ⟨rfl, rfl, rfl, by decide +kernel, rfl, by decide +kernel, by decide +kernel⟩
def gTeller (MPlan : List PyData → Option Flds) (Fneed_told : List PyData → Option (Except Str PyData)) (Fbegun : List PyData → Option PyData) : Rho → Option (Except Str Out) := (gSeqX (gFldX "Teller" "_plan" (fMkX "Plan" 2 MPlan (fXCons (fXc 1 Fneed_told (fCons (fV 1) fNil)) fXNil))) (gSeqX (gOk (gFld "Teller" "_state" (fCa 1 Fbegun (fCons (fSlf "Teller" "_plan") fNil)))) (gSeqX (gOk (gFld "Teller" "_marks" (fLst fNil))) (gSeqX (gOk (gFld "Teller" "_last" (fC (.str "open")))) (gOk (gFld "Teller" "_verdicts" (fC (.dict []))))))))
theorem okTeller {k : Nat} {MPlan : List PyData → Option Flds} {Fneed_told : List PyData → Option (Except Str PyData)} {Fbegun : List PyData → Option PyData} {R : List PyData → Option (Except Str Flds)} {f : Addr} {fd : FuncData} (hB : Bl mg) (Fu : Fun K "__init__" "Teller.__init__" sTeller f fd) (M : Mk K (Tbs.Cl "Teller") f) (hm : mg "Teller" = some (.ref (Tbs.Cl "Teller"))) (bd : L2.Binds K fd ["self", "statement"] []) (hF : ∀ a ds gs, R ds = some (.ok gs) → ∃ ρ, (gTeller MPlan Fneed_told Fbegun) (startI 2 a "Teller" ds) = some (.ok (.nx ρ)) ∧ ρ[0]? = some (some (.ob a "Teller" gs))) (hE : ∀ a ds c, R ds = some (.error c) → (gTeller MPlan Fneed_told Fbegun) (startI 2 a "Teller" ds) = some (.error c)) (mPlan : KnI P w K mg base k 2 "Plan" MPlan) (cneed_told : KnX P w K mg base k 1 "need_told" Fneed_told) (cbegun : Kn P w K mg base k 1 "begun" Fbegun) (CTeller : Cla K "Teller" flTeller) (CPlan : Cla K "Plan" flPlan) : KnIX P w K mg base (k + 2) 2 "Teller" R := by
  refine knIX_of (P := P) (w := w) (base := base) (N := NTeller) (ps := ["self", "statement"]) (g := gTeller MPlan Fneed_told Fbegun) Fu M hm bd scTeller hF hE fun cdv A outer s H E hr => ?_
  exact (psx_cons (psx_fld CTeller (by simp [flTeller]) (pv 0) (px_mkA mPlan hr (pxa_cons (px_kn (cneed_told.mono (Nat.le_succ _)) hr (takes_of rfl rfl rfl rfl) (pda_cons (pd_v (pv 1)) pda_nil)) pxa_nil))) (psx_cons (psx_of (psd_fld CTeller (by simp [flTeller]) (pv 0) (pd_kn (cbegun.mono (Nat.le_succ _)) hr (pda_cons (pd_slf CTeller (by simp [flTeller]) (pv 0)) pda_nil)))) (psx_cons (psx_of (psd_fld CTeller (by simp [flTeller]) (pv 0) (pd_lst pda_nil))) (psx_cons (psx_of (psd_fld CTeller (by simp [flTeller]) (pv 0) pd_str)) (psx_one (psx_of (psd_fld CTeller (by simp [flTeller]) (pv 0) pd_emp)))))))
abbrev sL_cell_at : Stmt := top 52
abbrev NL_cell_at : List Str := ["_law_script", "_law_k"]
theorem scL_cell_at : FnScope NL_cell_at ["_law_script", "_law_k"] (defScope sL_cell_at) := ⟨rfl, rfl, rfl, by decide +kernel, rfl, by decide +kernel, by decide +kernel⟩
def gL_cell_at : Rho → Option Out := (gSeq (gIf (fB (f2 (rb fun i j => decide (i < j)) (fV 1) (fCl (one1 lenD) (fCons (fV 0) fNil)))) (gRet (f2 ixD (fV 0) (fV 1))) gNx) (gRet (fC (.int 0))))
theorem okL_cell_at {k : Nat} (hB : Bl mg) (D : Df K mg "_law_cell_at" sL_cell_at ["_law_script", "_law_k"])  : Kn P w K mg base (k + 1) 2 "_law_cell_at" (fnD 2 (gL_cell_at )) := by
  refine kn_of (P := P) (w := w) (base := base) (N := NL_cell_at) (ps := ["_law_script", "_law_k"]) (g := gL_cell_at ) D scL_cell_at fun f cdv A outer s H E hr => ?_
  exact (psd_cons (psd_if (pdt_cmp op_lt rd_rb (pd_v (pv 1)) (pd_bi call_lenD0 rc_len rfl hB.len (by decide +kernel) (pda_cons (pd_v (pv 0)) pda_nil)) (nomark _)) (psd_one (psd_ret (pd_ix (pd_v (pv 0)) (pd_v (pv 1)) (fun _ _ => rfl)))) psd_nil) (psd_one (psd_ret pd_int)))
abbrev sL_draw : Stmt := top 53
abbrev NL_draw : List Str := ["_law_script", "_law_spot", "_law_k"]
theorem scL_draw : FnScope NL_draw ["_law_script", "_law_spot"] (defScope sL_draw) := ⟨rfl, rfl, rfl, by decide +kernel, rfl, by decide +kernel, by decide +kernel⟩
def gL_draw : Rho → Option Out := (gSeq (gSeti 1 (f2 addD (fIxO 1 (fC (.int 0))) (fC (.int 1))) (fC (.int 0))) (gSeq (gSet 2 (f2 (ri fun i j => i - j) (fIxO 1 (fC (.int 0))) (fC (.int 1)))) (gSeq (gIf (fB (f2 (rb fun i j => decide (i < j)) (fV 2) (fCl (one1 lenD) (fCons (fV 0) fNil)))) (gRet (f2 ixD (fV 0) (fV 2))) gNx) (gSeq (gIf (fAndT (fB (f2 (rb fun i j => decide (j < i)) (fCl (one1 lenD) (fCons (fV 0) fNil)) (fC (.int 4)))) (fB (f2 (rb fun i j => decide (i < j)) (fV 2) (fC (.int 40))))) (gRet (f2 modD (f2 mulD (f2 addD (f2 ixD (fV 0) (f2 modD (fV 2) (fCl (one1 lenD) (fCons (fV 0) fNil)))) (f2 mulD (fC (.int 7919)) (fV 2))) (fC (.int 48271))) (fC (.int 1000003)))) gNx) (gRet (fC (.int 0)))))))
theorem okL_draw {k : Nat} {R : List PyData → List PyData → Option (PyData × List PyData)} (hB : Bl mg) (D : Df K mg "_law_draw" sL_draw ["_law_script", "_law_spot"]) (hF : ∀ a ds xs r, ds.length + 1 = 2 → R ds xs = some r → retC a ((gL_draw ) (startC 3 a ds xs)) = some r)  : KnC P w K mg base (k + 1) 2 "_law_draw" R := by
  refine knC_of (P := P) (w := w) (base := base) (N := NL_draw) (ps := ["_law_script", "_law_spot"]) (g := gL_draw ) D scL_draw hF fun f cdv A outer s H E hr => ?_
  exact (psd_cons (psd_seti (ps_asg (pd_op op_addD rd_add (pd_ixO (pv 1) pd_int (fun _ _ => rfl)) pd_int) (pg_sub (pv 1) pd_int set_list))) (psd_cons (psd_asg (ps_set (i := 2) scL_draw.nd rfl (by first | exact Or.inl rfl | exact Or.inr rfl) (pd_op op_sub rd_sub (pd_ixO (pv 1) pd_int (fun _ _ => rfl)) pd_int))) (psd_cons (psd_if (pdt_cmp op_lt rd_rb (pd_v (pv 2)) (pd_bi call_lenD0 rc_len rfl hB.len (by decide +kernel) (pda_cons (pd_v (pv 0)) pda_nil)) (nomark _)) (psd_one (psd_ret (pd_ix (pd_v (pv 0)) (pd_v (pv 2)) (fun _ _ => rfl)))) psd_nil) (psd_cons (psd_if (pdt_w (pdw_and (pdt_cmp op_gt rd_rb (pd_bi call_lenD0 rc_len rfl hB.len (by decide +kernel) (pda_cons (pd_v (pv 0)) pda_nil)) pd_int (nomark _)) (pdw_and1 (pdt_cmp op_lt rd_rb (pd_v (pv 2)) pd_int (nomark _))))) (psd_one (psd_ret (pd_op op_mod rd_mod (pd_op op_mulD rd_mul (pd_op op_addD rd_add (pd_ix (pd_v (pv 0)) (pd_op op_mod rd_mod (pd_v (pv 2)) (pd_bi call_lenD0 rc_len rfl hB.len (by decide +kernel) (pda_cons (pd_v (pv 0)) pda_nil))) (fun _ _ => rfl)) (pd_op op_mulD rd_mul pd_int (pd_v (pv 2)))) pd_int) pd_int))) psd_nil) (psd_one (psd_ret pd_int))))))
abbrev sL_names : Stmt := top 54
abbrev NL_names : List Str := ["_law_cell", "_law_letters", "_law_rest", "_law_j", "_law_size", "_law_k", "_law_at", "_law_found", "_law_letter"]
theorem scL_names : FnScope NL_names ["_law_cell"] (defScope sL_names) := ⟨rfl, rfl, rfl, by decide +kernel, rfl, by decide +kernel, by decide +kernel⟩
def gL_names : Rho → Option Out := (gSeq (gSet 1 (fC (.str "abcdefghijklmnopqrstuvwxyz"))) (gSeq (gSet 2 (fMt joinD (fC (.str "")) (fCons (fLc (fR1 (fC (.int 6))) (b1 3) tYesD (f2 ixD (fV 1) (f2 modD (f2 addD (f2 fdivD (fV 0) (fC (.int 7))) (f2 mulD (fC (.int 5)) (fV 3))) (fC (.int 26)))) [3]) fNil))) (gSeq (gIf (fB (f2 eqP (f2 modD (fV 0) (fC (.int 3))) (fC (.int 2)))) (gSeq (gSet 4 (f2 addD (fC (.int 1)) (f2 modD (f2 fdivD (fV 0) (fC (.int 3))) (fC (.int 4))))) (gRet (fLc (fR1 (fC (.int 3))) (b1 5) tYesD (fSl (fV 2) fO0 (fO (f2 addD (fV 4) (fV 5)))) [5]))) gNx) (gSeq (gSet 4 (f2 modD (f2 fdivD (fV 0) (fC (.int 3))) (fC (.int 6)))) (gSeq (gSet 6 (f2 modD (f2 fdivD (fV 0) (fC (.int 18))) (f2 addD (fV 4) (fC (.int 1))))) (gSeq (gOwn 7 fNil) (gSeq (gFor (fR1 (fC (.int 3))) (b1 5) (gSeq (gSet 8 (f2 ixD (fV 1) (f2 modD (f2 addD (f2 fdivD (fV 0) (fC (.int 90))) (f2 mulD (fC (.int 7)) (fV 5))) (fC (.int 26))))) (gApp 7 (f2 addD (f2 addD (fSl (fV 2) fO0 (fO (fV 6))) (fV 8)) (fSl (fV 2) (fO (fV 6)) (fO (fV 4))))))) (fun ρ => (gRet (fV 7)) (frz 7 ρ)))))))))
theorem okL_names {k : Nat} (hB : Bl mg) (D : Df K mg "_law_names" sL_names ["_law_cell"])  : Kn P w K mg base (k + 1) 1 "_law_names" (fnD 9 (gL_names )) := by
  refine kn_of (P := P) (w := w) (base := base) (N := NL_names) (ps := ["_law_cell"]) (g := gL_names ) D scL_names fun f cdv A outer s H E hr => ?_
  exact (psd_cons (psd_asg (ps_set (i := 1) scL_names.nd rfl (by first | exact Or.inl rfl | exact Or.inr rfl) pd_str)) (psd_cons (psd_asg (ps_set (i := 2) scL_names.nd rfl (by first | exact Or.inl rfl | exact Or.inr rfl) (pd_bm PySem.F.plainAttrs_str PySem.F.slot_str_join PySem.F.type_str_join mt_join rm_join ty_join pd_str (pda_cons (pd_lc gd_1 (by decide) rfl scL_names.nd (pdi_range1 rfl hB.range pd_int) (blkOk_by (N := NL_names) (sc := defScope sL_names) (own := [("_law_j", 3)]) (by decide +kernel)) (fun _ _ _ _ _ => (pg_name (i := 3) scL_names.nd rfl (by first | exact Or.inl rfl | exact Or.inr rfl))) (fun _ _ _ _ _ => pdts_nil) (fun _ _ _ _ _ => (pd_ix (pd_v (pv 1)) (pd_op op_mod rd_mod (pd_op op_addD rd_add (pd_op op_fdiv rd_fdiv (pd_v (pv 0)) pd_int) (pd_op op_mulD rd_mul pd_int (pd_v (pv 3)))) pd_int) (fun _ _ => rfl)))) pda_nil)))) (psd_cons (psd_if (pdt_cmp (op_eqA hr.units) rd_eq (pd_op op_mod rd_mod (pd_v (pv 0)) pd_int) pd_int (nomark _)) (psd_cons (psd_asg (ps_set (i := 4) scL_names.nd rfl (by first | exact Or.inl rfl | exact Or.inr rfl) (pd_op op_addD rd_add pd_int (pd_op op_mod rd_mod (pd_op op_fdiv rd_fdiv (pd_v (pv 0)) pd_int) pd_int)))) (psd_one (psd_ret (pd_lc gd_1 (by decide) rfl scL_names.nd (pdi_range1 rfl hB.range pd_int) (blkOk_by (N := NL_names) (sc := defScope sL_names) (own := [("_law_k", 5)]) (by decide +kernel)) (fun _ _ _ _ _ => (pg_name (i := 5) scL_names.nd rfl (by first | exact Or.inl rfl | exact Or.inr rfl))) (fun _ _ _ _ _ => pdts_nil) (fun _ _ _ _ _ => (pd_sl (pd_v (pv 2)) pdo_none (pdo_some (pd_op op_addD rd_add (pd_v (pv 4)) (pd_v (pv 5)))))))))) psd_nil) (psd_cons (psd_asg (ps_set (i := 4) scL_names.nd rfl (by first | exact Or.inl rfl | exact Or.inr rfl) (pd_op op_mod rd_mod (pd_op op_fdiv rd_fdiv (pd_v (pv 0)) pd_int) pd_int))) (psd_cons (psd_asg (ps_set (i := 6) scL_names.nd rfl (by first | exact Or.inl rfl | exact Or.inr rfl) (pd_op op_mod rd_mod (pd_op op_fdiv rd_fdiv (pd_v (pv 0)) pd_int) (pd_op op_addD rd_add (pd_v (pv 4)) pd_int)))) (psd_cons (psd_own (ps_set (i := 7) scL_names.nd rfl (by first | exact Or.inl rfl | exact Or.inr rfl) (pe_lst pda_nil))) (psd_cons (psd_for gd_1 PassesOwn.never rfl (pdi_range1 rfl hB.range pd_int) (pg_name (i := 5) scL_names.nd rfl (by first | exact Or.inl rfl | exact Or.inr rfl)) (psd_cons (psd_asg (ps_set (i := 8) scL_names.nd rfl (by first | exact Or.inl rfl | exact Or.inr rfl) (pd_ix (pd_v (pv 1)) (pd_op op_mod rd_mod (pd_op op_addD rd_add (pd_op op_fdiv rd_fdiv (pd_v (pv 0)) pd_int) (pd_op op_mulD rd_mul pd_int (pd_v (pv 5)))) pd_int) (fun _ _ => rfl)))) (psd_one (psd_app (ps_expr (pe_bm PySem.F.plainAttrs_list PySem.F.slot_list_append PySem.F.type_list_append mt_append (pv 7) (pa_cons (pd_op op_addD rd_add (pd_op op_addD rd_add (pd_sl (pd_v (pv 2)) pdo_none (pdo_some (pd_v (pv 6)))) (pd_v (pv 8))) (pd_sl (pd_v (pv 2)) (pdo_some (pd_v (pv 6))) (pdo_some (pd_v (pv 4))))) pa_nil))))))) (psd_one (psd_frz 7 (psd_ret (pd_v (pv 7))))))))))))
abbrev sL_made : Stmt := top 55
abbrev NL_made : List Str := ["_law_script", "_law_spot", "_law_names_here", "_law_deep_here", "_law_ahead_here", "_law_cell", "_law_more", "_law_kinds", "_law_kind", "_law_one"]
theorem scL_made : FnScope NL_made ["_law_script", "_law_spot", "_law_names_here", "_law_deep_here", "_law_ahead_here"] (defScope sL_made) := ⟨rfl, rfl, rfl, by decide +kernel, rfl, by decide +kernel, by decide +kernel⟩
def gL_made (FL_draw : List PyData → List PyData → Option (PyData × List PyData)) (FL_made : List PyData → List PyData → Option (PyData × List PyData)) : Rho → Option Out := (gSeq (gSetE 5 (fCaC 2 FL_draw 1 (fV 0) fNil)) (gSeq (gSet 6 (f2 fdivD (fV 5) (fC (.int 14)))) (gSeq (gIf (fOrT (fB (f2 (rb fun i j => decide (i < j)) (fV 3) (fC (.int 2)))) (fB (f2 (rb fun i j => decide (i < j)) (f2 modD (fV 5) (fC (.int 14))) (fC (.int 2))))) (gSeq (gIf (fB (f2 eqP (f2 modD (fV 6) (fC (.int 9))) (fC (.int 4)))) (gRet (fTup (fCons (fC (.str "yes")) fNil))) gNx) (gRet (fTup (fCons (fC (.str "mark")) (fCons (f2 ixD (fV 2) (f2 modD (fV 6) (fC (.int 3)))) fNil))))) gNx) (gSeq (gSet 7 (fC (.str "not and or before since not and before since or since before"))) (gSeq (gIf (fB (fV 4)) (gSet 7 (fC (.str "not and or next until within until next since before until within"))) gNx) (gSeq (gSet 8 (f2 ixD (fMt splitD (fV 7) (fCons (fC (.str " ")) fNil)) (f2 (ri fun i j => i - j) (f2 modD (fV 5) (fC (.int 14))) (fC (.int 2))))) (gSeq (gSet 4 (fAnd (fV 4) (f2 niP (fV 8) (fTup (fCons (fC (.str "before")) (fCons (fC (.str "since")) fNil)))))) (gSeq (gSetE 9 (fCaC 5 FL_made 1 (fV 0) (fCons (fV 2) (fCons (f2 (ri fun i j => i - j) (fV 3) (fC (.int 1))) (fCons (fV 4) fNil))))) (gSeq (gIf (fB (f2 eqP (fV 8) (fC (.str "within")))) (gRet (fTup (fCons (fV 8) (fCons (f2 ixD (fLst (fCons (fC (.int 1)) (fCons (fC (.int 2)) (fCons (fC (.int 0)) (fCons (fC (.int 1)) (fCons (f2 modD (f2 fdivD (fV 6) (fC (.int 6))) (fC (.int 5))) fNil)))))) (f2 modD (fV 6) (fC (.int 5)))) (fCons (fV 9) fNil))))) gNx) (gSeq (gIf (fB (f2 inP (fV 8) (fTup (fCons (fC (.str "not")) (fCons (fC (.str "next")) (fCons (fC (.str "before")) fNil)))))) (gRet (fTup (fCons (fV 8) (fCons (fV 9) fNil)))) gNx) (gRetE (fTupE (fE2 (fV 8) (fE2 (fV 9) (fE1 (fCaC 5 FL_made 1 (fV 0) (fCons (fV 2) (fCons (f2 (ri fun i j => i - j) (fV 3) (fC (.int 1))) (fCons (fV 4) fNil)))) fNil)))))))))))))))
theorem okL_made {k : Nat} {FL_draw : List PyData → List PyData → Option (PyData × List PyData)} {FL_made : List PyData → List PyData → Option (PyData × List PyData)} {R : List PyData → List PyData → Option (PyData × List PyData)} (hB : Bl mg) (D : Df K mg "_law_made" sL_made ["_law_script", "_law_spot", "_law_names_here", "_law_deep_here", "_law_ahead_here"]) (hF : ∀ a ds xs r, ds.length + 1 = 5 → R ds xs = some r → retC a ((gL_made FL_draw FL_made) (startC 10 a ds xs)) = some r) (cL_draw : KnC P w K mg base k 2 "_law_draw" FL_draw) (cL_made : KnC P w K mg base k 5 "_law_made" FL_made) : KnC P w K mg base (k + 1) 5 "_law_made" R := by
  refine knC_of (P := P) (w := w) (base := base) (N := NL_made) (ps := ["_law_script", "_law_spot", "_law_names_here", "_law_deep_here", "_law_ahead_here"]) (g := gL_made FL_draw FL_made) D scL_made hF fun f cdv A outer s H E hr => ?_
  exact (psd_cons (psd_asgE (ps_set (i := 5) scL_made.nd rfl (by first | exact Or.inl rfl | exact Or.inr rfl) (pde_knC cL_draw hr (pd_v (pv 0)) (pv 1) pda_nil))) (psd_cons (psd_asg (ps_set (i := 6) scL_made.nd rfl (by first | exact Or.inl rfl | exact Or.inr rfl) (pd_op op_fdiv rd_fdiv (pd_v (pv 5)) pd_int))) (psd_cons (psd_if (pdt_w (pdw_or (pdt_cmp op_lt rd_rb (pd_v (pv 3)) pd_int (nomark _)) (pdw_or1 (pdt_cmp op_lt rd_rb (pd_op op_mod rd_mod (pd_v (pv 5)) pd_int) pd_int (nomark _))))) (psd_cons (psd_if (pdt_cmp (op_eqA hr.units) rd_eq (pd_op op_mod rd_mod (pd_v (pv 6)) pd_int) pd_int (nomark _)) (psd_one (psd_ret (pd_tup (pda_cons pd_str pda_nil)))) psd_nil) (psd_one (psd_ret (pd_tup (pda_cons pd_str (pda_cons (pd_ix (pd_v (pv 2)) (pd_op op_mod rd_mod (pd_v (pv 6)) pd_int) (fun _ _ => rfl)) pda_nil)))))) psd_nil) (psd_cons (psd_asg (ps_set (i := 7) scL_made.nd rfl (by first | exact Or.inl rfl | exact Or.inr rfl) pd_str)) (psd_cons (psd_if (pdt_val (pd_v (pv 4))) (psd_one (psd_asg (ps_set (i := 7) scL_made.nd rfl (by first | exact Or.inl rfl | exact Or.inr rfl) pd_str))) psd_nil) (psd_cons (psd_asg (ps_set (i := 8) scL_made.nd rfl (by first | exact Or.inl rfl | exact Or.inr rfl) (pd_ix (pd_bm PySem.F.plainAttrs_str PySem.F.slot_str_split PySem.F.type_str_split mt_split rm_split ty_split (pd_v (pv 7)) (pda_cons pd_str pda_nil)) (pd_op op_sub rd_sub (pd_op op_mod rd_mod (pd_v (pv 5)) pd_int) pd_int) (fun _ _ => rfl)))) (psd_cons (psd_asg (ps_set (i := 4) scL_made.nd rfl (by first | exact Or.inl rfl | exact Or.inr rfl) (pd_and (pd_v (pv 4)) (pd_one (pd_cmp (op_niA (units65 hr)) rd_ni (pd_v (pv 8)) (pd_tup (pda_cons pd_str (pda_cons pd_str pda_nil))) (by rfl)))))) (psd_cons (psd_asgE (ps_set (i := 9) scL_made.nd rfl (by first | exact Or.inl rfl | exact Or.inr rfl) (pde_knC cL_made hr (pd_v (pv 0)) (pv 1) (pda_cons (pd_v (pv 2)) (pda_cons (pd_op op_sub rd_sub (pd_v (pv 3)) pd_int) (pda_cons (pd_v (pv 4)) pda_nil)))))) (psd_cons (psd_if (pdt_cmp (op_eqA hr.units) rd_eq (pd_v (pv 8)) pd_str (nomark _)) (psd_one (psd_ret (pd_tup (pda_cons (pd_v (pv 8)) (pda_cons (pd_ix (pd_lst (pda_cons pd_int (pda_cons pd_int (pda_cons pd_int (pda_cons pd_int (pda_cons (pd_op op_mod rd_mod (pd_op op_fdiv rd_fdiv (pd_v (pv 6)) pd_int) pd_int) pda_nil)))))) (pd_op op_mod rd_mod (pd_v (pv 6)) pd_int) (fun _ _ => rfl)) (pda_cons (pd_v (pv 9)) pda_nil)))))) psd_nil) (psd_cons (psd_if (pdt_cmp (op_inA (units65 hr)) rd_in (pd_v (pv 8)) (pd_tup (pda_cons pd_str (pda_cons pd_str (pda_cons pd_str pda_nil)))) (by rfl)) (psd_one (psd_ret (pd_tup (pda_cons (pd_v (pv 8)) (pda_cons (pd_v (pv 9)) pda_nil))))) psd_nil) (psd_one (psd_retE (pde_tup (pdae_cons (pd_v (pv 8)) (pdae_cons (pd_v (pv 9)) (pdae_first (pde_knC cL_made hr (pd_v (pv 0)) (pv 1) (pda_cons (pd_v (pv 2)) (pda_cons (pd_op op_sub rd_sub (pd_v (pv 3)) pd_int) (pda_cons (pd_v (pv 4)) pda_nil)))) pda_nil))))))))))))))))
abbrev sL_all : Stmt := top 56
abbrev NL_all : List Str := ["_law_statement", "_law_found", "_law_part"]
theorem scL_all : FnScope NL_all ["_law_statement"] (defScope sL_all) := ⟨rfl, rfl, rfl, by decide +kernel, rfl, by decide +kernel, by decide +kernel⟩
def gL_all (FL_all : List PyData → Option PyData) : Rho → Option Out := (gSeq (gSet 1 (fLst (fCons (fV 0) fNil))) (gSeq (gFor (fSeq (fSl (fV 0) (fO (fC (.int 1))) fO0)) (b1 2) (gIf (fB (f1 (isiD "tuple") (fV 2))) (gSet 1 (f2 addD (fV 1) (fCa 1 FL_all (fCons (fV 2) fNil)))) gNx)) (gRet (fV 1))))
theorem okL_all {k : Nat} {FL_all : List PyData → Option PyData} (hB : Bl mg) (D : Df K mg "_law_all" sL_all ["_law_statement"]) (cL_all : Kn P w K mg base k 1 "_law_all" FL_all) : Kn P w K mg base (k + 1) 1 "_law_all" (fnD 3 (gL_all FL_all)) := by
  refine kn_of (P := P) (w := w) (base := base) (N := NL_all) (ps := ["_law_statement"]) (g := gL_all FL_all) D scL_all fun f cdv A outer s H E hr => ?_
  exact (psd_cons (psd_asg (ps_set (i := 1) scL_all.nd rfl (by first | exact Or.inl rfl | exact Or.inr rfl) (pd_lst (pda_cons (pd_v (pv 0)) pda_nil)))) (psd_cons (psd_for gd_1 PassesOwn.never rfl (pdi_seq (pd_sl (pd_v (pv 0)) (pdo_some pd_int) pdo_none)) (pg_name (i := 2) scL_all.nd rfl (by first | exact Or.inl rfl | exact Or.inr rfl)) (psd_one (psd_if (pdt_val (pd_isi rfl hB.isinstance (pd_v (pv 2)) (pe_bltn rfl hB.tuple (by decide +kernel) rfl))) (psd_one (psd_asg (ps_set (i := 1) scL_all.nd rfl (by first | exact Or.inl rfl | exact Or.inr rfl) (pd_op op_addD rd_add (pd_v (pv 1)) (pd_kn cL_all hr (pda_cons (pd_v (pv 2)) pda_nil)))))) psd_nil))) (psd_one (psd_ret (pd_v (pv 1))))))
abbrev sL_wishes : Stmt := top 57
abbrev NL_wishes : List Str := ["_law_statement", "_law_found", "_law_one", "_law_more", "_law_k", "_law_other"]
theorem scL_wishes : FnScope NL_wishes ["_law_statement"] (defScope sL_wishes) := ⟨rfl, rfl, rfl, by decide +kernel, rfl, by decide +kernel, by decide +kernel⟩
def gL_wishes (FL_all : List PyData → Option PyData) : Rho → Option Out := (gSeq (gSet 1 (fLst (fCons (fV 0) fNil))) (gSeq (gFor (fSeq (fCa 1 FL_all (fCons (fV 0) fNil))) (b1 2) (gSeq (gSet 3 (fLst fNil)) (gSeq (gIf (fB (f2 eqP (f2 ixD (fV 2) (fC (.int 0))) (fC (.str "next")))) (gSet 3 (fLst (fCons (f2 ixD (fV 2) (fC (.int 1))) fNil))) (gIf (fB (f2 eqP (f2 ixD (fV 2) (fC (.int 0))) (fC (.str "until")))) (gSet 3 (fLst (fCons (fV 2) fNil))) (gIf (fB (f2 eqP (f2 ixD (fV 2) (fC (.int 0))) (fC (.str "within")))) (gSet 3 (fLc (fR1 (f2 ixD (fV 2) (fC (.int 1)))) (b1 4) tYesD (fTup (fCons (fC (.str "within")) (fCons (fV 4) (fCons (f2 ixD (fV 2) (fC (.int 2))) fNil)))) [4])) gNx))) (gSet 1 (f2 addD (fV 1) (fLc (fSeq (fV 3)) (b1 5) (fB (f2 niP (fV 5) (fV 1))) (fV 5) [5])))))) (gRet (fV 1))))
theorem okL_wishes {k : Nat} {FL_all : List PyData → Option PyData} (hB : Bl mg) (D : Df K mg "_law_wishes" sL_wishes ["_law_statement"]) (cL_all : Kn P w K mg base k 1 "_law_all" FL_all) : Kn P w K mg base (k + 1) 1 "_law_wishes" (fnD 6 (gL_wishes FL_all)) := by
  refine kn_of (P := P) (w := w) (base := base) (N := NL_wishes) (ps := ["_law_statement"]) (g := gL_wishes FL_all) D scL_wishes fun f cdv A outer s H E hr => ?_
  exact (psd_cons (psd_asg (ps_set (i := 1) scL_wishes.nd rfl (by first | exact Or.inl rfl | exact Or.inr rfl) (pd_lst (pda_cons (pd_v (pv 0)) pda_nil)))) (psd_cons (psd_for gd_1 PassesOwn.never rfl (pdi_seq (pd_kn cL_all hr (pda_cons (pd_v (pv 0)) pda_nil))) (pg_name (i := 2) scL_wishes.nd rfl (by first | exact Or.inl rfl | exact Or.inr rfl)) (psd_cons (psd_asg (ps_set (i := 3) scL_wishes.nd rfl (by first | exact Or.inl rfl | exact Or.inr rfl) (pd_lst pda_nil))) (psd_cons (psd_if (pdt_cmp (op_eqA hr.units) rd_eq (pd_ix (pd_v (pv 2)) pd_int (fun _ _ => rfl)) pd_str (nomark _)) (psd_one (psd_asg (ps_set (i := 3) scL_wishes.nd rfl (by first | exact Or.inl rfl | exact Or.inr rfl) (pd_lst (pda_cons (pd_ix (pd_v (pv 2)) pd_int (fun _ _ => rfl)) pda_nil))))) (psd_one (psd_if (pdt_cmp (op_eqA hr.units) rd_eq (pd_ix (pd_v (pv 2)) pd_int (fun _ _ => rfl)) pd_str (nomark _)) (psd_one (psd_asg (ps_set (i := 3) scL_wishes.nd rfl (by first | exact Or.inl rfl | exact Or.inr rfl) (pd_lst (pda_cons (pd_v (pv 2)) pda_nil))))) (psd_one (psd_if (pdt_cmp (op_eqA hr.units) rd_eq (pd_ix (pd_v (pv 2)) pd_int (fun _ _ => rfl)) pd_str (nomark _)) (psd_one (psd_setLc (i := 3) gd_1 (by decide) rfl scL_wishes.nd rfl rfl (sw_true rfl rfl rfl (by decide +kernel)) (pdi_range1 rfl hB.range (pd_ix (pd_v (pv 2)) pd_int (fun _ _ => rfl))) (blkOk_by (N := NL_wishes) (sc := defScope sL_wishes) (own := [("_law_k", 4)]) (by decide +kernel)) (fun _ _ _ _ _ => (pg_name (i := 4) scL_wishes.nd rfl (by first | exact Or.inl rfl | exact Or.inr rfl))) (fun _ _ _ _ _ => pdts_nil) (fun _ _ _ _ _ => (pd_tup (pda_cons pd_str (pda_cons (pd_v (pv 4)) (pda_cons (pd_ix (pd_v (pv 2)) pd_int (fun _ _ => rfl)) pda_nil))))))) psd_nil))))) (psd_one (psd_asg (ps_set (i := 1) scL_wishes.nd rfl (by first | exact Or.inl rfl | exact Or.inr rfl) (pd_op op_addD rd_add (pd_v (pv 1)) (pd_lc gd_1 (by decide) rfl scL_wishes.nd (pdi_seq (pd_v (pv 3))) (blkOk_by (N := NL_wishes) (sc := defScope sL_wishes) (own := [("_law_other", 5)]) (by decide +kernel)) (fun _ _ _ _ _ => (pg_name (i := 5) scL_wishes.nd rfl (by first | exact Or.inl rfl | exact Or.inr rfl))) (fun _ _ _ _ _ => pdts_one (pdt_cmp (op_niA (units65 hr)) rd_ni (pd_v (pv 5)) (pd_v (pv 1)) (by rfl))) (fun _ _ _ _ _ => (pd_v (pv 5))))))))))) (psd_one (psd_ret (pd_v (pv 1))))))
abbrev sL_fit : Stmt := top 58
abbrev NL_fit : List Str := ["_law_statement", "_law_most"]
theorem scL_fit : FnScope NL_fit ["_law_statement", "_law_most"] (defScope sL_fit) := ⟨rfl, rfl, rfl, by decide +kernel, rfl, by decide +kernel, by decide +kernel⟩
def gL_fit (FL_wishes : List PyData → Option PyData) : Rho → Option Out := (gSeq (whileGo (fB (f2 (rb fun i j => decide (j < i)) (fCl (one1 lenD) (fCons (fCa 1 FL_wishes (fCons (fV 0) fNil)) fNil)) (fV 1))) (gSet 0 (f2 ixD (fV 0) (f1 negD (fC (.int 1))))) 1000) (gRet (fV 0)))
theorem okL_fit {k : Nat} {FL_wishes : List PyData → Option PyData} (hB : Bl mg) (D : Df K mg "_law_fit" sL_fit ["_law_statement", "_law_most"]) (cL_wishes : Kn P w K mg base k 1 "_law_wishes" FL_wishes) : Kn P w K mg base (k + 1) 2 "_law_fit" (fnD 2 (gL_fit FL_wishes)) := by
  refine kn_of (P := P) (w := w) (base := base) (N := NL_fit) (ps := ["_law_statement", "_law_most"]) (g := gL_fit FL_wishes) D scL_fit fun f cdv A outer s H E hr => ?_
  exact (psd_cons (psd_while 1000 PassesOwn.never (pdt_cmp op_gt rd_rb (pd_bi call_lenD0 rc_len rfl hB.len (by decide +kernel) (pda_cons (pd_kn cL_wishes hr (pda_cons (pd_v (pv 0)) pda_nil)) pda_nil)) (pd_v (pv 1)) (nomark _)) (psd_one (psd_asg (ps_set (i := 0) scL_fit.nd rfl (by first | exact Or.inl rfl | exact Or.inr rfl) (pd_ix (pd_v (pv 0)) (pd_neg pd_int) (fun _ _ => rfl)))))) (psd_one (psd_ret (pd_v (pv 0)))))
abbrev sL_built : Stmt := top 59
abbrev NL_built : List Str := ["_law_script", "_law_names_here", "_law_most", "_law_spot", "_law_deep_here"]
theorem scL_built : FnScope NL_built ["_law_script", "_law_names_here", "_law_most"] (defScope sL_built) := ⟨rfl, rfl, rfl, by decide +kernel, rfl, by decide +kernel, by decide +kernel⟩
def gL_built (FL_cell_at : List PyData → Option PyData) (FL_fit : List PyData → Option PyData) (FL_made : List PyData → List PyData → Option (PyData × List PyData)) : Rho → Option Out := (gSeq (gOwn 3 (fCons (fC (.int 2)) fNil)) (gSeq (gSet 4 (f2 addD (fC (.int 5)) (fCl (one1 intD) (fCons (f2 eqP (f2 modD (fCa 2 FL_cell_at (fCons (fV 0) (fCons (fC (.int 1)) fNil))) (fC (.int 8))) (fC (.int 5))) fNil)))) (gRetE (fCaE 2 FL_fit (fE1 (fCaC 5 FL_made 3 (fV 0) (fCons (fV 1) (fCons (fV 4) (fCons (fC (.bool true)) fNil)))) (fCons (fV 2) fNil))))))
theorem okL_built {k : Nat} {FL_cell_at : List PyData → Option PyData} {FL_fit : List PyData → Option PyData} {FL_made : List PyData → List PyData → Option (PyData × List PyData)} (hB : Bl mg) (D : Df K mg "_law_built" sL_built ["_law_script", "_law_names_here", "_law_most"]) (cL_cell_at : Kn P w K mg base k 2 "_law_cell_at" FL_cell_at) (cL_fit : Kn P w K mg base k 2 "_law_fit" FL_fit) (cL_made : KnC P w K mg base k 5 "_law_made" FL_made) : Kn P w K mg base (k + 1) 3 "_law_built" (fnD 5 (gL_built FL_cell_at FL_fit FL_made)) := by
  refine kn_of (P := P) (w := w) (base := base) (N := NL_built) (ps := ["_law_script", "_law_names_here", "_law_most"]) (g := gL_built FL_cell_at FL_fit FL_made) D scL_built fun f cdv A outer s H E hr => ?_
  exact (psd_cons (psd_own (ps_set (i := 3) scL_built.nd rfl (by first | exact Or.inl rfl | exact Or.inr rfl) (pe_lst (pda_cons pd_int pda_nil)))) (psd_cons (psd_asg (ps_set (i := 4) scL_built.nd rfl (by first | exact Or.inl rfl | exact Or.inr rfl) (pd_op op_addD rd_add pd_int (pd_ty call_int1 rc_int rfl hB.int (by decide +kernel) (pda_cons (pd_cmp (op_eqA hr.units) rd_eq (pd_op op_mod rd_mod (pd_kn cL_cell_at hr (pda_cons (pd_v (pv 0)) (pda_cons pd_int pda_nil))) pd_int) pd_int (nomark _)) pda_nil))))) (psd_one (psd_retE (pde_kn cL_fit hr (pdae_first (pde_knC cL_made hr (pd_v (pv 0)) (pv 3) (pda_cons (pd_v (pv 1)) (pda_cons (pd_v (pv 4)) (pda_cons pd_bl pda_nil)))) (pda_cons (pd_v (pv 2)) pda_nil)))))))
abbrev sL_put : Stmt := top 60
abbrev NL_put : List Str := ["_law_statement", "_law_at", "_law_other", "_law_made_here", "_law_part"]
theorem scL_put : FnScope NL_put ["_law_statement", "_law_at", "_law_other"] (defScope sL_put) := ⟨rfl, rfl, rfl, by decide +kernel, rfl, by decide +kernel, by decide +kernel⟩
def gL_put (FL_put : List PyData → Option PyData) : Rho → Option Out := (gSeq (gIf (fB (f2 eqP (fV 1) (fC (.int 0)))) (gRet (fTup (fCons (fV 2) (fCons (f1 negD (fC (.int 1))) fNil)))) gNx) (gSeq (gSet 1 (f2 (ri fun i j => i - j) (fV 1) (fC (.int 1)))) (gSeq (gOwn 3 fNil) (gSeq (gFor (fSeq (fV 0)) (b1 4) (gSeq (gIf (fAndT (fB (f1 (isiD "tuple") (fV 4))) (fB (f2 (rb fun i j => decide (j ≤ i)) (fV 1) (fC (.int 0))))) (gAsg (b2 4 1) (fCa 3 FL_put (fCons (fV 4) (fCons (fV 1) (fCons (fV 2) fNil))))) gNx) (gApp 3 (fV 4)))) (fun ρ => (gRet (fTup (fCons (fCl (one1 tupleD) (fCons (fV 3) fNil)) (fCons (fV 1) fNil)))) (frz 3 ρ))))))
theorem okL_put {k : Nat} {FL_put : List PyData → Option PyData} (hB : Bl mg) (D : Df K mg "_law_put" sL_put ["_law_statement", "_law_at", "_law_other"]) (cL_put : Kn P w K mg base k 3 "_law_put" FL_put) : Kn P w K mg base (k + 1) 3 "_law_put" (fnD 5 (gL_put FL_put)) := by
  refine kn_of (P := P) (w := w) (base := base) (N := NL_put) (ps := ["_law_statement", "_law_at", "_law_other"]) (g := gL_put FL_put) D scL_put fun f cdv A outer s H E hr => ?_
  exact (psd_cons (psd_if (pdt_cmp (op_eqA hr.units) rd_eq (pd_v (pv 1)) pd_int (nomark _)) (psd_one (psd_ret (pd_tup (pda_cons (pd_v (pv 2)) (pda_cons (pd_neg pd_int) pda_nil))))) psd_nil) (psd_cons (psd_asg (ps_set (i := 1) scL_put.nd rfl (by first | exact Or.inl rfl | exact Or.inr rfl) (pd_op op_sub rd_sub (pd_v (pv 1)) pd_int))) (psd_cons (psd_own (ps_set (i := 3) scL_put.nd rfl (by first | exact Or.inl rfl | exact Or.inr rfl) (pe_lst pda_nil))) (psd_cons (psd_for gd_1 PassesOwn.never rfl (pdi_seq (pd_v (pv 0))) (pg_name (i := 4) scL_put.nd rfl (by first | exact Or.inl rfl | exact Or.inr rfl)) (psd_cons (psd_if (pdt_w (pdw_and (pdt_val (pd_isi rfl hB.isinstance (pd_v (pv 4)) (pe_bltn rfl hB.tuple (by decide +kernel) rfl))) (pdw_and1 (pdt_cmp op_ge rd_rb (pd_v (pv 1)) pd_int (nomark _))))) (psd_one (psd_asgG gd_2 (ps_asg (pd_kn cL_put hr (pda_cons (pd_v (pv 4)) (pda_cons (pd_v (pv 1)) (pda_cons (pd_v (pv 2)) pda_nil)))) (pg_tup rfl (pgs_cons (pg_name (i := 4) scL_put.nd rfl (by first | exact Or.inl rfl | exact Or.inr rfl)) (pgs_cons (pg_name (i := 1) scL_put.nd rfl (by first | exact Or.inl rfl | exact Or.inr rfl)) pgs_nil)))))) psd_nil) (psd_one (psd_app (ps_expr (pe_bm PySem.F.plainAttrs_list PySem.F.slot_list_append PySem.F.type_list_append mt_append (pv 3) (pa_cons (pd_v (pv 4)) pa_nil))))))) (psd_one (psd_frz 3 (psd_ret (pd_tup (pda_cons (pd_ty call_tuple_of rc_tuple rfl hB.tuple (by decide +kernel) (pda_cons (pd_v (pv 3)) pda_nil)) (pda_cons (pd_v (pv 1)) pda_nil))))))))))
abbrev sL_no_statement : Stmt := top 61
abbrev NL_no_statement : List Str := ["_law_cell", "_law_names_here", "_law_good", "_law_some"]
theorem scL_no_statement : FnScope NL_no_statement ["_law_cell", "_law_names_here"] (defScope sL_no_statement) := ⟨rfl, rfl, rfl, by decide +kernel, rfl, by decide +kernel, by decide +kernel⟩
def gL_no_statement : Rho → Option Out := (gSeq (gSet 2 (fTup (fCons (fC (.str "mark")) (fCons (f2 ixD (fV 1) (fC (.int 0))) fNil)))) (gSeq (gSet 3 (fLst (fCons (fTup (fCons (fC (.str "mark")) (fCons (fC (.str "")) fNil))) (fCons (fTup (fCons (fC (.str "mark")) (fCons (fC (.str "A")) fNil))) (fCons (fTup (fCons (fC (.str "mark")) (fCons (fC (.str "abcdefg")) fNil))) (fCons (fTup (fCons (fC (.str "mark")) (fCons (fC (.int 5)) fNil))) (fCons (fTup (fCons (fC (.str "mark")) fNil)) (fCons (fTup (fCons (fC (.str "mark")) (fCons (f2 ixD (fV 1) (fC (.int 0))) (fCons (f2 ixD (fV 1) (fC (.int 1))) fNil)))) fNil)))))))) (gSeq (gSet 3 (f2 addD (fV 3) (fLst (fCons (fTup (fCons (fC (.str "yes")) (fCons (fC (.int 1)) fNil))) (fCons (fTup (fCons (fC (.str "no")) fNil)) (fCons (fTup (fCons (fC (.str "not")) fNil)) (fCons (fTup (fCons (fC (.str "not")) (fCons (fV 2) (fCons (fV 2) fNil)))) (fCons (fTup (fCons (fC (.str "and")) (fCons (fV 2) fNil))) (fCons (fTup (fCons (fC (.str "or")) (fCons (fV 2) (fCons (fV 2) (fCons (fV 2) fNil))))) fNil))))))))) (gSeq (gSet 3 (f2 addD (fV 3) (fLst (fCons (fTup (fCons (fC (.str "next")) (fCons (f2 ixD (fV 1) (fC (.int 0))) fNil))) (fCons (fLst fNil) (fCons (fTup (fCons (fC (.str "until")) (fCons (fV 2) (fCons (fC .none) fNil)))) (fCons (fTup (fCons (fC (.str "since")) (fCons (fV 2) fNil))) (fCons (fTup (fCons (fC (.str "within")) (fCons (fC (.int 5)) (fCons (fV 2) fNil)))) fNil)))))))) (gSeq (gSet 3 (f2 addD (fV 3) (fLst (fCons (fTup (fCons (fC (.str "within")) (fCons (f1 negD (fC (.int 1))) (fCons (fV 2) fNil)))) (fCons (fTup (fCons (fC (.str "within")) (fCons (fC (.bool true)) (fCons (fV 2) fNil)))) (fCons (fTup (fCons (fC (.str "within")) (fCons (fV 2) (fCons (fC (.int 2)) fNil)))) (fCons (fTup (fCons (fC (.str "within")) (fCons (fC (.int 2)) fNil))) fNil))))))) (gSeq (gSet 3 (f2 addD (fV 3) (fLst (fCons (fTup (fCons (fC (.str "before")) (fCons (fLst (fCons (fV 2) fNil)) fNil))) (fCons (fC .none) (fCons (fC (.str "yes")) (fCons (fTup fNil) (fCons (fTup (fCons (fC (.str "mark")) (fCons (f2 addD (f2 ixD (fV 1) (fC (.int 0))) (fC (.str " "))) fNil))) (fCons (fC (.int 7)) fNil))))))))) (gRet (f2 ixD (f2 addD (fV 3) (fLst (fCons (fTup (fCons (fLst (fCons (fC (.str "yes")) fNil)) fNil)) (fCons (fC (.dict [])) (fCons (fTup (fCons (fC (.str "mark")) (fCons (fTup (fCons (fC (.str "mark")) (fCons (f2 ixD (fV 1) (fC (.int 0))) fNil))) fNil))) (fCons (fTup (fCons (fC (.str "within")) (fCons (fC (.str "2")) (fCons (fV 2) fNil)))) fNil)))))) (f2 modD (fV 0) (fC (.int 31)))))))))))
theorem okL_no_statement {k : Nat} (hB : Bl mg) (D : Df K mg "_law_no_statement" sL_no_statement ["_law_cell", "_law_names_here"])  : Kn P w K mg base (k + 1) 2 "_law_no_statement" (fnD 4 (gL_no_statement )) := by
  refine kn_of (P := P) (w := w) (base := base) (N := NL_no_statement) (ps := ["_law_cell", "_law_names_here"]) (g := gL_no_statement ) D scL_no_statement fun f cdv A outer s H E hr => ?_
  exact (psd_cons (psd_asg (ps_set (i := 2) scL_no_statement.nd rfl (by first | exact Or.inl rfl | exact Or.inr rfl) (pd_tup (pda_cons pd_str (pda_cons (pd_ix (pd_v (pv 1)) pd_int (fun _ _ => rfl)) pda_nil))))) (psd_cons (psd_asg (ps_set (i := 3) scL_no_statement.nd rfl (by first | exact Or.inl rfl | exact Or.inr rfl) (pd_lst (pda_cons (pd_tup (pda_cons pd_str (pda_cons pd_str pda_nil))) (pda_cons (pd_tup (pda_cons pd_str (pda_cons pd_str pda_nil))) (pda_cons (pd_tup (pda_cons pd_str (pda_cons pd_str pda_nil))) (pda_cons (pd_tup (pda_cons pd_str (pda_cons pd_int pda_nil))) (pda_cons (pd_tup (pda_cons pd_str pda_nil)) (pda_cons (pd_tup (pda_cons pd_str (pda_cons (pd_ix (pd_v (pv 1)) pd_int (fun _ _ => rfl)) (pda_cons (pd_ix (pd_v (pv 1)) pd_int (fun _ _ => rfl)) pda_nil)))) pda_nil))))))))) (psd_cons (psd_asg (ps_set (i := 3) scL_no_statement.nd rfl (by first | exact Or.inl rfl | exact Or.inr rfl) (pd_op op_addD rd_add (pd_v (pv 3)) (pd_lst (pda_cons (pd_tup (pda_cons pd_str (pda_cons pd_int pda_nil))) (pda_cons (pd_tup (pda_cons pd_str pda_nil)) (pda_cons (pd_tup (pda_cons pd_str pda_nil)) (pda_cons (pd_tup (pda_cons pd_str (pda_cons (pd_v (pv 2)) (pda_cons (pd_v (pv 2)) pda_nil)))) (pda_cons (pd_tup (pda_cons pd_str (pda_cons (pd_v (pv 2)) pda_nil))) (pda_cons (pd_tup (pda_cons pd_str (pda_cons (pd_v (pv 2)) (pda_cons (pd_v (pv 2)) (pda_cons (pd_v (pv 2)) pda_nil))))) pda_nil)))))))))) (psd_cons (psd_asg (ps_set (i := 3) scL_no_statement.nd rfl (by first | exact Or.inl rfl | exact Or.inr rfl) (pd_op op_addD rd_add (pd_v (pv 3)) (pd_lst (pda_cons (pd_tup (pda_cons pd_str (pda_cons (pd_ix (pd_v (pv 1)) pd_int (fun _ _ => rfl)) pda_nil))) (pda_cons (pd_lst pda_nil) (pda_cons (pd_tup (pda_cons pd_str (pda_cons (pd_v (pv 2)) (pda_cons pd_non pda_nil)))) (pda_cons (pd_tup (pda_cons pd_str (pda_cons (pd_v (pv 2)) pda_nil))) (pda_cons (pd_tup (pda_cons pd_str (pda_cons pd_int (pda_cons (pd_v (pv 2)) pda_nil)))) pda_nil))))))))) (psd_cons (psd_asg (ps_set (i := 3) scL_no_statement.nd rfl (by first | exact Or.inl rfl | exact Or.inr rfl) (pd_op op_addD rd_add (pd_v (pv 3)) (pd_lst (pda_cons (pd_tup (pda_cons pd_str (pda_cons (pd_neg pd_int) (pda_cons (pd_v (pv 2)) pda_nil)))) (pda_cons (pd_tup (pda_cons pd_str (pda_cons pd_bl (pda_cons (pd_v (pv 2)) pda_nil)))) (pda_cons (pd_tup (pda_cons pd_str (pda_cons (pd_v (pv 2)) (pda_cons pd_int pda_nil)))) (pda_cons (pd_tup (pda_cons pd_str (pda_cons pd_int pda_nil))) pda_nil)))))))) (psd_cons (psd_asg (ps_set (i := 3) scL_no_statement.nd rfl (by first | exact Or.inl rfl | exact Or.inr rfl) (pd_op op_addD rd_add (pd_v (pv 3)) (pd_lst (pda_cons (pd_tup (pda_cons pd_str (pda_cons (pd_lst (pda_cons (pd_v (pv 2)) pda_nil)) pda_nil))) (pda_cons pd_non (pda_cons pd_str (pda_cons (pd_tup pda_nil) (pda_cons (pd_tup (pda_cons pd_str (pda_cons (pd_op op_addD rd_add (pd_ix (pd_v (pv 1)) pd_int (fun _ _ => rfl)) pd_str) pda_nil))) (pda_cons pd_int pda_nil)))))))))) (psd_one (psd_ret (pd_ix (pd_op op_addD rd_add (pd_v (pv 3)) (pd_lst (pda_cons (pd_tup (pda_cons (pd_lst (pda_cons pd_str pda_nil)) pda_nil)) (pda_cons pd_emp (pda_cons (pd_tup (pda_cons pd_str (pda_cons (pd_tup (pda_cons pd_str (pda_cons (pd_ix (pd_v (pv 1)) pd_int (fun _ _ => rfl)) pda_nil))) pda_nil))) (pda_cons (pd_tup (pda_cons pd_str (pda_cons pd_str (pda_cons (pd_v (pv 2)) pda_nil)))) pda_nil)))))) (pd_op op_mod rd_mod (pd_v (pv 0)) pd_int) (fun _ _ => rfl))))))))))
abbrev sL_ahead : Stmt := top 62
abbrev NL_ahead : List Str := ["_law_statement", "_law_one"]
theorem scL_ahead : FnScope NL_ahead ["_law_statement"] (defScope sL_ahead) := ⟨rfl, rfl, rfl, by decide +kernel, rfl, by decide +kernel, by decide +kernel⟩
def gL_ahead (FL_all : List PyData → Option PyData) : Rho → Option Out := (gRet (f2 neP (fLc (fSeq (fCa 1 FL_all (fCons (fV 0) fNil))) (b1 1) (fB (f2 inP (f2 ixD (fV 1) (fC (.int 0))) (fTup (fCons (fC (.str "next")) (fCons (fC (.str "until")) (fCons (fC (.str "within")) fNil)))))) (fV 1) [1]) (fLst fNil)))
theorem okL_ahead {k : Nat} {FL_all : List PyData → Option PyData} (hB : Bl mg) (D : Df K mg "_law_ahead" sL_ahead ["_law_statement"]) (cL_all : Kn P w K mg base k 1 "_law_all" FL_all) : Kn P w K mg base (k + 1) 1 "_law_ahead" (fnD 2 (gL_ahead FL_all)) := by
  refine kn_of (P := P) (w := w) (base := base) (N := NL_ahead) (ps := ["_law_statement"]) (g := gL_ahead FL_all) D scL_ahead fun f cdv A outer s H E hr => ?_
  exact (psd_one (psd_ret (pd_cmp (op_neA hr.units) rd_ne (pd_lc gd_1 (by decide) rfl scL_ahead.nd (pdi_seq (pd_kn cL_all hr (pda_cons (pd_v (pv 0)) pda_nil))) (blkOk_by (N := NL_ahead) (sc := defScope sL_ahead) (own := [("_law_one", 1)]) (by decide +kernel)) (fun _ _ _ _ _ => (pg_name (i := 1) scL_ahead.nd rfl (by first | exact Or.inl rfl | exact Or.inr rfl))) (fun _ _ _ _ _ => pdts_one (pdt_cmp (op_inA (units65 hr)) rd_in (pd_ix (pd_v (pv 1)) pd_int (fun _ _ => rfl)) (pd_tup (pda_cons pd_str (pda_cons pd_str (pda_cons pd_str pda_nil)))) (by rfl))) (fun _ _ _ _ _ => (pd_v (pv 1)))) (pd_lst pda_nil) (nomark _))))
abbrev sL_mixed : Stmt := top 63
abbrev NL_mixed : List Str := ["_law_statement", "_law_one"]
theorem scL_mixed : FnScope NL_mixed ["_law_statement"] (defScope sL_mixed) := ⟨rfl, rfl, rfl, by decide +kernel, rfl, by decide +kernel, by decide +kernel⟩
def gL_mixed (FL_all : List PyData → Option PyData) (FL_ahead : List PyData → Option PyData) : Rho → Option Out := (gSeq (gFor (fSeq (fCa 1 FL_all (fCons (fV 0) fNil))) (b1 1) (gIf (fAndT (fB (f2 inP (f2 ixD (fV 1) (fC (.int 0))) (fTup (fCons (fC (.str "before")) (fCons (fC (.str "since")) fNil))))) (fB (fCa 1 FL_ahead (fCons (fV 1) fNil)))) (gRet (fC (.bool true))) gNx)) (gRet (fC (.bool false))))
theorem okL_mixed {k : Nat} {FL_all : List PyData → Option PyData} {FL_ahead : List PyData → Option PyData} (hB : Bl mg) (D : Df K mg "_law_mixed" sL_mixed ["_law_statement"]) (cL_all : Kn P w K mg base k 1 "_law_all" FL_all) (cL_ahead : Kn P w K mg base k 1 "_law_ahead" FL_ahead) : Kn P w K mg base (k + 1) 1 "_law_mixed" (fnD 2 (gL_mixed FL_all FL_ahead)) := by
  refine kn_of (P := P) (w := w) (base := base) (N := NL_mixed) (ps := ["_law_statement"]) (g := gL_mixed FL_all FL_ahead) D scL_mixed fun f cdv A outer s H E hr => ?_
  exact (psd_cons (psd_for gd_1 PassesOwn.never rfl (pdi_seq (pd_kn cL_all hr (pda_cons (pd_v (pv 0)) pda_nil))) (pg_name (i := 1) scL_mixed.nd rfl (by first | exact Or.inl rfl | exact Or.inr rfl)) (psd_one (psd_if (pdt_w (pdw_and (pdt_cmp (op_inA (units65 hr)) rd_in (pd_ix (pd_v (pv 1)) pd_int (fun _ _ => rfl)) (pd_tup (pda_cons pd_str (pda_cons pd_str pda_nil))) (by rfl)) (pdw_and1 (pdt_val (pd_kn cL_ahead hr (pda_cons (pd_v (pv 1)) pda_nil)))))) (psd_one (psd_ret pd_bl)) psd_nil))) (psd_one (psd_ret pd_bl)))
abbrev sL_deep : Stmt := top 64
abbrev NL_deep : List Str := ["_law_statement", "_law_part"]
theorem scL_deep : FnScope NL_deep ["_law_statement"] (defScope sL_deep) := ⟨rfl, rfl, rfl, by decide +kernel, rfl, by decide +kernel, by decide +kernel⟩
def gL_deep (FL_deep : List PyData → Option PyData) : Rho → Option Out := (gRet (f2 addD (fC (.int 1)) (fCl (one1 maxD) (fCons (f2 addD (fLc (fSeq (fSl (fV 0) (fO (fC (.int 1))) fO0)) (b1 1) (fB (f1 (isiD "tuple") (fV 1))) (fCa 1 FL_deep (fCons (fV 1) fNil)) [1]) (fLst (fCons (fC (.int 0)) fNil))) fNil))))
theorem okL_deep {k : Nat} {FL_deep : List PyData → Option PyData} (hB : Bl mg) (D : Df K mg "_law_deep" sL_deep ["_law_statement"]) (cL_deep : Kn P w K mg base k 1 "_law_deep" FL_deep) : Kn P w K mg base (k + 1) 1 "_law_deep" (fnD 2 (gL_deep FL_deep)) := by
  refine kn_of (P := P) (w := w) (base := base) (N := NL_deep) (ps := ["_law_statement"]) (g := gL_deep FL_deep) D scL_deep fun f cdv A outer s H E hr => ?_
  exact (psd_one (psd_ret (pd_op op_addD rd_add pd_int (pd_bi (cr_max rfl) rc_max rfl hB.max (by decide +kernel) (pda_cons (pd_op op_addD rd_add (pd_lc gd_1 (by decide) rfl scL_deep.nd (pdi_seq (pd_sl (pd_v (pv 0)) (pdo_some pd_int) pdo_none)) (blkOk_by (N := NL_deep) (sc := defScope sL_deep) (own := [("_law_part", 1)]) (by decide +kernel)) (fun _ _ _ _ _ => (pg_name (i := 1) scL_deep.nd rfl (by first | exact Or.inl rfl | exact Or.inr rfl))) (fun _ _ _ _ _ => pdts_one (pdt_val (pd_isi rfl hB.isinstance (pd_v (pv 1)) (pe_bltn rfl hB.tuple (by decide +kernel) rfl)))) (fun _ _ _ _ _ => (pd_kn cL_deep hr (pda_cons (pd_v (pv 1)) pda_nil)))) (pd_lst (pda_cons pd_int pda_nil))) pda_nil)))))
abbrev sL_word : Stmt := top 65
abbrev NL_word : List Str := ["_law_e", "_law_found"]
theorem scL_word : FnScope NL_word ["_law_e"] (defScope sL_word) := ⟨rfl, rfl, rfl, by decide +kernel, rfl, by decide +kernel, by decide +kernel⟩
def wordJ (n : Str) : Option Nat := if n = "BadStatement" then some 0 else if n = "Mixed" then some 1 else if n = "TooMany" then some 2 else none
def wordF (n : Str) : Option PyData := (wordJ n).map fun j => .int (j : Nat)
/-- what the head tells of the classes' kinds -/
structure Kinds (K : PySem.W.Frag) (n : Str) (j : Nat) : Prop where
  c : ExcC K (Tbs.Cl n)
  k0 : PySem.W.kitOne K (.ref (Tbs.Cl n)) (.ref (Tbs.Cl "BadStatement")) = some (decide (j = 0))
  k1 : PySem.W.kitOne K (.ref (Tbs.Cl n)) (.ref (Tbs.Cl "Mixed")) = some (decide (j = 1))
  k2 : PySem.W.kitOne K (.ref (Tbs.Cl n)) (.ref (Tbs.Cl "TooMany")) = some (decide (j = 2))
  k3 : PySem.W.kitOne K (.ref (Tbs.Cl n)) (.ref (Tbs.Cl "BadMark")) = some false
  k4 : PySem.W.kitOne K (.ref (Tbs.Cl n)) (.ref (Tbs.Cl "NoMark")) = some false
  k5 : PySem.W.kitOne K (.ref (Tbs.Cl n)) (.ref (Tbs.Cl "BadText")) = some false
  kV : PySem.W.kitOne K (.ref (Tbs.Cl n)) (.type "ValueError") = some true
theorem count_one {j : Nat} (h : j < 3) : countD (.list [.bool (decide (j = 0)), .bool (decide (j = 1)), .bool (decide (j = 2)), .bool false, .bool false, .bool false]) [.bool true] = some (.int 1) := by
  have : j = 0 ∨ j = 1 ∨ j = 2 := by omega
  rcases this with rfl | rfl | rfl <;> rfl
theorem index_one {j : Nat} (h : j < 3) : indexD (.list [.bool (decide (j = 0)), .bool (decide (j = 1)), .bool (decide (j = 2)), .bool false, .bool false, .bool false]) [.bool true] = some (.int (j : Nat)) := by
  have : j = 0 ∨ j = 1 ∨ j = 2 := by omega
  rcases this with rfl | rfl | rfl <;> rfl
theorem wordJ_lt {n : Str} {j : Nat} (h : wordJ n = some j) : j < 3 := by
  unfold wordJ at h
  split at h
  · cases h; decide
  · split at h
    · cases h; decide
    · split at h
      · cases h; decide
      · cases h
theorem okL_word {k : Nat} {f : Addr} {oc kV doc pm cdv ct : Value} {od an : Option Addr} {osl : Array (Option Value)} (hB : Bl mg) (zV : mg "ValueError" = none) (lk : K.lookup f = some ⟨oc, od, .func (PySem.W.fnOf "_law_word" "_law_word" (defArgs sL_word) (defBody sL_word) (defScope sL_word) .none kV doc pm an cdv ct), osl⟩) (hcd : PySem.W.codeIn K cdv "_law_word" = true) (hm : mg "_law_word" = some (.ref f)) (hk : PySem.W.keepIn K (.ref f) = true) (bd : L2.Binds K (PySem.W.fnOf "_law_word" "_law_word" (defArgs sL_word) (defBody sL_word) (defScope sL_word) .none kV doc pm an cdv ct) ["_law_e"] [])
    (gBadStatement : mg "BadStatement" = some (.ref (Tbs.Cl "BadStatement"))) (gMixed : mg "Mixed" = some (.ref (Tbs.Cl "Mixed"))) (gTooMany : mg "TooMany" = some (.ref (Tbs.Cl "TooMany"))) (gBadMark : mg "BadMark" = some (.ref (Tbs.Cl "BadMark"))) (gNoMark : mg "NoMark" = some (.ref (Tbs.Cl "NoMark"))) (gBadText : mg "BadText" = some (.ref (Tbs.Cl "BadText"))) (hK : ∀ n j, wordJ n = some j → Kinds K n j) : KnW P w K mg base (k + 1) "_law_word" wordF := by
  refine ⟨f, _, "_law_e", fnW_of (N := NL_word) lk hcd scL_word fun A outer s H B n p d Q hz hf hr hb hF q => ?_, hm, hk, bd⟩
  obtain ⟨a, oe⟩ := p
  obtain ⟨j, hj, rfl⟩ := Option.map_eq_some_iff.mp (show (wordJ n).map _ = some d from hF)
  have kd := hK n j hj
  have eC := kd.c
  have j3 := wordJ_lt hj
  have hp : (a, oe) ∈ (L2H.cxH CX0 P w K mg base NL_word "_law_word" (defScope sL_word) f cdv A outer s H E0 (a, oe)).pn := List.mem_singleton.mpr rfl
  have hu : (L2H.cxH CX0 P w K mg base NL_word "_law_word" (defScope sL_word) f cdv A outer s H E0 (a, oe)).A.units + 64 < cLine := by have := hr.un; show (A.deeper _).units + 64 < cLine; omega
  have hun : (L2H.cxH CX0 P w K mg base NL_word "_law_word" (defScope sL_word) f cdv A outer s H E0 (a, oe)).A.units + 65 < cLine := by have := hr.un; show (A.deeper _).units + 65 < cLine; omega
  refine ⟨_, pss_cons (ps_set (i := 1) scL_word.nd rfl (by first | exact Or.inl rfl | exact Or.inr rfl) (pe_lst (pa_cons (pe_callB (call_isP eC hp hz hf) (by rfl) hB.isinstance (by decide +kernel) (pa_cons (pv 0) (pa_cons (pe_glob (v := .ref (Tbs.Cl "BadStatement")) rfl gBadStatement rfl) pa_nil))) (pa_cons (pe_callB (call_isP eC hp hz hf) (by rfl) hB.isinstance (by decide +kernel) (pa_cons (pv 0) (pa_cons (pe_glob (v := .ref (Tbs.Cl "Mixed")) rfl gMixed rfl) pa_nil))) (pa_cons (pe_callB (call_isP eC hp hz hf) (by rfl) hB.isinstance (by decide +kernel) (pa_cons (pv 0) (pa_cons (pe_glob (v := .ref (Tbs.Cl "TooMany")) rfl gTooMany rfl) pa_nil))) (pa_cons (pe_callB (call_isP eC hp hz hf) (by rfl) hB.isinstance (by decide +kernel) (pa_cons (pv 0) (pa_cons (pe_glob (v := .ref (Tbs.Cl "BadMark")) rfl gBadMark rfl) pa_nil))) pa_nil)))))) (pss_cons (ps_set (i := 1) scL_word.nd rfl (by first | exact Or.inl rfl | exact Or.inr rfl) (pe_op op_addD (pv 1) (pe_lst (pa_cons (pe_callB (call_isP eC hp hz hf) (by rfl) hB.isinstance (by decide +kernel) (pa_cons (pv 0) (pa_cons (pe_glob (v := .ref (Tbs.Cl "NoMark")) rfl gNoMark rfl) pa_nil))) (pa_cons (pe_callB (call_isP eC hp hz hf) (by rfl) hB.isinstance (by decide +kernel) (pa_cons (pv 0) (pa_cons (pe_glob (v := .ref (Tbs.Cl "BadText")) rfl gBadText rfl) pa_nil))) pa_nil))))) (pss_cons (ps_if (PW.pt (pw_or (pdt_cmp (op_neA hu) rd_ne (pd_bm PySem.F.plainAttrs_list PySem.F.slot_list_count PySem.F.type_list_count (mt_countD hun) rm_count ty_count (pd_v (pv 1)) (pda_cons pd_bl pda_nil)) pd_int (nomark _)) (pw_or1 (pt_not (pt_val (pe_callB (call_isP eC hp hz hf) (by rfl) hB.isinstance (by decide +kernel) (pa_cons (pv 0) (pa_cons (pe_bltn (v := .ty "ValueError") rfl zV (by decide +kernel) rfl) pa_nil)))))))) (pss_one (psd_ret pd_int)) pss_nil) (pss_one (psd_ret (pd_bm PySem.F.plainAttrs_list PySem.F.slot_list_index PySem.F.type_list_index (mt_indexD hun) rm_index ty_index (pd_v (pv 1)) (pda_cons pd_bl pda_nil)))))), ?_⟩
  have g1 : ∀ c : Str, ∀ b : Bool, PySem.W.kitOne K (.ref (Tbs.Cl n)) (.ref (Tbs.Cl c)) = some b → ∀ (σ : L2.St) (H' : Hp) (Q' : VK), σ[0]? = some (some (.ref a)) → Q' (.bl b) H' → tCB (rIsE K (Tbs.Cl n) a) (tCons (tVar 0) (tCons (tC (.ref (Tbs.Cl c))) tNil)) σ H' Q' := fun c b h σ H' Q' h0 q => ⟨.ref a, h0, .ref (Tbs.Cl c), .ref (Tbs.Cl c), b, rfl, fun u r => r, h, q⟩
  have bd0 : Sl K H B [none, none] [some (.ref a), none] H := sl_junk (sl_start (N := NL_word) hb .nil) 0 (some (.ref a))
  refine g1 "BadStatement" _ kd.k0 _ _ _ rfl (g1 "Mixed" _ kd.k1 _ _ _ rfl (g1 "TooMany" _ kd.k2 _ _ _ rfl (g1 "BadMark" _ kd.k3 _ _ _ rfl ⟨by show 4 ≤ sizeLine; decide, fun p1 h1 => ?_⟩)))
  refine ⟨.ref p1, rfl, g1 "NoMark" _ kd.k4 _ _ _ rfl (g1 "BadText" _ kd.k5 _ _ _ rfl ⟨by show 2 ≤ sizeLine; decide, fun p2 h2 => .inr (.inr ⟨p1, p2, [.bl (decide (j = 0)), .bl (decide (j = 1)), .bl (decide (j = 2)), .bl false], [.bl false, .bl false], rfl, rfl, ?_, SqL.of upd_same, by show 6 ≤ sizeLine; decide, fun p3 h3 => ?_⟩)⟩)⟩
  · exact SqL.of (by rw [upd_ne (fun z => by rw [← z, upd_same] at h2; cases h2)]; exact upd_same)
  have t1 : Tr B H B (upd H p1 (.lst [.bl (decide (j = 0)), .bl (decide (j = 1)), .bl (decide (j = 2)), .bl false])) := Tr.junk hb.s h1
  have t2 := t1.trans (Tr.junk (o := .lst [.bl false, .bl false]) t1.t h2)
  have t3 := t2.trans (Tr.new (o := .lst [.bl (decide (j = 0)), .bl (decide (j = 1)), .bl (decide (j = 2)), .bl false, .bl false, .bl false]) t2.t h3)
  have s3 := sl_setD (i := 1) (v := .ref p3) (x := .list [.bool (decide (j = 0)), .bool (decide (j = 1)), .bool (decide (j = 2)), .bool false, .bool false, .bool false]) (bd0.tr t3) (.lst (SqL.of upd_same) (.cons (.bl _) (.cons (.bl _) (.cons (.bl _) (.cons (.bl _) (.cons (.bl _) (.cons (.bl _) .nil)))))))
  have n1 : neP (.int 1) (.int 1) = some (.bool false) := rfl
  refine ⟨_, _, _, false, s3, ?_, fun B4 H4 t4 => ?_⟩
  · simp only [fB_ap, f2_ap, fMt_ap, fV_ap, fC_ap, fCons_ap, fNil_ap, List.set_cons_succ, List.set_cons_zero, List.getElem?_cons_zero, List.getElem?_cons_succ, slot_d, consO_some, mtO_some, count_one j3, ap2_some, n1, unB_some]
  refine ⟨.ref a, rfl, .ty "ValueError", .type "ValueError", true, rfl, fun u r => r, kd.kV, true, rfl, ?_⟩
  refine ⟨B, H, _, .rt (.int (j : Nat)) ([none, none].set 1 (some (.d (.list [.bool (decide (j = 0)), .bool (decide (j = 1)), .bool (decide (j = 2)), .bool false, .bool false, .bool false])))), ⟨_, t3.trans t4, s3.tr t4⟩, ?_, fun v σ' B5 H5 t5 s5 d5 => q v B5 H5 t5 d5⟩
  simp only [gRet_ap, fMt_ap, fV_ap, fC_ap, fCons_ap, fNil_ap, List.set_cons_succ, List.set_cons_zero, List.getElem?_cons_zero, List.getElem?_cons_succ, slot_d, consO_some, mtO_some, index_one j3, retO_some]

abbrev sL_teller : Stmt := top 66
abbrev NL_teller : List Str := ["_law_thing", "_law_e"]
theorem scL_teller : FnScope NL_teller ["_law_thing"] (defScope sL_teller) := ⟨rfl, rfl, rfl, by decide +kernel, rfl, by decide +kernel, by decide +kernel⟩
def gL_teller (MTeller : List PyData → Option (Except Str Flds)) (FL_word : Str → Option PyData) : Rho → Option Out := (gSeq (gTryW 1 (fBx (fXMk "Teller" 2 MTeller (fCons (fV 0) fNil))) FL_word kRet) (gRet (f1 negD (fC (.int 1)))))
theorem okL_teller {k : Nat} {MTeller : List PyData → Option (Except Str Flds)} {FL_word : Str → Option PyData} (hB : Bl mg) (D : Df K mg "_law_teller" sL_teller ["_law_thing"]) (mTeller : KnIX P w K mg base k 2 "Teller" MTeller) (cL_word : KnW P w K mg base k "_law_word" FL_word) (gSaidError : mg "SaidError" = some (.ref (Tbs.Cl "SaidError"))) (hx : ∀ n d, FL_word n = some d → PySem.W.exmOne K (.ref (Tbs.Cl n)) (.ref (Tbs.Cl "SaidError")) = some true) (CTeller : Cla K "Teller" flTeller) : Kn P w K mg base (k + 2) 1 "_law_teller" (fnD 2 (gL_teller MTeller FL_word)) := by
  refine kn_of (P := P) (w := w) (base := base) (N := NL_teller) (ps := ["_law_thing"]) (g := gL_teller MTeller FL_word) D scL_teller fun f cdv A outer s H E hr => ?_
  exact (psd_cons (psd_tryR (ie := 1) (CS := Tbs.Cl "SaidError") rfl rfl scL_teller.nd rfl rfl ⟨rfl, by decide, Or.inl gSaidError⟩ hx body_expr (fun W pn xe tk => ps_expr (px_mk mTeller hr tk (pda_cons (pd_v (pv 0)) pda_nil)) (by rfl)) (fun a oe n pn hz hf => pss_one (ps_ret (pe_W cL_word (Room.mono hr (Nat.le_succ _)) hz hf (pv 1))))) (psd_one (psd_ret (pd_neg pd_int))))
abbrev sL_told : Stmt := top 67
abbrev NL_told : List Str := ["_law_thing", "_law_word_here", "_law_found", "_law_e"]
theorem scL_told : FnScope NL_told ["_law_thing"] (defScope sL_told) := ⟨rfl, rfl, rfl, by decide +kernel, rfl, by decide +kernel, by decide +kernel⟩
def gL_told (Fneed_told : List PyData → Option (Except Str PyData)) (FL_teller : List PyData → Option PyData) (FL_word : Str → Option PyData) : Rho → Option Out := (gSeq (gSet 1 (f1 negD (fC (.int 1)))) (gSeq (gSet 2 (fC (.bool false))) (gSeq (gTryW 3 (fBs 2 (fX2 eqP (fXc 1 Fneed_told (fCons (fV 0) fNil)) (fV 0))) FL_word (kSet 3 1)) (gSeq (gIf (fB (f2 neP (fCa 1 FL_teller (fCons (fV 0) fNil)) (fV 1))) (gSet 1 (fC (.int 8))) gNx) (gRet (fTup (fCons (fV 2) (fCons (fV 1) fNil))))))))
theorem okL_told {k : Nat} {Fneed_told : List PyData → Option (Except Str PyData)} {FL_teller : List PyData → Option PyData} {FL_word : Str → Option PyData} (hB : Bl mg) (D : Df K mg "_law_told" sL_told ["_law_thing"]) (cneed_told : KnX P w K mg base k 1 "need_told" Fneed_told) (cL_teller : Kn P w K mg base k 1 "_law_teller" FL_teller) (cL_word : KnW P w K mg base k "_law_word" FL_word) (gSaidError : mg "SaidError" = some (.ref (Tbs.Cl "SaidError"))) (hx : ∀ n d, FL_word n = some d → PySem.W.exmOne K (.ref (Tbs.Cl n)) (.ref (Tbs.Cl "SaidError")) = some true) : Kn P w K mg base (k + 1) 1 "_law_told" (fnD 4 (gL_told Fneed_told FL_teller FL_word)) := by
  refine kn_of (P := P) (w := w) (base := base) (N := NL_told) (ps := ["_law_thing"]) (g := gL_told Fneed_told FL_teller FL_word) D scL_told fun f cdv A outer s H E hr => ?_
  exact (psd_cons (psd_asg (ps_set (i := 1) scL_told.nd rfl (by first | exact Or.inl rfl | exact Or.inr rfl) (pd_neg pd_int))) (psd_cons (psd_asg (ps_set (i := 2) scL_told.nd rfl (by first | exact Or.inl rfl | exact Or.inr rfl) pd_bl)) (psd_cons (psd_tryS (ie := 3) (CS := Tbs.Cl "SaidError") rfl rfl scL_told.nd rfl rfl ⟨rfl, by decide, Or.inl gSaidError⟩ hx body_set (fun W pn xe tk => ps_set (i := 2) scL_told.nd rfl (by first | exact Or.inl rfl | exact Or.inr rfl) (px_cmp (op_eqA hr.units) rd_eq (px_kn cneed_told hr tk (pda_cons (pd_v (pv 0)) pda_nil)) (pd_v (pv 0)) (nomark _))) (fun a oe n pn hz hf => pss_one (ps_set (i := 1) scL_told.nd rfl (by first | exact Or.inl rfl | exact Or.inr rfl) (pe_W cL_word hr hz hf (pv 3))))) (psd_cons (psd_if (pdt_cmp (op_neA hr.units) rd_ne (pd_kn cL_teller hr (pda_cons (pd_v (pv 0)) pda_nil)) (pd_v (pv 1)) (nomark _)) (psd_one (psd_asg (ps_set (i := 1) scL_told.nd rfl (by first | exact Or.inl rfl | exact Or.inr rfl) pd_int))) psd_nil) (psd_one (psd_ret (pd_tup (pda_cons (pd_v (pv 2)) (pda_cons (pd_v (pv 1)) pda_nil)))))))))
abbrev sL_many : Stmt := top 68
abbrev NL_many : List Str := ["_law_script", "_law_names_here", "_law_statement", "_law_k", "_law_way"]
theorem scL_many : FnScope NL_many ["_law_script", "_law_names_here"] (defScope sL_many) := ⟨rfl, rfl, rfl, by decide +kernel, rfl, by decide +kernel, by decide +kernel⟩
def gL_many (FL_cell_at : List PyData → Option PyData) : Rho → Option Out := (gSeq (gSet 2 (fTup (fCons (fC (.str "mark")) (fCons (f2 ixD (fV 1) (fC (.int 0))) fNil)))) (gSeq (gFor (fR1 (f2 modD (fCa 2 FL_cell_at (fCons (fV 0) (fCons (fC (.int 4)) fNil))) (fC (.int 6)))) (b1 3) (gSeq (gSet 4 (f2 modD (fCa 2 FL_cell_at (fCons (fV 0) (fCons (f2 addD (fC (.int 5)) (fV 3)) fNil))) (fC (.int 3)))) (gIf (fB (f2 eqP (fV 4) (fC (.int 0)))) (gSet 2 (fTup (fCons (fC (.str "next")) (fCons (fV 2) fNil)))) (gIf (fB (f2 eqP (fV 4) (fC (.int 1)))) (gSet 2 (fTup (fCons (fC (.str "within")) (fCons (f2 modD (f2 fdivD (fCa 2 FL_cell_at (fCons (fV 0) (fCons (f2 addD (fC (.int 5)) (fV 3)) fNil))) (fC (.int 3))) (fC (.int 5))) (fCons (fV 2) fNil))))) (gSet 2 (fTup (fCons (fC (.str "until")) (fCons (fTup (fCons (fC (.str "mark")) (fCons (f2 ixD (fV 1) (f2 modD (f2 fdivD (fCa 2 FL_cell_at (fCons (fV 0) (fCons (f2 addD (fC (.int 5)) (fV 3)) fNil))) (fC (.int 3))) (fC (.int 3)))) fNil))) (fCons (fV 2) fNil))))))))) (gRet (fV 2))))
theorem okL_many {k : Nat} {FL_cell_at : List PyData → Option PyData} (hB : Bl mg) (D : Df K mg "_law_many" sL_many ["_law_script", "_law_names_here"]) (cL_cell_at : Kn P w K mg base k 2 "_law_cell_at" FL_cell_at) : Kn P w K mg base (k + 1) 2 "_law_many" (fnD 5 (gL_many FL_cell_at)) := by
  refine kn_of (P := P) (w := w) (base := base) (N := NL_many) (ps := ["_law_script", "_law_names_here"]) (g := gL_many FL_cell_at) D scL_many fun f cdv A outer s H E hr => ?_
  exact (psd_cons (psd_asg (ps_set (i := 2) scL_many.nd rfl (by first | exact Or.inl rfl | exact Or.inr rfl) (pd_tup (pda_cons pd_str (pda_cons (pd_ix (pd_v (pv 1)) pd_int (fun _ _ => rfl)) pda_nil))))) (psd_cons (psd_for gd_1 PassesOwn.never rfl (pdi_range1 rfl hB.range (pd_op op_mod rd_mod (pd_kn cL_cell_at hr (pda_cons (pd_v (pv 0)) (pda_cons pd_int pda_nil))) pd_int)) (pg_name (i := 3) scL_many.nd rfl (by first | exact Or.inl rfl | exact Or.inr rfl)) (psd_cons (psd_asg (ps_set (i := 4) scL_many.nd rfl (by first | exact Or.inl rfl | exact Or.inr rfl) (pd_op op_mod rd_mod (pd_kn cL_cell_at hr (pda_cons (pd_v (pv 0)) (pda_cons (pd_op op_addD rd_add pd_int (pd_v (pv 3))) pda_nil))) pd_int))) (psd_one (psd_if (pdt_cmp (op_eqA hr.units) rd_eq (pd_v (pv 4)) pd_int (nomark _)) (psd_one (psd_asg (ps_set (i := 2) scL_many.nd rfl (by first | exact Or.inl rfl | exact Or.inr rfl) (pd_tup (pda_cons pd_str (pda_cons (pd_v (pv 2)) pda_nil)))))) (psd_one (psd_if (pdt_cmp (op_eqA hr.units) rd_eq (pd_v (pv 4)) pd_int (nomark _)) (psd_one (psd_asg (ps_set (i := 2) scL_many.nd rfl (by first | exact Or.inl rfl | exact Or.inr rfl) (pd_tup (pda_cons pd_str (pda_cons (pd_op op_mod rd_mod (pd_op op_fdiv rd_fdiv (pd_kn cL_cell_at hr (pda_cons (pd_v (pv 0)) (pda_cons (pd_op op_addD rd_add pd_int (pd_v (pv 3))) pda_nil))) pd_int) pd_int) (pda_cons (pd_v (pv 2)) pda_nil))))))) (psd_one (psd_asg (ps_set (i := 2) scL_many.nd rfl (by first | exact Or.inl rfl | exact Or.inr rfl) (pd_tup (pda_cons pd_str (pda_cons (pd_tup (pda_cons pd_str (pda_cons (pd_ix (pd_v (pv 1)) (pd_op op_mod rd_mod (pd_op op_fdiv rd_fdiv (pd_kn cL_cell_at hr (pda_cons (pd_v (pv 0)) (pda_cons (pd_op op_addD rd_add pd_int (pd_v (pv 3))) pda_nil))) pd_int) pd_int) (fun _ _ => rfl)) pda_nil))) (pda_cons (pd_v (pv 2)) pda_nil))))))))))))) (psd_one (psd_ret (pd_v (pv 2))))))
abbrev sL_spoilt : Stmt := top 69
abbrev NL_spoilt : List Str := ["_law_script", "_law_names_here", "_law_statement", "_law_cell", "_law_at", "_law_some", "_law_k"]
theorem scL_spoilt : FnScope NL_spoilt ["_law_script", "_law_names_here", "_law_statement"] (defScope sL_spoilt) := ⟨rfl, rfl, rfl, by decide +kernel, rfl, by decide +kernel, by decide +kernel⟩
def gL_spoilt (FL_cell_at : List PyData → Option PyData) (FL_all : List PyData → Option PyData) (FL_no_statement : List PyData → Option PyData) (FL_put : List PyData → Option PyData) (FL_many : List PyData → Option PyData) : Rho → Option Out := (gSeq (gSet 3 (f2 fdivD (fCa 2 FL_cell_at (fCons (fV 0) (fCons (fC (.int 1)) fNil))) (fC (.int 8)))) (gSeq (gIf (fB (f2 eqP (f2 modD (fV 3) (fC (.int 6))) (fC (.int 0)))) (gSeq (gSet 4 (f2 modD (f2 fdivD (fV 3) (fC (.int 6))) (fCl (one1 lenD) (fCons (fCa 1 FL_all (fCons (fV 2) fNil)) fNil)))) (gRet (fTup (fCons (f2 ixD (fCa 3 FL_put (fCons (fV 2) (fCons (fV 4) (fCons (fCa 2 FL_no_statement (fCons (f2 fdivD (fV 3) (fC (.int 60))) (fCons (fV 1) fNil))) fNil)))) (fC (.int 0))) (fCons (fC (.bool true)) fNil))))) gNx) (gSeq (gIf (fB (f2 eqP (f2 modD (fV 3) (fC (.int 6))) (fC (.int 1)))) (gSeq (gSet 5 (fLst (fCons (fTup (fCons (fC (.str "before")) (fCons (fV 2) fNil))) (fCons (fTup (fCons (fC (.str "since")) (fCons (fV 2) (fCons (fTup (fCons (fC (.str "yes")) fNil)) fNil)))) (fCons (fTup (fCons (fC (.str "since")) (fCons (fTup (fCons (fC (.str "yes")) fNil)) (fCons (fV 2) fNil)))) fNil))))) (gRet (fTup (fCons (f2 ixD (fV 5) (f2 modD (f2 fdivD (fV 3) (fC (.int 6))) (fC (.int 3)))) (fCons (fC (.bool false)) fNil))))) gNx) (gSeq (gIf (fB (f2 eqP (f2 modD (fV 3) (fC (.int 6))) (fC (.int 2)))) (gFor (fR1 (f2 modD (f2 fdivD (fV 3) (fC (.int 6))) (fC (.int 4)))) (b1 6) (gSet 2 (f2 ixD (fLst (fCons (fTup (fCons (fC (.str "not")) (fCons (fV 2) fNil))) (fCons (fTup (fCons (fC (.str "and")) (fCons (fTup (fCons (fC (.str "yes")) fNil)) (fCons (fV 2) fNil)))) fNil))) (f2 modD (f2 fdivD (f2 fdivD (fV 3) (fC (.int 24))) (f2 addD (fV 6) (fC (.int 1)))) (fC (.int 2)))))) gNx) (gSeq (gIf (fB (f2 eqP (f2 modD (fV 3) (fC (.int 6))) (fC (.int 3)))) (gRet (fTup (fCons (fCa 2 FL_many (fCons (fV 0) (fCons (fV 1) fNil))) (fCons (fC (.bool false)) fNil)))) gNx) (gRet (fTup (fCons (fV 2) (fCons (fC (.bool false)) fNil)))))))))
theorem okL_spoilt {k : Nat} {FL_cell_at : List PyData → Option PyData} {FL_all : List PyData → Option PyData} {FL_no_statement : List PyData → Option PyData} {FL_put : List PyData → Option PyData} {FL_many : List PyData → Option PyData} (hB : Bl mg) (D : Df K mg "_law_spoilt" sL_spoilt ["_law_script", "_law_names_here", "_law_statement"]) (cL_cell_at : Kn P w K mg base k 2 "_law_cell_at" FL_cell_at) (cL_all : Kn P w K mg base k 1 "_law_all" FL_all) (cL_no_statement : Kn P w K mg base k 2 "_law_no_statement" FL_no_statement) (cL_put : Kn P w K mg base k 3 "_law_put" FL_put) (cL_many : Kn P w K mg base k 2 "_law_many" FL_many) : Kn P w K mg base (k + 1) 3 "_law_spoilt" (fnD 7 (gL_spoilt FL_cell_at FL_all FL_no_statement FL_put FL_many)) := by
  refine kn_of (P := P) (w := w) (base := base) (N := NL_spoilt) (ps := ["_law_script", "_law_names_here", "_law_statement"]) (g := gL_spoilt FL_cell_at FL_all FL_no_statement FL_put FL_many) D scL_spoilt fun f cdv A outer s H E hr => ?_
  exact (psd_cons (psd_asg (ps_set (i := 3) scL_spoilt.nd rfl (by first | exact Or.inl rfl | exact Or.inr rfl) (pd_op op_fdiv rd_fdiv (pd_kn cL_cell_at hr (pda_cons (pd_v (pv 0)) (pda_cons pd_int pda_nil))) pd_int))) (psd_cons (psd_if (pdt_cmp (op_eqA hr.units) rd_eq (pd_op op_mod rd_mod (pd_v (pv 3)) pd_int) pd_int (nomark _)) (psd_cons (psd_asg (ps_set (i := 4) scL_spoilt.nd rfl (by first | exact Or.inl rfl | exact Or.inr rfl) (pd_op op_mod rd_mod (pd_op op_fdiv rd_fdiv (pd_v (pv 3)) pd_int) (pd_bi call_lenD0 rc_len rfl hB.len (by decide +kernel) (pda_cons (pd_kn cL_all hr (pda_cons (pd_v (pv 2)) pda_nil)) pda_nil))))) (psd_one (psd_ret (pd_tup (pda_cons (pd_ix (pd_kn cL_put hr (pda_cons (pd_v (pv 2)) (pda_cons (pd_v (pv 4)) (pda_cons (pd_kn cL_no_statement hr (pda_cons (pd_op op_fdiv rd_fdiv (pd_v (pv 3)) pd_int) (pda_cons (pd_v (pv 1)) pda_nil))) pda_nil)))) pd_int (fun _ _ => rfl)) (pda_cons pd_bl pda_nil)))))) psd_nil) (psd_cons (psd_if (pdt_cmp (op_eqA hr.units) rd_eq (pd_op op_mod rd_mod (pd_v (pv 3)) pd_int) pd_int (nomark _)) (psd_cons (psd_asg (ps_set (i := 5) scL_spoilt.nd rfl (by first | exact Or.inl rfl | exact Or.inr rfl) (pd_lst (pda_cons (pd_tup (pda_cons pd_str (pda_cons (pd_v (pv 2)) pda_nil))) (pda_cons (pd_tup (pda_cons pd_str (pda_cons (pd_v (pv 2)) (pda_cons (pd_tup (pda_cons pd_str pda_nil)) pda_nil)))) (pda_cons (pd_tup (pda_cons pd_str (pda_cons (pd_tup (pda_cons pd_str pda_nil)) (pda_cons (pd_v (pv 2)) pda_nil)))) pda_nil)))))) (psd_one (psd_ret (pd_tup (pda_cons (pd_ix (pd_v (pv 5)) (pd_op op_mod rd_mod (pd_op op_fdiv rd_fdiv (pd_v (pv 3)) pd_int) pd_int) (fun _ _ => rfl)) (pda_cons pd_bl pda_nil)))))) psd_nil) (psd_cons (psd_if (pdt_cmp (op_eqA hr.units) rd_eq (pd_op op_mod rd_mod (pd_v (pv 3)) pd_int) pd_int (nomark _)) (psd_one (psd_for gd_1 PassesOwn.never rfl (pdi_range1 rfl hB.range (pd_op op_mod rd_mod (pd_op op_fdiv rd_fdiv (pd_v (pv 3)) pd_int) pd_int)) (pg_name (i := 6) scL_spoilt.nd rfl (by first | exact Or.inl rfl | exact Or.inr rfl)) (psd_one (psd_asg (ps_set (i := 2) scL_spoilt.nd rfl (by first | exact Or.inl rfl | exact Or.inr rfl) (pd_ix (pd_lst (pda_cons (pd_tup (pda_cons pd_str (pda_cons (pd_v (pv 2)) pda_nil))) (pda_cons (pd_tup (pda_cons pd_str (pda_cons (pd_tup (pda_cons pd_str pda_nil)) (pda_cons (pd_v (pv 2)) pda_nil)))) pda_nil))) (pd_op op_mod rd_mod (pd_op op_fdiv rd_fdiv (pd_op op_fdiv rd_fdiv (pd_v (pv 3)) pd_int) (pd_op op_addD rd_add (pd_v (pv 6)) pd_int)) pd_int) (fun _ _ => rfl))))))) psd_nil) (psd_cons (psd_if (pdt_cmp (op_eqA hr.units) rd_eq (pd_op op_mod rd_mod (pd_v (pv 3)) pd_int) pd_int (nomark _)) (psd_one (psd_ret (pd_tup (pda_cons (pd_kn cL_many hr (pda_cons (pd_v (pv 0)) (pda_cons (pd_v (pv 1)) pda_nil))) (pda_cons pd_bl pda_nil))))) psd_nil) (psd_one (psd_ret (pd_tup (pda_cons (pd_v (pv 2)) (pda_cons pd_bl pda_nil))))))))))
abbrev sL_mark_right : Stmt := top 70
abbrev NL_mark_right : List Str := ["_law_cell", "_law_names_here", "_law_some", "_law_text", "_law_due", "_law_sign", "_law_found"]
theorem scL_mark_right : FnScope NL_mark_right ["_law_cell", "_law_names_here"] (defScope sL_mark_right) := ⟨rfl, rfl, rfl, by decide +kernel, rfl, by decide +kernel, by decide +kernel⟩
def gL_mark_right (Fis_mark : List PyData → Option PyData) : Rho → Option Out := (gSeq (gSet 2 (fLst (fCons (fC (.str "")) (fCons (f2 ixD (fV 1) (fC (.int 0))) (fCons (f2 ixD (fV 1) (fC (.int 2))) (fCons (fC (.str "abcdef")) (fCons (fC (.str "abcdefg")) (fCons (fC (.str "A")) (fCons (fC (.str "a1")) (fCons (fC (.str " ")) (fCons (fC (.str "a\n")) (fCons (fC .none) (fCons (fC (.int 5)) (fCons (fC (.bool true)) (fCons (fLst (fCons (fC (.str "a")) fNil)) (fCons (fTup (fCons (fC (.str "a")) fNil)) (fCons (fC (.dict [])) (fCons (fC (.str "z")) fNil)))))))))))))))))) (gSeq (gSet 3 (f2 ixD (fV 2) (f2 modD (fV 0) (fC (.int 16))))) (gSeq (gSet 4 (fAnd (f1 (isiD "str") (fV 3)) (f2 (rb fun i j => decide (i < j)) (fCl (one1 lenD) (fCons (fV 3) fNil)) (fC (.int 7))))) (gSeq (gSet 4 (fAnd (fV 4) (f2 eqP (fLc (fSeq (fV 3)) (b1 5) (fB (f2 niP (fV 5) (fC (.str "abcdefghijklmnopqrstuvwxyz")))) (fV 5) [5]) (fLst fNil)))) (gSeq (gSet 6 (fCa 1 Fis_mark (fCons (fV 3) fNil))) (gRet (fAnd (f1 (isiD "bool") (fV 6)) (f2 eqP (fV 6) (fV 4)))))))))
theorem okL_mark_right {k : Nat} {Fis_mark : List PyData → Option PyData} (hB : Bl mg) (D : Df K mg "_law_mark_right" sL_mark_right ["_law_cell", "_law_names_here"]) (cis_mark : Kn P w K mg base k 1 "is_mark" Fis_mark) : Kn P w K mg base (k + 1) 2 "_law_mark_right" (fnD 7 (gL_mark_right Fis_mark)) := by
  refine kn_of (P := P) (w := w) (base := base) (N := NL_mark_right) (ps := ["_law_cell", "_law_names_here"]) (g := gL_mark_right Fis_mark) D scL_mark_right fun f cdv A outer s H E hr => ?_
  exact (psd_cons (psd_asg (ps_set (i := 2) scL_mark_right.nd rfl (by first | exact Or.inl rfl | exact Or.inr rfl) (pd_lst (pda_cons pd_str (pda_cons (pd_ix (pd_v (pv 1)) pd_int (fun _ _ => rfl)) (pda_cons (pd_ix (pd_v (pv 1)) pd_int (fun _ _ => rfl)) (pda_cons pd_str (pda_cons pd_str (pda_cons pd_str (pda_cons pd_str (pda_cons pd_str (pda_cons pd_str (pda_cons pd_non (pda_cons pd_int (pda_cons pd_bl (pda_cons (pd_lst (pda_cons pd_str pda_nil)) (pda_cons (pd_tup (pda_cons pd_str pda_nil)) (pda_cons pd_emp (pda_cons pd_str pda_nil))))))))))))))))))) (psd_cons (psd_asg (ps_set (i := 3) scL_mark_right.nd rfl (by first | exact Or.inl rfl | exact Or.inr rfl) (pd_ix (pd_v (pv 2)) (pd_op op_mod rd_mod (pd_v (pv 0)) pd_int) (fun _ _ => rfl)))) (psd_cons (psd_asg (ps_set (i := 4) scL_mark_right.nd rfl (by first | exact Or.inl rfl | exact Or.inr rfl) (pd_and (pd_isi rfl hB.isinstance (pd_v (pv 3)) (pe_bltn rfl hB.str (by decide +kernel) rfl)) (pd_one (pd_cmp op_lt rd_rb (pd_bi call_lenD0 rc_len rfl hB.len (by decide +kernel) (pda_cons (pd_v (pv 3)) pda_nil)) pd_int (nomark _)))))) (psd_cons (psd_asg (ps_set (i := 4) scL_mark_right.nd rfl (by first | exact Or.inl rfl | exact Or.inr rfl) (pd_and (pd_v (pv 4)) (pd_one (pd_cmp (op_eqA hr.units) rd_eq (pd_lc gd_1 (by decide) rfl scL_mark_right.nd (pdi_seq (pd_v (pv 3))) (blkOk_by (N := NL_mark_right) (sc := defScope sL_mark_right) (own := [("_law_sign", 5)]) (by decide +kernel)) (fun _ _ _ _ _ => (pg_name (i := 5) scL_mark_right.nd rfl (by first | exact Or.inl rfl | exact Or.inr rfl))) (fun _ _ _ _ _ => pdts_one (pdt_cmp (op_niA (units65 hr)) rd_ni (pd_v (pv 5)) pd_str (by rfl))) (fun _ _ _ _ _ => (pd_v (pv 5)))) (pd_lst pda_nil) (nomark _)))))) (psd_cons (psd_asg (ps_set (i := 6) scL_mark_right.nd rfl (by first | exact Or.inl rfl | exact Or.inr rfl) (pd_kn cis_mark hr (pda_cons (pd_v (pv 3)) pda_nil)))) (psd_one (psd_ret (pd_and (pd_isi rfl hB.isinstance (pd_v (pv 6)) (pe_bltn rfl hB.bool (by decide +kernel) rfl)) (pd_one (pd_cmp (op_eqA hr.units) rd_eq (pd_v (pv 6)) (pd_v (pv 4)) (nomark _)))))))))))
abbrev slaw : Stmt := top 71
abbrev Nlaw : List Str := ["_law_script", "_law_names_here", "_law_statement", "_law_is_none", "_law_found", "_law_due", "_law_told_here", "_law_one"]
theorem sclaw : FnScope Nlaw ["_law_script"] (defScope slaw) := ⟨rfl, rfl, rfl, by decide +kernel, rfl, by decide +kernel, by decide +kernel⟩
def glaw (FL_cell_at : List PyData → Option PyData) (FL_names : List PyData → Option PyData) (FL_built : List PyData → Option PyData) (FL_spoilt : List PyData → Option PyData) (FL_mark_right : List PyData → Option PyData) (Fis_statement : List PyData → Option PyData) (FL_deep : List PyData → Option PyData) (FL_told : List PyData → Option PyData) (Flooks_ahead : List PyData → Option PyData) (Fis_mixed : List PyData → Option PyData) (FL_ahead : List PyData → Option PyData) (FL_mixed : List PyData → Option PyData) (FL_wishes : List PyData → Option PyData) : Rho → Option Out := (gSeq (gSet 1 (fCa 1 FL_names (fCons (fCa 2 FL_cell_at (fCons (fV 0) (fCons (fC (.int 0)) fNil))) fNil))) (gSeq (gAsg (b2 2 3) (fCa 3 FL_spoilt (fCons (fV 0) (fCons (fV 1) (fCons (fCa 3 FL_built (fCons (fV 0) (fCons (fV 1) (fCons (fC (.int 12)) fNil)))) fNil))))) (gSeq (gIf (fNotT (fB (fCa 2 FL_mark_right (fCons (fCa 2 FL_cell_at (fCons (fV 0) (fCons (fC (.int 2)) fNil))) (fCons (fV 1) fNil))))) (gRet (fC (.bool false))) gNx) (gSeq (gSet 4 (fCa 1 Fis_statement (fCons (fV 2) fNil))) (gSeq (gSet 5 (fAnd (fNot (fV 3)) (f2 (rb fun i j => decide (i < j)) (fCa 1 FL_deep (fCons (fV 2) fNil)) (fC (.int 7))))) (gSeq (gIf (fOrT (fNotT (fB (f1 (isiD "bool") (fV 4)))) (fB (f2 neP (fV 4) (fV 5)))) (gRet (fC (.bool false))) gNx) (gSeq (gIf (fNotT (fB (fV 5))) (gRet (f2 eqP (fCa 1 FL_told (fCons (fV 2) fNil)) (fTup (fCons (fC (.bool false)) (fCons (fC (.int 0)) fNil))))) gNx) (gSeq (gSet 6 (fLst (fCons (fCa 1 Flooks_ahead (fCons (fV 2) fNil)) (fCons (fCa 1 Fis_mixed (fCons (fV 2) fNil)) fNil)))) (gSeq (gIf (fOrT (fB (f2 neP (fV 6) (fLst (fCons (fCa 1 FL_ahead (fCons (fV 2) fNil)) (fCons (fCa 1 FL_mixed (fCons (fV 2) fNil)) fNil))))) (fNotT (fB (fCl (one1 allD) (fCons (fLc (fSeq (fV 6)) (b1 7) tYesD (f1 (isiD "bool") (fV 7)) [7]) fNil))))) (gRet (fC (.bool false))) gNx) (gSeq (gIf (fB (f2 ixD (fV 6) (fC (.int 1)))) (gRet (f2 eqP (fCa 1 FL_told (fCons (fV 2) fNil)) (fTup (fCons (fC (.bool false)) (fCons (fC (.int 1)) fNil))))) gNx) (gSeq (gIf (fB (f2 (rb fun i j => decide (j < i)) (fCl (one1 lenD) (fCons (fCa 1 FL_wishes (fCons (fV 2) fNil)) fNil)) (fC (.int 6)))) (gRet (f2 eqP (fCa 1 FL_told (fCons (fV 2) fNil)) (fTup (fCons (fC (.bool false)) (fCons (fC (.int 2)) fNil))))) gNx) (gRet (f2 eqP (fCa 1 FL_told (fCons (fV 2) fNil)) (fTup (fCons (fC (.bool true)) (fCons (f1 negD (fC (.int 1))) fNil))))))))))))))))
theorem oklaw {k : Nat} {FL_cell_at : List PyData → Option PyData} {FL_names : List PyData → Option PyData} {FL_built : List PyData → Option PyData} {FL_spoilt : List PyData → Option PyData} {FL_mark_right : List PyData → Option PyData} {Fis_statement : List PyData → Option PyData} {FL_deep : List PyData → Option PyData} {FL_told : List PyData → Option PyData} {Flooks_ahead : List PyData → Option PyData} {Fis_mixed : List PyData → Option PyData} {FL_ahead : List PyData → Option PyData} {FL_mixed : List PyData → Option PyData} {FL_wishes : List PyData → Option PyData} {f : Addr} {fd : FuncData} (hB : Bl mg) (F : Fun K "law" "law" slaw f fd) (cL_cell_at : Kn P w K mg base k 2 "_law_cell_at" FL_cell_at) (cL_names : Kn P w K mg base k 1 "_law_names" FL_names) (cL_built : Kn P w K mg base k 3 "_law_built" FL_built) (cL_spoilt : Kn P w K mg base k 3 "_law_spoilt" FL_spoilt) (cL_mark_right : Kn P w K mg base k 2 "_law_mark_right" FL_mark_right) (cis_statement : Kn P w K mg base k 1 "is_statement" Fis_statement) (cL_deep : Kn P w K mg base k 1 "_law_deep" FL_deep) (cL_told : Kn P w K mg base k 1 "_law_told" FL_told) (clooks_ahead : Kn P w K mg base k 1 "looks_ahead" Flooks_ahead) (cis_mixed : Kn P w K mg base k 1 "is_mixed" Fis_mixed) (cL_ahead : Kn P w K mg base k 1 "_law_ahead" FL_ahead) (cL_mixed : Kn P w K mg base k 1 "_law_mixed" FL_mixed) (cL_wishes : Kn P w K mg base k 1 "_law_wishes" FL_wishes) : FnOk P w K mg base CX0 (k + 1) f fd ["_law_script"] (spD K 1 (fnD 8 (glaw FL_cell_at FL_names FL_built FL_spoilt FL_mark_right Fis_statement FL_deep FL_told Flooks_ahead Fis_mixed FL_ahead FL_mixed FL_wishes))) := by
  refine fn_ok (P := P) (w := w) (base := base) (N := Nlaw) (ps := ["_law_script"]) (g := glaw FL_cell_at FL_names FL_built FL_spoilt FL_mark_right Fis_statement FL_deep FL_told Flooks_ahead Fis_mixed FL_ahead FL_mixed FL_wishes) F sclaw fun cdv A outer s H E hr => ?_
  exact (psd_cons (psd_asg (ps_set (i := 1) sclaw.nd rfl (by first | exact Or.inl rfl | exact Or.inr rfl) (pd_kn cL_names hr (pda_cons (pd_kn cL_cell_at hr (pda_cons (pd_v (pv 0)) (pda_cons pd_int pda_nil))) pda_nil)))) (psd_cons (psd_asgG gd_2 (ps_asg (pd_kn cL_spoilt hr (pda_cons (pd_v (pv 0)) (pda_cons (pd_v (pv 1)) (pda_cons (pd_kn cL_built hr (pda_cons (pd_v (pv 0)) (pda_cons (pd_v (pv 1)) (pda_cons pd_int pda_nil)))) pda_nil)))) (pg_tup rfl (pgs_cons (pg_name (i := 2) sclaw.nd rfl (by first | exact Or.inl rfl | exact Or.inr rfl)) (pgs_cons (pg_name (i := 3) sclaw.nd rfl (by first | exact Or.inl rfl | exact Or.inr rfl)) pgs_nil))))) (psd_cons (psd_if (pdt_not (pdt_val (pd_kn cL_mark_right hr (pda_cons (pd_kn cL_cell_at hr (pda_cons (pd_v (pv 0)) (pda_cons pd_int pda_nil))) (pda_cons (pd_v (pv 1)) pda_nil))))) (psd_one (psd_ret pd_bl)) psd_nil) (psd_cons (psd_asg (ps_set (i := 4) sclaw.nd rfl (by first | exact Or.inl rfl | exact Or.inr rfl) (pd_kn cis_statement hr (pda_cons (pd_v (pv 2)) pda_nil)))) (psd_cons (psd_asg (ps_set (i := 5) sclaw.nd rfl (by first | exact Or.inl rfl | exact Or.inr rfl) (pd_and (pd_not (pd_v (pv 3))) (pd_one (pd_cmp op_lt rd_rb (pd_kn cL_deep hr (pda_cons (pd_v (pv 2)) pda_nil)) pd_int (nomark _)))))) (psd_cons (psd_if (pdt_w (pdw_or (pdt_not (pdt_val (pd_isi rfl hB.isinstance (pd_v (pv 4)) (pe_bltn rfl hB.bool (by decide +kernel) rfl)))) (pdw_or1 (pdt_cmp (op_neA hr.units) rd_ne (pd_v (pv 4)) (pd_v (pv 5)) (nomark _))))) (psd_one (psd_ret pd_bl)) psd_nil) (psd_cons (psd_if (pdt_not (pdt_val (pd_v (pv 5)))) (psd_one (psd_ret (pd_cmp (op_eqA hr.units) rd_eq (pd_kn cL_told hr (pda_cons (pd_v (pv 2)) pda_nil)) (pd_tup (pda_cons pd_bl (pda_cons pd_int pda_nil))) (nomark _)))) psd_nil) (psd_cons (psd_asg (ps_set (i := 6) sclaw.nd rfl (by first | exact Or.inl rfl | exact Or.inr rfl) (pd_lst (pda_cons (pd_kn clooks_ahead hr (pda_cons (pd_v (pv 2)) pda_nil)) (pda_cons (pd_kn cis_mixed hr (pda_cons (pd_v (pv 2)) pda_nil)) pda_nil))))) (psd_cons (psd_if (pdt_w (pdw_or (pdt_cmp (op_neA hr.units) rd_ne (pd_v (pv 6)) (pd_lst (pda_cons (pd_kn cL_ahead hr (pda_cons (pd_v (pv 2)) pda_nil)) (pda_cons (pd_kn cL_mixed hr (pda_cons (pd_v (pv 2)) pda_nil)) pda_nil))) (nomark _)) (pdw_or1 (pdt_not (pdt_val (pd_bi (cr_all rfl) rc_all rfl hB.all (by decide +kernel) (pda_cons (pd_lc gd_1 (by decide) rfl sclaw.nd (pdi_seq (pd_v (pv 6))) (blkOk_by (N := Nlaw) (sc := defScope slaw) (own := [("_law_one", 7)]) (by decide +kernel)) (fun _ _ _ _ _ => (pg_name (i := 7) sclaw.nd rfl (by first | exact Or.inl rfl | exact Or.inr rfl))) (fun _ _ _ _ _ => pdts_nil) (fun _ _ _ _ _ => (pd_isi rfl hB.isinstance (pd_v (pv 7)) (pe_bltn rfl hB.bool (by decide +kernel) rfl)))) pda_nil))))))) (psd_one (psd_ret pd_bl)) psd_nil) (psd_cons (psd_if (pdt_val (pd_ix (pd_v (pv 6)) pd_int (fun _ _ => rfl))) (psd_one (psd_ret (pd_cmp (op_eqA hr.units) rd_eq (pd_kn cL_told hr (pda_cons (pd_v (pv 2)) pda_nil)) (pd_tup (pda_cons pd_bl (pda_cons pd_int pda_nil))) (nomark _)))) psd_nil) (psd_cons (psd_if (pdt_cmp op_gt rd_rb (pd_bi call_lenD0 rc_len rfl hB.len (by decide +kernel) (pda_cons (pd_kn cL_wishes hr (pda_cons (pd_v (pv 2)) pda_nil)) pda_nil)) pd_int (nomark _)) (psd_one (psd_ret (pd_cmp (op_eqA hr.units) rd_eq (pd_kn cL_told hr (pda_cons (pd_v (pv 2)) pda_nil)) (pd_tup (pda_cons pd_bl (pda_cons pd_int pda_nil))) (nomark _)))) psd_nil) (psd_one (psd_ret (pd_cmp (op_eqA hr.units) rd_eq (pd_kn cL_told hr (pda_cons (pd_v (pv 2)) pda_nil)) (pd_tup (pda_cons pd_bl (pda_cons (pd_neg pd_int) pda_nil))) (nomark _)))))))))))))))
end
end My

namespace My
open PySem L2 Dn
/-! ### statements -/
inductive Sm | mark (m : Str) | yes | not (s : Sm) | and (s t : Sm) | or (s t : Sm) | nxt (s : Sm) | unt (s t : Sm) | wth (k : Int) (s : Sm) | bef (s : Sm) | sin (s t : Sm)
  deriving DecidableEq
def enc : Sm → PyData
  | .mark m => .tuple [.str "mark", .str m]
  | .yes => .tuple [.str "yes"]
  | .not s => .tuple [.str "not", enc s]
  | .and s t => .tuple [.str "and", enc s, enc t]
  | .or s t => .tuple [.str "or", enc s, enc t]
  | .nxt s => .tuple [.str "next", enc s]
  | .unt s t => .tuple [.str "until", enc s, enc t]
  | .wth k s => .tuple [.str "within", .int k, enc s]
  | .bef s => .tuple [.str "before", enc s]
  | .sin s t => .tuple [.str "since", enc s, enc t]
theorem tyN_enc (s : Sm) : tyN (enc s) = "tuple" := by cases s <;> rfl
@[simp] def Sm.depth : Sm → Nat
  | .mark _ | .yes => 1
  | .not s | .nxt s | .wth _ s | .bef s => s.depth + 1
  | .and s t | .or s t | .unt s t | .sin s t => max s.depth t.depth + 1
@[simp] def Sm.parts : Sm → List Sm
  | .mark _ | .yes => []
  | .not s | .nxt s | .wth _ s | .bef s => [s]
  | .and s t | .or s t | .unt s t | .sin s t => [s, t]
@[simp] def Sm.word : Sm → Str
  | .mark _ => "mark"
  | .yes => "yes"
  | .not _ => "not"
  | .and _ _ => "and"
  | .or _ _ => "or"
  | .nxt _ => "next"
  | .unt _ _ => "until"
  | .wth _ _ => "within"
  | .bef _ => "before"
  | .sin _ _ => "since"
/-- what stands behind the word -/
def Sm.tail : Sm → List PyData
  | .mark m => [.str m]
  | .yes => []
  | .wth k s => [.int k, enc s]
  | s => s.parts.map enc
theorem enc_eq (s : Sm) : enc s = .tuple (.str s.word :: s.tail) := by cases s <;> rfl
/-! ### rows -/
def sinR : List Bool → List Bool → Bool → List Bool
  | a :: as, b :: bs, h => (b || (a && h)) :: sinR as bs (b || (a && h))
  | _, _, _ => []
def wthR (k : Int) (r : List Bool) : List Bool := (List.range r.length).map fun (i : Nat) => (cutL r (some (i : Int)) (some ((i : Int) + k + 1))).any id
def rows : Sm → List Str → List Bool
  | .mark m, r => r.map fun x => sEq x m
  | .yes, r => r.map fun _ => true
  | .not s, r => (rows s r).map (!·)
  | .and s t, r => List.zipWith (· && ·) (rows s r) (rows t r)
  | .or s t, r => List.zipWith (· || ·) (rows s r) (rows t r)
  | .nxt s, r => (rows s r ++ [false]).drop 1
  | .unt s t, r => (sinR (rows s r).reverse (rows t r).reverse false).reverse
  | .wth k s, r => wthR k (rows s r)
  | .bef s, r => (false :: rows s r).dropLast
  | .sin s t, r => sinR (rows s r) (rows t r) false
theorem sinR_len : ∀ (a b : List Bool) (h : Bool), a.length = b.length → (sinR a b h).length = a.length
  | [], _, _, _ => by simp [sinR]
  | a :: as, [], _, h => by simp at h
  | a :: as, b :: bs, h, e => by simp [sinR, sinR_len as bs _ (by simpa using e)]
theorem rows_len : ∀ (s : Sm) (r : List Str), (rows s r).length = r.length
  | .mark m, r => by simp [rows]
  | .yes, r => by simp [rows]
  | .not s, r => by simp [rows, rows_len s r]
  | .and s t, r => by simp [rows, rows_len s r, rows_len t r]
  | .or s t, r => by simp [rows, rows_len s r, rows_len t r]
  | .nxt s, r => by simp [rows, rows_len s r]
  | .unt s t, r => by simp [rows, sinR_len, rows_len s r, rows_len t r]
  | .wth k s, r => by simp [rows, wthR, rows_len s r]
  | .bef s, r => by simp [rows, rows_len s r]
  | .sin s t, r => by simp [rows, sinR_len, rows_len s r, rows_len t r]
/-! ### the data of runs and rows -/
def dS (r : List Str) : PyData := .list (r.map .str)
def dB (r : List Bool) : PyData := .list (r.map .bool)
theorem kit_tt : kitB "tuple" "tuple" = some true := by decide +kernel
theorem kit_st : kitB "str" "tuple" = some false := by decide +kernel
theorem kit_it : kitB "int" "tuple" = some false := by decide +kernel
theorem isi_of {T : String} {x : PyData} {b : Bool} (hb : bareD x = true) (h : kitB (tyN x) T = some b) : isiD T x = some (.bool b) := by unfold isiD; rw [if_pos hb, h]; rfl
@[simp] theorem bare_enc (s : Sm) : bareD (enc s) = true := by cases s <;> rfl
@[simp] theorem isi_enc (s : Sm) : isiD "tuple" (enc s) = some (.bool true) := isi_of (bare_enc s) (by rw [tyN_enc, kit_tt])
@[simp] theorem isi_str (s : Str) : isiD "tuple" (.str s) = some (.bool false) := isi_of rfl kit_st
@[simp] theorem isi_int (i : Int) : isiD "tuple" (.int i) = some (.bool false) := isi_of rfl kit_it
@[simp] theorem sl_one (x : PyData) (xs : List PyData) : slD (some 1) none (.tuple (x :: xs)) = some (.tuple xs) := by
  have h : HT.sIx (x :: xs).length 0 (some 1) = 1 := by
    rw [show (1 : Int) = ((1 : Nat) : Int) from rfl, HT.sIx_nat]; simp
  unfold slD
  simp only [h]
  rw [if_pos (by omega)]
  unfold cutL
  rw [h, HT.sIx_none]
  simp
@[simp] theorem sl_enc (s : Sm) : slD (some 1) none (enc s) = some (.tuple s.tail) := by rw [enc_eq, sl_one]
@[simp] theorem ix_word (s : Sm) : ixD (enc s) (.int 0) = some (.str s.word) := by rw [enc_eq]; simp
@[simp] theorem ix_mark (m : Str) : ixD (enc (.mark m)) (.int 1) = some (.str m) := by simp [enc]
@[simp] theorem ix_wth (k : Int) (s : Sm) : ixD (enc (.wth k s)) (.int 1) = some (.int k) := by simp [enc]
/-! ### the program's rows -/
def partsF : List PyData → Option PyData := fnD 2 gparts_of
@[simp] theorem parts_eq (s : Sm) : partsF [enc s] = some (.list (s.parts.map enc)) := by
  unfold partsF
  cases s <;> simp [fnD_ap, startR, gparts_of, Sm.tail]
theorem range_n (r : List Str) (hr : r.length ≤ 1000) : range1D (.int (r.length : Int)) = some ((List.range r.length).map fun (i : Nat) => PyData.int (i : Int)) := by
  rw [range1D_n (by omega)]
  simp [Dn.intsFrom]
theorem range_len (n : Nat) (h : n ≤ 1000) : ((List.range n).map fun (i : Nat) => PyData.int (i : Int)).length ≤ 100000 := by simp; omega
theorem cut_tail (x : Bool) (as : List Bool) : cutL (x :: as) none (some (-1)) = (x :: as).dropLast := by
  have h : HT.sIx (x :: as).length (x :: as).length (some (-1)) = as.length := by
    unfold HT.sIx
    simp
    omega
  unfold cutL
  rw [h, HT.sIx_none, List.dropLast_eq_take]
  simp
theorem cut_head (as : List Bool) (h0 : 0 < as.length) : cutL as (some 1) none = as.drop 1 := by
  have h : HT.sIx as.length 0 (some 1) = 1 := by
    rw [show (1 : Int) = ((1 : Nat) : Int) from rfl, HT.sIx_nat]; omega
  unfold cutL
  rw [h, HT.sIx_none, List.take_of_length_le (by simp)]
theorem cut_map (f : Bool → PyData) (as : List Bool) (l u : Option Int) : cutL (as.map f) l u = (cutL as l u).map f := by
  unfold cutL
  simp [List.map_drop, List.map_take]
theorem zipD_len {as bs : List PyData} (e : as.length = bs.length) : (zipD as bs).length = as.length := by simp [zipD, e]
end My

namespace My
open PySem L2 Dn TL
/-! ### texts of letters -/
def LET : Str := "abcdefghijklmnopqrstuvwxyz"
theorem tl_LET : tl LET = (List.range 26).map (97 + ·) := by decide +kernel
theorem len_LET : LET.length = 26 := by rw [len_tl, tl_LET]; simp
def one (c : Nat) : Str := ⟨#[c]⟩
@[simp] theorem tl_one (c : Nat) : tl (one c) = [c] := rfl
@[simp] theorem len_one (c : Nat) : (one c).length = 1 := rfl
theorem ix_LET (z : Int) : ixD (.str LET) (.int (z % 26)) = some (.str (one (97 + (z % 26).toNat))) := by
  have h0 : 0 ≤ z % 26 := Int.emod_nonneg _ (by decide)
  have h1 : z % 26 < 26 := Int.emod_lt_of_pos _ (by decide)
  have e : atI LET.cps.toList (z % 26) = some (97 + (z % 26).toNat) := by
    have q : atI LET.cps.toList (((z % 26).toNat : Nat) : Int) = some (97 + (z % 26).toNat) := by
      apply atI_nat
      have : LET.cps.toList = (List.range 26).map (97 + ·) := tl_LET
      rw [this, List.getElem?_map, List.getElem?_range (by omega)]
      rfl
    rwa [show (((z % 26).toNat : Nat) : Int) = z % 26 by omega] at q
  unfold ixD
  simp only
  rw [if_pos (by rw [len_LET]; decide), e]
  rfl
/-- 1 to 6 small letters -/
structure Ltr (z : Str) : Prop where
  lo : 1 ≤ z.length
  hi : z.length ≤ 6
  ab : ∀ c ∈ tl z, 97 ≤ c ∧ c ≤ 122
theorem len_app (a b : Str) : (a ++ b).length = a.length + b.length := by rw [len_tl, tl_append, len_tl, len_tl, List.length_append]
theorem tl_cut (z : Str) (l u : Option Int) : tl (cutS z l u) = cutL (tl z) l u := by
  unfold cutS cutL
  rw [len_tl]
theorem cut_to (z : Str) (k : Nat) : tl (cutS z none (some (k : Int))) = (tl z).take k := by
  rw [tl_cut]
  unfold cutL
  rw [HT.sIx_nat, HT.sIx_none]
  simp only [List.drop_zero, Nat.sub_zero]
  rcases Nat.le_total k (tl z).length with h | h
  · rw [Nat.min_eq_left h]
  · rw [Nat.min_eq_right h, List.take_of_length_le (Nat.le_refl _), List.take_of_length_le h]
theorem cut_mid (z : Str) (j k : Nat) (h : k ≤ (tl z).length) : tl (cutS z (some (j : Int)) (some (k : Int))) = ((tl z).drop j).take (k - j) := by
  rw [tl_cut]
  unfold cutL
  rw [HT.sIx_nat, HT.sIx_nat, Nat.min_eq_left h]
  rcases Nat.le_total j (tl z).length with h2 | h2
  · rw [Nat.min_eq_left h2]
  · rw [Nat.min_eq_right h2, List.drop_of_length_le (Nat.le_refl _), List.drop_of_length_le h2]
    simp
theorem slD_s {z : Str} {l u : Option Int} (h : z.length ≤ 100000) : slD l u (.str z) = some (.str (cutS z l u)) := if_pos h
/-! ### the names -/
def codes (c : Int) : List Nat := (List.range 6).map fun (j : Nat) => 97 + ((c / 7 + 5 * (j : Int)) % 26).toNat
def rest (c : Int) : Str := Txt.join (Str.ofString "") ((codes c).map one)
theorem tl_rest (c : Int) : tl (rest c) = codes c := by
  unfold rest
  rw [join_eq, tl_join]
  simp only [codes, List.range, List.range.loop, List.map_cons, List.map_nil, tl_one, joinL]
  have e : tl (Str.ofString "") = [] := rfl
  simp [e]
theorem len_rest (c : Int) : (rest c).length = 6 := by rw [len_tl, tl_rest]; simp [codes]
theorem codes_ab (c : Int) : ∀ x ∈ codes c, 97 ≤ x ∧ x ≤ 122 := by
  intro x hx
  simp only [codes, List.mem_map] at hx
  obtain ⟨j, _, rfl⟩ := hx
  have h0 : 0 ≤ (c / 7 + 5 * (j : Int)) % 26 := Int.emod_nonneg _ (by decide)
  have h1 : (c / 7 + 5 * (j : Int)) % 26 < 26 := Int.emod_lt_of_pos _ (by decide)
  omega
theorem range3 : range1D (.int 3) = some [.int 0, .int 1, .int 2] := by
  have := range1D_n (m := 3) (by decide)
  simpa [Dn.intsFrom, List.range, List.range.loop] using this
theorem range6 : range1D (.int 6) = some ((List.range 6).map fun (i : Nat) => .int (i : Int)) := by
  have := range1D_n (m := 6) (by decide)
  simpa [Dn.intsFrom] using this
def oneS (c : Int) : List PyData := ((codes c).map one).map .str
def namesF : List PyData → Option PyData := fnD 9 gL_names
theorem letters_go (c : Int) (x4 x5 x6 x7 x8 : Option Sv) : lcGo (b1 3) tYesD (f2 ixD (fV 1) (f2 modD (f2 addD (f2 fdivD (fV 0) (fC (.int 7))) (f2 mulD (fC (.int 5)) (fV 3))) (fC (.int 26)))) [some (.d (.int c)), some (.d (.str LET)), none, none, x4, x5, x6, x7, x8] ((List.range 6).map fun (i : Nat) => .int (i : Int)) = some (oneS c) := by
  have q := lc_map (bd := b1 3) (t := tYesD) (f := f2 ixD (fV 1) (f2 modD (f2 addD (f2 fdivD (fV 0) (fC (.int 7))) (f2 mulD (fC (.int 5)) (fV 3))) (fC (.int 26)))) (ρ := [some (.d (.int c)), some (.d (.str LET)), none, none, x4, x5, x6, x7, x8]) (fun (i : Nat) => PyData.int (i : Int)) (fun (j : Nat) => .str (one (97 + ((c / 7 + 5 * (j : Int)) % 26).toNat))) (List.range 6)
    (by
      intro j hj
      refine ⟨_, rfl, rfl, ?_⟩
      simp only [f2_ap, fV_ap, fC_ap, List.getElem?_cons_succ, List.getElem?_cons_zero, List.set_cons_succ, List.set_cons_zero, slot_d, ap2_some]
      rw [fdivD_i (by decide), mulD_i (.inl (by decide))]
      simp only [ap2_some, addD_i]
      rw [modD_i (by decide)]
      simp only [ap2_some]
      rw [ix_LET])
  rw [q]
  simp [oneS, codes, Function.comp_def]
theorem join_D (ys : List Str) (h : (ys.map (·.length)).sum ≤ 100000) : joinD (.str (Str.ofString "")) [.list (ys.map .str)] = some (.str (Txt.join (Str.ofString "") ys)) := by
  unfold joinD
  simp only
  rw [strsD_map, Option.bind_some, if_pos (by
    have : (Str.ofString "").length = 0 := rfl
    rw [this]
    simpa using h)]
theorem ltr_take (c : Int) (k : Nat) (h1 : 1 ≤ k) (h2 : k ≤ 6) : Ltr (cutS (rest c) none (some (k : Int))) := by
  have e := cut_to (rest c) k
  rw [tl_rest] at e
  refine ⟨?_, ?_, ?_⟩
  · rw [len_tl, e]; simp [codes]; omega
  · rw [len_tl, e]; simp; omega
  · intro x hx
    rw [e] at hx
    exact codes_ab c x (List.mem_of_mem_take hx)
theorem names_eq (c : Int) : ∃ a b d, namesF [.int c] = some (dS [a, b, d]) ∧ Ltr a ∧ Ltr b ∧ Ltr d := by
  have hj : joinD (.str (Str.ofString "")) [.list (oneS c)] = some (.str (rest c)) := join_D _ (by simp [codes, List.range, List.range.loop])
  have hr : (rest c).length ≤ 100000 := by rw [len_rest]; decide
  have e7 : fdivD (.int c) (.int 7) = some (.int (c / 7)) := fdivD_i (by decide)
  have e3 : fdivD (.int c) (.int 3) = some (.int (c / 3)) := fdivD_i (by decide)
  have m3 : modD (.int c) (.int 3) = some (.int (c % 3)) := modD_i (by decide)
  have go := letters_go c none none none none none
  rw [LET] at go
  by_cases h : c % 3 = 2
  · -- each the beginning of the next
    have m4 : modD (.int (c / 3)) (.int 4) = some (.int (c / 3 % 4)) := modD_i (by decide)
    have k0 : 0 ≤ c / 3 % 4 := Int.emod_nonneg _ (by decide)
    have k1 : c / 3 % 4 < 4 := Int.emod_lt_of_pos _ (by decide)
    obtain ⟨k, hk⟩ : ∃ k : Nat, 1 + c / 3 % 4 = (k : Int) := ⟨(1 + c / 3 % 4).toNat, by omega⟩
    refine ⟨cutS (rest c) none (some (k : Int)), cutS (rest c) none (some ((k + 1 : Nat) : Int)), cutS (rest c) none (some ((k + 2 : Nat) : Int)), ?_, ltr_take c _ (by omega) (by omega), ltr_take c _ (by omega) (by omega), ltr_take c _ (by omega) (by omega)⟩
    have s1 : slD none (some (k : Int)) (.str (rest c)) = some (.str (cutS (rest c) none (some (k : Int)))) := slD_s hr
    have s2 : slD none (some ((k : Int) + 1)) (.str (rest c)) = some (.str (cutS (rest c) none (some ((k : Int) + 1)))) := slD_s hr
    have s3 : slD none (some ((k : Int) + 2)) (.str (rest c)) = some (.str (cutS (rest c) none (some ((k : Int) + 2)))) := slD_s hr
    have l3 : ∀ (bd : PyData → Rho → Option Rho) (t : Rho → Option Bool) (f : Rho → Option PyData) (ρ : Rho) (a b d : PyData), lcO bd t f ρ (some [a, b, d]) = (lcGo bd t f ρ [a, b, d]).map .list := fun bd t f ρ a b d => lcO_some (by simp)
    unfold namesF
    simp [fnD_ap, startR, gL_names, range6, lcO_some (show ((List.range 6).map fun (i : Nat) => PyData.int (i : Int)).length ≤ 100000 by simp), go, hj, m3, h, e3, m4, range3, hk, l3, s1, s2, s3, dS]
  · -- alike but at one place
    have m6 : modD (.int (c / 3)) (.int 6) = some (.int (c / 3 % 6)) := modD_i (by decide)
    have e18 : fdivD (.int c) (.int 18) = some (.int (c / 18)) := fdivD_i (by decide)
    have e90 : fdivD (.int c) (.int 90) = some (.int (c / 90)) := fdivD_i (by decide)
    have z0 : 0 ≤ c / 3 % 6 := Int.emod_nonneg _ (by decide)
    have z1 : c / 3 % 6 < 6 := Int.emod_lt_of_pos _ (by decide)
    have ms : modD (.int (c / 18)) (.int (c / 3 % 6 + 1)) = some (.int (c / 18 % (c / 3 % 6 + 1))) := modD_i (by omega)
    have a0 : 0 ≤ c / 18 % (c / 3 % 6 + 1) := Int.emod_nonneg _ (by omega)
    have a1 : c / 18 % (c / 3 % 6 + 1) < c / 3 % 6 + 1 := Int.emod_lt_of_pos _ (by omega)
    obtain ⟨n, hn⟩ : ∃ n : Nat, c / 3 % 6 = (n : Int) := ⟨(c / 3 % 6).toNat, by omega⟩
    obtain ⟨k, hk⟩ : ∃ k : Nat, c / 18 % (c / 3 % 6 + 1) = (k : Int) := ⟨(c / 18 % (c / 3 % 6 + 1)).toNat, by omega⟩
    rw [hk] at ms a1
    rw [hn] at ms m6 a1 z1
    have s1 : slD none (some (k : Int)) (.str (rest c)) = some (.str (cutS (rest c) none (some (k : Int)))) := slD_s hr
    have s2 : slD (some (k : Int)) (some (n : Int)) (.str (rest c)) = some (.str (cutS (rest c) (some (k : Int)) (some (n : Int)))) := slD_s hr
    have la : (cutS (rest c) none (some (k : Int))).length = k := by
      rw [len_tl, cut_to, tl_rest]; simp [codes]; omega
    have lb : (cutS (rest c) (some (k : Int)) (some (n : Int))).length = n - k := by
      rw [len_tl, cut_mid _ _ _ (by rw [tl_rest]; simp [codes]; omega), tl_rest]; simp [codes]; omega
    have mk : ∀ z : Int, ∃ x : Str, Ltr x ∧ addD (.str (cutS (rest c) none (some (k : Int)))) (.str (one (97 + (z % 26).toNat))) = some (.str (cutS (rest c) none (some (k : Int)) ++ one (97 + (z % 26).toNat))) ∧
        addD (.str (cutS (rest c) none (some (k : Int)) ++ one (97 + (z % 26).toNat))) (.str (cutS (rest c) (some (k : Int)) (some (n : Int)))) = some (.str x) := by
      intro z
      have h0 : 0 ≤ z % 26 := Int.emod_nonneg _ (by decide)
      have h1 : z % 26 < 26 := Int.emod_lt_of_pos _ (by decide)
      refine ⟨_, ?_, addD_s (by rw [la, len_one]; omega), addD_s (by rw [len_app, la, lb, len_one]; omega)⟩
      refine ⟨by rw [len_app, len_app, len_one]; omega, by rw [len_app, len_app, la, lb, len_one]; omega, ?_⟩
      intro x hx
      rw [tl_append, tl_append, cut_to, cut_mid _ _ _ (by rw [tl_rest]; simp [codes]; omega), tl_rest, List.mem_append, List.mem_append] at hx
      rcases hx with (hx | hx) | hx
      · exact codes_ab c x (List.mem_of_mem_take hx)
      · rw [tl_one, List.mem_singleton] at hx; omega
      · exact codes_ab c x (List.mem_of_mem_drop (List.mem_of_mem_take hx))
    obtain ⟨x0, hx0, p0, q0⟩ := mk (c / 90)
    obtain ⟨x1, hx1, p1, q1⟩ := mk (c / 90 + 7)
    obtain ⟨x2, hx2, p2, q2⟩ := mk (c / 90 + 14)
    refine ⟨x0, x1, x2, ?_, hx0, hx1, hx2⟩
    have t0 := ix_LET (c / 90)
    have t1 := ix_LET (c / 90 + 7)
    have t2 := ix_LET (c / 90 + 14)
    have u0 : mulD (.int 7) (.int 0) = some (.int 0) := by rw [mulD_i (.inl (by decide))]; rfl
    have u1 : mulD (.int 7) (.int 1) = some (.int 7) := by rw [mulD_i (.inl (by decide))]; rfl
    have u2 : mulD (.int 7) (.int 2) = some (.int 14) := by rw [mulD_i (.inl (by decide))]; rfl
    have mm : ∀ z : Int, modD (.int z) (.int 26) = some (.int (z % 26)) := fun z => modD_i (by decide)
    have ap : ∀ (ρ : Rho) (xs : List PyData) (y : PyData), xs.length ≤ 5 → appO 7 ρ (some (some (.own none xs))) (some y) = some (.nx (ρ.set 7 (some (.own none (xs ++ [y]))))) := fun ρ xs y h => appO_some (by omega)
    rw [LET] at t0 t1 t2
    unfold namesF
    simp [fnD_ap, startR, gL_names, range6, lcO_some (show ((List.range 6).map fun (i : Nat) => PyData.int (i : Int)).length ≤ 100000 by simp), go, hj, m3, h, e3, m6, hn, e18, ms, range3, e90, u0, u1, u2, mm, t0, t1, t2, s1, s2, p0, p1, p2, q0, q1, q2, ap, dS]
end My

namespace My
open PySem L2 Dn TL
/-! ### cells, draws -/
def dI (ns : List Int) : PyData := .list (ns.map .int)
def cellAt (ns : List Int) (k : Nat) : Int := (ns[k]?).getD 0
def cellF : List PyData → Option PyData := fnD 2 gL_cell_at
theorem cell_eq (ns : List Int) (k : Nat) : cellF [dI ns, .int k] = some (.int (cellAt ns k)) := by
  have e : ixD (dI ns) (.int k) = (ns[k]?).map PyData.int := by
    show atI (ns.map PyData.int) (k : Int) = _
    cases h : ns[k]? with
    | none =>
      have hl : ns.length ≤ k := List.getElem?_eq_none_iff.mp h
      have : ixN (ns.map PyData.int).length (k : Int) = none := by
        unfold ixN
        rw [if_pos (by omega), if_neg (by simp; omega)]
      unfold atI; rw [this]; rfl
    | some v => exact atI_nat (by rw [List.getElem?_map, h]; rfl)
  unfold cellF
  by_cases h : k < ns.length
  · have h2 : (k : Int) < ((ns.map PyData.int).length : Int) := by simp; omega
    have h3 : ns[k]? = some ns[k] := by simp [h]
    simp [fnD_ap, startR, gL_cell_at, dI] at e ⊢
    simp [h, h3, e, cellAt]
  · have h3 : ns[k]? = none := List.getElem?_eq_none (by omega)
    simp [fnD_ap, startR, gL_cell_at, dI]
    simp [h, h3, cellAt]
/-- what a draw at spot k gives -/
def drawn (ns : List Int) (k : Nat) : Int := match ns[k]? with
  | some v => v
  | none => if 4 < ns.length ∧ k < 40 then ((ns[k % ns.length]?).getD 0 + 7919 * k) * 48271 % 1000003 else 0
def drawF (a0 xs : List PyData) : Option (PyData × List PyData) := match a0, xs with
  | [.list vs], [.int k] => match strsI vs with
    | some ns => if 0 ≤ k then some (.int (drawn ns k.toNat), [.int (k + 1)]) else none
    | none => none
  | _, _ => none
where strsI : List PyData → Option (List Int)
  | [] => some []
  | .int i :: r => (strsI r).map (i :: ·)
  | _ => none
theorem strsI_map (ns : List Int) : drawF.strsI (ns.map .int) = some ns := by
  induction ns with
  | nil => rfl
  | cons n r ih => simp [drawF.strsI, ih]
theorem strsI_inv : ∀ {vs : List PyData} {ns : List Int}, drawF.strsI vs = some ns → vs = ns.map .int
  | [], ns, h => by cases h; rfl
  | .int i :: r, ns, h => by
    simp only [drawF.strsI] at h
    obtain ⟨ms, e, rfl⟩ := Option.map_eq_some_iff.mp h
    rw [strsI_inv e]; rfl
  | .none :: r, ns, h => by simp [drawF.strsI] at h
  | .bool _ :: r, ns, h => by simp [drawF.strsI] at h
  | .str _ :: r, ns, h => by simp [drawF.strsI] at h
  | .list _ :: r, ns, h => by simp [drawF.strsI] at h
  | .tuple _ :: r, ns, h => by simp [drawF.strsI] at h
  | .dict _ :: r, ns, h => by simp [drawF.strsI] at h
theorem drawF_eq (ns : List Int) (k : Nat) : drawF [dI ns] [.int k] = some (.int (drawn ns k), [.int ((k + 1 : Nat) : Int)]) := by
  unfold drawF dI
  simp only [strsI_map]
  rw [if_pos (by omega)]
  simp
theorem ixI {ns : List Int} {k : Nat} (h : k < ns.length) : ixD (dI ns) (.int k) = some (.int ((ns[k]?).getD 0)) := by
  have h3 : ns[k]? = some ns[k] := by simp [h]
  rw [h3]
  exact atI_nat (by rw [List.getElem?_map, h3]; rfl)
theorem draw_run (a : Addr) (ns : List Int) (k : Nat) : retC a (gL_draw (startC 3 a [dI ns] [.int k])) = some (.int (drawn ns k), [.int ((k + 1 : Nat) : Int)]) := by
  have hl : lenD (dI ns) = some (.int (ns.length : Int)) := by simp [dI]
  have s0 : ∀ (ρ : Rho) (o : Option Addr) (x y : PyData), setiO 1 ρ (some (some (.own o [x]))) (some y) (some (.int 0)) = some (.nx (ρ.set 1 (some (.own o [y])))) := fun ρ o x y => setiO_0 ..
  by_cases h : k < ns.length
  · have h3 : ns[k]? = some ns[k] := by simp [h]
    have i1 := ixI h
    rw [h3] at i1
    simp [startC, gL_draw, hl, h, drawn, h3, i1, show (k : Int) + 1 - 1 = k by omega, retC]
  · have h3 : ns[k]? = none := List.getElem?_eq_none (by omega)
    by_cases h4 : 4 < ns.length
    · by_cases h5 : k < 40
      · have i1 := ixI (ns := ns) (k := k % ns.length) (Nat.mod_lt _ (by omega))
        have m1 : modD (.int (k : Int)) (.int (ns.length : Int)) = some (.int ((k % ns.length : Nat) : Int)) := by
          rw [modD_i (by omega)]; simp
        have m2 : mulD (.int 7919) (.int (k : Int)) = some (.int (7919 * k)) := mulD_i (.inl (by decide))
        have m3 : ∀ z : Int, mulD (.int z) (.int 48271) = some (.int (z * 48271)) := fun z => mulD_i (.inr (by decide))
        have m4 : ∀ z : Int, modD (.int z) (.int 1000003) = some (.int (z % 1000003)) := fun z => modD_i (by decide)
        simp only [Int.natCast_emod] at i1 m1
        simp [startC, gL_draw, hl, h, h4, h5, drawn, h3, i1, m1, m2, m3, m4, show (k : Int) + 1 - 1 = k by omega, show (4 : Int) < ns.length by omega, show (k : Int) < 40 by omega, retC]
      · simp [startC, gL_draw, hl, h, h4, h5, drawn, h3, show (k : Int) + 1 - 1 = k by omega, show (4 : Int) < ns.length by omega, show ¬ (k : Int) < 40 by omega, retC]
    · simp [startC, gL_draw, hl, h, h4, drawn, h3, show (k : Int) + 1 - 1 = k by omega, show ¬ (4 : Int) < ns.length by omega, retC]
theorem drawF_run (a : Addr) (ds xs : List PyData) (r : PyData × List PyData) (hl : ds.length + 1 = 2) (h : drawF ds xs = some r) : retC a (gL_draw (startC 3 a ds xs)) = some r := by
  unfold drawF at h
  split at h
  · rename_i vs k
    split at h
    · rename_i ns e
      split at h
      · rename_i hk
        cases h
        have q := draw_run a ns k.toNat
        rw [show ((k.toNat : Nat) : Int) = k by omega, show ((k.toNat + 1 : Nat) : Int) = k + 1 by omega] at q
        rw [strsI_inv e]
        exact q
      · cases h
    · cases h
  · cases h
/-! ### all that stands in a statement; the law's wishes, by what the law reckons -/
theorem Sm.depth_pos (s : Sm) : 1 ≤ s.depth := by cases s <;> simp
def allS : Sm → List Sm
  | .mark m => [.mark m]
  | .yes => [.yes]
  | .not s => .not s :: allS s
  | .and s t => .and s t :: (allS s ++ allS t)
  | .or s t => .or s t :: (allS s ++ allS t)
  | .nxt s => .nxt s :: allS s
  | .unt s t => .unt s t :: (allS s ++ allS t)
  | .wth k s => .wth k s :: allS s
  | .bef s => .bef s :: allS s
  | .sin s t => .sin s t :: (allS s ++ allS t)
theorem allS_len : ∀ s : Sm, (allS s).length + 1 ≤ 2 ^ s.depth
  | .mark _ | .yes => by simp [allS]
  | .not s | .nxt s | .wth _ s | .bef s => by
    have := allS_len s
    simp [allS, Nat.pow_succ]; omega
  | .and s t | .or s t | .unt s t | .sin s t => by
    have h1 := allS_len s
    have h2 := allS_len t
    have h3 : 2 ^ s.depth ≤ 2 ^ max s.depth t.depth := Nat.pow_le_pow_right (by decide) (Nat.le_max_left _ _)
    have h4 : 2 ^ t.depth ≤ 2 ^ max s.depth t.depth := Nat.pow_le_pow_right (by decide) (Nat.le_max_right _ _)
    simp [allS, Nat.pow_succ]; omega
def allF : Nat → List PyData → Option PyData
  | 0 => fun _ => none
  | n + 1 => fnD 3 (gL_all (allF n))
theorem allF_eq (s : Sm) : ∀ n : Nat, s.depth ≤ n → s.depth ≤ 14 → allF n [enc s] = some (.list ((allS s).map enc)) := by
  have no : ∀ s : Sm, ¬ s.depth ≤ 0 := fun s => by cases s <;> simp
  have big : ∀ s : Sm, s.depth ≤ 14 → ((allS s).map enc).length ≤ 20000 := fun s h => by
    have h1 := allS_len s
    have h2 : 2 ^ s.depth ≤ 2 ^ 14 := Nat.pow_le_pow_right (by decide) h
    have h3 : (2 : Nat) ^ 14 = 16384 := rfl
    simp; omega
  have ap : ∀ (x : PyData) (a b : List PyData), a.length ≤ 20000 → b.length ≤ 20000 → addD (.list (x :: a)) (.list b) = some (.list (x :: (a ++ b))) := fun x a b h1 h2 => addD_l (by simp; omega)
  have ap1 : ∀ (x : PyData) (b : List PyData), b.length ≤ 20000 → addD (.list [x]) (.list b) = some (.list (x :: b)) := fun x b h2 => addD_l (by simp; omega)
  induction s with
  | mark m => intro n hd h; cases n with | zero => exact absurd hd (no _) | succ n => simp [allF, fnD_ap, startR, gL_all, Sm.tail, allS]
  | yes => intro n hd h; cases n with | zero => exact absurd hd (no _) | succ n => simp [allF, fnD_ap, startR, gL_all, Sm.tail, allS]
  | not s ihs | nxt s ihs | wth k s ihs | bef s ihs =>
    intro n hd h
    cases n with
    | zero => exact absurd hd (no _)
    | succ n =>
      have hs : s.depth ≤ 14 := by simp at h; omega
      have i1 := ihs n (by simpa using hd) hs
      have := ap1
      simp [allF, fnD_ap, startR, gL_all, Sm.tail, allS, i1, ap1 _ _ (big s hs)]
  | and s t ihs iht | or s t ihs iht | unt s t ihs iht | sin s t ihs iht =>
    intro n hd h
    cases n with
    | zero => exact absurd hd (no _)
    | succ n =>
      have hs : s.depth ≤ 14 := by simp at h; omega
      have ht : t.depth ≤ 14 := by simp at h; omega
      have i1 := ihs n (by simp at hd; omega) hs
      have i2 := iht n (by simp at hd; omega) ht
      simp [allF, fnD_ap, startR, gL_all, Sm.tail, allS, i1, i2, ap1 _ _ (big s hs), ap _ _ _ (big s hs) (big t ht)]
end My

namespace My
open PySem L2 Dn TL
/-! ### fine statements: what may be compared -/
def Sm.Fine : Sm → Prop
  | .mark m => Ltr m
  | .yes => True
  | .not s | .nxt s | .bef s => s.Fine
  | .wth k s => 0 ≤ k ∧ k ≤ 4 ∧ s.Fine
  | .and s t | .or s t | .unt s t | .sin s t => s.Fine ∧ t.Fine
theorem ltr_ok {m : Str} (h : Ltr m) : PyData.strOk m = true := by
  unfold PyData.strOk
  rw [Array.all_eq_true_iff_forall_mem]
  intro c hc
  have := h.ab c (by simpa [tl] using hc)
  exact decide_eq_true (by omega)
theorem word_ok : ∀ s : Sm, PyData.strOk s.word = true := by intro s; cases s <;> simp only [Sm.word] <;> decide +kernel
theorem lay_enc : ∀ s : Sm, s.Fine → PyData.canLay0 (enc s) = true
  | .mark m, h => by
    have h1 : PyData.strOk m = true := ltr_ok h
    have h2 := word_ok (.mark m)
    simp only [Sm.word] at h2
    simp [enc, PyData.canLay0, PyData.canLayAll0, h1, h2]
  | .yes, _ => by
    have h2 := word_ok .yes
    simp only [Sm.word] at h2
    simp [enc, PyData.canLay0, PyData.canLayAll0, h2]
  | .not s, h => by
    have h2 := word_ok (.not s)
    simp only [Sm.word] at h2
    simp [enc, PyData.canLay0, PyData.canLayAll0, h2, lay_enc s h]
  | .nxt s, h => by
    have h2 := word_ok (.nxt s)
    simp only [Sm.word] at h2
    simp [enc, PyData.canLay0, PyData.canLayAll0, h2, lay_enc s h]
  | .bef s, h => by
    have h2 := word_ok (.bef s)
    simp only [Sm.word] at h2
    simp [enc, PyData.canLay0, PyData.canLayAll0, h2, lay_enc s h]
  | .wth k s, h => by
    have h2 := word_ok (.wth k s)
    simp only [Sm.word] at h2
    simp [enc, PyData.canLay0, PyData.canLayAll0, h2, lay_enc s h.2.2]
  | .and s t, h => by
    have h2 := word_ok (.and s t)
    simp only [Sm.word] at h2
    simp [enc, PyData.canLay0, PyData.canLayAll0, h2, lay_enc s h.1, lay_enc t h.2]
  | .or s t, h => by
    have h2 := word_ok (.or s t)
    simp only [Sm.word] at h2
    simp [enc, PyData.canLay0, PyData.canLayAll0, h2, lay_enc s h.1, lay_enc t h.2]
  | .unt s t, h => by
    have h2 := word_ok (.unt s t)
    simp only [Sm.word] at h2
    simp [enc, PyData.canLay0, PyData.canLayAll0, h2, lay_enc s h.1, lay_enc t h.2]
  | .sin s t, h => by
    have h2 := word_ok (.sin s t)
    simp only [Sm.word] at h2
    simp [enc, PyData.canLay0, PyData.canLayAll0, h2, lay_enc s h.1, lay_enc t h.2]
theorem depth_enc : ∀ s : Sm, PyData.depth (enc s) = s.depth
  | .mark m => by simp [enc, PyData.depth, PyData.depthAll]
  | .yes => by simp [enc, PyData.depth, PyData.depthAll]
  | .not s => by simp [enc, PyData.depth, PyData.depthAll, depth_enc s]
  | .nxt s => by simp [enc, PyData.depth, PyData.depthAll, depth_enc s]
  | .bef s => by simp [enc, PyData.depth, PyData.depthAll, depth_enc s]
  | .wth k s => by simp [enc, PyData.depth, PyData.depthAll, depth_enc s]
  | .and s t => by simp [enc, PyData.depth, PyData.depthAll, depth_enc s, depth_enc t]
  | .or s t => by simp [enc, PyData.depth, PyData.depthAll, depth_enc s, depth_enc t]
  | .unt s t => by simp [enc, PyData.depth, PyData.depthAll, depth_enc s, depth_enc t]
  | .sin s t => by simp [enc, PyData.depth, PyData.depthAll, depth_enc s, depth_enc t]
theorem eqv_str (a b : Str) : PyData.eqv (.str a) (.str b) = sEq a b := by simp only [PyData.eqv]; rfl
theorem eqv_int (a b : Int) : PyData.eqv (.int a) (.int b) = decide (a = b) := by simp only [PyData.eqv]; rfl
theorem eqv_tup (a b : List PyData) : PyData.eqv (.tuple a) (.tuple b) = PyData.eqvAll a b := by simp only [PyData.eqv]
theorem eqvAll_c (a b : PyData) (r q : List PyData) : PyData.eqvAll (a :: r) (b :: q) = (PyData.eqv a b && PyData.eqvAll r q) := by simp only [PyData.eqvAll]
theorem eqvAll_0 : PyData.eqvAll [] [] = true := by simp only [PyData.eqvAll]
theorem eqv_enc : ∀ s t : Sm, PyData.eqv (enc s) (enc t) = decide (s = t) := by
  intro s
  induction s with
  | mark m => intro t; cases t <;> simp [enc, eqv_str, eqv_tup, eqvAll_c, eqvAll_0, sEq]
  | yes => intro t; cases t <;> simp [enc, eqv_str, eqv_tup, eqvAll_c, eqvAll_0]
  | not s ihs | nxt s ihs | bef s ihs => intro t; cases t <;> simp [enc, eqv_str, eqv_tup, eqvAll_c, eqvAll_0, ihs]
  | wth k s ihs => intro t; cases t <;> simp [enc, eqv_str, eqv_int, eqv_tup, eqvAll_c, eqvAll_0, ihs]
  | and s t ihs iht | or s t ihs iht | unt s t ihs iht | sin s t ihs iht => intro u; cases u <;> simp [enc, eqv_str, eqv_tup, eqvAll_c, eqvAll_0, ihs, iht]
theorem shaped_enc {s : Sm} (h : s.Fine) (hd : s.depth ≤ 60) : SeqAt.shaped (enc s) = true := by
  simp [SeqAt.shaped, lay_enc s h, depth_enc s]; omega
theorem shaped_encs {xs : List Sm} (h : ∀ s ∈ xs, s.Fine ∧ s.depth ≤ 60) : SeqAt.shaped (.list (xs.map enc)) = true := by
  have h1 : PyData.canLayAll0 (xs.map enc) = true ∧ PyData.depthAll (xs.map enc) ≤ 60 := by
    induction xs with
    | nil => simp [PyData.canLayAll0, PyData.depthAll]
    | cons x r ih =>
      obtain ⟨i1, i2⟩ := ih fun s hs => h s (by simp [hs])
      obtain ⟨j1, j2⟩ := h x (by simp)
      simp only [List.map_cons, PyData.canLayAll0, PyData.depthAll, lay_enc x j1, i1, depth_enc]
      exact ⟨rfl, by omega⟩
  simp [SeqAt.shaped, PyData.canLay0, PyData.depth, h1.1]
  omega
theorem any_enc (x : Sm) (xs : List Sm) : (xs.map enc).any (fun z => PyData.eqv z (enc x)) = decide (x ∈ xs) := by
  induction xs with
  | nil => simp
  | cons y r ih =>
    rw [List.map_cons, List.any_cons, ih, eqv_enc]
    by_cases h : y = x
    · simp [h]
    · simp [h, Ne.symm h]
theorem inD_encs {x : Sm} {xs : List Sm} (hx : x.Fine ∧ x.depth ≤ 60) (h : ∀ s ∈ xs, s.Fine ∧ s.depth ≤ 60) : inD (enc x) (.list (xs.map enc)) = some (decide (x ∈ xs)) := by
  have e : inD (enc x) (.list (xs.map enc)) = if (SeqAt.shaped (enc x) && SeqAt.shaped (.list (xs.map enc))) = true then some ((xs.map enc).any fun z => PyData.eqv z (enc x)) else none := by
    obtain ⟨ys, e⟩ : ∃ ys, enc x = .tuple ys := ⟨_, enc_eq x⟩
    rw [e]; rfl
  rw [e, shaped_enc hx.1 hx.2, shaped_encs h, any_enc]
  rfl
theorem ni_encs {x : Sm} {xs : List Sm} (hx : x.Fine ∧ x.depth ≤ 60) (h : ∀ s ∈ xs, s.Fine ∧ s.depth ≤ 60) : niP (enc x) (.list (xs.map enc)) = some (.bool (decide (x ∉ xs))) := by
  unfold niP
  rw [inD_encs hx h]
  simp
theorem in_encs {x : Sm} {xs : List Sm} (hx : x.Fine ∧ x.depth ≤ 60) (h : ∀ s ∈ xs, s.Fine ∧ s.depth ≤ 60) : inP (enc x) (.list (xs.map enc)) = some (.bool (decide (x ∈ xs))) := by
  unfold inP
  rw [inD_encs hx h]
  rfl
theorem fine_all : ∀ (s : Sm), s.Fine → ∀ x ∈ allS s, x.Fine ∧ x.depth ≤ s.depth
  | .mark m, h, x, hx => by simp [allS] at hx; subst hx; exact ⟨h, by simp⟩
  | .yes, h, x, hx => by simp [allS] at hx; subst hx; exact ⟨h, by simp⟩
  | .not s, h, x, hx => by
    rcases List.mem_cons.mp hx with rfl | hx
    · exact ⟨h, by simp⟩
    · have := fine_all s h x hx; exact ⟨this.1, by simp; omega⟩
  | .nxt s, h, x, hx => by
    rcases List.mem_cons.mp hx with rfl | hx
    · exact ⟨h, by simp⟩
    · have := fine_all s h x hx; exact ⟨this.1, by simp; omega⟩
  | .bef s, h, x, hx => by
    rcases List.mem_cons.mp hx with rfl | hx
    · exact ⟨h, by simp⟩
    · have := fine_all s h x hx; exact ⟨this.1, by simp; omega⟩
  | .wth k s, h, x, hx => by
    rcases List.mem_cons.mp hx with rfl | hx
    · exact ⟨h, by simp⟩
    · have := fine_all s h.2.2 x hx; exact ⟨this.1, by simp; omega⟩
  | .and s t, h, x, hx | .or s t, h, x, hx | .unt s t, h, x, hx | .sin s t, h, x, hx => by
    rcases List.mem_cons.mp hx with rfl | hx
    · exact ⟨h, by simp⟩
    · rcases List.mem_append.mp hx with hx | hx
      · have := fine_all s h.1 x hx; exact ⟨this.1, by simp; omega⟩
      · have := fine_all t h.2 x hx; exact ⟨this.1, by simp; omega⟩
/-! ### the law's wishes -/
def moreS : Sm → List Sm
  | .nxt s => [s]
  | .unt s t => [.unt s t]
  | .wth k s => (List.range k.toNat).map fun (j : Nat) => .wth (j : Int) s
  | _ => []
def wishGo (ones found : List Sm) : List Sm := ones.foldl (fun f one => f ++ (moreS one).filter fun x => decide (x ∉ f)) found
def wishL (s : Sm) : List Sm := wishGo (allS s) [s]
theorem more_fine {s : Sm} (h : s.Fine) : (moreS s).length ≤ 4 ∧ ∀ x ∈ moreS s, x.Fine ∧ x.depth ≤ s.depth := by
  cases s with
  | nxt s => exact ⟨by simp [moreS], fun x hx => by simp [moreS] at hx; subst hx; exact ⟨h, by simp⟩⟩
  | unt s t => exact ⟨by simp [moreS], fun x hx => by simp [moreS] at hx; subst hx; exact ⟨h, by simp⟩⟩
  | wth k s =>
    obtain ⟨h1, h2, h3⟩ := h
    refine ⟨by simp [moreS]; omega, fun x hx => ?_⟩
    simp only [moreS, List.mem_map, List.mem_range] at hx
    obtain ⟨j, hj, rfl⟩ := hx
    exact ⟨⟨by omega, by omega, h3⟩, by simp⟩
  | _ => exact ⟨by simp [moreS], fun x hx => by simp [moreS] at hx⟩
end My

namespace My
open PySem L2 Dn TL
def wishesF : List PyData → Option PyData := fnD 6 (gL_wishes (allF 14))
/-- a comprehension that keeps some of a list -/
theorem lc_filter {bd : PyData → Rho → Option Rho} {t : Rho → Option Bool} {f : Rho → Option PyData} {ρ : Rho} {α : Type} (e : α → PyData) (p : α → Bool) (h : α → PyData) : ∀ xs : List α, (∀ x ∈ xs, ∃ ρ1, bd (e x) ρ = some ρ1 ∧ t ρ1 = some (p x) ∧ f ρ1 = some (h x)) → lcGo bd t f ρ (xs.map e) = some ((xs.filter p).map h)
  | [], _ => rfl
  | x :: xs, q => by
    obtain ⟨ρ1, e1, e2, e3⟩ := q x (by simp)
    rw [List.map_cons, lcGo_c, e1, lcB_some, e2, e3, lc_filter e p h xs fun y hy => q y (by simp [hy])]
    cases hp : p x <;> simp [hp]
abbrev wBody : Rho → Option Out := gSeq (gSet 3 (fLst fNil)) (gSeq (gIf (fB (f2 eqP (f2 ixD (fV 2) (fC (.int 0))) (fC (.str "next")))) (gSet 3 (fLst (fCons (f2 ixD (fV 2) (fC (.int 1))) fNil))) (gIf (fB (f2 eqP (f2 ixD (fV 2) (fC (.int 0))) (fC (.str "until")))) (gSet 3 (fLst (fCons (fV 2) fNil))) (gIf (fB (f2 eqP (f2 ixD (fV 2) (fC (.int 0))) (fC (.str "within")))) (gSet 3 (fLc (fR1 (f2 ixD (fV 2) (fC (.int 1)))) (b1 4) tYesD (fTup (fCons (fC (.str "within")) (fCons (fV 4) (fCons (f2 ixD (fV 2) (fC (.int 2))) fNil)))) [4])) gNx))) (gSet 1 (f2 addD (fV 1) (fLc (fSeq (fV 3)) (b1 5) (fB (f2 niP (fV 5) (fV 1))) (fV 5) [5]))))
theorem wLast (x0 x1 x2 : PyData) (found more : List Sm) (hm : more.length ≤ 4) (hf : ∀ s ∈ found, s.Fine ∧ s.depth ≤ 60) (hx : ∀ s ∈ more, s.Fine ∧ s.depth ≤ 60) (hl : found.length ≤ 90000) (x4 x5 : Option Sv) :
    ∃ x5', gSet 1 (f2 addD (fV 1) (fLc (fSeq (fV 3)) (b1 5) (fB (f2 niP (fV 5) (fV 1))) (fV 5) [5])) [some (.d x0), some (.d (.list (found.map enc))), some (.d x2), some (.d (.list (more.map enc))), x4, x5] =
      some (.nx [some (.d x0), some (.d (.list ((found ++ more.filter fun x => decide (x ∉ found)).map enc))), some (.d x2), some (.d (.list (more.map enc))), x4, x5']) := by
  have q := lc_filter (bd := b1 5) (t := fB (f2 niP (fV 5) (fV 1))) (f := fV 5) (ρ := [some (.d x0), some (.d (.list (found.map enc))), some (.d x2), some (.d (.list (more.map enc))), x4, none]) enc (fun x => decide (x ∉ found)) enc more
    (by intro x h; exact ⟨_, rfl, by simp [ni_encs (hx x h) hf], by simp⟩)
  refine ⟨x5, ?_⟩
  have hs : ((found.map enc).length + ((more.filter fun x => decide (x ∉ found)).map enc).length) ≤ 100000 := by
    have := List.length_filter_le (fun x => decide (x ∉ found)) more
    rw [List.length_map, List.length_map]; omega
  simp only [gSet_ap, f2_ap, fV_ap, fLc_ap, fSeq_ap, List.getElem?_cons_succ, List.getElem?_cons_zero, slot_d, seqO1_some, seqD_l, wipeR_c, wipeR_0, List.set_cons_succ, List.set_cons_zero]
  rw [lcO_some (by simp; omega), q]
  simp only [Option.map_some, ap2_some]
  rw [addD_l hs]
  simp only [setO_some, List.set_cons_succ, List.set_cons_zero, List.map_append]
theorem wth_more (k : Int) (s : Sm) (h : 0 ≤ k ∧ k ≤ 4) (x0 x1 x3 x5 : Option Sv) : fLc (fR1 (f2 ixD (fV 2) (fC (.int 1)))) (b1 4) tYesD (fTup (fCons (fC (.str "within")) (fCons (fV 4) (fCons (f2 ixD (fV 2) (fC (.int 2))) fNil)))) [4] [x0, x1, some (.d (enc (.wth k s))), x3, none, x5] = some (.list ((moreS (.wth k s)).map enc)) := by
  have ix2 : ixD (enc (.wth k s)) (.int 2) = some (enc s) := by simp [enc]
  have q := lc_map (bd := b1 4) (t := tYesD) (f := (fTup (fCons (fC (.str "within")) (fCons (fV 4) (fCons (f2 ixD (fV 2) (fC (.int 2))) fNil))))) (ρ := [x0, x1, some (.d (enc (.wth k s))), x3, none, x5]) (fun (i : Nat) => PyData.int (i : Int)) (fun (j : Nat) => enc (.wth (j : Int) s)) (List.range k.toNat)
    (by intro j hj; exact ⟨_, rfl, rfl, by simp [ix2, enc]⟩)
  have e : range1D (.int k) = some ((List.range k.toNat).map fun (i : Nat) => PyData.int (i : Int)) := by
    have := range1D_n (m := k.toNat) (by omega)
    rw [show ((k.toNat : Nat) : Int) = k by omega] at this
    rw [this]; simp [Dn.intsFrom]
  simp only [fLc_ap, fR1_ap, f2_ap, fV_ap, fC_ap, List.getElem?_cons_succ, List.getElem?_cons_zero, slot_d, ap2_some, ix_wth, seqO1_some, wipeR_c, wipeR_0, List.set_cons_succ, List.set_cons_zero]
  rw [e, lcO_some (by simp; omega), q]
  simp [moreS, Function.comp_def]
theorem wTurn (x0 : PyData) (found : List Sm) (one : Sm) (h1 : one.Fine ∧ one.depth ≤ 60) (hf : ∀ s ∈ found, s.Fine ∧ s.depth ≤ 60) (hl : found.length ≤ 90000) (x3 x4 x5 : Option Sv) (h4 : x4 = none) :
    ∃ x3' x5', wBody [some (.d x0), some (.d (.list (found.map enc))), some (.d (enc one)), x3, x4, x5] =
      some (.nx [some (.d x0), some (.d (.list ((found ++ (moreS one).filter fun x => decide (x ∉ found)).map enc))), some (.d (enc one)), x3', none, x5']) := by
  subst h4
  obtain ⟨m1, m2⟩ := more_fine h1.1
  obtain ⟨x5', q⟩ := wLast x0 (.list (found.map enc)) (enc one) found (moreS one) m1 hf (fun s hs => ⟨(m2 s hs).1, Nat.le_trans (m2 s hs).2 h1.2⟩) hl none x5
  refine ⟨some (.d (.list ((moreS one).map enc))), x5', ?_⟩
  have key : (gSeq (gSet 3 (fLst fNil)) (gIf (fB (f2 eqP (f2 ixD (fV 2) (fC (.int 0))) (fC (.str "next")))) (gSet 3 (fLst (fCons (f2 ixD (fV 2) (fC (.int 1))) fNil))) (gIf (fB (f2 eqP (f2 ixD (fV 2) (fC (.int 0))) (fC (.str "until")))) (gSet 3 (fLst (fCons (fV 2) fNil))) (gIf (fB (f2 eqP (f2 ixD (fV 2) (fC (.int 0))) (fC (.str "within")))) (gSet 3 (fLc (fR1 (f2 ixD (fV 2) (fC (.int 1)))) (b1 4) tYesD (fTup (fCons (fC (.str "within")) (fCons (fV 4) (fCons (f2 ixD (fV 2) (fC (.int 2))) fNil)))) [4])) gNx)))) [some (.d x0), some (.d (.list (found.map enc))), some (.d (enc one)), x3, none, x5] = some (.nx [some (.d x0), some (.d (.list (found.map enc))), some (.d (enc one)), some (.d (.list ((moreS one).map enc))), none, x5]) := by
    cases one with
    | nxt s =>
      have ix1 : ixD (enc (.nxt s)) (.int 1) = some (enc s) := by simp [enc]
      simp [moreS, ix1]
    | unt s t => simp [moreS]
    | wth k s => 
      have w := wth_more k s ⟨h1.1.1, h1.1.2.1⟩ (some (.d x0)) (some (.d (.list (found.map enc)))) (some (.d (.list []))) x5
      simp [-fLc_ap, w]
    | _ => simp [moreS]
  simp only [gSeq_ap] at key
  simp only [wBody, gSeq_ap]
  cases hz : gSet 3 (fLst fNil) [some (.d x0), some (.d (.list (found.map enc))), some (.d (enc one)), x3, none, x5] with
  | none => rw [hz] at key; cases key
  | some o =>
    rw [hz] at key
    cases o with
    | nx ρ =>
      simp only [seqO_nx] at key ⊢
      rw [gSeq_ap, key]
      simp only [seqO_nx]
      exact q
    | rt d ρ => cases key
    | bk ρ => cases key
    | ct ρ => cases key
    | rf zs => cases key
theorem wGo (x0 : PyData) : ∀ (ones found : List Sm) (x2 x3 x5 : Option Sv), (∀ s ∈ ones, s.Fine ∧ s.depth ≤ 60) → (∀ s ∈ found, s.Fine ∧ s.depth ≤ 60) → found.length + 4 * ones.length ≤ 90000 →
    ∃ x2' x3' x5', forGo (b1 2) wBody (ones.map enc) [some (.d x0), some (.d (.list (found.map enc))), x2, x3, none, x5] = some (.nx [some (.d x0), some (.d (.list ((wishGo ones found).map enc))), x2', x3', none, x5'])
  | [], found, x2, x3, x5, _, _, _ => ⟨x2, x3, x5, rfl⟩
  | one :: ones, found, x2, x3, x5, h1, hf, hl => by
    have ho := h1 one (by simp)
    obtain ⟨m1, m2⟩ := more_fine ho.1
    obtain ⟨x3', x5', q⟩ := wTurn x0 found one ho hf (by simp at hl; omega) x3 none x5 rfl
    have hlen := List.length_filter_le (fun x => decide (x ∉ found)) (moreS one)
    obtain ⟨y2, y3, y5, q2⟩ := wGo x0 ones (found ++ (moreS one).filter fun x => decide (x ∉ found)) (some (.d (enc one))) x3' x5' (fun s hs => h1 s (by simp [hs])) (by
      intro s hs
      rcases List.mem_append.mp hs with hs | hs
      · exact hf s hs
      · have := m2 s (List.mem_filter.mp hs).1
        exact ⟨this.1, Nat.le_trans this.2 ho.2⟩) (by rw [List.length_append]; simp only [List.length_cons] at hl; omega)
    refine ⟨y2, y3, y5, ?_⟩
    rw [List.map_cons, forGo_c, b1_ap, forB_some]
    simp only [List.set_cons_succ, List.set_cons_zero]
    rw [q, forN_nx, q2]
    rfl
theorem wishes_eq (s : Sm) (h : s.Fine) (hd : s.depth ≤ 10) : wishesF [enc s] = some (.list ((wishL s).map enc)) := by
  have hl := allS_len s
  have h2 : 2 ^ s.depth ≤ 2 ^ 10 := Nat.pow_le_pow_right (by decide) hd
  have h3 : (2 : Nat) ^ 10 = 1024 := rfl
  obtain ⟨x2, x3, x5, q⟩ := wGo (enc s) (allS s) [s] none none none (fun x hx => ⟨(fine_all s h x hx).1, by have := (fine_all s h x hx).2; omega⟩) (by intro x hx; simp at hx; subst hx; exact ⟨h, by omega⟩) (by simp; omega)
  have a := allF_eq s 14 (by omega) (by omega)
  unfold wishesF
  rw [fnD_ap]
  have e : startR 6 [enc s] = [some (.d (enc s)), none, none, none, none, none] := rfl
  rw [e, gL_wishes]
  simp only [gSeq_ap, gSet_ap, fLst_ap, fCons_ap, fV_ap, fNil_ap, List.getElem?_cons_zero, slot_d, consO_some, lstO_1, setO_some, List.set_cons_succ, List.set_cons_zero, seqO_nx, gFor_ap, fSeq_ap, fCa_ap, caO_1, a, seqO1_some, seqD_l, forO_some]
  simp only [List.map_cons, List.map_nil] at q
  rw [q]
  simp only [seqO_nx, gRet_ap, fV_ap, List.getElem?_cons_succ, List.getElem?_cons_zero, slot_d, retO_some, retD_rt, wishL]
end My

namespace My
open PySem L2 Dn TL
/-! ### the law's fit -/
def fitS (m : Nat) : Sm → Sm
  | .mark x => .mark x
  | .yes => .yes
  | .not s => if (wishL (.not s)).length ≤ m then .not s else fitS m s
  | .nxt s => if (wishL (.nxt s)).length ≤ m then .nxt s else fitS m s
  | .bef s => if (wishL (.bef s)).length ≤ m then .bef s else fitS m s
  | .wth k s => if (wishL (.wth k s)).length ≤ m then .wth k s else fitS m s
  | .and s t => if (wishL (.and s t)).length ≤ m then .and s t else fitS m t
  | .or s t => if (wishL (.or s t)).length ≤ m then .or s t else fitS m t
  | .unt s t => if (wishL (.unt s t)).length ≤ m then .unt s t else fitS m t
  | .sin s t => if (wishL (.sin s t)).length ≤ m then .sin s t else fitS m t
theorem fitS_fine (m : Nat) (hm : 1 ≤ m) : ∀ s : Sm, s.Fine → (fitS m s).Fine ∧ (fitS m s).depth ≤ s.depth ∧ (wishL (fitS m s)).length ≤ m
  | .mark x, h => ⟨h, by simp [fitS], by simpa [fitS, wishL, allS, wishGo, moreS] using hm⟩
  | .yes, h => ⟨h, by simp [fitS], by simpa [fitS, wishL, allS, wishGo, moreS] using hm⟩
  | .not s, h => by
    unfold fitS; split
    · rename_i z; exact ⟨h, Nat.le_refl _, z⟩
    · have q := fitS_fine m hm s h; exact ⟨q.1, by simp; omega, q.2.2⟩
  | .nxt s, h => by
    unfold fitS; split
    · rename_i z; exact ⟨h, Nat.le_refl _, z⟩
    · have q := fitS_fine m hm s h; exact ⟨q.1, by simp; omega, q.2.2⟩
  | .bef s, h => by
    unfold fitS; split
    · rename_i z; exact ⟨h, Nat.le_refl _, z⟩
    · have q := fitS_fine m hm s h; exact ⟨q.1, by simp; omega, q.2.2⟩
  | .wth k s, h => by
    unfold fitS; split
    · rename_i z; exact ⟨h, Nat.le_refl _, z⟩
    · have q := fitS_fine m hm s h.2.2; exact ⟨q.1, by simp; omega, q.2.2⟩
  | .and s t, h => by
    unfold fitS; split
    · rename_i z; exact ⟨h, Nat.le_refl _, z⟩
    · have q := fitS_fine m hm t h.2; exact ⟨q.1, by simp; omega, q.2.2⟩
  | .or s t, h => by
    unfold fitS; split
    · rename_i z; exact ⟨h, Nat.le_refl _, z⟩
    · have q := fitS_fine m hm t h.2; exact ⟨q.1, by simp; omega, q.2.2⟩
  | .unt s t, h => by
    unfold fitS; split
    · rename_i z; exact ⟨h, Nat.le_refl _, z⟩
    · have q := fitS_fine m hm t h.2; exact ⟨q.1, by simp; omega, q.2.2⟩
  | .sin s t, h => by
    unfold fitS; split
    · rename_i z; exact ⟨h, Nat.le_refl _, z⟩
    · have q := fitS_fine m hm t h.2; exact ⟨q.1, by simp; omega, q.2.2⟩
def fitF : List PyData → Option PyData := fnD 2 (gL_fit wishesF)
theorem last2 (a b : PyData) : ixD (.tuple [a, b]) (.int (-1)) = some b := by simp [atI, ixN]
theorem last3 (a b c : PyData) : ixD (.tuple [a, b, c]) (.int (-1)) = some c := by simp [atI, ixN]
abbrev fitC : Rho → Option Bool := (fB (f2 (rb fun i j => decide (j < i)) (fCl (one1 lenD) (fCons (fCa 1 wishesF (fCons (fV 0) fNil)) fNil)) (fV 1)))
abbrev fitB : Rho → Option Out := (gSet 0 (f2 ixD (fV 0) (f1 negD (fC (.int 1)))))
theorem fitC_eq (m : Nat) (s : Sm) (h : s.Fine) (hd : s.depth ≤ 10) : fitC [some (.d (enc s)), some (.d (.int m))] = some (decide (m < (wishL s).length)) := by
  simp [fitC, wishes_eq s h hd]
theorem fit_stop (m n : Nat) (s : Sm) (h : s.Fine) (hd : s.depth ≤ 10) (hw : (wishL s).length ≤ m) : whileGo fitC fitB (n + 1) [some (.d (enc s)), some (.d (.int m))] = some (.nx [some (.d (enc s)), some (.d (.int m))]) :=
  while_f (by rw [fitC_eq m s h hd, decide_eq_false (by omega)])
theorem fit_on (m n : Nat) (s t : Sm) (h : s.Fine) (hd : s.depth ≤ 10) (hw : ¬ (wishL s).length ≤ m) (e : ixD (enc s) (.int (-1)) = some (enc t)) : whileGo fitC fitB (n + 1) [some (.d (enc s)), some (.d (.int m))] = whileGo fitC fitB n [some (.d (enc t)), some (.d (.int m))] := by
  rw [while_t (by rw [fitC_eq m s h hd, decide_eq_true (by omega)])]
  simp [fitB, e]
theorem fit_go (m : Nat) (hm : 1 ≤ m) (s : Sm) : s.Fine → s.depth ≤ 10 → ∀ n : Nat, s.depth ≤ n → whileGo fitC fitB n [some (.d (enc s)), some (.d (.int m))] = some (.nx [some (.d (enc (fitS m s))), some (.d (.int m))]) := by
  have no : ∀ s : Sm, ¬ s.depth ≤ 0 := fun s => by cases s <;> simp
  induction s with
  | mark x => intro h hd n hn; cases n with | zero => exact absurd hn (no _) | succ n => exact fit_stop m n _ h hd (by simpa [wishL, allS, wishGo, moreS] using hm)
  | yes => intro h hd n hn; cases n with | zero => exact absurd hn (no _) | succ n => exact fit_stop m n _ h hd (by simpa [wishL, allS, wishGo, moreS] using hm)
  | not s ihs | nxt s ihs | bef s ihs =>
    intro h hd n hn
    cases n with
    | zero => exact absurd hn (no _)
    | succ n =>
      unfold fitS
      split
      · rename_i z; exact fit_stop m n _ h hd z
      · rename_i z; rw [fit_on m n _ s h hd z (by simp [enc, last2, -ixD_t])]; exact ihs h (by simp at hd; omega) n (by simp at hn; omega)
  | wth k s ihs =>
    intro h hd n hn
    cases n with
    | zero => exact absurd hn (no _)
    | succ n =>
      unfold fitS
      split
      · rename_i z; exact fit_stop m n _ h hd z
      · rename_i z; rw [fit_on m n _ s h hd z (by simp [enc, last3, -ixD_t])]; exact ihs h.2.2 (by simp at hd; omega) n (by simp at hn; omega)
  | and s t ihs iht | or s t ihs iht | unt s t ihs iht | sin s t ihs iht =>
    intro h hd n hn
    cases n with
    | zero => exact absurd hn (no _)
    | succ n =>
      unfold fitS
      split
      · rename_i z; exact fit_stop m n _ h hd z
      · rename_i z; rw [fit_on m n _ t h hd z (by simp [enc, last3, -ixD_t])]; exact iht h.2 (by simp at hd; omega) n (by simp at hn; omega)
theorem fit_eq (m : Nat) (hm : 1 ≤ m) (s : Sm) (h : s.Fine) (hd : s.depth ≤ 10) : fitF [enc s, .int m] = some (enc (fitS m s)) := by
  have q := fit_go m hm s h hd 1000 (by omega)
  unfold fitF
  rw [fnD_ap]
  have e : startR 2 [enc s, .int m] = [some (.d (enc s)), some (.d (.int m))] := rfl
  rw [e, gL_fit, gSeq_ap, q]
  simp
/-! ### what is made of the draws -/
theorem ni2 (a b x : Str) : niP (.str x) (.tuple [.str a, .str b]) = some (.bool (!(sEq a x || sEq b x))) := by
  unfold niP inD
  simp [flatD, eqv_str]
theorem in3 (a b c x : Str) : inP (.str x) (.tuple [.str a, .str b, .str c]) = some (.bool (sEq a x || sEq b x || sEq c x)) := by
  unfold inP inD
  simp [flatD, eqv_str, Bool.or_assoc]
def kindsP : List Str := ["not", "and", "or", "before", "since", "not", "and", "before", "since", "or", "since", "before"]
def kindsA : List Str := ["not", "and", "or", "next", "until", "within", "until", "next", "since", "before", "until", "within"]
theorem splitP : splitD (.str "not and or before since not and before since or since before") [.str " "] = some (.list (kindsP.map .str)) := by
  have e : Txt.split "not and or before since not and before since or since before" " " = kindsP := by decide +kernel
  unfold splitD
  simp only
  rw [if_pos (by decide +kernel), e]
theorem splitA : splitD (.str "not and or next until within until next since before until within") [.str " "] = some (.list (kindsA.map .str)) := by
  have e : Txt.split "not and or next until within until next since before until within" " " = kindsA := by decide +kernel
  unfold splitD
  simp only
  rw [if_pos (by decide +kernel), e]
def wk (more : Int) : Int := if more % 5 = 0 then 1 else if more % 5 = 1 then 2 else if more % 5 = 2 then 0 else if more % 5 = 3 then 1 else more / 6 % 5
theorem wk_ix (more : Int) : ixD (.list [.int 1, .int 2, .int 0, .int 1, .int (more / 6 % 5)]) (.int (more % 5)) = some (.int (wk more)) := by
  have h0 : 0 ≤ more % 5 := Int.emod_nonneg _ (by decide)
  have h1 : more % 5 < 5 := Int.emod_lt_of_pos _ (by decide)
  have h : more % 5 = 0 ∨ more % 5 = 1 ∨ more % 5 = 2 ∨ more % 5 = 3 ∨ more % 5 = 4 := by omega
  unfold wk
  rcases h with h | h | h | h | h <;> rw [h] <;> simp [atI, ixN]
theorem wk_in (more : Int) : 0 ≤ wk more ∧ wk more ≤ 4 := by
  have h0 : 0 ≤ more / 6 % 5 := Int.emod_nonneg _ (by decide)
  have h1 : more / 6 % 5 < 5 := Int.emod_lt_of_pos _ (by decide)
  unfold wk
  repeat' split
  all_goals omega
structure Nm where
  a : Str
  b : Str
  d : Str
def Nm.at (n : Nm) (z : Int) : Str := if z = 0 then n.a else if z = 1 then n.b else n.d
def Nm.enc (n : Nm) : PyData := dS [n.a, n.b, n.d]
theorem nm_ix (n : Nm) (z : Int) : ixD n.enc (.int (z % 3)) = some (.str (n.at (z % 3))) := by
  have h0 : 0 ≤ z % 3 := Int.emod_nonneg _ (by decide)
  have h1 : z % 3 < 3 := Int.emod_lt_of_pos _ (by decide)
  have h : z % 3 = 0 ∨ z % 3 = 1 ∨ z % 3 = 2 := by omega
  unfold Nm.at Nm.enc dS
  rcases h with h | h | h <;> rw [h] <;> simp
def leafS (n : Nm) (c : Int) : Sm := if c / 14 % 9 = 4 then .yes else .mark (n.at (c / 14 % 3))
/-- the statement that a kind makes: the first part, and what the second is where there is one -/
def joinS (j : Nat) (ahead : Bool) (more : Int) (one : Sm) (two : Sm) : Sm :=
  match ahead, j with
  | false, 0 | false, 5 | true, 0 => .not one
  | false, 3 | false, 7 | false, 11 | true, 9 => .bef one
  | true, 3 | true, 7 => .nxt one
  | true, 5 | true, 11 => .wth (wk more) one
  | false, 1 | false, 6 | true, 1 => .and one two
  | false, 2 | false, 9 | true, 2 => .or one two
  | true, 4 | true, 6 | true, 10 => .unt one two
  | _, _ => .sin one two
def isOne (j : Nat) (ahead : Bool) : Bool := match ahead, j with
  | false, 0 | false, 5 | true, 0 | false, 3 | false, 7 | false, 11 | true, 9 | true, 3 | true, 7 | true, 5 | true, 11 => true
  | _, _ => false
def staysA (j : Nat) (ahead : Bool) : Bool := ahead && !(j == 8 || j == 9)
def madeS (ns : List Int) (n : Nm) : Nat → Bool → Nat → Sm × Nat
  | 0, _, k => (leafS n (drawn ns k), k + 1)
  | 1, _, k => (leafS n (drawn ns k), k + 1)
  | d + 2, ahead, k =>
    if drawn ns k % 14 < 2 then (leafS n (drawn ns k), k + 1) else
      let j := (drawn ns k % 14 - 2).toNat
      let p := madeS ns n (d + 1) (staysA j ahead) (k + 1)
      if isOne j ahead then (joinS j ahead (drawn ns k / 14) p.1 p.1, p.2) else
        let q := madeS ns n (d + 1) (staysA j ahead) p.2
        (joinS j ahead (drawn ns k / 14) p.1 q.1, q.2)
end My

namespace My
open PySem L2 Dn TL
theorem ix_strs {L : List Str} {j : Nat} {w : Str} (h : L[j]? = some w) : ixD (.list (L.map .str)) (.int (j : Int)) = some (.str w) := by
  show atI (L.map PyData.str) (j : Int) = _
  exact atI_nat (by rw [List.getElem?_map, h]; rfl)
/-- the rest of the law's making, behind the kind -/
abbrev madeR (FL_made : List PyData → List PyData → Option (PyData × List PyData)) : Rho → Option Out := (gSeq (gSet 4 (fAnd (fV 4) (f2 niP (fV 8) (fTup (fCons (fC (.str "before")) (fCons (fC (.str "since")) fNil)))))) (gSeq (gSetE 9 (fCaC 5 FL_made 1 (fV 0) (fCons (fV 2) (fCons (f2 (ri fun i j => i - j) (fV 3) (fC (.int 1))) (fCons (fV 4) fNil))))) (gSeq (gIf (fB (f2 eqP (fV 8) (fC (.str "within")))) (gRet (fTup (fCons (fV 8) (fCons (f2 ixD (fLst (fCons (fC (.int 1)) (fCons (fC (.int 2)) (fCons (fC (.int 0)) (fCons (fC (.int 1)) (fCons (f2 modD (f2 fdivD (fV 6) (fC (.int 6))) (fC (.int 5))) fNil)))))) (f2 modD (fV 6) (fC (.int 5)))) (fCons (fV 9) fNil))))) gNx) (gSeq (gIf (fB (f2 inP (fV 8) (fTup (fCons (fC (.str "not")) (fCons (fC (.str "next")) (fCons (fC (.str "before")) fNil)))))) (gRet (fTup (fCons (fV 8) (fCons (fV 9) fNil)))) gNx) (gRetE (fTupE (fE2 (fV 8) (fE2 (fV 9) (fE1 (fCaC 5 FL_made 1 (fV 0) (fCons (fV 2) (fCons (f2 (ri fun i j => i - j) (fV 3) (fC (.int 1))) (fCons (fV 4) fNil)))) fNil)))))))))
section
variable (a : Addr) (R : List PyData → List PyData → Option (PyData × List PyData)) (ns : PyData) (nm : PyData) (d c more : Int) (kinds : PyData) (k k1 k2 : Int) (one two : Sm)
/-- one part: not, next, before -/
theorem mR_one (ah : Bool) (w : Str) (h1 : sEq w "within" = false) (h2 : (sEq "not" w || sEq "next" w || sEq "before" w) = true)
    (p : Bool) (h3 : (sEq "before" w || sEq "since" w) = p) (hR : R [ns, nm, .int (d - 1), .bool (ah && !p)] [.int k] = some (enc one, [.int k1])) :
    retC a (madeR R [some (.d ns), some (.own (some a) [.int k]), some (.d nm), some (.d (.int d)), some (.d (.bool ah)), some (.d (.int c)), some (.d (.int more)), some (.d kinds), some (.d (.str w)), none]) = some (.tuple [.str w, enc one], [.int k1]) := by
  simp [madeR, ni2, in3, hR, h1, h2, h3, retC, -Bool.not_or]
theorem mR_wth (ah : Bool) (hR : R [ns, nm, .int (d - 1), .bool ah] [.int k] = some (enc one, [.int k1])) :
    retC a (madeR R [some (.d ns), some (.own (some a) [.int k]), some (.d nm), some (.d (.int d)), some (.d (.bool ah)), some (.d (.int c)), some (.d (.int more)), some (.d kinds), some (.d (.str "within")), none]) = some (enc (.wth (wk more) one), [.int k1]) := by
  have e6 : fdivD (.int more) (.int 6) = some (.int (more / 6)) := fdivD_i (by decide)
  have m5 : ∀ z : Int, modD (.int z) (.int 5) = some (.int (z % 5)) := fun z => modD_i (by decide)
  have ix := wk_ix more
  simp only [ixD_l] at ix
  simp [madeR, ni2, hR, e6, m5, ix, retC, enc]
theorem mR_two (ah : Bool) (w : Str) (h1 : sEq w "within" = false) (h2 : (sEq "not" w || sEq "next" w || sEq "before" w) = false)
    (p : Bool) (h3 : (sEq "before" w || sEq "since" w) = p) (hR : R [ns, nm, .int (d - 1), .bool (ah && !p)] [.int k] = some (enc one, [.int k1]))
    (hR2 : R [ns, nm, .int (d - 1), .bool (ah && !p)] [.int k1] = some (enc two, [.int k2])) :
    retC a (madeR R [some (.d ns), some (.own (some a) [.int k]), some (.d nm), some (.d (.int d)), some (.d (.bool ah)), some (.d (.int c)), some (.d (.int more)), some (.d kinds), some (.d (.str w)), none]) = some (.tuple [.str w, enc one, enc two], [.int k2]) := by
  simp [madeR, ni2, in3, hR, hR2, h1, h2, h3, retC, -Bool.not_or]
end
/-- up to the kind -/
theorem made_head (a : Addr) (R : List PyData → List PyData → Option (PyData × List PyData)) (ns : List Int) (n : Nm) (d : Nat) (ah : Bool) (k : Nat) (hd : 2 ≤ d) (hc : ¬ drawn ns k % 14 < 2) (w : Str)
    (hw : (if ah then kindsA else kindsP)[(drawn ns k % 14 - 2).toNat]? = some w) :
    gL_made drawF R (startC 10 a [dI ns, n.enc, .int d, .bool ah] [.int k]) = madeR R [some (.d (dI ns)), some (.own (some a) [.int ((k + 1 : Nat) : Int)]), some (.d n.enc), some (.d (.int d)), some (.d (.bool ah)), some (.d (.int (drawn ns k))), some (.d (.int (drawn ns k / 14))), some (.d (.str (if ah then "not and or next until within until next since before until within" else "not and or before since not and before since or since before"))), some (.d (.str w)), none] := by
  have e14 : ∀ z : Int, fdivD (.int z) (.int 14) = some (.int (z / 14)) := fun z => fdivD_i (by decide)
  have m14 : ∀ z : Int, modD (.int z) (.int 14) = some (.int (z % 14)) := fun z => modD_i (by decide)
  have h1 : drawn ns k % 14 < 14 := Int.emod_lt_of_pos _ (by decide)
  have hj : ((drawn ns k % 14 - 2).toNat : Int) = drawn ns k % 14 - 2 := by omega
  have dr := drawF_eq ns k
  have hd2 : ¬ ((d : Int) < 2) := by omega
  generalize drawn ns k = c at *
  cases ah with
  | true =>
    have hA := ix_strs (L := kindsA) hw
    rw [hj] at hA
    simp [startC, gL_made, dr, e14, m14, hd2, hc, splitA, -ixD_l, hA]
  | false =>
    have hP := ix_strs (L := kindsP) hw
    rw [hj] at hP
    simp [startC, gL_made, dr, e14, m14, hd2, hc, splitP, -ixD_l, hP]
theorem made_leaf (a : Addr) (R : List PyData → List PyData → Option (PyData × List PyData)) (ns : List Int) (n : Nm) (d : Nat) (ah : Bool) (k : Nat) (h : d < 2 ∨ drawn ns k % 14 < 2) :
    retC a (gL_made drawF R (startC 10 a [dI ns, n.enc, .int d, .bool ah] [.int k])) = some (enc (leafS n (drawn ns k)), [.int ((k + 1 : Nat) : Int)]) := by
  have e14 : ∀ z : Int, fdivD (.int z) (.int 14) = some (.int (z / 14)) := fun z => fdivD_i (by decide)
  have m14 : ∀ z : Int, modD (.int z) (.int 14) = some (.int (z % 14)) := fun z => modD_i (by decide)
  have m9 : ∀ z : Int, modD (.int z) (.int 9) = some (.int (z % 9)) := fun z => modD_i (by decide)
  have m3 : ∀ z : Int, modD (.int z) (.int 3) = some (.int (z % 3)) := fun z => modD_i (by decide)
  have dr := drawF_eq ns k
  have ix := nm_ix n (drawn ns k / 14)
  generalize drawn ns k = c at *
  have t : (decide ((d : Int) < 2) || decide (c % 14 < 2)) = true := by
    rcases h with h | h
    · simp [show (d : Int) < 2 by omega]
    · simp [h]
  by_cases h9 : c / 14 % 9 = 4
  · by_cases hd : (d : Int) < 2
    · simp [startC, gL_made, dr, e14, m14, m9, m3, hd, h9, retC, leafS, enc]
    · simp [hd] at t
      simp [startC, gL_made, dr, e14, m14, m9, m3, hd, t, h9, retC, leafS, enc]
  · by_cases hd : (d : Int) < 2
    · simp [startC, gL_made, dr, e14, m14, m9, m3, hd, h9, retC, leafS, enc, ix]
    · simp [hd] at t
      simp [startC, gL_made, dr, e14, m14, m9, m3, hd, t, h9, retC, leafS, enc, ix]
end My

namespace My
open PySem L2 Dn TL
theorem made_true (a : Addr) (R : List PyData → List PyData → Option (PyData × List PyData)) (ns : List Int) (n : Nm) (d k : Nat) (hc : ¬ drawn ns k % 14 < 2)
    (hR : ∀ (ah : Bool) (k' : Nat), R [dI ns, n.enc, .int (((d + 2 : Nat) : Int) - 1), .bool ah] [.int (k' : Int)] = some (enc (madeS ns n (d + 1) ah k').1, [.int ((madeS ns n (d + 1) ah k').2 : Int)])) :
    retC a (gL_made drawF R (startC 10 a [dI ns, n.enc, .int ((d + 2 : Nat) : Int), .bool true] [.int (k : Int)])) = some (enc (madeS ns n (d + 2) true k).1, [.int ((madeS ns n (d + 2) true k).2 : Int)]) := by
  have h0 : 0 ≤ drawn ns k % 14 := Int.emod_nonneg _ (by decide)
  have h1 : drawn ns k % 14 < 14 := Int.emod_lt_of_pos _ (by decide)
  rw [madeS, if_neg hc]
  have hlt : (drawn ns k % 14 - 2).toNat < 12 := by omega
  generalize hj : (drawn ns k % 14 - 2).toNat = j at *
  match j, hlt with
  | 0, _ =>
      have hd := made_head a R ns n (d + 2) true k (by omega) hc "not" (by simp only [if_pos, if_neg Bool.false_ne_true, hj]; rfl)
      rw [hd]
      exact mR_one a R _ _ _ _ _ _ _ _ _ true "not" (by simp) (by simp) false (by simp) (hR (true && !false) (k + 1))
  | 1, _ =>
      have hd := made_head a R ns n (d + 2) true k (by omega) hc "and" (by simp only [if_pos, if_neg Bool.false_ne_true, hj]; rfl)
      rw [hd]
      exact mR_two a R _ _ _ _ _ _ _ _ _ _ _ true "and" (by simp) (by simp) false (by simp) (hR (true && !false) (k + 1)) (hR (true && !false) _)
  | 2, _ =>
      have hd := made_head a R ns n (d + 2) true k (by omega) hc "or" (by simp only [if_pos, if_neg Bool.false_ne_true, hj]; rfl)
      rw [hd]
      exact mR_two a R _ _ _ _ _ _ _ _ _ _ _ true "or" (by simp) (by simp) false (by simp) (hR (true && !false) (k + 1)) (hR (true && !false) _)
  | 3, _ =>
      have hd := made_head a R ns n (d + 2) true k (by omega) hc "next" (by simp only [if_pos, if_neg Bool.false_ne_true, hj]; rfl)
      rw [hd]
      exact mR_one a R _ _ _ _ _ _ _ _ _ true "next" (by simp) (by simp) false (by simp) (hR (true && !false) (k + 1))
  | 4, _ =>
      have hd := made_head a R ns n (d + 2) true k (by omega) hc "until" (by simp only [if_pos, if_neg Bool.false_ne_true, hj]; rfl)
      rw [hd]
      exact mR_two a R _ _ _ _ _ _ _ _ _ _ _ true "until" (by simp) (by simp) false (by simp) (hR (true && !false) (k + 1)) (hR (true && !false) _)
  | 5, _ =>
      have hd := made_head a R ns n (d + 2) true k (by omega) hc "within" (by simp only [if_pos, hj]; rfl)
      rw [hd]
      have h1 := hR true (k + 1)
      exact mR_wth a R _ _ _ _ _ _ _ _ _ true h1
  | 6, _ =>
      have hd := made_head a R ns n (d + 2) true k (by omega) hc "until" (by simp only [if_pos, if_neg Bool.false_ne_true, hj]; rfl)
      rw [hd]
      exact mR_two a R _ _ _ _ _ _ _ _ _ _ _ true "until" (by simp) (by simp) false (by simp) (hR (true && !false) (k + 1)) (hR (true && !false) _)
  | 7, _ =>
      have hd := made_head a R ns n (d + 2) true k (by omega) hc "next" (by simp only [if_pos, if_neg Bool.false_ne_true, hj]; rfl)
      rw [hd]
      exact mR_one a R _ _ _ _ _ _ _ _ _ true "next" (by simp) (by simp) false (by simp) (hR (true && !false) (k + 1))
  | 8, _ =>
      have hd := made_head a R ns n (d + 2) true k (by omega) hc "since" (by simp only [if_pos, if_neg Bool.false_ne_true, hj]; rfl)
      rw [hd]
      exact mR_two a R _ _ _ _ _ _ _ _ _ _ _ true "since" (by simp) (by simp) true (by simp) (hR (true && !true) (k + 1)) (hR (true && !true) _)
  | 9, _ =>
      have hd := made_head a R ns n (d + 2) true k (by omega) hc "before" (by simp only [if_pos, if_neg Bool.false_ne_true, hj]; rfl)
      rw [hd]
      exact mR_one a R _ _ _ _ _ _ _ _ _ true "before" (by simp) (by simp) true (by simp) (hR (true && !true) (k + 1))
  | 10, _ =>
      have hd := made_head a R ns n (d + 2) true k (by omega) hc "until" (by simp only [if_pos, if_neg Bool.false_ne_true, hj]; rfl)
      rw [hd]
      exact mR_two a R _ _ _ _ _ _ _ _ _ _ _ true "until" (by simp) (by simp) false (by simp) (hR (true && !false) (k + 1)) (hR (true && !false) _)
  | 11, _ =>
      have hd := made_head a R ns n (d + 2) true k (by omega) hc "within" (by simp only [if_pos, hj]; rfl)
      rw [hd]
      have h1 := hR true (k + 1)
      exact mR_wth a R _ _ _ _ _ _ _ _ _ true h1
  | j + 12, h => omega
theorem made_false (a : Addr) (R : List PyData → List PyData → Option (PyData × List PyData)) (ns : List Int) (n : Nm) (d k : Nat) (hc : ¬ drawn ns k % 14 < 2)
    (hR : ∀ (ah : Bool) (k' : Nat), R [dI ns, n.enc, .int (((d + 2 : Nat) : Int) - 1), .bool ah] [.int (k' : Int)] = some (enc (madeS ns n (d + 1) ah k').1, [.int ((madeS ns n (d + 1) ah k').2 : Int)])) :
    retC a (gL_made drawF R (startC 10 a [dI ns, n.enc, .int ((d + 2 : Nat) : Int), .bool false] [.int (k : Int)])) = some (enc (madeS ns n (d + 2) false k).1, [.int ((madeS ns n (d + 2) false k).2 : Int)]) := by
  have h0 : 0 ≤ drawn ns k % 14 := Int.emod_nonneg _ (by decide)
  have h1 : drawn ns k % 14 < 14 := Int.emod_lt_of_pos _ (by decide)
  rw [madeS, if_neg hc]
  have hlt : (drawn ns k % 14 - 2).toNat < 12 := by omega
  generalize hj : (drawn ns k % 14 - 2).toNat = j at *
  match j, hlt with
  | 0, _ =>
      have hd := made_head a R ns n (d + 2) false k (by omega) hc "not" (by simp only [if_pos, if_neg Bool.false_ne_true, hj]; rfl)
      rw [hd]
      exact mR_one a R _ _ _ _ _ _ _ _ _ false "not" (by simp) (by simp) false (by simp) (hR (false && !false) (k + 1))
  | 1, _ =>
      have hd := made_head a R ns n (d + 2) false k (by omega) hc "and" (by simp only [if_pos, if_neg Bool.false_ne_true, hj]; rfl)
      rw [hd]
      exact mR_two a R _ _ _ _ _ _ _ _ _ _ _ false "and" (by simp) (by simp) false (by simp) (hR (false && !false) (k + 1)) (hR (false && !false) _)
  | 2, _ =>
      have hd := made_head a R ns n (d + 2) false k (by omega) hc "or" (by simp only [if_pos, if_neg Bool.false_ne_true, hj]; rfl)
      rw [hd]
      exact mR_two a R _ _ _ _ _ _ _ _ _ _ _ false "or" (by simp) (by simp) false (by simp) (hR (false && !false) (k + 1)) (hR (false && !false) _)
  | 3, _ =>
      have hd := made_head a R ns n (d + 2) false k (by omega) hc "before" (by simp only [if_pos, if_neg Bool.false_ne_true, hj]; rfl)
      rw [hd]
      exact mR_one a R _ _ _ _ _ _ _ _ _ false "before" (by simp) (by simp) true (by simp) (hR (false && !true) (k + 1))
  | 4, _ =>
      have hd := made_head a R ns n (d + 2) false k (by omega) hc "since" (by simp only [if_pos, if_neg Bool.false_ne_true, hj]; rfl)
      rw [hd]
      exact mR_two a R _ _ _ _ _ _ _ _ _ _ _ false "since" (by simp) (by simp) true (by simp) (hR (false && !true) (k + 1)) (hR (false && !true) _)
  | 5, _ =>
      have hd := made_head a R ns n (d + 2) false k (by omega) hc "not" (by simp only [if_pos, if_neg Bool.false_ne_true, hj]; rfl)
      rw [hd]
      exact mR_one a R _ _ _ _ _ _ _ _ _ false "not" (by simp) (by simp) false (by simp) (hR (false && !false) (k + 1))
  | 6, _ =>
      have hd := made_head a R ns n (d + 2) false k (by omega) hc "and" (by simp only [if_pos, if_neg Bool.false_ne_true, hj]; rfl)
      rw [hd]
      exact mR_two a R _ _ _ _ _ _ _ _ _ _ _ false "and" (by simp) (by simp) false (by simp) (hR (false && !false) (k + 1)) (hR (false && !false) _)
  | 7, _ =>
      have hd := made_head a R ns n (d + 2) false k (by omega) hc "before" (by simp only [if_pos, if_neg Bool.false_ne_true, hj]; rfl)
      rw [hd]
      exact mR_one a R _ _ _ _ _ _ _ _ _ false "before" (by simp) (by simp) true (by simp) (hR (false && !true) (k + 1))
  | 8, _ =>
      have hd := made_head a R ns n (d + 2) false k (by omega) hc "since" (by simp only [if_pos, if_neg Bool.false_ne_true, hj]; rfl)
      rw [hd]
      exact mR_two a R _ _ _ _ _ _ _ _ _ _ _ false "since" (by simp) (by simp) true (by simp) (hR (false && !true) (k + 1)) (hR (false && !true) _)
  | 9, _ =>
      have hd := made_head a R ns n (d + 2) false k (by omega) hc "or" (by simp only [if_pos, if_neg Bool.false_ne_true, hj]; rfl)
      rw [hd]
      exact mR_two a R _ _ _ _ _ _ _ _ _ _ _ false "or" (by simp) (by simp) false (by simp) (hR (false && !false) (k + 1)) (hR (false && !false) _)
  | 10, _ =>
      have hd := made_head a R ns n (d + 2) false k (by omega) hc "since" (by simp only [if_pos, if_neg Bool.false_ne_true, hj]; rfl)
      rw [hd]
      exact mR_two a R _ _ _ _ _ _ _ _ _ _ _ false "since" (by simp) (by simp) true (by simp) (hR (false && !true) (k + 1)) (hR (false && !true) _)
  | 11, _ =>
      have hd := made_head a R ns n (d + 2) false k (by omega) hc "before" (by simp only [if_pos, if_neg Bool.false_ne_true, hj]; rfl)
      rw [hd]
      exact mR_one a R _ _ _ _ _ _ _ _ _ false "before" (by simp) (by simp) true (by simp) (hR (false && !true) (k + 1))
  | j + 12, h => omega
end My


namespace My
open PySem L2 Dn TL
structure Nm.Ok (n : Nm) : Prop where
  a : Ltr n.a
  b : Ltr n.b
  d : Ltr n.d
theorem leaf_fine {n : Nm} (h : n.Ok) (c : Int) : (leafS n c).Fine ∧ (leafS n c).depth = 1 := by
  unfold leafS
  split
  · exact ⟨True.intro, rfl⟩
  · refine ⟨?_, rfl⟩
    show Ltr _
    unfold Nm.at
    split
    · exact h.a
    · split
      · exact h.b
      · exact h.d
theorem join_fine {j : Nat} {ah : Bool} {more : Int} {s t : Sm} {d : Nat} (hs : s.Fine ∧ s.depth ≤ d) (ht : t.Fine ∧ t.depth ≤ d) : (joinS j ah more s t).Fine ∧ (joinS j ah more s t).depth ≤ d + 1 := by
  have hw := wk_in more
  unfold joinS
  split <;> first
    | exact ⟨hs.1, by simp; omega⟩
    | exact ⟨⟨hs.1, ht.1⟩, by simp; omega⟩
    | exact ⟨⟨hw.1, hw.2, hs.1⟩, by simp; omega⟩
theorem made_fine (ns : List Int) {n : Nm} (h : n.Ok) : ∀ (d : Nat) (ah : Bool) (k : Nat), (madeS ns n d ah k).1.Fine ∧ (madeS ns n d ah k).1.depth ≤ max d 1
  | 0, ah, k => by have := leaf_fine h (drawn ns k); exact ⟨this.1, by rw [madeS]; dsimp only; omega⟩
  | 1, ah, k => by have := leaf_fine h (drawn ns k); exact ⟨this.1, by rw [madeS]; dsimp only; omega⟩
  | d + 2, ah, k => by
    have ih := made_fine ns h (d + 1)
    rw [madeS]
    split
    · have := leaf_fine h (drawn ns k); exact ⟨this.1, by dsimp only; omega⟩
    · simp only
      have e : max (d + 2) 1 = (d + 1) + 1 := by omega
      rw [e]
      split
      · have i1 := ih (staysA (drawn ns k % 14 - 2).toNat ah) (k + 1)
        rw [show max (d + 1) 1 = d + 1 by omega] at i1
        exact join_fine i1 i1
      · have i1 := ih (staysA (drawn ns k % 14 - 2).toNat ah) (k + 1)
        have i2 := ih (staysA (drawn ns k % 14 - 2).toNat ah) (madeS ns n (d + 1) (staysA (drawn ns k % 14 - 2).toNat ah) (k + 1)).2
        rw [show max (d + 1) 1 = d + 1 by omega] at i1 i2
        exact join_fine i1 i2
theorem strsD_inv : ∀ {vs : List PyData} {ns : List Str}, strsD vs = some ns → vs = ns.map .str
  | [], ns, h => by cases h; rfl
  | .str i :: r, ns, h => by
    simp only [strsD] at h
    obtain ⟨ms, e, rfl⟩ := Option.map_eq_some_iff.mp h
    rw [strsD_inv e]; rfl
  | .none :: r, ns, h => by simp [strsD] at h
  | .bool _ :: r, ns, h => by simp [strsD] at h
  | .int _ :: r, ns, h => by simp [strsD] at h
  | .list _ :: r, ns, h => by simp [strsD] at h
  | .tuple _ :: r, ns, h => by simp [strsD] at h
  | .dict _ :: r, ns, h => by simp [strsD] at h
def nmOf : List PyData → Option Nm := fun xs => match strsD xs with
  | some [a, b, c] => some ⟨a, b, c⟩
  | _ => none
theorem nmOf_enc (n : Nm) : nmOf [.str n.a, .str n.b, .str n.d] = some n := rfl
theorem nmOf_inv {xs : List PyData} {n : Nm} (h : nmOf xs = some n) : PyData.list xs = n.enc := by
  unfold nmOf at h
  split at h
  · rename_i a b c e
    cases h
    rw [strsD_inv e]; rfl
  · cases h
def madeF (m : Nat) (ds xs : List PyData) : Option (PyData × List PyData) := match ds, xs with
  | [.list vs, .list nm, .int d, .bool ah], [.int k] => (drawF.strsI vs).bind fun ns => (nmOf nm).bind fun n => if (0 ≤ d ∧ d.toNat < m) ∧ 0 ≤ k then some (enc (madeS ns n d.toNat ah k.toNat).1, [.int ((madeS ns n d.toNat ah k.toNat).2 : Int)]) else none
  | _, _ => none
theorem madeF_0 : madeF 0 = fun _ _ => none := by
  funext ds xs
  unfold madeF
  split
  · rename_i vs nm d ah k
    cases drawF.strsI vs with
    | none => rfl
    | some ns =>
      cases nmOf nm with
      | none => rfl
      | some n => simp
  · rfl
theorem madeF_eq (m : Nat) (ns : List Int) (n : Nm) (d : Nat) (ah : Bool) (k : Nat) (h : d < m) : madeF m [dI ns, n.enc, .int (d : Int), .bool ah] [.int (k : Int)] = some (enc (madeS ns n d ah k).1, [.int ((madeS ns n d ah k).2 : Int)]) := by
  unfold madeF dI Nm.enc dS
  simp only [List.map_cons, List.map_nil]
  rw [strsI_map, nmOf_enc]
  simp only [Option.bind_some]
  rw [if_pos ⟨⟨by omega, by omega⟩, by omega⟩]
  simp
theorem made_run (a : Addr) (m : Nat) (ns : List Int) (n : Nm) (d : Nat) (ah : Bool) (k : Nat) (h : d < m + 1) : retC a (gL_made drawF (madeF m) (startC 10 a [dI ns, n.enc, .int (d : Int), .bool ah] [.int (k : Int)])) = some (enc (madeS ns n d ah k).1, [.int ((madeS ns n d ah k).2 : Int)]) := by
  match d, h with
  | 0, _ => exact made_leaf a _ ns n 0 ah k (.inl (by decide))
  | 1, _ => exact made_leaf a _ ns n 1 ah k (.inl (by decide))
  | d + 2, h =>
    by_cases hc : drawn ns k % 14 < 2
    · rw [madeS, if_pos hc]
      exact made_leaf a _ ns n (d + 2) ah k (.inr hc)
    · have hR : ∀ (ah : Bool) (k' : Nat), madeF m [dI ns, n.enc, .int (((d + 2 : Nat) : Int) - 1), .bool ah] [.int (k' : Int)] = some (enc (madeS ns n (d + 1) ah k').1, [.int ((madeS ns n (d + 1) ah k').2 : Int)]) := fun ah k' => by
        rw [show ((d + 2 : Nat) : Int) - 1 = ((d + 1 : Nat) : Int) by omega]
        exact madeF_eq m ns n (d + 1) ah k' (by omega)
      cases ah with
      | true => exact made_true a _ ns n d k hc hR
      | false => exact made_false a _ ns n d k hc hR
theorem madeF_run (m : Nat) (a : Addr) (ds xs : List PyData) (r : PyData × List PyData) (hl : ds.length + 1 = 5) (h : madeF (m + 1) ds xs = some r) : retC a (gL_made drawF (madeF m) (startC 10 a ds xs)) = some r := by
  unfold madeF at h
  split at h
  · rename_i vs nm d ah k
    obtain ⟨ns, e1, h⟩ := bind_some h
    obtain ⟨n, e2, h⟩ := bind_some h
    obtain ⟨⟨⟨h1, h2⟩, h3⟩, rfl⟩ := ite_some h
    have q := made_run a m ns n d.toNat ah k.toNat h2
    rw [show ((d.toNat : Nat) : Int) = d by omega, show ((k.toNat : Nat) : Int) = k by omega] at q
    rw [strsI_inv e1, nmOf_inv e2]
    exact q
  · cases h
/-! ### built, run -/
end My

namespace My
open PySem L2 Dn TL
/-! ### what the program gathers, by plain lists -/
def stand : Sm → List Sm
  | .mark m => [.mark m]
  | .yes => [.yes]
  | .not s => stand s ++ [.not s]
  | .and s t => stand s ++ (stand t ++ [.and s t])
  | .or s t => stand s ++ (stand t ++ [.or s t])
  | .nxt s => stand s ++ [.nxt s]
  | .unt s t => stand s ++ (stand t ++ [.unt s t])
  | .wth k s => stand s ++ [.wth k s]
  | .bef s => stand s ++ [.bef s]
  | .sin s t => stand s ++ (stand t ++ [.sin s t])
theorem stand_mem (x : Sm) : ∀ s : Sm, x ∈ stand s ↔ x ∈ allS s
  | .mark m => by simp [stand, allS]
  | .yes => by simp [stand, allS]
  | .not s | .nxt s | .wth _ s | .bef s => by simp [stand, allS, stand_mem x s, or_comm]
  | .and s t | .or s t | .unt s t | .sin s t => by
    simp only [stand, allS, List.mem_append, List.mem_cons, List.not_mem_nil, or_false, stand_mem x s, stand_mem x t]
    constructor
    · rintro (h | h | h)
      · exact .inr (.inl h)
      · exact .inr (.inr h)
      · exact .inl h
    · rintro (h | h | h)
      · exact .inr (.inr h)
      · exact .inl h
      · exact .inr (.inl h)
theorem stand_len : ∀ s : Sm, (stand s).length = (allS s).length
  | .mark m => rfl
  | .yes => rfl
  | .not s | .nxt s | .wth _ s | .bef s => by simp [stand, allS, stand_len s]
  | .and s t | .or s t | .unt s t | .sin s t => by simp [stand, allS, stand_len s, stand_len t]; omega
theorem all_self (s : Sm) : s ∈ allS s := by cases s <;> simp [allS]
def onceGo (f : List Sm) (xs : List Sm) : List Sm := xs.foldl (fun f x => if x ∈ f then f else f ++ [x]) f
def onceS (xs : List Sm) : List Sm := onceGo [] xs
theorem onceGo_mem (z : Sm) : ∀ (xs f : List Sm), z ∈ onceGo f xs ↔ z ∈ f ∨ z ∈ xs
  | [], f => by simp [onceGo]
  | x :: xs, f => by
    show z ∈ onceGo (if x ∈ f then f else f ++ [x]) xs ↔ _
    rw [onceGo_mem z xs]
    split
    · rename_i h
      simp only [List.mem_cons]
      constructor
      · rintro (a | a)
        · exact .inl a
        · exact .inr (.inr a)
      · rintro (a | a | a)
        · exact .inl a
        · exact .inl (a ▸ h)
        · exact .inr a
    · simp only [List.mem_append, List.mem_cons, List.not_mem_nil, or_false]
      exact or_assoc
theorem onceS_mem (z : Sm) (xs : List Sm) : z ∈ onceS xs ↔ z ∈ xs := by rw [onceS, onceGo_mem]; simp
theorem onceGo_nd : ∀ (xs f : List Sm), f.Nodup → (onceGo f xs).Nodup
  | [], f, h => h
  | x :: xs, f, h => by
    show (onceGo (if x ∈ f then f else f ++ [x]) xs).Nodup
    refine onceGo_nd xs _ ?_
    split
    · exact h
    · rename_i c
      exact List.nodup_append.mpr ⟨h, by simp, fun a ha b hb => by
        simp only [List.mem_singleton] at hb
        rintro rfl
        exact c (hb ▸ ha)⟩
theorem onceS_nd (xs : List Sm) : (onceS xs).Nodup := onceGo_nd xs [] List.nodup_nil
theorem onceGo_pre : ∀ (xs f : List Sm), ∃ r, onceGo f xs = f ++ r
  | [], f => ⟨[], by simp [onceGo]⟩
  | x :: xs, f => by
    show ∃ r, onceGo (if x ∈ f then f else f ++ [x]) xs = f ++ r
    split
    · exact onceGo_pre xs f
    · obtain ⟨r, e⟩ := onceGo_pre xs (f ++ [x])
      exact ⟨x :: r, by rw [e]; simp⟩
theorem onceGo_fix : ∀ (xs f : List Sm), (f ++ xs).Nodup → onceGo f xs = f ++ xs
  | [], f, _ => by simp [onceGo]
  | x :: xs, f, h => by
    have hx : x ∉ f := fun c => by
      have := (List.nodup_append.mp h).2.2 x c x (by simp)
      exact this rfl
    show onceGo (if x ∈ f then f else f ++ [x]) xs = _
    rw [if_neg hx, onceGo_fix xs (f ++ [x]) (by simpa using h)]
    simp
theorem onceGo_app (xs ys f : List Sm) : onceGo f (xs ++ ys) = onceGo (onceGo f xs) ys := by simp [onceGo]
/-- what is there already stays in front -/
theorem onceS_app {ws more : List Sm} (h : ws.Nodup) : onceS (ws ++ more) = onceGo ws more := by
  rw [onceS, onceGo_app, onceGo_fix ws [] (by simpa using h)]
  simp
theorem onceGo_len : ∀ (xs f : List Sm), (onceGo f xs).length ≤ f.length + xs.length
  | [], f => by simp [onceGo]
  | x :: xs, f => by
    show (onceGo (if x ∈ f then f else f ++ [x]) xs).length ≤ _
    by_cases c : x ∈ f
    · have := onceGo_len xs f
      rw [if_pos c]; simp; omega
    · have := onceGo_len xs (f ++ [x])
      rw [if_neg c]; simp at this ⊢; omega
def Sm.past : Sm → Bool
  | .bef _ | .sin _ _ => true
  | _ => false
def pastsS (s : Sm) : List Sm := onceS ((stand s).filter Sm.past)
def awS : Sm → List Sm
  | .nxt s => [s]
  | .unt s t => [.unt s t]
  | .wth k s => if 0 < k then [.wth (k - 1) s] else []
  | _ => []
def hungS : Sm → List Sm
  | .mark _ | .yes => []
  | .not s | .bef s => hungS s
  | .and s t | .or s t | .sin s t => hungS s ++ hungS t
  | .nxt s => [s]
  | .unt s t => .unt s t :: (hungS s ++ hungS t)
  | .wth k s => awS (.wth k s) ++ hungS s
/-- the wishes, found one by one -/
def wishW : Nat → List Sm → Nat → List Sm
  | 0, ws, _ => ws
  | n + 1, ws, i => match ws[i]? with
    | none => ws
    | some w => wishW n (onceS (ws ++ hungS w)) (i + 1)
def wishS (s : Sm) : List Sm := wishW 1000 [s] 0
/-! ### the wishes are the law's -/
def Wset (s x : Sm) : Prop := x = s ∨ ∃ one ∈ allS s, x ∈ moreS one
theorem more_wth {k : Int} {a x : Sm} : x ∈ moreS (.wth k a) ↔ ∃ j : Int, 0 ≤ j ∧ j < k ∧ x = .wth j a := by
  unfold moreS
  simp only [List.mem_map, List.mem_range]
  constructor
  · rintro ⟨j, hj, rfl⟩
    exact ⟨j, by omega, by omega, rfl⟩
  · rintro ⟨j, h0, h1, rfl⟩
    exact ⟨j.toNat, by omega, by rw [Int.toNat_of_nonneg h0]⟩
theorem aw_more {u x : Sm} (h : x ∈ awS u) : x ∈ moreS u := by
  cases u with
  | nxt s => simpa [awS, moreS] using h
  | unt s t => simpa [awS, moreS] using h
  | wth k s =>
    rw [show awS (.wth k s) = if 0 < k then [.wth (k - 1) s] else [] from rfl] at h
    by_cases c : 0 < k
    · rw [if_pos c] at h
      simp at h
      subst h
      exact more_wth.mpr ⟨k - 1, by omega, by omega, rfl⟩
    · rw [if_neg c] at h; cases h
  | _ => cases h
theorem hung_more : ∀ {w x : Sm}, x ∈ hungS w → ∃ u ∈ allS w, x ∈ moreS u
  | .mark _, x, h => by simp [hungS] at h
  | .yes, x, h => by simp [hungS] at h
  | .not s, x, h => by
    obtain ⟨u, h1, h2⟩ := hung_more (w := s) (x := x) (by simpa [hungS] using h)
    exact ⟨u, by simp [allS, h1], h2⟩
  | .bef s, x, h => by
    obtain ⟨u, h1, h2⟩ := hung_more (w := s) (x := x) (by simpa [hungS] using h)
    exact ⟨u, by simp [allS, h1], h2⟩
  | .nxt s, x, h => ⟨.nxt s, by simp [allS], by simpa [hungS, moreS] using h⟩
  | .and s t, x, h | .or s t, x, h | .sin s t, x, h => by
    rcases List.mem_append.mp (by simpa [hungS] using h) with h | h
    · obtain ⟨u, h1, h2⟩ := hung_more (w := s) h
      exact ⟨u, by simp [allS, h1], h2⟩
    · obtain ⟨u, h1, h2⟩ := hung_more (w := t) h
      exact ⟨u, by simp [allS, h1], h2⟩
  | .unt s t, x, h => by
    rcases List.mem_cons.mp (by simpa only [hungS] using h) with rfl | h
    · exact ⟨_, all_self _, by simp [moreS]⟩
    · rcases List.mem_append.mp h with h | h
      · obtain ⟨u, h1, h2⟩ := hung_more (w := s) h
        exact ⟨u, by simp [allS, h1], h2⟩
      · obtain ⟨u, h1, h2⟩ := hung_more (w := t) h
        exact ⟨u, by simp [allS, h1], h2⟩
  | .wth k s, x, h => by
    rcases List.mem_append.mp (by simpa only [hungS] using h) with h | h
    · exact ⟨_, all_self _, aw_more h⟩
    · obtain ⟨u, h1, h2⟩ := hung_more (w := s) h
      exact ⟨u, by simp [allS, h1], h2⟩
theorem all_trans : ∀ {s u x : Sm}, u ∈ allS s → x ∈ allS u → x ∈ allS s
  | .mark _, u, x, h, g => by simp [allS] at h; subst h; exact g
  | .yes, u, x, h, g => by simp [allS] at h; subst h; exact g
  | .not s, u, x, h, g | .nxt s, u, x, h, g | .wth _ s, u, x, h, g | .bef s, u, x, h, g => by
    rcases List.mem_cons.mp (by simpa only [allS] using h) with rfl | h
    · exact g
    · simp only [allS, List.mem_cons]; exact .inr (all_trans h g)
  | .and s t, u, x, h, g | .or s t, u, x, h, g | .unt s t, u, x, h, g | .sin s t, u, x, h, g => by
    rcases List.mem_cons.mp (by simpa only [allS] using h) with rfl | h
    · exact g
    · rcases List.mem_append.mp h with h | h
      · simp only [allS, List.mem_cons, List.mem_append]; exact .inr (.inl (all_trans h g))
      · simp only [allS, List.mem_cons, List.mem_append]; exact .inr (.inr (all_trans h g))
/-- what stands in a wish: of the statement, or a within with less -/
theorem wset_all {s w u : Sm} (h : Wset s w) (g : u ∈ allS w) : u ∈ allS s ∨ ∃ k j a, (.wth k a) ∈ allS s ∧ 0 ≤ j ∧ j < k ∧ u = .wth j a := by
  rcases h with rfl | ⟨one, h1, h2⟩
  · exact .inl g
  · cases one with
    | nxt a =>
      simp [moreS] at h2
      subst h2
      exact .inl (all_trans h1 (by simp [allS, g]))
    | unt a b =>
      simp [moreS] at h2
      subst h2
      exact .inl (all_trans h1 g)
    | wth k a =>
      obtain ⟨j, j0, j1, rfl⟩ := more_wth.mp h2
      rcases List.mem_cons.mp (by simpa only [allS] using g) with rfl | g
      · exact .inr ⟨k, j, a, h1, j0, j1, rfl⟩
      · exact .inl (all_trans h1 (by simp [allS, g]))
    | _ => cases h2
theorem wset_more {s w u x : Sm} (h : Wset s w) (g : u ∈ allS w) (m : x ∈ moreS u) : Wset s x := by
  rcases wset_all h g with g | ⟨k, j, a, h1, j0, j1, rfl⟩
  · exact .inr ⟨u, g, m⟩
  · obtain ⟨i, i0, i1, rfl⟩ := more_wth.mp m
    exact .inr ⟨_, h1, more_wth.mpr ⟨i, i0, by omega, rfl⟩⟩
theorem wset_hung {s w x : Sm} (h : Wset s w) (m : x ∈ hungS w) : Wset s x := let ⟨_, g, m⟩ := hung_more m; wset_more h g m
/-- nothing that looks ahead stands in it -/
def Sm.flat (s : Sm) : Prop := ∀ u ∈ allS s, moreS u = [] ∧ awS u = [] ∧ ∀ a, u ≠ .nxt a
/-- no before or since looks ahead -/
def Sm.NM : Sm → Prop
  | .mark _ | .yes => True
  | .not s | .nxt s | .wth _ s => s.NM
  | .and s t | .or s t | .unt s t => s.NM ∧ t.NM
  | .bef s => s.flat ∧ s.NM
  | .sin s t => s.flat ∧ t.flat ∧ s.NM ∧ t.NM
theorem flat_wth0 {s : Sm} (h : s.flat) {u : Sm} (g : u ∈ allS s) : moreS u = [] := (h u g).1
theorem reach (R : Sm → Prop) (hR : ∀ x, R x → ∀ y ∈ hungS x, R y) : ∀ (w : Sm), w.Fine → w.NM → (∀ y ∈ hungS w, R y) → ∀ u ∈ allS w, ∀ x ∈ moreS u, R x
  | .mark m, _, _, _, u, hu, x, hx => by simp [allS] at hu; subst hu; simp [moreS] at hx
  | .yes, _, _, _, u, hu, x, hx => by simp [allS] at hu; subst hu; simp [moreS] at hx
  | .not s, f, n, h, u, hu, x, hx => by
    rcases List.mem_cons.mp (by simpa only [allS] using hu) with rfl | hu
    · simp [moreS] at hx
    · exact reach R hR s f n (by simpa only [hungS] using h) u hu x hx
  | .and s t, f, n, h, u, hu, x, hx | .or s t, f, n, h, u, hu, x, hx => by
    rcases List.mem_cons.mp (by simpa only [allS] using hu) with rfl | hu
    · simp [moreS] at hx
    · have h' : ∀ y ∈ hungS s ++ hungS t, R y := by simpa only [hungS] using h
      rcases List.mem_append.mp hu with hu | hu
      · exact reach R hR s f.1 n.1 (fun y hy => h' y (by simp [hy])) u hu x hx
      · exact reach R hR t f.2 n.2 (fun y hy => h' y (by simp [hy])) u hu x hx
  | .nxt s, f, n, h, u, hu, x, hx => by
    have hs : R s := h s (by simp [hungS])
    rcases List.mem_cons.mp (by simpa only [allS] using hu) with rfl | hu
    · simp [moreS] at hx; subst hx; exact hs
    · exact reach R hR s f n (hR s hs) u hu x hx
  | .unt s t, f, n, h, u, hu, x, hx => by
    rcases List.mem_cons.mp (by simpa only [allS] using hu) with rfl | hu
    · simp [moreS] at hx; subst hx; exact h _ (by simp [hungS])
    · rcases List.mem_append.mp hu with hu | hu
      · exact reach R hR s f.1 n.1 (fun y hy => h y (by simp [hungS, hy])) u hu x hx
      · exact reach R hR t f.2 n.2 (fun y hy => h y (by simp [hungS, hy])) u hu x hx
  | .wth k s, f, n, h, u, hu, x, hx => by
    rcases List.mem_cons.mp (by simpa only [allS] using hu) with rfl | hu
    · obtain ⟨j, j0, j1, rfl⟩ := more_wth.mp hx
      have step : ∀ d : Nat, (d : Int) < k → R (.wth (k - 1 - d) s) ∨ k - 1 - d < 0 := by
        intro d
        induction d with
        | zero => intro hd; exact .inl (h _ (by simp [hungS, awS, show (0 : Int) < k by omega]))
        | succ d ih =>
          intro hd
          rcases ih (by omega) with q | q
          · by_cases c : 0 < k - 1 - d
            · refine .inl (hR _ q _ ?_)
              simp only [hungS, awS]
              rw [if_pos c]
              simp
              omega
            · exact .inr (by omega)
          · exact .inr (by omega)
      rcases step (k - 1 - j).toNat (by omega) with q | q
      · rwa [show k - 1 - ((k - 1 - j).toNat : Int) = j by omega] at q
      · omega
    · exact reach R hR s f.2.2 n (fun y hy => h y (by simp [hungS, hy])) u hu x hx
  | .bef s, f, n, h, u, hu, x, hx => by
    rcases List.mem_cons.mp (by simpa only [allS] using hu) with rfl | hu
    · simp [moreS] at hx
    · rw [flat_wth0 n.1 hu] at hx; cases hx
  | .sin s t, f, n, h, u, hu, x, hx => by
    rcases List.mem_cons.mp (by simpa only [allS] using hu) with rfl | hu
    · simp [moreS] at hx
    · rcases List.mem_append.mp hu with hu | hu
      · rw [flat_wth0 n.1 hu] at hx; cases hx
      · rw [flat_wth0 n.2.1 hu] at hx; cases hx
end My

namespace My
open PySem L2 Dn TL
theorem nd_len {α : Type} [DecidableEq α] : ∀ (l D : List α), l.Nodup → (∀ x ∈ l, x ∈ D) → l.length ≤ D.length
  | [], D, _, _ => Nat.zero_le _
  | x :: r, D, h, g => by
    obtain ⟨h1, h2⟩ := List.nodup_cons.mp h
    have q := nd_len r (D.erase x) h2 fun y hy => (List.mem_erase_of_ne (fun e => h1 (by rw [← e]; exact hy))).mpr (g y (by simp [hy]))
    rw [List.length_erase_of_mem (g x (by simp))] at q
    have : 0 < D.length := List.length_pos_of_mem (g x (by simp))
    simp; omega
theorem more_nd (s : Sm) : (moreS s).Nodup := by
  cases s with
  | nxt a => simp [moreS]
  | unt a b => simp [moreS]
  | wth k a =>
    unfold moreS
    refine List.Pairwise.map _ (fun i j hne e => hne ?_) List.nodup_range
    simp at e
    omega
  | _ => simp [moreS]
theorem wishGo_mem (z : Sm) : ∀ (ones f : List Sm), z ∈ wishGo ones f ↔ z ∈ f ∨ ∃ one ∈ ones, z ∈ moreS one
  | [], f => by simp [wishGo]
  | o :: os, f => by
    show z ∈ wishGo os (f ++ (moreS o).filter fun x => decide (x ∉ f)) ↔ _
    rw [wishGo_mem z os]
    simp only [List.mem_append, List.mem_filter, decide_eq_true_eq, List.mem_cons, exists_eq_or_imp]
    constructor
    · rintro ((a | ⟨a, _⟩) | a)
      · exact .inl a
      · exact .inr (.inl a)
      · exact .inr (.inr a)
    · rintro (a | a | a)
      · exact .inl (.inl a)
      · by_cases c : z ∈ f
        · exact .inl (.inl c)
        · exact .inl (.inr ⟨a, c⟩)
      · exact .inr a
theorem wishGo_nd : ∀ (ones f : List Sm), f.Nodup → (wishGo ones f).Nodup
  | [], f, h => h
  | o :: os, f, h => by
    show (wishGo os (f ++ (moreS o).filter fun x => decide (x ∉ f))).Nodup
    refine wishGo_nd os _ (List.nodup_append.mpr ⟨h, (more_nd o).filter _, fun a ha b hb e => ?_⟩)
    subst e
    simp only [List.mem_filter, decide_eq_true_eq] at hb
    exact hb.2 ha
theorem wishL_mem (s x : Sm) : x ∈ wishL s ↔ Wset s x := by
  unfold wishL Wset
  rw [wishGo_mem]
  simp
theorem wishL_nd (s : Sm) : (wishL s).Nodup := wishGo_nd _ _ (by simp)
structure WInv (s : Sm) (ws : List Sm) (i : Nat) : Prop where
  nd : ws.Nodup
  hd : ws[0]? = some s
  sub : ∀ x ∈ ws, Wset s x
  le : i ≤ ws.length
  cl : ∀ j, j < i → ∀ x, ws[j]? = some x → ∀ y ∈ hungS x, y ∈ ws
theorem WInv.len {s : Sm} {ws : List Sm} {i : Nat} (h : WInv s ws i) : ws.length ≤ (wishL s).length := nd_len ws (wishL s) h.nd fun x hx => (wishL_mem s x).mpr (h.sub x hx)
theorem WInv.step {s : Sm} {ws : List Sm} {i : Nat} (h : WInv s ws i) {w : Sm} (e : ws[i]? = some w) : WInv s (onceS (ws ++ hungS w)) (i + 1) := by
  have lt := (List.getElem?_eq_some_iff.mp e).1
  obtain ⟨r, er⟩ := onceGo_pre (hungS w) ws
  have eo : onceS (ws ++ hungS w) = ws ++ r := by rw [onceS_app h.nd, er]
  have wm : w ∈ ws := List.mem_of_getElem? e
  refine ⟨onceS_nd _, ?_, fun x hx => ?_, by rw [eo, List.length_append]; omega, fun j hj x hx y hy => ?_⟩
  · rw [eo, List.getElem?_append_left (by omega), h.hd]
  · rcases List.mem_append.mp ((onceS_mem x _).mp hx) with hx | hx
    · exact h.sub x hx
    · exact wset_hung (h.sub w wm) hx
  · rw [eo, List.getElem?_append_left (by omega)] at hx
    rw [onceS_mem, List.mem_append]
    by_cases c : j = i
    · subst c
      rw [e] at hx
      cases hx
      exact .inr hy
    · exact .inl (h.cl j (by omega) x hx y hy)
theorem wishW_inv {s : Sm} : ∀ (n : Nat) (ws : List Sm) (i : Nat), WInv s ws i → (wishL s).length < n + i → WInv s (wishW n ws i) (wishW n ws i).length
  | 0, ws, i, h, hn => by have := h.len; have := h.le; omega
  | n + 1, ws, i, h, hn => by
    unfold wishW
    cases e : ws[i]? with
    | none =>
      have : i = ws.length := by have := List.getElem?_eq_none_iff.mp e; have := h.le; omega
      simp only
      rw [this] at h
      exact h
    | some w => exact wishW_inv n _ (i + 1) (h.step e) (by omega)
theorem wishS_inv {s : Sm} (hl : (wishL s).length < 1000) : WInv s (wishS s) (wishS s).length := wishW_inv 1000 [s] 0 ⟨by simp, rfl, fun x hx => by simp at hx; exact .inl hx, Nat.zero_le _, fun j hj => by omega⟩ (by omega)
theorem wishS_mem {s : Sm} (hf : s.Fine) (hn : s.NM) (hl : (wishL s).length < 1000) (x : Sm) : x ∈ wishS s ↔ Wset s x := by
  have I := wishS_inv hl
  have hs : s ∈ wishS s := List.mem_of_getElem? I.hd
  have cl : ∀ x, x ∈ wishS s → ∀ y ∈ hungS x, y ∈ wishS s := fun x hx y hy => by
    obtain ⟨j, hj, e⟩ := List.getElem_of_mem hx
    exact I.cl j hj x (by rw [List.getElem?_eq_getElem hj, e]) y hy
  constructor
  · exact I.sub x
  · rintro (rfl | ⟨one, h1, h2⟩)
    · exact hs
    · exact reach (fun z => z ∈ wishS s) cl s hf hn (cl s hs) one h1 x h2
theorem wishS_nd {s : Sm} (hl : (wishL s).length < 1000) : (wishS s).Nodup := (wishS_inv hl).nd
theorem wishS_perm {s : Sm} (hf : s.Fine) (hn : s.NM) (hl : (wishL s).length < 1000) : (wishS s).Perm (wishL s) := nodup_perm _ _ (wishS_nd hl) (wishL_nd s) fun z => (wishS_mem hf hn hl z).trans (wishL_mem s z).symm
theorem wishS_len {s : Sm} (hf : s.Fine) (hn : s.NM) (hl : (wishL s).length < 1000) : (wishS s).length = (wishL s).length := (wishS_perm hf hn hl).length_eq
theorem wishS_hd {s : Sm} (hl : (wishL s).length < 1000) : (wishS s)[0]? = some s := (wishS_inv hl).hd
theorem wset_fine {s x : Sm} (hf : s.Fine) (h : Wset s x) : x.Fine ∧ x.depth ≤ s.depth := by
  rcases h with rfl | ⟨one, h1, h2⟩
  · exact ⟨hf, Nat.le_refl _⟩
  · have a := fine_all s hf one h1
    have b := (more_fine a.1).2 x h2
    exact ⟨b.1, by omega⟩
end My

namespace Dn
open PySem L2
def extO (i : Nat) (ρ : Rho) : Option (Option Sv) → Option PyData → Option Out
  | some (some (.own o xs)), some (.list ys) => if xs.length + ys.length ≤ bigL then some (.nx (ρ.set i (some (.own o (xs ++ ys))))) else none
  | _, _ => none
@[simp] theorem gExt_ap (i : Nat) (f : Rho → Option PyData) (ρ : Rho) : gExt i f ρ = extO i ρ ρ[i]? (f ρ) := by
  unfold gExt extO
  split
  · rename_i o xs e
    rw [e]
    cases f ρ with
    | none => rfl
    | some y => cases y <;> rfl
  · rename_i h
    split
    · rename_i o xs ys e1 e2; exact absurd e1 (h o xs)
    · rfl
theorem extO_some {i : Nat} {ρ : Rho} {o : Option Addr} {xs ys : List PyData} (h : xs.length + ys.length ≤ 100000) : extO i ρ (some (some (.own o xs))) (some (.list ys)) = some (.nx (ρ.set i (some (.own o (xs ++ ys))))) := if_pos h
end Dn
namespace My
open PySem L2 Dn TL
theorem no_dep (s : Sm) : ¬ s.depth ≤ 0 := by cases s <;> simp
theorem stand_big {s : Sm} (h : s.depth ≤ 14) : ((stand s).map enc).length ≤ 20000 := by
  have h1 := allS_len s
  have h2 : 2 ^ s.depth ≤ 2 ^ 14 := Nat.pow_le_pow_right (by decide) h
  have h3 : (2 : Nat) ^ 14 = 16384 := rfl
  rw [List.length_map, stand_len]; omega
def standF : Nat → List PyData → Option PyData
  | 0 => fun _ => none
  | n + 1 => fnD 3 (gstanding_in partsF (standF n))
theorem standF_eq (s : Sm) : ∀ n : Nat, s.depth ≤ n → s.depth ≤ 14 → standF n [enc s] = some (.list ((stand s).map enc)) := by
  have app : ∀ (ρ : Rho) (xs : List PyData) (y : PyData), xs.length ≤ 40000 → appO 1 ρ (some (some (.own none xs))) (some y) = some (.nx (ρ.set 1 (some (.own none (xs ++ [y]))))) := fun ρ xs y h => appO_some (by omega)
  induction s with
  | mark m => intro n hd h; cases n with | zero => exact absurd hd (no_dep _) | succ n => simp [standF, fnD_ap, startR, gstanding_in, stand, app]
  | yes => intro n hd h; cases n with | zero => exact absurd hd (no_dep _) | succ n => simp [standF, fnD_ap, startR, gstanding_in, stand, app]
  | not s ihs | nxt s ihs | wth k s ihs | bef s ihs =>
    intro n hd h
    cases n with
    | zero => exact absurd hd (no_dep _)
    | succ n =>
      have hs : s.depth ≤ 14 := by simp at h; omega
      have i1 := ihs n (by simpa using hd) hs
      have b1 := stand_big hs
      have e1 : ∀ ρ : Rho, extO 1 ρ (some (some (.own none []))) (some (.list ((stand s).map enc))) = some (.nx (ρ.set 1 (some (.own none ((stand s).map enc))))) := fun ρ => extO_some (by simpa using Nat.le_trans b1 (by decide))
      simp [standF, fnD_ap, startR, gstanding_in, stand, i1, e1, app _ _ _ (Nat.le_trans b1 (by decide))]
  | and s t ihs iht | or s t ihs iht | unt s t ihs iht | sin s t ihs iht =>
    intro n hd h
    cases n with
    | zero => exact absurd hd (no_dep _)
    | succ n =>
      have hs : s.depth ≤ 14 := by simp at h; omega
      have ht : t.depth ≤ 14 := by simp at h; omega
      have i1 := ihs n (by simp at hd; omega) hs
      have i2 := iht n (by simp at hd; omega) ht
      have b1 := stand_big hs
      have b2 := stand_big ht
      have e1 : ∀ ρ : Rho, extO 1 ρ (some (some (.own none []))) (some (.list ((stand s).map enc))) = some (.nx (ρ.set 1 (some (.own none ((stand s).map enc))))) := fun ρ => extO_some (by simpa using Nat.le_trans b1 (by decide))
      have e2 : ∀ ρ : Rho, extO 1 ρ (some (some (.own none ((stand s).map enc)))) (some (.list ((stand t).map enc))) = some (.nx (ρ.set 1 (some (.own none ((stand s).map enc ++ (stand t).map enc))))) := fun ρ => extO_some (by omega)
      have b3 : ((stand s).map enc ++ (stand t).map enc).length ≤ 40000 := by rw [List.length_append]; omega
      simp [standF, fnD_ap, startR, gstanding_in, stand, i1, i2, e1, e2, app _ _ _ b3]
abbrev Oks (xs : List Sm) : Prop := ∀ s ∈ xs, s.Fine ∧ s.depth ≤ 60
def onceF : List PyData → Option (List PyData) := fnF 3 geach_once
theorem once_go (x0 : Option Sv) : ∀ (xs f : List Sm) (x2 : Option Sv), Oks xs → Oks f → f.length + xs.length ≤ 90000 → ∃ x2', forGo (b1 2) (gIf (fB (fO2 niP (fV 2) (fOwn 1))) (gApp 1 (fV 2)) gNx) (xs.map enc) [x0, some (.own none (f.map enc)), x2] = some (.nx [x0, some (.own none ((onceGo f xs).map enc)), x2'])
  | [], f, x2, _, _, _ => ⟨x2, rfl⟩
  | x :: xs, f, x2, h, g, hl => by
    have n := ni_encs (h x (by simp)) g
    by_cases c : x ∈ f
    · obtain ⟨y, q⟩ := once_go x0 xs f (some (.d (enc x))) (fun s hs => h s (by simp [hs])) g (by simp at hl; omega)
      refine ⟨y, ?_⟩
      have e : onceGo f (x :: xs) = onceGo f xs := by show onceGo (if x ∈ f then f else f ++ [x]) xs = _; rw [if_pos c]
      simp [n, c, e] at q ⊢
      exact q
    · obtain ⟨y, q⟩ := once_go x0 xs (f ++ [x]) (some (.d (enc x))) (fun s hs => h s (by simp [hs])) (fun s hs => by
        rcases List.mem_append.mp hs with hs | hs
        · exact g s hs
        · rw [List.mem_singleton.mp hs]; exact h x (by simp)) (by simp at hl ⊢; omega)
      refine ⟨y, ?_⟩
      have e : onceGo f (x :: xs) = onceGo (f ++ [x]) xs := by show onceGo (if x ∈ f then f else f ++ [x]) xs = _; rw [if_neg c]
      have a : ∀ ρ : Rho, appO 1 ρ (some (some (.own none (f.map enc)))) (some (enc x)) = some (.nx (ρ.set 1 (some (.own none (f.map enc ++ [enc x]))))) := fun ρ => appO_some (by simp at hl ⊢; omega)
      simp [n, c, e, a] at q ⊢
      exact q
theorem onceF_eq {xs : List Sm} (h : Oks xs) (hl : xs.length ≤ 90000) : onceF [.list (xs.map enc)] = some ((onceS xs).map enc) := by
  obtain ⟨y, q⟩ := once_go (some (.d (.list (xs.map enc)))) xs [] none h (fun s hs => by cases hs) (by simpa using hl)
  unfold onceF
  simp [fnF_ap, startR, geach_once] at q ⊢
  simp [q, onceS]
theorem stand_oks {s : Sm} (h : s.Fine) (hd : s.depth ≤ 60) : Oks (stand s) := fun x hx => by
  have := fine_all s h x ((stand_mem x s).mp hx)
  exact ⟨this.1, by omega⟩
theorem past_word (s : Sm) : inP (.str s.word) (.tuple [.str "before", .str "since"]) = some (.bool s.past) := by
  unfold inP inD
  cases s <;> simp [flatD, PyData.eqv, Sm.past] <;> decide +kernel
def pastsF : List PyData → Option (List PyData) := fnF 2 (gpasts_in (standF 14) onceF)
theorem pastsF_eq {s : Sm} (h : s.Fine) (hd : s.depth ≤ 14) : pastsF [enc s] = some ((pastsS s).map enc) := by
  have e1 := standF_eq s 14 hd hd
  have b := stand_big hd
  have q := lc_filter (bd := b1 1) (t := fB (f2 inP (f2 ixD (fV 1) (fC (.int 0))) (fC (.tuple [(.str "before"), (.str "since")])))) (f := fV 1) (ρ := [some (.d (enc s)), none]) enc Sm.past enc (stand s) (by
    intro x _
    have w := past_word x
    exact ⟨_, rfl, by simp [-Sm.word, w], by simp⟩)
  have o := onceF_eq (xs := (stand s).filter Sm.past) (fun x hx => stand_oks h (by omega) x (List.mem_filter.mp hx).1) (by have := List.length_filter_le Sm.past (stand s); simp at b; omega)
  unfold pastsF
  simp [fnF_ap, startR, gpasts_in, e1, lcO_some (show ((stand s).map enc).length ≤ 100000 by omega)] at q ⊢
  simp [q, o, pastsS]
theorem lc_filterIf {bd : PyData → Rho → Option Rho} {t : Rho → Option Bool} {f : Rho → Option PyData} {ρ : Rho} {α : Type} (e : α → PyData) (p : α → Bool) (h : α → PyData) : ∀ xs : List α, (∀ x ∈ xs, ∃ ρ1, bd (e x) ρ = some ρ1 ∧ t ρ1 = some (p x) ∧ (p x = true → f ρ1 = some (h x))) → lcGo bd t f ρ (xs.map e) = some ((xs.filter p).map h)
  | [], _ => rfl
  | x :: xs, q => by
    obtain ⟨ρ1, e1, e2, e3⟩ := q x (by simp)
    rw [List.map_cons, lcGo_c, e1, lcB_some, e2, lc_filterIf e p h xs fun y hy => q y (by simp [hy])]
    cases hp : p x with
    | true => rw [e3 hp]; simp [hp]
    | false => simp [hp]
/-! ### marks -/
def namesS : Sm → List Str
  | .mark m => [m]
  | .yes => []
  | .not s | .nxt s | .wth _ s | .bef s => namesS s
  | .and s t | .or s t | .unt s t | .sin s t => namesS s ++ namesS t
theorem names_len : ∀ s : Sm, 2 * (namesS s).length ≤ 2 ^ s.depth
  | .mark _ | .yes => by simp [namesS]
  | .not s | .nxt s | .wth _ s | .bef s => by
    have := names_len s
    simp [namesS, Nat.pow_succ]; omega
  | .and s t | .or s t | .unt s t | .sin s t => by
    have h1 := names_len s
    have h2 := names_len t
    have h3 : 2 ^ s.depth ≤ 2 ^ max s.depth t.depth := Nat.pow_le_pow_right (by decide) (Nat.le_max_left _ _)
    have h4 : 2 ^ t.depth ≤ 2 ^ max s.depth t.depth := Nat.pow_le_pow_right (by decide) (Nat.le_max_right _ _)
    simp [namesS, Nat.pow_succ]; omega
def Sm.isMk : Sm → Bool
  | .mark _ => true
  | _ => false
def Sm.mk : Sm → Str
  | .mark m => m
  | _ => ""
theorem names_stand : ∀ s : Sm, ((stand s).filter Sm.isMk).map Sm.mk = namesS s
  | .mark _ => rfl
  | .yes => rfl
  | .not s | .nxt s | .wth _ s | .bef s => by simp [stand, namesS, names_stand s, Sm.isMk]
  | .and s t | .or s t | .unt s t | .sin s t => by simp [stand, namesS, names_stand s, names_stand t, Sm.isMk]
def marksS (s : Sm) : List Str := sortT (onceT (namesS s ++ [("" : Str)]))
theorem mk_word (s : Sm) : eqP (.str s.word) (.str "mark") = some (.bool s.isMk) := by
  unfold eqP eqD
  cases s <;> simp [Sm.isMk] <;> decide +kernel
def marksF : List PyData → Option (List PyData) := fnF 3 (gmarks_in (standF 14))
theorem marksF_eq {s : Sm} (hd : s.depth ≤ 6) : marksF [enc s] = some ((marksS s).map .str) := by
  have e1 := standF_eq s 14 (by omega) (by omega)
  have b := stand_big (show s.depth ≤ 14 by omega)
  have q := lc_filterIf (bd := b1 2) (t := fB (f2 eqP (f2 ixD (fV 2) (fC (.int 0))) (fC (.str "mark")))) (f := f2 ixD (fV 2) (fC (.int 1))) (ρ := [some (.d (enc s)), none, none]) enc Sm.isMk (fun x => .str x.mk) (stand s) (by
    intro x _
    have w := mk_word x
    refine ⟨_, rfl, by simp only [fB_ap, f2_ap, fV_ap, fC_ap]; simp [-Sm.word, w], fun hp => ?_⟩
    cases x with
    | mark m => simp [Sm.mk]
    | _ => cases hp)
  have nn : ((stand s).filter Sm.isMk).map (fun x => PyData.str x.mk) = (namesS s).map .str := by
    rw [← names_stand s, List.map_map]; rfl
  rw [nn] at q
  have nl := names_len s
  have n2 : 2 ^ s.depth ≤ 2 ^ 6 := Nat.pow_le_pow_right (by decide) hd
  have n3 : (2 : Nat) ^ 6 = 64 := rfl
  have ss : ssF (.list ((namesS s).map PyData.str ++ [.str ""])) = some ((marksS s).map .str) := by
    have e : (namesS s).map PyData.str ++ [.str ""] = (namesS s ++ [("" : Str)]).map .str := by simp
    unfold ssF
    rw [e]
    simp only [strsD_map, Option.bind_some]
    rw [if_pos (by simp; omega)]
    rfl
  have ad : addD (.list ((namesS s).map .str)) (.list [.str ""]) = some (.list ((namesS s).map PyData.str ++ [.str ""])) := addD_l (by simp; omega)
  unfold marksF
  simp [fnF_ap, startR, gmarks_in, e1, lcO_some (show ((stand s).map enc).length ≤ 100000 by omega)] at q ⊢
  simp [q, ad, ss]
/-! ### what is awaited, hung on -/
def awF : List PyData → Option (List PyData) := fnF 2 gawaited
theorem awF_eq (s : Sm) : awF [enc s] = some ((awS s).map enc) := by
  unfold awF
  cases s with
  | wth k s =>
    have i2 : ixD (enc (.wth k s)) (.int 2) = some (enc s) := by simp [enc]
    by_cases c : 0 < k
    · simp [fnF_ap, startR, gawaited, awS, c, i2, enc]
    · simp [fnF_ap, startR, gawaited, awS, c]
  | nxt s =>
    have i1 : ixD (enc (.nxt s)) (.int 1) = some (enc s) := by simp [enc]
    simp [fnF_ap, startR, gawaited, awS, i1]
  | _ => simp [fnF_ap, startR, gawaited, awS]
theorem hung_len : ∀ s : Sm, (hungS s).length + 1 ≤ 2 ^ s.depth
  | .mark _ | .yes => by simp [hungS]
  | .not s | .bef s => by
    have := hung_len s
    simp [hungS, Nat.pow_succ]; omega
  | .nxt s => by
    have : 1 ≤ 2 ^ s.depth := Nat.one_le_two_pow
    simp [hungS, Nat.pow_succ]; omega
  | .wth k s => by
    have := hung_len s
    have a : (awS (.wth k s)).length ≤ 1 := by show (if 0 < k then [Sm.wth (k - 1) s] else []).length ≤ 1; by_cases c : 0 < k <;> simp [c]
    simp [hungS, Nat.pow_succ]; omega
  | .and s t | .or s t | .unt s t | .sin s t => by
    have h1 := hung_len s
    have h2 := hung_len t
    have h3 : 2 ^ s.depth ≤ 2 ^ max s.depth t.depth := Nat.pow_le_pow_right (by decide) (Nat.le_max_left _ _)
    have h4 : 2 ^ t.depth ≤ 2 ^ max s.depth t.depth := Nat.pow_le_pow_right (by decide) (Nat.le_max_right _ _)
    simp [hungS, Nat.pow_succ]; omega
theorem hung_big {s : Sm} (h : s.depth ≤ 14) : ((hungS s).map enc).length ≤ 20000 := by
  have h1 := hung_len s
  have h2 : 2 ^ s.depth ≤ 2 ^ 14 := Nat.pow_le_pow_right (by decide) h
  have h3 : (2 : Nat) ^ 14 = 16384 := rfl
  rw [List.length_map]; omega
theorem aw_len (s : Sm) : (awS s).length ≤ 1 := by
  cases s with
  | wth k s => show (if 0 < k then [Sm.wth (k - 1) s] else []).length ≤ 1; by_cases c : 0 < k <;> simp [c]
  | _ => simp [awS]
def hungF : Nat → List PyData → Option (List PyData)
  | 0 => fun _ => none
  | n + 1 => fnF 3 (ghung_on awF partsF (hungF n))
theorem hungF_eq (s : Sm) : ∀ n : Nat, s.depth ≤ n → s.depth ≤ 14 → hungF n [enc s] = some ((hungS s).map enc) := by
  have ext : ∀ (ρ : Rho) (xs ys : List PyData), xs.length ≤ 40000 → ys.length ≤ 40000 → extO 1 ρ (some (some (.own none xs))) (some (.list ys)) = some (.nx (ρ.set 1 (some (.own none (xs ++ ys))))) := fun ρ xs ys h g => extO_some (by omega)
  induction s with
  | mark m => intro n hd h; cases n with | zero => exact absurd hd (no_dep _) | succ n => simp [hungF, fnF_ap, startR, ghung_on, hungS, awF_eq, ofF, awS]
  | yes => intro n hd h; cases n with | zero => exact absurd hd (no_dep _) | succ n => simp [hungF, fnF_ap, startR, ghung_on, hungS, awF_eq, ofF, awS]
  | nxt s ihs => intro n hd h; cases n with | zero => exact absurd hd (no_dep _) | succ n => simp [hungF, fnF_ap, startR, ghung_on, hungS, awF_eq, ofF, awS]
  | not s ihs | bef s ihs =>
    intro n hd h
    cases n with
    | zero => exact absurd hd (no_dep _)
    | succ n =>
      have hs : s.depth ≤ 14 := by simp at h; omega
      have i1 := ihs n (by simpa using hd) hs
      have b1 := hung_big hs
      simp [hungF, fnF_ap, startR, ghung_on, hungS, awF_eq, ofF, awS, i1, ext _ [] _ (by simp) (Nat.le_trans b1 (by decide))]
  | wth k s ihs =>
    intro n hd h
    cases n with
    | zero => exact absurd hd (no_dep _)
    | succ n =>
      have hs : s.depth ≤ 14 := by simp at h; omega
      have i1 := ihs n (by simpa using hd) hs
      have b1 := hung_big hs
      have a : ((awS (.wth k s)).map enc).length ≤ 40000 := by have := aw_len (.wth k s); simp; omega
      simp [hungF, fnF_ap, startR, ghung_on, hungS, awF_eq, ofF, i1, ext _ _ _ a (Nat.le_trans b1 (by decide))]
  | and s t ihs iht | or s t ihs iht | sin s t ihs iht =>
    intro n hd h
    cases n with
    | zero => exact absurd hd (no_dep _)
    | succ n =>
      have hs : s.depth ≤ 14 := by simp at h; omega
      have ht : t.depth ≤ 14 := by simp at h; omega
      have i1 := ihs n (by simp at hd; omega) hs
      have i2 := iht n (by simp at hd; omega) ht
      have b1 := hung_big hs
      have b2 := hung_big ht
      simp [hungF, fnF_ap, startR, ghung_on, hungS, awF_eq, ofF, awS, i1, i2, ext _ [] _ (by simp) (Nat.le_trans b1 (by decide)), ext _ _ _ (Nat.le_trans b1 (by decide)) (Nat.le_trans b2 (by decide))]
  | unt s t ihs iht =>
    intro n hd h
    cases n with
    | zero => exact absurd hd (no_dep _)
    | succ n =>
      have hs : s.depth ≤ 14 := by simp at h; omega
      have ht : t.depth ≤ 14 := by simp at h; omega
      have i1 := ihs n (by simp at hd; omega) hs
      have i2 := iht n (by simp at hd; omega) ht
      have b1 := hung_big hs
      have b2 := hung_big ht
      have b3 : (enc (.unt s t) :: (hungS s).map enc).length ≤ 40000 := by simp at b1 ⊢; omega
      simp [hungF, fnF_ap, startR, ghung_on, hungS, awF_eq, ofF, awS, i1, i2, ext _ [enc (.unt s t)] _ (by simp) (Nat.le_trans b1 (by decide)), ext _ _ _ b3 (Nat.le_trans b2 (by decide))]
/-! ### the wishes -/
abbrev wishC : Rho → Option Bool := (fB (f2 (rb fun i j => decide (i < j)) (fV 2) (f1 (flatG lenD) (fOwn 1))))
abbrev wishB : Rho → Option Out := (gSeq (fun ρ => (gOwnF 1 (fCaF 1 onceF (fCons (f2 addD (fV 1) (fCa 1 (ofF (hungF 14)) (fCons (f2 ixD (fV 1) (fV 2)) fNil))) fNil))) (frz 1 ρ)) (gAug 2 (fun i j => i + j) (fC (.int 1))))
def wishF : List PyData → Option (List PyData) := fnF 3 (gwishes_in (hungF 14) onceF)
theorem hung_fine {s : Sm} (h : s.Fine) (hd : s.depth ≤ 60) : Oks (hungS s) := fun x hx => by
  obtain ⟨u, h1, h2⟩ := hung_more hx
  have a := fine_all s h u h1
  have b := (more_fine a.1).2 x h2
  exact ⟨b.1, by omega⟩
theorem ix_get {xs : List PyData} {i : Nat} {x : PyData} (h : xs[i]? = some x) : ixD (.list xs) (.int (i : Nat)) = some x := by
  show atI xs (i : Int) = some x
  exact atI_nat h
theorem wish_go (x0 : Option Sv) (s : Sm) (hf : s.Fine) (hd : s.depth ≤ 10) : ∀ (n : Nat) (ws : List Sm) (i : Nat), WInv s ws i → (wishL s).length < n + i → (wishL s).length ≤ 1000 →
    ∃ x2', whileGo wishC wishB n [x0, some (.own none (ws.map enc)), some (.d (.int (i : Nat)))] = some (.nx [x0, some (.own none ((wishW n ws i).map enc)), x2'])
  | 0, ws, i, h, hn, _ => by have := h.len; have := h.le; omega
  | n + 1, ws, i, h, hn, hb => by
    have hl := h.len
    have fin : ∀ x ∈ ws, x.Fine ∧ x.depth ≤ 10 := fun x hx => by
      have := wset_fine hf (h.sub x hx)
      exact ⟨this.1, by omega⟩
    unfold wishW
    cases e : ws[i]? with
    | none =>
      have e1 : i = ws.length := by have := List.getElem?_eq_none_iff.mp e; have := h.le; omega
      refine ⟨some (.d (.int (i : Nat))), ?_⟩
      rw [while_f]
      simp [e1]
    | some w =>
      have lt := (List.getElem?_eq_some_iff.mp e).1
      have wf := fin w (List.mem_of_getElem? e)
      have S := h.step e
      obtain ⟨x2', q⟩ := wish_go x0 s hf hd n (onceS (ws ++ hungS w)) (i + 1) S (by omega) hb
      refine ⟨x2', ?_⟩
      have hh := hungF_eq w 14 (by omega) (by omega)
      have hw : ((hungS w).map enc).length ≤ 20000 := hung_big (by omega)
      have ix : ixD (.list (ws.map enc)) (.int (i : Nat)) = some (enc w) := ix_get (by rw [List.getElem?_map, e]; rfl)
      have ad : addD (.list (ws.map enc)) (.list ((hungS w).map enc)) = some (.list ((ws ++ hungS w).map enc)) := by
        rw [List.map_append]; exact addD_l (by simp at hw ⊢; omega)
      have on := onceF_eq (xs := ws ++ hungS w) (fun x hx => by
        rcases List.mem_append.mp hx with hx | hx
        · have := fin x hx; exact ⟨this.1, by omega⟩
        · exact hung_fine wf.1 (by omega) x hx) (by simp at hw ⊢; omega)
      rw [List.map_append] at on
      rw [while_t]
      · have e3 : (((i + 1 : Nat)) : Int) = (i : Int) + 1 := by omega
        rw [e3] at q
        simp [ofF, hh, ix, ad, on] at q ⊢
        exact q
      · simp
        omega
theorem wishF_eq {s : Sm} (hf : s.Fine) (hd : s.depth ≤ 10) (hl : (wishL s).length < 1000) : wishF [enc s] = some ((wishS s).map enc) := by
  obtain ⟨x2', q⟩ := wish_go (some (.d (enc s))) s hf hd 1000 [s] 0 ⟨by simp, rfl, fun x hx => by simp at hx; exact .inl hx, Nat.zero_le _, fun j hj => by omega⟩ (by omega) (by omega)
  unfold wishF
  simp [fnF_ap, startR, gwishes_in, wishC, wishB] at q ⊢
  rw [q]
  simp [wishS]
end My

namespace My
open PySem L2 Dn TL PyProof.Rows
/-! ### numbers by their bits -/
def numB : Nat → (Nat → Bool) → Nat
  | 0, _ => 0
  | W + 1, f => (if f W then 2 ^ W else 0) + numB W f
theorem numB_lt (f : Nat → Bool) : ∀ W, numB W f < 2 ^ W
  | 0 => by simp [numB]
  | W + 1 => by
    have := numB_lt f W
    unfold numB
    rw [Nat.pow_succ]
    split <;> omega
theorem numB_bit (f : Nat → Bool) : ∀ (W p : Nat), (numB W f).testBit p = (decide (p < W) && f p)
  | 0, p => by simp [numB]
  | W + 1, p => by
    have ih := numB_bit f W p
    have lt := numB_lt f W
    unfold numB
    by_cases e : p = W
    · subst e
      have z : (numB p f).testBit p = false := by rw [ih]; simp
      by_cases c : f p = true
      · rw [if_pos c, Nat.testBit_two_pow_add_eq, z]; simp [c]
      · rw [if_neg c, Nat.zero_add, z]; simp [c]
    · by_cases lt2 : p < W
      · by_cases c : f W = true
        · rw [if_pos c, Nat.testBit_two_pow_add_gt lt2, ih]; simp [show p < W + 1 by omega, lt2]
        · rw [if_neg c, Nat.zero_add, ih]; simp [show p < W + 1 by omega, lt2]
      · have h1 : ¬ p < W + 1 := by omega
        have lt3 : (if f W = true then 2 ^ W else 0) + numB W f < 2 ^ p := by
          have : 2 ^ (W + 1) ≤ 2 ^ p := Nat.pow_le_pow_right (by decide) (by omega)
          rw [Nat.pow_succ] at this
          split <;> omega
        rw [Nat.testBit_lt_two_pow lt3]
        simp [h1]
theorem numB_ext {W : Nat} {f : Nat → Bool} {x : Nat} (hx : x < 2 ^ W) (h : ∀ p, p < W → x.testBit p = f p) : x = numB W f := by
  apply Nat.eq_of_testBit_eq
  intro p
  rw [numB_bit]
  by_cases c : p < W
  · simp [c, h p c]
  · rw [Nat.testBit_lt_two_pow (Nat.lt_of_lt_of_le hx (Nat.pow_le_pow_right (by decide) (by omega)))]
    simp [c]
theorem numB_congr {W : Nat} {f g : Nat → Bool} (h : ∀ p, p < W → f p = g p) : numB W f = numB W g := numB_ext (numB_lt f W) fun p hp => by rw [numB_bit]; simp [hp, h p hp]
theorem numB_all (W : Nat) : numB W (fun _ => true) = 2 ^ W - 1 := (numB_ext (by have := @Nat.one_le_two_pow W; omega) fun p hp => by rw [Nat.testBit_two_pow_sub_one]; simp [hp]).symm
theorem numB_none (W : Nat) : numB W (fun _ => false) = 0 := (numB_ext (Nat.two_pow_pos W) fun p _ => by simp).symm
theorem numB_and (W : Nat) (f g : Nat → Bool) : numB W f &&& numB W g = numB W fun p => f p && g p := numB_ext (Nat.lt_of_le_of_lt Nat.and_le_left (numB_lt f W)) fun p hp => by rw [Nat.testBit_and, numB_bit, numB_bit]; simp [hp]
theorem numB_or (W : Nat) (f g : Nat → Bool) : numB W f ||| numB W g = numB W fun p => f p || g p := numB_ext (Nat.or_lt_two_pow (numB_lt f W) (numB_lt g W)) fun p hp => by rw [Nat.testBit_or, numB_bit, numB_bit]; simp [hp]
theorem numB_not (W : Nat) (f : Nat → Bool) : numB W (fun _ => true) ^^^ numB W f = numB W fun p => !f p := numB_ext (Nat.xor_lt_two_pow (numB_lt _ W) (numB_lt f W)) fun p hp => by rw [Nat.testBit_xor, numB_bit, numB_bit]; simp [hp]
theorem numB_pos {W : Nat} {f : Nat → Bool} : 0 < numB W f ↔ ∃ p, p < W ∧ f p = true := by
  constructor
  · intro h
    by_cases c : ∃ p, p < W ∧ f p = true
    · exact c
    · have : numB W f = numB W fun _ => false := numB_congr fun p hp => by
        cases e : f p with
        | false => rfl
        | true => exact absurd ⟨p, hp, e⟩ c
      rw [this, numB_none] at h
      omega
  · rintro ⟨p, hp, e⟩
    by_cases c : numB W f = 0
    · have := numB_bit f W p
      rw [c] at this
      simp [hp, e] at this
    · omega
theorem bAnd (a b : Nat) : Builtin.bitAnd (a : Int) (b : Int) = ((a &&& b : Nat) : Int) := by
  rw [bitAnd_pp (by omega) (by omega), Int.toNat_natCast, Int.toNat_natCast]
theorem bXor (a b : Nat) : Builtin.bitXor (a : Int) (b : Int) = ((a ^^^ b : Nat) : Int) := by
  rw [Bits.bitXor_pp (by omega) (by omega), Int.toNat_natCast, Int.toNat_natCast]
theorem bOr (a b : Nat) : Builtin.bitOr (a : Int) (b : Int) = ((a ||| b : Nat) : Int) := by
  rw [Bits.bitOr_pp (by omega) (by omega), Int.toNat_natCast, Int.toNat_natCast]
end My

namespace My
open PySem L2 Dn TL
/-! ### where a statement stands in a list -/
def ixS (L : List Sm) (x : Sm) : Nat := L.findIdx fun z => decide (z = x)
theorem ixS_lt {L : List Sm} {x : Sm} (h : x ∈ L) : ixS L x < L.length := List.findIdx_lt_length_of_exists ⟨x, h, by simp⟩
theorem ixS_get {L : List Sm} {x : Sm} (h : x ∈ L) : L[ixS L x]? = some x := by
  have lt := ixS_lt h
  rw [List.getElem?_eq_getElem lt]
  have := List.findIdx_getElem (p := fun z => decide (z = x)) (xs := L) (w := lt)
  simp at this
  exact congrArg some this
theorem ixS_le {L : List Sm} {x : Sm} {j : Nat} (h : L[j]? = some x) : ixS L x ≤ j := by
  obtain ⟨lt, e⟩ := List.getElem?_eq_some_iff.mp h
  by_cases c : ixS L x ≤ j
  · exact c
  · have := List.not_of_lt_findIdx (p := fun z => decide (z = x)) (xs := L) (i := j) (by unfold ixS at c; omega)
    simp [e] at this
theorem ixS_inj {L : List Sm} {x y : Sm} (hx : x ∈ L) (hy : y ∈ L) (e : ixS L x = ixS L y) : x = y := by
  have a := ixS_get hx
  have b := ixS_get hy
  rw [e, b] at a
  exact (Option.some.inj a).symm
theorem ixS_nd {L : List Sm} (n : L.Nodup) {x : Sm} {j : Nat} (h : L[j]? = some x) : ixS L x = j := by
  have hx := List.mem_of_getElem? h
  have g := ixS_get hx
  obtain ⟨lt, e⟩ := List.getElem?_eq_some_iff.mp h
  obtain ⟨lt2, e2⟩ := List.getElem?_eq_some_iff.mp g
  have q := List.pairwise_iff_getElem.mp n
  rcases Nat.lt_trichotomy (ixS L x) j with c | c | c
  · exact absurd (e2.trans e.symm) (q _ _ lt2 lt c)
  · exact c
  · exact absurd (e.trans e2.symm) (q _ _ lt lt2 c)
theorem index_encs {x : Sm} {L : List Sm} (hx : x.Fine ∧ x.depth ≤ 60) (h : Oks L) (m : x ∈ L) : indexD (.list (L.map enc)) [enc x] = some (.int (ixS L x : Nat)) := by
  unfold indexD
  simp only
  rw [if_pos (by rw [shaped_encs h, shaped_enc hx.1 hx.2]; rfl), List.findIdx?_map]
  have e : (fun z => PyData.eqv z (enc x)) ∘ enc = fun z => decide (z = x) := by
    funext z
    simp [eqv_enc]
  rw [e, List.findIdx?_eq_some_of_exists ⟨x, m, by simp⟩]
  rfl
/-! ### parts stand ahead -/
def PBx : List Sm → List Sm → Prop
  | _, [] => True
  | f, x :: r => (∀ a ∈ x.parts, a ∈ f) ∧ PBx (f ++ [x]) r
theorem PBx_app : ∀ (xs ys f : List Sm), PBx f (xs ++ ys) ↔ PBx f xs ∧ PBx (f ++ xs) ys
  | [], ys, f => by simp [PBx]
  | x :: xs, ys, f => by
    simp only [List.cons_append, PBx]
    rw [PBx_app xs ys]
    simp [and_assoc]
theorem PBx_mono : ∀ (xs f g : List Sm), PBx f xs → (∀ a ∈ f, a ∈ g) → PBx g xs
  | [], _, _, _, _ => trivial
  | x :: xs, f, g, h, s => ⟨fun a ha => s a (h.1 a ha), PBx_mono xs (f ++ [x]) (g ++ [x]) h.2 fun a ha => by
      rcases List.mem_append.mp ha with ha | ha
      · exact List.mem_append_left _ (s a ha)
      · exact List.mem_append_right _ ha⟩
theorem self_stand (s : Sm) : s ∈ stand s := (stand_mem s s).mpr (all_self s)
theorem PBx_stand : ∀ s : Sm, PBx [] (stand s)
  | .mark m => by simp [stand, PBx]
  | .yes => by simp [stand, PBx]
  | .not s | .nxt s | .wth _ s | .bef s => by
    simp only [stand, PBx_app]
    exact ⟨PBx_stand s, by simp [PBx, self_stand]⟩
  | .and s t | .or s t | .unt s t | .sin s t => by
    simp only [stand, PBx_app]
    exact ⟨PBx_stand s, PBx_mono _ _ _ (PBx_stand t) (by simp), by simp [PBx, self_stand]⟩
theorem PBx_once : ∀ (xs f f' : List Sm), PBx [] f → PBx f' xs → (∀ a ∈ f', a ∈ f) → PBx [] (onceGo f xs)
  | [], f, f', h, _, _ => h
  | x :: xs, f, f', h, g, s => by
    show PBx [] (onceGo (if x ∈ f then f else f ++ [x]) xs)
    by_cases c : x ∈ f
    · rw [if_pos c]
      refine PBx_once xs f (f' ++ [x]) h g.2 fun a ha => ?_
      rcases List.mem_append.mp ha with ha | ha
      · exact s a ha
      · rw [List.mem_singleton.mp ha]; exact c
    · rw [if_neg c]
      refine PBx_once xs (f ++ [x]) (f' ++ [x]) ?_ g.2 fun a ha => ?_
      · rw [PBx_app]
        exact ⟨h, fun a ha => by simpa using s a (g.1 a ha), trivial⟩
      · rcases List.mem_append.mp ha with ha | ha
        · exact List.mem_append_left _ (s a ha)
        · exact List.mem_append_right _ ha
theorem PBx_flat : ∀ (ws : List Sm) (f : List Sm), PBx f (ws.flatMap stand)
  | [], f => trivial
  | w :: ws, f => by
    rw [List.flatMap_cons, PBx_app]
    exact ⟨PBx_mono _ _ _ (PBx_stand w) (by simp), PBx_flat ws _⟩
theorem PBx_split {xs ys : List Sm} {x : Sm} {f : List Sm} (h : PBx f (xs ++ x :: ys)) : ∀ a ∈ x.parts, a ∈ f ++ xs := by
  rw [PBx_app] at h
  exact h.2.1
/-- all that stands in the wishes, each once -/
def standL (ws : List Sm) : List Sm := onceS (ws.flatMap stand)
theorem standL_pb (ws : List Sm) : PBx [] (standL ws) := PBx_once _ [] [] trivial (PBx_flat ws []) (by simp)
theorem standL_mem (ws : List Sm) (x : Sm) : x ∈ standL ws ↔ ∃ w ∈ ws, x ∈ allS w := by
  unfold standL
  rw [onceS_mem, List.mem_flatMap]
  simp [stand_mem]
theorem standL_nd (ws : List Sm) : (standL ws).Nodup := onceS_nd _
theorem standL_part {ws : List Sm} {D R : List Sm} {x a : Sm} (e : standL ws = D ++ x :: R) (h : a ∈ x.parts) : a ∈ D := by
  have := PBx_split (f := []) (by rw [← e]; exact standL_pb ws) a h
  simpa using this
end My

namespace My
open PySem L2 Dn TL
/-! ### a plan's data -/
def wtD (n : Nat) : PyData := .list ((List.range (n + 1)).map fun (i : Nat) => .int ((2 ^ i : Nat) : Int))
def evD (W : Nat) : PyData := .int ((numB W fun _ => true : Nat) : Int)
abbrev pl5 (w p m we ev : PyData) : List (PyData × PyData) := [(.str "wishes", w), (.str "pasts", p), (.str "marks", m), (.str "weights", we), (.str "everywhere", ev)]
abbrev pl8 (w p m we ev li wl kl : PyData) : List (PyData × PyData) := [(.str "wishes", w), (.str "pasts", p), (.str "marks", m), (.str "weights", we), (.str "everywhere", ev), (.str "lines", li), (.str "wish_lines", wl), (.str "kept_lines", kl)]
def obj (gs : List (PyData × PyData)) : PyData := .dict ((.none, .str "Plan") :: gs)
theorem fld_obj (f : Str) (gs : List (PyData × PyData)) : fldD "Plan" f (obj gs) = lkF f gs := by unfold obj fldD; simp
section
variable (w p m we ev li wl kl : PyData)
@[simp] theorem l5w : fldD "Plan" "wishes" (obj (pl5 w p m we ev)) = some w := by rw [fld_obj]; simp [lkF]
@[simp] theorem l5p : fldD "Plan" "pasts" (obj (pl5 w p m we ev)) = some p := by rw [fld_obj]; simp [lkF]
@[simp] theorem l5we : fldD "Plan" "weights" (obj (pl5 w p m we ev)) = some we := by rw [fld_obj]; simp [lkF]
@[simp] theorem l8w : fldD "Plan" "wishes" (obj (pl8 w p m we ev li wl kl)) = some w := by rw [fld_obj]; simp [lkF]
@[simp] theorem l8p : fldD "Plan" "pasts" (obj (pl8 w p m we ev li wl kl)) = some p := by rw [fld_obj]; simp [lkF]
@[simp] theorem l8m : fldD "Plan" "marks" (obj (pl8 w p m we ev li wl kl)) = some m := by rw [fld_obj]; simp [lkF]
@[simp] theorem l8we : fldD "Plan" "weights" (obj (pl8 w p m we ev li wl kl)) = some we := by rw [fld_obj]; simp [lkF]
@[simp] theorem l8ev : fldD "Plan" "everywhere" (obj (pl8 w p m we ev li wl kl)) = some ev := by rw [fld_obj]; simp [lkF]
@[simp] theorem l8li : fldD "Plan" "lines" (obj (pl8 w p m we ev li wl kl)) = some li := by rw [fld_obj]; simp [lkF]
@[simp] theorem l8wl : fldD "Plan" "wish_lines" (obj (pl8 w p m we ev li wl kl)) = some wl := by rw [fld_obj]; simp [lkF]
@[simp] theorem l8kl : fldD "Plan" "kept_lines" (obj (pl8 w p m we ev li wl kl)) = some kl := by rw [fld_obj]; simp [lkF]
end
theorem wt_at {n i : Nat} (h : i ≤ n) : ixD (wtD n) (.int (i : Nat)) = some (.int ((2 ^ i : Nat) : Int)) := ix_get (by rw [List.getElem?_map, List.getElem?_range (by omega)]; rfl)
theorem ix_last {xs : List PyData} {x : PyData} (h : xs.getLast? = some x) : ixD (.list xs) (.int (-1)) = some x := by
  show atI xs (-1) = some x
  have ne : xs ≠ [] := fun e => by rw [e] at h; cases h
  have l0 : 0 < xs.length := List.length_pos_iff.mpr ne
  unfold atI ixN
  rw [List.getLast?_eq_getElem?] at h
  rw [if_neg (by omega), if_pos (by omega)]
  simp only [Option.bind_some]
  rw [← h]
  congr 1
  omega
theorem wt_last (n : Nat) : ixD (wtD n) (.int (-1)) = some (.int ((2 ^ n : Nat) : Int)) := ix_last (by rw [List.range_succ, List.map_append]; simp)
/-- the sum of the bits of the places -/
theorem sum_places (f : Nat → Bool) : ∀ W : Nat, (((List.range W).filter f).map fun (p : Nat) => ((2 ^ p : Nat) : Int)).sum = ((numB W f : Nat) : Int)
  | 0 => rfl
  | W + 1 => by
    have ih := sum_places f W
    rw [List.range_succ, List.filter_append, List.map_append, List.sum_append, ih]
    show _ = (((if f W = true then 2 ^ W else 0) + numB W f : Nat) : Int)
    cases c : f W with
    | true => simp [c]; omega
    | false => simp [c]
theorem sumD_ints (ns : List Int) : sumD (.list (ns.map .int)) = some (.int ns.sum) := by unfold sumD; simp only [intsD_map, Option.map_some]
theorem and_pow {p i : Nat} : (0 : Int) < Builtin.bitAnd (p : Int) ((2 ^ i : Nat) : Int) ↔ p.testBit i = true := by
  have e : p &&& 2 ^ i = if p.testBit i = true then 2 ^ i else 0 := by
    apply Nat.eq_of_testBit_eq
    intro j
    rw [Nat.testBit_and, Nat.testBit_two_pow]
    by_cases h : i = j
    · subst h
      cases c : p.testBit i with
      | true => rw [if_pos rfl, Nat.testBit_two_pow]; simp
      | false => rw [if_neg (by simp)]; simp
    · cases c : p.testBit i with
      | true => rw [if_pos rfl, Nat.testBit_two_pow]; simp [h]
      | false => rw [if_neg (by simp)]; simp [h]
  rw [bAnd, e]
  have := Nat.two_pow_pos i
  cases c : p.testBit i with
  | true => rw [if_pos rfl]; constructor
            · intro _; rfl
            · intro _; exact Int.ofNat_lt.mpr this
  | false => simp
def awB (ws : List Sm) (u : Sm) (p : Nat) : Bool := (awS u).any fun w => p.testBit (ixS ws w)
def bwF : List PyData → Option PyData := fnD 4 gbits_of_wish
theorem range_pow {n : Nat} (h : n ≤ 10) : range1D (.int ((2 ^ n : Nat) : Int)) = some ((List.range (2 ^ n)).map fun (i : Nat) => .int (i : Int)) := by
  have : 2 ^ n ≤ 2 ^ 10 := Nat.pow_le_pow_right (by decide) h
  have e : (2 : Nat) ^ 10 = 1024 := rfl
  rw [range1D_n (by omega)]
  unfold Dn.intsFrom
  simp
theorem pow_1024 {n : Nat} (h : n ≤ 10) : 2 ^ n ≤ 1024 := Nat.pow_le_pow_right (by decide) h
theorem bwF_eq {ws : List Sm} (p m ev : PyData) {x : Sm} (hw : Oks ws) (hn : ws.length ≤ 10) (hx : x ∈ ws) : bwF [obj (pl5 (.list (ws.map enc)) p m (wtD ws.length) ev), enc x] = some (.int ((numB (2 ^ ws.length) fun p => p.testBit (ixS ws x) : Nat) : Int)) := by
  have ie := index_encs (hw x hx) hw hx
  have lt := ixS_lt hx
  have w1 := wt_at (n := ws.length) (i := ixS ws x) (by omega)
  have w2 := wt_last ws.length
  have rg := range_pow hn
  have P := pow_1024 hn
  generalize hW : 2 ^ ws.length = W at *
  have q := lc_filter (bd := b1 3) (t := (fB (f2 (rb fun i j => decide (j < i)) (f2 (ri Builtin.bitAnd) (fV 3) (fV 2)) (fC (.int 0))))) (f := f2 shlD (fC (.int 1)) (fV 3)) (ρ := [some (.d (obj (pl5 (.list (ws.map enc)) p m (wtD ws.length) ev))), some (.d (enc x)), some (.d (.int ((2 ^ ixS ws x : Nat) : Int))), none])
    (fun (i : Nat) => PyData.int (i : Int)) (fun i => i.testBit (ixS ws x)) (fun i => .int ((2 ^ i : Nat) : Int)) (List.range W) (by
      intro i hi
      have hi' : i < W := List.mem_range.mp hi
      refine ⟨_, rfl, ?_, ?_⟩
      · have e := @and_pow i (ixS ws x)
        simp only [fB_ap, f2_ap, fV_ap, fC_ap]
        simp
        cases c : i.testBit (ixS ws x) with
        | true => rw [c] at e; simpa using e.mpr rfl
        | false =>
          rw [c] at e
          have : ¬ (0 : Int) < Builtin.bitAnd (i : Int) ((2 ^ ixS ws x : Nat) : Int) := fun z => by simpa using e.mp z
          simpa using this
      · have s : shlD (.int 1) (.int (i : Int)) = some (.int ((2 ^ i : Nat) : Int)) := by
          unfold shlD
          simp only
          rw [if_pos ⟨by omega, by omega, by decide⟩]
          simp
        simp [s])
  have sm := sumD_ints (((List.range W).filter fun i => i.testBit (ixS ws x)).map fun (i : Nat) => ((2 ^ i : Nat) : Int))
  rw [sum_places, List.map_map] at sm
  have ln : ((List.range W).map fun (i : Nat) => PyData.int (i : Int)).length ≤ 100000 := by simp; omega
  unfold bwF
  simp only [fnD_ap, startR, gbits_of_wish]
  simp [ie, w1, w2, rg, lcO_some ln] at q ⊢
  rw [q]
  have sm' : sumD (.list (((List.range W).filter fun i => i.testBit (ixS ws x)).map fun (i : Nat) => PyData.int (2 ^ i))) = some (.int ((numB W fun p => p.testBit (ixS ws x) : Nat) : Int)) := by
    rw [← sm]
    congr 2
  simp [sm']
end My

namespace My
open PySem L2 Dn TL
/-! ### the lines of a plan -/
def besD (ws ps : List Sm) (u : Sm) : PyData := match u with
  | .mark m => .str m
  | .bef a => .int (ixS ps (.bef a) : Nat)
  | .sin a b => .int (ixS ps (.sin a b) : Nat)
  | u => .int ((numB (2 ^ ws.length) (awB ws u) : Nat) : Int)
def besF : List PyData → Option PyData := fnD 3 (gbeside awF bwF)
theorem bes_num {ws : List Sm} (p m ev : PyData) {u : Sm} (hw : Oks ws) (hn : ws.length ≤ 10) (ha : ∀ x ∈ awS u, x ∈ ws) :
    (lcGo (b1 2) tYesD (fCa 2 bwF (fCons (fV 0) (fCons (fV 2) fNil))) [some (.d (obj (pl5 (.list (ws.map enc)) p m (wtD ws.length) ev))), some (.d (enc u)), none] ((awS u).map enc)).bind (fun r => sumD (.list r)) = some (.int ((numB (2 ^ ws.length) (awB ws u) : Nat) : Int)) := by
  have l := aw_len u
  unfold awB
  generalize awS u = A at *
  match A, l with
  | [], _ => simp [sumD, intsD, numB_none]
  | [w], _ =>
    have e := bwF_eq p m ev hw hn (ha w (by simp))
    simp [e, sumD, intsD]
theorem besF_eq {ws ps : List Sm} (m ev : PyData) {u : Sm} (hw : Oks ws) (hp : Oks ps) (hn : ws.length ≤ 10) (hu : u.Fine ∧ u.depth ≤ 60) (ha : ∀ x ∈ awS u, x ∈ ws) (hpu : u.past = true → u ∈ ps) :
    besF [obj (pl5 (.list (ws.map enc)) (.list (ps.map enc)) m (wtD ws.length) ev), enc u] = some (besD ws ps u) := by
  have wm := mk_word u
  have wp := past_word u
  have aw := awF_eq u
  have bn := bes_num (.list (ps.map enc)) m ev hw hn ha
  have al : ((awS u).map enc).length ≤ 100000 := by have := aw_len u; simp; omega
  unfold besF
  cases hm : u.isMk with
  | true =>
    cases u with
    | mark x =>
      rw [hm] at wm
      simp [fnD_ap, startR, gbeside, besD]
    | _ => cases hm
  | false =>
    cases hq : u.past with
    | true =>
      have ie := index_encs hu hp (hpu hq)
      rw [hm] at wm
      rw [hq] at wp
      have fin : besD ws ps u = .int (ixS ps u : Nat) := by cases u <;> first | rfl | (cases hq; done)
      rw [fin]
      simp [fnD_ap, startR, gbeside, -Sm.word, wm, wp, ie]
    | false =>
      rw [hm] at wm
      rw [hq] at wp
      have fin : besD ws ps u = .int ((numB (2 ^ ws.length) (awB ws u) : Nat) : Int) := by cases u <;> first | rfl | (cases hm; done) | (cases hq; done)
      rw [fin]
      obtain ⟨r, hr, hs⟩ := Option.bind_eq_some_iff.mp bn
      simp [fnD_ap, startR, gbeside, -Sm.word, wm, wp, ofF, aw, lcO_some al] at hr ⊢
      rw [hr]
      simp [hs]
@[simp] theorem tupO_4 (a b c d : PyData) : tupO (some [a, b, c, d]) = some (.tuple [a, b, c, d]) := rfl
def fstI (L : List Sm) (u : Sm) : Nat := match u.parts with
  | [] => 0
  | a :: _ => ixS L a
def lstI (L : List Sm) (u : Sm) : Nat := match u.parts with
  | [] => 0
  | [a] => ixS L a
  | _ :: b :: _ => ixS L b
def lineD (L ws ps : List Sm) (u : Sm) : PyData := .tuple [.str u.word, .int (fstI L u : Nat), .int (lstI L u : Nat), besD ws ps u]
def lineF : List PyData → Option PyData := fnD 5 (gline partsF besF)
theorem parts_len (u : Sm) : u.parts.length ≤ 2 := by cases u <;> simp
theorem neg1 : negD (.int 1) = some (.int (-1)) := rfl
theorem lineF_eq {L ws ps : List Sm} (m ev : PyData) {u : Sm} (hL : Oks L) (hw : Oks ws) (hp : Oks ps) (hn : ws.length ≤ 10) (hu : u.Fine ∧ u.depth ≤ 60) (ha : ∀ x ∈ awS u, x ∈ ws) (hpu : u.past = true → u ∈ ps) (hpt : ∀ a ∈ u.parts, a ∈ L) :
    lineF [obj (pl5 (.list (ws.map enc)) (.list (ps.map enc)) m (wtD ws.length) ev), .list (L.map enc), enc u] = some (lineD L ws ps u) := by
  have be := besF_eq m ev hw hp hn hu ha hpu
  have pe := parts_eq u
  generalize hP : obj (pl5 (.list (ws.map enc)) (.list (ps.map enc)) m (wtD ws.length) ev) = P at *
  have wd := ix_word u
  have q := lc_map (bd := b1 4) (t := tYesD) (f := fMt indexD (fV 1) (fCons (fV 4) fNil)) (ρ := [some (.d P), some (.d (.list (L.map enc))), some (.d (enc u)), none, none]) enc (fun x => .int (ixS L x : Nat)) u.parts (by
    intro x hx
    have ie := index_encs (hL x (hpt x hx)) hL (hpt x hx)
    exact ⟨_, rfl, rfl, by simp [ie]⟩)
  have pl : (u.parts.map enc).length ≤ 100000 := by have := parts_len u; rw [List.length_map]; omega
  have l := parts_len u
  unfold lineF lineD fstI lstI
  simp [fnD_ap, startR, gline, -Sm.word, -Sm.parts, pe, lcO_some pl] at q ⊢
  rw [q]
  generalize u.parts = A at *
  match A, l with
  | [], _ =>
    have i2 : ixD (.list [.int 0]) (.int (-1)) = some (.int 0) := ix_last rfl
    simp [-Sm.word, wd, be, i2]
  | [a], _ =>
    have i2 : ixD (.list [.int (ixS L a : Nat)]) (.int (-1)) = some (.int (ixS L a : Nat)) := ix_last rfl
    simp [-Sm.word, wd, be, i2]
  | [a, b], _ =>
    have i2 : ixD (.list [.int (ixS L a : Nat), .int (ixS L b : Nat)]) (.int (-1)) = some (.int (ixS L b : Nat)) := ix_last rfl
    simp [-Sm.word, wd, be, i2]
def koS : Sm → Sm
  | .bef a => a
  | u => u
def koF : List PyData → Option PyData := fnD 1 gkept_of
theorem koF_eq (u : Sm) : koF [enc u] = some (enc (koS u)) := by
  unfold koF
  cases u with
  | bef a =>
    have i1 : ixD (enc (.bef a)) (.int 1) = some (enc a) := by simp [enc]
    simp [fnD_ap, startR, gkept_of, koS, i1]
  | _ => simp [fnD_ap, startR, gkept_of, koS]
end My

namespace Dn
open PySem L2
theorem lc2_flat {α : Type} {bd bd1 : PyData → Rho → Option Rho} {t t1 : Rho → Option Bool} {fi1 : Rho → Option (List PyData)} {f : Rho → Option PyData} {vs1 : List Nat} {ρ : Rho} (e : α → PyData) (h : α → List PyData) : ∀ xs : List α,
    (∀ x ∈ xs, ∃ ρ1 ys, bd (e x) ρ = some ρ1 ∧ t ρ1 = some true ∧ fi1 ρ1 = some ys ∧ lcGo bd1 t1 f (wipeR ρ1 vs1) ys = some (h x)) → lc2Go bd t fi1 bd1 t1 f vs1 ρ (xs.map e) = some (xs.flatMap h)
  | [], _ => rfl
  | x :: xs, q => by
    obtain ⟨ρ1, ys, e1, e2, e3, e4⟩ := q x (by simp)
    rw [List.map_cons, lc2Go, e1]
    simp only [Option.bind_some, e2, e3, e4, if_pos, lc2_flat e h xs fun y hy => q y (by simp [hy])]
    rfl
def lc2O (bd : PyData → Rho → Option Rho) (t : Rho → Option Bool) (fi1 : Rho → Option (List PyData)) (bd1 : PyData → Rho → Option Rho) (t1 : Rho → Option Bool) (f : Rho → Option PyData) (vs1 : List Nat) (ρ : Rho) : Option (List PyData) → Option PyData
  | some xs => match lc2Go bd t fi1 bd1 t1 f vs1 ρ xs with
    | some r => if r.length ≤ bigL then some (.list r) else none
    | none => none
  | none => none
@[simp] theorem fLc2_ap (fi : Rho → Option (List PyData)) (bd : PyData → Rho → Option Rho) (t : Rho → Option Bool) (fi1 : Rho → Option (List PyData)) (bd1 : PyData → Rho → Option Rho) (t1 : Rho → Option Bool) (f : Rho → Option PyData) (vs vs1 : List Nat) (ρ : Rho) : fLc2 fi bd t fi1 bd1 t1 f vs vs1 ρ = lc2O bd t fi1 bd1 t1 f vs1 (wipeR ρ vs) (fi ρ) := by
  unfold fLc2 lc2O
  cases fi ρ with
  | none => rfl
  | some xs => simp only [Option.bind_some]; cases lc2Go bd t fi1 bd1 t1 f vs1 (wipeR ρ vs) xs <;> rfl
theorem lc2O_some {bd : PyData → Rho → Option Rho} {t : Rho → Option Bool} {fi1 : Rho → Option (List PyData)} {bd1 : PyData → Rho → Option Rho} {t1 : Rho → Option Bool} {f : Rho → Option PyData} {vs1 : List Nat} {ρ : Rho} {xs r : List PyData} (h : lc2Go bd t fi1 bd1 t1 f vs1 ρ xs = some r) (hl : r.length ≤ 100000) : lc2O bd t fi1 bd1 t1 f vs1 ρ (some xs) = some (.list r) := by
  unfold lc2O
  simp only [h]
  exact if_pos hl
end Dn
namespace My
open PySem L2 Dn TL
/-- of what plans are made here -/
structure PG (s : Sm) : Prop where
  f : s.Fine
  n : s.NM
  d : s.depth ≤ 6
  w : (wishL s).length ≤ 6
theorem pasts_mem (s x : Sm) : x ∈ pastsS s ↔ x ∈ allS s ∧ x.past = true := by
  unfold pastsS
  rw [onceS_mem, List.mem_filter, stand_mem]
theorem parts_all {u a : Sm} (h : a ∈ u.parts) : a ∈ allS u := by
  cases u <;> simp only [Sm.parts, List.mem_cons, List.not_mem_nil, or_false] at h <;> first | (subst h; simp [allS, all_self]; done) | (rcases h with rfl | rfl <;> simp [allS, all_self])
section
variable {s : Sm} (g : PG s)
include g
theorem PG.lt : (wishL s).length < 1000 := by have := g.w; omega
theorem PG.wl : (wishS s).length ≤ 6 := by rw [wishS_len g.f g.n g.lt]; exact g.w
theorem PG.mem (x : Sm) : x ∈ wishS s ↔ Wset s x := wishS_mem g.f g.n g.lt x
theorem PG.wok {x : Sm} (h : x ∈ wishS s) : x.Fine ∧ x.depth ≤ 6 := by
  have a := wset_fine g.f ((g.mem x).mp h)
  have b := g.d
  exact ⟨a.1, by omega⟩
theorem PG.woks : Oks (wishS s) := fun x h => by have := g.wok h; exact ⟨this.1, by omega⟩
theorem PG.hd : (wishS s)[0]? = some s := wishS_hd g.lt
theorem PG.self : s ∈ wishS s := List.mem_of_getElem? g.hd
theorem PG.lok {u : Sm} (h : u ∈ standL (wishS s)) : u.Fine ∧ u.depth ≤ 6 := by
  obtain ⟨w, hw, hu⟩ := (standL_mem _ u).mp h
  have a := g.wok hw
  have b := fine_all w a.1 u hu
  exact ⟨b.1, by omega⟩
theorem PG.loks : Oks (standL (wishS s)) := fun x h => by have := g.lok h; exact ⟨this.1, by omega⟩
theorem PG.aw {u : Sm} (h : u ∈ standL (wishS s)) : ∀ x ∈ awS u, x ∈ wishS s := fun x hx => by
  obtain ⟨w, hw, hu⟩ := (standL_mem _ u).mp h
  exact (g.mem x).mpr (wset_more ((g.mem w).mp hw) hu (aw_more hx))
theorem PG.pa {u : Sm} (h : u ∈ standL (wishS s)) (hp : u.past = true) : u ∈ pastsS s := by
  obtain ⟨w, hw, hu⟩ := (standL_mem _ u).mp h
  rcases wset_all ((g.mem w).mp hw) hu with q | ⟨k, j, a, _, _, _, rfl⟩
  · exact (pasts_mem s u).mpr ⟨q, hp⟩
  · cases hp
theorem PG.poks : Oks (pastsS s) := fun x h => by
  have a := fine_all s g.f x ((pasts_mem s x).mp h).1
  have := g.d
  exact ⟨a.1, by omega⟩
theorem PG.pt {u : Sm} (h : u ∈ standL (wishS s)) : ∀ a ∈ u.parts, a ∈ standL (wishS s) := fun a ha => by
  obtain ⟨w, hw, hu⟩ := (standL_mem _ u).mp h
  exact (standL_mem _ a).mpr ⟨w, hw, all_trans hu (parts_all ha)⟩
theorem PG.ws {w : Sm} (h : w ∈ wishS s) : w ∈ standL (wishS s) := (standL_mem _ w).mpr ⟨w, h, all_self w⟩
theorem PG.ko {u : Sm} (h : u ∈ pastsS s) : koS u ∈ standL (wishS s) := by
  obtain ⟨h1, h2⟩ := (pasts_mem s u).mp h
  cases u with
  | bef a => exact (standL_mem _ _).mpr ⟨s, g.self, all_trans h1 (by simp [allS, all_self, koS])⟩
  | sin a b => exact (standL_mem _ _).mpr ⟨s, g.self, h1⟩
  | _ => cases h2
theorem PG.flen : ((wishS s).flatMap stand).length ≤ 6 * 64 := by
  have h1 : ∀ w ∈ wishS s, (stand w).length ≤ 64 := fun w hw => by
    have a := allS_len w
    have b := (g.wok hw).2
    have c : 2 ^ w.depth ≤ 2 ^ 6 := Nat.pow_le_pow_right (by decide) b
    rw [stand_len]
    have : (2 : Nat) ^ 6 = 64 := rfl
    omega
  have h2 := g.wl
  have gen : ∀ xs : List Sm, (∀ w ∈ xs, (stand w).length ≤ 64) → (xs.flatMap stand).length ≤ xs.length * 64 := by
    intro xs
    induction xs with
    | nil => intro _; simp
    | cons x xs ih => intro h; have := ih fun w hw => h w (by simp [hw]); have := h x (by simp); simp [List.flatMap_cons] at *; omega
  have := gen _ h1
  omega
end
def plF (s : Sm) : List (PyData × PyData) :=
  pl8 (.list ((wishS s).map enc)) (.list ((pastsS s).map enc)) (.list ((marksS s).map .str)) (wtD (wishS s).length) (evD (2 ^ (wishS s).length)) (.list ((standL (wishS s)).map (lineD (standL (wishS s)) (wishS s) (pastsS s)))) (.list ((wishS s).map fun w => .int (ixS (standL (wishS s)) w : Nat))) (.list ((pastsS s).map fun p => .int (ixS (standL (wishS s)) (koS p) : Nat)))
def planD (s : Sm) : PyData := obj (plF s)
theorem enc_inj {s t : Sm} (h : enc s = enc t) : s = t := by
  have e := eqv_enc s t
  rw [← h, eqv_enc s s] at e
  simpa using e.symm
open Classical in
noncomputable def planR (ds : List PyData) : Option (List (PyData × PyData)) := if h : ∃ s, ds = [enc s] ∧ PG s then some (plF h.choose) else none
theorem planR_eq {s : Sm} (g : PG s) : planR [enc s] = some (plF s) := by
  have h : ∃ t, [enc s] = [enc t] ∧ PG t := ⟨s, rfl, g⟩
  unfold planR
  rw [dif_pos h]
  have e : enc s = enc h.choose := by have := h.choose_spec.1; simpa using this
  exact congrArg (fun z => some (plF z)) (enc_inj e).symm
theorem planR_inv {ds : List PyData} {gs : List (PyData × PyData)} (h : planR ds = some gs) : ∃ s, ds = [enc s] ∧ PG s ∧ gs = plF s := by
  unfold planR at h
  split at h
  · rename_i e
    exact ⟨e.choose, e.choose_spec.1, e.choose_spec.2, (Option.some.inj h).symm⟩
  · cases h
end My

namespace My
open PySem L2 Dn TL
theorem noD_bes (ws ps : List Sm) (u : Sm) : noD (besD ws ps u) = true := by cases u <;> simp [besD, noD]
theorem noD_line (L ws ps : List Sm) (u : Sm) : noD (lineD L ws ps u) = true := by simp [lineD, noD, noDs, noD_bes]
theorem shl1 {k : Nat} (h : k ≤ 100000) : shlD (.int 1) (.int (k : Int)) = some (.int ((2 ^ k : Nat) : Int)) := by
  unfold shlD
  simp only
  rw [if_pos ⟨by omega, by omega, by decide⟩]
  simp
theorem range_int {n : Nat} (h : n ≤ 1000000) : range1D (.int (n : Int)) = some ((List.range n).map fun (i : Nat) => .int (i : Int)) := by
  rw [range1D_n (by omega)]
  unfold Dn.intsFrom
  simp
/-- what __init__ leaves -/
theorem plan_run {s : Sm} (g : PG s) (a : Addr) : ∃ r, gPlan wishF pastsF marksF (standF 14) onceF lineF koF (startI 7 a "Plan" [enc s]) = some (.nx (some (.ob a "Plan" (plF s)) :: r)) := by
  have hd := g.d
  have e1 := wishF_eq g.f (by omega) g.lt
  have e2 := pastsF_eq g.f (by omega)
  have e3 := marksF_eq hd
  have wl := g.wl
  have wo := g.woks
  have po := g.poks
  have lo := g.loks
  have on := onceF_eq (xs := (wishS s).flatMap stand) (fun x hx => by
    obtain ⟨w, hw, hu⟩ := List.mem_flatMap.mp hx
    have a := g.wok hw
    have b := fine_all w a.1 x ((stand_mem x w).mp hu)
    exact ⟨b.1, by omega⟩) (by have := g.flen; omega)
  have fl := g.flen
  have pw : ((pastsS s).map enc).length ≤ 100000 := by
    have h1 := onceGo_len ((stand s).filter Sm.past) []
    have h2 := List.length_filter_le Sm.past (stand s)
    have h3 := stand_big (s := s) (by omega)
    simp only [List.length_map, List.length_nil] at *
    show (onceGo [] _).length ≤ _
    omega
  have lw : ((standL (wishS s)).map enc).length ≤ 100000 := by
    have h1 := onceGo_len ((wishS s).flatMap stand) []
    simp only [List.length_map, List.length_nil] at *
    show (onceGo [] _).length ≤ _
    omega
  -- the statements that stand in the wishes
  have q2 : ∀ ρ5 : Rho, ρ5.length = 7 → lc2Go (b1 4) tYesD (fSeq (fCa 1 (standF 14) (fCons (fV 4) fNil))) (b1 5) tYesD (fV 5) [5] ρ5 ((wishS s).map enc) = some (((wishS s).flatMap stand).map enc) := by
    intro ρ5 h5
    rw [List.map_flatMap]
    refine lc2_flat enc (fun w => (stand w).map enc) (wishS s) fun x hx => ?_
    have sx := standF_eq x 14 (by have := g.wok hx; omega) (by have := g.wok hx; omega)
    obtain ⟨a0, a1, a2, a3, a4, a5, a6, rfl⟩ : ∃ a0 a1 a2 a3 a4 a5 a6, ρ5 = [a0, a1, a2, a3, a4, a5, a6] := by
      match ρ5, h5 with
      | [a0, a1, a2, a3, a4, a5, a6], _ => exact ⟨a0, a1, a2, a3, a4, a5, a6, rfl⟩
    refine ⟨_, (stand x).map enc, rfl, rfl, by simp [sx], ?_⟩
    refine lc_map enc enc (stand x) fun y _ => ⟨_, rfl, rfl, ?_⟩
    simp
  -- the lines
  generalize hL : standL (wishS s) = L at *
  have on' : onceF [.list (((wishS s).flatMap stand).map enc)] = some (L.map enc) := by rw [← hL]; exact on
  have q3 : lcGo (b1 1) tYesD (fCaO 3 "Plan" lineF (fCons (fV 3) (fCons (fV 1) fNil))) [some (.ob a "Plan" (pl5 (.list ((wishS s).map enc)) (.list ((pastsS s).map enc)) (.list ((marksS s).map .str)) (wtD (wishS s).length) (evD (2 ^ (wishS s).length)))), none, none, some (.d (.list (L.map enc))), none, none, none] (L.map enc) = some (L.map (lineD L (wishS s) (pastsS s))) := by
    refine lc_map enc _ L fun x hx => ⟨_, rfl, rfl, ?_⟩
    have hx' : x ∈ standL (wishS s) := by rw [hL]; exact hx
    have le := lineF_eq (L := L) (ws := wishS s) (ps := pastsS s) (.list ((marksS s).map .str)) (evD (2 ^ (wishS s).length)) lo wo po (by omega) (lo x hx) (g.aw hx') (g.pa hx') (by rw [← hL]; exact g.pt hx')
    have ev : ooO 3 "Plan" lineF (pl5 (.list ((wishS s).map enc)) (.list ((pastsS s).map enc)) (.list ((marksS s).map .str)) (wtD (wishS s).length) (evD (2 ^ (wishS s).length))) (some [.list (L.map enc), enc x]) = some (lineD L (wishS s) (pastsS s) x) := by
      have e : lineF [.dict ((.none, .str "Plan") :: pl5 (.list ((wishS s).map enc)) (.list ((pastsS s).map enc)) (.list ((marksS s).map .str)) (wtD (wishS s).length) (evD (2 ^ (wishS s).length))), .list (L.map enc), enc x] = some (lineD L (wishS s) (pastsS s) x) := le
      unfold ooO
      simp only
      rw [e]
      simp [noD_line]
    simp only [List.set_cons_succ, List.set_cons_zero, fCaO_ob]
    simp only [fCons_ap, fV_ap, fNil_ap, List.getElem?_cons_succ, List.getElem?_cons_zero, slot_d, consO_some]
    exact ev
  have wl1 : ∀ ρ8 : Rho, ρ8.length = 7 → ρ8[3]? = some (some (.d (.list (L.map enc)))) → lcGo (b1 4) tYesD (fMt indexD (fV 3) (fCons (fV 4) fNil)) ρ8 ((wishS s).map enc) = some ((wishS s).map fun w => .int (ixS L w : Nat)) := by
    intro ρ8 h8 h3
    obtain ⟨a0, a1, a2, a3, a4, a5, a6, rfl⟩ : ∃ a0 a1 a2 a3 a4 a5 a6, ρ8 = [a0, a1, a2, a3, a4, a5, a6] := by
      match ρ8, h8 with
      | [a0, a1, a2, a3, a4, a5, a6], _ => exact ⟨a0, a1, a2, a3, a4, a5, a6, rfl⟩
    simp at h3
    subst h3
    refine lc_map enc _ (wishS s) fun x hx => ⟨_, rfl, rfl, ?_⟩
    have ie := index_encs (wo x hx) lo (by rw [← hL]; exact g.ws hx)
    simp [ie]
  have kl1 : ∀ ρ8 : Rho, ρ8.length = 7 → ρ8[3]? = some (some (.d (.list (L.map enc)))) → lcGo (b1 6) tYesD (fMt indexD (fV 3) (fCons (fCa 1 koF (fCons (fV 6) fNil)) fNil)) ρ8 ((pastsS s).map enc) = some ((pastsS s).map fun p => .int (ixS L (koS p) : Nat)) := by
    intro ρ8 h8 h3
    obtain ⟨a0, a1, a2, a3, a4, a5, a6, rfl⟩ : ∃ a0 a1 a2 a3 a4 a5 a6, ρ8 = [a0, a1, a2, a3, a4, a5, a6] := by
      match ρ8, h8 with
      | [a0, a1, a2, a3, a4, a5, a6], _ => exact ⟨a0, a1, a2, a3, a4, a5, a6, rfl⟩
    simp at h3
    subst h3
    refine lc_map enc _ (pastsS s) fun x hx => ⟨_, rfl, rfl, ?_⟩
    have km : koS x ∈ L := by rw [← hL]; exact g.ko hx
    have ie := index_encs (lo _ km) lo km
    simp [koF_eq, ie]
  have n1 : addD (.int ((wishS s).length : Int)) (.int 1) = some (.int (((wishS s).length + 1 : Nat) : Int)) := by simp [addD]
  have rg := range_int (n := (wishS s).length + 1) (by omega)
  have wt : ∀ ρ8 : Rho, ρ8.length = 7 → lcGo (b1 2) tYesD (f2 shlD (fC (.int 1)) (fV 2)) ρ8 ((List.range ((wishS s).length + 1)).map fun (i : Nat) => .int (i : Int)) = some ((List.range ((wishS s).length + 1)).map fun (i : Nat) => .int ((2 ^ i : Nat) : Int)) := by
    intro ρ8 h8
    obtain ⟨a0, a1, a2, a3, a4, a5, a6, rfl⟩ : ∃ a0 a1 a2 a3 a4 a5 a6, ρ8 = [a0, a1, a2, a3, a4, a5, a6] := by
      match ρ8, h8 with
      | [a0, a1, a2, a3, a4, a5, a6], _ => exact ⟨a0, a1, a2, a3, a4, a5, a6, rfl⟩
    refine lc_map _ _ _ fun i hi => ⟨_, rfl, rfl, ?_⟩
    have sh := shl1 (k := i) (by have := List.mem_range.mp hi; omega)
    simp only [f2_ap, fC_ap, fV_ap]
    simp [sh]
  have rl : ((List.range ((wishS s).length + 1)).map fun (i : Nat) => PyData.int (i : Int)).length ≤ 100000 := by simp; omega
  have w2 := wt_last (wishS s).length
  have P := pow_1024 (n := (wishS s).length) (by omega)
  have sh2 := shl1 (k := 2 ^ (wishS s).length) (by omega)
  have sb : ri (fun i j => i - j) (.int ((2 ^ 2 ^ (wishS s).length : Nat) : Int)) (.int 1) = some (evD (2 ^ (wishS s).length)) := by
    unfold ri evD
    simp only
    rw [numB_all]
    have := Nat.two_pow_pos (2 ^ (wishS s).length)
    congr 2
    omega
  have ww : ((wishS s).map enc).length ≤ 100000 := by simp; omega
  have rg' : range1D (.int ((wishS s).length + 1 : Int)) = some ((List.range ((wishS s).length + 1)).map fun (i : Nat) => .int (i : Int)) := by rw [← rg]; congr 2
  have hPl : plF s = pl8 (.list ((wishS s).map enc)) (.list ((pastsS s).map enc)) (.list ((marksS s).map .str)) (.list ((List.range ((wishS s).length + 1)).map fun (i : Nat) => .int ((2 ^ i : Nat) : Int))) (evD (2 ^ (wishS s).length)) (.list (L.map (lineD L (wishS s) (pastsS s)))) (.list ((wishS s).map fun w => .int (ixS L w : Nat))) (.list ((pastsS s).map fun p => .int (ixS L (koS p) : Nat))) := by
    unfold plF wtD
    rw [hL]
  have n1' : addD (.int ((wishS s).length : Int)) (.int 1) = some (.int ((wishS s).length + 1 : Int)) := by simp
  unfold wtD at w2 q3
  rw [hPl]
  have st : ∀ (f : Str) (gs : List (PyData × PyData)) (r : Rho) (d : PyData), gs.length < 100 → fldO f a "Plan" gs r (some d) = some (.nx (some (.ob a "Plan" (puF f d gs)) :: r)) := fun f gs r d h => if_pos h
  have ft : lc2O (b1 4) tYesD (fSeq (fCa 1 (standF 14) (fCons (fV 4) fNil))) (b1 5) tYesD (fV 5) [5] [some (.ob a "Plan" (pl5 (.list ((wishS s).map enc)) (.list ((pastsS s).map enc)) (.list ((marksS s).map .str)) (.list ((List.range ((wishS s).length + 1)).map fun (i : Nat) => .int ((2 ^ i : Nat) : Int))) (evD (2 ^ (wishS s).length)))), some (.d (enc s)), none, none, none, none, none] (some ((wishS s).map enc)) = some (.list (((wishS s).flatMap stand).map enc)) := lc2O_some (q2 _ rfl) (by simp only [List.length_map]; omega)
  have xw := wt [some (.ob a "Plan" [(.str "wishes", .list ((wishS s).map enc)), (.str "pasts", .list ((pastsS s).map enc)), (.str "marks", .list ((marksS s).map .str))]), some (.d (enc s)), none, none, none, none, none] rfl
  have lwl : ((wishS s).map enc).length ≤ 100000 := ww
  generalize hWT : (List.range ((wishS s).length + 1)).map (fun (i : Nat) => PyData.int ((2 ^ i : Nat) : Int)) = WT at *
  generalize hE1 : (((2 ^ (wishS s).length : Nat)) : Int) = E1 at *
  generalize hE2 : (((2 ^ 2 ^ (wishS s).length : Nat)) : Int) = E2 at *
  generalize hEV : evD (2 ^ (wishS s).length) = EV at *
  generalize hLI : L.map (lineD L (wishS s) (pastsS s)) = LI at *
  generalize hWL : (wishS s).map (fun w => PyData.int (ixS L w : Nat)) = WL at *
  generalize hKL : (pastsS s).map (fun p => PyData.int (ixS L (koS p) : Nat)) = KL at *
  have xw1 := wl1 [some (.ob a "Plan" [(.str "wishes", .list ((wishS s).map enc)), (.str "pasts", .list ((pastsS s).map enc)), (.str "marks", .list ((marksS s).map .str)), (.str "weights", .list WT), (.str "everywhere", EV), (.str "lines", .list LI)]), some (.d (enc s)), none, some (.d (.list (L.map enc))), none, none, none] rfl rfl
  have xk1 := kl1 [some (.ob a "Plan" [(.str "wishes", .list ((wishS s).map enc)), (.str "pasts", .list ((pastsS s).map enc)), (.str "marks", .list ((marksS s).map .str)), (.str "weights", .list WT), (.str "everywhere", EV), (.str "lines", .list LI), (.str "wish_lines", .list WL)]), some (.d (enc s)), none, some (.d (.list (L.map enc))), none, none, none] rfl rfl
  refine ⟨[some (.d (enc s)), none, some (.d (.list (L.map enc))), none, none, none], ?_⟩
  have s1 : startI 7 a "Plan" [enc s] = [some (.ob a "Plan" []), some (.d (enc s)), none, none, none, none, none] := rfl
  rw [s1]
  simp only [gPlan, gSeq_ap, gFld_ob]
  simp [ofF, e1, e2, e3, st, puF, lkF]
  rw [rg']
  simp only [lcO_some rl, xw, Option.map_some, st _ _ _ _ (show ([(PyData.str "wishes", PyData.list ((wishS s).map enc)), (.str "pasts", .list ((pastsS s).map enc)), (.str "marks", .list ((marksS s).map .str))] : List (PyData × PyData)).length < 100 by simp)]
  simp [puF, lkF, w2, sh2, sb, st]
  rw [ft]
  simp [ofF, on', lcO_some lw]
  rw [q3]
  simp [st, puF, lkF, lcO_some lwl]
  rw [xw1]
  simp [st, puF, lkF, lcO_some pw]
  rw [xk1]
  simp [st, puF, lkF]
end My

namespace My
open PySem L2 Dn TL
/-- whether it holds at a mark, by what was kept and what holds next (the bits of p) -/
def val (ws ps : List Sm) (m : Str) (kept : List Bool) : Sm → Nat → Bool
  | .mark x, _ => sEq m x
  | .yes, _ => true
  | .not a, p => !(val ws ps m kept a p)
  | .and a b, p => val ws ps m kept a p && val ws ps m kept b p
  | .or a b, p => val ws ps m kept a p || val ws ps m kept b p
  | .nxt a, p => p.testBit (ixS ws a)
  | .unt a b, p => val ws ps m kept b p || (val ws ps m kept a p && p.testBit (ixS ws (.unt a b)))
  | .wth k a, p => val ws ps m kept a p || awB ws (.wth k a) p
  | .bef a, _ => kept.getD (ixS ps (.bef a)) false
  | .sin a b, p => val ws ps m kept b p || (val ws ps m kept a p && kept.getD (ixS ps (.sin a b)) false)
def dT (r : List Bool) : PyData := .tuple (r.map .bool)
def nb (W : Nat) (f : Nat → Bool) : PyData := .int ((numB W f : Nat) : Int)
theorem nb_flat (W : Nat) (f : Nat → Bool) : flatO (some (nb W f)) = some (nb W f) := rfl
theorem nb_and (W : Nat) (f g : Nat → Bool) : ri Builtin.bitAnd (nb W f) (nb W g) = some (nb W fun p => f p && g p) := by unfold ri nb; simp only; rw [bAnd, numB_and]
theorem nb_or (W : Nat) (f g : Nat → Bool) : ri Builtin.bitOr (nb W f) (nb W g) = some (nb W fun p => f p || g p) := by unfold ri nb; simp only; rw [bOr, numB_or]
theorem nb_not (W : Nat) (f : Nat → Bool) : ri Builtin.bitXor (nb W fun _ => true) (nb W f) = some (nb W fun p => !f p) := by unfold ri nb; simp only; rw [bXor, numB_not]
theorem nb_0 (W : Nat) : PyData.int 0 = nb W fun _ => false := by unfold nb; rw [numB_none]; rfl
theorem ixT {r : List Bool} {i : Nat} (h : i < r.length) : ixD (dT r) (.int (i : Nat)) = some (.bool (r.getD i false)) := by
  show atI (r.map PyData.bool) (i : Int) = _
  exact atI_nat (by rw [List.getElem?_map, List.getD_eq_getElem?_getD, List.getElem?_eq_getElem h]; rfl)
theorem ixS_pre {D R : List Sm} {a : Sm} (h : a ∈ D) : D[ixS (D ++ R) a]? = some a := by
  have h1 : a ∈ D ++ R := List.mem_append_left _ h
  have g := ixS_get h1
  obtain ⟨j, hj, e⟩ := List.getElem_of_mem h
  have le := ixS_le (L := D ++ R) (x := a) (j := j) (by rw [List.getElem?_append_left hj, List.getElem?_eq_getElem hj, e])
  rw [List.getElem?_append_left (by omega)] at g
  exact g
abbrev bhBody : Rho → Option Out := (gSeq (gIf (fB (f2 eqP (fV 5) (fC (.str "mark")))) (gSet 9 (fIf (fB (f2 eqP (fV 2) (fV 8))) (fV 3) (fC (.int 0)))) (gIf (fB (f2 eqP (fV 5) (fC (.str "yes")))) (gSet 9 (fV 3)) (gIf (fB (f2 eqP (fV 5) (fC (.str "not")))) (gSet 9 (f2 (ri Builtin.bitXor) (fV 3) (fIxO 4 (fV 6)))) (gIf (fB (f2 eqP (fV 5) (fC (.str "and")))) (gSet 9 (f2 (ri Builtin.bitAnd) (fIxO 4 (fV 6)) (fIxO 4 (fV 7)))) (gIf (fB (f2 eqP (fV 5) (fC (.str "or")))) (gSet 9 (f2 (ri Builtin.bitOr) (fIxO 4 (fV 6)) (fIxO 4 (fV 7)))) (gIf (fB (f2 eqP (fV 5) (fC (.str "next")))) (gSet 9 (fV 8)) (gIf (fB (f2 eqP (fV 5) (fC (.str "until")))) (gSet 9 (f2 (ri Builtin.bitOr) (fIxO 4 (fV 7)) (f2 (ri Builtin.bitAnd) (fIxO 4 (fV 6)) (fV 8)))) (gIf (fB (f2 eqP (fV 5) (fC (.str "within")))) (gSet 9 (f2 (ri Builtin.bitOr) (fIxO 4 (fV 7)) (fV 8))) (gIf (fB (f2 eqP (fV 5) (fC (.str "before")))) (gSet 9 (fIf (fB (f2 ixD (fV 1) (fV 8))) (fV 3) (fC (.int 0)))) (gSet 9 (f2 (ri Builtin.bitOr) (fIxO 4 (fV 7)) (fIf (fB (f2 ixD (fV 1) (fV 8))) (fIxO 4 (fV 6)) (fC (.int 0)))))))))))))) (gApp 4 (fV 9)))
section
variable (ws ps : List Sm) (m : Str) (kept : List Bool)
abbrev bd (u : Sm) : PyData := nb (2 ^ ws.length) (val ws ps m kept u)
theorem nb_aw (u : Sm) : PyData.int ((numB (2 ^ ws.length) (awB ws u) : Nat) : Int) = nb (2 ^ ws.length) (awB ws u) := rfl
/-- one line -/
theorem bh_step {D R : List Sm} {u : Sm} (x0 : Option Sv) (hk : kept.length = ps.length) (hp : ∀ a ∈ u.parts, a ∈ D) (hpu : u.past = true → u ∈ ps) (hl : D.length ≤ 90000) (x5 x6 x7 x8 x9 : Option Sv) :
    forB (b4 5 6 7 8) bhBody [] (b4 5 6 7 8 (lineD (D ++ u :: R) ws ps u) [x0, some (.d (dT kept)), some (.d (.str m)), some (.d (nb (2 ^ ws.length) fun _ => true)), some (.own none (D.map (bd ws ps m kept))), x5, x6, x7, x8, x9]) =
      some (.nx [x0, some (.d (dT kept)), some (.d (.str m)), some (.d (nb (2 ^ ws.length) fun _ => true)), some (.own none ((D ++ [u]).map (bd ws ps m kept))), some (.d (.str u.word)), some (.d (.int (fstI (D ++ u :: R) u : Nat))), some (.d (.int (lstI (D ++ u :: R) u : Nat))), some (.d (besD ws ps u)), some (.d (bd ws ps m kept u))]) := by
  have ap : ∀ (ρ : Rho) (y : PyData), appO 4 ρ (some (some (.own none (D.map (bd ws ps m kept))))) (some y) = some (.nx (ρ.set 4 (some (.own none (D.map (bd ws ps m kept) ++ [y]))))) := fun ρ y => appO_some (by simp; omega)
  have pt : ∀ a ∈ u.parts, ixD (.list (D.map (bd ws ps m kept))) (.int (ixS (D ++ u :: R) a : Nat)) = some (bd ws ps m kept a) := fun a ha => ix_get (by rw [List.getElem?_map, ixS_pre (hp a ha)]; rfl)
  have F := nb_flat (2 ^ ws.length)
  have A := nb_and (2 ^ ws.length)
  have O := nb_or (2 ^ ws.length)
  have N := nb_not (2 ^ ws.length)
  have z := nb_0 (2 ^ ws.length)
  have kx : u.past = true → ixD (dT kept) (.int (ixS ps u : Nat)) = some (.bool (kept.getD (ixS ps u) false)) := fun h => ixT (by rw [hk]; exact ixS_lt (hpu h))
  cases u with
  | mark x =>
    have hb : bd ws ps m kept (.mark x) = nb (2 ^ ws.length) (fun _ => sEq m x) := congrArg (nb _) (by funext p; simp [val, awB, awS])
    simp only [lineD, besD, fstI, lstI, Sm.parts, Sm.word, b4_ap, forB_some]
    cases e : sEq m x <;> simp [ap, e, z, hb]
  | yes =>
    have hb : bd ws ps m kept .yes = nb (2 ^ ws.length) (fun _ => true) := congrArg (nb _) (by funext p; simp [val, awB, awS])
    simp only [lineD, besD, fstI, lstI, Sm.parts, Sm.word, b4_ap, forB_some]
    simp [ap, hb]
  | not a =>
    have hb : bd ws ps m kept (.not a) = nb (2 ^ ws.length) (fun p => !(val ws ps m kept a p)) := congrArg (nb _) (by funext p; simp [val, awB, awS])
    have p1 := pt a (by simp)
    simp only [lineD, besD, fstI, lstI, Sm.parts, Sm.word, b4_ap, forB_some]
    simp [ap, p1, F, N, hb]
  | and a b =>
    have hb : bd ws ps m kept (.and a b) = nb (2 ^ ws.length) (fun p => val ws ps m kept a p && val ws ps m kept b p) := congrArg (nb _) (by funext p; simp [val, awB, awS])
    have p1 := pt a (by simp)
    have p2 := pt b (by simp)
    simp only [lineD, besD, fstI, lstI, Sm.parts, Sm.word, b4_ap, forB_some]
    simp [ap, p1, p2, F, A, hb]
  | or a b =>
    have hb : bd ws ps m kept (.or a b) = nb (2 ^ ws.length) (fun p => val ws ps m kept a p || val ws ps m kept b p) := congrArg (nb _) (by funext p; simp [val, awB, awS])
    have p1 := pt a (by simp)
    have p2 := pt b (by simp)
    simp only [lineD, besD, fstI, lstI, Sm.parts, Sm.word, b4_ap, forB_some]
    simp [ap, p1, p2, F, O, hb]
  | nxt a =>
    have hb : bd ws ps m kept (.nxt a) = nb (2 ^ ws.length) (awB ws (.nxt a)) := congrArg (nb _) (by funext p; simp [val, awB, awS])
    simp only [lineD, besD, fstI, lstI, Sm.parts, Sm.word, b4_ap, forB_some, nb_aw]
    simp [ap, hb]
  | unt a b =>
    have hb : bd ws ps m kept (.unt a b) = nb (2 ^ ws.length) (fun p => val ws ps m kept b p || (val ws ps m kept a p && awB ws (.unt a b) p)) := congrArg (nb _) (by funext p; simp [val, awB, awS])
    have p1 := pt a (by simp)
    have p2 := pt b (by simp)
    simp only [lineD, besD, fstI, lstI, Sm.parts, Sm.word, b4_ap, forB_some, nb_aw]
    simp [ap, p1, p2, F, O, A, hb]
  | wth k a =>
    have hb : bd ws ps m kept (.wth k a) = nb (2 ^ ws.length) (fun p => val ws ps m kept a p || awB ws (.wth k a) p) := congrArg (nb _) (by funext p; simp [val, awB, awS])
    have p1 := pt a (by simp)
    simp only [lineD, besD, fstI, lstI, Sm.parts, Sm.word, b4_ap, forB_some, nb_aw]
    simp [ap, p1, F, O, hb]
  | bef a =>
    have hb : bd ws ps m kept (.bef a) = nb (2 ^ ws.length) (fun _ => kept.getD (ixS ps (.bef a)) false) := congrArg (nb _) (by funext p; simp [val, awB, awS])
    have k1 := kx rfl
    simp only [lineD, besD, fstI, lstI, Sm.parts, Sm.word, b4_ap, forB_some]
    generalize kept.getD (ixS ps (.bef a)) false = c at *
    cases c <;> simp [ap, k1, z, hb]
  | sin a b =>
    have hb : bd ws ps m kept (.sin a b) = nb (2 ^ ws.length) (fun p => val ws ps m kept b p || (val ws ps m kept a p && kept.getD (ixS ps (.sin a b)) false)) := congrArg (nb _) (by funext p; simp [val, awB, awS])
    have p1 := pt a (by simp)
    have p2 := pt b (by simp)
    have k1 := kx rfl
    simp only [lineD, besD, fstI, lstI, Sm.parts, Sm.word, b4_ap, forB_some]
    generalize kept.getD (ixS ps (.sin a b)) false = c at *
    cases c <;> simp [ap, k1, p1, p2, F, O, z, hb]
end
end My

namespace My
open PySem L2 Dn TL
theorem forN_go {bdy : PyData → Rho → Option Rho} {G : Rho → Option Out} {xs : List PyData} {o : Option Out} {ρ : Rho} (h : o = some (.nx ρ)) : forN bdy G xs o = forGo bdy G xs ρ := by rw [h]; rfl
section
variable (ws ps : List Sm) (m : Str) (kept : List Bool)
/-- one line, within the walk -/
theorem bh_on {D R : List Sm} {u : Sm} (x0 : Option Sv) (hk : kept.length = ps.length) (hp : ∀ a ∈ u.parts, a ∈ D) (hpu : u.past = true → u ∈ ps) (hl : D.length ≤ 90000) (x5 x6 x7 x8 x9 : Option Sv) (xs : List PyData) :
    forGo (b4 5 6 7 8) bhBody (lineD (D ++ u :: R) ws ps u :: xs) [x0, some (.d (dT kept)), some (.d (.str m)), some (.d (nb (2 ^ ws.length) fun _ => true)), some (.own none (D.map (bd ws ps m kept))), x5, x6, x7, x8, x9] =
    forGo (b4 5 6 7 8) bhBody xs [x0, some (.d (dT kept)), some (.d (.str m)), some (.d (nb (2 ^ ws.length) fun _ => true)), some (.own none ((D ++ [u]).map (bd ws ps m kept))), some (.d (.str u.word)), some (.d (.int (fstI (D ++ u :: R) u : Nat))), some (.d (.int (lstI (D ++ u :: R) u : Nat))), some (.d (besD ws ps u)), some (.d (bd ws ps m kept u))] := by
  have q := bh_step ws ps m kept (R := R) x0 hk hp hpu hl x5 x6 x7 x8 x9
  rw [forGo_c]
  have e : ∃ ρ1, b4 5 6 7 8 (lineD (D ++ u :: R) ws ps u) [x0, some (.d (dT kept)), some (.d (.str m)), some (.d (nb (2 ^ ws.length) fun _ => true)), some (.own none (D.map (bd ws ps m kept))), x5, x6, x7, x8, x9] = some ρ1 := ⟨_, rfl⟩
  obtain ⟨ρ1, e⟩ := e
  rw [e] at q ⊢
  simp only [forB_some] at q ⊢
  have h2 : bhBody ρ1 = some (.nx [x0, some (.d (dT kept)), some (.d (.str m)), some (.d (nb (2 ^ ws.length) fun _ => true)), some (.own none ((D ++ [u]).map (bd ws ps m kept))), some (.d (.str u.word)), some (.d (.int (fstI (D ++ u :: R) u : Nat))), some (.d (.int (lstI (D ++ u :: R) u : Nat))), some (.d (besD ws ps u)), some (.d (bd ws ps m kept u))]) := by
    have ns : ∀ ρ2, bhBody ρ1 = some (.bk ρ2) → False := by
      intro ρ2 h
      have nb1 : ∀ (i : Nat) (f : Rho → Option PyData) (ρ : Rho), gSet i f ρ ≠ some (.bk ρ2) := fun i f ρ z => by
        rw [gSet_ap] at z; cases e : f ρ <;> rw [e] at z <;> cases z
      have nb2 : ∀ (c : Rho → Option Bool) (g g' : Rho → Option Out) (ρ : Rho), (∀ ρ, g ρ ≠ some (.bk ρ2)) → (∀ ρ, g' ρ ≠ some (.bk ρ2)) → gIf c g g' ρ ≠ some (.bk ρ2) := fun c g g' ρ h1 h2 z => by
        rw [gIf_ap] at z
        cases e : c ρ with
        | none => rw [e] at z; cases z
        | some b => rw [e] at z; cases b <;> first | exact h1 ρ z | exact h2 ρ z
      have nb3 : ∀ (i : Nat) (f : Rho → Option PyData) (ρ : Rho), gApp i f ρ ≠ some (.bk ρ2) := fun i f ρ z => by
        unfold gApp at z
        split at z
        · obtain ⟨y, _, z⟩ := bind_some z
          obtain ⟨_, z⟩ := ite_some z
          cases z
        · cases z
      have nb4 : ∀ (g g' : Rho → Option Out) (ρ : Rho), (∀ ρ, g ρ ≠ some (.bk ρ2)) → (∀ ρ, g' ρ ≠ some (.bk ρ2)) → gSeq g g' ρ ≠ some (.bk ρ2) := fun g g' ρ h1 h2 z => by
        unfold gSeq at z
        obtain ⟨o, ho, z⟩ := bind_some z
        cases o with
        | nx ρ' => exact h2 ρ' z
        | bk ρ' => cases z; exact h1 ρ ho
        | _ => cases z
      exact nb4 _ _ ρ1 (fun ρ => nb2 _ _ _ ρ (fun ρ => nb1 _ _ ρ) fun ρ => nb2 _ _ _ ρ (fun ρ => nb1 _ _ ρ) fun ρ => nb2 _ _ _ ρ (fun ρ => nb1 _ _ ρ) fun ρ => nb2 _ _ _ ρ (fun ρ => nb1 _ _ ρ) fun ρ => nb2 _ _ _ ρ (fun ρ => nb1 _ _ ρ) fun ρ => nb2 _ _ _ ρ (fun ρ => nb1 _ _ ρ) fun ρ => nb2 _ _ _ ρ (fun ρ => nb1 _ _ ρ) fun ρ => nb2 _ _ _ ρ (fun ρ => nb1 _ _ ρ) fun ρ => nb2 _ _ _ ρ (fun ρ => nb1 _ _ ρ) fun ρ => nb1 _ _ ρ) (fun ρ => nb3 _ _ ρ) h
    cases h : bhBody ρ1 with
    | none => rw [h] at q; cases q
    | some o =>
      rw [h] at q
      cases o with
      | nx ρ2 => simp only [forN_nx, forGo_0] at q; exact q
      | ct ρ2 =>
        simp only [forN_ct, forGo_0] at q
        have hc : ∀ ρ2, bhBody ρ1 ≠ some (.ct ρ2) := by
          intro ρ2 h
          have nb1 : ∀ (i : Nat) (f : Rho → Option PyData) (ρ : Rho), gSet i f ρ ≠ some (.ct ρ2) := fun i f ρ z => by
            rw [gSet_ap] at z; cases e : f ρ <;> rw [e] at z <;> cases z
          have nb2 : ∀ (c : Rho → Option Bool) (g g' : Rho → Option Out) (ρ : Rho), (∀ ρ, g ρ ≠ some (.ct ρ2)) → (∀ ρ, g' ρ ≠ some (.ct ρ2)) → gIf c g g' ρ ≠ some (.ct ρ2) := fun c g g' ρ h1 h2 z => by
            rw [gIf_ap] at z
            cases e : c ρ with
            | none => rw [e] at z; cases z
            | some b => rw [e] at z; cases b <;> first | exact h1 ρ z | exact h2 ρ z
          have nb3 : ∀ (i : Nat) (f : Rho → Option PyData) (ρ : Rho), gApp i f ρ ≠ some (.ct ρ2) := fun i f ρ z => by
            unfold gApp at z
            split at z
            · obtain ⟨y, _, z⟩ := bind_some z
              obtain ⟨_, z⟩ := ite_some z
              cases z
            · cases z
          have nb4 : ∀ (g g' : Rho → Option Out) (ρ : Rho), (∀ ρ, g ρ ≠ some (.ct ρ2)) → (∀ ρ, g' ρ ≠ some (.ct ρ2)) → gSeq g g' ρ ≠ some (.ct ρ2) := fun g g' ρ h1 h2 z => by
            unfold gSeq at z
            obtain ⟨o, ho, z⟩ := bind_some z
            cases o with
            | nx ρ' => exact h2 ρ' z
            | ct ρ' => cases z; exact h1 ρ ho
            | _ => cases z
          exact nb4 _ _ ρ1 (fun ρ => nb2 _ _ _ ρ (fun ρ => nb1 _ _ ρ) fun ρ => nb2 _ _ _ ρ (fun ρ => nb1 _ _ ρ) fun ρ => nb2 _ _ _ ρ (fun ρ => nb1 _ _ ρ) fun ρ => nb2 _ _ _ ρ (fun ρ => nb1 _ _ ρ) fun ρ => nb2 _ _ _ ρ (fun ρ => nb1 _ _ ρ) fun ρ => nb2 _ _ _ ρ (fun ρ => nb1 _ _ ρ) fun ρ => nb2 _ _ _ ρ (fun ρ => nb1 _ _ ρ) fun ρ => nb2 _ _ _ ρ (fun ρ => nb1 _ _ ρ) fun ρ => nb2 _ _ _ ρ (fun ρ => nb1 _ _ ρ) fun ρ => nb1 _ _ ρ) (fun ρ => nb3 _ _ ρ) h
        exact absurd h (hc ρ2)
      | bk ρ2 => exact absurd h (fun z => ns ρ2 z)
      | rt d ρ2 => cases q
      | rf d => cases q
  rw [h2]
  rfl
end
end My

namespace My
open PySem L2 Dn TL
def stD (kept T : List Bool) : PyData := .tuple [dT kept, dT T]
section
variable {s : Sm} (g : PG s)
include g
theorem PG.pl : (pastsS s).length ≤ 128 := by
  have h1 := onceGo_len ((stand s).filter Sm.past) []
  have h2 := List.length_filter_le Sm.past (stand s)
  have a := allS_len s
  have c : 2 ^ s.depth ≤ 2 ^ 6 := Nat.pow_le_pow_right (by decide) g.d
  have : (2 : Nat) ^ 6 = 64 := rfl
  rw [stand_len] at h2
  simp only [List.length_nil] at h1
  show (onceGo [] _).length ≤ _
  omega
omit g in
theorem dummyQ13 : True := trivial
def begF : List PyData → Option PyData := fnD 3 gbegun
theorem begF_eq : begF [planD s] = some (stD (List.replicate (pastsS s).length false) ((List.range (2 ^ (wishS s).length)).map fun p => p.testBit 0)) := by
  have wl := g.wl
  have pl := g.pl
  have f1' : fldD "Plan" "weights" (planD s) = some (wtD (wishS s).length) := l8we ..
  have f2' : fldD "Plan" "pasts" (planD s) = some (.list ((pastsS s).map enc)) := l8p ..
  have w2 := wt_last (wishS s).length
  have rg := range_pow (n := (wishS s).length) (by omega)
  have P := pow_1024 (n := (wishS s).length) (by omega)
  have q := lc_map (bd := b1 2) (t := tYesD) (f := (f2 (rb fun i j => decide (j < i)) (f2 (ri Builtin.bitAnd) (fV 2) (fC (.int 1))) (fC (.int 0)))) (ρ := [some (.d (planD s)), none, none]) (fun (i : Nat) => PyData.int (i : Int)) (fun p => .bool (p.testBit 0)) (List.range (2 ^ (wishS s).length)) (by
    intro p hp
    refine ⟨_, rfl, rfl, ?_⟩
    have e := @and_pow p 0
    simp only [f2_ap, fV_ap, fC_ap, List.set_cons_succ, List.set_cons_zero, List.getElem?_cons_succ, List.getElem?_cons_zero, slot_d, ap2_some]
    show ap2 (rb fun i j => decide (j < i)) (some (.int (Builtin.bitAnd (p : Int) 1))) (some (.int 0)) = _
    rw [ap2_some]
    show some (PyData.bool (decide ((0 : Int) < Builtin.bitAnd (p : Int) 1))) = _
    congr 2
    have e' : (0 : Int) < Builtin.bitAnd (p : Int) 1 ↔ p.testBit 0 = true := e
    cases c : p.testBit 0 with
    | true => rw [c] at e'; exact decide_eq_true (e'.mpr rfl)
    | false => rw [c] at e'; exact decide_eq_false fun z => by simpa using e'.mp z)
  have ln : ((List.range (2 ^ (wishS s).length)).map fun (i : Nat) => PyData.int (i : Int)).length ≤ 100000 := by simp; omega
  have tm : timesD (.tuple [.bool false]) (.int (((pastsS s).map enc).length : Nat)) = some (dT (List.replicate (pastsS s).length false)) := by
    unfold timesD
    simp only
    rw [if_pos ⟨⟨rfl, by simp⟩, by omega, by simp; omega⟩]
    simp [dT]
  have e1 : (List.range (2 ^ (wishS s).length)).map (fun p => PyData.bool (p.testBit 0)) = ((List.range (2 ^ (wishS s).length)).map fun p => p.testBit 0).map .bool := by rw [List.map_map]; rfl
  rw [e1] at q
  unfold begF
  rw [fnD_ap]
  have e0 : startR 3 [planD s] = [some (.d (planD s)), none, none] := rfl
  rw [e0]
  simp only [gbegun, gSeq_ap, gSet_ap, fCl_ap, fCons_ap, fLc_ap, fR1_ap, f2_ap, f1_ap, fV_ap, fC_ap, List.getElem?_cons_zero, slot_d, ap1_some, f1', neg1, ap2_some, w2, seqO1_some, rg, lcO_some ln, wipeR_c, wipeR_0, List.set_cons_succ, List.set_cons_zero]
  rw [q]
  clear q e1
  generalize (List.range (2 ^ (wishS s).length)).map (fun p => p.testBit 0) = T
  simp only [Option.map_some, fNil_ap, consO_some, clO_some, one1_ap, show ∀ xs, tupleD (.list xs) = some (.tuple xs) from fun _ => rfl, setO_some, seqO_nx, gRet_ap, fTup_ap, fCons_ap, f2_ap, fC_ap, tupO_1, fCl_ap, f1_ap, fV_ap, List.set_cons_succ, List.set_cons_zero, List.getElem?_cons_zero, List.getElem?_cons_succ, slot_d, ap1_some, f2', lenD_l, ap2_some]
  have tm' := tm
  simp only [List.length_map] at tm'
  simp [tm']
  rfl
end
end My

namespace My
open PySem L2 Dn TL
def deepOf (ns : List Int) : Nat := if cellAt ns 1 % 8 = 5 then 6 else 5
def builtS (ns : List Int) (n : Nm) (m : Nat) : Sm := fitS m (madeS ns n (deepOf ns) true 2).1
def builtF : List PyData → Option PyData := fnD 5 (gL_built cellF fitF (madeF 8))
theorem built_fine (ns : List Int) {n : Nm} (h : n.Ok) (m : Nat) (hm : 1 ≤ m) : (builtS ns n m).Fine ∧ (builtS ns n m).depth ≤ 6 ∧ (wishL (builtS ns n m)).length ≤ m := by
  have q := made_fine ns h (deepOf ns) true 2
  have q2 := fitS_fine m hm _ q.1
  have hd : deepOf ns ≤ 6 := by unfold deepOf; split <;> omega
  exact ⟨q2.1, by have := q2.2.1; have := q.2; unfold builtS; omega, q2.2.2⟩
theorem built_eq (ns : List Int) {n : Nm} (h : n.Ok) (m : Nat) (hm : 1 ≤ m) : builtF [dI ns, n.enc, .int (m : Int)] = some (enc (builtS ns n m)) := by
  have q := made_fine ns h (deepOf ns) true 2
  have hd : deepOf ns ≤ 6 := by unfold deepOf; split <;> omega
  have f := fit_eq m hm (madeS ns n (deepOf ns) true 2).1 q.1 (by have := q.2; omega)
  have c := cell_eq ns 1
  have m8 : modD (.int (cellAt ns 1)) (.int 8) = some (.int (cellAt ns 1 % 8)) := modD_i (by decide)
  have mk := madeF_eq 8 ns n (deepOf ns) true 2 (by omega)
  unfold builtF
  by_cases h5 : cellAt ns 1 % 8 = 5
  · have e : deepOf ns = 6 := by unfold deepOf; rw [if_pos h5]
    rw [e] at mk f
    simp at mk c
    simp [fnD_ap, startR, gL_built, c, m8, h5, mk, f, builtS, e]
  · have e : deepOf ns = 5 := by unfold deepOf; rw [if_neg h5]
    rw [e] at mk f
    simp at mk c
    simp [fnD_ap, startR, gL_built, c, m8, h5, mk, f, builtS, e]
end My

namespace My
open PySem L2 Dn TL
def Sm.good (s : Sm) : Prop := s.flat ∧ s.NM
theorem fl1 {u : Sm} (h : moreS u = [] ∧ awS u = [] ∧ ∀ a, u ≠ .nxt a) {v : Sm} (e : v = u) : moreS v = [] ∧ awS v = [] ∧ ∀ a, v ≠ .nxt a := by rw [e]; exact h
theorem good_mark (x : Str) : (Sm.mark x).good := ⟨fun v hv => by
  have e := List.mem_singleton.mp (by simpa only [allS] using hv)
  exact fl1 ⟨rfl, rfl, fun a z => by cases z⟩ e, True.intro⟩
theorem good_yes : (Sm.yes).good := ⟨fun v hv => by
  have e := List.mem_singleton.mp (by simpa only [allS] using hv)
  exact fl1 ⟨rfl, rfl, fun a z => by cases z⟩ e, True.intro⟩
theorem good_not {s : Sm} (h : s.good) : (Sm.not s).good := ⟨fun v hv => by
  rcases List.mem_cons.mp (by simpa only [allS] using hv) with e | hv
  · exact fl1 ⟨rfl, rfl, fun a z => by cases z⟩ e
  · exact h.1 v hv, h.2⟩
theorem good_bef {s : Sm} (h : s.good) : (Sm.bef s).good := ⟨fun v hv => by
  rcases List.mem_cons.mp (by simpa only [allS] using hv) with e | hv
  · exact fl1 ⟨rfl, rfl, fun a z => by cases z⟩ e
  · exact h.1 v hv, h⟩
theorem good_and {s t : Sm} (h : s.good) (g : t.good) : (Sm.and s t).good := ⟨fun v hv => by
  rcases List.mem_cons.mp (by simpa only [allS] using hv) with e | hv
  · exact fl1 ⟨rfl, rfl, fun a z => by cases z⟩ e
  · exact (List.mem_append.mp hv).elim (h.1 v) (g.1 v), h.2, g.2⟩
theorem good_or {s t : Sm} (h : s.good) (g : t.good) : (Sm.or s t).good := ⟨fun v hv => by
  rcases List.mem_cons.mp (by simpa only [allS] using hv) with e | hv
  · exact fl1 ⟨rfl, rfl, fun a z => by cases z⟩ e
  · exact (List.mem_append.mp hv).elim (h.1 v) (g.1 v), h.2, g.2⟩
theorem good_sin {s t : Sm} (h : s.good) (g : t.good) : (Sm.sin s t).good := ⟨fun v hv => by
  rcases List.mem_cons.mp (by simpa only [allS] using hv) with e | hv
  · exact fl1 ⟨rfl, rfl, fun a z => by cases z⟩ e
  · exact (List.mem_append.mp hv).elim (h.1 v) (g.1 v), h.1, g.1, h.2, g.2⟩
theorem good_leaf (n : Nm) (c : Int) : (leafS n c).good := by unfold leafS; split; exact good_yes; exact good_mark _
theorem j12 (c : Int) : ((c % 14 - 2).toNat = 0 ∨ (c % 14 - 2).toNat = 1 ∨ (c % 14 - 2).toNat = 2 ∨ (c % 14 - 2).toNat = 3 ∨ (c % 14 - 2).toNat = 4 ∨ (c % 14 - 2).toNat = 5 ∨ (c % 14 - 2).toNat = 6 ∨ (c % 14 - 2).toNat = 7 ∨ (c % 14 - 2).toNat = 8 ∨ (c % 14 - 2).toNat = 9 ∨ (c % 14 - 2).toNat = 10 ∨ (c % 14 - 2).toNat = 11) := by omega
theorem join_good {j : Nat} {more : Int} {s t : Sm} (hs : s.good) (ht : t.good) : (joinS j false more s t).good := by
  unfold joinS
  split <;> first
    | exact good_not hs
    | exact good_bef hs
    | exact good_and hs ht
    | exact good_or hs ht
    | exact good_sin hs ht
    | (rename_i h; cases h)
    | (rename_i h _; cases h)
theorem made_good (ns : List Int) (n : Nm) : ∀ (d k : Nat), (madeS ns n d false k).1.good
  | 0, k => by rw [madeS]; exact good_leaf _ _
  | 1, k => by rw [madeS]; exact good_leaf _ _
  | d + 2, k => by
    rw [madeS]
    have st : ∀ j, staysA j false = false := fun _ => rfl
    split
    · exact good_leaf _ _
    · simp only [st]
      split
      · exact join_good (made_good ns n (d + 1) _) (made_good ns n (d + 1) _)
      · exact join_good (made_good ns n (d + 1) _) (made_good ns n (d + 1) _)
theorem join_nm {j : Nat} (hj : j = 0 ∨ j = 1 ∨ j = 2 ∨ j = 3 ∨ j = 4 ∨ j = 5 ∨ j = 6 ∨ j = 7 ∨ j = 8 ∨ j = 9 ∨ j = 10 ∨ j = 11) {more : Int} {s t : Sm} (hs : s.NM ∧ (staysA j true = false → s.good)) (ht : t.NM ∧ (staysA j true = false → t.good)) : (joinS j true more s t).NM := by
  rcases hj with rfl | rfl | rfl | rfl | rfl | rfl | rfl | rfl | rfl | rfl | rfl | rfl
  · exact hs.1
  · exact ⟨hs.1, ht.1⟩
  · exact ⟨hs.1, ht.1⟩
  · exact hs.1
  · exact ⟨hs.1, ht.1⟩
  · exact hs.1
  · exact ⟨hs.1, ht.1⟩
  · exact hs.1
  · exact (good_sin (hs.2 rfl) (ht.2 rfl)).2
  · exact (good_bef (hs.2 rfl)).2
  · exact ⟨hs.1, ht.1⟩
  · exact hs.1
theorem made_nm (ns : List Int) (n : Nm) : ∀ (d k : Nat), (madeS ns n d true k).1.NM
  | 0, k => by rw [madeS]; exact (good_leaf _ _).2
  | 1, k => by rw [madeS]; exact (good_leaf _ _).2
  | d + 2, k => by
    rw [madeS]
    have ih : ∀ (b : Bool) (k : Nat), (madeS ns n (d + 1) b k).1.NM ∧ (b = false → (madeS ns n (d + 1) b k).1.good) := fun b k => by
      cases b with
      | false => exact ⟨(made_good ns n (d + 1) k).2, fun _ => made_good ns n (d + 1) k⟩
      | true => exact ⟨made_nm ns n (d + 1) k, fun z => by cases z⟩
    split
    · exact (good_leaf _ _).2
    · simp only
      split
      · exact join_nm (j12 _) (ih _ _) (ih _ _)
      · exact join_nm (j12 _) (ih _ _) (ih _ _)
theorem fit_nm (m : Nat) : ∀ s : Sm, s.NM → (fitS m s).NM
  | .mark x, h => h
  | .yes, h => h
  | .not s, h | .nxt s, h | .wth _ s, h => by
    unfold fitS; split
    · exact h
    · exact fit_nm m s h
  | .bef s, h => by
    unfold fitS; split
    · exact h
    · exact fit_nm m s h.2
  | .and s t, h | .or s t, h | .unt s t, h => by
    unfold fitS; split
    · exact h
    · exact fit_nm m t h.2
  | .sin s t, h => by
    unfold fitS; split
    · exact h
    · exact fit_nm m t h.2.2.2
end My

namespace My
open PySem L2 Dn TL
theorem eqv_strs (r : List Str) : PyData.eqvAll (r.map .str) (r.map .str) = true := by
  induction r with
  | nil => exact eqvAll_0
  | cons x r ih => simp [eqvAll_c, eqv_str, ih]
theorem shaped_strs {r : List Str} (h : ∀ x ∈ r, PyData.strOk x = true) : SeqAt.shaped (dS r) = true := by
  have h1 : PyData.canLayAll0 (r.map .str) = true ∧ PyData.depthAll (r.map .str) = 0 := by
    induction r with
    | nil => simp [PyData.canLayAll0, PyData.depthAll]
    | cons x r ih =>
      obtain ⟨i1, i2⟩ := ih fun s hs => h s (by simp [hs])
      simp only [List.map_cons, PyData.canLayAll0, PyData.depthAll, PyData.canLay0, PyData.depth, h x (by simp), i1, i2]
      exact ⟨rfl, rfl⟩
  simp [SeqAt.shaped, dS, PyData.canLay0, PyData.depth, h1.1, h1.2]
theorem eq_strs {r : List Str} (h : ∀ x ∈ r, PyData.strOk x = true) : eqP (dS r) (dS r) = some (.bool true) := by
  have e : eqD (dS r) (dS r) = if (SeqAt.shaped (dS r) && SeqAt.shaped (dS r)) = true then some (PyData.eqv (dS r) (dS r)) else none := rfl
  have v : PyData.eqv (dS r) (dS r) = true := by
    unfold dS
    simp only [PyData.eqv]
    exact eqv_strs r
  unfold eqP
  rw [e, shaped_strs h, v]
  rfl
theorem strOk_of {z : Str} (h : ∀ c ∈ tl z, c < 1114112) : PyData.strOk z = true := by
  unfold PyData.strOk
  rw [Array.all_eq_true_iff_forall_mem]
  intro c hc
  exact decide_eq_true (h c (by simpa [tl] using hc))
end My

namespace My
open PySem L2 Dn TL
def isLow (m : List Nat) : Bool := m.all fun c => decide (97 ≤ c ∧ c ≤ 122)
def strOf (m : List Nat) : Str := ⟨m.toArray⟩
theorem tl_strOf (m : List Nat) : tl (strOf m) = m := by simp [strOf, tl]
theorem strOf_tl (z : Str) : strOf (tl z) = z := by cases z; simp [strOf, tl]
theorem tl_inj {a b : Str} (h : tl a = tl b) : a = b := by rw [← strOf_tl a, ← strOf_tl b, h]
/-! ### is_mark, _read_mark -/
theorem in_LET (c : Nat) : inP (.str (one c)) (.str LET) = some (.bool (decide (97 ≤ c ∧ c ≤ 122))) := by
  show some (PyData.bool (!(Builtin.Str.occurrences LET ⟨#[c]⟩ 0 LET.length 1).isEmpty)) = _
  rw [StrLaws.found_one LET c]
  have e : LET.cps.toList = (List.range 26).map (97 + ·) := tl_LET
  rw [e]
  congr 2
  refine decide_eq_decide.mpr ⟨fun h => ?_, fun h => ?_⟩
  · obtain ⟨i, hi, rfl⟩ := List.mem_map.mp h
    have := List.mem_range.mp hi
    omega
  · exact List.mem_map.mpr ⟨c - 97, List.mem_range.mpr (by omega), by omega⟩
theorem gAny_low (ρ : Rho) : ∀ w : List Nat, gAny false (b1 0) tYesD (f2 inP (fV 0) (fC (.str LET))) (none :: ρ) (w.map fun c => .str (one c)) = some (isLow w)
  | [] => rfl
  | c :: w => by
    have i := in_LET c
    have ih := gAny_low ρ w
    rw [List.map_cons, gAny]
    simp only [b1_ap, Option.bind_some, tYesD_ap, if_true, List.set_cons_zero, fB_ap, f2_ap, fV_ap, fC_ap, List.getElem?_cons_zero, slot_d, ap2_some, i, unB_some]
    unfold isLow at ih ⊢
    rw [List.all_cons]
    by_cases h : 97 ≤ c ∧ c ≤ 122
    · rw [decide_eq_true h, if_neg (by decide), ih]; rfl
    · rw [decide_eq_false h, if_pos rfl]; rfl
def isMarkF : List PyData → Option PyData := fnD 1 gis_mark
theorem isMark_eq (m : Str) (hm : m.length ≤ 90000) : isMarkF [.str m] = some (.bool (decide ((tl m).length ≤ 6) && isLow (tl m))) := by
  have t : tyEqD "str" (.str m) = some (.bool true) := rfl
  have ln : lenD (.str m) = some (.int (m.length : Nat)) := if_pos (by show m.length ≤ 100000; omega)
  have le : (rb fun i j => decide (i ≤ j)) (.int (m.length : Nat)) (.int 6) = some (.bool (decide ((tl m).length ≤ 6))) := by
    show some (PyData.bool (decide (((m.length : Nat) : Int) ≤ 6))) = _
    rw [len_tl]
    congr 2
    exact decide_eq_decide.mpr ⟨fun h => by omega, fun h => by omega⟩
  have sg : signsD m = (tl m).map fun c => .str (one c) := rfl
  have al : fAnyG false (fSeq (fV 0)) (b1 0) tYesD (f2 inP (fV 0) (fC (.str LET))) [none] [some (.d (.str m))] = some (.bool (isLow (tl m))) := by
    unfold fAnyG
    simp only [fSeq_ap, fV_ap, List.getElem?_cons_zero, slot_d, seqO1_some, seqD_s, Option.bind_some, sg]
    have : pickR [some (.d (.str m))] [none] = [none] := rfl
    rw [this, gAny_low []]
    rfl
  unfold isMarkF
  rw [fnD_ap]
  have e : startR 1 [.str m] = [some (.d (.str m))] := rfl
  rw [e, gis_mark, gRet_ap, fAnd_ap]
  simp only [f1_ap, fV_ap, List.getElem?_cons_zero, slot_d, ap1_some, t, unB_some, andV_t, fAnd_ap, f2_ap, fCl_ap, fCons_ap, fNil_ap, consO_some, clO_some, one1_ap, ln, fC_ap, ap2_some, le]
  rw [show (PyData.str (Str.ofString "abcdefghijklmnopqrstuvwxyz")) = .str LET from rfl, al, andV_ss]
  rfl
/-! ### is_statement, of anything -/
mutual
def gdB : PyData → Bool
  | .str z => decide (z.length ≤ 90000)
  | .list xs => gdBs xs
  | .tuple xs => gdBs xs
  | .dict xs => xs.isEmpty
  | _ => true
def gdBs : List PyData → Bool
  | [] => true
  | x :: r => gdB x && gdBs r
end
theorem gdBs_all : ∀ {xs : List PyData}, gdBs xs = true → ∀ x ∈ xs, gdB x = true
  | [], _, x, h => by cases h
  | y :: r, e, x, h => by
    rw [gdBs, Bool.and_eq_true] at e
    rcases List.mem_cons.mp h with rfl | h
    · exact e.1
    · exact gdBs_all e.2 x h
theorem gdBs_of : ∀ {xs : List PyData}, (∀ x ∈ xs, gdB x = true) → gdBs xs = true
  | [], _ => by rw [gdBs]
  | y :: r, h => by rw [gdBs, h y (by simp), gdBs_of fun x hx => h x (by simp [hx])]; rfl
theorem gd_tup {xs : List PyData} : gdB (.tuple xs) = gdBs xs := by rw [gdB]
theorem gd_str {z : Str} : gdB (.str z) = decide (z.length ≤ 90000) := by rw [gdB]
theorem gd_bare {d : PyData} (h : gdB d = true) : bareD d = true := by
  cases d with
  | dict xs => cases xs with
    | nil => rfl
    | cons a b => simp [gdB] at h
  | _ => rfl
def ARS : List (Str × Int) := [("yes", 0), ("not", 1), ("and", 2), ("or", 2), ("next", 1), ("until", 2), ("before", 1), ("since", 2)]
abbrev PARTSkv : List (Str × PyData) := [("yes", (.int 0)), ("not", (.int 1)), ("and", (.int 2)), ("or", (.int 2)), ("next", (.int 1)), ("until", (.int 2)), ("before", (.int 1)), ("since", (.int 2))]
def arity (w : Str) : Option Int := ARS.lookup w
theorem parts_lk (w : Str) : PARTSkv.lookup w = (arity w).map .int := lookup_map w ARS
def isMk : List PyData → Bool
  | [.str m] => (decide ((tl m).length ≤ 6) && isLow (tl m)) && !sEq m ""
  | _ => false
def isWt (f : PyData → Bool) : List PyData → Bool
  | [.int k, s] => (decide (0 ≤ k) && decide (k ≤ 4)) && f s
  | _ => false
theorem isMk_long (y z : PyData) (r : List PyData) : isMk (y :: z :: r) = false := by cases y <;> rfl
theorem isWt_1 (f : PyData → Bool) (y : PyData) : isWt f [y] = false := by cases y <;> rfl
theorem isWt_3 (f : PyData → Bool) (a b c : PyData) (r : List PyData) : isWt f (a :: b :: c :: r) = false := by cases a <;> rfl
def isOth (f : PyData → Bool) (w : Str) (ps : List PyData) : Bool := match arity w with
  | some a => decide ((ps.length : Int) = a) && ps.all f
  | none => false
def isBody (f : PyData → Bool) : PyData → Bool
  | .tuple (.str w :: ps) => if sEq w "mark" then isMk ps else if sEq w "within" then isWt f ps else isOth f w ps
  | _ => false
def isSt : Nat → PyData → Bool
  | 0, _ => false
  | n + 1, d => isBody (isSt n) d
def laterF : List PyData → Option PyData := fnD 1 gis_later
def nestF : Nat → List PyData → Option PyData
  | 0 => fun _ => none
  | n + 1 => fnD 3 (gis_nested isMarkF laterF (nestF n))
theorem tyEq_bare {T : String} {d : PyData} (h : bareD d = true) : tyEqD T d = some (.bool (decide (tyN d = T))) := if_pos h
theorem tyNe_bare {T : String} {d : PyData} (h : bareD d = true) : tyNeD T d = some (.bool (!decide (tyN d = T))) := if_pos h
theorem mark_no {d : PyData} (h : bareD d = true) (hn : tyN d ≠ "str") : isMarkF [d] = some (.bool false) := by
  have t := tyEq_bare (T := "str") h
  rw [decide_eq_false hn] at t
  unfold isMarkF
  rw [fnD_ap]
  have e : startR 1 [d] = [some (.d d)] := rfl
  rw [e, gis_mark, gRet_ap, fAnd_ap]
  simp only [f1_ap, fV_ap, List.getElem?_cons_zero, slot_d, ap1_some, t, unB_some, andV_f, retO_some, retD_rt]
theorem later_eq {d : PyData} (h : bareD d = true) : laterF [d] = some (.bool (match d with | .int k => decide (0 ≤ k) && decide (k ≤ 4) | _ => false)) := by
  have t := tyEq_bare (T := "int") h
  unfold laterF
  rw [fnD_ap]
  have e : startR 1 [d] = [some (.d d)] := rfl
  rw [e, gis_later, gRet_ap, fAnd_ap]
  cases d with
  | int k =>
    have t' : tyEqD "int" (.int k) = some (.bool true) := t
    have c1 : (rb fun i j => decide (i ≤ j)) (.int 0) (.int k) = some (.bool (decide (0 ≤ k))) := rfl
    have c2 : (rb fun i j => decide (i ≤ j)) (.int k) (.int 4) = some (.bool (decide (k ≤ 4))) := rfl
    simp only [f1_ap, fV_ap, fC_ap, List.getElem?_cons_zero, slot_d, ap1_some, t', unB_some, andV_t, fCh_ap, chO, c1]
    cases decide (0 ≤ k) with
    | true => simp only [Option.bind_some, c2, retO_some, retD_rt, Bool.true_and]
    | false => simp only [retO_some, retD_rt, Bool.false_and]
  | none | bool _ | str _ | list _ | tuple _ | dict _ =>
    have t' := t
    rw [decide_eq_false (by simp [tyN])] at t'
    simp only [f1_ap, fV_ap, fC_ap, List.getElem?_cons_zero, slot_d, ap1_some, t', unB_some, andV_f, retO_some, retD_rt]
theorem gAll_st {F : List PyData → Option PyData} {g : PyData → Bool} {D d' : PyData} (hs : (ri fun i j => i - j) D (.int 1) = some d') : ∀ ps : List PyData, (∀ p ∈ ps, F [p, d'] = some (.bool (g p))) →
    gAny false (b1 0) tYesD (fCa 2 F (fCons (fV 0) (fCons (f2 (ri fun i j => i - j) (fV 1) (fC (.int 1))) fNil))) [none, some (.d D)] ps = some (ps.all g)
  | [], h => rfl
  | p :: ps, h => by
    have hp := h p (by simp)
    have ih := gAll_st hs ps fun q hq => h q (by simp [hq])
    rw [gAny]
    simp only [b1_ap, Option.bind_some, tYesD_ap, if_true, List.set_cons_zero, fB_ap, fCa_ap, fCons_ap, fNil_ap, f2_ap, fV_ap, fC_ap, List.getElem?_cons_zero, List.getElem?_cons_succ, slot_d, ap2_some, hs, consO_some, caO_2, hp, unB_some]
    rw [List.all_cons]
    cases g p with
    | true => rw [if_neg (by decide), ih]; rfl
    | false => rw [if_pos rfl]; rfl
theorem len_ps {x : PyData} (ps : List PyData) (k : Int) : eqP (.int ((x :: ps).length : Nat)) (.int (k + 1)) = some (.bool (decide ((ps.length : Int) = k))) := by
  rw [eqP_i]
  congr 2
  exact decide_eq_decide.mpr (by rw [List.length_cons]; omega)
/-- one more within one another -/
theorem nest_step {F : List PyData → Option PyData} {k : Nat} {g : PyData → Bool} (hF : ∀ d, gdB d = true → F [d, .int (k : Nat)] = some (.bool (g d))) {d : PyData} (hd : gdB d = true) : fnD 3 (gis_nested isMarkF laterF F) [d, .int ((k + 1 : Nat) : Int)] = some (.bool (isBody g d)) := by
  have hb := gd_bare hd
  have n0 : eqP (.int ((k + 1 : Nat) : Int)) (.int 0) = some (.bool false) := by rw [eqP_i, decide_eq_false (by omega)]
  have t := tyNe_bare (T := "tuple") hb
  have sb : (ri fun i j => i - j) (.int ((k + 1 : Nat) : Int)) (.int 1) = some (.int (k : Nat)) := by
    show some (PyData.int (((k + 1 : Nat) : Int) - 1)) = _
    congr 2; omega
  rw [fnD_ap]
  have e : startR 3 [d, .int ((k + 1 : Nat) : Int)] = [some (.d d), some (.d (.int ((k + 1 : Nat) : Int))), none] := rfl
  rw [e, gis_nested, gSeq_ap, gIf_ap]
  simp only [fOrT_ap, fB_ap, f2_ap, f1_ap, fV_ap, fC_ap, List.getElem?_cons_zero, List.getElem?_cons_succ, slot_d, ap2_some, ap1_some, n0, unB_some, orT_f, t]
  by_cases ht : tyN d = "tuple"
  case neg =>
    rw [decide_eq_false ht]
    have : isBody g d = false := by cases d <;> first | rfl | exact absurd rfl ht
    rw [this]
    simp only [Bool.not_false, orT_t, iteO_t, gRet_ap, fC_ap, retO_some, seqO_rt, retD_rt]
  cases d with
  | none | bool _ | str _ | list _ | int _ | dict _ => simp [tyN] at ht
  | tuple ds =>
  rw [decide_eq_true ht]
  cases ds with
  | nil =>
    have l0 : eqP (.int (([] : List PyData).length : Nat)) (.int 0) = some (.bool true) := rfl
    simp only [Bool.not_true, orT_f, fCl_ap, fCons_ap, fV_ap, fNil_ap, List.getElem?_cons_zero, slot_d, consO_some, clO_some, one1_ap, lenD_t, ap2_some, l0, unB_some, iteO_t, gRet_ap, fC_ap, retO_some, seqO_rt, retD_rt]
    rfl
  | cons x ps =>
  rw [gd_tup, gdBs, Bool.and_eq_true] at hd
  have l0 : eqP (.int ((x :: ps).length : Nat)) (.int 0) = some (.bool false) := by rw [eqP_i, decide_eq_false (by rw [List.length_cons]; omega)]
  have i0 : ixD (.tuple (x :: ps)) (.int 0) = some x := by rw [ixD_t, atI_0]
  have tx := tyNe_bare (T := "str") (gd_bare hd.1)
  simp only [Bool.not_true, orT_f, fCl_ap, fCons_ap, fV_ap, fNil_ap, List.getElem?_cons_zero, slot_d, consO_some, clO_some, one1_ap, lenD_t, ap2_some, l0, unB_some, iteO_f, gNx_ap, seqO_nx]
  rw [gSeq_ap, gSet_ap]
  simp only [f2_ap, fV_ap, fC_ap, List.getElem?_cons_zero, List.getElem?_cons_succ, slot_d, ap2_some, i0, setO_some, List.set_cons_succ, List.set_cons_zero, seqO_nx]
  rw [gSeq_ap, gIf_ap]
  simp only [fB_ap, f1_ap, fV_ap, List.getElem?_cons_zero, List.getElem?_cons_succ, slot_d, ap1_some, tx, unB_some]
  by_cases hx : tyN x = "str"
  case neg =>
    rw [decide_eq_false hx]
    have : isBody g (.tuple (x :: ps)) = false := by cases x <;> first | rfl | exact absurd rfl hx
    rw [this]
    simp only [Bool.not_false, iteO_t, gRet_ap, fC_ap, retO_some, seqO_rt, retD_rt]
  cases x with
  | none | bool _ | list _ | tuple _ | int _ | dict _ => simp [tyN] at hx
  | str w =>
  rw [decide_eq_true hx]
  simp only [Bool.not_true, iteO_f, gNx_ap, seqO_nx]
  rw [gSeq_ap, gIf_ap]
  simp only [fB_ap, f2_ap, fV_ap, fC_ap, List.getElem?_cons_zero, List.getElem?_cons_succ, slot_d, ap2_some, eqP_s, unB_some]
  show _ = some (PyData.bool (if sEq w "mark" then isMk ps else if sEq w "within" then isWt g ps else isOth g w ps))
  have ln : ∀ ρ : Rho, ρ[0]? = some (some (.d (.tuple (.str w :: ps)))) → fCl (one1 lenD) (fCons (fV 0) fNil) ρ = some (.int ((PyData.str w :: ps).length : Nat)) := fun ρ h => by
    simp only [fCl_ap, fCons_ap, fV_ap, fNil_ap, h, slot_d, consO_some, clO_some, one1_ap, lenD_t]
  cases hm : sEq w "mark" with
  | true =>
    have l2 : eqP (.int ((PyData.str w :: ps).length : Nat)) (.int 2) = some (.bool (decide ((ps.length : Int) = 1))) := len_ps ps 1
    simp only [iteO_t, if_true]
    rw [gRet_ap, fAnd_ap, f2_ap, ln _ rfl]
    simp only [fC_ap, ap2_some, l2, unB_some]
    cases ps with
    | nil => simp only [show decide ((([] : List PyData).length : Int) = 1) = false from rfl, andV_f, retO_some, seqO_rt, retD_rt]; rfl
    | cons y r =>
      cases r with
      | cons z r =>
        rw [decide_eq_false (by simp only [List.length_cons]; omega), isMk_long]
        simp only [andV_f, retO_some, seqO_rt, retD_rt]
      | nil =>
        have gy : gdB y = true := gdBs_all hd.2 y (by simp)
        have i1 : ixD (.tuple [.str w, y]) (.int 1) = some y := by rw [ixD_t, atI_1]
        rw [decide_eq_true (by rfl)]
        simp only [andV_t, fAnd_ap, fCa_ap, fCons_ap, fNil_ap, f2_ap, fV_ap, fC_ap, List.getElem?_cons_zero, slot_d, ap2_some, i1, consO_some, caO_1]
        by_cases hy : tyN y = "str"
        case neg =>
          rw [mark_no (gd_bare gy) hy]
          simp only [unB_some, andV_f, retO_some, seqO_rt, retD_rt]
          cases y <;> first | rfl | exact absurd rfl hy
        cases y with
        | none | bool _ | list _ | tuple _ | int _ | dict _ => simp [tyN] at hy
        | str m =>
          rw [isMark_eq m (by rw [gd_str] at gy; exact of_decide_eq_true gy)]
          show retD (seqO _ (retO _ (andV (some (decide ((tl m).length ≤ 6) && isLow (tl m))) _))) = some (PyData.bool ((decide ((tl m).length ≤ 6) && isLow (tl m)) && !sEq m ""))
          rw [neP_s]
          cases (decide ((tl m).length ≤ 6) && isLow (tl m)) with
          | true => simp only [andV_t, retO_some, seqO_rt, retD_rt, Bool.true_and]
          | false => simp only [andV_f, retO_some, seqO_rt, retD_rt, Bool.false_and]
  | false =>
  simp only [iteO_f, gNx_ap, seqO_nx]
  rw [if_neg (by decide), gSeq_ap, gIf_ap]
  simp only [fB_ap, f2_ap, fV_ap, fC_ap, List.getElem?_cons_zero, List.getElem?_cons_succ, slot_d, ap2_some, eqP_s, unB_some]
  cases hw : sEq w "within" with
  | true =>
    have l3 : eqP (.int ((PyData.str w :: ps).length : Nat)) (.int 3) = some (.bool (decide ((ps.length : Int) = 2))) := len_ps ps 2
    simp only [iteO_t, if_true]
    rw [gRet_ap, fAnd_ap, f2_ap, ln _ rfl]
    simp only [fC_ap, ap2_some, l3, unB_some]
    match ps, hd with
    | [], _ => simp only [show decide ((([] : List PyData).length : Int) = 2) = false from rfl, andV_f, retO_some, seqO_rt, retD_rt]; rfl
    | [y], _ =>
      rw [isWt_1]
      simp only [show decide ((([y] : List PyData).length : Int) = 2) = false from rfl, andV_f, retO_some, seqO_rt, retD_rt]
    | a :: b :: c :: r, _ =>
      rw [decide_eq_false (by simp only [List.length_cons]; omega), isWt_3]
      simp only [andV_f, retO_some, seqO_rt, retD_rt]
    | [y, z], hd =>
      have gy : gdB y = true := gdBs_all hd.2 y (by simp)
      have gz : gdB z = true := gdBs_all hd.2 z (by simp)
      have i1 : ixD (.tuple [.str w, y, z]) (.int 1) = some y := by rw [ixD_t, atI_1]
      have i2 : ixD (.tuple [.str w, y, z]) (.int 2) = some z := by rw [ixD_t, atI_2]
      rw [decide_eq_true (by rfl)]
      simp only [andV_t, fAnd_ap, fCa_ap, fCons_ap, fNil_ap, f2_ap, fV_ap, fC_ap, List.getElem?_cons_zero, List.getElem?_cons_succ, slot_d, ap2_some, i1, i2, sb, consO_some, caO_1, caO_2, later_eq (gd_bare gy), hF z gz, unB_some]
      cases y with
      | int q =>
        show retD (seqO _ (retO _ (andV (some (decide (0 ≤ q) && decide (q ≤ 4))) (some (.bool (g z)))))) = some (PyData.bool ((decide (0 ≤ q) && decide (q ≤ 4)) && g z))
        cases (decide (0 ≤ q) && decide (q ≤ 4)) with
        | true => simp only [andV_t, retO_some, seqO_rt, retD_rt, Bool.true_and]
        | false => simp only [andV_f, retO_some, seqO_rt, retD_rt, Bool.false_and]
      | none | bool _ | list _ | tuple _ | str _ | dict _ => rfl
  | false =>
  simp only [iteO_f, gNx_ap, seqO_nx]
  rw [if_neg (by decide), gSeq_ap, gIf_ap]
  have pl := parts_lk w
  have ni : niCD PARTSkv (.str w) = some (.bool (!(PARTSkv.lookup w).isSome)) := rfl
  have ix : ixCD PARTSkv (.str w) = PARTSkv.lookup w := rfl
  simp only [fOrT_ap, fB_ap, f1_ap, fV_ap, fC_ap, List.getElem?_cons_zero, List.getElem?_cons_succ, slot_d, ap1_some, ni, unB_some, f2_ap, ln [some (.d (.tuple (.str w :: ps))), some (.d (.int ((k + 1 : Nat) : Int))), some (.d (.str w))] rfl, ix, pl]
  unfold isOth
  cases ha : arity w with
  | none => simp only [Option.map_none, Option.isSome_none, Bool.not_false, orT_t, iteO_t, gRet_ap, fC_ap, retO_some, seqO_rt, retD_rt]
  | some a =>
    have ne : neP (.int ((PyData.str w :: ps).length : Nat)) (.int (a + 1)) = some (.bool (!decide ((ps.length : Int) = a))) := by
      rw [neP_i]
      congr 3
      exact decide_eq_decide.mpr (by rw [List.length_cons]; omega)
    simp only [Option.map_some, Option.isSome_some, Bool.not_true, orT_f, ap2_some, addD_i, ne, unB_some]
    by_cases hl : (ps.length : Int) = a
    · rw [decide_eq_true hl]
      simp only [Bool.not_true, iteO_f, gNx_ap, seqO_nx, gRet_ap, Bool.true_and]
      have al : fAnyG false (fSeq (fSl (fV 0) (fO (fC (.int 1))) fO0)) (b1 0) tYesD (fCa 2 F (fCons (fV 0) (fCons (f2 (ri fun i j => i - j) (fV 1) (fC (.int 1))) fNil))) [none, some 1] [some (.d (.tuple (.str w :: ps))), some (.d (.int ((k + 1 : Nat) : Int))), some (.d (.str w))] = some (.bool (ps.all g)) := by
        unfold fAnyG
        simp only [fSeq_ap, fSl_ap, fO_ap, fO0_ap, fV_ap, fC_ap, List.getElem?_cons_zero, slot_d, intO_some, slO_some, sl_one, seqO1_some, seqD_t, Option.bind_some]
        have pk : pickR [some (.d (.tuple (.str w :: ps))), some (.d (.int ((k + 1 : Nat) : Int))), some (.d (.str w))] [none, some 1] = [none, some (.d (.int ((k + 1 : Nat) : Int)))] := rfl
        rw [pk, gAll_st sb ps fun p hp => hF p (gdBs_all hd.2 p hp)]
        rfl
      rw [al, retO_some, retD_rt]
    · rw [decide_eq_false hl]
      simp only [Bool.not_false, iteO_t, gRet_ap, fC_ap, retO_some, seqO_rt, retD_rt, Bool.false_and]
theorem nest_eq : ∀ (k n : Nat) (d : PyData), k < n → gdB d = true → nestF n [d, .int (k : Nat)] = some (.bool (isSt k d))
  | 0, n + 1, d, _, hd => by
    show fnD 3 (gis_nested isMarkF laterF (nestF n)) [d, .int 0] = _
    have n0 : eqP (.int 0) (.int 0) = some (.bool true) := rfl
    rw [fnD_ap]
    have e : startR 3 [d, .int 0] = [some (.d d), some (.d (.int 0)), none] := rfl
    rw [e, gis_nested, gSeq_ap, gIf_ap]
    simp only [fOrT_ap, fB_ap, f2_ap, fV_ap, fC_ap, List.getElem?_cons_zero, List.getElem?_cons_succ, slot_d, ap2_some, n0, unB_some, orT_t, iteO_t, gRet_ap, retO_some, seqO_rt, retD_rt]
    rfl
  | k + 1, n + 1, d, h, hd => nest_step (fun d hd => nest_eq k n d (by omega) hd) hd
def isStF : List PyData → Option PyData := fnD 1 (gis_statement (nestF 7))
theorem isSt_eq {d : PyData} (hd : gdB d = true) : isStF [d] = some (.bool (isSt 6 d)) := by
  have n := nest_eq 6 7 d (by decide) hd
  have n' : nestF 7 [d, .int 6] = some (.bool (isSt 6 d)) := n
  unfold isStF
  rw [fnD_ap]
  have e : startR 1 [d] = [some (.d d)] := rfl
  rw [e, gis_statement]
  simp only [gRet_ap, fCa_ap, fCons_ap, fNil_ap, fV_ap, fC_ap, List.getElem?_cons_zero, slot_d, consO_some, caO_2, n', retO_some, retD_rt]
end My

namespace My
open PySem L2 Dn TL
/-! ### what is a statement, and what is none -/
theorem isSt_nt {d : PyData} (h : tyN d ≠ "tuple") : ∀ k, isSt k d = false
  | 0 => rfl
  | k + 1 => by
    show isBody (isSt k) d = false
    cases d <;> first | rfl | exact absurd rfl h
theorem low_all {m : Str} (h : Ltr m) : isLow (tl m) = true := List.all_eq_true.mpr fun c hc => by have := h.ab c hc; simp; omega
theorem mk_ok {m : Str} (h : Ltr m) : isMk [.str m] = true := by
  have l := h.lo
  have h6 := h.hi
  rw [len_tl] at h6 l
  show ((decide ((tl m).length ≤ 6) && isLow (tl m)) && !sEq m "") = true
  rw [decide_eq_true h6, low_all h]
  have : sEq m "" = false := by
    unfold sEq
    refine decide_eq_false fun e => ?_
    rw [e] at l
    exact absurd l (by decide)
  rw [this]; rfl
theorem ar_yes : arity "yes" = some 0 := by decide +kernel
theorem ar_not : arity "not" = some 1 := by decide +kernel
theorem ar_and : arity "and" = some 2 := by decide +kernel
theorem ar_or : arity "or" = some 2 := by decide +kernel
theorem ar_next : arity "next" = some 1 := by decide +kernel
theorem ar_until : arity "until" = some 2 := by decide +kernel
theorem ar_before : arity "before" = some 1 := by decide +kernel
theorem ar_since : arity "since" = some 2 := by decide +kernel
theorem ar_no : arity "no" = none := by decide +kernel
theorem body_oth {f : PyData → Bool} {w : Str} {ps : List PyData} {a : Int} (h1 : sEq w "mark" = false) (h2 : sEq w "within" = false) (ha : arity w = some a) : isBody f (.tuple (.str w :: ps)) = (decide ((ps.length : Int) = a) && ps.all f) := by
  show (if sEq w "mark" then isMk ps else if sEq w "within" then isWt f ps else isOth f w ps) = _
  rw [h1, h2, if_neg (by decide), if_neg (by decide)]
  unfold isOth
  rw [ha]
theorem body_mark {f : PyData → Bool} {ps : List PyData} : isBody f (.tuple (.str "mark" :: ps)) = isMk ps := by
  show (if sEq "mark" "mark" then isMk ps else if sEq "mark" "within" then isWt f ps else isOth f "mark" ps) = _
  rw [sEq_same, if_pos rfl]
theorem body_wth {f : PyData → Bool} {ps : List PyData} : isBody f (.tuple (.str "within" :: ps)) = isWt f ps := by
  show (if sEq "within" "mark" then isMk ps else if sEq "within" "within" then isWt f ps else isOth f "within" ps) = _
  rw [w_within_mark, if_neg (by decide), sEq_same, if_pos rfl]
theorem isSt_enc : ∀ (s : Sm), s.Fine → ∀ n, isSt n (enc s) = decide (s.depth ≤ n)
  | s, h, 0 => by
    have := Sm.depth_pos s
    rw [decide_eq_false (by omega)]; rfl
  | .mark m, h, n + 1 => by
    show isBody _ (.tuple (.str "mark" :: [.str m])) = _
    rw [body_mark, mk_ok h, decide_eq_true (by simp)]
  | .yes, h, n + 1 => by
    show isBody _ (.tuple (.str "yes" :: [])) = _
    rw [body_oth w_yes_mark w_yes_within ar_yes, decide_eq_true (by simp : Sm.yes.depth ≤ n + 1)]
    rfl
  | .wth k s, h, n + 1 => by
    show isBody _ (.tuple (.str "within" :: [.int k, enc s])) = _
    rw [body_wth]
    show ((decide (0 ≤ k) && decide (k ≤ 4)) && isSt n (enc s)) = _
    rw [decide_eq_true h.1, decide_eq_true h.2.1, isSt_enc s h.2.2 n]
    simp
  | .not s, h, n + 1 => by
    show isBody _ (.tuple (.str "not" :: [enc s])) = _
    rw [body_oth w_not_mark w_not_within ar_not]
    simp [isSt_enc s h n]
  | .nxt s, h, n + 1 => by
    show isBody _ (.tuple (.str "next" :: [enc s])) = _
    rw [body_oth w_next_mark w_next_within ar_next]
    simp [isSt_enc s h n]
  | .bef s, h, n + 1 => by
    show isBody _ (.tuple (.str "before" :: [enc s])) = _
    rw [body_oth w_before_mark w_before_within ar_before]
    simp [isSt_enc s h n]
  | .and s t, h, n + 1 => by
    show isBody _ (.tuple (.str "and" :: [enc s, enc t])) = _
    rw [body_oth w_and_mark w_and_within ar_and]
    simp [isSt_enc s h.1 n, isSt_enc t h.2 n, Nat.max_le]
  | .or s t, h, n + 1 => by
    show isBody _ (.tuple (.str "or" :: [enc s, enc t])) = _
    rw [body_oth w_or_mark w_or_within ar_or]
    simp [isSt_enc s h.1 n, isSt_enc t h.2 n, Nat.max_le]
  | .unt s t, h, n + 1 => by
    show isBody _ (.tuple (.str "until" :: [enc s, enc t])) = _
    rw [body_oth w_until_mark w_until_within ar_until]
    simp [isSt_enc s h.1 n, isSt_enc t h.2 n, Nat.max_le]
  | .sin s t, h, n + 1 => by
    show isBody _ (.tuple (.str "since" :: [enc s, enc t])) = _
    rw [body_oth w_since_mark w_since_within ar_since]
    simp [isSt_enc s h.1 n, isSt_enc t h.2 n, Nat.max_le]
theorem gd_word (w : Str) (h : w.length ≤ 90000) : gdB (.str w) = true := by rw [gd_str]; exact decide_eq_true h
theorem gd_enc : ∀ s : Sm, s.Fine → gdB (enc s) = true
  | .mark m, h => by
    have l := (show Ltr m from h).hi
    refine gd_tup.trans (gdBs_of fun x hx => ?_)
    simp at hx
    rcases hx with rfl | rfl
    · exact gd_word _ (by decide)
    · exact gd_word _ (by omega)
  | .yes, h => by
    refine gd_tup.trans (gdBs_of fun x hx => ?_)
    simp at hx; subst hx; exact gd_word _ (by decide)
  | .wth k s, h => by
    have i := gd_enc s h.2.2
    refine gd_tup.trans (gdBs_of fun x hx => ?_)
    simp at hx
    rcases hx with rfl | rfl | rfl
    · exact gd_word _ (by decide)
    · simp [gdB]
    · exact i
  | .not s, h | .nxt s, h | .bef s, h => by
    have i := gd_enc s h
    refine gd_tup.trans (gdBs_of fun x hx => ?_)
    simp at hx
    rcases hx with rfl | rfl
    · exact gd_word _ (by decide)
    · exact i
  | .and s t, h | .or s t, h | .unt s t, h | .sin s t, h => by
    have i := gd_enc s h.1
    have j := gd_enc t h.2
    refine gd_tup.trans (gdBs_of fun x hx => ?_)
    simp at hx
    rcases hx with rfl | rfl | rfl
    · exact gd_word _ (by decide)
    · exact i
    · exact j
/-- short, and no statement at any depth -/
structure Bad (d : PyData) : Prop where
  g : gdB d = true
  n : ∀ k, isSt k d = false
theorem bad_tup {ps : List PyData} (hg : ∀ x ∈ ps, gdB x = true) (h : ∀ k, isBody (isSt k) (.tuple ps) = false) : Bad (.tuple ps) := ⟨gd_tup.trans (gdBs_of hg), fun k => by
  cases k with
  | zero => rfl
  | succ k => exact h k⟩
theorem bad_nt {d : PyData} (hg : gdB d = true) (h : tyN d ≠ "tuple") : Bad d := ⟨hg, isSt_nt h⟩
/-! ### _law_no_statement -/
theorem at_in {L : List PyData} {k : Int} (h0 : 0 ≤ k) (h1 : k < L.length) : ∃ w ∈ L, atI L k = some w := by
  have hk : k.toNat < L.length := by omega
  refine ⟨L[k.toNat], List.getElem_mem hk, ?_⟩
  have := atI_nat (xs := L) (j := k.toNat) (v := L[k.toNat]) (List.getElem?_eq_getElem hk)
  rwa [show ((k.toNat : Nat) : Int) = k by omega] at this
def noF : List PyData → Option PyData := fnD 4 gL_no_statement
section
variable (a b : Str)
def goodD : PyData := .tuple [.str "mark", .str a]
def NO1 : List PyData := [.tuple [.str "mark", .str ""], .tuple [.str "mark", .str "A"], .tuple [.str "mark", .str "abcdefg"], .tuple [.str "mark", .int 5], .tuple [.str "mark"], .tuple [.str "mark", .str a, .str b]]
def NO2 : List PyData := [.tuple [.str "yes", .int 1], .tuple [.str "no"], .tuple [.str "not"], .tuple [.str "not", goodD a, goodD a], .tuple [.str "and", goodD a], .tuple [.str "or", goodD a, goodD a, goodD a]]
def NO3 : List PyData := [.tuple [.str "next", .str a], .list [], .tuple [.str "until", goodD a, .none], .tuple [.str "since", goodD a], .tuple [.str "within", .int 5, goodD a]]
def NO4 : List PyData := [.tuple [.str "within", .int (-1), goodD a], .tuple [.str "within", .bool true, goodD a], .tuple [.str "within", goodD a, .int 2], .tuple [.str "within", .int 2]]
def NO5 : List PyData := [.tuple [.str "before", .list [goodD a]], .none, .str "yes", .tuple [], .tuple [.str "mark", .str (a ++ " ")], .int 7]
def NO6 : List PyData := [.tuple [.list [.str "yes"]], .dict [], .tuple [.str "mark", .tuple [.str "mark", .str a]], .tuple [.str "within", .str "2", goodD a]]
end
section
variable {a b : Str} (ha : Ltr a) (hb : Ltr b)
include ha hb
theorem no_bad : ∀ d ∈ NO1 a b ++ NO2 a ++ NO3 a ++ NO4 a ++ NO5 a ++ NO6 a, Bad d := by
  have la := ha.hi
  have lb := hb.hi
  have ga : gdB (.str a) = true := gd_word a (by omega)
  have gb : gdB (.str b) = true := gd_word b (by omega)
  have w : ∀ z : Str, z.length ≤ 10 → gdB (.str z) = true := fun z hz => gd_word z (by omega)
  have gg : gdB (goodD a) = true := gd_tup.trans (gdBs_of fun x hx => by simp at hx; rcases hx with rfl | rfl; exact w _ (by decide); exact ga)
  have gi : ∀ i : Int, gdB (.int i) = true := fun i => by simp [gdB]
  have gB : ∀ i : Bool, gdB (.bool i) = true := fun i => by simp [gdB]
  have gN : gdB .none = true := by simp [gdB]
  have st : ∀ k (z : Str), isSt k (.str z) = false := fun k z => isSt_nt (by simp [tyN]) k
  have sn : ∀ k, isSt k .none = false := fun k => isSt_nt (by decide) k
  have sl : ∀ k xs, isSt k (.list xs) = false := fun k xs => isSt_nt (by simp [tyN]) k
  have len : (a ++ " ").length = a.length + 1 := by rw [len_app]; rfl
  intro d hd
  simp only [NO1, NO2, NO3, NO4, NO5, NO6, List.cons_append, List.nil_append, List.mem_cons, List.not_mem_nil, or_false] at hd
  have bm : ∀ {ps : List PyData}, (∀ x ∈ ps, gdB x = true) → isMk ps = false → Bad (.tuple (.str "mark" :: ps)) := fun hg h => bad_tup (fun x hx => by
    rcases List.mem_cons.mp hx with rfl | hx
    · exact w _ (by decide)
    · exact hg x hx) fun k => by rw [body_mark]; exact h
  have bw : ∀ {ps : List PyData}, (∀ x ∈ ps, gdB x = true) → (∀ f, isWt f ps = false) → Bad (.tuple (.str "within" :: ps)) := fun hg h => bad_tup (fun x hx => by
    rcases List.mem_cons.mp hx with rfl | hx
    · exact w _ (by decide)
    · exact hg x hx) fun k => by rw [body_wth]; exact h _
  have bo : ∀ {z : Str} {ps : List PyData} {q : Int}, z.length ≤ 10 → sEq z "mark" = false → sEq z "within" = false → arity z = some q → (∀ x ∈ ps, gdB x = true) → (∀ k, (decide ((ps.length : Int) = q) && ps.all (isSt k)) = false) → Bad (.tuple (.str z :: ps)) := fun hz h1 h2 h3 hg h => bad_tup (fun x hx => by
    rcases List.mem_cons.mp hx with rfl | hx
    · exact w _ hz
    · exact hg x hx) fun k => by rw [body_oth h1 h2 h3]; exact h k
  have e1 : ∀ {x : PyData}, gdB x = true → ∀ y ∈ [x], gdB y = true := fun h y hy => by rw [List.mem_singleton.mp hy]; exact h
  have e2 : ∀ {x z : PyData}, gdB x = true → gdB z = true → ∀ y ∈ [x, z], gdB y = true := fun h g y hy => by
    rcases List.mem_cons.mp hy with rfl | hy
    · exact h
    · exact e1 g y hy
  have e3 : ∀ {x z u : PyData}, gdB x = true → gdB z = true → gdB u = true → ∀ y ∈ [x, z, u], gdB y = true := fun h g f y hy => by
    rcases List.mem_cons.mp hy with rfl | hy
    · exact h
    · exact e2 g f y hy
  have e0 : ∀ y ∈ ([] : List PyData), gdB y = true := fun y hy => by cases hy
  rcases hd with rfl | rfl | rfl | rfl | rfl | rfl | rfl | rfl | rfl | rfl | rfl | rfl | rfl | rfl | rfl | rfl | rfl | rfl | rfl | rfl | rfl | rfl | rfl | rfl | rfl | rfl | rfl | rfl | rfl | rfl | rfl
  · exact bm (e1 (w _ (by decide))) (by decide +kernel)
  · exact bm (e1 (w _ (by decide))) (by decide +kernel)
  · exact bm (e1 (w _ (by decide))) (by decide +kernel)
  · exact bm (e1 (gi _)) rfl
  · exact bm e0 rfl
  · exact bm (e2 ga gb) rfl
  · exact bo (by decide) w_yes_mark w_yes_within ar_yes (e1 (gi _)) fun k => rfl
  · exact bad_tup (e1 (w _ (by decide))) fun k => by
      show (if sEq "no" "mark" then isMk [] else if sEq "no" "within" then isWt (isSt k) [] else isOth (isSt k) "no" []) = false
      rw [sEq_ne (by decide +kernel), sEq_ne (by decide +kernel), if_neg (by decide), if_neg (by decide)]
      unfold isOth
      rw [ar_no]
  · exact bo (by decide) w_not_mark w_not_within ar_not e0 fun k => rfl
  · exact bo (by decide) w_not_mark w_not_within ar_not (e2 gg gg) fun k => rfl
  · exact bo (by decide) w_and_mark w_and_within ar_and (e1 gg) fun k => rfl
  · exact bo (by decide) w_or_mark w_or_within ar_or (e3 gg gg gg) fun k => rfl
  · exact bo (by decide) w_next_mark w_next_within ar_next (e1 ga) fun k => by simp [st]
  · exact bad_nt (by simp [gdB, gdBs]) (by simp [tyN])
  · exact bo (by decide) w_until_mark w_until_within ar_until (e2 gg gN) fun k => by simp [sn]
  · exact bo (by decide) w_since_mark w_since_within ar_since (e1 gg) fun k => rfl
  · exact bw (e2 (gi _) gg) fun f => rfl
  · exact bw (e2 (gi _) gg) fun f => rfl
  · exact bw (e2 (gB _) gg) fun f => rfl
  · exact bw (e2 gg (gi _)) fun f => rfl
  · exact bw (e1 (gi _)) fun f => rfl
  · exact bo (by decide) w_before_mark w_before_within ar_before (e1 (by rw [gdB]; exact gdBs_of (e1 gg))) fun k => by simp [sl]
  · exact bad_nt gN (by simp [tyN])
  · exact bad_nt (w _ (by decide)) (by simp [tyN])
  · exact bad_tup e0 fun k => rfl
  · refine bm (e1 (gd_word _ (by omega))) ?_
    show ((decide ((tl (a ++ " ")).length ≤ 6) && isLow (tl (a ++ " "))) && !sEq (a ++ " ") "") = false
    have : isLow (tl (a ++ " ")) = false := by
      rw [tl_append]
      unfold isLow
      rw [List.all_append]
      have : (tl (" " : Str)).all (fun c => decide (97 ≤ c ∧ c ≤ 122)) = false := by decide +kernel
      rw [this, Bool.and_false]
    rw [this, Bool.and_false]; rfl
  · exact bad_nt (gi _) (by simp [tyN])
  · exact bad_tup (e1 (by rw [gdB]; exact gdBs_of (e1 (w _ (by decide))))) fun k => rfl
  · exact bad_nt (by simp [gdB]) (by simp [tyN])
  · exact bm (e1 gg) rfl
  · exact bw (e2 (w _ (by decide)) gg) fun f => rfl
theorem no_eq (d : Str) (k : Int) : ∃ o, noF [.int k, dS [a, b, d]] = some o ∧ Bad o := by
  have h0 : 0 ≤ k % 31 := Int.emod_nonneg _ (by decide)
  have h1 : k % 31 < 31 := Int.emod_lt_of_pos _ (by decide)
  obtain ⟨o, ho, hx⟩ := at_in (L := NO1 a b ++ NO2 a ++ NO3 a ++ NO4 a ++ NO5 a ++ NO6 a) h0 (by exact h1)
  refine ⟨o, ?_, no_bad ha hb o ho⟩
  have md : modD (.int k) (.int 31) = some (.int (k % 31)) := modD_i (by decide)
  have la := ha.hi
  have as_ : addD (.str a) (.str " ") = some (.str (a ++ " ")) := addD_s (by have : (" " : Str).length = 1 := rfl; omega)
  have i0 : ixD (dS [a, b, d]) (.int 0) = some (.str a) := rfl
  have i1 : ixD (dS [a, b, d]) (.int 1) = some (.str b) := rfl
  have t0 : tupO (some []) = some (.tuple []) := rfl
  have t4 : ∀ x y z u : PyData, tupO (some [x, y, z, u]) = some (.tuple [x, y, z, u]) := fun _ _ _ _ => rfl
  have l4 : ∀ x y z u : PyData, lstO (some [x, y, z, u]) = some (.list [x, y, z, u]) := fun _ _ _ _ => rfl
  have l6 : ∀ x y z u v w : PyData, lstO (some [x, y, z, u, v, w]) = some (.list [x, y, z, u, v, w]) := fun _ _ _ _ _ _ => rfl
  have n1 : negD (.int 1) = some (.int (-1)) := rfl
  have d1 : addD (.list (NO1 a b)) (.list (NO2 a)) = some (.list (NO1 a b ++ NO2 a)) := addD_l (Nat.le_of_ble_eq_true rfl)
  have d2 : addD (.list (NO1 a b ++ NO2 a)) (.list (NO3 a)) = some (.list (NO1 a b ++ NO2 a ++ NO3 a)) := addD_l (Nat.le_of_ble_eq_true rfl)
  have d3 : addD (.list (NO1 a b ++ NO2 a ++ NO3 a)) (.list (NO4 a)) = some (.list (NO1 a b ++ NO2 a ++ NO3 a ++ NO4 a)) := addD_l (Nat.le_of_ble_eq_true rfl)
  have d4 : addD (.list (NO1 a b ++ NO2 a ++ NO3 a ++ NO4 a)) (.list (NO5 a)) = some (.list (NO1 a b ++ NO2 a ++ NO3 a ++ NO4 a ++ NO5 a)) := addD_l (Nat.le_of_ble_eq_true rfl)
  have d5 : addD (.list (NO1 a b ++ NO2 a ++ NO3 a ++ NO4 a ++ NO5 a)) (.list (NO6 a)) = some (.list (NO1 a b ++ NO2 a ++ NO3 a ++ NO4 a ++ NO5 a ++ NO6 a)) := addD_l (Nat.le_of_ble_eq_true rfl)
  unfold noF
  rw [fnD_ap]
  have e : startR 4 [.int k, dS [a, b, d]] = [some (.d (.int k)), some (.d (dS [a, b, d])), none, none] := rfl
  rw [e, gL_no_statement, gSeq_ap, gSet_ap]
  simp only [fTup_ap, fCons_ap, fNil_ap, f2_ap, fV_ap, fC_ap, List.getElem?_cons_zero, List.getElem?_cons_succ, slot_d, ap2_some, i0, consO_some, tupO_2, setO_some, List.set_cons_succ, List.set_cons_zero, seqO_nx]
  rw [show PyData.tuple [.str "mark", .str a] = goodD a from rfl, gSeq_ap, gSet_ap]
  simp only [fLst_ap, fTup_ap, fCons_ap, fNil_ap, f2_ap, fV_ap, fC_ap, List.getElem?_cons_zero, List.getElem?_cons_succ, slot_d, ap2_some, i0, i1, consO_some, tupO_1, tupO_2, tupO_3, l6, setO_some, List.set_cons_succ, List.set_cons_zero, seqO_nx]
  rw [show PyData.list [.tuple [.str "mark", .str ""], .tuple [.str "mark", .str "A"], .tuple [.str "mark", .str "abcdefg"], .tuple [.str "mark", .int 5], .tuple [.str "mark"], .tuple [.str "mark", .str a, .str b]] = .list (NO1 a b) from rfl, gSeq_ap, gSet_ap]
  simp only [fLst_ap, fTup_ap, fCons_ap, fNil_ap, f2_ap, fV_ap, fC_ap, List.getElem?_cons_zero, List.getElem?_cons_succ, slot_d, consO_some, tupO_1, tupO_2, tupO_3, t4, l6]
  rw [show PyData.list [.tuple [.str "yes", .int 1], .tuple [.str "no"], .tuple [.str "not"], .tuple [.str "not", goodD a, goodD a], .tuple [.str "and", goodD a], .tuple [.str "or", goodD a, goodD a, goodD a]] = .list (NO2 a) from rfl, ap2_some, d1, setO_some]
  simp only [List.set_cons_succ, List.set_cons_zero, seqO_nx]
  rw [gSeq_ap, gSet_ap]
  simp only [fLst_ap, fTup_ap, fCons_ap, fNil_ap, f2_ap, fV_ap, fC_ap, List.getElem?_cons_zero, List.getElem?_cons_succ, slot_d, ap2_some, i0, consO_some, lstO_0, tupO_1, tupO_2, tupO_3, lstO_5]
  rw [show PyData.list [.tuple [.str "next", .str a], .list [], .tuple [.str "until", goodD a, .none], .tuple [.str "since", goodD a], .tuple [.str "within", .int 5, goodD a]] = .list (NO3 a) from rfl, d2, setO_some]
  simp only [List.set_cons_succ, List.set_cons_zero, seqO_nx]
  rw [gSeq_ap, gSet_ap]
  simp only [fLst_ap, fTup_ap, fCons_ap, fNil_ap, f2_ap, f1_ap, fV_ap, fC_ap, List.getElem?_cons_zero, List.getElem?_cons_succ, slot_d, ap1_some, n1, consO_some, tupO_2, tupO_3, l4]
  rw [show PyData.list [.tuple [.str "within", .int (-1), goodD a], .tuple [.str "within", .bool true, goodD a], .tuple [.str "within", goodD a, .int 2], .tuple [.str "within", .int 2]] = .list (NO4 a) from rfl, ap2_some, d3, setO_some]
  simp only [List.set_cons_succ, List.set_cons_zero, seqO_nx]
  rw [gSeq_ap, gSet_ap]
  simp only [fLst_ap, fTup_ap, fCons_ap, fNil_ap, f2_ap, fV_ap, fC_ap, List.getElem?_cons_zero, List.getElem?_cons_succ, slot_d, ap2_some, i0, as_, consO_some, lstO_1, t0, tupO_2, l6]
  rw [show PyData.list [.tuple [.str "before", .list [goodD a]], .none, .str "yes", .tuple [], .tuple [.str "mark", .str (a ++ " ")], .int 7] = .list (NO5 a) from rfl, d4, setO_some]
  simp only [List.set_cons_succ, List.set_cons_zero, seqO_nx]
  rw [gRet_ap]
  simp only [fLst_ap, fTup_ap, fCons_ap, fNil_ap, f2_ap, fV_ap, fC_ap, List.getElem?_cons_zero, List.getElem?_cons_succ, slot_d, ap2_some, i0, md, consO_some, lstO_1, tupO_1, tupO_2, tupO_3, l4]
  rw [show PyData.list [.tuple [.list [.str "yes"]], .dict [], .tuple [.str "mark", .tuple [.str "mark", .str a]], .tuple [.str "within", .str "2", goodD a]] = .list (NO6 a) from rfl, d5, ap2_some, ixD_l, hx, retO_some, retD_rt]
end
end My

namespace My
open PySem L2 Dn TL
/-! ### _law_put -/
abbrev putB (F : List PyData → Option PyData) : Rho → Option Out := gSeq (gIf (fAndT (fB (f1 (isiD "tuple") (fV 4))) (fB (f2 (rb fun i j => decide (j ≤ i)) (fV 1) (fC (.int 0))))) (gAsg (b2 4 1) (fCa 3 F (fCons (fV 4) (fCons (fV 1) (fCons (fV 2) fNil))))) gNx) (gApp 3 (fV 4))
def putF : Nat → List PyData → Option PyData
  | 0 => fun _ => none
  | n + 1 => fnD 5 (gL_put (putF n))
section
variable {w : PyData}
/-- what a part comes back as -/
def inN (f : Int → PyData × Int) (x : PyData) (a : Int) : PyData × Int := if 0 ≤ a then f a else (x, a)
def one1P (f : Int → PyData × Int) (x : PyData) (pre : List PyData) (a : Int) : PyData × Int := (.tuple (pre ++ [(inN f x (a - 1)).1]), (inN f x (a - 1)).2)
def two2P (f g : Int → PyData × Int) (x y : PyData) (pre : List PyData) (a : Int) : PyData × Int := (.tuple (pre ++ [(inN f x (a - 1)).1, (inN g y (inN f x (a - 1)).2).1]), (inN g y (inN f x (a - 1)).2).2)
def putS (w : PyData) : Sm → Int → PyData × Int
  | .mark m => fun a => if a = 0 then (w, -1) else (enc (.mark m), a - 1)
  | .yes => fun a => if a = 0 then (w, -1) else (enc .yes, a - 1)
  | .not s => fun a => if a = 0 then (w, -1) else one1P (putS w s) (enc s) [.str "not"] a
  | .nxt s => fun a => if a = 0 then (w, -1) else one1P (putS w s) (enc s) [.str "next"] a
  | .bef s => fun a => if a = 0 then (w, -1) else one1P (putS w s) (enc s) [.str "before"] a
  | .wth k s => fun a => if a = 0 then (w, -1) else one1P (putS w s) (enc s) [.str "within", .int k] a
  | .and s t => fun a => if a = 0 then (w, -1) else two2P (putS w s) (putS w t) (enc s) (enc t) [.str "and"] a
  | .or s t => fun a => if a = 0 then (w, -1) else two2P (putS w s) (putS w t) (enc s) (enc t) [.str "or"] a
  | .unt s t => fun a => if a = 0 then (w, -1) else two2P (putS w s) (putS w t) (enc s) (enc t) [.str "until"] a
  | .sin s t => fun a => if a = 0 then (w, -1) else two2P (putS w s) (putS w t) (enc s) (enc t) [.str "since"] a
theorem put_at0 (s : Sm) : putS w s 0 = (w, -1) := by cases s <;> rfl
/-! past the last part the statement comes back as it was -/
theorem inN_yes (f : Int → PyData × Int) (x : PyData) {a : Int} (h : 0 ≤ a) : inN f x a = f a := if_pos h
theorem inN_no (f : Int → PyData × Int) (x : PyData) {a : Int} (h : ¬ 0 ≤ a) : inN f x a = (x, a) := if_neg h
theorem len_pos (s : Sm) : 1 ≤ (allS s).length := by cases s <;> simp [allS]
theorem put_past : ∀ (s : Sm) (a : Int), ((allS s).length : Int) ≤ a → putS w s a = (enc s, a - (allS s).length)
  | .mark m, a, h => by
    have h : (1 : Int) ≤ a := h
    show (if a = 0 then _ else _) = _
    rw [if_neg (by omega)]; rfl
  | .yes, a, h => by
    have h : (1 : Int) ≤ a := h
    show (if a = 0 then _ else _) = _
    rw [if_neg (by omega)]; rfl
  | .not s, a, h | .nxt s, a, h | .bef s, a, h | .wth k s, a, h => by
    simp only [allS, List.length_cons] at h ⊢
    have p := put_past s (a - 1) (by omega)
    show (if a = 0 then _ else one1P _ _ _ a) = _
    rw [if_neg (by omega)]
    unfold one1P
    rw [inN_yes _ _ (by omega), p]
    refine Prod.ext ?_ ?_
    · rfl
    · show a - 1 - _ = _
      omega
  | .and s t, a, h | .or s t, a, h | .unt s t, a, h | .sin s t, a, h => by
    simp only [allS, List.length_cons, List.length_append] at h ⊢
    have p := put_past s (a - 1) (by omega)
    have q := put_past t (a - 1 - (allS s).length) (by omega)
    show (if a = 0 then _ else two2P _ _ _ _ _ a) = _
    rw [if_neg (by omega)]
    unfold two2P
    rw [inN_yes _ _ (by omega), p]
    simp only
    rw [inN_yes _ _ (by omega), q]
    refine Prod.ext ?_ ?_
    · rfl
    · show a - 1 - _ - _ = _
      omega
/-! before that it is none -/
theorem bad_st {d : PyData} (h : Bad d) (k : Nat) : isSt k d = false := h.n k
theorem bad_one {x : Str} {d : PyData} (hx : x.length ≤ 10) (h1 : sEq x "mark" = false) (h2 : sEq x "within" = false) (h3 : arity x = some 1) (h : Bad d) : Bad (.tuple [.str x, d]) := bad_tup (fun y hy => by
    simp at hy
    rcases hy with rfl | rfl
    · exact gd_word _ (by omega)
    · exact h.g) fun k => by
    rw [body_oth h1 h2 h3]; simp [h.n k]
theorem bad_wth {k : Int} {d : PyData} (h : Bad d) : Bad (.tuple [.str "within", .int k, d]) := bad_tup (fun y hy => by
    simp at hy
    rcases hy with rfl | rfl | rfl
    · exact gd_word _ (by decide)
    · simp [gdB]
    · exact h.g) fun n => by
    rw [body_wth]
    show ((decide (0 ≤ k) && decide (k ≤ 4)) && isSt n d) = false
    rw [h.n n, Bool.and_false]
theorem bad_two {x : Str} {d e : PyData} (hx : x.length ≤ 10) (h1 : sEq x "mark" = false) (h2 : sEq x "within" = false) (h3 : arity x = some 2) (hd : gdB d = true) (he : gdB e = true) (h : Bad d ∨ Bad e) : Bad (.tuple [.str x, d, e]) := bad_tup (fun y hy => by
    simp at hy
    rcases hy with rfl | rfl | rfl
    · exact gd_word _ (by omega)
    · exact hd
    · exact he) fun k => by
    rw [body_oth h1 h2 h3]
    rcases h with h | h <;> simp [h.n k]
theorem one1_bad {s : Sm} (b : ∀ a : Int, 0 ≤ a → a < (allS s).length → Bad (putS w s a).1 ∧ (putS w s a).2 = -1) {pre : List PyData} (hp : ∀ d, Bad d → Bad (.tuple (pre ++ [d]))) {a : Int} (h0 : 1 ≤ a) (h : a < (allS s).length + 1) : Bad (one1P (putS w s) (enc s) pre a).1 ∧ (one1P (putS w s) (enc s) pre a).2 = -1 := by
  have := b (a - 1) (by omega) (by omega)
  unfold one1P
  rw [inN_yes _ _ (by omega)]
  exact ⟨hp _ this.1, this.2⟩
theorem two2_bad {s t : Sm} (fs : s.Fine) (ft : t.Fine) (b : ∀ a : Int, 0 ≤ a → a < (allS s).length → Bad (putS w s a).1 ∧ (putS w s a).2 = -1) (c : ∀ a : Int, 0 ≤ a → a < (allS t).length → Bad (putS w t a).1 ∧ (putS w t a).2 = -1) {pre : List PyData} (hp : ∀ d e, gdB d = true → gdB e = true → Bad d ∨ Bad e → Bad (.tuple (pre ++ [d, e]))) {a : Int} (h0 : 1 ≤ a) (h : a < (allS s).length + (allS t).length + 1) : Bad (two2P (putS w s) (putS w t) (enc s) (enc t) pre a).1 ∧ (two2P (putS w s) (putS w t) (enc s) (enc t) pre a).2 = -1 := by
  unfold two2P
  rw [inN_yes _ _ (by omega)]
  by_cases q : a - 1 < (allS s).length
  · have := b (a - 1) (by omega) q
    rw [this.2, inN_no _ _ (by omega)]
    exact ⟨hp _ _ this.1.g (gd_enc t ft) (.inl this.1), rfl⟩
  · rw [put_past s (a - 1) (by omega)]
    simp only
    rw [inN_yes _ _ (by omega)]
    have := c (a - 1 - (allS s).length) (by omega) (by omega)
    exact ⟨hp _ _ (gd_enc s fs) this.1.g (.inr this.1), this.2⟩
theorem put_bad (hw : Bad w) : ∀ (s : Sm), s.Fine → ∀ (a : Int), 0 ≤ a → a < (allS s).length → Bad (putS w s a).1 ∧ (putS w s a).2 = -1 := by
  intro s f a h0 h
  by_cases z : a = 0
  · rw [z, put_at0]; exact ⟨hw, rfl⟩
  induction s generalizing a with
  | mark m => simp only [allS, List.length_cons, List.length_nil] at h; omega
  | yes => simp only [allS, List.length_cons, List.length_nil] at h; omega
  | not s ih =>
    simp only [allS, List.length_cons] at h
    have := one1_bad (w := w) (s := s) (pre := [.str "not"]) (fun a h0 h => by
      by_cases z : a = 0
      · rw [z, put_at0]; exact ⟨hw, rfl⟩
      · exact ih f a h0 h z) (fun d hd => bad_one (by decide) w_not_mark w_not_within ar_not hd) (a := a) (by omega) (by omega)
    show Bad (if a = 0 then _ else _ : PyData × Int).1 ∧ (if a = 0 then _ else _ : PyData × Int).2 = -1
    rw [if_neg z]; exact this
  | nxt s ih =>
    simp only [allS, List.length_cons] at h
    have := one1_bad (w := w) (s := s) (pre := [.str "next"]) (fun a h0 h => by
      by_cases z : a = 0
      · rw [z, put_at0]; exact ⟨hw, rfl⟩
      · exact ih f a h0 h z) (fun d hd => bad_one (by decide) w_next_mark w_next_within ar_next hd) (a := a) (by omega) (by omega)
    show Bad (if a = 0 then _ else _ : PyData × Int).1 ∧ (if a = 0 then _ else _ : PyData × Int).2 = -1
    rw [if_neg z]; exact this
  | bef s ih =>
    simp only [allS, List.length_cons] at h
    have := one1_bad (w := w) (s := s) (pre := [.str "before"]) (fun a h0 h => by
      by_cases z : a = 0
      · rw [z, put_at0]; exact ⟨hw, rfl⟩
      · exact ih f a h0 h z) (fun d hd => bad_one (by decide) w_before_mark w_before_within ar_before hd) (a := a) (by omega) (by omega)
    show Bad (if a = 0 then _ else _ : PyData × Int).1 ∧ (if a = 0 then _ else _ : PyData × Int).2 = -1
    rw [if_neg z]; exact this
  | wth k s ih =>
    simp only [allS, List.length_cons] at h
    have := one1_bad (w := w) (s := s) (pre := [.str "within", .int k]) (fun a h0 h => by
      by_cases z : a = 0
      · rw [z, put_at0]; exact ⟨hw, rfl⟩
      · exact ih f.2.2 a h0 h z) (fun d hd => bad_wth hd) (a := a) (by omega) (by omega)
    show Bad (if a = 0 then _ else _ : PyData × Int).1 ∧ (if a = 0 then _ else _ : PyData × Int).2 = -1
    rw [if_neg z]; exact this
  | and s t ihs iht =>
    simp only [allS, List.length_cons, List.length_append] at h
    have := two2_bad (w := w) (s := s) (t := t) (pre := [.str "and"]) f.1 f.2 (fun a h0 h => by
      by_cases z : a = 0
      · rw [z, put_at0]; exact ⟨hw, rfl⟩
      · exact ihs f.1 a h0 h z) (fun a h0 h => by
      by_cases z : a = 0
      · rw [z, put_at0]; exact ⟨hw, rfl⟩
      · exact iht f.2 a h0 h z) (fun d e hd he h => bad_two (by decide) w_and_mark w_and_within ar_and hd he h) (a := a) (by omega) (by omega)
    show Bad (if a = 0 then _ else _ : PyData × Int).1 ∧ (if a = 0 then _ else _ : PyData × Int).2 = -1
    rw [if_neg z]; exact this
  | or s t ihs iht =>
    simp only [allS, List.length_cons, List.length_append] at h
    have := two2_bad (w := w) (s := s) (t := t) (pre := [.str "or"]) f.1 f.2 (fun a h0 h => by
      by_cases z : a = 0
      · rw [z, put_at0]; exact ⟨hw, rfl⟩
      · exact ihs f.1 a h0 h z) (fun a h0 h => by
      by_cases z : a = 0
      · rw [z, put_at0]; exact ⟨hw, rfl⟩
      · exact iht f.2 a h0 h z) (fun d e hd he h => bad_two (by decide) w_or_mark w_or_within ar_or hd he h) (a := a) (by omega) (by omega)
    show Bad (if a = 0 then _ else _ : PyData × Int).1 ∧ (if a = 0 then _ else _ : PyData × Int).2 = -1
    rw [if_neg z]; exact this
  | unt s t ihs iht =>
    simp only [allS, List.length_cons, List.length_append] at h
    have := two2_bad (w := w) (s := s) (t := t) (pre := [.str "until"]) f.1 f.2 (fun a h0 h => by
      by_cases z : a = 0
      · rw [z, put_at0]; exact ⟨hw, rfl⟩
      · exact ihs f.1 a h0 h z) (fun a h0 h => by
      by_cases z : a = 0
      · rw [z, put_at0]; exact ⟨hw, rfl⟩
      · exact iht f.2 a h0 h z) (fun d e hd he h => bad_two (by decide) w_until_mark w_until_within ar_until hd he h) (a := a) (by omega) (by omega)
    show Bad (if a = 0 then _ else _ : PyData × Int).1 ∧ (if a = 0 then _ else _ : PyData × Int).2 = -1
    rw [if_neg z]; exact this
  | sin s t ihs iht =>
    simp only [allS, List.length_cons, List.length_append] at h
    have := two2_bad (w := w) (s := s) (t := t) (pre := [.str "since"]) f.1 f.2 (fun a h0 h => by
      by_cases z : a = 0
      · rw [z, put_at0]; exact ⟨hw, rfl⟩
      · exact ihs f.1 a h0 h z) (fun a h0 h => by
      by_cases z : a = 0
      · rw [z, put_at0]; exact ⟨hw, rfl⟩
      · exact iht f.2 a h0 h z) (fun d e hd he h => bad_two (by decide) w_since_mark w_since_within ar_since hd he h) (a := a) (by omega) (by omega)
    show Bad (if a = 0 then _ else _ : PyData × Int).1 ∧ (if a = 0 then _ else _ : PyData × Int).2 = -1
    rw [if_neg z]; exact this
/-! what the def runs to -/
theorem ge0 (a : Int) : (rb fun i j => decide (j ≤ i)) (.int a) (.int 0) = some (.bool (decide (0 ≤ a))) := rfl
theorem put_plain (F : List PyData → Option PyData) {x : PyData} (hx : isiD "tuple" x = some (.bool false)) (v a : PyData) (ks : List PyData) (hk : ks.length ≤ 100) (x4 : Option Sv) (xs : List PyData) :
    forGo (b1 4) (putB F) (x :: xs) [some (.d v), some (.d a), some (.d w), some (.own none ks), x4] = forGo (b1 4) (putB F) xs [some (.d v), some (.d a), some (.d w), some (.own none (ks ++ [x])), some (.d x)] := by
  have ap : ∀ ρ : Rho, appO 3 ρ (some (some (.own none ks))) (some x) = some (.nx (ρ.set 3 (some (.own none (ks ++ [x]))))) := fun ρ => appO_some (by omega)
  simp [hx, ap]
theorem put_sub (F : List PyData → Option PyData) {s : Sm} {f : Int → PyData × Int} (v : PyData) (a : Int) (hF : 0 ≤ a → F [enc s, .int a, w] = some (.tuple [(f a).1, .int (f a).2])) (ks : List PyData) (hk : ks.length ≤ 100) (x4 : Option Sv) (xs : List PyData) :
    ∃ x4', forGo (b1 4) (putB F) (enc s :: xs) [some (.d v), some (.d (.int a)), some (.d w), some (.own none ks), x4] = forGo (b1 4) (putB F) xs [some (.d v), some (.d (.int (inN f (enc s) a).2)), some (.d w), some (.own none (ks ++ [(inN f (enc s) a).1])), x4'] := by
  by_cases h : 0 ≤ a
  · have ap : ∀ ρ : Rho, appO 3 ρ (some (some (.own none ks))) (some (f a).1) = some (.nx (ρ.set 3 (some (.own none (ks ++ [(f a).1]))))) := fun ρ => appO_some (by omega)
    have g := ge0 a
    rw [decide_eq_true h] at g
    rw [inN_yes _ _ h]
    exact ⟨_, by simp [g, ap, hF h]; rfl⟩
  · have ap : ∀ ρ : Rho, appO 3 ρ (some (some (.own none ks))) (some (enc s)) = some (.nx (ρ.set 3 (some (.own none (ks ++ [enc s]))))) := fun ρ => appO_some (by omega)
    have g := ge0 a
    rw [decide_eq_false h] at g
    rw [inN_no _ _ h]
    exact ⟨_, by simp [g, ap]; rfl⟩
end
end My

namespace My
open PySem L2 Dn TL
section
variable {w : PyData}
theorem isi_w (x : Str) : isiD "tuple" (.str x) = some (.bool false) := isi_str x
theorem put_start (F : List PyData → Option PyData) (ds : List PyData) (a : Int) (h : a ≠ 0) : fnD 5 (gL_put F) [.tuple ds, .int a, w] = retD (seqO (fun ρ => (gRet (fTup (fCons (fCl (one1 tupleD) (fCons (fV 3) fNil)) (fCons (fV 1) fNil)))) (frz 3 ρ)) (forGo (b1 4) (putB F) ds [some (.d (.tuple ds)), some (.d (.int (a - 1))), some (.d w), some (.own none []), none])) := by
  have z : eqP (.int a) (.int 0) = some (.bool false) := by rw [eqP_i, decide_eq_false h]
  have sb : ri (fun i j => i - j) (.int a) (.int 1) = some (.int (a - 1)) := rfl
  rw [fnD_ap]
  have e : startR 5 [.tuple ds, .int a, w] = [some (.d (.tuple ds)), some (.d (.int a)), some (.d w), none, none] := rfl
  rw [e, gL_put, gSeq_ap, gIf_ap]
  simp only [fB_ap, f2_ap, fV_ap, fC_ap, List.getElem?_cons_zero, List.getElem?_cons_succ, slot_d, ap2_some, z, unB_some, iteO_f, gNx_ap, seqO_nx]
  rw [gSeq_ap, gSet_ap]
  simp only [f2_ap, fV_ap, fC_ap, List.getElem?_cons_zero, List.getElem?_cons_succ, slot_d, ap2_some, sb, setO_some, List.set_cons_succ, List.set_cons_zero, seqO_nx]
  rw [gSeq_ap, gOwn_ap]
  simp only [fNil_ap, ownO_0, List.set_cons_succ, List.set_cons_zero, seqO_nx]
  rw [gSeq_ap, gFor_ap]
  simp only [fSeq_ap, fV_ap, List.getElem?_cons_zero, slot_d, seqO1_some, seqD_t, forO_some]
theorem put_end (v : PyData) (a : Int) (ks : List PyData) (hk : ks.length ≤ 100) (x4 : Option Sv) : retD ((fun ρ => (gRet (fTup (fCons (fCl (one1 tupleD) (fCons (fV 3) fNil)) (fCons (fV 1) fNil)))) (frz 3 ρ)) [some (.d v), some (.d (.int a)), some (.d w), some (.own none ks), x4]) = some (.tuple [.tuple ks, .int a]) := by
  have t : tupleD (.list ks) = some (.tuple ks) := rfl
  simp [t]
theorem put_zero (F : List PyData → Option PyData) (ds : List PyData) : fnD 5 (gL_put F) [.tuple ds, .int 0, w] = some (.tuple [w, .int (-1)]) := by
  have z : eqP (.int 0) (.int 0) = some (.bool true) := rfl
  have n1 : negD (.int 1) = some (.int (-1)) := rfl
  rw [fnD_ap]
  have e : startR 5 [.tuple ds, .int 0, w] = [some (.d (.tuple ds)), some (.d (.int 0)), some (.d w), none, none] := rfl
  rw [e, gL_put, gSeq_ap, gIf_ap]
  simp only [fB_ap, f2_ap, f1_ap, fV_ap, fC_ap, List.getElem?_cons_zero, List.getElem?_cons_succ, slot_d, ap2_some, ap1_some, z, n1, unB_some, iteO_t, gRet_ap, fTup_ap, fCons_ap, fNil_ap, consO_some, tupO_2, retO_some, seqO_rt, retD_rt]
theorem put_1 (F : List PyData → Option PyData) {s : Sm} {x : Str} {f : Int → PyData × Int} (hF : ∀ a, 0 ≤ a → F [enc s, .int a, w] = some (.tuple [(f a).1, .int (f a).2])) {a : Int} (h : a ≠ 0) :
    fnD 5 (gL_put F) [.tuple [.str x, enc s], .int a, w] = some (.tuple [(one1P f (enc s) [.str x] a).1, .int (one1P f (enc s) [.str x] a).2]) := by
  rw [put_start F _ a h, put_plain F (isi_w x) _ _ [] (by decide)]
  obtain ⟨y, q⟩ := put_sub F (w := w) (s := s) (f := f) (.tuple [.str x, enc s]) (a - 1) (hF (a - 1)) ([] ++ [.str x]) (by simp) (some (.d (.str x))) []
  rw [q, forGo_0, seqO_nx, put_end _ _ _ (by simp)]
  rfl
theorem put_k (F : List PyData → Option PyData) {s : Sm} {k : Int} {f : Int → PyData × Int} (hF : ∀ a, 0 ≤ a → F [enc s, .int a, w] = some (.tuple [(f a).1, .int (f a).2])) {a : Int} (h : a ≠ 0) :
    fnD 5 (gL_put F) [.tuple [.str "within", .int k, enc s], .int a, w] = some (.tuple [(one1P f (enc s) [.str "within", .int k] a).1, .int (one1P f (enc s) [.str "within", .int k] a).2]) := by
  rw [put_start F _ a h, put_plain F (isi_w _) _ _ [] (by decide), put_plain F (isi_int k) _ _ _ (by decide)]
  obtain ⟨y, q⟩ := put_sub F (w := w) (s := s) (f := f) (.tuple [.str "within", .int k, enc s]) (a - 1) (hF (a - 1)) ([] ++ [.str "within"] ++ [.int k]) (by simp) (some (.d (.int k))) []
  rw [q, forGo_0, seqO_nx, put_end _ _ _ (by simp)]
  rfl
theorem put_2 (F : List PyData → Option PyData) {s t : Sm} {x : Str} {f g : Int → PyData × Int} (hF : ∀ a, 0 ≤ a → F [enc s, .int a, w] = some (.tuple [(f a).1, .int (f a).2])) (hG : ∀ a, 0 ≤ a → F [enc t, .int a, w] = some (.tuple [(g a).1, .int (g a).2])) {a : Int} (h : a ≠ 0) :
    fnD 5 (gL_put F) [.tuple [.str x, enc s, enc t], .int a, w] = some (.tuple [(two2P f g (enc s) (enc t) [.str x] a).1, .int (two2P f g (enc s) (enc t) [.str x] a).2]) := by
  rw [put_start F _ a h, put_plain F (isi_w x) _ _ [] (by decide)]
  obtain ⟨y, q⟩ := put_sub F (w := w) (s := s) (f := f) (.tuple [.str x, enc s, enc t]) (a - 1) (hF (a - 1)) ([] ++ [.str x]) (by simp) (some (.d (.str x))) [enc t]
  rw [q]
  obtain ⟨z, r⟩ := put_sub F (w := w) (s := t) (f := g) (.tuple [.str x, enc s, enc t]) (inN f (enc s) (a - 1)).2 (hG _) ([] ++ [.str x] ++ [(inN f (enc s) (a - 1)).1]) (by simp) y []
  rw [r, forGo_0, seqO_nx, put_end _ _ _ (by simp)]
  rfl
theorem putF_eq : ∀ (s : Sm) (n : Nat), s.depth ≤ n → ∀ a : Int, 0 ≤ a → putF n [enc s, .int a, w] = some (.tuple [(putS w s a).1, .int (putS w s a).2]) := by
  intro s
  induction s with
  | mark m =>
    intro n hd a h0
    cases n with
    | zero => exact absurd hd (no_dep _)
    | succ n =>
      by_cases z : a = 0
      · rw [z, put_at0]; exact put_zero _ _
      · show fnD 5 (gL_put (putF n)) [.tuple [.str "mark", .str m], .int a, w] = _
        rw [put_start _ _ a z, put_plain _ (isi_w _) _ _ [] (by decide), put_plain _ (isi_w m) _ _ _ (by decide), forGo_0, seqO_nx, put_end _ _ _ (by simp)]
        show _ = some (PyData.tuple [(if a = 0 then (w, -1) else (enc (.mark m), a - 1) : PyData × Int).1, .int (if a = 0 then (w, -1) else (enc (.mark m), a - 1) : PyData × Int).2])
        rw [if_neg z]; rfl
  | yes =>
    intro n hd a h0
    cases n with
    | zero => exact absurd hd (no_dep _)
    | succ n =>
      by_cases z : a = 0
      · rw [z, put_at0]; exact put_zero _ _
      · show fnD 5 (gL_put (putF n)) [.tuple [.str "yes"], .int a, w] = _
        rw [put_start _ _ a z, put_plain _ (isi_w _) _ _ [] (by decide), forGo_0, seqO_nx, put_end _ _ _ (by simp)]
        show _ = some (PyData.tuple [(if a = 0 then (w, -1) else (enc .yes, a - 1) : PyData × Int).1, .int (if a = 0 then (w, -1) else (enc .yes, a - 1) : PyData × Int).2])
        rw [if_neg z]; rfl
  | not s ih =>
    intro n hd a h0
    cases n with
    | zero => exact absurd hd (no_dep _)
    | succ n =>
      by_cases z : a = 0
      · rw [z, put_at0]; exact put_zero _ _
      · have := put_1 (w := w) (x := "not") (putF n) (fun b hb => ih n (by simp at hd; omega) b hb) z
        have e : putS w (.not s) a = one1P (putS w s) (enc s) [.str "not"] a := if_neg z
        rw [e]; exact this
  | nxt s ih =>
    intro n hd a h0
    cases n with
    | zero => exact absurd hd (no_dep _)
    | succ n =>
      by_cases z : a = 0
      · rw [z, put_at0]; exact put_zero _ _
      · have := put_1 (w := w) (x := "next") (putF n) (fun b hb => ih n (by simp at hd; omega) b hb) z
        have e : putS w (.nxt s) a = one1P (putS w s) (enc s) [.str "next"] a := if_neg z
        rw [e]; exact this
  | bef s ih =>
    intro n hd a h0
    cases n with
    | zero => exact absurd hd (no_dep _)
    | succ n =>
      by_cases z : a = 0
      · rw [z, put_at0]; exact put_zero _ _
      · have := put_1 (w := w) (x := "before") (putF n) (fun b hb => ih n (by simp at hd; omega) b hb) z
        have e : putS w (.bef s) a = one1P (putS w s) (enc s) [.str "before"] a := if_neg z
        rw [e]; exact this
  | wth k s ih =>
    intro n hd a h0
    cases n with
    | zero => exact absurd hd (no_dep _)
    | succ n =>
      by_cases z : a = 0
      · rw [z, put_at0]; exact put_zero _ _
      · have := put_k (w := w) (k := k) (putF n) (fun b hb => ih n (by simp at hd; omega) b hb) z
        have e : putS w (.wth k s) a = one1P (putS w s) (enc s) [.str "within", .int k] a := if_neg z
        rw [e]; exact this
  | and s t ihs iht =>
    intro n hd a h0
    cases n with
    | zero => exact absurd hd (no_dep _)
    | succ n =>
      by_cases z : a = 0
      · rw [z, put_at0]; exact put_zero _ _
      · have := put_2 (w := w) (x := "and") (putF n) (fun b hb => ihs n (by simp at hd; omega) b hb) (fun b hb => iht n (by simp at hd; omega) b hb) z
        have e : putS w (.and s t) a = two2P (putS w s) (putS w t) (enc s) (enc t) [.str "and"] a := if_neg z
        rw [e]; exact this
  | or s t ihs iht =>
    intro n hd a h0
    cases n with
    | zero => exact absurd hd (no_dep _)
    | succ n =>
      by_cases z : a = 0
      · rw [z, put_at0]; exact put_zero _ _
      · have := put_2 (w := w) (x := "or") (putF n) (fun b hb => ihs n (by simp at hd; omega) b hb) (fun b hb => iht n (by simp at hd; omega) b hb) z
        have e : putS w (.or s t) a = two2P (putS w s) (putS w t) (enc s) (enc t) [.str "or"] a := if_neg z
        rw [e]; exact this
  | unt s t ihs iht =>
    intro n hd a h0
    cases n with
    | zero => exact absurd hd (no_dep _)
    | succ n =>
      by_cases z : a = 0
      · rw [z, put_at0]; exact put_zero _ _
      · have := put_2 (w := w) (x := "until") (putF n) (fun b hb => ihs n (by simp at hd; omega) b hb) (fun b hb => iht n (by simp at hd; omega) b hb) z
        have e : putS w (.unt s t) a = two2P (putS w s) (putS w t) (enc s) (enc t) [.str "until"] a := if_neg z
        rw [e]; exact this
  | sin s t ihs iht =>
    intro n hd a h0
    cases n with
    | zero => exact absurd hd (no_dep _)
    | succ n =>
      by_cases z : a = 0
      · rw [z, put_at0]; exact put_zero _ _
      · have := put_2 (w := w) (x := "since") (putF n) (fun b hb => ihs n (by simp at hd; omega) b hb) (fun b hb => iht n (by simp at hd; omega) b hb) z
        have e : putS w (.sin s t) a = two2P (putS w s) (putS w t) (enc s) (enc t) [.str "since"] a := if_neg z
        rw [e]; exact this
end
/-! ### _law_many -/
def manyF : List PyData → Option PyData := fnD 5 (gL_many cellF)
abbrev manyB : Rho → Option Out := (gSeq (gSet 4 (f2 modD (fCa 2 cellF (fCons (fV 0) (fCons (f2 addD (fC (.int 5)) (fV 3)) fNil))) (fC (.int 3)))) (gIf (fB (f2 eqP (fV 4) (fC (.int 0)))) (gSet 2 (fTup (fCons (fC (.str "next")) (fCons (fV 2) fNil)))) (gIf (fB (f2 eqP (fV 4) (fC (.int 1)))) (gSet 2 (fTup (fCons (fC (.str "within")) (fCons (f2 modD (f2 fdivD (fCa 2 cellF (fCons (fV 0) (fCons (f2 addD (fC (.int 5)) (fV 3)) fNil))) (fC (.int 3))) (fC (.int 5))) (fCons (fV 2) fNil))))) (gSet 2 (fTup (fCons (fC (.str "until")) (fCons (fTup (fCons (fC (.str "mark")) (fCons (f2 ixD (fV 1) (f2 modD (f2 fdivD (fCa 2 cellF (fCons (fV 0) (fCons (f2 addD (fC (.int 5)) (fV 3)) fNil))) (fC (.int 3))) (fC (.int 3)))) fNil))) (fCons (fV 2) fNil))))))))
section
variable (ns : List Int) {n : Nm} (hn : n.Ok)
include hn
theorem at_ok (z : Int) : Ltr (n.at z) := by
  unfold Nm.at
  split
  · exact hn.a
  · split
    · exact hn.b
    · exact hn.d
theorem many_step (s : Sm) (hs : s.Fine) (i : Nat) (x3 x4 : Option Sv) (xs : List PyData) : ∃ t : Sm, t.Fine ∧ t.depth ≤ s.depth + 1 ∧ ∃ x4', forGo (b1 3) manyB (.int (i : Nat) :: xs) [some (.d (dI ns)), some (.d n.enc), some (.d (enc s)), x3, x4] = forGo (b1 3) manyB xs [some (.d (dI ns)), some (.d n.enc), some (.d (enc t)), some (.d (.int (i : Nat))), x4'] := by
  have ce := cell_eq ns (5 + i)
  have ad : addD (.int 5) (.int (i : Nat)) = some (.int (5 + (i : Int))) := addD_i _ _
  rw [show ((5 + i : Nat) : Int) = 5 + (i : Int) by omega] at ce
  have m3 : ∀ k : Int, modD (.int k) (.int 3) = some (.int (k % 3)) := fun k => modD_i (by decide)
  have m5 : ∀ k : Int, modD (.int k) (.int 5) = some (.int (k % 5)) := fun k => modD_i (by decide)
  have f3 : ∀ k : Int, fdivD (.int k) (.int 3) = some (.int (k / 3)) := fun k => fdivD_i ⟨by decide, by decide⟩
  generalize hc : cellAt ns (5 + i) = c at ce
  have r0 : 0 ≤ c % 3 := Int.emod_nonneg _ (by decide)
  have r1 : c % 3 < 3 := Int.emod_lt_of_pos _ (by decide)
  have q0 : 0 ≤ c / 3 % 5 := Int.emod_nonneg _ (by decide)
  have q1 : c / 3 % 5 < 5 := Int.emod_lt_of_pos _ (by decide)
  have nx := nm_ix n (c / 3)
  by_cases h0 : c % 3 = 0
  · refine ⟨.nxt s, hs, by simp, ?_⟩
    have z0 : eqP (.int (c % 3)) (.int 0) = some (.bool true) := by rw [eqP_i, decide_eq_true h0]
    exact ⟨some (.d (.int (c % 3))), by simp [ad, ce, m3, z0]; rfl⟩
  · have z0 : eqP (.int (c % 3)) (.int 0) = some (.bool false) := by rw [eqP_i, decide_eq_false h0]
    by_cases h1 : c % 3 = 1
    · refine ⟨.wth (c / 3 % 5) s, ⟨q0, by omega, hs⟩, by simp, ?_⟩
      have z1 : eqP (.int (c % 3)) (.int 1) = some (.bool true) := by rw [eqP_i, decide_eq_true h1]
      exact ⟨some (.d (.int (c % 3))), by simp [ad, ce, m3, m5, f3, z0, z1]; rfl⟩
    · refine ⟨.unt (.mark (n.at (c / 3 % 3))) s, ⟨at_ok hn _, hs⟩, ?_, ?_⟩
      · have := Sm.depth_pos s
        simp; omega
      · have z1 : eqP (.int (c % 3)) (.int 1) = some (.bool false) := by rw [eqP_i, decide_eq_false h1]
        exact ⟨some (.d (.int (c % 3))), by simp [ad, ce, m3, f3, z0, z1, nx]; rfl⟩
theorem many_go : ∀ (L : List Nat) (s : Sm), s.Fine → ∀ (x3 x4 : Option Sv), ∃ t : Sm, t.Fine ∧ t.depth ≤ s.depth + L.length ∧ ∃ x3' x4', forGo (b1 3) manyB (L.map fun (i : Nat) => .int (i : Int)) [some (.d (dI ns)), some (.d n.enc), some (.d (enc s)), x3, x4] = some (.nx [some (.d (dI ns)), some (.d n.enc), some (.d (enc t)), x3', x4'])
  | [], s, hs, x3, x4 => ⟨s, hs, Nat.le_refl _, x3, x4, rfl⟩
  | i :: L, s, hs, x3, x4 => by
    obtain ⟨t, ht, hd, y4, q⟩ := many_step ns hn s hs i x3 x4 (L.map fun (i : Nat) => .int (i : Int))
    obtain ⟨u, hu, hd', z3, z4, r⟩ := many_go L t ht (some (.d (.int (i : Nat)))) y4
    refine ⟨u, hu, ?_, z3, z4, ?_⟩
    · simp only [List.length_cons]; omega
    · rw [List.map_cons, q, r]
theorem many_eq : ∃ t : Sm, t.Fine ∧ t.depth ≤ 6 ∧ manyF [dI ns, n.enc] = some (enc t) := by
  have ce := cell_eq ns 4
  have r0 : 0 ≤ cellAt ns 4 % 6 := Int.emod_nonneg _ (by decide)
  have r1 : cellAt ns 4 % 6 < 6 := Int.emod_lt_of_pos _ (by decide)
  have i0 : ixD n.enc (.int 0) = some (.str n.a) := rfl
  have m6 : modD (.int (cellAt ns 4)) (.int 6) = some (.int (cellAt ns 4 % 6)) := modD_i (by decide)
  obtain ⟨t, ht, hd, y3, y4, q⟩ := many_go ns hn (List.range (cellAt ns 4 % 6).toNat) (.mark n.a) hn.a none none
  rw [List.length_range] at hd
  refine ⟨t, ht, by simp at hd; omega, ?_⟩
  have rg : range1D (.int (cellAt ns 4 % 6)) = some ((List.range (cellAt ns 4 % 6).toNat).map fun (i : Nat) => .int (i : Int)) := by
    have := range_int (n := (cellAt ns 4 % 6).toNat) (by omega)
    rwa [show (((cellAt ns 4 % 6).toNat : Nat) : Int) = cellAt ns 4 % 6 by omega] at this
  unfold manyF
  rw [fnD_ap]
  have e : startR 5 [dI ns, n.enc] = [some (.d (dI ns)), some (.d n.enc), none, none, none] := rfl
  rw [e, gL_many, gSeq_ap, gSet_ap]
  simp only [fTup_ap, fCons_ap, fNil_ap, f2_ap, fV_ap, fC_ap, List.getElem?_cons_zero, List.getElem?_cons_succ, slot_d, ap2_some, i0, consO_some, tupO_2, setO_some, List.set_cons_succ, List.set_cons_zero, seqO_nx]
  rw [gSeq_ap, gFor_ap]
  have ce' : cellF [dI ns, .int 4] = some (.int (cellAt ns 4)) := ce
  simp only [fR1_ap, fCa_ap, fCons_ap, fNil_ap, f2_ap, fV_ap, fC_ap, List.getElem?_cons_zero, List.getElem?_cons_succ, slot_d, ap2_some, consO_some, caO_2, ce', m6, seqO1_some, rg, forO_some]
  have q' : forGo (b1 3) manyB ((List.range (cellAt ns 4 % 6).toNat).map fun (i : Nat) => .int (i : Int)) [some (.d (dI ns)), some (.d n.enc), some (.d (.tuple [.str "mark", .str n.a])), none, none] = _ := q
  rw [q', seqO_nx, gRet_ap]
  simp only [fV_ap, List.getElem?_cons_zero, List.getElem?_cons_succ, slot_d, retO_some, retD_rt]
end
end My

namespace My
open PySem L2 Dn TL
/-! ### _law_spoilt -/
def spF : List PyData → Option PyData := fnD 7 (gL_spoilt cellF (allF 14) noF (putF 14) manyF)
abbrev spB : Rho → Option Out := (gSet 2 (f2 ixD (fLst (fCons (fTup (fCons (fC (.str "not")) (fCons (fV 2) fNil))) (fCons (fTup (fCons (fC (.str "and")) (fCons (fTup (fCons (fC (.str "yes")) fNil)) (fCons (fV 2) fNil)))) fNil))) (f2 modD (f2 fdivD (f2 fdivD (fV 3) (fC (.int 24))) (f2 addD (fV 6) (fC (.int 1)))) (fC (.int 2)))))
theorem ix2 (x y : PyData) (z : Int) : ixD (.list [x, y]) (.int (z % 2)) = some (if z % 2 = 0 then x else y) := by
  have h0 : 0 ≤ z % 2 := Int.emod_nonneg _ (by decide)
  have h1 : z % 2 < 2 := Int.emod_lt_of_pos _ (by decide)
  by_cases h : z % 2 = 0
  · rw [if_pos h, h]; rfl
  · rw [if_neg h, show z % 2 = 1 by omega]; rfl
theorem sp_step (ns : PyData) (nm : PyData) (s : Sm) (hs : s.Fine) (v : Int) (i : Nat) (hi : i ≤ 10) (x4 x5 x6 : Option Sv) (xs : List PyData) : ∃ t : Sm, t.Fine ∧ t.depth ≤ s.depth + 1 ∧ forGo (b1 6) spB (.int (i : Nat) :: xs) [some (.d ns), some (.d nm), some (.d (enc s)), some (.d (.int v)), x4, x5, x6] = forGo (b1 6) spB xs [some (.d ns), some (.d nm), some (.d (enc t)), some (.d (.int v)), x4, x5, some (.d (.int (i : Nat)))] := by
  have ad : addD (.int (i : Nat)) (.int 1) = some (.int ((i : Int) + 1)) := addD_i _ _
  have f24 : fdivD (.int v) (.int 24) = some (.int (v / 24)) := fdivD_i ⟨by decide, by decide⟩
  have fi : fdivD (.int (v / 24)) (.int ((i : Int) + 1)) = some (.int (v / 24 / ((i : Int) + 1))) := fdivD_i ⟨by omega, by omega⟩
  have m2 : modD (.int (v / 24 / ((i : Int) + 1))) (.int 2) = some (.int (v / 24 / ((i : Int) + 1) % 2)) := modD_i (by decide)
  have ix := ix2 (enc (.not s)) (enc (.and .yes s)) (v / 24 / ((i : Int) + 1))
  have l2 : lstO (some [PyData.tuple [.str "not", enc s], .tuple [.str "and", .tuple [.str "yes"], enc s]]) = some (.list [enc (.not s), enc (.and .yes s)]) := rfl
  by_cases h : v / 24 / ((i : Int) + 1) % 2 = 0
  · refine ⟨.not s, hs, by simp, ?_⟩
    rw [if_pos h] at ix
    unfold spB
    rw [forGo_c, b1_ap, forB_some, gSet_ap]
    simp only [f2_ap, fLst_ap, fTup_ap, fCons_ap, fNil_ap, fV_ap, fC_ap, List.getElem?_cons_zero, List.getElem?_cons_succ, List.set_cons_succ, List.set_cons_zero, slot_d, ap2_some, consO_some, tupO_1, tupO_2, tupO_3, l2, ad, f24, fi, m2, ix, setO_some, forN_nx]
  · refine ⟨.and .yes s, ⟨trivial, hs⟩, ?_, ?_⟩
    · have := Sm.depth_pos s
      simp; omega
    · rw [if_neg h] at ix
      unfold spB
      rw [forGo_c, b1_ap, forB_some, gSet_ap]
      simp only [f2_ap, fLst_ap, fTup_ap, fCons_ap, fNil_ap, fV_ap, fC_ap, List.getElem?_cons_zero, List.getElem?_cons_succ, List.set_cons_succ, List.set_cons_zero, slot_d, ap2_some, consO_some, tupO_1, tupO_2, tupO_3, l2, ad, f24, fi, m2, ix, setO_some, forN_nx]
theorem sp_go (ns nm : PyData) (v : Int) (x4 x5 : Option Sv) : ∀ (L : List Nat) (s : Sm), s.Fine → (∀ i ∈ L, i ≤ 10) → ∀ x6 : Option Sv, ∃ t : Sm, t.Fine ∧ t.depth ≤ s.depth + L.length ∧ ∃ x6', forGo (b1 6) spB (L.map fun (i : Nat) => .int (i : Int)) [some (.d ns), some (.d nm), some (.d (enc s)), some (.d (.int v)), x4, x5, x6] = some (.nx [some (.d ns), some (.d nm), some (.d (enc t)), some (.d (.int v)), x4, x5, x6'])
  | [], s, hs, _, x6 => ⟨s, hs, Nat.le_refl _, x6, rfl⟩
  | i :: L, s, hs, hL, x6 => by
    obtain ⟨t, ht, hd, q⟩ := sp_step ns nm s hs v i (hL i (by simp)) x4 x5 x6 (L.map fun (i : Nat) => .int (i : Int))
    obtain ⟨u, hu, hd', z6, r⟩ := sp_go ns nm v x4 x5 L t ht (fun j hj => hL j (by simp [hj])) (some (.d (.int (i : Nat))))
    refine ⟨u, hu, ?_, z6, ?_⟩
    · simp only [List.length_cons]; omega
    · rw [List.map_cons, q, r]
theorem ix3 (x y u : PyData) (z : Int) : ixD (.list [x, y, u]) (.int (z % 3)) = some (if z % 3 = 0 then x else if z % 3 = 1 then y else u) := by
  have h0 : 0 ≤ z % 3 := Int.emod_nonneg _ (by decide)
  have h1 : z % 3 < 3 := Int.emod_lt_of_pos _ (by decide)
  by_cases h : z % 3 = 0
  · rw [if_pos h, h]; rfl
  · rw [if_neg h]
    by_cases g : z % 3 = 1
    · rw [if_pos g, g]; rfl
    · rw [if_neg g, show z % 3 = 2 by omega]; rfl
/-- what _law_spoilt may come to -/
def Spoilt (d : PyData) (b : Bool) : Prop := (b = true ∧ Bad d) ∨ (b = false ∧ ∃ t : Sm, d = enc t ∧ t.Fine ∧ t.depth ≤ 9)
theorem sp_eq (ns : List Int) {n : Nm} (hn : n.Ok) {s : Sm} (hs : s.Fine) (hd : s.depth ≤ 6) : ∃ d b, spF [dI ns, n.enc, enc s] = some (.tuple [d, .bool b]) ∧ Spoilt d b := by
  have ce : cellF [dI ns, .int 1] = some (.int (cellAt ns 1)) := cell_eq ns 1
  have f8 : fdivD (.int (cellAt ns 1)) (.int 8) = some (.int (cellAt ns 1 / 8)) := fdivD_i ⟨by decide, by decide⟩
  unfold spF
  rw [fnD_ap]
  have e : startR 7 [dI ns, n.enc, enc s] = [some (.d (dI ns)), some (.d n.enc), some (.d (enc s)), none, none, none, none] := rfl
  rw [e, gL_spoilt, gSeq_ap, gSet_ap]
  simp only [fCa_ap, fCons_ap, fNil_ap, f2_ap, fV_ap, fC_ap, List.getElem?_cons_zero, List.getElem?_cons_succ, slot_d, ap2_some, consO_some, caO_2, ce, f8, setO_some, List.set_cons_succ, List.set_cons_zero, seqO_nx]
  generalize cellAt ns 1 / 8 = v
  have r0 : 0 ≤ v % 6 := Int.emod_nonneg _ (by decide)
  have r1 : v % 6 < 6 := Int.emod_lt_of_pos _ (by decide)
  have m6 : modD (.int v) (.int 6) = some (.int (v % 6)) := modD_i (by decide)
  have d6 : fdivD (.int v) (.int 6) = some (.int (v / 6)) := fdivD_i ⟨by decide, by decide⟩
  have d60 : fdivD (.int v) (.int 60) = some (.int (v / 60)) := fdivD_i ⟨by decide, by decide⟩
  have m3 : modD (.int (v / 6)) (.int 3) = some (.int (v / 6 % 3)) := modD_i (by decide)
  have m4 : modD (.int (v / 6)) (.int 4) = some (.int (v / 6 % 4)) := modD_i (by decide)
  rw [gSeq_ap, gIf_ap]
  simp only [fB_ap, f2_ap, fV_ap, fC_ap, List.getElem?_cons_zero, List.getElem?_cons_succ, slot_d, ap2_some, m6, eqP_i, unB_some]
  by_cases h0 : v % 6 = 0
  · rw [decide_eq_true h0]
    have lp := len_pos s
    have ml : modD (.int (v / 6)) (.int ((allS s).length : Nat)) = some (.int (v / 6 % ((allS s).length : Nat))) := modD_i (by omega)
    have a0 : 0 ≤ v / 6 % ((allS s).length : Nat) := Int.emod_nonneg _ (by omega)
    have a1 : v / 6 % ((allS s).length : Nat) < ((allS s).length : Nat) := Int.emod_lt_of_pos _ (by omega)
    have al := allF_eq s 14 (by omega) (by omega)
    have ln : one1 lenD [.list ((allS s).map enc)] = some (.int ((allS s).length : Nat)) := by
      rw [one1_ap, lenD_l, List.length_map]
    obtain ⟨w, hw, bw⟩ := no_eq hn.a hn.b n.d (v / 60)
    have hw' : noF [.int (v / 60), n.enc] = some w := hw
    have pu := putF_eq (w := w) s 14 (by omega) _ a0
    have pb := (put_bad bw s hs _ a0 a1).1
    refine ⟨_, true, ?_, .inl ⟨rfl, pb⟩⟩
    have ix : ∀ x y : PyData, ixD (.tuple [x, y]) (.int 0) = some x := fun _ _ => rfl
    simp only [iteO_t]
    rw [gSeq_ap, gSet_ap]
    simp only [fCl_ap, fCa_ap, fCons_ap, fNil_ap, f2_ap, fV_ap, fC_ap, List.getElem?_cons_zero, List.getElem?_cons_succ, slot_d, ap2_some, consO_some, caO_1, clO_some, al, ln, d6, ml, setO_some, List.set_cons_succ, List.set_cons_zero, seqO_nx]
    rw [gRet_ap]
    simp only [fTup_ap, fCa_ap, fCons_ap, fNil_ap, f2_ap, fV_ap, fC_ap, List.getElem?_cons_zero, List.getElem?_cons_succ, slot_d, ap2_some, consO_some, caO_2, caO_3, d60, hw', pu, ix, tupO_2, retO_some, seqO_rt, retD_rt]
  · rw [decide_eq_false h0]
    simp only [iteO_f, gNx_ap, seqO_nx]
    rw [gSeq_ap, gIf_ap]
    simp only [fB_ap, f2_ap, fV_ap, fC_ap, List.getElem?_cons_zero, List.getElem?_cons_succ, slot_d, ap2_some, m6, eqP_i, unB_some]
    by_cases h1 : v % 6 = 1
    · rw [decide_eq_true h1]
      have ix := ix3 (enc (.bef s)) (enc (.sin s .yes)) (enc (.sin .yes s)) (v / 6)
      have dp := Sm.depth_pos s
      have hx : ∃ t : Sm, (if v / 6 % 3 = 0 then enc (.bef s) else if v / 6 % 3 = 1 then enc (.sin s .yes) else enc (.sin .yes s)) = enc t ∧ t.Fine ∧ t.depth ≤ 9 := by
        split
        · exact ⟨_, rfl, hs, by simp; omega⟩
        · split
          · exact ⟨.sin s .yes, rfl, ⟨hs, trivial⟩, by simp; omega⟩
          · exact ⟨.sin .yes s, rfl, ⟨trivial, hs⟩, by simp; omega⟩
      obtain ⟨t, e2, ht, hdt⟩ := hx
      rw [e2] at ix
      refine ⟨enc t, false, ?_, .inr ⟨rfl, t, rfl, ht, hdt⟩⟩
      have l3 : lstO (some [PyData.tuple [.str "before", enc s], .tuple [.str "since", enc s, .tuple [.str "yes"]], .tuple [.str "since", .tuple [.str "yes"], enc s]]) = some (.list [enc (.bef s), enc (.sin s .yes), enc (.sin .yes s)]) := rfl
      simp only [iteO_t]
      rw [gSeq_ap, gSet_ap]
      simp only [fLst_ap, fTup_ap, fCons_ap, fNil_ap, f2_ap, fV_ap, fC_ap, List.getElem?_cons_zero, List.getElem?_cons_succ, slot_d, consO_some, tupO_1, tupO_2, tupO_3, l3, setO_some, List.set_cons_succ, List.set_cons_zero, seqO_nx]
      rw [gRet_ap]
      simp only [fTup_ap, fCons_ap, fNil_ap, f2_ap, fV_ap, fC_ap, List.getElem?_cons_zero, List.getElem?_cons_succ, slot_d, ap2_some, consO_some, d6, m3, ix, tupO_2, retO_some, seqO_rt, retD_rt]
    · rw [decide_eq_false h1]
      simp only [iteO_f, gNx_ap, seqO_nx]
      rw [gSeq_ap, gIf_ap]
      simp only [fB_ap, f2_ap, fV_ap, fC_ap, List.getElem?_cons_zero, List.getElem?_cons_succ, slot_d, ap2_some, m6, eqP_i, unB_some]
      have fin : ∀ (t : Sm), t.Fine → t.depth ≤ 9 → v % 6 ≠ 3 → ∀ x6, ∃ d b, retD (gSeq (gIf (fB (f2 eqP (f2 modD (fV 3) (fC (.int 6))) (fC (.int 3)))) (gRet (fTup (fCons (fCa 2 manyF (fCons (fV 0) (fCons (fV 1) fNil))) (fCons (fC (.bool false)) fNil)))) gNx) (gRet (fTup (fCons (fV 2) (fCons (fC (.bool false)) fNil)))) [some (.d (dI ns)), some (.d n.enc), some (.d (enc t)), some (.d (.int v)), none, none, x6]) = some (.tuple [d, .bool b]) ∧ Spoilt d b := fun t ht hdt h3 x6 => by
        refine ⟨enc t, false, ?_, .inr ⟨rfl, t, rfl, ht, hdt⟩⟩
        rw [gSeq_ap, gIf_ap]
        simp only [fB_ap, f2_ap, fV_ap, fC_ap, List.getElem?_cons_zero, List.getElem?_cons_succ, slot_d, ap2_some, m6, eqP_i, unB_some, decide_eq_false h3, iteO_f, gNx_ap, seqO_nx, gRet_ap, fTup_ap, fCons_ap, fNil_ap, consO_some, tupO_2, retO_some, retD_rt]
      by_cases h2 : v % 6 = 2
      · rw [decide_eq_true h2]
        have q0 : 0 ≤ v / 6 % 4 := Int.emod_nonneg _ (by decide)
        have q1 : v / 6 % 4 < 4 := Int.emod_lt_of_pos _ (by decide)
        obtain ⟨t, ht, hdt, y, q⟩ := sp_go (dI ns) n.enc v none none (List.range (v / 6 % 4).toNat) s hs (fun i hi => by have := List.mem_range.mp hi; omega) none
        rw [List.length_range] at hdt
        have rg : range1D (.int (v / 6 % 4)) = some ((List.range (v / 6 % 4).toNat).map fun (i : Nat) => .int (i : Int)) := by
          have := range_int (n := (v / 6 % 4).toNat) (by omega)
          rwa [show (((v / 6 % 4).toNat : Nat) : Int) = v / 6 % 4 by omega] at this
        simp only [iteO_t, gFor_ap, fR1_ap, f2_ap, fV_ap, fC_ap, List.getElem?_cons_zero, List.getElem?_cons_succ, slot_d, ap2_some, d6, m4, seqO1_some, rg, forO_some]
        rw [q, seqO_nx]
        exact fin t ht (by omega) (by omega) y
      · rw [decide_eq_false h2]
        simp only [iteO_f, gNx_ap, seqO_nx]
        by_cases h3 : v % 6 = 3
        · obtain ⟨t, ht, hdt, q⟩ := many_eq ns hn
          refine ⟨enc t, false, ?_, .inr ⟨rfl, t, rfl, ht, by omega⟩⟩
          rw [gSeq_ap, gIf_ap]
          simp only [fB_ap, f2_ap, fV_ap, fC_ap, List.getElem?_cons_zero, List.getElem?_cons_succ, slot_d, ap2_some, m6, eqP_i, unB_some, decide_eq_true h3, iteO_t, gRet_ap, fTup_ap, fCa_ap, fCons_ap, fNil_ap, consO_some, caO_2, q, tupO_2, retO_some, seqO_rt, retD_rt]
        · exact fin s hs (by omega) h3 none
end My

namespace My
open PySem L2 Dn TL
/-! ### _law_deep -/
def deepF : Nat → List PyData → Option PyData
  | 0 => fun _ => none
  | n + 1 => fnD 2 (gL_deep (deepF n))
theorem max1 (a : Int) (h : 0 ≤ a) : maxD (.list [.int a, .int 0]) = some (.int a) := by
  show some (PyData.int (max a 0)) = _
  rw [Int.max_eq_left h]
theorem max2 (a b : Int) (h : 0 ≤ a) (h' : 0 ≤ b) : maxD (.list [.int a, .int b, .int 0]) = some (.int (max a b)) := by
  show some (PyData.int (max (max a b) 0)) = _
  rw [Int.max_eq_left (by omega)]
theorem max0 : maxD (.list [.int 0]) = some (.int 0) := rfl
theorem sl_t (x : PyData) (xs : List PyData) : slD (some 1) none (.tuple (x :: xs)) = some (.tuple xs) := sl_one x xs
theorem deep_run (F : List PyData → Option PyData) (x : PyData) (xs : List PyData) (ds : List PyData) (hl : xs.length ≤ 100) (hd : ds.length ≤ 100) (v0 : Option Sv) (h : lcGo (b1 1) (fB (f1 (isiD "tuple") (fV 1))) (fCa 1 F (fCons (fV 1) fNil)) [some (.d (.tuple (x :: xs))), none] xs = some ds) {m : Int} (hm : maxD (.list (ds ++ [.int 0])) = some (.int m)) : fnD 2 (gL_deep F) [.tuple (x :: xs)] = some (.int (1 + m)) := by
  have ad : addD (.list ds) (.list [.int 0]) = some (.list (ds ++ [.int 0])) := addD_l (by simp; omega)
  rw [fnD_ap]
  have e : startR 2 [.tuple (x :: xs)] = [some (.d (.tuple (x :: xs))), none] := rfl
  rw [e, gL_deep, gRet_ap]
  simp only [f2_ap, fCl_ap, fCons_ap, fNil_ap, fLc_ap, fSeq_ap, fSl_ap, fO_ap, fO0_ap, fLst_ap, fV_ap, fC_ap, List.getElem?_cons_zero, slot_d, intO_some, slO_some, sl_one, seqO1_some, seqD_t, wipeR_c, wipeR_0, List.set_cons_succ, List.set_cons_zero, lcO_some (show xs.length ≤ 100000 by omega), h, Option.map_some, consO_some, lstO_1, ap2_some, ad, clO_some, one1_ap, hm, addD_i, retO_some, retD_rt]
theorem deep_eq : ∀ (s : Sm) (n : Nat), s.depth ≤ n → deepF n [enc s] = some (.int (s.depth : Nat)) := by
  intro s
  induction s with
  | mark m =>
    intro n hd
    cases n with
    | zero => exact absurd hd (no_dep _)
    | succ n =>
      refine deep_run (deepF n) (.str "mark") [.str m] [] (by simp) (by simp) none ?_ max0
      simp
  | yes =>
    intro n hd
    cases n with
    | zero => exact absurd hd (no_dep _)
    | succ n => exact deep_run (deepF n) (.str "yes") [] [] (by simp) (by simp) none rfl max0
  | not s ih | nxt s ih | bef s ih =>
    intro n hd
    cases n with
    | zero => exact absurd hd (no_dep _)
    | succ n =>
      have i := ih n (by simp at hd; omega)
      refine (deep_run (deepF n) _ [enc s] [.int (s.depth : Nat)] (by simp) (by simp) none (by simp [i]) (max1 _ (by omega))).trans ?_
      congr 2
      simp; omega
  | wth k s ih =>
    intro n hd
    cases n with
    | zero => exact absurd hd (no_dep _)
    | succ n =>
      have i := ih n (by simp at hd; omega)
      have := deep_run (deepF n) (.str "within") [.int k, enc s] [.int (s.depth : Nat)] (by simp) (by simp) none (by simp [i]) (max1 _ (by omega))
      refine this.trans ?_
      congr 2
      simp; omega
  | and s t ihs iht | or s t ihs iht | unt s t ihs iht | sin s t ihs iht =>
    intro n hd
    cases n with
    | zero => exact absurd hd (no_dep _)
    | succ n =>
      have i := ihs n (by simp at hd; omega)
      have j := iht n (by simp at hd; omega)
      refine (deep_run (deepF n) _ [enc s, enc t] [.int (s.depth : Nat), .int (t.depth : Nat)] (by simp) (by simp) none (by simp [i, j]) (max2 _ _ (by omega) (by omega))).trans ?_
      congr 2
      simp; omega
/-! ### what looks ahead, what is mixed: the law's and the program's -/
def Sm.ah : Sm → Bool
  | .nxt _ | .unt _ _ | .wth _ _ => true
  | _ => false
def ahS (s : Sm) : Bool := (allS s).any Sm.ah
def mixS (s : Sm) : Bool := (allS s).any fun x => x.past && ahS x
theorem ah_word (s : Sm) : inP (.str s.word) (.tuple [.str "next", .str "until", .str "within"]) = some (.bool s.ah) := by
  rw [in3]
  cases s <;> simp only [Sm.word, Sm.ah] <;> congr 2 <;> decide +kernel
theorem allb (s : Sm) (h : s.depth ≤ 14) : ((allS s).map enc).length ≤ 20000 := by
  have := stand_big h
  rwa [List.length_map, stand_len, ← List.length_map (f := enc)] at this
theorem ne_encs {xs : List Sm} (h : Oks xs) : neP (.list (xs.map enc)) (.list []) = some (.bool (!xs.isEmpty)) := by
  have e : eqD (.list (xs.map enc)) (.list []) = if (SeqAt.shaped (.list (xs.map enc)) && SeqAt.shaped (.list [])) = true then some (PyData.eqv (.list (xs.map enc)) (.list [])) else none := rfl
  have sh : SeqAt.shaped (PyData.list []) = true := by decide +kernel
  have ev : PyData.eqv (.list (xs.map enc)) (.list []) = xs.isEmpty := by
    simp only [PyData.eqv]
    cases xs with
    | nil => rw [List.map_nil, eqvAll_0]; rfl
    | cons x r => rw [List.map_cons, PyData.eqvAll]; rfl; all_goals (intros; simp_all)
  unfold neP
  rw [e, shaped_encs h, sh, ev]
  rfl
theorem any_filter {α : Type} (p : α → Bool) : ∀ xs : List α, (!(xs.filter p).isEmpty) = xs.any p
  | [] => rfl
  | x :: xs => by
    rw [List.filter_cons, List.any_cons]
    cases h : p x with
    | true => simp
    | false => simp [any_filter p xs]
theorem all_oks {s : Sm} (h : s.Fine) (hd : s.depth ≤ 60) : Oks (allS s) := fun x hx => by
  have := fine_all s h x hx
  exact ⟨this.1, by omega⟩
def aheadF : List PyData → Option PyData := fnD 2 (gL_ahead (allF 14))
theorem ahead_eq {s : Sm} (h : s.Fine) (hd : s.depth ≤ 14) : aheadF [enc s] = some (.bool (ahS s)) := by
  have al := allF_eq s 14 hd hd
  have b := allb s hd
  have q := lc_filter (bd := b1 1) (t := fB (f2 inP (f2 ixD (fV 1) (fC (.int 0))) (fTup (fCons (fC (.str "next")) (fCons (fC (.str "until")) (fCons (fC (.str "within")) fNil)))))) (f := fV 1) (ρ := [some (.d (enc s)), none]) enc Sm.ah enc (allS s) (by
    intro x _
    have w := ah_word x
    refine ⟨_, rfl, ?_, rfl⟩
    have i := ix_word x
    simp only [fB_ap, f2_ap, fTup_ap, fCons_ap, fNil_ap, fV_ap, fC_ap, List.set_cons_succ, List.set_cons_zero, List.getElem?_cons_zero, List.getElem?_cons_succ, slot_d, ap2_some, i, consO_some, tupO_3, w, unB_some])
  have n := ne_encs (xs := (allS s).filter Sm.ah) (fun x hx => all_oks h (by omega) x (List.mem_filter.mp hx).1)
  rw [any_filter] at n
  unfold aheadF
  rw [fnD_ap]
  have e : startR 2 [enc s] = [some (.d (enc s)), none] := rfl
  rw [e, gL_ahead, gRet_ap]
  simp only [f2_ap, fLc_ap, fSeq_ap, fCa_ap, fCons_ap, fNil_ap, fLst_ap, fV_ap, List.getElem?_cons_zero, slot_d, consO_some, caO_1, al, seqO1_some, seqD_l, wipeR_c, wipeR_0, List.set_cons_succ, List.set_cons_zero, lcO_some (show ((allS s).map enc).length ≤ 100000 by omega), q, Option.map_some, lstO_0, ap2_some, n, retO_some, retD_rt]
  rfl
def mixedF : List PyData → Option PyData := fnD 2 (gL_mixed (allF 14) aheadF)
abbrev mixB : Rho → Option Out := (gIf (fAndT (fB (f2 inP (f2 ixD (fV 1) (fC (.int 0))) (fTup (fCons (fC (.str "before")) (fCons (fC (.str "since")) fNil))))) (fB (fCa 1 aheadF (fCons (fV 1) fNil)))) (gRet (fC (.bool true))) gNx)
theorem mix_go (v : PyData) : ∀ (xs : List Sm), (∀ x ∈ xs, x.Fine ∧ x.depth ≤ 14) → ∀ x1 : Option Sv, (if xs.any (fun x => x.past && ahS x) then ∃ ρ, forGo (b1 1) mixB (xs.map enc) [some (.d v), x1] = some (.rt (.bool true) ρ) else ∃ y, forGo (b1 1) mixB (xs.map enc) [some (.d v), x1] = some (.nx [some (.d v), y]))
  | [], _, x1 => by
    rw [if_neg (by simp)]
    exact ⟨x1, rfl⟩
  | x :: xs, h, x1 => by
    have w := past_word x
    have i := ix_word x
    have a := ahead_eq (h x (by simp)).1 (h x (by simp)).2
    have ih := mix_go v xs (fun y hy => h y (by simp [hy])) (some (.d (enc x)))
    have t2 : ∀ a b : PyData, tupO (some [a, b]) = some (.tuple [a, b]) := fun _ _ => rfl
    have stp : forGo (b1 1) mixB ((x :: xs).map enc) [some (.d v), x1] = if (x.past && ahS x) = true then some (.rt (.bool true) [some (.d v), some (.d (enc x))]) else forGo (b1 1) mixB (xs.map enc) [some (.d v), some (.d (enc x))] := by
      rw [List.map_cons, forGo_c, b1_ap, forB_some]
      unfold mixB
      rw [gIf_ap]
      simp only [fAndT_ap, fB_ap, f2_ap, fTup_ap, fCa_ap, fCons_ap, fNil_ap, fV_ap, fC_ap, List.set_cons_succ, List.set_cons_zero, List.getElem?_cons_zero, List.getElem?_cons_succ, slot_d, ap2_some, i, consO_some, caO_1, t2, w, a, unB_some]
      cases x.past with
      | false => simp only [andT_f, iteO_f, gNx_ap, forN_nx, Bool.false_and]; rfl
      | true =>
        cases ahS x with
        | false => simp only [andT_t, iteO_f, gNx_ap, forN_nx, Bool.true_and]; rfl
        | true => simp only [andT_t, iteO_t, gRet_ap, fC_ap, retO_some, forN_rt, Bool.true_and]; rfl
    rw [stp, List.any_cons]
    cases hb : (x.past && ahS x) with
    | true =>
      rw [Bool.true_or, if_pos rfl, if_pos rfl]
      exact ⟨_, rfl⟩
    | false =>
      simp only [Bool.false_or, Bool.false_eq_true, if_false]
      exact ih
theorem mixed_eq {s : Sm} (h : s.Fine) (hd : s.depth ≤ 14) : mixedF [enc s] = some (.bool (mixS s)) := by
  have al := allF_eq s 14 hd hd
  have go := mix_go (enc s) (allS s) (fun x hx => by have := fine_all s h x hx; exact ⟨this.1, by omega⟩) none
  unfold mixedF
  rw [fnD_ap]
  have e : startR 2 [enc s] = [some (.d (enc s)), none] := rfl
  rw [e, gL_mixed, gSeq_ap, gFor_ap]
  simp only [fSeq_ap, fCa_ap, fCons_ap, fNil_ap, fV_ap, List.getElem?_cons_zero, slot_d, consO_some, caO_1, al, seqO1_some, seqD_l, forO_some]
  unfold mixS
  cases hb : (allS s).any (fun x => x.past && ahS x) with
  | true =>
    rw [if_pos hb] at go
    obtain ⟨ρ, q⟩ := go
    rw [q]; rfl
  | false =>
    rw [if_neg (by rw [hb]; decide)] at go
    obtain ⟨y, q⟩ := go
    rw [q]; rfl
theorem gAny_encs {t : Rho → Option Bool} {f : Rho → Option PyData} {ρ : Rho} (p : Sm → Bool) : ∀ xs : List Sm, (∀ x ∈ xs, ∃ ρ1, b1 0 (enc x) ρ = some ρ1 ∧ t ρ1 = some true ∧ f ρ1 = some (.bool (p x))) → gAny true (b1 0) t f ρ (xs.map enc) = some (xs.any p)
  | [], _ => rfl
  | x :: xs, h => by
    obtain ⟨ρ1, e1, e2, e3⟩ := h x (by simp)
    have ih := gAny_encs (t := t) (f := f) (ρ := ρ) p xs fun y hy => h y (by simp [hy])
    rw [List.map_cons, gAny, e1]
    simp only [Option.bind_some, e2, if_true, fB_ap, e3, unB_some]
    rw [List.any_cons]
    cases p x with
    | true => rfl
    | false => rw [if_neg (by decide), ih]; rfl
def looksF : List PyData → Option PyData := fnD 1 (glooks_ahead (standF 14))
theorem stand_any (p : Sm → Bool) (s : Sm) : (stand s).any p = (allS s).any p := by
  rw [Bool.eq_iff_iff, List.any_eq_true, List.any_eq_true]
  exact ⟨fun ⟨x, h, g⟩ => ⟨x, (stand_mem x s).mp h, g⟩, fun ⟨x, h, g⟩ => ⟨x, (stand_mem x s).mpr h, g⟩⟩
theorem looks_eq {s : Sm} (hd : s.depth ≤ 14) : looksF [enc s] = some (.bool (ahS s)) := by
  have e1 := standF_eq s 14 hd hd
  have q := gAny_encs (t := tYesD) (f := f2 inP (f2 ixD (fV 0) (fC (.int 0))) (fC (.tuple [(.str "next"), (.str "until"), (.str "within")]))) (ρ := [none]) Sm.ah (stand s) (fun x _ => by
    have w := ah_word x
    have i := ix_word x
    refine ⟨_, rfl, rfl, ?_⟩
    simp only [f2_ap, fV_ap, fC_ap, List.set_cons_zero, List.getElem?_cons_zero, slot_d, ap2_some, i, w])
  unfold looksF
  rw [fnD_ap]
  have e : startR 1 [enc s] = [some (.d (enc s))] := rfl
  rw [e, glooks_ahead, gRet_ap]
  unfold fAnyG
  have pk : pickR [some (.d (enc s))] [none] = [none] := rfl
  simp only [fSeq_ap, fCa_ap, fCons_ap, fNil_ap, fV_ap, List.getElem?_cons_zero, slot_d, consO_some, caO_1, e1, seqO1_some, seqD_l, Option.bind_some, pk, q, Option.map_some, retO_some, retD_rt, stand_any]
  rfl
def isMixF : List PyData → Option PyData := fnD 1 (gis_mixed pastsF looksF)
theorem pasts_any (s : Sm) : (pastsS s).any ahS = mixS s := by
  unfold mixS
  rw [Bool.eq_iff_iff, List.any_eq_true, List.any_eq_true]
  exact ⟨fun ⟨x, h, g⟩ => ⟨x, ((pasts_mem s x).mp h).1, by rw [((pasts_mem s x).mp h).2, g]; rfl⟩, fun ⟨x, h, g⟩ => by
    rw [Bool.and_eq_true] at g
    exact ⟨x, (pasts_mem s x).mpr ⟨h, g.1⟩, g.2⟩⟩
theorem isMix_eq {s : Sm} (h : s.Fine) (hd : s.depth ≤ 14) : isMixF [enc s] = some (.bool (mixS s)) := by
  have e1 := pastsF_eq h hd
  have q := gAny_encs (t := tYesD) (f := fCa 1 looksF (fCons (fV 0) fNil)) (ρ := [none]) ahS (pastsS s) (fun x hx => by
    have := fine_all s h x ((pasts_mem s x).mp hx).1
    refine ⟨_, rfl, rfl, ?_⟩
    simp only [fCa_ap, fCons_ap, fNil_ap, fV_ap, List.set_cons_zero, List.getElem?_cons_zero, slot_d, consO_some, caO_1, looks_eq (show x.depth ≤ 14 by omega)])
  unfold isMixF
  rw [fnD_ap]
  have e : startR 1 [enc s] = [some (.d (enc s))] := rfl
  rw [e, gis_mixed, gRet_ap]
  unfold fAnyG
  have pk : pickR [some (.d (enc s))] [none] = [none] := rfl
  have of : ofF pastsF [enc s] = some (.list ((pastsS s).map enc)) := by unfold ofF; rw [e1]; rfl
  simp only [fSeq_ap, fCa_ap, fCons_ap, fNil_ap, fV_ap, List.getElem?_cons_zero, slot_d, consO_some, caO_1, of, seqO1_some, seqD_l, Option.bind_some, pk, q, Option.map_some, retO_some, retD_rt, pasts_any]
/-! not mixed, so nothing that looks back looks ahead -/
theorem flat_of {s : Sm} (h : ahS s = false) : s.flat := fun u hu => by
  have : u.ah = false := by
    unfold ahS at h
    rw [List.any_eq_false] at h
    simpa using h u hu
  cases u <;> first | exact absurd (show true = false from this) (by decide) | exact ⟨rfl, rfl, fun a => by simp⟩
theorem all_any_self {s : Sm} (p : Sm → Bool) (h : (allS s).any p = false) : p s = false := by
  rw [List.any_eq_false] at h
  simpa using h s (all_self s)
theorem nm_of : ∀ {s : Sm}, mixS s = false → s.NM := by
  intro s
  induction s with
  | mark m => exact fun _ => trivial
  | yes => exact fun _ => trivial
  | not s ih | nxt s ih | wth k s ih =>
    intro h
    refine ih ?_
    unfold mixS at h ⊢
    rw [allS, List.any_cons, Bool.or_eq_false_iff] at h
    exact h.2
  | and s t ihs iht | or s t ihs iht | unt s t ihs iht =>
    intro h
    unfold mixS at h
    rw [allS, List.any_cons, List.any_append, Bool.or_eq_false_iff, Bool.or_eq_false_iff] at h
    exact ⟨ihs h.2.1, iht h.2.2⟩
  | bef s ih =>
    intro h
    have hs := all_any_self _ h
    have ha : ahS (.bef s) = false := by simpa [Sm.past] using hs
    unfold mixS at h
    rw [allS, List.any_cons, Bool.or_eq_false_iff] at h
    unfold ahS at ha
    rw [allS, List.any_cons, Bool.or_eq_false_iff] at ha
    exact ⟨flat_of ha.2, ih h.2⟩
  | sin s t ihs iht =>
    intro h
    have hs := all_any_self _ h
    have ha : ahS (.sin s t) = false := by simpa [Sm.past] using hs
    unfold mixS at h
    rw [allS, List.any_cons, List.any_append, Bool.or_eq_false_iff, Bool.or_eq_false_iff] at h
    unfold ahS at ha
    rw [allS, List.any_cons, List.any_append, Bool.or_eq_false_iff, Bool.or_eq_false_iff] at ha
    exact ⟨flat_of ha.2.1, flat_of ha.2.2, ihs h.2.1, iht h.2.2⟩
end My

namespace My
open PySem L2 Dn TL
section
variable {g k : Rho → Option (Except Str Out)} {ρ ρ' : Rho} {n : Str} {d : PyData} {ft : Rho → Option Bool} {o : Out} {g0 : Rho → Option Out}
theorem sx_nx (h : g ρ = some (.ok (.nx ρ'))) : gSeqX g k ρ = k ρ' := by unfold gSeqX; rw [h]; rfl
theorem sx_er (h : g ρ = some (.error n)) : gSeqX g k ρ = some (.error n) := by unfold gSeqX; rw [h]; rfl
theorem gi_t (h : ft ρ = some true) : gIfX ft g k ρ = g ρ := by unfold gIfX; rw [h]; rfl
theorem gi_f (h : ft ρ = some false) : gIfX ft g k ρ = k ρ := by unfold gIfX; rw [h]; rfl
theorem gok (h : g0 ρ = some o) : gOk g0 ρ = some (.ok o) := by unfold gOk; rw [h]; rfl
end
/-! ### need_told -/
def needF : List PyData → Option (Except Str PyData) := fnX 1 (gneed_told isStF isMixF wishF)
def chk (s : Sm) : Option Str := if 6 < s.depth then some "BadStatement" else if mixS s = true then some "Mixed" else if 6 < (wishL s).length then some "TooMany" else none
theorem wishL_len {s : Sm} (h : s.Fine) (hd : s.depth ≤ 6) : (wishL s).length < 1000 := by
  have := allS_len s
  have h2 : 2 ^ s.depth ≤ 2 ^ 6 := Nat.pow_le_pow_right (by decide) hd
  have go : ∀ (ones f : List Sm), (∀ x ∈ ones, x.Fine) → (wishGo ones f).length ≤ f.length + 4 * ones.length := by
    intro ones
    induction ones with
    | nil => intro f _; simp [wishGo]
    | cons x r ih =>
      intro f hx
      have m := (more_fine (hx x (by simp))).1
      have fl := List.length_filter_le (fun y => decide (y ∉ f)) (moreS x)
      have := ih (f ++ (moreS x).filter fun y => decide (y ∉ f)) fun y hy => hx y (by simp [hy])
      show (wishGo r (f ++ (moreS x).filter fun y => decide (y ∉ f))).length ≤ _
      simp only [List.length_append, List.length_cons] at this ⊢
      omega
  have := go (allS s) [s] fun x hx => (fine_all s h x hx).1
  unfold wishL
  simp only [List.length_cons, List.length_nil] at this
  omega
theorem need_bad {d : PyData} (h : gdB d = true) (hs : isSt 6 d = false) : needF [d] = some (.error "BadStatement") := by
  have i := isSt_eq h
  rw [hs] at i
  have e : startR 1 [d] = [some (.d d)] := rfl
  have q : gneed_told isStF isMixF wishF [some (.d d)] = some (.error "BadStatement") := by
    unfold gneed_told
    refine sx_er ((gi_t ?_).trans rfl)
    simp only [fNotT_ap, fB_ap, fCa_ap, fCons_ap, fNil_ap, fV_ap, List.getElem?_cons_zero, slot_d, consO_some, caO_1, i, unB_some]
    rfl
  unfold needF fnX
  rw [e, q]
  rfl
theorem need_eq {s : Sm} (h : s.Fine) (hd : s.depth ≤ 9) : needF [enc s] = some (match chk s with | some n => .error n | none => .ok (enc s)) := by
  have st := isSt_enc s h 6
  unfold chk
  by_cases h6 : 6 < s.depth
  · rw [if_pos h6]
    exact need_bad (gd_enc s h) (st.trans (decide_eq_false (by omega)))
  rw [if_neg h6]
  rw [decide_eq_true (by omega)] at st
  have i := isSt_eq (gd_enc s h)
  rw [st] at i
  have mx := isMix_eq h (show s.depth ≤ 14 by omega)
  have e : startR 1 [enc s] = [some (.d (enc s))] := rfl
  have g1 : gIfX (fNotT (fB (fCa 1 isStF (fCons (fV 0) fNil)))) (gRaise "BadStatement") (gOk gNx) [some (.d (enc s))] = some (.ok (.nx [some (.d (enc s))])) := by
    refine (gi_f ?_).trans rfl
    simp only [fNotT_ap, fB_ap, fCa_ap, fCons_ap, fNil_ap, fV_ap, List.getElem?_cons_zero, slot_d, consO_some, caO_1, i, unB_some]
    rfl
  have t2 : fB (fCa 1 isMixF (fCons (fV 0) fNil)) [some (.d (enc s))] = some (mixS s) := by
    simp only [fB_ap, fCa_ap, fCons_ap, fNil_ap, fV_ap, List.getElem?_cons_zero, slot_d, consO_some, caO_1, mx, unB_some]
  unfold needF fnX
  rw [e]
  unfold gneed_told
  rw [sx_nx g1]
  by_cases hm : mixS s = true
  · rw [if_pos hm]
    rw [hm] at t2
    rw [sx_er ((gi_t t2).trans rfl)]
    rfl
  rw [if_neg hm]
  have hm' : mixS s = false := by simpa using hm
  rw [hm'] at t2
  rw [sx_nx ((gi_f t2).trans rfl)]
  have wl := wishL_len h (show s.depth ≤ 6 by omega)
  have w := wishF_eq h (by omega) wl
  have wn := wishS_len h (nm_of hm') wl
  have of : ofF wishF [enc s] = some (.list ((wishS s).map enc)) := by unfold ofF; rw [w]; rfl
  have ln : one1 lenD [.list ((wishS s).map enc)] = some (.int ((wishL s).length : Nat)) := by
    rw [one1_ap, lenD_l, List.length_map, wn]
  have lt : (rb fun i j => decide (j < i)) (.int ((wishL s).length : Nat)) (.int 6) = some (.bool (decide (6 < (wishL s).length))) := by
    show some (PyData.bool (decide ((6 : Int) < ((wishL s).length : Nat)))) = _
    congr 2
    exact decide_eq_decide.mpr ⟨fun h => by omega, fun h => by omega⟩
  have t3 : fB (f2 (rb fun i j => decide (j < i)) (fCl (one1 lenD) (fCons (fCa 1 (ofF wishF) (fCons (fV 0) fNil)) fNil)) (fC (.int 6))) [some (.d (enc s))] = some (decide (6 < (wishL s).length)) := by
    simp only [fB_ap, f2_ap, fCl_ap, fCa_ap, fCons_ap, fNil_ap, fV_ap, fC_ap, List.getElem?_cons_zero, slot_d, consO_some, caO_1, of, clO_some, ln, ap2_some, lt, unB_some]
  by_cases hw : 6 < (wishL s).length
  · rw [if_pos hw]
    rw [decide_eq_true hw] at t3
    rw [sx_er ((gi_t t3).trans rfl)]
    rfl
  · rw [if_neg hw]
    rw [decide_eq_false hw] at t3
    rw [sx_nx ((gi_f t3).trans rfl)]
    rfl
theorem chk_pg {s : Sm} (h : s.Fine) (hc : chk s = none) : PG s := by
  unfold chk at hc
  split at hc
  · cases hc
  rename_i h1
  split at hc
  · cases hc
  rename_i h2
  split at hc
  · cases hc
  rename_i h3
  exact ⟨h, nm_of (by simpa using h2), by omega, by omega⟩
/-! ### Teller -/
noncomputable section
def st0 (s : Sm) : PyData := stD (List.replicate (pastsS s).length false) ((List.range (2 ^ (wishS s).length)).map fun p => p.testBit 0)
def telF (s : Sm) : Flds := [(.str "_plan", planD s), (.str "_state", st0 s), (.str "_marks", .list []), (.str "_last", .str "open"), (.str "_verdicts", .dict [])]
open Classical in
def tellR : List PyData → Option (Except Str Flds)
  | [d] => match needF [d] with
    | some (.error c) => some (.error c)
    | some (.ok _) => if h : ∃ s, d = enc s ∧ PG s ∧ needF [d] = some (.ok d) then some (.ok (telF h.choose)) else none
    | none => none
  | _ => none
open Classical in
theorem tellR_eq {s : Sm} (g : PG s) (h : needF [enc s] = some (.ok (enc s))) : tellR [enc s] = some (.ok (telF s)) := by
  have hh : ∃ t, enc s = enc t ∧ PG t ∧ needF [enc s] = some (.ok (enc s)) := ⟨s, rfl, g, h⟩
  have e := enc_inj hh.choose_spec.1
  have key : ∀ r : Option (Except Str PyData), r = some (.ok (enc s)) → (match r with | some (.error c) => some (.error c) | some (.ok _) => some (.ok (telF hh.choose)) | none => none : Option (Except Str Flds)) = some (.ok (telF s)) := fun r hr => by
    subst hr
    exact congrArg (fun z => some (Except.ok (telF z))) e.symm
  have un : tellR [enc s] = (match needF [enc s] with | some (.error c) => some (.error c) | some (.ok _) => (if h : ∃ t, enc s = enc t ∧ PG t ∧ needF [enc s] = some (.ok (enc s)) then some (.ok (telF h.choose)) else none) | none => none : Option (Except Str Flds)) := rfl
  rw [un, dif_pos hh]
  exact key _ h
theorem tellR_er {d : PyData} {c : Str} (h : needF [d] = some (.error c)) : tellR [d] = some (.error c) := by
  unfold tellR
  simp only [h]
theorem tellR_inv {ds : List PyData} {gs : Flds} (h : tellR ds = some (.ok gs)) : ∃ s, ds = [enc s] ∧ PG s ∧ gs = telF s ∧ needF [enc s] = some (.ok (enc s)) := by
  unfold tellR at h
  split at h
  · rename_i d
    split at h
    · cases h
    · split at h
      · rename_i e
        obtain ⟨e1, e2, e3⟩ := e.choose_spec
        refine ⟨e.choose, by rw [← e1], e2, ?_, ?_⟩
        · exact (Except.ok.inj (Option.some.inj h)).symm
        · rw [← e1]; exact e3
      · cases h
    · cases h
  · cases h
theorem tellR_einv {ds : List PyData} {c : Str} (h : tellR ds = some (.error c)) : ∃ d, ds = [d] ∧ needF [d] = some (.error c) := by
  unfold tellR at h
  split at h
  · rename_i d
    split at h
    · rename_i c' e
      cases h
      exact ⟨d, rfl, e⟩
    · split at h <;> cases h
    · cases h
  · cases h
theorem fx_ok {n f : Str} {fe : Rho → Option (Except Str PyData)} {a : Addr} {gs : Flds} {r : Rho} {d : PyData} (h : fe (some (.ob a n gs) :: r) = some (.ok d)) (l : gs.length < 100) : gFldX n f fe (some (.ob a n gs) :: r) = some (.ok (.nx (some (.ob a n (puF f d gs)) :: r))) := by
  unfold gFldX
  rw [h]
  simp [l]
theorem fx_er {n f : Str} {fe : Rho → Option (Except Str PyData)} {ρ : Rho} {c : Str} (h : fe ρ = some (.error c)) : gFldX n f fe ρ = some (.error c) := by
  unfold gFldX
  rw [h]
  rfl
theorem fld_ok {n f : Str} {fe : Rho → Option PyData} {a : Addr} {gs : Flds} {r : Rho} {d : PyData} (h : fe (some (.ob a n gs) :: r) = some d) (l : gs.length < 100) : gOk (gFld n f fe) (some (.ob a n gs) :: r) = some (.ok (.nx (some (.ob a n (puF f d gs)) :: r))) := by
  refine gok ?_
  rw [gFld_ob, h]
  exact if_pos l
theorem pu_ne {g f : Str} {y x : PyData} {r : Flds} (h : g ≠ f) : puF f y ((.str g, x) :: r) = (.str g, x) :: puF f y r := if_neg h
theorem pu_0 {f : Str} {y : PyData} : puF f y [] = [(.str f, y)] := rfl
theorem n_ps : ("_plan" : Str) ≠ "_state" := by decide +kernel
theorem n_pm : ("_plan" : Str) ≠ "_marks" := by decide +kernel
theorem n_pl : ("_plan" : Str) ≠ "_last" := by decide +kernel
theorem n_pv : ("_plan" : Str) ≠ "_verdicts" := by decide +kernel
theorem n_sm : ("_state" : Str) ≠ "_marks" := by decide +kernel
theorem n_sl : ("_state" : Str) ≠ "_last" := by decide +kernel
theorem n_sv : ("_state" : Str) ≠ "_verdicts" := by decide +kernel
theorem n_ml : ("_marks" : Str) ≠ "_last" := by decide +kernel
theorem n_mv : ("_marks" : Str) ≠ "_verdicts" := by decide +kernel
theorem n_lv : ("_last" : Str) ≠ "_verdicts" := by decide +kernel
theorem tel_run (a : Addr) (ds : List PyData) (gs : Flds) (h : tellR ds = some (.ok gs)) : ∃ ρ, (gTeller planR needF begF) (startI 2 a "Teller" ds) = some (.ok (.nx ρ)) ∧ ρ[0]? = some (some (.ob a "Teller" gs)) := by
  obtain ⟨s, rfl, g, rfl, hn⟩ := tellR_inv h
  have e : startI 2 a "Teller" [enc s] = [some (.ob a "Teller" []), some (.d (enc s))] := rfl
  have x1 : fMkX "Plan" 2 planR (fXCons (fXc 1 needF (fCons (fV 1) fNil)) fXNil) [some (.ob a "Teller" []), some (.d (enc s))] = some (.ok (planD s)) := by
    have x0 : fXc 1 needF (fCons (fV 1) fNil) [some (.ob a "Teller" []), some (.d (enc s))] = some (.ok (enc s)) := by
      unfold fXc
      simp only [fCons_ap, fNil_ap, fV_ap, List.getElem?_cons_succ, List.getElem?_cons_zero, slot_d, consO_some, Option.bind_some]
      exact hn
    have x2 : fXCons (fXc 1 needF (fCons (fV 1) fNil)) fXNil [some (.ob a "Teller" []), some (.d (enc s))] = some (.ok [enc s]) := by
      unfold fXCons
      rw [x0]
      rfl
    unfold fMkX
    rw [x2]
    show (if ([enc s].length + 1 = 2) then (planR [enc s]).map _ else none) = _
    rw [if_pos (by rfl), planR_eq g]
    rfl
  refine ⟨[some (.ob a "Teller" (telF s)), some (.d (enc s))], ?_, rfl⟩
  rw [e]
  unfold gTeller
  rw [sx_nx (fx_ok x1 (by simp)), pu_0]
  have b : fCa 1 begF (fCons (fSlf "Teller" "_plan") fNil) [some (.ob a "Teller" [(.str "_plan", planD s)]), some (.d (enc s))] = some (st0 s) := by
    have p : fSlf "Teller" "_plan" [some (.ob a "Teller" [(.str "_plan", planD s)]), some (.d (enc s))] = some (planD s) := by
      simp [lkF]
    rw [fCa_ap, fCons_ap, p, fNil_ap, consO_some, caO_1]
    exact begF_eq g
  rw [sx_nx (fld_ok b (by simp)), pu_ne n_ps, pu_0]
  rw [sx_nx (fld_ok (d := .list []) (by simp) (by simp)), pu_ne n_pm, pu_ne n_sm, pu_0]
  rw [sx_nx (fld_ok (d := .str "open") (by simp) (by simp)), pu_ne n_pl, pu_ne n_sl, pu_ne n_ml, pu_0]
  rw [fld_ok (d := .dict []) (by simp) (by simp), pu_ne n_pv, pu_ne n_sv, pu_ne n_mv, pu_ne n_lv, pu_0]
  rfl
theorem tel_err (a : Addr) (ds : List PyData) (c : Str) (h : tellR ds = some (.error c)) : (gTeller planR needF begF) (startI 2 a "Teller" ds) = some (.error c) := by
  obtain ⟨d, rfl, hn⟩ := tellR_einv h
  have e : startI 2 a "Teller" [d] = [some (.ob a "Teller" []), some (.d d)] := rfl
  have x0 : fXc 1 needF (fCons (fV 1) fNil) [some (.ob a "Teller" []), some (.d d)] = some (.error c) := by
    unfold fXc
    simp only [fCons_ap, fNil_ap, fV_ap, List.getElem?_cons_succ, List.getElem?_cons_zero, slot_d, consO_some, Option.bind_some]
    exact hn
  have x1 : fMkX "Plan" 2 planR (fXCons (fXc 1 needF (fCons (fV 1) fNil)) fXNil) [some (.ob a "Teller" []), some (.d d)] = some (.error c) := by
    have x2 : fXCons (fXc 1 needF (fCons (fV 1) fNil)) fXNil [some (.ob a "Teller" []), some (.d d)] = some (.error c) := by
      unfold fXCons
      rw [x0]
      rfl
    unfold fMkX
    rw [x2]
    rfl
  rw [e]
  unfold gTeller
  exact sx_er (fx_er x1)
/-! ### _law_teller, _law_told -/
def tellerF : List PyData → Option PyData := fnD 2 (gL_teller tellR wordF)
def toldF : List PyData → Option PyData := fnD 4 (gL_told needF tellerF wordF)
theorem teller_er {d : PyData} {c : Str} {j : Nat} (h : needF [d] = some (.error c)) (hj : wordF c = some (.int (j : Nat))) : tellerF [d] = some (.int (j : Nat)) := by
  have r := tellR_er h
  have e : startR 2 [d] = [some (.d d), none] := rfl
  have x : fBx (fXMk "Teller" 2 tellR (fCons (fV 0) fNil)) [some (.d d), none] = some (.error c) := by
    unfold fBx fXMk
    simp only [fCons_ap, fNil_ap, fV_ap, List.getElem?_cons_zero, slot_d, consO_some, Option.bind_some]
    rw [if_pos (by rfl), r]
    rfl
  have t : gTryW 1 (fBx (fXMk "Teller" 2 tellR (fCons (fV 0) fNil))) wordF kRet [some (.d d), none] = some (.rt (.int (j : Nat)) [some (.d d), none]) := by
    unfold gTryW
    rw [if_pos (by simp), x]
    show (wordF c).map _ = _
    rw [hj]
    rfl
  unfold tellerF
  rw [fnD_ap, e]
  unfold gL_teller
  rw [gSeq_ap, t]
  rfl
theorem teller_ok {s : Sm} (g : PG s) (h : needF [enc s] = some (.ok (enc s))) : tellerF [enc s] = some (.int (-1)) := by
  have r := tellR_eq g h
  have e : startR 2 [enc s] = [some (.d (enc s)), none] := rfl
  have x : fBx (fXMk "Teller" 2 tellR (fCons (fV 0) fNil)) [some (.d (enc s)), none] = some (.ok [some (.d (enc s)), none]) := by
    unfold fBx fXMk
    simp only [fCons_ap, fNil_ap, fV_ap, List.getElem?_cons_zero, slot_d, consO_some, Option.bind_some]
    rw [if_pos (by rfl), r]
    rfl
  have t : gTryW 1 (fBx (fXMk "Teller" 2 tellR (fCons (fV 0) fNil))) wordF kRet [some (.d (enc s)), none] = some (.nx [some (.d (enc s)), none]) := by
    unfold gTryW
    rw [if_pos (by simp), x]
    rfl
  unfold tellerF
  rw [fnD_ap, e]
  unfold gL_teller
  rw [gSeq_ap, t]
  rfl
theorem told_er {d : PyData} {c : Str} {j : Nat} (h : needF [d] = some (.error c)) (hj : wordF c = some (.int (j : Nat))) : toldF [d] = some (.tuple [.bool false, .int (j : Nat)]) := by
  have r := teller_er h hj
  have e : startR 4 [d] = [some (.d d), none, none, none] := rfl
  have n1 : negD (.int 1) = some (.int (-1)) := rfl
  have x : ∀ x1 x2 : Option Sv, fBs 2 (fX2 eqP (fXc 1 needF (fCons (fV 0) fNil)) (fV 0)) [some (.d d), x1, x2, none] = some (.error c) := fun x1 x2 => by
    unfold fBs fX2 fXc
    simp only [fCons_ap, fNil_ap, fV_ap, List.getElem?_cons_zero, slot_d, consO_some, Option.bind_some]
    rw [if_pos (by rfl), h]
    rfl
  have t : ∀ x1 x2 : Option Sv, gTryW 3 (fBs 2 (fX2 eqP (fXc 1 needF (fCons (fV 0) fNil)) (fV 0))) wordF (kSet 3 1) [some (.d d), x1, x2, none] = some (.nx [some (.d d), some (.d (.int (j : Nat))), x2, none]) := fun x1 x2 => by
    unfold gTryW
    rw [if_pos (by simp), x]
    show (wordF c).map _ = _
    rw [hj]
    rfl
  have ne : neP (.int (j : Nat)) (.int (j : Nat)) = some (.bool false) := by rw [neP_i, decide_eq_true rfl]; rfl
  unfold toldF
  rw [fnD_ap, e]
  unfold gL_told
  rw [gSeq_ap, gSet_ap]
  simp only [f1_ap, fC_ap, ap1_some, n1, setO_some, List.set_cons_succ, List.set_cons_zero, seqO_nx]
  rw [gSeq_ap, gSet_ap]
  simp only [fC_ap, setO_some, List.set_cons_succ, List.set_cons_zero, seqO_nx]
  rw [gSeq_ap, t, seqO_nx, gSeq_ap, gIf_ap]
  simp only [fB_ap, f2_ap, fCa_ap, fCons_ap, fNil_ap, fV_ap, List.getElem?_cons_zero, List.getElem?_cons_succ, slot_d, consO_some, caO_1, r, ap2_some, ne, unB_some, iteO_f, gNx_ap, seqO_nx, gRet_ap, fTup_ap, tupO_2, retO_some, retD_rt]
theorem eq_enc {s : Sm} (h : s.Fine) (hd : s.depth ≤ 60) : eqP (enc s) (enc s) = some (.bool true) := by
  have e : eqD (enc s) (enc s) = if (SeqAt.shaped (enc s) && SeqAt.shaped (enc s)) = true then some (PyData.eqv (enc s) (enc s)) else none := by
    cases s <;> rfl
  unfold eqP
  rw [e, shaped_enc h hd, eqv_enc, decide_eq_true rfl]
  rfl
theorem told_ok {s : Sm} (g : PG s) (h : needF [enc s] = some (.ok (enc s))) : toldF [enc s] = some (.tuple [.bool true, .int (-1)]) := by
  have r := teller_ok g h
  have e : startR 4 [enc s] = [some (.d (enc s)), none, none, none] := rfl
  have n1 : negD (.int 1) = some (.int (-1)) := rfl
  have hd := g.d
  have q := eq_enc g.f (show s.depth ≤ 60 by omega)
  have x : ∀ x1 x2 : Option Sv, fBs 2 (fX2 eqP (fXc 1 needF (fCons (fV 0) fNil)) (fV 0)) [some (.d (enc s)), x1, x2, none] = some (.ok [some (.d (enc s)), x1, some (.d (.bool true)), none]) := fun x1 x2 => by
    unfold fBs fX2 fXc
    simp only [fCons_ap, fNil_ap, fV_ap, List.getElem?_cons_zero, slot_d, consO_some, Option.bind_some]
    rw [if_pos (by rfl), h]
    simp only [Option.bind_some, q]
    rfl
  have t : ∀ x1 x2 : Option Sv, gTryW 3 (fBs 2 (fX2 eqP (fXc 1 needF (fCons (fV 0) fNil)) (fV 0))) wordF (kSet 3 1) [some (.d (enc s)), x1, x2, none] = some (.nx [some (.d (enc s)), x1, some (.d (.bool true)), none]) := fun x1 x2 => by
    unfold gTryW
    rw [if_pos (by simp), x]
    rfl
  have ne : neP (.int (-1)) (.int (-1)) = some (.bool false) := rfl
  unfold toldF
  rw [fnD_ap, e]
  unfold gL_told
  rw [gSeq_ap, gSet_ap]
  simp only [f1_ap, fC_ap, ap1_some, n1, setO_some, List.set_cons_succ, List.set_cons_zero, seqO_nx]
  rw [gSeq_ap, gSet_ap]
  simp only [fC_ap, setO_some, List.set_cons_succ, List.set_cons_zero, seqO_nx]
  rw [gSeq_ap, t, seqO_nx, gSeq_ap, gIf_ap]
  simp only [fB_ap, f2_ap, fCa_ap, fCons_ap, fNil_ap, fV_ap, List.getElem?_cons_zero, List.getElem?_cons_succ, slot_d, consO_some, caO_1, r, ap2_some, ne, unB_some, iteO_f, gNx_ap, seqO_nx, gRet_ap, fTup_ap, tupO_2, retO_some, retD_rt]
end
end My

namespace My
open PySem L2 Dn TL
/-! ### _law_mark_right -/
theorem kit_ss : kitB "str" "str" = some true := by decide +kernel
theorem kit_bb : kitB "bool" "bool" = some true := by decide +kernel
theorem isi_ss (z : Str) : isiD "str" (.str z) = some (.bool true) := isi_of rfl kit_ss
theorem isi_bb (b : Bool) : isiD "bool" (.bool b) = some (.bool true) := isi_of rfl kit_bb
def okM (m : Str) : Bool := decide ((tl m).length ≤ 6) && isLow (tl m)
/-- what the def is tried at -/
inductive Cand : PyData → Prop
  | str (m : Str) (h : m.length ≤ 90000) (h' : ∀ c ∈ tl m, c < 1114112) : Cand (.str m)
  | oth (x : PyData) (h : bareD x = true) (h' : kitB (tyN x) "str" = some false) (h'' : tyN x ≠ "str") : Cand x
def markRF : List PyData → Option PyData := fnD 7 (gL_mark_right isMarkF)
abbrev mrRest : Rho → Option Out := (gSeq (gSet 4 (fAnd (f1 (isiD "str") (fV 3)) (f2 (rb fun i j => decide (i < j)) (fCl (one1 lenD) (fCons (fV 3) fNil)) (fC (.int 7))))) (gSeq (gSet 4 (fAnd (fV 4) (f2 eqP (fLc (fSeq (fV 3)) (b1 5) (fB (f2 niP (fV 5) (fC (.str "abcdefghijklmnopqrstuvwxyz")))) (fV 5) [5]) (fLst fNil)))) (gSeq (gSet 6 (fCa 1 isMarkF (fCons (fV 3) fNil))) (gRet (fAnd (f1 (isiD "bool") (fV 6)) (f2 eqP (fV 6) (fV 4)))))))
theorem eq_nil {r : List Str} (hs : ∀ x ∈ r, PyData.strOk x = true) : eqP (dS r) (.list []) = some (.bool (decide (r = []))) := by
  have e : eqD (dS r) (.list []) = if (SeqAt.shaped (dS r) && SeqAt.shaped (.list [])) = true then some (PyData.eqv (dS r) (.list [])) else none := rfl
  have sh : SeqAt.shaped (PyData.list []) = true := by decide +kernel
  have ev : PyData.eqv (dS r) (.list []) = decide (r = []) := by
    unfold dS
    simp only [PyData.eqv]
    cases r with
    | nil => rw [List.map_nil, eqvAll_0]; rfl
    | cons x r => rw [List.map_cons, PyData.eqvAll]; rfl; all_goals (intros; simp_all)
  unfold eqP
  rw [e, shaped_strs hs, ev, sh]
  rfl
theorem low_filter (w : List Nat) : decide ((w.filter fun c => !decide (97 ≤ c ∧ c ≤ 122)) = []) = isLow w := by
  unfold isLow
  rw [Bool.eq_iff_iff, decide_eq_true_iff, List.filter_eq_nil_iff, List.all_eq_true]
  simp
theorem ni_LET (c : Nat) : niP (.str (one c)) (.str LET) = some (.bool (!decide (97 ≤ c ∧ c ≤ 122))) := by
  have i := in_LET c
  unfold inP at i
  unfold niP
  cases h : inD (.str (one c)) (.str LET) with
  | none => rw [h] at i; cases i
  | some b =>
    rw [h] at i
    have i' : b = decide (97 ≤ c ∧ c ≤ 122) := by simpa using i
    rw [i']; rfl
theorem mr_ok {x : PyData} (h : Cand x) (v0 v1 v2 : PyData) : retD (mrRest [some (.d v0), some (.d v1), some (.d v2), some (.d x), none, none, none]) = some (.bool true) := by
  unfold mrRest
  cases h with
  | oth x hb hk hn =>
    have i : isiD "str" x = some (.bool false) := isi_of hb hk
    have m := mark_no hb hn
    have b := isi_bb false
    rw [gSeq_ap, gSet_ap, fAnd_ap]
    simp only [f1_ap, fV_ap, List.getElem?_cons_zero, List.getElem?_cons_succ, slot_d, ap1_some, i, unB_some, andV_f, setO_some, List.set_cons_succ, List.set_cons_zero, seqO_nx]
    rw [gSeq_ap, gSet_ap, fAnd_ap]
    simp only [fV_ap, List.getElem?_cons_zero, List.getElem?_cons_succ, slot_d, unB_some, andV_f, setO_some, List.set_cons_succ, List.set_cons_zero, seqO_nx]
    rw [gSeq_ap, gSet_ap]
    simp only [fCa_ap, fCons_ap, fNil_ap, fV_ap, List.getElem?_cons_zero, List.getElem?_cons_succ, slot_d, consO_some, caO_1, m, setO_some, List.set_cons_succ, List.set_cons_zero, seqO_nx]
    rw [gRet_ap, fAnd_ap]
    simp only [f1_ap, f2_ap, fV_ap, List.getElem?_cons_zero, List.getElem?_cons_succ, slot_d, ap1_some, ap2_some, b, unB_some, andV_t, eqP_b, retO_some, retD_rt]
    rfl
  | str m hm hc =>
    have i := isi_ss m
    have mk := isMark_eq m hm
    have ln : lenD (.str m) = some (.int (m.length : Nat)) := if_pos (by show m.length ≤ 100000; omega)
    have lt : (rb fun i j => decide (i < j)) (.int (m.length : Nat)) (.int 7) = some (.bool (decide ((tl m).length ≤ 6))) := by
      show some (PyData.bool (decide (((m.length : Nat) : Int) < 7))) = _
      rw [len_tl]
      congr 2
      exact decide_eq_decide.mpr ⟨fun h => by omega, fun h => by omega⟩
    rw [gSeq_ap, gSet_ap, fAnd_ap]
    simp only [f1_ap, f2_ap, fCl_ap, fCons_ap, fNil_ap, fV_ap, fC_ap, List.getElem?_cons_zero, List.getElem?_cons_succ, slot_d, ap1_some, ap2_some, consO_some, clO_some, one1_ap, i, ln, lt, unB_some, andV_t, setO_some, List.set_cons_succ, List.set_cons_zero, seqO_nx]
    have sg : signsD m = (tl m).map fun c => .str (one c) := rfl
    have q := lc_filter (bd := b1 5) (t := fB (f2 niP (fV 5) (fC (.str "abcdefghijklmnopqrstuvwxyz")))) (f := fV 5) (ρ := [some (.d v0), some (.d v1), some (.d v2), some (.d (.str m)), some (.d (.bool (decide ((tl m).length ≤ 6)))), none, none]) (fun c => .str (one c)) (fun c => !decide (97 ≤ c ∧ c ≤ 122)) (fun c => .str (one c)) (tl m) (by
      intro c _
      refine ⟨_, rfl, ?_, rfl⟩
      have n := ni_LET c
      rw [show LET = "abcdefghijklmnopqrstuvwxyz" from rfl] at n
      simp only [fB_ap, f2_ap, fV_ap, fC_ap, List.set_cons_succ, List.set_cons_zero, List.getElem?_cons_zero, List.getElem?_cons_succ, slot_d, ap2_some, n, unB_some])
    have en := eq_nil (r := ((tl m).filter fun c => !decide (97 ≤ c ∧ c ≤ 122)).map one) (fun x hx => by
      obtain ⟨c, h1, rfl⟩ := List.mem_map.mp hx
      refine strOk_of fun z hz => ?_
      rw [tl_one] at hz
      rw [List.mem_singleton.mp hz]
      exact hc c (List.mem_filter.mp h1).1)
    have en' : eqP (.list (((tl m).filter fun c => !decide (97 ≤ c ∧ c ≤ 122)).map fun c => .str (one c))) (.list []) = some (.bool (isLow (tl m))) := by
      have z : dS (((tl m).filter fun c => !decide (97 ≤ c ∧ c ≤ 122)).map one) = .list (((tl m).filter fun c => !decide (97 ≤ c ∧ c ≤ 122)).map fun c => .str (one c)) := by
        unfold dS; rw [List.map_map]; rfl
      rw [← z, en, ← low_filter]
      congr 2
      exact decide_eq_decide.mpr List.map_eq_nil_iff
    have lm : ((tl m).map fun c => PyData.str (one c)).length ≤ 100000 := by
      rw [List.length_map, ← len_tl]; omega
    have s2 : gSet 4 (fAnd (fV 4) (f2 eqP (fLc (fSeq (fV 3)) (b1 5) (fB (f2 niP (fV 5) (fC (.str "abcdefghijklmnopqrstuvwxyz")))) (fV 5) [5]) (fLst fNil))) [some (.d v0), some (.d v1), some (.d v2), some (.d (.str m)), some (.d (.bool (decide ((tl m).length ≤ 6)))), none, none] = some (.nx [some (.d v0), some (.d v1), some (.d v2), some (.d (.str m)), some (.d (.bool (okM m))), none, none]) := by
      rw [gSet_ap, fAnd_ap, f2_ap, fLc_ap]
      simp only [fV_ap, fSeq_ap, fLst_ap, fNil_ap, List.getElem?_cons_zero, List.getElem?_cons_succ, slot_d, seqO1_some, seqD_s, sg, wipeR_c, wipeR_0, List.set_cons_succ, List.set_cons_zero, lcO_some lm, q, Option.map_some, lstO_0, ap2_some, en', unB_some]
      unfold okM
      cases decide ((tl m).length ≤ 6) with
      | true => simp only [andV_t, setO_some, List.set_cons_succ, List.set_cons_zero, Bool.true_and]
      | false => simp only [andV_f, setO_some, List.set_cons_succ, List.set_cons_zero, Bool.false_and]
    rw [gSeq_ap, s2, seqO_nx, gSeq_ap, gSet_ap]
    have mk' : isMarkF [.str m] = some (.bool (okM m)) := mk
    simp only [fCa_ap, fCons_ap, fNil_ap, fV_ap, List.getElem?_cons_zero, List.getElem?_cons_succ, slot_d, consO_some, caO_1, mk', setO_some, List.set_cons_succ, List.set_cons_zero, seqO_nx]
    have b := isi_bb (okM m)
    rw [gRet_ap, fAnd_ap]
    simp only [f1_ap, f2_ap, fV_ap, List.getElem?_cons_zero, List.getElem?_cons_succ, slot_d, ap1_some, ap2_some, b, unB_some, andV_t, eqP_b, retO_some, retD_rt, beq_self_eq_true]
theorem ltr_cand {m : Str} (h : Ltr m) : Cand (.str m) := .str m (by have := h.hi; omega) fun c hc => by have := h.ab c hc; omega
def MR (a d : Str) : List PyData := [.str "", .str a, .str d, .str "abcdef", .str "abcdefg", .str "A", .str "a1", .str " ", .str "a\n", .none, .int 5, .bool true, .list [.str "a"], .tuple [.str "a"], .dict [], .str "z"]
theorem mr_cand {a d : Str} (ha : Ltr a) (hd : Ltr d) : ∀ x ∈ MR a d, Cand x := by
  have lit : ∀ z : Str, z.length ≤ 90000 → (tl z).all (fun c => decide (c < 1114112)) = true → Cand (.str z) := fun z h g => .str z h fun c hc => by
    have := List.all_eq_true.mp g c hc
    exact of_decide_eq_true this
  intro x hx
  simp only [MR, List.mem_cons, List.not_mem_nil, or_false] at hx
  rcases hx with rfl | rfl | rfl | rfl | rfl | rfl | rfl | rfl | rfl | rfl | rfl | rfl | rfl | rfl | rfl | rfl
  · exact lit _ (by decide) (by decide +kernel)
  · exact ltr_cand ha
  · exact ltr_cand hd
  · exact lit _ (by decide) (by decide +kernel)
  · exact lit _ (by decide) (by decide +kernel)
  · exact lit _ (by decide) (by decide +kernel)
  · exact lit _ (by decide) (by decide +kernel)
  · exact lit _ (by decide) (by decide +kernel)
  · exact lit _ (by decide) (by decide +kernel)
  · exact .oth _ rfl (by decide +kernel) (by decide)
  · exact .oth _ rfl (by decide +kernel) (by decide)
  · exact .oth _ rfl (by decide +kernel) (by decide)
  · exact .oth _ rfl (by decide +kernel) (by decide)
  · exact .oth _ rfl (by decide +kernel) (by decide)
  · exact .oth _ rfl (by decide +kernel) (by decide)
  · exact lit _ (by decide) (by decide +kernel)
theorem markR_eq {n : Nm} (hn : n.Ok) (c : Int) : markRF [.int c, n.enc] = some (.bool true) := by
  have h0 : 0 ≤ c % 16 := Int.emod_nonneg _ (by decide)
  have h1 : c % 16 < 16 := Int.emod_lt_of_pos _ (by decide)
  obtain ⟨x, hx, hi⟩ := at_in (L := MR n.a n.d) h0 (by exact h1)
  have md : modD (.int c) (.int 16) = some (.int (c % 16)) := modD_i (by decide)
  have i0 : ixD n.enc (.int 0) = some (.str n.a) := rfl
  have i2 : ixD n.enc (.int 2) = some (.str n.d) := rfl
  have hix : ixD (.list (MR n.a n.d)) (.int (c % 16)) = some x := by rw [ixD_l, hi]
  have lm : lstO (some (MR n.a n.d)) = some (.list (MR n.a n.d)) := rfl
  unfold markRF
  rw [fnD_ap]
  have e : startR 7 [.int c, n.enc] = [some (.d (.int c)), some (.d n.enc), none, none, none, none, none] := rfl
  rw [e, gL_mark_right, gSeq_ap, gSet_ap]
  simp only [fLst_ap, fTup_ap, fCons_ap, fNil_ap, f2_ap, fV_ap, fC_ap, List.getElem?_cons_zero, List.getElem?_cons_succ, slot_d, ap2_some, i0, i2, consO_some, lstO_1, tupO_1]
  rw [show lstO (some [PyData.str "", .str n.a, .str n.d, .str "abcdef", .str "abcdefg", .str "A", .str "a1", .str " ", .str "a\n", .none, .int 5, .bool true, .list [.str "a"], .tuple [.str "a"], .dict [], .str "z"]) = some (.list (MR n.a n.d)) from rfl, setO_some]
  simp only [List.set_cons_succ, List.set_cons_zero, seqO_nx]
  rw [gSeq_ap, gSet_ap]
  simp only [f2_ap, fV_ap, fC_ap, List.getElem?_cons_zero, List.getElem?_cons_succ, slot_d, ap2_some, md, hix, setO_some, List.set_cons_succ, List.set_cons_zero, seqO_nx]
  exact mr_ok (mr_cand hn.a hn.d x hx) _ _ _
end My

namespace My
open PySem L2 Dn TL
/-! ### the law -/
noncomputable section
def lawF : List PyData → Option PyData := fnD 8 (glaw cellF namesF builtF spF markRF isStF (deepF 14) toldF looksF isMixF aheadF mixedF wishesF)
abbrev lwTail : Rho → Option Out := (gSeq (gIf (fNotT (fB (fV 5))) (gRet (f2 eqP (fCa 1 toldF (fCons (fV 2) fNil)) (fTup (fCons (fC (.bool false)) (fCons (fC (.int 0)) fNil))))) gNx) (gSeq (gSet 6 (fLst (fCons (fCa 1 looksF (fCons (fV 2) fNil)) (fCons (fCa 1 isMixF (fCons (fV 2) fNil)) fNil)))) (gSeq (gIf (fOrT (fB (f2 neP (fV 6) (fLst (fCons (fCa 1 aheadF (fCons (fV 2) fNil)) (fCons (fCa 1 mixedF (fCons (fV 2) fNil)) fNil))))) (fNotT (fB (fCl (one1 allD) (fCons (fLc (fSeq (fV 6)) (b1 7) tYesD (f1 (isiD "bool") (fV 7)) [7]) fNil))))) (gRet (fC (.bool false))) gNx) (gSeq (gIf (fB (f2 ixD (fV 6) (fC (.int 1)))) (gRet (f2 eqP (fCa 1 toldF (fCons (fV 2) fNil)) (fTup (fCons (fC (.bool false)) (fCons (fC (.int 1)) fNil))))) gNx) (gSeq (gIf (fB (f2 (rb fun i j => decide (j < i)) (fCl (one1 lenD) (fCons (fCa 1 wishesF (fCons (fV 2) fNil)) fNil)) (fC (.int 6)))) (gRet (f2 eqP (fCa 1 toldF (fCons (fV 2) fNil)) (fTup (fCons (fC (.bool false)) (fCons (fC (.int 2)) fNil))))) gNx) (gRet (f2 eqP (fCa 1 toldF (fCons (fV 2) fNil)) (fTup (fCons (fC (.bool true)) (fCons (f1 negD (fC (.int 1))) fNil))))))))))
theorem tup_same {b : Bool} {k : Int} : eqP (.tuple [.bool b, .int k]) (.tuple [.bool b, .int k]) = some (.bool true) := by
  have e : eqD (.tuple [.bool b, .int k]) (.tuple [.bool b, .int k]) = if (SeqAt.shaped (.tuple [.bool b, .int k]) && SeqAt.shaped (.tuple [.bool b, .int k])) = true then some (PyData.eqv (.tuple [.bool b, .int k]) (.tuple [.bool b, .int k])) else none := rfl
  have sh : SeqAt.shaped (.tuple [.bool b, .int k]) = true := by simp [SeqAt.shaped, PyData.canLay0, PyData.canLayAll0, PyData.depth, PyData.depthAll]
  have ev : PyData.eqv (.tuple [.bool b, .int k]) (.tuple [.bool b, .int k]) = true := by
    rw [eqv_tup, eqvAll_c, eqvAll_c, eqvAll_0, eqv_int]
    simp [PyData.eqv]
  unfold eqP
  rw [e, sh, ev]
  rfl
theorem lst_same (a b : Bool) : neP (.list [.bool a, .bool b]) (.list [.bool a, .bool b]) = some (.bool false) := by
  have e : eqD (.list [.bool a, .bool b]) (.list [.bool a, .bool b]) = if (SeqAt.shaped (.list [.bool a, .bool b]) && SeqAt.shaped (.list [.bool a, .bool b])) = true then some (PyData.eqv (.list [.bool a, .bool b]) (.list [.bool a, .bool b])) else none := rfl
  have sh : SeqAt.shaped (.list [.bool a, .bool b]) = true := by cases a <;> cases b <;> decide +kernel
  have ev : PyData.eqv (.list [.bool a, .bool b]) (.list [.bool a, .bool b]) = true := by cases a <;> cases b <;> decide +kernel
  unfold neP
  rw [e, sh, ev]
  rfl
theorem w_bs : wordF "BadStatement" = some (.int ((0 : Nat) : Int)) := by
  have : wordJ "BadStatement" = some 0 := by decide +kernel
  unfold wordF; rw [this]; rfl
theorem w_mx : wordF "Mixed" = some (.int ((1 : Nat) : Int)) := by
  have : wordJ "Mixed" = some 1 := by decide +kernel
  unfold wordF; rw [this]; rfl
theorem w_tm : wordF "TooMany" = some (.int ((2 : Nat) : Int)) := by
  have : wordJ "TooMany" = some 2 := by decide +kernel
  unfold wordF; rw [this]; rfl
/-- what it comes to where it is none -/
theorem tail_none {d : PyData} (h : needF [d] = some (.error "BadStatement")) (v0 v1 v3 v4 : PyData) : retD (lwTail [some (.d v0), some (.d v1), some (.d d), some (.d v3), some (.d v4), some (.d (.bool false)), none, none]) = some (.bool true) := by
  have t := told_er h w_bs
  unfold lwTail
  rw [gSeq_ap, gIf_ap]
  simp only [fNotT_ap, fB_ap, fV_ap, List.getElem?_cons_zero, List.getElem?_cons_succ, slot_d, unB_some, Option.map_some, Bool.not_false, iteO_t]
  rw [gRet_ap, f2_ap]
  simp only [fTup_ap, fCa_ap, fCons_ap, fNil_ap, fV_ap, fC_ap, List.getElem?_cons_zero, List.getElem?_cons_succ, slot_d, consO_some, caO_1, t, tupO_2, ap2_some]
  rw [show (((0 : Nat) : Int)) = 0 from rfl, tup_same, retO_some, seqO_rt, retD_rt]
theorem tail_some {s : Sm} (h : s.Fine) (hd : s.depth ≤ 6) (v0 v1 v3 v4 : PyData) : retD (lwTail [some (.d v0), some (.d v1), some (.d (enc s)), some (.d v3), some (.d v4), some (.d (.bool true)), none, none]) = some (.bool true) := by
  have nd := need_eq h (show s.depth ≤ 9 by omega)
  have l1 := looks_eq (s := s) (show s.depth ≤ 14 by omega)
  have l2 := isMix_eq h (show s.depth ≤ 14 by omega)
  have l3 := ahead_eq h (show s.depth ≤ 14 by omega)
  have l4 := mixed_eq h (show s.depth ≤ 14 by omega)
  have ws := wishes_eq s h (by omega)
  have n1 : negD (.int 1) = some (.int (-1)) := rfl
  have l2o : ∀ a b : PyData, lstO (some [a, b]) = some (.list [a, b]) := fun _ _ => rfl
  unfold lwTail
  rw [gSeq_ap, gIf_ap]
  simp only [fNotT_ap, fB_ap, fV_ap, List.getElem?_cons_zero, List.getElem?_cons_succ, slot_d, unB_some, Option.map_some, Bool.not_true, iteO_f, gNx_ap, seqO_nx]
  rw [gSeq_ap, gSet_ap]
  simp only [fLst_ap, fCa_ap, fCons_ap, fNil_ap, fV_ap, List.getElem?_cons_zero, List.getElem?_cons_succ, slot_d, consO_some, caO_1, l1, l2, l2o, setO_some, List.set_cons_succ, List.set_cons_zero, seqO_nx]
  rw [gSeq_ap, gIf_ap]
  have ne := lst_same (ahS s) (mixS s)
  have al : fB (fCl (one1 allD) (fCons (fLc (fSeq (fV 6)) (b1 7) tYesD (f1 (isiD "bool") (fV 7)) [7]) fNil)) [some (.d v0), some (.d v1), some (.d (enc s)), some (.d v3), some (.d v4), some (.d (.bool true)), some (.d (.list [.bool (ahS s), .bool (mixS s)])), none] = some true := by
    have b1 := isi_bb (ahS s)
    have b2 := isi_bb (mixS s)
    have a2 : allD (.list [.bool true, .bool true]) = some (.bool true) := rfl
    simp [b1, b2, a2]
  simp only [fOrT_ap, fNotT_ap, al]
  simp only [fB_ap, f2_ap, fLst_ap, fCa_ap, fCons_ap, fNil_ap, fV_ap, List.getElem?_cons_zero, List.getElem?_cons_succ, slot_d, consO_some, caO_1, l3, l4, l2o, ap2_some, ne, unB_some, orT_f, Option.map_some, Bool.not_true, iteO_f, gNx_ap, seqO_nx]
  rw [gSeq_ap, gIf_ap]
  have ix : ixD (.list [.bool (ahS s), .bool (mixS s)]) (.int 1) = some (.bool (mixS s)) := rfl
  simp only [fB_ap, f2_ap, fV_ap, fC_ap, List.getElem?_cons_zero, List.getElem?_cons_succ, slot_d, ap2_some, ix, unB_some]
  have c6 : ¬ 6 < s.depth := by omega
  cases hm : mixS s with
  | true =>
    have nd' : needF [enc s] = some (.error "Mixed") := by
      rw [nd]; unfold chk; rw [if_neg c6, if_pos hm]
    have t := told_er nd' w_mx
    simp only [iteO_t]
    rw [gRet_ap, f2_ap]
    simp only [fTup_ap, fCa_ap, fCons_ap, fNil_ap, fV_ap, fC_ap, List.getElem?_cons_zero, List.getElem?_cons_succ, slot_d, consO_some, caO_1, t, tupO_2, ap2_some]
    rw [show (((1 : Nat) : Int)) = 1 from rfl, tup_same, retO_some, seqO_rt, retD_rt]
  | false =>
    simp only [iteO_f, gNx_ap, seqO_nx]
    have ln : one1 lenD [.list ((wishL s).map enc)] = some (.int ((wishL s).length : Nat)) := by
      rw [one1_ap, lenD_l, List.length_map]
    have lt : (rb fun i j => decide (j < i)) (.int ((wishL s).length : Nat)) (.int 6) = some (.bool (decide (6 < (wishL s).length))) := by
      show some (PyData.bool (decide ((6 : Int) < ((wishL s).length : Nat)))) = _
      congr 2
      exact decide_eq_decide.mpr ⟨fun h => by omega, fun h => by omega⟩
    rw [gSeq_ap, gIf_ap]
    simp only [fB_ap, f2_ap, fCl_ap, fCa_ap, fCons_ap, fNil_ap, fV_ap, fC_ap, List.getElem?_cons_zero, List.getElem?_cons_succ, slot_d, consO_some, caO_1, ws, clO_some, ln, ap2_some, lt, unB_some]
    by_cases hw : 6 < (wishL s).length
    · have nd' : needF [enc s] = some (.error "TooMany") := by
        rw [nd]; unfold chk; rw [if_neg c6, if_neg (by rw [hm]; decide), if_pos hw]
      have t := told_er nd' w_tm
      rw [decide_eq_true hw]
      simp only [iteO_t]
      rw [gRet_ap, f2_ap]
      simp only [fTup_ap, fCa_ap, fCons_ap, fNil_ap, fV_ap, fC_ap, List.getElem?_cons_zero, List.getElem?_cons_succ, slot_d, consO_some, caO_1, t, tupO_2, ap2_some]
      rw [show (((2 : Nat) : Int)) = 2 from rfl, tup_same, retO_some, seqO_rt, retD_rt]
    · have hc : chk s = none := by unfold chk; rw [if_neg c6, if_neg (by rw [hm]; decide), if_neg hw]
      have nd' : needF [enc s] = some (.ok (enc s)) := by rw [nd, hc]
      have t := told_ok (chk_pg h hc) nd'
      rw [decide_eq_false hw]
      simp only [iteO_f, gNx_ap, seqO_nx]
      rw [gRet_ap, f2_ap]
      simp only [fTup_ap, fCa_ap, fCons_ap, fNil_ap, f1_ap, fV_ap, fC_ap, List.getElem?_cons_zero, List.getElem?_cons_succ, slot_d, consO_some, caO_1, t, ap1_some, n1, tupO_2, ap2_some]
      rw [tup_same, retO_some, retD_rt]
theorem law_eq (ns : List Int) : lawF [dI ns] = some (.bool true) := by
  have c0 : cellF [dI ns, .int 0] = some (.int (cellAt ns 0)) := cell_eq ns 0
  have c2 : cellF [dI ns, .int 2] = some (.int (cellAt ns 2)) := cell_eq ns 2
  obtain ⟨a, b, d, hnm, ha, hb, hd⟩ := names_eq (cellAt ns 0)
  have hn : (Nm.mk a b d).Ok := ⟨ha, hb, hd⟩
  have hnm' : namesF [.int (cellAt ns 0)] = some (Nm.mk a b d).enc := hnm
  have bu : builtF [dI ns, (Nm.mk a b d).enc, .int 12] = some (enc (builtS ns (Nm.mk a b d) 12)) := built_eq ns hn 12 (by decide)
  have bf := built_fine ns hn 12 (by decide)
  obtain ⟨x, bad, hsp, hx⟩ := sp_eq ns hn bf.1 bf.2.1
  have mr := markR_eq hn (cellAt ns 2)
  have s0 : startR 8 [dI ns] = [some (.d (dI ns)), none, none, none, none, none, none, none] := rfl
  unfold lawF
  rw [fnD_ap, s0, glaw, gSeq_ap, gSet_ap]
  simp only [fCa_ap, fCons_ap, fNil_ap, fV_ap, fC_ap, List.getElem?_cons_zero, slot_d, consO_some, caO_1, caO_2, c0, hnm', setO_some, List.set_cons_succ, List.set_cons_zero, seqO_nx]
  rw [gSeq_ap, gAsg_ap]
  simp only [fCa_ap, fCons_ap, fNil_ap, fV_ap, fC_ap, List.getElem?_cons_zero, List.getElem?_cons_succ, slot_d, consO_some, caO_3, bu, hsp, asgO_some, b2_ap, Option.map_some, List.set_cons_succ, List.set_cons_zero, seqO_nx]
  rw [gSeq_ap, gIf_ap]
  simp only [fNotT_ap, fB_ap, fCa_ap, fCons_ap, fNil_ap, fV_ap, fC_ap, List.getElem?_cons_zero, List.getElem?_cons_succ, slot_d, consO_some, caO_2, c2, mr, unB_some, Option.map_some, Bool.not_true, iteO_f, gNx_ap, seqO_nx]
  rw [gSeq_ap, gSet_ap]
  have fin : ∀ ok : Bool, isStF [x] = some (.bool ok) → fAnd (fNot (fV 3)) (f2 (rb fun i j => decide (i < j)) (fCa 1 (deepF 14) (fCons (fV 2) fNil)) (fC (.int 7))) [some (.d (dI ns)), some (.d (Nm.mk a b d).enc), some (.d x), some (.d (.bool bad)), some (.d (.bool ok)), none, none, none] = some (.bool ok) →
      retD (lwTail [some (.d (dI ns)), some (.d (Nm.mk a b d).enc), some (.d x), some (.d (.bool bad)), some (.d (.bool ok)), some (.d (.bool ok)), none, none]) = some (.bool true) →
      retD (seqO (gSeq (gSet 5 (fAnd (fNot (fV 3)) (f2 (rb fun i j => decide (i < j)) (fCa 1 (deepF 14) (fCons (fV 2) fNil)) (fC (.int 7))))) (gSeq (gIf (fOrT (fNotT (fB (f1 (isiD "bool") (fV 4)))) (fB (f2 neP (fV 4) (fV 5)))) (gRet (fC (.bool false))) gNx) lwTail)) (setO 4 [some (.d (dI ns)), some (.d (Nm.mk a b d).enc), some (.d x), some (.d (.bool bad)), none, none, none, none] (fCa 1 isStF (fCons (fV 2) fNil) [some (.d (dI ns)), some (.d (Nm.mk a b d).enc), some (.d x), some (.d (.bool bad)), none, none, none, none]))) = some (.bool true) := fun ok h1 h2 h3 => by
    have bb := isi_bb ok
    have ne : neP (.bool ok) (.bool ok) = some (.bool false) := by rw [neP_b, beq_self_eq_true]; rfl
    simp only [fCa_ap, fCons_ap, fNil_ap, fV_ap, List.getElem?_cons_zero, List.getElem?_cons_succ, slot_d, consO_some, caO_1, h1, setO_some, List.set_cons_succ, List.set_cons_zero, seqO_nx]
    rw [gSeq_ap, gSet_ap, h2]
    simp only [setO_some, List.set_cons_succ, List.set_cons_zero, seqO_nx]
    rw [gSeq_ap, gIf_ap]
    simp only [fOrT_ap, fNotT_ap, fB_ap, f1_ap, f2_ap, fV_ap, List.getElem?_cons_zero, List.getElem?_cons_succ, slot_d, ap1_some, ap2_some, bb, ne, unB_some, Option.map_some, Bool.not_true, orT_f, iteO_f, gNx_ap, seqO_nx]
    exact h3
  rcases hx with ⟨rfl, hB⟩ | ⟨rfl, t, rfl, ht, hdt⟩
  · have h1 := isSt_eq hB.g
    rw [hB.n 6] at h1
    refine fin false h1 ?_ (tail_none (need_bad hB.g (hB.n 6)) _ _ _ _)
    rw [fAnd_ap, fNot_ap]
    simp only [fV_ap, List.getElem?_cons_zero, List.getElem?_cons_succ, slot_d, unB_some, Option.map_some, Bool.not_true, andV_f]
  · have h1 := isSt_eq (gd_enc t ht)
    rw [isSt_enc t ht 6] at h1
    have dp := deep_eq t 14 (by omega)
    have lt : (rb fun i j => decide (i < j)) (.int (t.depth : Nat)) (.int 7) = some (.bool (decide (t.depth ≤ 6))) := by
      show some (PyData.bool (decide (((t.depth : Nat) : Int) < 7))) = _
      congr 2
      exact decide_eq_decide.mpr ⟨fun h => by omega, fun h => by omega⟩
    refine fin (decide (t.depth ≤ 6)) h1 ?_ ?_
    · rw [fAnd_ap, fNot_ap]
      simp only [fV_ap, fC_ap, f2_ap, fCa_ap, fCons_ap, fNil_ap, List.getElem?_cons_zero, List.getElem?_cons_succ, slot_d, unB_some, Option.map_some, Bool.not_false, andV_t, consO_some, caO_1, dp, ap2_some, lt]
    · by_cases h6 : t.depth ≤ 6
      · rw [decide_eq_true h6]
        exact tail_some ht h6 _ _ _ _
      · rw [decide_eq_false h6]
        exact tail_none (need_bad (gd_enc t ht) ((isSt_enc t ht 6).trans (decide_eq_false h6))) _ _ _ _
end
end My

namespace Dn
open PySem L2 PySem.Spec PyProof.Rows Gx
/-! ### a law with several tables -/
def spLawTs (K : PySem.W.Frag) (Ts : List Addr) : Sp := fun vs H Q _ => ∃ (a : Addr) (ns : List Int), vs = [.ref a] ∧ SqL K H a (ns.map V.int) ∧ ns.length ≤ 63 ∧ (∀ T ∈ Ts, H T = some (.tbl #[])) ∧ ∀ H', Q (.bl true) H'
theorem law_ofTs [Tbs] {P : Program} {w : World} {K : PySem.W.Frag} {mg : Str → Option Value} {base : Heap} {k : Nat} {f : Addr} {Ts : List Addr} {fd : FuncData} {ps : List Str} {F : List PyData → Option PyData} (hT : Tbs.T = Ts) (h : FnOk P w K mg base CX0 k f fd ps (spD K 1 F)) (hF : ∀ ns : List Int, F [.list (ns.map .int)] = some (.bool true)) : FnOk P w K mg base CX0 k f fd ps (spLawTs K Ts) :=
  h.imp fun vs H Q E ⟨a, ns, e, hS, _, ht, q⟩ => ⟨unt H, [.list (ns.map .int)], .bool true, ⟨unt_same H, unt_nt H, fun P hP => by
    rw [hT] at hP
    exact ⟨#[], ht P hP, trivial⟩⟩, by rw [e]; exact .cons (.lst (sqL_untL hS) (dq_intsL ns)) .nil, rfl, hF ns, fun v B' H' t d => by cases d; exact q H'⟩
/-- what the head tells of one table -/
structure TabOf (q : Program) (K : PySem.W.Frag) (p : Addr × Addr) : Prop where
  ex : ∃ (y : Str) (e : DefRec), (recsOf q).find? (fun e => e.name == y) = some e ∧ PySem.W.tabIn K y = some (p.1, p.2)
  no : K.lookup p.2 = none
theorem walkTs {l : PySem.W.OpenLaw} {k : Nat} {q : Program} {loose : List Str} {XP : (Str → Option Value) → Heap → Prop} {YP : World → Heap → Prop} {d : DefRec} {K : Params → PySem.W.Frag} (hn : l.most = some 63) (hdf : d.params.defaults = []) (hr : Room k callerA)
    (hY : ∀ (w : World) (h : Heap), YP w h → (K w.params).In h)
    (F : ∀ (w : World) (mg : Str → Option Value) (fa : Addr) (h : Heap), (K w.params).In h → h.Ns mainGlobals mg → mg d.name = some (.ref fa) →
      ∃ (fd : FuncData) (cs : List (Addr × Addr)), (∀ p ∈ cs, TabOf q (K w.params) p) ∧ (∀ (s : Shared) (u : Value), BindsTo s fd ⟨[u], []⟩ [("_law_script", u)]) ∧
        ∀ base : Heap, (K w.params).In base → base.Ns mainGlobals mg → (∀ p ∈ cs, GxR.TabB base mg p.1 p.2) → FnOk l.prog w (K w.params) mg base CX0 k fa fd ["_law_script"] (spLawTs (K w.params) (cs.map (·.2)))) :
    PySem.W.WalkO q loose XP YP l.row.toRowW d [] (fun f vs => PySem.call f vs) := by
  refine walk_tab (n := 63) (k := k) (x := "_law_script") (CX := fun _ => CX0) hn (by decide) hdf hr hY (fun w mg fa h Y X G hm KT => ?_) fun _ _ _ _ _ z => z
  obtain ⟨fd, cs, hcs, hb, hF⟩ := F w mg fa h X G hm
  have get : ∀ p ∈ cs, PySem.W.CodeHd h p.1 p.2 ∧ h.get? p.2 = some { cls := .none, data := .fields #[] } := fun p hp => by
    obtain ⟨y, e, e1, e2⟩ := (hcs p hp).ex
    exact KT y e p.1 p.2 e1 e2
  refine ⟨fd, cs, spLawTs (K w.params) (cs.map (·.2)), fun p hp => (get p hp).2, fun p hp => (hcs p hp).no, fun p hp => (get p hp).1, hb, fun H a ns hl _ hH hS => ⟨a, ns, rfl, hS, hl, fun T hT => ?_, fun _ => rfl⟩, fun base I N hTb => ?_⟩
  · obtain ⟨p, hp, rfl⟩ := List.mem_map.mp hT
    exact hH p hp
  · exact hF base I N fun p hp => by
      have t := hTb p hp
      exact ⟨t.code, t.bm, t.gP⟩
/-! ### constants that are tuples of texts -/
theorem cn_two [Tbs] {K : PySem.W.Frag} {mg : Str → Option Value} {x a b : Str} {pa : Addr} {od : Option Addr} {sl : Array (Option Value)} {n : Nat} {u1 u2 : Tok} (m : mg x = some (.ref pa)) (l : K.lookup pa = some ⟨.type "tuple", od, .seq #[.str a u1, .str b u2] n, sl⟩) : Cn K mg x (.tuple [.str a, .str b]) :=
  ⟨.ref pa, .ref pa, m, rfl, fun H => .tup (xs := [.str a, .str b]) (.inr ⟨_, _, _, l, rfl, rfl, (by show 2 ≤ sizeLine; decide), .cons ⟨_, rfl⟩ (.cons ⟨_, rfl⟩ .nil)⟩) (.cons (.str a) (.cons (.str b) .nil))⟩
theorem cn_three [Tbs] {K : PySem.W.Frag} {mg : Str → Option Value} {x a b c : Str} {pa : Addr} {od : Option Addr} {sl : Array (Option Value)} {n : Nat} {u1 u2 u3 : Tok} (m : mg x = some (.ref pa)) (l : K.lookup pa = some ⟨.type "tuple", od, .seq #[.str a u1, .str b u2, .str c u3] n, sl⟩) : Cn K mg x (.tuple [.str a, .str b, .str c]) :=
  ⟨.ref pa, .ref pa, m, rfl, fun H => .tup (xs := [.str a, .str b, .str c]) (.inr ⟨_, _, _, l, rfl, rfl, (by show 3 ≤ sizeLine; decide), .cons ⟨_, rfl⟩ (.cons ⟨_, rfl⟩ (.cons ⟨_, rfl⟩ .nil))⟩) (.cons (.str a) (.cons (.str b) (.cons (.str c) .nil)))⟩
end Dn

namespace My
open PySem L2 Dn
section
variable [Tbs] {P : Program} {w : World} {K : PySem.W.Frag} {mg : Str → Option Value} {base : Heap}
theorem chain {f fP fT cT0 cT1 cT2 cT3 T0 T1 T2 T3 : Addr} {fd fdP fdT : FuncData} {fW : Addr} {ocW kVW dcW pmW cdW ctW : Value} {odW anW : Option Addr} {slW : Array (Option Value)} (hB : Bl mg) (zV : mg "ValueError" = none) (hT : Tbs.T = [T0, T1, T2, T3]) (tB0 : GxR.TabB base mg cT0 T0) (tB1 : GxR.TabB base mg cT1 T1) (tB2 : GxR.TabB base mg cT2 T2) (tB3 : GxR.TabB base mg cT3 T3) (Dis_mark : DfG K mg "is_mark" sis_mark ["thing"] cT0) (Dis_statement : Df K mg "is_statement" sis_statement ["thing"]) (Dis_nested : DfG K mg "_is_nested" sis_nested ["thing", "most"] cT1) (Dis_later : Df K mg "_is_later" sis_later ["thing"]) (Dparts_of : Df K mg "parts_of" sparts_of ["statement"]) (Dstanding_in : Df K mg "standing_in" sstanding_in ["statement"]) (Deach_once : Df K mg "each_once" seach_once ["statements"]) (Dlooks_ahead : DfG K mg "looks_ahead" slooks_ahead ["statement"] cT2) (Dpasts_in : Df K mg "pasts_in" spasts_in ["statement"]) (Dis_mixed : DfG K mg "is_mixed" sis_mixed ["statement"] cT3) (Dmarks_in : Df K mg "marks_in" smarks_in ["statement"]) (Dawaited : Df K mg "awaited" sawaited ["statement"]) (Dhung_on : Df K mg "hung_on" shung_on ["statement"]) (Dwishes_in : Df K mg "wishes_in" swishes_in ["statement"]) (Dneed_told : Df K mg "need_told" sneed_told ["statement"]) (Dline : Df K mg "_line" sline ["plan", "standing", "statement"]) (Dbeside : Df K mg "_beside" sbeside ["plan", "statement"]) (Dbits_of_wish : Df K mg "_bits_of_wish" sbits_of_wish ["plan", "wish"]) (Dkept_of : Df K mg "_kept_of" skept_of ["past"]) (Dbegun : Df K mg "begun" sbegun ["plan"]) (DL_cell_at : Df K mg "_law_cell_at" sL_cell_at ["_law_script", "_law_k"]) (DL_draw : Df K mg "_law_draw" sL_draw ["_law_script", "_law_spot"]) (DL_names : Df K mg "_law_names" sL_names ["_law_cell"]) (DL_made : Df K mg "_law_made" sL_made ["_law_script", "_law_spot", "_law_names_here", "_law_deep_here", "_law_ahead_here"]) (DL_all : Df K mg "_law_all" sL_all ["_law_statement"]) (DL_wishes : Df K mg "_law_wishes" sL_wishes ["_law_statement"]) (DL_fit : Df K mg "_law_fit" sL_fit ["_law_statement", "_law_most"]) (DL_built : Df K mg "_law_built" sL_built ["_law_script", "_law_names_here", "_law_most"]) (DL_put : Df K mg "_law_put" sL_put ["_law_statement", "_law_at", "_law_other"]) (DL_no_statement : Df K mg "_law_no_statement" sL_no_statement ["_law_cell", "_law_names_here"]) (DL_ahead : Df K mg "_law_ahead" sL_ahead ["_law_statement"]) (DL_mixed : Df K mg "_law_mixed" sL_mixed ["_law_statement"]) (DL_deep : Df K mg "_law_deep" sL_deep ["_law_statement"])  (DL_teller : Df K mg "_law_teller" sL_teller ["_law_thing"]) (DL_told : Df K mg "_law_told" sL_told ["_law_thing"]) (DL_many : Df K mg "_law_many" sL_many ["_law_script", "_law_names_here"]) (DL_spoilt : Df K mg "_law_spoilt" sL_spoilt ["_law_script", "_law_names_here", "_law_statement"]) (DL_mark_right : Df K mg "_law_mark_right" sL_mark_right ["_law_cell", "_law_names_here"]) (lW : K.lookup fW = some ⟨ocW, odW, .func (PySem.W.fnOf "_law_word" "_law_word" (defArgs sL_word) (defBody sL_word) (defScope sL_word) .none kVW dcW pmW anW cdW ctW), slW⟩) (cW : PySem.W.codeIn K cdW "_law_word" = true) (mW : mg "_law_word" = some (.ref fW)) (kW : PySem.W.keepIn K (.ref fW) = true) (bW : L2.Binds K (PySem.W.fnOf "_law_word" "_law_word" (defArgs sL_word) (defBody sL_word) (defScope sL_word) .none kVW dcW pmW anW cdW ctW) ["_law_e"] [])
    (kMOST_LETTERS : Cn K mg "MOST_LETTERS" (.int 6)) (kLETTERS : Cn K mg "LETTERS" (.str "abcdefghijklmnopqrstuvwxyz")) (kMOST_NESTED : Cn K mg "MOST_NESTED" (.int 6)) (kMOST_LATER : Cn K mg "MOST_LATER" (.int 4)) (kMOST_WISHES : Cn K mg "MOST_WISHES" (.int 6)) (kPARTS : Cd K w mg "PARTS" [("yes", (.int 0)), ("not", (.int 1)), ("and", (.int 2)), ("or", (.int 2)), ("next", (.int 1)), ("until", (.int 2)), ("before", (.int 1)), ("since", (.int 2))]) (kPAST : Cn K mg "PAST" (.tuple [(.str "before"), (.str "since")])) (kAHEAD : Cn K mg "AHEAD" (.tuple [(.str "next"), (.str "until"), (.str "within")]))
    (CPlan : Cla K "Plan" flPlan) (FP : Fun K "__init__" "Plan.__init__" sPlan fP fdP) (MP : Mk K (Tbs.Cl "Plan") fP) (hmP : mg "Plan" = some (.ref (Tbs.Cl "Plan"))) (bP : L2.Binds K fdP ["self", "statement"] [])
    (CTeller : Cla K "Teller" flTeller) (FT : Fun K "__init__" "Teller.__init__" sTeller fT fdT) (MT : Mk K (Tbs.Cl "Teller") fT) (hmT : mg "Teller" = some (.ref (Tbs.Cl "Teller"))) (bT : L2.Binds K fdT ["self", "statement"] [])
    (XBadStatement : ExF K mg "BadStatement" [.type "ValueError", .type "Exception", .type "BaseException", .type "object"]) (XMixed : ExF K mg "Mixed" [.type "ValueError", .type "Exception", .type "BaseException", .type "object"]) (XTooMany : ExF K mg "TooMany" [.type "ValueError", .type "Exception", .type "BaseException", .type "object"]) (gBadStatement : mg "BadStatement" = some (.ref (Tbs.Cl "BadStatement"))) (gMixed : mg "Mixed" = some (.ref (Tbs.Cl "Mixed"))) (gTooMany : mg "TooMany" = some (.ref (Tbs.Cl "TooMany"))) (gSaidError : mg "SaidError" = some (.ref (Tbs.Cl "SaidError"))) (gBadMark : mg "BadMark" = some (.ref (Tbs.Cl "BadMark"))) (gNoMark : mg "NoMark" = some (.ref (Tbs.Cl "NoMark"))) (gBadText : mg "BadText" = some (.ref (Tbs.Cl "BadText"))) (hKd : ∀ n j, wordJ n = some j → Kinds K n j) (hxBadStatement : PySem.W.exmOne K (.ref (Tbs.Cl "BadStatement")) (.ref (Tbs.Cl "SaidError")) = some true) (hxMixed : PySem.W.exmOne K (.ref (Tbs.Cl "Mixed")) (.ref (Tbs.Cl "SaidError")) = some true) (hxTooMany : PySem.W.exmOne K (.ref (Tbs.Cl "TooMany")) (.ref (Tbs.Cl "SaidError")) = some true) (F : Fun K "law" "law" slaw f fd) : FnOk P w K mg base CX0 40 f fd ["_law_script"] (spLawTs K [T0, T1, T2, T3]) := by
  have m0 : T0 ∈ Tbs.T := by rw [hT]; simp
  have m1 : T1 ∈ Tbs.T := by rw [hT]; simp
  have m2 : T2 ∈ Tbs.T := by rw [hT]; simp
  have m3 : T3 ∈ Tbs.T := by rw [hT]; simp
  have kmark : Kn P w K mg base 2 1 "is_mark" isMarkF := okis_mark (k := 0) hB ⟨tB0, m0⟩ Dis_mark kMOST_LETTERS kLETTERS
  have klater : Kn P w K mg base 1 1 "_is_later" laterF := okis_later (k := 0) hB Dis_later kMOST_LATER
  have knest : ∀ n : Nat, Kn P w K mg base (2 + 2 * n) 2 "_is_nested" (nestF n) := fun n => by
    induction n with
    | zero => exact Kn.none Dis_nested.df
    | succ n ih => exact okis_nested (k := 2 + 2 * n) hB ⟨tB1, m1⟩ Dis_nested (kmark.mono (by omega)) (klater.mono (by omega)) ih kPARTS
  have kist : Kn P w K mg base 17 1 "is_statement" isStF := okis_statement (k := 16) hB Dis_statement (knest 7) kMOST_NESTED
  have kparts : Kn P w K mg base 1 1 "parts_of" partsF := okparts_of hB Dparts_of
  have kstand : ∀ n : Nat, Kn P w K mg base (1 + n) 1 "standing_in" (standF n) := fun n => by
    induction n with
    | zero => exact Kn.none Dstanding_in
    | succ n ih => exact okstanding_in (k := 1 + n) hB Dstanding_in (kparts.mono (by omega)) ih
  have konce : KnF P w K mg base 1 1 "each_once" onceF := okeach_once hB Deach_once
  have klooks : Kn P w K mg base 17 1 "looks_ahead" looksF := oklooks_ahead (k := 15) hB ⟨tB2, m2⟩ Dlooks_ahead (kstand 14) kAHEAD
  have kpasts : KnF P w K mg base 16 1 "pasts_in" pastsF := okpasts_in (k := 15) hB Dpasts_in (kstand 14) (konce.mono (by omega)) kPAST
  have kmix : Kn P w K mg base 19 1 "is_mixed" isMixF := okis_mixed (k := 17) hB ⟨tB3, m3⟩ Dis_mixed (kpasts.mono (by omega)) klooks
  have kmarks : KnF P w K mg base 16 1 "marks_in" marksF := okmarks_in (k := 15) hB Dmarks_in (kstand 14)
  have kaw : KnF P w K mg base 1 1 "awaited" awF := okawaited hB Dawaited
  have khung : ∀ n : Nat, KnF P w K mg base (1 + n) 1 "hung_on" (hungF n) := fun n => by
    induction n with
    | zero => exact KnF.none Dhung_on
    | succ n ih => exact okhung_on (k := 1 + n) hB Dhung_on (kaw.mono (by omega)) (kparts.mono (by omega)) ih
  have kwishes : KnF P w K mg base 16 1 "wishes_in" wishF := okwishes_in (k := 15) hB Dwishes_in (khung 14) (konce.mono (by omega))
  have kneed : KnX P w K mg base 20 1 "need_told" needF := okneed_told (k := 19) hB Dneed_told (kist.mono (by omega)) kmix (kwishes.mono (by omega)) kMOST_WISHES XBadStatement XMixed XTooMany
  have kbw : Kn P w K mg base 1 2 "_bits_of_wish" bwF := okbits_of_wish hB Dbits_of_wish CPlan
  have kbes : Kn P w K mg base 2 2 "_beside" besF := okbeside hB Dbeside kaw kbw kPAST CPlan
  have kline : Kn P w K mg base 3 3 "_line" lineF := okline hB Dline (kparts.mono (by omega)) kbes
  have kko : Kn P w K mg base 1 1 "_kept_of" koF := okkept_of hB Dkept_of
  have kplan : KnI P w K mg base 17 2 "Plan" planR := okPlan (k := 16) (R := planR) hB FP MP hmP bP (fun a ds gs h => by
    obtain ⟨s, rfl, g, rfl⟩ := planR_inv h
    obtain ⟨r, e⟩ := plan_run g a
    rw [e]
    refine ⟨by simp [retI, obF], fun ρ z => ⟨plF s, ?_⟩⟩
    cases z
    rfl) kwishes kpasts kmarks ((kstand 14).mono (by omega)) (konce.mono (by omega)) (kline.mono (by omega)) (kko.mono (by omega)) CPlan
  have kbeg : Kn P w K mg base 1 1 "begun" begF := okbegun hB Dbegun CPlan
  have ktel : KnIX P w K mg base 22 2 "Teller" tellR := okTeller (k := 20) (R := tellR) hB FT MT hmT bT tel_run tel_err (kplan.mono (by omega)) kneed (kbeg.mono (by omega)) CTeller CPlan
  have hxW : ∀ n d, wordF n = some d → PySem.W.exmOne K (.ref (Tbs.Cl n)) (.ref (Tbs.Cl "SaidError")) = some true := fun n d h => by
    unfold wordF wordJ at h
    split at h
    · rename_i e; rw [e]; exact hxBadStatement
    · split at h
      · rename_i e; rw [e]; exact hxMixed
      · split at h
        · rename_i e; rw [e]; exact hxTooMany
        · cases h
  have kword : ∀ k : Nat, KnW P w K mg base (k + 1) "_law_word" wordF := fun k => okL_word hB zV lW cW mW kW bW gBadStatement gMixed gTooMany gBadMark gNoMark gBadText hKd
  have kteller : Kn P w K mg base 24 1 "_law_teller" tellerF := okL_teller (k := 22) hB DL_teller ktel (kword 21) gSaidError hxW CTeller
  have ktold : Kn P w K mg base 25 1 "_law_told" toldF := okL_told (k := 24) hB DL_told (kneed.mono (by omega)) kteller (kword 23) gSaidError hxW
  have kcell : Kn P w K mg base 1 2 "_law_cell_at" cellF := okL_cell_at hB DL_cell_at
  have kdraw : KnC P w K mg base 1 2 "_law_draw" drawF := okL_draw hB DL_draw drawF_run
  have knames : Kn P w K mg base 1 1 "_law_names" namesF := okL_names hB DL_names
  have kmade : ∀ n : Nat, KnC P w K mg base (1 + n) 5 "_law_made" (madeF n) := fun n => by
    induction n with
    | zero => rw [madeF_0]; exact KnC.none DL_made
    | succ n ih => exact okL_made (k := 1 + n) hB DL_made (madeF_run n) (kdraw.mono (by omega)) ih
  have kall : ∀ n : Nat, Kn P w K mg base n 1 "_law_all" (allF n) := fun n => by
    induction n with
    | zero => exact Kn.none DL_all
    | succ n ih => exact okL_all hB DL_all ih
  have kwish : Kn P w K mg base 15 1 "_law_wishes" wishesF := okL_wishes hB DL_wishes (kall 14)
  have kfit : Kn P w K mg base 16 2 "_law_fit" fitF := okL_fit hB DL_fit kwish
  have kbuilt : Kn P w K mg base 17 3 "_law_built" builtF := okL_built (k := 16) hB DL_built (kcell.mono (by omega)) kfit ((kmade 8).mono (by omega))
  have kput : ∀ n : Nat, Kn P w K mg base n 3 "_law_put" (putF n) := fun n => by
    induction n with
    | zero => exact Kn.none DL_put
    | succ n ih => exact okL_put hB DL_put ih
  have kno : Kn P w K mg base 1 2 "_law_no_statement" noF := okL_no_statement hB DL_no_statement
  have kahead : Kn P w K mg base 15 1 "_law_ahead" aheadF := okL_ahead (k := 14) hB DL_ahead (kall 14)
  have kmixed : Kn P w K mg base 16 1 "_law_mixed" mixedF := okL_mixed (k := 15) hB DL_mixed ((kall 14).mono (by omega)) kahead
  have kdeep : ∀ n : Nat, Kn P w K mg base n 1 "_law_deep" (deepF n) := fun n => by
    induction n with
    | zero => exact Kn.none DL_deep
    | succ n ih => exact okL_deep hB DL_deep ih
  have kmany : Kn P w K mg base 2 2 "_law_many" manyF := okL_many (k := 1) hB DL_many kcell
  have ksp : Kn P w K mg base 15 3 "_law_spoilt" spF := okL_spoilt (k := 14) hB DL_spoilt (kcell.mono (by omega)) (kall 14) (kno.mono (by omega)) (kput 14) (kmany.mono (by omega))
  have kmr : Kn P w K mg base 3 2 "_law_mark_right" markRF := okL_mark_right (k := 2) hB DL_mark_right kmark
  have klaw := oklaw (k := 39) hB F (kcell.mono (by omega)) (knames.mono (by omega)) (kbuilt.mono (by omega)) (ksp.mono (by omega)) (kmr.mono (by omega)) (kist.mono (by omega)) ((kdeep 14).mono (by omega)) (ktold.mono (by omega)) (klooks.mono (by omega)) (kmix.mono (by omega)) (kahead.mono (by omega)) (kmixed.mono (by omega)) (kwish.mono (by omega))
  exact law_ofTs hT klaw law_eq

end
end My

namespace My
open PySem L2 Dn
set_option maxHeartbeats 4000000 in
theorem all_mk {l : PySem.W.OpenLaw} {w : World} {K : PySem.W.Frag} {h : Heap} {mg : Str → Option Value} {fa : Addr} (X : K.In h) (G : h.Ns mainGlobals mg) (hfa : mg "law" = some (.ref fa))
    {f0 : Addr} {od0 an0 : Option Addr} {sl0 : Array (Option Value)} {oc0 kV0 dc0 pm0 ct0 : Value} {cT0 : Addr} (a0 : PySem.W.nsIn K mainGlobals "is_mark" = some (some (.ref f0))) (l0 : K.lookup f0 = some ⟨oc0, od0, .func (PySem.W.fnOf "is_mark" "is_mark" (defArgs sis_mark) (defBody sis_mark) (defScope sis_mark) .none kV0 dc0 pm0 an0 (.ref cT0) ct0), sl0⟩) (c0 : PySem.W.codeIn K (.ref cT0) "is_mark" = true) (k0 : PySem.W.keepIn K (.ref f0) = true)
    {f1 : Addr} {od1 an1 : Option Addr} {sl1 : Array (Option Value)} {oc1 kV1 dc1 pm1 cd1 ct1 : Value} (a1 : PySem.W.nsIn K mainGlobals "is_statement" = some (some (.ref f1))) (l1 : K.lookup f1 = some ⟨oc1, od1, .func (PySem.W.fnOf "is_statement" "is_statement" (defArgs sis_statement) (defBody sis_statement) (defScope sis_statement) .none kV1 dc1 pm1 an1 cd1 ct1), sl1⟩) (c1 : PySem.W.codeIn K cd1 "is_statement" = true) (k1 : PySem.W.keepIn K (.ref f1) = true)
    {f2 : Addr} {od2 an2 : Option Addr} {sl2 : Array (Option Value)} {oc2 kV2 dc2 pm2 ct2 : Value} {cT1 : Addr} (a2 : PySem.W.nsIn K mainGlobals "_is_nested" = some (some (.ref f2))) (l2 : K.lookup f2 = some ⟨oc2, od2, .func (PySem.W.fnOf "_is_nested" "_is_nested" (defArgs sis_nested) (defBody sis_nested) (defScope sis_nested) .none kV2 dc2 pm2 an2 (.ref cT1) ct2), sl2⟩) (c2 : PySem.W.codeIn K (.ref cT1) "_is_nested" = true) (k2 : PySem.W.keepIn K (.ref f2) = true)
    {f3 : Addr} {od3 an3 : Option Addr} {sl3 : Array (Option Value)} {oc3 kV3 dc3 pm3 cd3 ct3 : Value} (a3 : PySem.W.nsIn K mainGlobals "_is_later" = some (some (.ref f3))) (l3 : K.lookup f3 = some ⟨oc3, od3, .func (PySem.W.fnOf "_is_later" "_is_later" (defArgs sis_later) (defBody sis_later) (defScope sis_later) .none kV3 dc3 pm3 an3 cd3 ct3), sl3⟩) (c3 : PySem.W.codeIn K cd3 "_is_later" = true) (k3 : PySem.W.keepIn K (.ref f3) = true)
    {f4 : Addr} {od4 an4 : Option Addr} {sl4 : Array (Option Value)} {oc4 kV4 dc4 pm4 cd4 ct4 : Value} (a4 : PySem.W.nsIn K mainGlobals "parts_of" = some (some (.ref f4))) (l4 : K.lookup f4 = some ⟨oc4, od4, .func (PySem.W.fnOf "parts_of" "parts_of" (defArgs sparts_of) (defBody sparts_of) (defScope sparts_of) .none kV4 dc4 pm4 an4 cd4 ct4), sl4⟩) (c4 : PySem.W.codeIn K cd4 "parts_of" = true) (k4 : PySem.W.keepIn K (.ref f4) = true)
    {f5 : Addr} {od5 an5 : Option Addr} {sl5 : Array (Option Value)} {oc5 kV5 dc5 pm5 cd5 ct5 : Value} (a5 : PySem.W.nsIn K mainGlobals "standing_in" = some (some (.ref f5))) (l5 : K.lookup f5 = some ⟨oc5, od5, .func (PySem.W.fnOf "standing_in" "standing_in" (defArgs sstanding_in) (defBody sstanding_in) (defScope sstanding_in) .none kV5 dc5 pm5 an5 cd5 ct5), sl5⟩) (c5 : PySem.W.codeIn K cd5 "standing_in" = true) (k5 : PySem.W.keepIn K (.ref f5) = true)
    {f6 : Addr} {od6 an6 : Option Addr} {sl6 : Array (Option Value)} {oc6 kV6 dc6 pm6 cd6 ct6 : Value} (a6 : PySem.W.nsIn K mainGlobals "each_once" = some (some (.ref f6))) (l6 : K.lookup f6 = some ⟨oc6, od6, .func (PySem.W.fnOf "each_once" "each_once" (defArgs seach_once) (defBody seach_once) (defScope seach_once) .none kV6 dc6 pm6 an6 cd6 ct6), sl6⟩) (c6 : PySem.W.codeIn K cd6 "each_once" = true) (k6 : PySem.W.keepIn K (.ref f6) = true)
    {f7 : Addr} {od7 an7 : Option Addr} {sl7 : Array (Option Value)} {oc7 kV7 dc7 pm7 ct7 : Value} {cT2 : Addr} (a7 : PySem.W.nsIn K mainGlobals "looks_ahead" = some (some (.ref f7))) (l7 : K.lookup f7 = some ⟨oc7, od7, .func (PySem.W.fnOf "looks_ahead" "looks_ahead" (defArgs slooks_ahead) (defBody slooks_ahead) (defScope slooks_ahead) .none kV7 dc7 pm7 an7 (.ref cT2) ct7), sl7⟩) (c7 : PySem.W.codeIn K (.ref cT2) "looks_ahead" = true) (k7 : PySem.W.keepIn K (.ref f7) = true)
    {f8 : Addr} {od8 an8 : Option Addr} {sl8 : Array (Option Value)} {oc8 kV8 dc8 pm8 cd8 ct8 : Value} (a8 : PySem.W.nsIn K mainGlobals "pasts_in" = some (some (.ref f8))) (l8 : K.lookup f8 = some ⟨oc8, od8, .func (PySem.W.fnOf "pasts_in" "pasts_in" (defArgs spasts_in) (defBody spasts_in) (defScope spasts_in) .none kV8 dc8 pm8 an8 cd8 ct8), sl8⟩) (c8 : PySem.W.codeIn K cd8 "pasts_in" = true) (k8 : PySem.W.keepIn K (.ref f8) = true)
    {f9 : Addr} {od9 an9 : Option Addr} {sl9 : Array (Option Value)} {oc9 kV9 dc9 pm9 ct9 : Value} {cT3 : Addr} (a9 : PySem.W.nsIn K mainGlobals "is_mixed" = some (some (.ref f9))) (l9 : K.lookup f9 = some ⟨oc9, od9, .func (PySem.W.fnOf "is_mixed" "is_mixed" (defArgs sis_mixed) (defBody sis_mixed) (defScope sis_mixed) .none kV9 dc9 pm9 an9 (.ref cT3) ct9), sl9⟩) (c9 : PySem.W.codeIn K (.ref cT3) "is_mixed" = true) (k9 : PySem.W.keepIn K (.ref f9) = true)
    {f10 : Addr} {od10 an10 : Option Addr} {sl10 : Array (Option Value)} {oc10 kV10 dc10 pm10 cd10 ct10 : Value} (a10 : PySem.W.nsIn K mainGlobals "marks_in" = some (some (.ref f10))) (l10 : K.lookup f10 = some ⟨oc10, od10, .func (PySem.W.fnOf "marks_in" "marks_in" (defArgs smarks_in) (defBody smarks_in) (defScope smarks_in) .none kV10 dc10 pm10 an10 cd10 ct10), sl10⟩) (c10 : PySem.W.codeIn K cd10 "marks_in" = true) (k10 : PySem.W.keepIn K (.ref f10) = true)
    {f11 : Addr} {od11 an11 : Option Addr} {sl11 : Array (Option Value)} {oc11 kV11 dc11 pm11 cd11 ct11 : Value} (a11 : PySem.W.nsIn K mainGlobals "awaited" = some (some (.ref f11))) (l11 : K.lookup f11 = some ⟨oc11, od11, .func (PySem.W.fnOf "awaited" "awaited" (defArgs sawaited) (defBody sawaited) (defScope sawaited) .none kV11 dc11 pm11 an11 cd11 ct11), sl11⟩) (c11 : PySem.W.codeIn K cd11 "awaited" = true) (k11 : PySem.W.keepIn K (.ref f11) = true)
    {f12 : Addr} {od12 an12 : Option Addr} {sl12 : Array (Option Value)} {oc12 kV12 dc12 pm12 cd12 ct12 : Value} (a12 : PySem.W.nsIn K mainGlobals "hung_on" = some (some (.ref f12))) (l12 : K.lookup f12 = some ⟨oc12, od12, .func (PySem.W.fnOf "hung_on" "hung_on" (defArgs shung_on) (defBody shung_on) (defScope shung_on) .none kV12 dc12 pm12 an12 cd12 ct12), sl12⟩) (c12 : PySem.W.codeIn K cd12 "hung_on" = true) (k12 : PySem.W.keepIn K (.ref f12) = true)
    {f13 : Addr} {od13 an13 : Option Addr} {sl13 : Array (Option Value)} {oc13 kV13 dc13 pm13 cd13 ct13 : Value} (a13 : PySem.W.nsIn K mainGlobals "wishes_in" = some (some (.ref f13))) (l13 : K.lookup f13 = some ⟨oc13, od13, .func (PySem.W.fnOf "wishes_in" "wishes_in" (defArgs swishes_in) (defBody swishes_in) (defScope swishes_in) .none kV13 dc13 pm13 an13 cd13 ct13), sl13⟩) (c13 : PySem.W.codeIn K cd13 "wishes_in" = true) (k13 : PySem.W.keepIn K (.ref f13) = true)
    {f14 : Addr} {od14 an14 : Option Addr} {sl14 : Array (Option Value)} {oc14 kV14 dc14 pm14 cd14 ct14 : Value} (a14 : PySem.W.nsIn K mainGlobals "need_told" = some (some (.ref f14))) (l14 : K.lookup f14 = some ⟨oc14, od14, .func (PySem.W.fnOf "need_told" "need_told" (defArgs sneed_told) (defBody sneed_told) (defScope sneed_told) .none kV14 dc14 pm14 an14 cd14 ct14), sl14⟩) (c14 : PySem.W.codeIn K cd14 "need_told" = true) (k14 : PySem.W.keepIn K (.ref f14) = true)
    {f15 : Addr} {od15 an15 : Option Addr} {sl15 : Array (Option Value)} {oc15 kV15 dc15 pm15 cd15 ct15 : Value} (a15 : PySem.W.nsIn K mainGlobals "_line" = some (some (.ref f15))) (l15 : K.lookup f15 = some ⟨oc15, od15, .func (PySem.W.fnOf "_line" "_line" (defArgs sline) (defBody sline) (defScope sline) .none kV15 dc15 pm15 an15 cd15 ct15), sl15⟩) (c15 : PySem.W.codeIn K cd15 "_line" = true) (k15 : PySem.W.keepIn K (.ref f15) = true)
    {f16 : Addr} {od16 an16 : Option Addr} {sl16 : Array (Option Value)} {oc16 kV16 dc16 pm16 cd16 ct16 : Value} (a16 : PySem.W.nsIn K mainGlobals "_beside" = some (some (.ref f16))) (l16 : K.lookup f16 = some ⟨oc16, od16, .func (PySem.W.fnOf "_beside" "_beside" (defArgs sbeside) (defBody sbeside) (defScope sbeside) .none kV16 dc16 pm16 an16 cd16 ct16), sl16⟩) (c16 : PySem.W.codeIn K cd16 "_beside" = true) (k16 : PySem.W.keepIn K (.ref f16) = true)
    {f17 : Addr} {od17 an17 : Option Addr} {sl17 : Array (Option Value)} {oc17 kV17 dc17 pm17 cd17 ct17 : Value} (a17 : PySem.W.nsIn K mainGlobals "_bits_of_wish" = some (some (.ref f17))) (l17 : K.lookup f17 = some ⟨oc17, od17, .func (PySem.W.fnOf "_bits_of_wish" "_bits_of_wish" (defArgs sbits_of_wish) (defBody sbits_of_wish) (defScope sbits_of_wish) .none kV17 dc17 pm17 an17 cd17 ct17), sl17⟩) (c17 : PySem.W.codeIn K cd17 "_bits_of_wish" = true) (k17 : PySem.W.keepIn K (.ref f17) = true)
    {f18 : Addr} {od18 an18 : Option Addr} {sl18 : Array (Option Value)} {oc18 kV18 dc18 pm18 cd18 ct18 : Value} (a18 : PySem.W.nsIn K mainGlobals "_kept_of" = some (some (.ref f18))) (l18 : K.lookup f18 = some ⟨oc18, od18, .func (PySem.W.fnOf "_kept_of" "_kept_of" (defArgs skept_of) (defBody skept_of) (defScope skept_of) .none kV18 dc18 pm18 an18 cd18 ct18), sl18⟩) (c18 : PySem.W.codeIn K cd18 "_kept_of" = true) (k18 : PySem.W.keepIn K (.ref f18) = true)
    {f19 : Addr} {od19 an19 : Option Addr} {sl19 : Array (Option Value)} {oc19 kV19 dc19 pm19 cd19 ct19 : Value} (a19 : PySem.W.nsIn K mainGlobals "begun" = some (some (.ref f19))) (l19 : K.lookup f19 = some ⟨oc19, od19, .func (PySem.W.fnOf "begun" "begun" (defArgs sbegun) (defBody sbegun) (defScope sbegun) .none kV19 dc19 pm19 an19 cd19 ct19), sl19⟩) (c19 : PySem.W.codeIn K cd19 "begun" = true) (k19 : PySem.W.keepIn K (.ref f19) = true)
    {f20 : Addr} {od20 an20 : Option Addr} {sl20 : Array (Option Value)} {oc20 kV20 dc20 pm20 cd20 ct20 : Value} (a20 : PySem.W.nsIn K mainGlobals "_law_cell_at" = some (some (.ref f20))) (l20 : K.lookup f20 = some ⟨oc20, od20, .func (PySem.W.fnOf "_law_cell_at" "_law_cell_at" (defArgs sL_cell_at) (defBody sL_cell_at) (defScope sL_cell_at) .none kV20 dc20 pm20 an20 cd20 ct20), sl20⟩) (c20 : PySem.W.codeIn K cd20 "_law_cell_at" = true) (k20 : PySem.W.keepIn K (.ref f20) = true)
    {f21 : Addr} {od21 an21 : Option Addr} {sl21 : Array (Option Value)} {oc21 kV21 dc21 pm21 cd21 ct21 : Value} (a21 : PySem.W.nsIn K mainGlobals "_law_draw" = some (some (.ref f21))) (l21 : K.lookup f21 = some ⟨oc21, od21, .func (PySem.W.fnOf "_law_draw" "_law_draw" (defArgs sL_draw) (defBody sL_draw) (defScope sL_draw) .none kV21 dc21 pm21 an21 cd21 ct21), sl21⟩) (c21 : PySem.W.codeIn K cd21 "_law_draw" = true) (k21 : PySem.W.keepIn K (.ref f21) = true)
    {f22 : Addr} {od22 an22 : Option Addr} {sl22 : Array (Option Value)} {oc22 kV22 dc22 pm22 cd22 ct22 : Value} (a22 : PySem.W.nsIn K mainGlobals "_law_names" = some (some (.ref f22))) (l22 : K.lookup f22 = some ⟨oc22, od22, .func (PySem.W.fnOf "_law_names" "_law_names" (defArgs sL_names) (defBody sL_names) (defScope sL_names) .none kV22 dc22 pm22 an22 cd22 ct22), sl22⟩) (c22 : PySem.W.codeIn K cd22 "_law_names" = true) (k22 : PySem.W.keepIn K (.ref f22) = true)
    {f23 : Addr} {od23 an23 : Option Addr} {sl23 : Array (Option Value)} {oc23 kV23 dc23 pm23 cd23 ct23 : Value} (a23 : PySem.W.nsIn K mainGlobals "_law_made" = some (some (.ref f23))) (l23 : K.lookup f23 = some ⟨oc23, od23, .func (PySem.W.fnOf "_law_made" "_law_made" (defArgs sL_made) (defBody sL_made) (defScope sL_made) .none kV23 dc23 pm23 an23 cd23 ct23), sl23⟩) (c23 : PySem.W.codeIn K cd23 "_law_made" = true) (k23 : PySem.W.keepIn K (.ref f23) = true)
    {f24 : Addr} {od24 an24 : Option Addr} {sl24 : Array (Option Value)} {oc24 kV24 dc24 pm24 cd24 ct24 : Value} (a24 : PySem.W.nsIn K mainGlobals "_law_all" = some (some (.ref f24))) (l24 : K.lookup f24 = some ⟨oc24, od24, .func (PySem.W.fnOf "_law_all" "_law_all" (defArgs sL_all) (defBody sL_all) (defScope sL_all) .none kV24 dc24 pm24 an24 cd24 ct24), sl24⟩) (c24 : PySem.W.codeIn K cd24 "_law_all" = true) (k24 : PySem.W.keepIn K (.ref f24) = true)
    {f25 : Addr} {od25 an25 : Option Addr} {sl25 : Array (Option Value)} {oc25 kV25 dc25 pm25 cd25 ct25 : Value} (a25 : PySem.W.nsIn K mainGlobals "_law_wishes" = some (some (.ref f25))) (l25 : K.lookup f25 = some ⟨oc25, od25, .func (PySem.W.fnOf "_law_wishes" "_law_wishes" (defArgs sL_wishes) (defBody sL_wishes) (defScope sL_wishes) .none kV25 dc25 pm25 an25 cd25 ct25), sl25⟩) (c25 : PySem.W.codeIn K cd25 "_law_wishes" = true) (k25 : PySem.W.keepIn K (.ref f25) = true)
    {f26 : Addr} {od26 an26 : Option Addr} {sl26 : Array (Option Value)} {oc26 kV26 dc26 pm26 cd26 ct26 : Value} (a26 : PySem.W.nsIn K mainGlobals "_law_fit" = some (some (.ref f26))) (l26 : K.lookup f26 = some ⟨oc26, od26, .func (PySem.W.fnOf "_law_fit" "_law_fit" (defArgs sL_fit) (defBody sL_fit) (defScope sL_fit) .none kV26 dc26 pm26 an26 cd26 ct26), sl26⟩) (c26 : PySem.W.codeIn K cd26 "_law_fit" = true) (k26 : PySem.W.keepIn K (.ref f26) = true)
    {f27 : Addr} {od27 an27 : Option Addr} {sl27 : Array (Option Value)} {oc27 kV27 dc27 pm27 cd27 ct27 : Value} (a27 : PySem.W.nsIn K mainGlobals "_law_built" = some (some (.ref f27))) (l27 : K.lookup f27 = some ⟨oc27, od27, .func (PySem.W.fnOf "_law_built" "_law_built" (defArgs sL_built) (defBody sL_built) (defScope sL_built) .none kV27 dc27 pm27 an27 cd27 ct27), sl27⟩) (c27 : PySem.W.codeIn K cd27 "_law_built" = true) (k27 : PySem.W.keepIn K (.ref f27) = true)
    {f28 : Addr} {od28 an28 : Option Addr} {sl28 : Array (Option Value)} {oc28 kV28 dc28 pm28 cd28 ct28 : Value} (a28 : PySem.W.nsIn K mainGlobals "_law_put" = some (some (.ref f28))) (l28 : K.lookup f28 = some ⟨oc28, od28, .func (PySem.W.fnOf "_law_put" "_law_put" (defArgs sL_put) (defBody sL_put) (defScope sL_put) .none kV28 dc28 pm28 an28 cd28 ct28), sl28⟩) (c28 : PySem.W.codeIn K cd28 "_law_put" = true) (k28 : PySem.W.keepIn K (.ref f28) = true)
    {f29 : Addr} {od29 an29 : Option Addr} {sl29 : Array (Option Value)} {oc29 kV29 dc29 pm29 cd29 ct29 : Value} (a29 : PySem.W.nsIn K mainGlobals "_law_no_statement" = some (some (.ref f29))) (l29 : K.lookup f29 = some ⟨oc29, od29, .func (PySem.W.fnOf "_law_no_statement" "_law_no_statement" (defArgs sL_no_statement) (defBody sL_no_statement) (defScope sL_no_statement) .none kV29 dc29 pm29 an29 cd29 ct29), sl29⟩) (c29 : PySem.W.codeIn K cd29 "_law_no_statement" = true) (k29 : PySem.W.keepIn K (.ref f29) = true)
    {f30 : Addr} {od30 an30 : Option Addr} {sl30 : Array (Option Value)} {oc30 kV30 dc30 pm30 cd30 ct30 : Value} (a30 : PySem.W.nsIn K mainGlobals "_law_ahead" = some (some (.ref f30))) (l30 : K.lookup f30 = some ⟨oc30, od30, .func (PySem.W.fnOf "_law_ahead" "_law_ahead" (defArgs sL_ahead) (defBody sL_ahead) (defScope sL_ahead) .none kV30 dc30 pm30 an30 cd30 ct30), sl30⟩) (c30 : PySem.W.codeIn K cd30 "_law_ahead" = true) (k30 : PySem.W.keepIn K (.ref f30) = true)
    {f31 : Addr} {od31 an31 : Option Addr} {sl31 : Array (Option Value)} {oc31 kV31 dc31 pm31 cd31 ct31 : Value} (a31 : PySem.W.nsIn K mainGlobals "_law_mixed" = some (some (.ref f31))) (l31 : K.lookup f31 = some ⟨oc31, od31, .func (PySem.W.fnOf "_law_mixed" "_law_mixed" (defArgs sL_mixed) (defBody sL_mixed) (defScope sL_mixed) .none kV31 dc31 pm31 an31 cd31 ct31), sl31⟩) (c31 : PySem.W.codeIn K cd31 "_law_mixed" = true) (k31 : PySem.W.keepIn K (.ref f31) = true)
    {f32 : Addr} {od32 an32 : Option Addr} {sl32 : Array (Option Value)} {oc32 kV32 dc32 pm32 cd32 ct32 : Value} (a32 : PySem.W.nsIn K mainGlobals "_law_deep" = some (some (.ref f32))) (l32 : K.lookup f32 = some ⟨oc32, od32, .func (PySem.W.fnOf "_law_deep" "_law_deep" (defArgs sL_deep) (defBody sL_deep) (defScope sL_deep) .none kV32 dc32 pm32 an32 cd32 ct32), sl32⟩) (c32 : PySem.W.codeIn K cd32 "_law_deep" = true) (k32 : PySem.W.keepIn K (.ref f32) = true)
    {f33 : Addr} {od33 an33 : Option Addr} {sl33 : Array (Option Value)} {oc33 kV33 dc33 pm33 cd33 ct33 : Value} (a33 : PySem.W.nsIn K mainGlobals "_law_word" = some (some (.ref f33))) (l33 : K.lookup f33 = some ⟨oc33, od33, .func (PySem.W.fnOf "_law_word" "_law_word" (defArgs sL_word) (defBody sL_word) (defScope sL_word) .none kV33 dc33 pm33 an33 cd33 ct33), sl33⟩) (c33 : PySem.W.codeIn K cd33 "_law_word" = true) (k33 : PySem.W.keepIn K (.ref f33) = true)
    {f34 : Addr} {od34 an34 : Option Addr} {sl34 : Array (Option Value)} {oc34 kV34 dc34 pm34 cd34 ct34 : Value} (a34 : PySem.W.nsIn K mainGlobals "_law_teller" = some (some (.ref f34))) (l34 : K.lookup f34 = some ⟨oc34, od34, .func (PySem.W.fnOf "_law_teller" "_law_teller" (defArgs sL_teller) (defBody sL_teller) (defScope sL_teller) .none kV34 dc34 pm34 an34 cd34 ct34), sl34⟩) (c34 : PySem.W.codeIn K cd34 "_law_teller" = true) (k34 : PySem.W.keepIn K (.ref f34) = true)
    {f35 : Addr} {od35 an35 : Option Addr} {sl35 : Array (Option Value)} {oc35 kV35 dc35 pm35 cd35 ct35 : Value} (a35 : PySem.W.nsIn K mainGlobals "_law_told" = some (some (.ref f35))) (l35 : K.lookup f35 = some ⟨oc35, od35, .func (PySem.W.fnOf "_law_told" "_law_told" (defArgs sL_told) (defBody sL_told) (defScope sL_told) .none kV35 dc35 pm35 an35 cd35 ct35), sl35⟩) (c35 : PySem.W.codeIn K cd35 "_law_told" = true) (k35 : PySem.W.keepIn K (.ref f35) = true)
    {f36 : Addr} {od36 an36 : Option Addr} {sl36 : Array (Option Value)} {oc36 kV36 dc36 pm36 cd36 ct36 : Value} (a36 : PySem.W.nsIn K mainGlobals "_law_many" = some (some (.ref f36))) (l36 : K.lookup f36 = some ⟨oc36, od36, .func (PySem.W.fnOf "_law_many" "_law_many" (defArgs sL_many) (defBody sL_many) (defScope sL_many) .none kV36 dc36 pm36 an36 cd36 ct36), sl36⟩) (c36 : PySem.W.codeIn K cd36 "_law_many" = true) (k36 : PySem.W.keepIn K (.ref f36) = true)
    {f37 : Addr} {od37 an37 : Option Addr} {sl37 : Array (Option Value)} {oc37 kV37 dc37 pm37 cd37 ct37 : Value} (a37 : PySem.W.nsIn K mainGlobals "_law_spoilt" = some (some (.ref f37))) (l37 : K.lookup f37 = some ⟨oc37, od37, .func (PySem.W.fnOf "_law_spoilt" "_law_spoilt" (defArgs sL_spoilt) (defBody sL_spoilt) (defScope sL_spoilt) .none kV37 dc37 pm37 an37 cd37 ct37), sl37⟩) (c37 : PySem.W.codeIn K cd37 "_law_spoilt" = true) (k37 : PySem.W.keepIn K (.ref f37) = true)
    {f38 : Addr} {od38 an38 : Option Addr} {sl38 : Array (Option Value)} {oc38 kV38 dc38 pm38 cd38 ct38 : Value} (a38 : PySem.W.nsIn K mainGlobals "_law_mark_right" = some (some (.ref f38))) (l38 : K.lookup f38 = some ⟨oc38, od38, .func (PySem.W.fnOf "_law_mark_right" "_law_mark_right" (defArgs sL_mark_right) (defBody sL_mark_right) (defScope sL_mark_right) .none kV38 dc38 pm38 an38 cd38 ct38), sl38⟩) (c38 : PySem.W.codeIn K cd38 "_law_mark_right" = true) (k38 : PySem.W.keepIn K (.ref f38) = true)
    {f39 : Addr} {od39 an39 : Option Addr} {sl39 : Array (Option Value)} {oc39 kV39 dc39 pm39 cd39 ct39 : Value} (a39 : PySem.W.nsIn K mainGlobals "law" = some (some (.ref f39))) (l39 : K.lookup f39 = some ⟨oc39, od39, .func (PySem.W.fnOf "law" "law" (defArgs slaw) (defBody slaw) (defScope slaw) .none kV39 dc39 pm39 an39 cd39 ct39), sl39⟩) (c39 : PySem.W.codeIn K cd39 "law" = true) (k39 : PySem.W.keepIn K (.ref f39) = true)
    {cBadStatement cMixed cTooMany cSaidError cBadMark cNoMark cBadText : Addr} (gBadStatement : PySem.W.nsIn K mainGlobals "BadStatement" = some (some (.ref cBadStatement))) (gMixed : PySem.W.nsIn K mainGlobals "Mixed" = some (some (.ref cMixed))) (gTooMany : PySem.W.nsIn K mainGlobals "TooMany" = some (some (.ref cTooMany))) (gSaidError : PySem.W.nsIn K mainGlobals "SaidError" = some (some (.ref cSaidError))) (gBadMark : PySem.W.nsIn K mainGlobals "BadMark" = some (some (.ref cBadMark))) (gNoMark : PySem.W.nsIn K mainGlobals "NoMark" = some (some (.ref cNoMark))) (gBadText : PySem.W.nsIn K mainGlobals "BadText" = some (some (.ref cBadText)))
    (xq_BadStatement : PySem.W.excIn K cBadStatement [.type "ValueError", .type "Exception", .type "BaseException", .type "object"] "ValueError.__new__" = true) (xk_BadStatement : PySem.W.keepIn K (.ref cBadStatement) = true) (x1_BadStatement : PySem.W.subIn K (.ref cBadStatement) (.type "BaseException") = some true) (x2_BadStatement : PySem.W.typeIn K (.ref cBadStatement) = some (.type "type"))
    (eg_BadStatement : PySem.W.findIn K (.ref cBadStatement) "__getattribute__" = some (some (.builtin "BaseException.__getattribute__"))) (ek_BadStatement : PySem.W.findIn K (.ref cBadStatement) "__getattr__" = some none) (ed_BadStatement : PySem.W.hasDictIn K cBadStatement = true) (ea_BadStatement : PySem.W.findIn K (.ref cBadStatement) "__class__" = some (some (.builtin "object.__class__"))) (em_BadStatement : PySem.W.mroIn K cBadStatement (.type "object") = some true)
    (hx_BadStatement : PySem.W.exmOne K (.ref cBadStatement) (.ref cSaidError) = some true) (kk_BadStatement_BadStatement : PySem.W.kitOne K (.ref cBadStatement) (.ref cBadStatement) = some true) (kk_BadStatement_Mixed : PySem.W.kitOne K (.ref cBadStatement) (.ref cMixed) = some false) (kk_BadStatement_TooMany : PySem.W.kitOne K (.ref cBadStatement) (.ref cTooMany) = some false) (kk_BadStatement_BadMark : PySem.W.kitOne K (.ref cBadStatement) (.ref cBadMark) = some false) (kk_BadStatement_NoMark : PySem.W.kitOne K (.ref cBadStatement) (.ref cNoMark) = some false) (kk_BadStatement_BadText : PySem.W.kitOne K (.ref cBadStatement) (.ref cBadText) = some false) (kV_BadStatement : PySem.W.kitOne K (.ref cBadStatement) (.type "ValueError") = some true)
    (xq_Mixed : PySem.W.excIn K cMixed [.type "ValueError", .type "Exception", .type "BaseException", .type "object"] "ValueError.__new__" = true) (xk_Mixed : PySem.W.keepIn K (.ref cMixed) = true) (x1_Mixed : PySem.W.subIn K (.ref cMixed) (.type "BaseException") = some true) (x2_Mixed : PySem.W.typeIn K (.ref cMixed) = some (.type "type"))
    (eg_Mixed : PySem.W.findIn K (.ref cMixed) "__getattribute__" = some (some (.builtin "BaseException.__getattribute__"))) (ek_Mixed : PySem.W.findIn K (.ref cMixed) "__getattr__" = some none) (ed_Mixed : PySem.W.hasDictIn K cMixed = true) (ea_Mixed : PySem.W.findIn K (.ref cMixed) "__class__" = some (some (.builtin "object.__class__"))) (em_Mixed : PySem.W.mroIn K cMixed (.type "object") = some true)
    (hx_Mixed : PySem.W.exmOne K (.ref cMixed) (.ref cSaidError) = some true) (kk_Mixed_BadStatement : PySem.W.kitOne K (.ref cMixed) (.ref cBadStatement) = some false) (kk_Mixed_Mixed : PySem.W.kitOne K (.ref cMixed) (.ref cMixed) = some true) (kk_Mixed_TooMany : PySem.W.kitOne K (.ref cMixed) (.ref cTooMany) = some false) (kk_Mixed_BadMark : PySem.W.kitOne K (.ref cMixed) (.ref cBadMark) = some false) (kk_Mixed_NoMark : PySem.W.kitOne K (.ref cMixed) (.ref cNoMark) = some false) (kk_Mixed_BadText : PySem.W.kitOne K (.ref cMixed) (.ref cBadText) = some false) (kV_Mixed : PySem.W.kitOne K (.ref cMixed) (.type "ValueError") = some true)
    (xq_TooMany : PySem.W.excIn K cTooMany [.type "ValueError", .type "Exception", .type "BaseException", .type "object"] "ValueError.__new__" = true) (xk_TooMany : PySem.W.keepIn K (.ref cTooMany) = true) (x1_TooMany : PySem.W.subIn K (.ref cTooMany) (.type "BaseException") = some true) (x2_TooMany : PySem.W.typeIn K (.ref cTooMany) = some (.type "type"))
    (eg_TooMany : PySem.W.findIn K (.ref cTooMany) "__getattribute__" = some (some (.builtin "BaseException.__getattribute__"))) (ek_TooMany : PySem.W.findIn K (.ref cTooMany) "__getattr__" = some none) (ed_TooMany : PySem.W.hasDictIn K cTooMany = true) (ea_TooMany : PySem.W.findIn K (.ref cTooMany) "__class__" = some (some (.builtin "object.__class__"))) (em_TooMany : PySem.W.mroIn K cTooMany (.type "object") = some true)
    (hx_TooMany : PySem.W.exmOne K (.ref cTooMany) (.ref cSaidError) = some true) (kk_TooMany_BadStatement : PySem.W.kitOne K (.ref cTooMany) (.ref cBadStatement) = some false) (kk_TooMany_Mixed : PySem.W.kitOne K (.ref cTooMany) (.ref cMixed) = some false) (kk_TooMany_TooMany : PySem.W.kitOne K (.ref cTooMany) (.ref cTooMany) = some true) (kk_TooMany_BadMark : PySem.W.kitOne K (.ref cTooMany) (.ref cBadMark) = some false) (kk_TooMany_NoMark : PySem.W.kitOne K (.ref cTooMany) (.ref cNoMark) = some false) (kk_TooMany_BadText : PySem.W.kitOne K (.ref cTooMany) (.ref cBadText) = some false) (kV_TooMany : PySem.W.kitOne K (.ref cTooMany) (.type "ValueError") = some true)
    (en : PySem.W.specialIn K (.builtin "object.__class__") "__get__" = some (some (.builtin "getset_descriptor.__get__"))) (et : PySem.W.takesIn K (.builtin "object.__class__") = some true)
    {u0 u1 u2 u3 u4 : Tok} (i_MOST_LETTERS : PySem.W.nsIn K mainGlobals "MOST_LETTERS" = some (some (.int 6 u0))) (i_MOST_NESTED : PySem.W.nsIn K mainGlobals "MOST_NESTED" = some (some (.int 6 u1))) (i_MOST_LATER : PySem.W.nsIn K mainGlobals "MOST_LATER" = some (some (.int 4 u2))) (i_MOST_WISHES : PySem.W.nsIn K mainGlobals "MOST_WISHES" = some (some (.int 6 u3))) (aL : PySem.W.nsIn K mainGlobals "LETTERS" = some (some (.str "abcdefghijklmnopqrstuvwxyz" u4)))
    {dP : Addr} {esP : Array DictEntry} {nP : Nat} (aP : PySem.W.nsIn K mainGlobals "PARTS" = some (some (.ref dP))) (lP : K.lookup dP = some ⟨.type "dict", none, .dict esP nP, #[]⟩) (hkP : PySem.W.KeysLit w.params esP.toList) (loP : (dP == sysModules) = false) (heP : esP.toList.map entI = ([("yes", 0), ("not", 1), ("and", 2), ("or", 2), ("next", 1), ("until", 2), ("before", 1), ("since", 2)] : List (Str × Int)).map some)
    {pa ah : Addr} {odPa odAh : Option Addr} {slPa slAh : Array (Option Value)} {nPa nAh : Nat} {v1 v2 v3 v4 v5 : Tok} (aPa : PySem.W.nsIn K mainGlobals "PAST" = some (some (.ref pa))) (lPa : K.lookup pa = some ⟨.type "tuple", odPa, .seq #[.str "before" v1, .str "since" v2] nPa, slPa⟩) (aAh : PySem.W.nsIn K mainGlobals "AHEAD" = some (some (.ref ah))) (lAh : K.lookup ah = some ⟨.type "tuple", odAh, .seq #[.str "next" v3, .str "until" v4, .str "within" v5] nAh, slAh⟩)
    {CPlan fPlan : Addr} {odPlan anPlan : Option Addr} {slPlan : Array (Option Value)} {ocPlan kVPlan dcPlan pmPlan cdPlan ctPlan : Value} (aC_Plan : PySem.W.nsIn K mainGlobals "Plan" = some (some (.ref CPlan))) (aI_Plan : PySem.W.findIn K (.ref CPlan) "__init__" = some (some (.ref fPlan))) (iI_Plan : PySem.W.isFn K (.ref fPlan) = true) (lI_Plan : K.lookup fPlan = some ⟨ocPlan, odPlan, .func (PySem.W.fnOf "__init__" "Plan.__init__" (defArgs sPlan) (defBody sPlan) (defScope sPlan) .none kVPlan dcPlan pmPlan anPlan cdPlan ctPlan), slPlan⟩) (cI_Plan : PySem.W.codeIn K cdPlan "Plan.__init__" = true) (kI_Plan : PySem.W.keepIn K (.ref fPlan) = true)
    (pg_Plan : PySem.W.plainGet K CPlan Str.empty = true) (hd_Plan : PySem.W.hasDictIn K CPlan = true) (po_Plan : PySem.W.plainOver K CPlan = true) (sa_Plan : PySem.W.findIn K (.ref CPlan) "__setattr__" = some (some (.builtin "object.__setattr__"))) (mk_Plan : PySem.W.makesIn K CPlan = true) (kc_Plan : PySem.W.keepIn K (.ref CPlan) = true)
    (n_Plan_wishes : PySem.W.findIn K (.ref CPlan) "wishes" = some none) (n_Plan_pasts : PySem.W.findIn K (.ref CPlan) "pasts" = some none) (n_Plan_marks : PySem.W.findIn K (.ref CPlan) "marks" = some none) (n_Plan_weights : PySem.W.findIn K (.ref CPlan) "weights" = some none) (n_Plan_everywhere : PySem.W.findIn K (.ref CPlan) "everywhere" = some none) (n_Plan_lines : PySem.W.findIn K (.ref CPlan) "lines" = some none) (n_Plan_wish_lines : PySem.W.findIn K (.ref CPlan) "wish_lines" = some none) (n_Plan_kept_lines : PySem.W.findIn K (.ref CPlan) "kept_lines" = some none)
    {CTeller fTeller : Addr} {odTeller anTeller : Option Addr} {slTeller : Array (Option Value)} {ocTeller kVTeller dcTeller pmTeller cdTeller ctTeller : Value} (aC_Teller : PySem.W.nsIn K mainGlobals "Teller" = some (some (.ref CTeller))) (aI_Teller : PySem.W.findIn K (.ref CTeller) "__init__" = some (some (.ref fTeller))) (iI_Teller : PySem.W.isFn K (.ref fTeller) = true) (lI_Teller : K.lookup fTeller = some ⟨ocTeller, odTeller, .func (PySem.W.fnOf "__init__" "Teller.__init__" (defArgs sTeller) (defBody sTeller) (defScope sTeller) .none kVTeller dcTeller pmTeller anTeller cdTeller ctTeller), slTeller⟩) (cI_Teller : PySem.W.codeIn K cdTeller "Teller.__init__" = true) (kI_Teller : PySem.W.keepIn K (.ref fTeller) = true)
    (pg_Teller : PySem.W.plainGet K CTeller Str.empty = true) (hd_Teller : PySem.W.hasDictIn K CTeller = true) (po_Teller : PySem.W.plainOver K CTeller = true) (sa_Teller : PySem.W.findIn K (.ref CTeller) "__setattr__" = some (some (.builtin "object.__setattr__"))) (mk_Teller : PySem.W.makesIn K CTeller = true) (kc_Teller : PySem.W.keepIn K (.ref CTeller) = true)
    (n_Teller__plan : PySem.W.findIn K (.ref CTeller) "_plan" = some none) (n_Teller__state : PySem.W.findIn K (.ref CTeller) "_state" = some none) (n_Teller__marks : PySem.W.findIn K (.ref CTeller) "_marks" = some none) (n_Teller__last : PySem.W.findIn K (.ref CTeller) "_last" = some none) (n_Teller__verdicts : PySem.W.findIn K (.ref CTeller) "_verdicts" = some none)
    {T0 : Addr} {oC0 : Value} {odC0 : Option Addr} {vsC0 : Array Value} {slC0 : Array (Option Value)} (lC0 : K.lookup cT0 = some ⟨oC0, odC0, .fields vsC0, slC0⟩) (hP0 : (vsC0[11]? : Option Value) = some (.ref T0)) (lT0 : K.lookup T0 = none)
    {T1 : Addr} {oC1 : Value} {odC1 : Option Addr} {vsC1 : Array Value} {slC1 : Array (Option Value)} (lC1 : K.lookup cT1 = some ⟨oC1, odC1, .fields vsC1, slC1⟩) (hP1 : (vsC1[11]? : Option Value) = some (.ref T1)) (lT1 : K.lookup T1 = none)
    {T2 : Addr} {oC2 : Value} {odC2 : Option Addr} {vsC2 : Array Value} {slC2 : Array (Option Value)} (lC2 : K.lookup cT2 = some ⟨oC2, odC2, .fields vsC2, slC2⟩) (hP2 : (vsC2[11]? : Option Value) = some (.ref T2)) (lT2 : K.lookup T2 = none)
    {T3 : Addr} {oC3 : Value} {odC3 : Option Addr} {vsC3 : Array Value} {slC3 : Array (Option Value)} (lC3 : K.lookup cT3 = some ⟨oC3, odC3, .fields vsC3, slC3⟩) (hP3 : (vsC3[11]? : Option Value) = some (.ref T3)) (lT3 : K.lookup T3 = none)
    (zV : PySem.W.nsIn K mainGlobals "ValueError" = some none) {q : Program} {er0 er1 er2 er3 : DefRec} (hr0 : (PyProof.Rows.recsOf q).find? (fun e => e.name == ("is_mark" : Str)) = some er0) (hr1 : (PyProof.Rows.recsOf q).find? (fun e => e.name == ("_is_nested" : Str)) = some er1) (hr2 : (PyProof.Rows.recsOf q).find? (fun e => e.name == ("looks_ahead" : Str)) = some er2) (hr3 : (PyProof.Rows.recsOf q).find? (fun e => e.name == ("is_mixed" : Str)) = some er3)

    (z_all : PySem.W.nsIn K mainGlobals "all" = some none) (z_any : PySem.W.nsIn K mainGlobals "any" = some none) (z_bool : PySem.W.nsIn K mainGlobals "bool" = some none) (z_int : PySem.W.nsIn K mainGlobals "int" = some none) (z_isinstance : PySem.W.nsIn K mainGlobals "isinstance" = some none) (z_len : PySem.W.nsIn K mainGlobals "len" = some none) (z_max : PySem.W.nsIn K mainGlobals "max" = some none) (z_range : PySem.W.nsIn K mainGlobals "range" = some none) (z_set : PySem.W.nsIn K mainGlobals "set" = some none) (z_sorted : PySem.W.nsIn K mainGlobals "sorted" = some none) (z_str : PySem.W.nsIn K mainGlobals "str" = some none) (z_sum : PySem.W.nsIn K mainGlobals "sum" = some none) (z_tuple : PySem.W.nsIn K mainGlobals "tuple" = some none) (z_type : PySem.W.nsIn K mainGlobals "type" = some none) :
    ∃ (fd : FuncData) (cs : List (Addr × Addr)), (∀ p ∈ cs, TabOf q K p) ∧ (∀ (s : Shared) (v : Value), BindsTo s fd ⟨[v], []⟩ [("_law_script", v)]) ∧ ∀ base : Heap, K.In base → base.Ns mainGlobals mg → (∀ p ∈ cs, GxR.TabB base mg p.1 p.2) → FnOk l.prog w K mg base CX0 40 fa fd ["_law_script"] (spLawTs K (cs.map (·.2))) := by
  have e := hfa.symm.trans (PySem.W.mg_of X G a39)
  cases e
  letI : Tbs := ⟨[T0, T1, T2, T3], clOf [("BadStatement", cBadStatement), ("Mixed", cMixed), ("TooMany", cTooMany), ("SaidError", cSaidError), ("BadMark", cBadMark), ("NoMark", cNoMark), ("BadText", cBadText), ("Plan", CPlan), ("Teller", CTeller)]⟩
  have EBadStatement : Tbs.Cl "BadStatement" = cBadStatement := clOf_hit
  have EMixed : Tbs.Cl "Mixed" = cMixed := (clOf_miss (by decide +kernel)).trans (clOf_hit)
  have ETooMany : Tbs.Cl "TooMany" = cTooMany := (clOf_miss (by decide +kernel)).trans ((clOf_miss (by decide +kernel)).trans (clOf_hit))
  have ESaidError : Tbs.Cl "SaidError" = cSaidError := (clOf_miss (by decide +kernel)).trans ((clOf_miss (by decide +kernel)).trans ((clOf_miss (by decide +kernel)).trans (clOf_hit)))
  have EBadMark : Tbs.Cl "BadMark" = cBadMark := (clOf_miss (by decide +kernel)).trans ((clOf_miss (by decide +kernel)).trans ((clOf_miss (by decide +kernel)).trans ((clOf_miss (by decide +kernel)).trans (clOf_hit))))
  have ENoMark : Tbs.Cl "NoMark" = cNoMark := (clOf_miss (by decide +kernel)).trans ((clOf_miss (by decide +kernel)).trans ((clOf_miss (by decide +kernel)).trans ((clOf_miss (by decide +kernel)).trans ((clOf_miss (by decide +kernel)).trans (clOf_hit)))))
  have EBadText : Tbs.Cl "BadText" = cBadText := (clOf_miss (by decide +kernel)).trans ((clOf_miss (by decide +kernel)).trans ((clOf_miss (by decide +kernel)).trans ((clOf_miss (by decide +kernel)).trans ((clOf_miss (by decide +kernel)).trans ((clOf_miss (by decide +kernel)).trans (clOf_hit))))))
  have EPlan : Tbs.Cl "Plan" = CPlan := (clOf_miss (by decide +kernel)).trans ((clOf_miss (by decide +kernel)).trans ((clOf_miss (by decide +kernel)).trans ((clOf_miss (by decide +kernel)).trans ((clOf_miss (by decide +kernel)).trans ((clOf_miss (by decide +kernel)).trans ((clOf_miss (by decide +kernel)).trans (clOf_hit)))))))
  have ETeller : Tbs.Cl "Teller" = CTeller := (clOf_miss (by decide +kernel)).trans ((clOf_miss (by decide +kernel)).trans ((clOf_miss (by decide +kernel)).trans ((clOf_miss (by decide +kernel)).trans ((clOf_miss (by decide +kernel)).trans ((clOf_miss (by decide +kernel)).trans ((clOf_miss (by decide +kernel)).trans ((clOf_miss (by decide +kernel)).trans (clOf_hit))))))))
  have hB : Bl mg := ⟨PySem.W.mg_none_of X G z_all, PySem.W.mg_none_of X G z_any, PySem.W.mg_none_of X G z_bool, PySem.W.mg_none_of X G z_int, PySem.W.mg_none_of X G z_isinstance, PySem.W.mg_none_of X G z_len, PySem.W.mg_none_of X G z_max, PySem.W.mg_none_of X G z_range, PySem.W.mg_none_of X G z_set, PySem.W.mg_none_of X G z_sorted, PySem.W.mg_none_of X G z_str, PySem.W.mg_none_of X G z_sum, PySem.W.mg_none_of X G z_tuple, PySem.W.mg_none_of X G z_type⟩
  have Dis_mark : DfG K mg "is_mark" sis_mark ["thing"] cT0 := ⟨⟨_, _, _, _, _, _, _, _, _, l0, c0, k0, PySem.W.mg_of X G a0, (fun_mk (st := sis_mark) l0 c0 k0).binds (ps := ["thing"]) fun _ _ _ _ _ _ us hl => match us, hl with | [_], _ => rfl⟩⟩
  have Dis_statement : Df K mg "is_statement" sis_statement ["thing"] := df_mk X G a1 l1 c1 k1 fun _ _ _ _ _ _ us hl => match us, hl with | [_], _ => rfl
  have Dis_nested : DfG K mg "_is_nested" sis_nested ["thing", "most"] cT1 := ⟨⟨_, _, _, _, _, _, _, _, _, l2, c2, k2, PySem.W.mg_of X G a2, (fun_mk (st := sis_nested) l2 c2 k2).binds (ps := ["thing", "most"]) fun _ _ _ _ _ _ us hl => match us, hl with | [_, _], _ => rfl⟩⟩
  have Dis_later : Df K mg "_is_later" sis_later ["thing"] := df_mk X G a3 l3 c3 k3 fun _ _ _ _ _ _ us hl => match us, hl with | [_], _ => rfl
  have Dparts_of : Df K mg "parts_of" sparts_of ["statement"] := df_mk X G a4 l4 c4 k4 fun _ _ _ _ _ _ us hl => match us, hl with | [_], _ => rfl
  have Dstanding_in : Df K mg "standing_in" sstanding_in ["statement"] := df_mk X G a5 l5 c5 k5 fun _ _ _ _ _ _ us hl => match us, hl with | [_], _ => rfl
  have Deach_once : Df K mg "each_once" seach_once ["statements"] := df_mk X G a6 l6 c6 k6 fun _ _ _ _ _ _ us hl => match us, hl with | [_], _ => rfl
  have Dlooks_ahead : DfG K mg "looks_ahead" slooks_ahead ["statement"] cT2 := ⟨⟨_, _, _, _, _, _, _, _, _, l7, c7, k7, PySem.W.mg_of X G a7, (fun_mk (st := slooks_ahead) l7 c7 k7).binds (ps := ["statement"]) fun _ _ _ _ _ _ us hl => match us, hl with | [_], _ => rfl⟩⟩
  have Dpasts_in : Df K mg "pasts_in" spasts_in ["statement"] := df_mk X G a8 l8 c8 k8 fun _ _ _ _ _ _ us hl => match us, hl with | [_], _ => rfl
  have Dis_mixed : DfG K mg "is_mixed" sis_mixed ["statement"] cT3 := ⟨⟨_, _, _, _, _, _, _, _, _, l9, c9, k9, PySem.W.mg_of X G a9, (fun_mk (st := sis_mixed) l9 c9 k9).binds (ps := ["statement"]) fun _ _ _ _ _ _ us hl => match us, hl with | [_], _ => rfl⟩⟩
  have Dmarks_in : Df K mg "marks_in" smarks_in ["statement"] := df_mk X G a10 l10 c10 k10 fun _ _ _ _ _ _ us hl => match us, hl with | [_], _ => rfl
  have Dawaited : Df K mg "awaited" sawaited ["statement"] := df_mk X G a11 l11 c11 k11 fun _ _ _ _ _ _ us hl => match us, hl with | [_], _ => rfl
  have Dhung_on : Df K mg "hung_on" shung_on ["statement"] := df_mk X G a12 l12 c12 k12 fun _ _ _ _ _ _ us hl => match us, hl with | [_], _ => rfl
  have Dwishes_in : Df K mg "wishes_in" swishes_in ["statement"] := df_mk X G a13 l13 c13 k13 fun _ _ _ _ _ _ us hl => match us, hl with | [_], _ => rfl
  have Dneed_told : Df K mg "need_told" sneed_told ["statement"] := df_mk X G a14 l14 c14 k14 fun _ _ _ _ _ _ us hl => match us, hl with | [_], _ => rfl
  have Dline : Df K mg "_line" sline ["plan", "standing", "statement"] := df_mk X G a15 l15 c15 k15 fun _ _ _ _ _ _ us hl => match us, hl with | [_, _, _], _ => rfl
  have Dbeside : Df K mg "_beside" sbeside ["plan", "statement"] := df_mk X G a16 l16 c16 k16 fun _ _ _ _ _ _ us hl => match us, hl with | [_, _], _ => rfl
  have Dbits_of_wish : Df K mg "_bits_of_wish" sbits_of_wish ["plan", "wish"] := df_mk X G a17 l17 c17 k17 fun _ _ _ _ _ _ us hl => match us, hl with | [_, _], _ => rfl
  have Dkept_of : Df K mg "_kept_of" skept_of ["past"] := df_mk X G a18 l18 c18 k18 fun _ _ _ _ _ _ us hl => match us, hl with | [_], _ => rfl
  have Dbegun : Df K mg "begun" sbegun ["plan"] := df_mk X G a19 l19 c19 k19 fun _ _ _ _ _ _ us hl => match us, hl with | [_], _ => rfl
  have DL_cell_at : Df K mg "_law_cell_at" sL_cell_at ["_law_script", "_law_k"] := df_mk X G a20 l20 c20 k20 fun _ _ _ _ _ _ us hl => match us, hl with | [_, _], _ => rfl
  have DL_draw : Df K mg "_law_draw" sL_draw ["_law_script", "_law_spot"] := df_mk X G a21 l21 c21 k21 fun _ _ _ _ _ _ us hl => match us, hl with | [_, _], _ => rfl
  have DL_names : Df K mg "_law_names" sL_names ["_law_cell"] := df_mk X G a22 l22 c22 k22 fun _ _ _ _ _ _ us hl => match us, hl with | [_], _ => rfl
  have DL_made : Df K mg "_law_made" sL_made ["_law_script", "_law_spot", "_law_names_here", "_law_deep_here", "_law_ahead_here"] := df_mk X G a23 l23 c23 k23 fun _ _ _ _ _ _ us hl => match us, hl with | [_, _, _, _, _], _ => rfl
  have DL_all : Df K mg "_law_all" sL_all ["_law_statement"] := df_mk X G a24 l24 c24 k24 fun _ _ _ _ _ _ us hl => match us, hl with | [_], _ => rfl
  have DL_wishes : Df K mg "_law_wishes" sL_wishes ["_law_statement"] := df_mk X G a25 l25 c25 k25 fun _ _ _ _ _ _ us hl => match us, hl with | [_], _ => rfl
  have DL_fit : Df K mg "_law_fit" sL_fit ["_law_statement", "_law_most"] := df_mk X G a26 l26 c26 k26 fun _ _ _ _ _ _ us hl => match us, hl with | [_, _], _ => rfl
  have DL_built : Df K mg "_law_built" sL_built ["_law_script", "_law_names_here", "_law_most"] := df_mk X G a27 l27 c27 k27 fun _ _ _ _ _ _ us hl => match us, hl with | [_, _, _], _ => rfl
  have DL_put : Df K mg "_law_put" sL_put ["_law_statement", "_law_at", "_law_other"] := df_mk X G a28 l28 c28 k28 fun _ _ _ _ _ _ us hl => match us, hl with | [_, _, _], _ => rfl
  have DL_no_statement : Df K mg "_law_no_statement" sL_no_statement ["_law_cell", "_law_names_here"] := df_mk X G a29 l29 c29 k29 fun _ _ _ _ _ _ us hl => match us, hl with | [_, _], _ => rfl
  have DL_ahead : Df K mg "_law_ahead" sL_ahead ["_law_statement"] := df_mk X G a30 l30 c30 k30 fun _ _ _ _ _ _ us hl => match us, hl with | [_], _ => rfl
  have DL_mixed : Df K mg "_law_mixed" sL_mixed ["_law_statement"] := df_mk X G a31 l31 c31 k31 fun _ _ _ _ _ _ us hl => match us, hl with | [_], _ => rfl
  have DL_deep : Df K mg "_law_deep" sL_deep ["_law_statement"] := df_mk X G a32 l32 c32 k32 fun _ _ _ _ _ _ us hl => match us, hl with | [_], _ => rfl
  have DL_teller : Df K mg "_law_teller" sL_teller ["_law_thing"] := df_mk X G a34 l34 c34 k34 fun _ _ _ _ _ _ us hl => match us, hl with | [_], _ => rfl
  have DL_told : Df K mg "_law_told" sL_told ["_law_thing"] := df_mk X G a35 l35 c35 k35 fun _ _ _ _ _ _ us hl => match us, hl with | [_], _ => rfl
  have DL_many : Df K mg "_law_many" sL_many ["_law_script", "_law_names_here"] := df_mk X G a36 l36 c36 k36 fun _ _ _ _ _ _ us hl => match us, hl with | [_, _], _ => rfl
  have DL_spoilt : Df K mg "_law_spoilt" sL_spoilt ["_law_script", "_law_names_here", "_law_statement"] := df_mk X G a37 l37 c37 k37 fun _ _ _ _ _ _ us hl => match us, hl with | [_, _, _], _ => rfl
  have DL_mark_right : Df K mg "_law_mark_right" sL_mark_right ["_law_cell", "_law_names_here"] := df_mk X G a38 l38 c38 k38 fun _ _ _ _ _ _ us hl => match us, hl with | [_, _], _ => rfl
  have XBadStatement : ExF K mg "BadStatement" [.type "ValueError", .type "Exception", .type "BaseException", .type "object"] := ⟨by rw [EBadStatement]; exact xq_BadStatement, by rw [EBadStatement]; exact PySem.W.mg_of X G gBadStatement, by rw [EBadStatement]; exact xk_BadStatement, by rw [EBadStatement]; exact x1_BadStatement, by rw [EBadStatement]; exact x2_BadStatement⟩
  have eBadStatement : ExcC K (Tbs.Cl "BadStatement") := by rw [EBadStatement]; exact ⟨eg_BadStatement, ek_BadStatement, x1_BadStatement, ed_BadStatement, ea_BadStatement, en, et, em_BadStatement⟩
  have KBadStatement : Kinds K "BadStatement" 0 := ⟨eBadStatement, by rw [EBadStatement]; exact kk_BadStatement_BadStatement, by rw [EBadStatement, EMixed]; exact kk_BadStatement_Mixed, by rw [EBadStatement, ETooMany]; exact kk_BadStatement_TooMany, by rw [EBadStatement, EBadMark]; exact kk_BadStatement_BadMark, by rw [EBadStatement, ENoMark]; exact kk_BadStatement_NoMark, by rw [EBadStatement, EBadText]; exact kk_BadStatement_BadText, by rw [EBadStatement]; exact kV_BadStatement⟩
  have XMixed : ExF K mg "Mixed" [.type "ValueError", .type "Exception", .type "BaseException", .type "object"] := ⟨by rw [EMixed]; exact xq_Mixed, by rw [EMixed]; exact PySem.W.mg_of X G gMixed, by rw [EMixed]; exact xk_Mixed, by rw [EMixed]; exact x1_Mixed, by rw [EMixed]; exact x2_Mixed⟩
  have eMixed : ExcC K (Tbs.Cl "Mixed") := by rw [EMixed]; exact ⟨eg_Mixed, ek_Mixed, x1_Mixed, ed_Mixed, ea_Mixed, en, et, em_Mixed⟩
  have KMixed : Kinds K "Mixed" 1 := ⟨eMixed, by rw [EMixed, EBadStatement]; exact kk_Mixed_BadStatement, by rw [EMixed]; exact kk_Mixed_Mixed, by rw [EMixed, ETooMany]; exact kk_Mixed_TooMany, by rw [EMixed, EBadMark]; exact kk_Mixed_BadMark, by rw [EMixed, ENoMark]; exact kk_Mixed_NoMark, by rw [EMixed, EBadText]; exact kk_Mixed_BadText, by rw [EMixed]; exact kV_Mixed⟩
  have XTooMany : ExF K mg "TooMany" [.type "ValueError", .type "Exception", .type "BaseException", .type "object"] := ⟨by rw [ETooMany]; exact xq_TooMany, by rw [ETooMany]; exact PySem.W.mg_of X G gTooMany, by rw [ETooMany]; exact xk_TooMany, by rw [ETooMany]; exact x1_TooMany, by rw [ETooMany]; exact x2_TooMany⟩
  have eTooMany : ExcC K (Tbs.Cl "TooMany") := by rw [ETooMany]; exact ⟨eg_TooMany, ek_TooMany, x1_TooMany, ed_TooMany, ea_TooMany, en, et, em_TooMany⟩
  have KTooMany : Kinds K "TooMany" 2 := ⟨eTooMany, by rw [ETooMany, EBadStatement]; exact kk_TooMany_BadStatement, by rw [ETooMany, EMixed]; exact kk_TooMany_Mixed, by rw [ETooMany]; exact kk_TooMany_TooMany, by rw [ETooMany, EBadMark]; exact kk_TooMany_BadMark, by rw [ETooMany, ENoMark]; exact kk_TooMany_NoMark, by rw [ETooMany, EBadText]; exact kk_TooMany_BadText, by rw [ETooMany]; exact kV_TooMany⟩
  have hKd : ∀ n j, wordJ n = some j → Kinds K n j := fun n j h => by
    unfold wordJ at h
    split at h
    · rename_i e; cases h; rw [e]; exact KBadStatement
    · split at h
      · rename_i e; cases h; rw [e]; exact KMixed
      · split at h
        · rename_i e; cases h; rw [e]; exact KTooMany
        · cases h
  have FPlan := fun_mk (st := sPlan) lI_Plan cI_Plan kI_Plan
  have bPlan := FPlan.binds (ps := ["self", "statement"]) fun _ _ _ _ _ _ us hl => match us, hl with | [_, _], _ => rfl
  have CPlan' : Cla K "Plan" flPlan := ⟨by rw [EPlan]; exact ⟨pg_Plan, hd_Plan, po_Plan, sa_Plan⟩, fun f hf => by
    rw [EPlan]
    simp only [flPlan, List.mem_cons, List.not_mem_nil, or_false] at hf
    rcases hf with rfl | rfl | rfl | rfl | rfl | rfl | rfl | rfl
    · exact n_Plan_wishes
    · exact n_Plan_pasts
    · exact n_Plan_marks
    · exact n_Plan_weights
    · exact n_Plan_everywhere
    · exact n_Plan_lines
    · exact n_Plan_wish_lines
    · exact n_Plan_kept_lines⟩
  have MPlan : Mk K (Tbs.Cl "Plan") fPlan := by rw [EPlan]; exact ⟨mk_Plan, aI_Plan, iI_Plan, kc_Plan⟩
  have FTeller := fun_mk (st := sTeller) lI_Teller cI_Teller kI_Teller
  have bTeller := FTeller.binds (ps := ["self", "statement"]) fun _ _ _ _ _ _ us hl => match us, hl with | [_, _], _ => rfl
  have CTeller' : Cla K "Teller" flTeller := ⟨by rw [ETeller]; exact ⟨pg_Teller, hd_Teller, po_Teller, sa_Teller⟩, fun f hf => by
    rw [ETeller]
    simp only [flTeller, List.mem_cons, List.not_mem_nil, or_false] at hf
    rcases hf with rfl | rfl | rfl | rfl | rfl
    · exact n_Teller__plan
    · exact n_Teller__state
    · exact n_Teller__marks
    · exact n_Teller__last
    · exact n_Teller__verdicts⟩
  have MTeller : Mk K (Tbs.Cl "Teller") fTeller := by rw [ETeller]; exact ⟨mk_Teller, aI_Teller, iI_Teller, kc_Teller⟩
  have bW := (fun_mk (st := sL_word) l33 c33 k33).binds (ps := ["_law_e"]) fun _ _ _ _ _ _ us hl => match us, hl with | [_], _ => rfl
  refine ⟨PySem.W.fnOf "law" "law" (defArgs slaw) (defBody slaw) (defScope slaw) .none kV39 dc39 pm39 an39 cd39 ct39, [(cT0, T0), (cT1, T1), (cT2, T2), (cT3, T3)], ?hp, ?hb, ?hc⟩
  case hp =>
    intro p hp
    simp only [List.mem_cons, List.not_mem_nil, or_false] at hp
    rcases hp with rfl | rfl | rfl | rfl
    · exact ⟨⟨_, er0, hr0, tab_mk a0 l0 rfl lC0 hP0⟩, lT0⟩
    · exact ⟨⟨_, er1, hr1, tab_mk a2 l2 rfl lC1 hP1⟩, lT1⟩
    · exact ⟨⟨_, er2, hr2, tab_mk a7 l7 rfl lC2 hP2⟩, lT2⟩
    · exact ⟨⟨_, er3, hr3, tab_mk a9 l9 rfl lC3 hP3⟩, lT3⟩
  case hc =>
    intro base _ _ tB
    exact chain hB (PySem.W.mg_none_of X G zV) rfl (tB (cT0, T0) (by simp)) (tB (cT1, T1) (by simp)) (tB (cT2, T2) (by simp)) (tB (cT3, T3) (by simp)) Dis_mark Dis_statement Dis_nested Dis_later Dparts_of Dstanding_in Deach_once Dlooks_ahead Dpasts_in Dis_mixed Dmarks_in Dawaited Dhung_on Dwishes_in Dneed_told Dline Dbeside Dbits_of_wish Dkept_of Dbegun DL_cell_at DL_draw DL_names DL_made DL_all DL_wishes DL_fit DL_built DL_put DL_no_statement DL_ahead DL_mixed DL_deep DL_teller DL_told DL_many DL_spoilt DL_mark_right l33 c33 (PySem.W.mg_of X G a33) k33 bW
      (cn_int (PySem.W.mg_of X G i_MOST_LETTERS)) (cn_str (PySem.W.mg_of X G aL)) (cn_int (PySem.W.mg_of X G i_MOST_NESTED)) (cn_int (PySem.W.mg_of X G i_MOST_LATER)) (cn_int (PySem.W.mg_of X G i_MOST_WISHES)) (cd_ints (PySem.W.mg_of X G aP) lP hkP loP heP) (cn_two (PySem.W.mg_of X G aPa) lPa) (cn_three (PySem.W.mg_of X G aAh) lAh)
      CPlan' FPlan MPlan (by rw [EPlan]; exact PySem.W.mg_of X G aC_Plan) bPlan CTeller' FTeller MTeller (by rw [ETeller]; exact PySem.W.mg_of X G aC_Teller) bTeller
      XBadStatement XMixed XTooMany (by rw [EBadStatement]; exact PySem.W.mg_of X G gBadStatement) (by rw [EMixed]; exact PySem.W.mg_of X G gMixed) (by rw [ETooMany]; exact PySem.W.mg_of X G gTooMany) (by rw [ESaidError]; exact PySem.W.mg_of X G gSaidError) (by rw [EBadMark]; exact PySem.W.mg_of X G gBadMark) (by rw [ENoMark]; exact PySem.W.mg_of X G gNoMark) (by rw [EBadText]; exact PySem.W.mg_of X G gBadText) hKd (by rw [EBadStatement, ESaidError]; exact hx_BadStatement) (by rw [EMixed, ESaidError]; exact hx_Mixed) (by rw [ETooMany, ESaidError]; exact hx_TooMany)
      (fun_mk (st := slaw) l39 c39 k39)
  case hb => exact fun s v => .of_eq rfl
end My

open PySem PySem.W PyProof.Rows
set_option maxRecDepth 100000 in
set_option maxHeartbeats 0 in
theorem PySem.Challenge.cw_soonsaid_k01_what_is_told_holds : PySem.Challenge.rw_soonsaid_k01_what_is_told.Holds := by
  w_on; o_law; k_head; (case hw => w_witness2)
  k_fill
  refine Dn.walkTs (k := 40) (l := PySem.Challenge.rw_soonsaid_k01_what_is_told) rfl rfl ⟨rfl, by decide, by decide⟩ (fun w h Y => PySem.W.kIn_of Y) ?F
  case F =>
    intro w mg fa h KX G hmg
    refine' My.all_mk KX G hmg ?a0 ?l0 ?c0 ?k0 ?a1 ?l1 ?c1 ?k1 ?a2 ?l2 ?c2 ?k2 ?a3 ?l3 ?c3 ?k3 ?a4 ?l4 ?c4 ?k4 ?a5 ?l5 ?c5 ?k5 ?a6 ?l6 ?c6 ?k6 ?a7 ?l7 ?c7 ?k7 ?a8 ?l8 ?c8 ?k8 ?a9 ?l9 ?c9 ?k9 ?a10 ?l10 ?c10 ?k10 ?a11 ?l11 ?c11 ?k11 ?a12 ?l12 ?c12 ?k12 ?a13 ?l13 ?c13 ?k13 ?a14 ?l14 ?c14 ?k14 ?a15 ?l15 ?c15 ?k15 ?a16 ?l16 ?c16 ?k16 ?a17 ?l17 ?c17 ?k17 ?a18 ?l18 ?c18 ?k18 ?a19 ?l19 ?c19 ?k19 ?a20 ?l20 ?c20 ?k20 ?a21 ?l21 ?c21 ?k21 ?a22 ?l22 ?c22 ?k22 ?a23 ?l23 ?c23 ?k23 ?a24 ?l24 ?c24 ?k24 ?a25 ?l25 ?c25 ?k25 ?a26 ?l26 ?c26 ?k26 ?a27 ?l27 ?c27 ?k27 ?a28 ?l28 ?c28 ?k28 ?a29 ?l29 ?c29 ?k29 ?a30 ?l30 ?c30 ?k30 ?a31 ?l31 ?c31 ?k31 ?a32 ?l32 ?c32 ?k32 ?a33 ?l33 ?c33 ?k33 ?a34 ?l34 ?c34 ?k34 ?a35 ?l35 ?c35 ?k35 ?a36 ?l36 ?c36 ?k36 ?a37 ?l37 ?c37 ?k37 ?a38 ?l38 ?c38 ?k38 ?a39 ?l39 ?c39 ?k39 ?gBadStatement ?gMixed ?gTooMany ?gSaidError ?gBadMark ?gNoMark ?gBadText ?xq_BadStatement ?xk_BadStatement ?x1_BadStatement ?x2_BadStatement ?eg_BadStatement ?ek_BadStatement ?ed_BadStatement ?ea_BadStatement ?em_BadStatement ?hx_BadStatement ?kk_BadStatement_BadStatement ?kk_BadStatement_Mixed ?kk_BadStatement_TooMany ?kk_BadStatement_BadMark ?kk_BadStatement_NoMark ?kk_BadStatement_BadText ?kV_BadStatement ?xq_Mixed ?xk_Mixed ?x1_Mixed ?x2_Mixed ?eg_Mixed ?ek_Mixed ?ed_Mixed ?ea_Mixed ?em_Mixed ?hx_Mixed ?kk_Mixed_BadStatement ?kk_Mixed_Mixed ?kk_Mixed_TooMany ?kk_Mixed_BadMark ?kk_Mixed_NoMark ?kk_Mixed_BadText ?kV_Mixed ?xq_TooMany ?xk_TooMany ?x1_TooMany ?x2_TooMany ?eg_TooMany ?ek_TooMany ?ed_TooMany ?ea_TooMany ?em_TooMany ?hx_TooMany ?kk_TooMany_BadStatement ?kk_TooMany_Mixed ?kk_TooMany_TooMany ?kk_TooMany_BadMark ?kk_TooMany_NoMark ?kk_TooMany_BadText ?kV_TooMany ?en ?et ?i_MOST_LETTERS ?i_MOST_NESTED ?i_MOST_LATER ?i_MOST_WISHES ?aL ?aP ?lP ?hkP ?loP ?heP ?aPa ?lPa ?aAh ?lAh ?aC_Plan ?aI_Plan ?iI_Plan ?lI_Plan ?cI_Plan ?kI_Plan ?pg_Plan ?hd_Plan ?po_Plan ?sa_Plan ?mk_Plan ?kc_Plan ?n_Plan_wishes ?n_Plan_pasts ?n_Plan_marks ?n_Plan_weights ?n_Plan_everywhere ?n_Plan_lines ?n_Plan_wish_lines ?n_Plan_kept_lines ?aC_Teller ?aI_Teller ?iI_Teller ?lI_Teller ?cI_Teller ?kI_Teller ?pg_Teller ?hd_Teller ?po_Teller ?sa_Teller ?mk_Teller ?kc_Teller ?n_Teller__plan ?n_Teller__state ?n_Teller__marks ?n_Teller__last ?n_Teller__verdicts ?lC0 ?hP0 ?lT0 ?lC1 ?hP1 ?lT1 ?lC2 ?hP2 ?lT2 ?lC3 ?hP3 ?lT3 ?zV ?hr0 ?hr1 ?hr2 ?hr3 ?z_all ?z_any ?z_bool ?z_int ?z_isinstance ?z_len ?z_max ?z_range ?z_set ?z_sorted ?z_str ?z_sum ?z_tuple ?z_type
    (case a0 => k_is)
    (case l0 => k_is)
    (case c0 => k_is)
    (case k0 => k_is)
    (case a1 => k_is)
    (case l1 => k_is)
    (case c1 => k_is)
    (case k1 => k_is)
    (case a2 => k_is)
    (case l2 => k_is)
    (case c2 => k_is)
    (case k2 => k_is)
    (case a3 => k_is)
    (case l3 => k_is)
    (case c3 => k_is)
    (case k3 => k_is)
    (case a4 => k_is)
    (case l4 => k_is)
    (case c4 => k_is)
    (case k4 => k_is)
    (case a5 => k_is)
    (case l5 => k_is)
    (case c5 => k_is)
    (case k5 => k_is)
    (case a6 => k_is)
    (case l6 => k_is)
    (case c6 => k_is)
    (case k6 => k_is)
    (case a7 => k_is)
    (case l7 => k_is)
    (case c7 => k_is)
    (case k7 => k_is)
    (case a8 => k_is)
    (case l8 => k_is)
    (case c8 => k_is)
    (case k8 => k_is)
    (case a9 => k_is)
    (case l9 => k_is)
    (case c9 => k_is)
    (case k9 => k_is)
    (case a10 => k_is)
    (case l10 => k_is)
    (case c10 => k_is)
    (case k10 => k_is)
    (case a11 => k_is)
    (case l11 => k_is)
    (case c11 => k_is)
    (case k11 => k_is)
    (case a12 => k_is)
    (case l12 => k_is)
    (case c12 => k_is)
    (case k12 => k_is)
    (case a13 => k_is)
    (case l13 => k_is)
    (case c13 => k_is)
    (case k13 => k_is)
    (case a14 => k_is)
    (case l14 => k_is)
    (case c14 => k_is)
    (case k14 => k_is)
    (case a15 => k_is)
    (case l15 => k_is)
    (case c15 => k_is)
    (case k15 => k_is)
    (case a16 => k_is)
    (case l16 => k_is)
    (case c16 => k_is)
    (case k16 => k_is)
    (case a17 => k_is)
    (case l17 => k_is)
    (case c17 => k_is)
    (case k17 => k_is)
    (case a18 => k_is)
    (case l18 => k_is)
    (case c18 => k_is)
    (case k18 => k_is)
    (case a19 => k_is)
    (case l19 => k_is)
    (case c19 => k_is)
    (case k19 => k_is)
    (case a20 => k_is)
    (case l20 => k_is)
    (case c20 => k_is)
    (case k20 => k_is)
    (case a21 => k_is)
    (case l21 => k_is)
    (case c21 => k_is)
    (case k21 => k_is)
    (case a22 => k_is)
    (case l22 => k_is)
    (case c22 => k_is)
    (case k22 => k_is)
    (case a23 => k_is)
    (case l23 => k_is)
    (case c23 => k_is)
    (case k23 => k_is)
    (case a24 => k_is)
    (case l24 => k_is)
    (case c24 => k_is)
    (case k24 => k_is)
    (case a25 => k_is)
    (case l25 => k_is)
    (case c25 => k_is)
    (case k25 => k_is)
    (case a26 => k_is)
    (case l26 => k_is)
    (case c26 => k_is)
    (case k26 => k_is)
    (case a27 => k_is)
    (case l27 => k_is)
    (case c27 => k_is)
    (case k27 => k_is)
    (case a28 => k_is)
    (case l28 => k_is)
    (case c28 => k_is)
    (case k28 => k_is)
    (case a29 => k_is)
    (case l29 => k_is)
    (case c29 => k_is)
    (case k29 => k_is)
    (case a30 => k_is)
    (case l30 => k_is)
    (case c30 => k_is)
    (case k30 => k_is)
    (case a31 => k_is)
    (case l31 => k_is)
    (case c31 => k_is)
    (case k31 => k_is)
    (case a32 => k_is)
    (case l32 => k_is)
    (case c32 => k_is)
    (case k32 => k_is)
    (case a33 => k_is)
    (case l33 => k_is)
    (case c33 => k_is)
    (case k33 => k_is)
    (case a34 => k_is)
    (case l34 => k_is)
    (case c34 => k_is)
    (case k34 => k_is)
    (case a35 => k_is)
    (case l35 => k_is)
    (case c35 => k_is)
    (case k35 => k_is)
    (case a36 => k_is)
    (case l36 => k_is)
    (case c36 => k_is)
    (case k36 => k_is)
    (case a37 => k_is)
    (case l37 => k_is)
    (case c37 => k_is)
    (case k37 => k_is)
    (case a38 => k_is)
    (case l38 => k_is)
    (case c38 => k_is)
    (case k38 => k_is)
    (case a39 => k_is)
    (case l39 => k_is)
    (case c39 => k_is)
    (case k39 => k_is)
    (case gBadStatement => k_is)
    (case gMixed => k_is)
    (case gTooMany => k_is)
    (case gSaidError => k_is)
    (case gBadMark => k_is)
    (case gNoMark => k_is)
    (case gBadText => k_is)
    (case xq_BadStatement => k_exc)
    (case xk_BadStatement => k_is)
    (case x1_BadStatement => k_is)
    (case x2_BadStatement => k_is)
    (case eg_BadStatement => k_is)
    (case ek_BadStatement => k_is)
    (case ed_BadStatement => k_is)
    (case ea_BadStatement => k_is)
    (case em_BadStatement => k_is)
    (case hx_BadStatement => first | k_is | kernel_rfl | exact rfl)
    (case kk_BadStatement_BadStatement => first | k_is | kernel_rfl | exact rfl)
    (case kk_BadStatement_Mixed => first | k_is | kernel_rfl | exact rfl)
    (case kk_BadStatement_TooMany => first | k_is | kernel_rfl | exact rfl)
    (case kk_BadStatement_BadMark => first | k_is | kernel_rfl | exact rfl)
    (case kk_BadStatement_NoMark => first | k_is | kernel_rfl | exact rfl)
    (case kk_BadStatement_BadText => first | k_is | kernel_rfl | exact rfl)
    (case kV_BadStatement => first | k_is | kernel_rfl | exact rfl)
    (case xq_Mixed => k_exc)
    (case xk_Mixed => k_is)
    (case x1_Mixed => k_is)
    (case x2_Mixed => k_is)
    (case eg_Mixed => k_is)
    (case ek_Mixed => k_is)
    (case ed_Mixed => k_is)
    (case ea_Mixed => k_is)
    (case em_Mixed => k_is)
    (case hx_Mixed => first | k_is | kernel_rfl | exact rfl)
    (case kk_Mixed_BadStatement => first | k_is | kernel_rfl | exact rfl)
    (case kk_Mixed_Mixed => first | k_is | kernel_rfl | exact rfl)
    (case kk_Mixed_TooMany => first | k_is | kernel_rfl | exact rfl)
    (case kk_Mixed_BadMark => first | k_is | kernel_rfl | exact rfl)
    (case kk_Mixed_NoMark => first | k_is | kernel_rfl | exact rfl)
    (case kk_Mixed_BadText => first | k_is | kernel_rfl | exact rfl)
    (case kV_Mixed => first | k_is | kernel_rfl | exact rfl)
    (case xq_TooMany => k_exc)
    (case xk_TooMany => k_is)
    (case x1_TooMany => k_is)
    (case x2_TooMany => k_is)
    (case eg_TooMany => k_is)
    (case ek_TooMany => k_is)
    (case ed_TooMany => k_is)
    (case ea_TooMany => k_is)
    (case em_TooMany => k_is)
    (case hx_TooMany => first | k_is | kernel_rfl | exact rfl)
    (case kk_TooMany_BadStatement => first | k_is | kernel_rfl | exact rfl)
    (case kk_TooMany_Mixed => first | k_is | kernel_rfl | exact rfl)
    (case kk_TooMany_TooMany => first | k_is | kernel_rfl | exact rfl)
    (case kk_TooMany_BadMark => first | k_is | kernel_rfl | exact rfl)
    (case kk_TooMany_NoMark => first | k_is | kernel_rfl | exact rfl)
    (case kk_TooMany_BadText => first | k_is | kernel_rfl | exact rfl)
    (case kV_TooMany => first | k_is | kernel_rfl | exact rfl)
    (case en => k_is)
    (case et => k_is)
    (case i_MOST_LETTERS => k_is)
    (case i_MOST_NESTED => k_is)
    (case i_MOST_LATER => k_is)
    (case i_MOST_WISHES => k_is)
    (case aL => k_is)
    (case aP => k_is)
    (case lP => k_is)
    (case hkP => repeat (first | exact trivial | refine ⟨⟨_, _, rfl, rfl⟩, ?_⟩))
    (case loP => decide)
    (case heP => first | exact rfl | kernel_rfl)
    (case aPa => k_is)
    (case lPa => k_is)
    (case aAh => k_is)
    (case lAh => k_is)
    (case aC_Plan => k_is)
    (case aI_Plan => k_is)
    (case iI_Plan => k_is)
    (case lI_Plan => k_is)
    (case cI_Plan => k_is)
    (case kI_Plan => k_is)
    (case pg_Plan => k_is)
    (case hd_Plan => k_is)
    (case po_Plan => k_is)
    (case sa_Plan => k_is)
    (case mk_Plan => k_is)
    (case kc_Plan => k_is)
    (case n_Plan_wishes => k_is)
    (case n_Plan_pasts => k_is)
    (case n_Plan_marks => k_is)
    (case n_Plan_weights => k_is)
    (case n_Plan_everywhere => k_is)
    (case n_Plan_lines => k_is)
    (case n_Plan_wish_lines => k_is)
    (case n_Plan_kept_lines => k_is)
    (case aC_Teller => k_is)
    (case aI_Teller => k_is)
    (case iI_Teller => k_is)
    (case lI_Teller => k_is)
    (case cI_Teller => k_is)
    (case kI_Teller => k_is)
    (case pg_Teller => k_is)
    (case hd_Teller => k_is)
    (case po_Teller => k_is)
    (case sa_Teller => k_is)
    (case mk_Teller => k_is)
    (case kc_Teller => k_is)
    (case n_Teller__plan => k_is)
    (case n_Teller__state => k_is)
    (case n_Teller__marks => k_is)
    (case n_Teller__last => k_is)
    (case n_Teller__verdicts => k_is)
    (case lC0 => k_is)
    (case hP0 => exact rfl)
    (case lT0 => first | kernel_rfl | exact rfl)
    (case lC1 => k_is)
    (case hP1 => exact rfl)
    (case lT1 => first | kernel_rfl | exact rfl)
    (case lC2 => k_is)
    (case hP2 => exact rfl)
    (case lT2 => first | kernel_rfl | exact rfl)
    (case lC3 => k_is)
    (case hP3 => exact rfl)
    (case lT3 => first | kernel_rfl | exact rfl)
    (case zV => k_is)
    (case hr0 => exact rfl)
    (case hr1 => exact rfl)
    (case hr2 => exact rfl)
    (case hr3 => exact rfl)
    (case z_all => k_is)
    (case z_any => k_is)
    (case z_bool => k_is)
    (case z_int => k_is)
    (case z_isinstance => k_is)
    (case z_len => k_is)
    (case z_max => k_is)
    (case z_range => k_is)
    (case z_set => k_is)
    (case z_sorted => k_is)
    (case z_str => k_is)
    (case z_sum => k_is)
    (case z_tuple => k_is)
    (case z_type => k_is)
