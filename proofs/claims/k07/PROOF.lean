import PyProof.Rows.All
import Wide.All
import OpenK.AllK
import Wide.FinOn
import HandS.ForMost
import HandS.Evl
import HandS.Gcd
import HandS.IsInst
import HandS.Wide
import HandS.Style
import HandS.TupAny
import HandS.TupMul
import HandS.Lambda
import KE.KTupSum
import HandS.SortKw
import HandS.SetFor
import KE.DataMinMax
import KE.GoesEnum
import PyProof.ZipIter
import PyProof.CallType
import PyProof.Walk
import PyProof.WalkLemmas
import PyProof.RulesTry
import PyProof.TupleOfSeq
import PyProof.CodeObj
import PySem.Challenge.RW_gradewish_k07_tales
set_option Elab.async false
set_option linter.all false
set_option maxRecDepth 100000
set_option maxHeartbeats 2000000
/-! DL: a layer over readings that speaks of data (PyData) alone: no heap, no addresses. -/
namespace DL
open PySem L2

abbrev Dt := PyData
/-- the name that the code objects of a table bear -/
class Nm where
  nm : Addr → Str
  tb : List Addr
variable [Nm]
/-! ### what stays: all but the tables of code objects, which grow -/
structure XEx (F G : Hp) : Prop where
  k : ∀ p o, F p = some o → (∀ ps, o ≠ .tbl ps) → G p = some o
  b : ∀ p ps, F p = some (.tbl ps) → ∃ ps', G p = some (.tbl ps')
  t : ∀ P, LamX.TabS F P (Nm.nm P) → LamX.TabS G P (Nm.nm P)
/-- all the tables are there -/
def Tb (H : Hp) : Prop := ∀ T ∈ Nm.tb, LamX.TabS H T (Nm.nm T)
theorem Tb.ex {F H : Hp} (t : Tb F) (e : XEx F H) : Tb H := fun T hT => e.t T (t T hT)
theorem XEx.s {F G : Hp} (e : XEx F G) (p : Addr) (h : F p ≠ none) : G p ≠ none := by
  cases q : F p with
  | none => exact absurd q h
  | some o =>
    by_cases n : ∃ ps, o = .tbl ps
    · obtain ⟨ps, rfl⟩ := n
      obtain ⟨ps', h'⟩ := e.b p ps q
      rw [h']
      exact fun z => nomatch z
    · rw [e.k p o q fun ps z => n ⟨ps, z⟩]
      exact fun z => nomatch z
theorem XEx.of {F G : Hp} (e : ∀ p o, F p = some o → G p = some o) : XEx F G :=
  ⟨fun p o h _ => e p o h, (fun p ps h => ⟨ps, e p _ h⟩), (fun P t => LamX.TabS.ext t e)⟩
theorem XEx.refl (F : Hp) : XEx F F := .of fun _ _ h => h
theorem XEx.trans {F G H : Hp} (a : XEx F G) (b : XEx G H) : XEx F H :=
  ⟨(fun p o h n => b.k p o (a.k p o h n) n), (fun p ps h => by
    obtain ⟨ps1, h1⟩ := a.b p ps h
    exact b.b p ps1 h1), (fun P t => b.t P (a.t P t))⟩
theorem XEx.new {H : Hp} {p : Addr} {o : HO} (h : H p = none) : XEx H (upd H p o) := .of fun a u e => by
  rw [upd_ne (ne_of_none e h)]
  exact e
theorem xfresh_back {H H' : Hp} {p : Addr} (e : XEx H H') (h : H' p = none) : H p = none := by
  cases q : H p with
  | none => rfl
  | some o => exact absurd h (e.s p (by rw [q]; exact fun z => nomatch z))
/-- neither a table nor a code object -/
structure Quiet (o : HO) : Prop where
  t : ∀ ps, o ≠ .tbl ps
  c : ∀ c q, o ≠ LamX.CodeO c q
theorem quiet_lst (vs : List V) : Quiet (.lst vs) := ⟨(fun _ z => nomatch z), (fun _ _ z => nomatch z)⟩
theorem quiet_tup (vs : List V) : Quiet (.tup vs) := ⟨(fun _ z => nomatch z), (fun _ _ z => nomatch z)⟩
theorem tabS_upd {H : Hp} {p P : Addr} {q : Str} {o : HO} (n : ∀ o', H p = some o' → Quiet o') (t : LamX.TabS H P q) : LamX.TabS (upd H p o) P q := by
  obtain ⟨ps, h1, h2, h3⟩ := t
  have ne : ∀ a u, H a = some u → (¬ Quiet u) → a ≠ p := fun a u e nq z => by
    rw [z] at e
    exact nq (n _ e)
  refine ⟨ps, by rw [upd_ne (ne P _ h1 fun z => z.t ps rfl)]; exact h1, h2, fun pos cv hc => ?_⟩
  obtain ⟨c, e1, e2⟩ := h3 pos cv hc
  exact ⟨c, e1, by rw [upd_ne (ne c _ e2 fun z => z.c c q rfl)]; exact e2⟩
/-- a list that F does not know may change -/
theorem XEx.mut {F H : Hp} {p : Addr} {o : HO} {vs : List V} (e : XEx F H) (h : F p = none) (hl : H p = some (.lst vs)) : XEx F (upd H p o) :=
  ⟨fun a u ha n => by
    rw [upd_ne (ne_of_none ha h)]
    exact e.k a u ha n, fun a ps ha => by
    rw [upd_ne (ne_of_none ha h)]
    exact e.b a ps ha, fun P t => tabS_upd (fun o' ho => by
      rw [hl] at ho
      cases ho
      exact quiet_lst vs) (e.t P t)⟩
/-- .. a dict .. -/
theorem XEx.mutQ {F H : Hp} {p : Addr} {o o1 : HO} (e : XEx F H) (h : F p = none) (hl : H p = some o1) (qo : Quiet o1) : XEx F (upd H p o) :=
  ⟨fun a u ha n => by
    rw [upd_ne (ne_of_none ha h)]
    exact e.k a u ha n, fun a ps ha => by
    rw [upd_ne (ne_of_none ha h)]
    exact e.b a ps ha, fun P t => tabS_upd (fun o' ho => by
      rw [hl] at ho
      cases ho
      exact qo) (e.t P t)⟩
theorem quiet_dT (ws : List (List L2.Key × V)) : Quiet (.dT ws) := ⟨(fun _ z => nomatch z), (fun _ _ z => nomatch z)⟩
theorem xex_rd {H H' : Hp} {a : Addr} {u : HO} (e : XEx H H') (n : ∀ ps, u ≠ .tbl ps) (h : Rd H a u) : Rd H' a u := by
  rcases h with h | ⟨o, h⟩
  · exact Or.inl (e.k _ _ h n)
  · exact Or.inr ⟨o, e.k _ _ h fun ps z => nomatch z⟩
theorem xex_l {K : PySem.W.Frag} {H H' : Hp} {a : Addr} {xs : List V} (e : XEx H H') (h : SqL K H a xs) : SqL K H' a xs := by
  rcases h with h | h
  · exact Or.inl (xex_rd e (fun ps z => nomatch z) h)
  · exact Or.inr h
theorem xex_t {K : PySem.W.Frag} {H H' : Hp} {a : Addr} {xs : List V} (e : XEx H H') (h : SqT K H a xs) : SqT K H' a xs := by
  rcases h with h | h
  · exact Or.inl (xex_rd e (fun ps z => nomatch z) h)
  · exact Or.inr h

/-! ### data stays -/
mutual
theorem dp_ex {K : PySem.W.Frag} {F G : Hp} (e : XEx F G) : ∀ (d : Dt) (v : V), Dp K F v d → Dp K G v d
  | .none, _, h => by cases h; exact .non
  | .bool _, _, h => by cases h; exact .bl _
  | .int _, _, h => by cases h; exact .int _
  | .str _, _, h => by cases h; exact .str _
  | .list ds, _, h => by
    cases h with
    | lst s a => exact .lst (xex_l e s) (dpAll_ex e ds _ a)
  | .tuple ds, _, h => by
    cases h with
    | tup s a => exact .tup (xex_t e s) (dpAll_ex e ds _ a)
  | .dict _, _, h => by cases h
theorem dpAll_ex {K : PySem.W.Frag} {F G : Hp} (e : XEx F G) : ∀ (ds : List Dt) (vs : List V), DpAll K F vs ds → DpAll K G vs ds
  | [], _, h => by cases h; exact .nil
  | d :: ds, _, h => by
    cases h with
    | cons a b => exact .cons (dp_ex e d _ a) (dpAll_ex e ds _ b)
end
theorem dpAll_len {K : PySem.W.Frag} {F : Hp} : ∀ {vs : List V} {ds : List Dt}, DpAll K F vs ds → vs.length = ds.length
  | _, _, .nil => rfl
  | _, _, .cons _ b => by rw [List.length_cons, List.length_cons, dpAll_len b]
theorem dpAll_get {K : PySem.W.Frag} {F : Hp} : ∀ {ds : List Dt} {vs : List V} {i : Nat} {d : Dt}, DpAll K F vs ds → ds[i]? = some d → ∃ v, vs[i]? = some v ∧ Dp K F v d
  | [], _, _, _, _, h => by simp at h
  | x :: xs, _, 0, d, .cons a _, h => ⟨_, rfl, by
    have e : x = d := by simpa using h
    rw [← e]; exact a⟩
  | x :: xs, _, i + 1, d, .cons _ b, h => by
    obtain ⟨v, h1, h2⟩ := dpAll_get b (i := i) (d := d) (by simpa using h)
    exact ⟨v, by simpa using h1, h2⟩
theorem dpAll_get' {K : PySem.W.Frag} {F : Hp} : ∀ {ds : List Dt} {vs : List V} {i : Nat} {v : V}, DpAll K F vs ds → vs[i]? = some v → ∃ d, ds[i]? = some d ∧ Dp K F v d
  | _, _, _, _, .nil, h => by simp at h
  | _, _, 0, v, .cons (d := d) a _, h => ⟨d, rfl, by
    have e := Option.some.inj (show some _ = some v from by simpa using h)
    rw [← e]; exact a⟩
  | _, _, i + 1, v, .cons _ b, h => by
    obtain ⟨d, h1, h2⟩ := dpAll_get' b (i := i) (v := v) (by simpa using h)
    exact ⟨d, by simpa using h1, h2⟩
theorem dpAll_app {K : PySem.W.Frag} {F : Hp} : ∀ {xs ys : List V} {ds es : List Dt}, DpAll K F xs ds → DpAll K F ys es → DpAll K F (xs ++ ys) (ds ++ es)
  | _, _, _, _, .nil, h => h
  | _, _, _, _, .cons a b, h => .cons a (dpAll_app b h)
theorem dpAll_drop {K : PySem.W.Frag} {F : Hp} : ∀ (n : Nat) {xs : List V} {ds : List Dt}, DpAll K F xs ds → DpAll K F (xs.drop n) (ds.drop n)
  | 0, _, _, h => h
  | _ + 1, _, _, .nil => .nil
  | n + 1, _, _, .cons _ b => dpAll_drop n b
theorem dpAll_take {K : PySem.W.Frag} {F : Hp} : ∀ (n : Nat) {xs : List V} {ds : List Dt}, DpAll K F xs ds → DpAll K F (xs.take n) (ds.take n)
  | 0, _, _, _ => .nil
  | _ + 1, _, _, .nil => .nil
  | n + 1, _, _, .cons a b => .cons a (dpAll_take n b)
theorem dpAll_set {K : PySem.W.Frag} {F : Hp} {v : V} {d : Dt} (h : Dp K F v d) : ∀ (n : Nat) {xs : List V} {ds : List Dt}, DpAll K F xs ds → DpAll K F (xs.set n v) (ds.set n d)
  | _, _, _, .nil => .nil
  | 0, _, _, .cons _ b => .cons h b
  | n + 1, _, _, .cons a b => .cons a (dpAll_set h n b)
theorem dpAll_rep {K : PySem.W.Frag} {F : Hp} {xs : List V} {ds : List Dt} (h : DpAll K F xs ds) : ∀ n : Nat, DpAll K F (List.replicate n xs).flatten (List.replicate n ds).flatten
  | 0 => .nil
  | n + 1 => by
    rw [List.replicate_succ, List.replicate_succ, List.flatten_cons, List.flatten_cons]
    exact dpAll_app h (dpAll_rep h n)
/-- flat data: the value hangs on the data alone -/
def flat : Dt → Option V
  | .none => some .non
  | .bool b => some (.bl b)
  | .int i => some (.int i)
  | .str x => some (.str x)
  | _ => Option.none
theorem dp_flat {K : PySem.W.Frag} {F : Hp} {d : Dt} {v w : V} (h : Dp K F v d) (f : flat d = some w) : v = w := by
  cases h <;> (unfold flat at f; first | exact Option.some.inj f | cases f)
theorem dp_int {K : PySem.W.Frag} {F : Hp} {i : Int} {v : V} (h : Dp K F v (.int i)) : v = .int i := dp_flat h rfl
theorem dp_bl {K : PySem.W.Frag} {F : Hp} {i : Bool} {v : V} (h : Dp K F v (.bool i)) : v = .bl i := dp_flat h rfl
theorem dp_non {K : PySem.W.Frag} {F : Hp} {v : V} (h : Dp K F v .none) : v = .non := dp_flat h rfl
theorem dp_str {K : PySem.W.Frag} {F : Hp} {i : Str} {v : V} (h : Dp K F v (.str i)) : v = .str i := dp_flat h rfl
theorem dp_list {K : PySem.W.Frag} {F : Hp} {ds : List Dt} {v : V} (h : Dp K F v (.list ds)) : ∃ p vs, v = .ref p ∧ SqL K F p vs ∧ DpAll K F vs ds := by
  cases h with
  | lst s a => exact ⟨_, _, rfl, s, a⟩
theorem dp_tup {K : PySem.W.Frag} {F : Hp} {ds : List Dt} {v : V} (h : Dp K F v (.tuple ds)) : ∃ p vs, v = .ref p ∧ SqT K F p vs ∧ DpAll K F vs ds := by
  cases h with
  | tup s a => exact ⟨_, _, rfl, s, a⟩
/-- intsD -/
def intsD (ns : List Int) : List Dt := ns.map .int
theorem dpAll_ints {K : PySem.W.Frag} {F : Hp} : ∀ {ns : List Int} {vs : List V}, DpAll K F vs (intsD ns) → vs = ns.map V.int
  | [], _, h => by cases h; rfl
  | n :: ns, _, h => by
    cases h with
    | cons a b => rw [dp_int a, dpAll_ints b]; rfl
theorem dpAll_of_ints {K : PySem.W.Frag} {F : Hp} : ∀ (ns : List Int), DpAll K F (ns.map V.int) (intsD ns)
  | [] => .nil
  | n :: ns => .cons (.int n) (dpAll_of_ints ns)

/-! ### the step from (F, H) to (F', H'): F what never changes, H all that is tracked -/
structure Nx (F H F' H' : Hp) : Prop where
  f : XEx F F'
  h : XEx H H'
  i : XEx F' H'
  o : ∀ p, H p ≠ none → F p = none → F' p = none
theorem Nx.refl {F H : Hp} (i : XEx F H) : Nx F H F H := ⟨.refl _, .refl _, i, fun _ _ h => h⟩
theorem ex_some {F G : Hp} (e : XEx F G) {p : Addr} (h : F p ≠ none) : G p ≠ none := e.s p h
theorem Nx.trans {F H F1 H1 F2 H2 : Hp} (a : Nx F H F1 H1) (b : Nx F1 H1 F2 H2) : Nx F H F2 H2 :=
  ⟨a.f.trans b.f, a.h.trans b.h, b.i, fun p hp fp => b.o p (ex_some a.h hp) (a.o p hp fp)⟩
/-- a new object, laid in both -/
theorem upd_ex {F H : Hp} {p : Addr} {o : HO} (e : XEx F H) (h : H p = none) (qo : Quiet o) : XEx (upd F p o) (upd H p o) :=
  ⟨fun a u hu n => by
    by_cases q : a = p
    · subst q; rw [upd_same] at hu ⊢; exact hu
    · rw [upd_ne q] at hu ⊢; exact e.k a u hu n, fun a ps ha => by
    by_cases q : a = p
    · subst q; rw [upd_same] at ha; exact absurd (Option.some.inj ha) (qo.t ps)
    · rw [upd_ne q] at ha ⊢; exact e.b a ps ha, fun P t => by
    obtain ⟨ps, h1, h2, h3⟩ := t
    have hP : P ≠ p := fun z => by
      rw [z, upd_same] at h1
      exact qo.t ps (Option.some.inj h1)
    rw [upd_ne hP] at h1
    refine tabS_upd (fun o' ho => by rw [h] at ho; cases ho) (e.t P ⟨ps, h1, h2, fun pos cv hc => ?_⟩)
    obtain ⟨c, e1, e2⟩ := h3 pos cv hc
    have hc2 : c ≠ p := fun z => by
      rw [z, upd_same] at e2
      exact qo.c p _ (Option.some.inj e2)
    rw [upd_ne hc2] at e2
    exact ⟨c, e1, e2⟩⟩
theorem none_back {F H : Hp} (e : XEx F H) {p : Addr} (h : H p = none) : F p = none := xfresh_back e h
theorem Nx.both {F H : Hp} (i : XEx F H) {p : Addr} {o : HO} (h : H p = none) (qo : Quiet o := by first | exact quiet_tup _ | exact quiet_lst _) : Nx F H (upd F p o) (upd H p o) :=
  ⟨XEx.new (none_back i h), XEx.new h, upd_ex i h qo, fun q hq fq => by
    have ne : q ≠ p := fun e => by subst e; exact hq h
    rw [upd_ne ne]; exact fq⟩
/-- .. in H alone: an own one -/
theorem Nx.own {F H : Hp} (i : XEx F H) {p : Addr} {o : HO} (h : H p = none) : Nx F H F (upd H p o) :=
  ⟨.refl _, XEx.new h, i.trans (XEx.new h), fun q hq fq => fq⟩
/-- an own object is shut: from now on it never changes -/
theorem ex_shut {F H : Hp} {p : Addr} {o : HO} (i : XEx F H) (h : H p = some o) (qo : Quiet o := by first | exact quiet_lst _ | exact quiet_tup _) : XEx (upd F p o) H :=
  ⟨fun a u e n => by
    by_cases q : a = p
    · subst q; rw [upd_same] at e; rw [h]; exact e
    · rw [upd_ne q] at e; exact i.k a u e n, fun a ps ha => by
    by_cases q : a = p
    · subst q; rw [upd_same] at ha; exact absurd (Option.some.inj ha) (qo.t ps)
    · rw [upd_ne q] at ha; exact i.b a ps ha, fun P t => by
    obtain ⟨ps, h1, h2, h3⟩ := t
    have hP : P ≠ p := fun z => by
      rw [z, upd_same] at h1
      exact qo.t ps (Option.some.inj h1)
    rw [upd_ne hP] at h1
    refine i.t P ⟨ps, h1, h2, fun pos cv hc => ?_⟩
    obtain ⟨c, e1, e2⟩ := h3 pos cv hc
    have hc2 : c ≠ p := fun z => by
      rw [z, upd_same] at e2
      exact qo.c p _ (Option.some.inj e2)
    rw [upd_ne hc2] at e2
    exact ⟨c, e1, e2⟩⟩
/-- new behind F0 H0, own in F H: shut -/
theorem Nx.shut {F0 H0 F H : Hp} (n : Nx F0 H0 F H) {p : Addr} {o : HO} (h0 : H0 p = none) (hF : F p = none) (h : H p = some o) (qo : Quiet o := by first | exact quiet_lst _ | exact quiet_tup _) : Nx F0 H0 (upd F p o) H :=
  ⟨n.f.trans (XEx.new hF), n.h, ex_shut n.i h qo, fun q hq fq => by
    have ne : q ≠ p := fun e => by subst e; exact hq h0
    rw [upd_ne ne]; exact n.o q hq fq⟩

/-! ### slots -/
inductive Sl where
  | any
  | dat (d : Dt)
  | own (ds : List Dt)
  | ref (a : Addr)
  | dct (es : List ((Int × Int) × List Int))
  | odc (es : List ((Int × Int) × List Int))
/-- a dict of pairs of ints, each with a tuple of ints -/
def MoreIs (K : PySem.W.Frag) (F : Hp) : List (List L2.Key × V) → List ((Int × Int) × List Int) → Prop
  | [], [] => True
  | w :: ws, e :: es => w.1 = [.inl e.1.1, .inl e.1.2] ∧ Dp K F w.2 (.tuple (intsD e.2)) ∧ MoreIs K F ws es
  | _, _ => False
theorem MoreIs.ex {K : PySem.W.Frag} {F G : Hp} (x : XEx F G) : ∀ {ws : List (List L2.Key × V)} {es : List ((Int × Int) × List Int)}, MoreIs K F ws es → MoreIs K G ws es
  | [], [], _ => True.intro
  | _ :: _, _ :: _, h => ⟨h.1, dp_ex x _ _ h.2.1, MoreIs.ex x h.2.2⟩
  | [], _ :: _, h => h.elim
  | _ :: _, [], h => h.elim
def SlOk (K : PySem.W.Frag) (H0 F H : Hp) : Option V → Sl → Prop
  | _, .any => True
  | o, .dat d => ∃ v, o = some v ∧ Dp K F v d
  | o, .own ds => ∃ p vs, o = some (.ref p) ∧ H0 p = none ∧ F p = none ∧ H p = some (.lst vs) ∧ DpAll K F vs ds
  | o, .ref a => o = some (.ref a)
  | o, .dct es => ∃ p ws, o = some (.ref p) ∧ F p = some (.dT ws) ∧ MoreIs K F ws es
  | o, .odc es => ∃ p ws, o = some (.ref p) ∧ H0 p = none ∧ F p = none ∧ H p = some (.dT ws) ∧ MoreIs K F ws es
/-- two slots hold different own dicts -/
def Ap2 (σ : L2.St) (ρ : List Sl) : Prop := ∀ (i j : Nat) (es fs : List ((Int × Int) × List Int)) (p : Addr), ρ[i]? = some (.odc es) → ρ[j]? = some (.odc fs) → σ[i]? = some (some (.ref p)) → σ[j]? = some (some (.ref p)) → i = j
theorem get_set {α : Type} {l : List α} {i j : Nat} {x y : α} (h : (l.set i x)[j]? = some y) : (j = i ∧ y = x ∧ i < l.length) ∨ (j ≠ i ∧ l[j]? = some y) := by
  rw [List.getElem?_set] at h
  by_cases e : i = j
  · subst e
    rw [if_pos rfl] at h
    by_cases q : i < l.length
    · rw [if_pos q] at h
      exact Or.inl ⟨rfl, (Option.some.inj h).symm, q⟩
    · rw [if_neg q] at h; cases h
  · rw [if_neg e] at h
    exact Or.inr ⟨fun z => e z.symm, h⟩
theorem Ap2.set {σ : L2.St} {ρ : List Sl} {i : Nat} {x : Sl} {o : Option V} (A : Ap2 σ ρ) (hx : ∀ es, x ≠ .odc es) : Ap2 (σ.set i o) (ρ.set i x) := fun a b es fs p ha hb sa sb => by
  rcases get_set ha with ⟨_, z, _⟩ | ⟨na, ha⟩
  · exact absurd z.symm (hx _)
  · rcases get_set hb with ⟨_, z, _⟩ | ⟨nb, hb⟩
    · exact absurd z.symm (hx _)
    · rw [List.getElem?_set, if_neg (fun z => na z.symm)] at sa
      rw [List.getElem?_set, if_neg (fun z => nb z.symm)] at sb
      exact A a b es fs p ha hb sa sb
theorem Ap2.put {σ : L2.St} {ρ : List Sl} {i : Nat} {x : Sl} (A : Ap2 σ ρ) (hx : ∀ es, x ≠ .odc es) : Ap2 σ (ρ.set i x) := fun a b es fs p ha hb sa sb => by
  rcases get_set ha with ⟨_, z, _⟩ | ⟨na, ha⟩
  · exact absurd z.symm (hx _)
  · rcases get_set hb with ⟨_, z, _⟩ | ⟨nb, hb⟩
    · exact absurd z.symm (hx _)
    · exact A a b es fs p ha hb sa sb
theorem Ap2.none {σ : L2.St} {ρ : List Sl} (h : ∀ (i : Nat) (es : List ((Int × Int) × List Int)), ρ[i]? ≠ some (.odc es)) : Ap2 σ ρ := fun a _ es _ _ ha => absurd ha (h a es)
structure Env (K : PySem.W.Frag) (F0 H0 F H : Hp) (σ : L2.St) (ρ : List Sl) : Prop where
  g : Nx F0 H0 F H
  len : σ.length = ρ.length
  sl : ∀ (i : Nat) (x : Sl), ρ[i]? = some x → ∃ o, σ[i]? = some o ∧ SlOk K H0 F H o x
  ap : ∀ (i j : Nat) (ds es : List Dt) (p : Addr), ρ[i]? = some (.own ds) → ρ[j]? = some (.own es) → σ[i]? = some (some (.ref p)) → σ[j]? = some (some (.ref p)) → i = j
  ap2 : Ap2 σ ρ
theorem SlOk.step {K : PySem.W.Frag} {H0 F H F' H' : Hp} (n : Nx F H F' H') : ∀ {o : Option V} {x : Sl}, SlOk K H0 F H o x → SlOk K H0 F' H' o x
  | _, .any, _ => True.intro
  | _, .dat d, h => by
    obtain ⟨v, e, q⟩ := h
    exact ⟨v, e, dp_ex n.f _ _ q⟩
  | _, .ref _, h => h
  | _, .dct es, h => by
    obtain ⟨p, ws, e, hF, q⟩ := h
    exact ⟨p, ws, e, n.f.k p _ hF (fun _ z => nomatch z), q.ex n.f⟩
  | _, .odc es, h => by
    obtain ⟨p, ws, e, h0, hF, hH, q⟩ := h
    exact ⟨p, ws, e, h0, n.o p (by rw [hH]; exact fun z => nomatch z) hF, n.h.k p _ hH (fun _ z => nomatch z), q.ex n.f⟩
  | _, .own ds, h => by
    obtain ⟨p, vs, e, h0, hF, hH, q⟩ := h
    exact ⟨p, vs, e, h0, n.o p (by rw [hH]; exact fun z => nomatch z) hF, n.h.k p _ hH (fun _ z => nomatch z), dpAll_ex n.f _ _ q⟩
section
variable {K : PySem.W.Frag} {F0 H0 F H F' H' : Hp} {σ : L2.St} {ρ : List Sl}
theorem Env.step (E : Env K F0 H0 F H σ ρ) (n : Nx F H F' H') : Env K F0 H0 F' H' σ ρ :=
  ⟨E.g.trans n, E.len, fun i x h => by
    obtain ⟨o, h1, h2⟩ := E.sl i x h
    exact ⟨o, h1, h2.step n⟩, E.ap, E.ap2⟩
theorem Env.dat (E : Env K F0 H0 F H σ ρ) {i : Nat} {d : Dt} (h : ρ[i]? = some (.dat d)) : ∃ v, σ[i]? = some (some v) ∧ Dp K F v d := by
  obtain ⟨o, h1, v, rfl, h2⟩ := E.sl i _ h
  exact ⟨v, h1, h2⟩
theorem Env.own (E : Env K F0 H0 F H σ ρ) {i : Nat} {ds : List Dt} (h : ρ[i]? = some (.own ds)) : ∃ p vs, σ[i]? = some (some (.ref p)) ∧ H0 p = none ∧ F p = none ∧ H p = some (.lst vs) ∧ DpAll K F vs ds := by
  obtain ⟨o, h1, p, vs, rfl, h2⟩ := E.sl i _ h
  exact ⟨p, vs, h1, h2⟩
theorem Env.set {i : Nat} {v : V} {d : Dt} (E : Env K F0 H0 F H σ ρ) (h : Dp K F v d) : Env K F0 H0 F H (σ.set i (some v)) (ρ.set i (.dat d)) :=
  ⟨E.g, by rw [List.length_set, List.length_set]; exact E.len, fun j x hx => by
    rcases get_set hx with ⟨rfl, rfl, hl⟩ | ⟨ne, hx⟩
    · exact ⟨some v, by rw [List.getElem?_set, if_pos rfl, if_pos (by rw [E.len]; exact hl)], v, rfl, h⟩
    · obtain ⟨o, h1, h2⟩ := E.sl j x hx
      exact ⟨o, by rw [List.getElem?_set, if_neg (fun z => ne z.symm)]; exact h1, h2⟩, fun a b ds es p ha hb sa sb => by
    rcases get_set ha with ⟨_, z, _⟩ | ⟨na, ha⟩
    · cases z
    · rcases get_set hb with ⟨_, z, _⟩ | ⟨nb, hb⟩
      · cases z
      · rw [List.getElem?_set, if_neg (fun z => na z.symm)] at sa
        rw [List.getElem?_set, if_neg (fun z => nb z.symm)] at sb
        exact E.ap a b ds es p ha hb sa sb, E.ap2.set fun _ z => nomatch z⟩
theorem Env.setAny {i : Nat} {o : Option V} (E : Env K F0 H0 F H σ ρ) : Env K F0 H0 F H (σ.set i o) (ρ.set i .any) :=
  ⟨E.g, by rw [List.length_set, List.length_set]; exact E.len, fun j x hx => by
    rcases get_set hx with ⟨rfl, rfl, hl⟩ | ⟨ne, hx⟩
    · exact ⟨o, by rw [List.getElem?_set, if_pos rfl, if_pos (by rw [E.len]; exact hl)], True.intro⟩
    · obtain ⟨o, h1, h2⟩ := E.sl j x hx
      exact ⟨o, by rw [List.getElem?_set, if_neg (fun z => ne z.symm)]; exact h1, h2⟩, fun a b ds es p ha hb sa sb => by
    rcases get_set ha with ⟨_, z, _⟩ | ⟨na, ha⟩
    · cases z
    · rcases get_set hb with ⟨_, z, _⟩ | ⟨nb, hb⟩
      · cases z
      · rw [List.getElem?_set, if_neg (fun z => na z.symm)] at sa
        rw [List.getElem?_set, if_neg (fun z => nb z.symm)] at sb
        exact E.ap a b ds es p ha hb sa sb, E.ap2.set fun _ z => nomatch z⟩
theorem Env.setRef {i : Nat} {a : Addr} (E : Env K F0 H0 F H σ ρ) : Env K F0 H0 F H (σ.set i (some (.ref a))) (ρ.set i (.ref a)) :=
  ⟨E.g, by rw [List.length_set, List.length_set]; exact E.len, fun j x hx => by
    rcases get_set hx with ⟨rfl, rfl, hl⟩ | ⟨ne, hx⟩
    · exact ⟨_, by rw [List.getElem?_set, if_pos rfl, if_pos (by rw [E.len]; exact hl)], rfl⟩
    · obtain ⟨o, h1, h2⟩ := E.sl j x hx
      exact ⟨o, by rw [List.getElem?_set, if_neg (fun z => ne z.symm)]; exact h1, h2⟩, fun a b ds es p ha hb sa sb => by
    rcases get_set ha with ⟨_, z, _⟩ | ⟨na, ha⟩
    · cases z
    · rcases get_set hb with ⟨_, z, _⟩ | ⟨nb, hb⟩
      · cases z
      · rw [List.getElem?_set, if_neg (fun z => na z.symm)] at sa
        rw [List.getElem?_set, if_neg (fun z => nb z.symm)] at sb
        exact E.ap a b ds es p ha hb sa sb, E.ap2.set fun _ z => nomatch z⟩
/-- a new own list goes to a slot -/
theorem Env.setOwn {i : Nat} {p : Addr} {vs : List V} {ds : List Dt} {F1 H1 : Hp} (E : Env K F0 H0 F1 H1 σ ρ) (n : Nx F1 H1 F H) (hn : H1 p = none) (hF : F p = none) (hH : H p = some (.lst vs)) (h : DpAll K F vs ds) : Env K F0 H0 F H (σ.set i (some (.ref p))) (ρ.set i (.own ds)) := by
  have E2 := E.step n
  have h0 : H0 p = none := none_back E.g.h hn
  have apart : ∀ (a : Nat) (es : List Dt), ρ[a]? = some (.own es) → σ[a]? = some (some (.ref p)) → False := fun a es ha sa => by
    obtain ⟨q, ws, h1, _, _, h2, _⟩ := E.own ha
    rw [sa] at h1
    have e := Option.some.inj (Option.some.inj h1)
    cases e
    rw [hn] at h2
    cases h2
  refine ⟨E2.g, by rw [List.length_set, List.length_set]; exact E2.len, fun j x hx => ?_, fun a b ds es q ha hb sa sb => ?_, E2.ap2.set fun _ z => nomatch z⟩
  · rcases get_set hx with ⟨rfl, rfl, hl⟩ | ⟨ne, hx⟩
    · exact ⟨some (.ref p), by rw [List.getElem?_set, if_pos rfl, if_pos (by rw [E.len]; exact hl)], p, vs, rfl, h0, hF, hH, h⟩
    · obtain ⟨o, h1, h2⟩ := E2.sl j x hx
      exact ⟨o, by rw [List.getElem?_set, if_neg (fun z => ne z.symm)]; exact h1, h2⟩
  · rcases get_set ha with ⟨ea, _, la⟩ | ⟨na, ha⟩
    · rcases get_set hb with ⟨eb, _, _⟩ | ⟨nb, hb⟩
      · rw [ea, eb]
      · rw [ea, List.getElem?_set, if_pos rfl, if_pos (by rw [E.len]; exact la)] at sa
        rw [List.getElem?_set, if_neg (fun z => nb z.symm)] at sb
        have e := V.ref.inj (Option.some.inj (Option.some.inj sa))
        rw [← e] at sb
        exact (apart b _ hb sb).elim
    · rcases get_set hb with ⟨eb, _, lb⟩ | ⟨nb, hb⟩
      · rw [eb, List.getElem?_set, if_pos rfl, if_pos (by rw [E.len]; exact lb)] at sb
        rw [List.getElem?_set, if_neg (fun z => na z.symm)] at sa
        have e := V.ref.inj (Option.some.inj (Option.some.inj sb))
        rw [← e] at sa
        exact (apart a _ ha sa).elim
      · rw [List.getElem?_set, if_neg (fun z => na z.symm)] at sa
        rw [List.getElem?_set, if_neg (fun z => nb z.symm)] at sb
        exact E.ap a b _ _ q ha hb sa sb
/-- an own list changes -/
theorem Env.mut {i : Nat} {p : Addr} {ws : List V} {ds es : List Dt} (E : Env K F0 H0 F H σ ρ) (hi : ρ[i]? = some (.own ds)) (hp : σ[i]? = some (some (.ref p))) (h : DpAll K F ws es) : Env K F0 H0 F (upd H p (.lst ws)) σ (ρ.set i (.own es)) := by
  obtain ⟨q, vs, h1, h0, hF, hH, _⟩ := E.own hi
  rw [hp] at h1
  have e := V.ref.inj (Option.some.inj (Option.some.inj h1))
  subst e
  refine ⟨⟨E.g.f, XEx.mut E.g.h h0 hH, XEx.mut E.g.i hF hH, fun q hq fq => E.g.o q hq fq⟩, by rw [List.length_set]; exact E.len, fun j x hx => ?_, fun a b ds es q ha hb sa sb => ?_, E.ap2.put fun _ z => nomatch z⟩
  · rcases get_set hx with ⟨rfl, rfl, hl⟩ | ⟨ne, hx⟩
    · exact ⟨_, hp, p, ws, rfl, h0, hF, upd_same, h⟩
    · obtain ⟨o, h1, h2⟩ := E.sl j x hx
      refine ⟨o, h1, ?_⟩
      cases x with
      | any => exact True.intro
      | ref a => exact h2
      | dat d => exact h2
      | dct es => exact h2
      | odc es =>
        obtain ⟨r, us, e, g0, gF, gH, gA⟩ := h2
        exact ⟨r, us, e, g0, gF, by rw [upd_ne (fun z => by rw [z, hH] at gH; cases gH)]; exact gH, gA⟩
      | own fs =>
        obtain ⟨r, us, e, g0, gF, gH, gA⟩ := h2
        refine ⟨r, us, e, g0, gF, ?_, gA⟩
        subst e
        rw [upd_ne (fun z => ne (E.ap j i _ _ p hx hi (by rw [h1, z]) hp))]
        exact gH
  · rcases get_set ha with ⟨ea, _, _⟩ | ⟨na, ha2⟩
    · rcases get_set hb with ⟨eb, _, _⟩ | ⟨nb, hb2⟩
      · rw [ea, eb]
      · exact ea.trans (E.ap i b _ _ q hi hb2 (by rw [← ea]; exact sa) sb)
    · rcases get_set hb with ⟨eb, _, _⟩ | ⟨nb, hb2⟩
      · exact (E.ap a i _ _ q ha2 hi sa (by rw [← eb]; exact sb)).trans eb.symm
      · exact E.ap a b _ _ q ha2 hb2 sa sb
/-- an own list is shut -/
theorem Env.shut {i : Nat} {ds : List Dt} (E : Env K F0 H0 F H σ ρ) (hi : ρ[i]? = some (.own ds)) : ∃ F', Env K F0 H0 F' H σ (ρ.set i (.dat (.list ds))) := by
  obtain ⟨p, vs, hp, h0, hF, hH, hA⟩ := E.own hi
  have n2 : XEx F (upd F p (.lst vs)) := XEx.new hF
  refine ⟨upd F p (.lst vs), E.g.shut h0 hF hH, by rw [List.length_set]; exact E.len, fun j x hx => ?_, fun a b ds es q ha hb sa sb => ?_, E.ap2.put fun _ z => nomatch z⟩
  · rcases get_set hx with ⟨rfl, rfl, hl⟩ | ⟨ne, hx⟩
    · exact ⟨_, hp, .ref p, rfl, .lst (Or.inl (Or.inl upd_same)) (dpAll_ex n2 _ _ hA)⟩
    · obtain ⟨o, h1, h2⟩ := E.sl j x hx
      refine ⟨o, h1, ?_⟩
      cases x with
      | any => exact True.intro
      | ref a => exact h2
      | dct es =>
        obtain ⟨r, ws, e, gF, q⟩ := h2
        exact ⟨r, ws, e, n2.k r _ gF (fun _ z => nomatch z), q.ex n2⟩
      | odc es =>
        obtain ⟨r, us, e, g0, gF, gH, gA⟩ := h2
        exact ⟨r, us, e, g0, by rw [upd_ne (fun z => by rw [z, hH] at gH; cases gH)]; exact gF, gH, gA.ex n2⟩
      | dat d =>
        obtain ⟨v, e, q⟩ := h2
        exact ⟨v, e, dp_ex n2 _ _ q⟩
      | own fs =>
        obtain ⟨r, us, e, g0, gF, gH, gA⟩ := h2
        subst e
        refine ⟨r, us, rfl, g0, ?_, gH, dpAll_ex n2 _ _ gA⟩
        rw [upd_ne (fun z => ne (E.ap j i _ _ p hx hi (by rw [h1, z]) hp))]
        exact gF
  · rcases get_set ha with ⟨_, z, _⟩ | ⟨na, ha⟩
    · cases z
    · rcases get_set hb with ⟨_, z, _⟩ | ⟨nb, hb⟩
      · cases z
      · exact E.ap a b ds es q ha hb sa sb
/-- less is known -/
inductive Weak : List Sl → List Sl → Prop where
  | nil : Weak [] []
  | same {x : Sl} {r r' : List Sl} : Weak r r' → Weak (x :: r) (x :: r')
  | any {x : Sl} {r r' : List Sl} : Weak r r' → Weak (x :: r) (.any :: r')
theorem Weak.len : ∀ {a b : List Sl}, Weak a b → a.length = b.length
  | _, _, .nil => rfl
  | _, _, .same h => by rw [List.length_cons, List.length_cons, h.len]
  | _, _, .any h => by rw [List.length_cons, List.length_cons, h.len]
theorem Weak.get : ∀ {a b : List Sl}, Weak a b → ∀ (i : Nat) (x : Sl), b[i]? = some x → x = .any ∨ a[i]? = some x
  | _, _, .nil, i, x, h => by simp at h
  | _, _, .same _, 0, x, h => Or.inr h
  | _, _, .any _, 0, x, h => Or.inl (Option.some.inj h).symm
  | _, _, .same w, i + 1, x, h => by simpa using w.get i x (by simpa using h)
  | _, _, .any w, i + 1, x, h => by simpa using w.get i x (by simpa using h)
theorem Weak.refl : ∀ a : List Sl, Weak a a
  | [] => .nil
  | _ :: r => .same (Weak.refl r)
theorem Env.weak {ρ' : List Sl} (E : Env K F0 H0 F H σ ρ) (w : Weak ρ ρ') : Env K F0 H0 F H σ ρ' :=
  ⟨E.g, E.len.trans w.len, fun i x h => by
    rcases w.get i x h with rfl | h
    · have hl : i < ρ.length := by rw [w.len]; exact (List.getElem?_eq_some_iff.mp h).1
      exact ⟨σ[i]'(by rw [E.len]; exact hl), List.getElem?_eq_getElem _, True.intro⟩
    · exact E.sl i x h, fun i j ds es p hi hj si sj => by
    rcases w.get i _ hi with z | hi
    · cases z
    · rcases w.get j _ hj with z | hj
      · cases z
      · exact E.ap i j ds es p hi hj si sj, fun i j es fs p hi hj si sj => by
    rcases w.get i _ hi with z | hi
    · cases z
    · rcases w.get j _ hj with z | hj
      · cases z
      · exact E.ap2 i j es fs p hi hj si sj⟩
/-- a new own dict goes to a slot -/
theorem Env.setD {i : Nat} {p : Addr} {ws : List (List L2.Key × V)} {es : List ((Int × Int) × List Int)} {F1 H1 : Hp} (E : Env K F0 H0 F1 H1 σ ρ) (n : Nx F1 H1 F H) (hn : H1 p = none) (hF : F p = none) (hH : H p = some (.dT ws)) (h : MoreIs K F ws es) : Env K F0 H0 F H (σ.set i (some (.ref p))) (ρ.set i (.odc es)) := by
  have E2 := E.step n
  have h0 : H0 p = none := none_back E.g.h hn
  have apart : ∀ (a : Nat) (fs : List ((Int × Int) × List Int)), ρ[a]? = some (.odc fs) → σ[a]? = some (some (.ref p)) → False := fun a fs ha sa => by
    obtain ⟨o, h1, q, us, e, _, _, h2, _⟩ := E.sl a _ ha
    rw [sa] at h1
    rw [← Option.some.inj h1] at e
    cases e
    rw [hn] at h2
    cases h2
  refine ⟨E2.g, by rw [List.length_set, List.length_set]; exact E2.len, fun j x hx => ?_, fun a b ds es q ha hb sa sb => ?_, fun a b es fs q ha hb sa sb => ?_⟩
  · rcases get_set hx with ⟨rfl, rfl, hl⟩ | ⟨ne, hx⟩
    · exact ⟨some (.ref p), by rw [List.getElem?_set, if_pos rfl, if_pos (by rw [E.len]; exact hl)], p, ws, rfl, h0, hF, hH, h⟩
    · obtain ⟨o, h1, h2⟩ := E2.sl j x hx
      exact ⟨o, by rw [List.getElem?_set, if_neg (fun z => ne z.symm)]; exact h1, h2⟩
  · rcases get_set ha with ⟨_, z, _⟩ | ⟨na, ha⟩
    · cases z
    · rcases get_set hb with ⟨_, z, _⟩ | ⟨nb, hb⟩
      · cases z
      · rw [List.getElem?_set, if_neg (fun z => na z.symm)] at sa
        rw [List.getElem?_set, if_neg (fun z => nb z.symm)] at sb
        exact E.ap a b _ _ q ha hb sa sb
  · rcases get_set ha with ⟨ea, _, la⟩ | ⟨na, ha⟩
    · rcases get_set hb with ⟨eb, _, _⟩ | ⟨nb, hb⟩
      · rw [ea, eb]
      · rw [ea, List.getElem?_set, if_pos rfl, if_pos (by rw [E.len]; exact la)] at sa
        rw [List.getElem?_set, if_neg (fun z => nb z.symm)] at sb
        have e := V.ref.inj (Option.some.inj (Option.some.inj sa))
        rw [← e] at sb
        exact (apart b _ hb sb).elim
    · rcases get_set hb with ⟨eb, _, lb⟩ | ⟨nb, hb⟩
      · rw [eb, List.getElem?_set, if_pos rfl, if_pos (by rw [E.len]; exact lb)] at sb
        rw [List.getElem?_set, if_neg (fun z => na z.symm)] at sa
        have e := V.ref.inj (Option.some.inj (Option.some.inj sb))
        rw [← e] at sa
        exact (apart a _ ha sa).elim
      · rw [List.getElem?_set, if_neg (fun z => na z.symm)] at sa
        rw [List.getElem?_set, if_neg (fun z => nb z.symm)] at sb
        exact E.ap2 a b _ _ q ha hb sa sb
theorem Env.odc (E : Env K F0 H0 F H σ ρ) {i : Nat} {es : List ((Int × Int) × List Int)} (h : ρ[i]? = some (.odc es)) : ∃ p ws, σ[i]? = some (some (.ref p)) ∧ H0 p = none ∧ F p = none ∧ H p = some (.dT ws) ∧ MoreIs K F ws es := by
  obtain ⟨o, h1, p, vs, rfl, h2⟩ := E.sl i _ h
  exact ⟨p, vs, h1, h2⟩
/-- an own dict changes -/
theorem Env.mutD {i : Nat} {p : Addr} {ws : List (List L2.Key × V)} {ds es : List ((Int × Int) × List Int)} (E : Env K F0 H0 F H σ ρ) (hi : ρ[i]? = some (.odc ds)) (hp : σ[i]? = some (some (.ref p))) (h : MoreIs K F ws es) : Env K F0 H0 F (upd H p (.dT ws)) σ (ρ.set i (.odc es)) := by
  obtain ⟨q, vs, h1, h0, hF, hH, _⟩ := E.odc hi
  rw [hp] at h1
  have e := V.ref.inj (Option.some.inj (Option.some.inj h1))
  subst e
  refine ⟨⟨E.g.f, XEx.mutQ E.g.h h0 hH (quiet_dT _), XEx.mutQ E.g.i hF hH (quiet_dT _), fun q hq fq => E.g.o q hq fq⟩, by rw [List.length_set]; exact E.len, fun j x hx => ?_, fun a b ds es q ha hb sa sb => ?_, fun a b es fs q ha hb sa sb => ?_⟩
  · rcases get_set hx with ⟨rfl, rfl, hl⟩ | ⟨ne, hx⟩
    · exact ⟨_, hp, p, ws, rfl, h0, hF, upd_same, h⟩
    · obtain ⟨o, h1, h2⟩ := E.sl j x hx
      refine ⟨o, h1, ?_⟩
      cases x with
      | any => exact True.intro
      | ref a => exact h2
      | dat d => exact h2
      | dct es => exact h2
      | own fs =>
        obtain ⟨r, us, e, g0, gF, gH, gA⟩ := h2
        exact ⟨r, us, e, g0, gF, by rw [upd_ne (fun z => by rw [z, hH] at gH; cases gH)]; exact gH, gA⟩
      | odc fs =>
        obtain ⟨r, us, e, g0, gF, gH, gA⟩ := h2
        refine ⟨r, us, e, g0, gF, ?_, gA⟩
        subst e
        rw [upd_ne (fun z => ne (E.ap2 j i _ _ p hx hi (by rw [h1, z]) hp))]
        exact gH
  · rcases get_set ha with ⟨_, z, _⟩ | ⟨na, ha⟩
    · cases z
    · rcases get_set hb with ⟨_, z, _⟩ | ⟨nb, hb⟩
      · cases z
      · exact E.ap a b ds es q ha hb sa sb
  · rcases get_set ha with ⟨ea, _, _⟩ | ⟨na, ha2⟩
    · rcases get_set hb with ⟨eb, _, _⟩ | ⟨nb, hb2⟩
      · rw [ea, eb]
      · exact ea.trans (E.ap2 i b _ _ q hi hb2 (by rw [← ea]; exact sa) sb)
    · rcases get_set hb with ⟨eb, _, _⟩ | ⟨nb, hb2⟩
      · exact (E.ap2 a i _ _ q ha2 hi sa (by rw [← eb]; exact sb)).trans eb.symm
      · exact E.ap2 a b _ _ q ha2 hb2 sa sb
/-- an own dict is shut -/
theorem Env.shutD {i : Nat} {ds : List ((Int × Int) × List Int)} (E : Env K F0 H0 F H σ ρ) (hi : ρ[i]? = some (.odc ds)) : ∃ F', XEx F F' ∧ Env K F0 H0 F' H σ (ρ.set i (.dct ds)) := by
  obtain ⟨p, vs, hp, h0, hF, hH, hA⟩ := E.odc hi
  have n2 : XEx F (upd F p (.dT vs)) := XEx.new hF
  refine ⟨upd F p (.dT vs), n2, E.g.shut h0 hF hH (quiet_dT _), by rw [List.length_set]; exact E.len, fun j x hx => ?_, fun a b ds es q ha hb sa sb => ?_, E.ap2.put fun _ z => nomatch z⟩
  · rcases get_set hx with ⟨rfl, rfl, hl⟩ | ⟨ne, hx⟩
    · exact ⟨_, hp, p, vs, rfl, upd_same, hA.ex n2⟩
    · obtain ⟨o, h1, h2⟩ := E.sl j x hx
      refine ⟨o, h1, ?_⟩
      cases x with
      | any => exact True.intro
      | ref a => exact h2
      | dct es =>
        obtain ⟨r, ws, e, gF, q⟩ := h2
        exact ⟨r, ws, e, n2.k r _ gF (fun _ z => nomatch z), q.ex n2⟩
      | dat d =>
        obtain ⟨v, e, q⟩ := h2
        exact ⟨v, e, dp_ex n2 _ _ q⟩
      | own fs =>
        obtain ⟨r, us, e, g0, gF, gH, gA⟩ := h2
        exact ⟨r, us, e, g0, by rw [upd_ne (fun z => by rw [z, hH] at gH; cases gH)]; exact gF, gH, dpAll_ex n2 _ _ gA⟩
      | odc fs =>
        obtain ⟨r, us, e, g0, gF, gH, gA⟩ := h2
        subst e
        refine ⟨r, us, rfl, g0, ?_, gH, gA.ex n2⟩
        rw [upd_ne (fun z => ne (E.ap2 j i _ _ p hx hi (by rw [h1, z]) hp))]
        exact gF
  · rcases get_set ha with ⟨_, z, _⟩ | ⟨na, ha⟩
    · cases z
    · rcases get_set hb with ⟨_, z, _⟩ | ⟨nb, hb⟩
      · cases z
      · exact E.ap a b ds es q ha hb sa sb
end
end DL

set_option Elab.async false
set_option linter.all false
set_option maxRecDepth 100000
set_option maxHeartbeats 2000000
/-! DR: rules over data. -/
namespace DL
open PySem L2
variable [Nm]
structure Zx where
  K : PySem.W.Frag
  E : XK
  px : Value → Prop
def Wish (Z : Zx) (F0 H0 : Hp) : Prop := Tb H0 ∧ ∀ c F' H', Z.px c → Nx F0 H0 F' H' → Z.E c Option.none H'
theorem wish_tb {Z : Zx} {F0 H0 F H F1 H1 : Hp} {σ : L2.St} {ρ : List Sl} (w : Wish Z F0 H0) (e : Env Z.K F0 H0 F H σ ρ) (n : Nx F H F1 H1) : Tb H1 := w.1.ex (e.g.trans n).h
def SqX (K : PySem.W.Frag) (k : Bool) (H : Hp) (p : Addr) (vs : List V) : Prop := if k = true then SqL K H p vs else SqT K H p vs
theorem sqx_ex {K : PySem.W.Frag} {k : Bool} {H H' : Hp} {p : Addr} {vs : List V} (e : XEx H H') (h : SqX K k H p vs) : SqX K k H' p vs := by
  unfold SqX at h ⊢
  cases k with
  | true => exact xex_l e h
  | false => exact xex_t e h
def sqD (k : Bool) (ds : List Dt) : Dt := if k = true then .list ds else .tuple ds
theorem sqx_dp {K : PySem.W.Frag} {k : Bool} {H : Hp} {p : Addr} {vs : List V} {ds : List Dt} (h : SqX K k H p vs) (a : DpAll K H vs ds) : Dp K H (.ref p) (sqD k ds) := by
  cases k with
  | true => exact .lst h a
  | false => exact .tup h a
theorem dp_sqx {K : PySem.W.Frag} {k : Bool} {H : Hp} {v : V} {ds : List Dt} (h : Dp K H v (sqD k ds)) : ∃ p vs, v = .ref p ∧ SqX K k H p vs ∧ DpAll K H vs ds := by
  cases k with
  | true => exact dp_list h
  | false => exact dp_tup h
theorem sqx_or {K : PySem.W.Frag} {k : Bool} {H : Hp} {p : Addr} {vs : List V} (h : SqX K k H p vs) : SqL K H p vs ∨ SqT K H p vs := by
  cases k with
  | true => exact Or.inl h
  | false => exact Or.inr h

/-! ### what evaluates to what -/
def EvD (Z : Zx) (te : TE) (ρ : List Sl) (d : Dt) : Prop := ∀ F0 H0 F H σ, Env Z.K F0 H0 F H σ ρ → Wish Z F0 H0 → ∀ Q : VK, (∀ v F' H', Nx F H F' H' → Dp Z.K F' v d → Q v H') → te σ H Q
/-- a list or tuple that is read -/
def EvV (Z : Zx) (k : Bool) (te : TE) (ρ : List Sl) (ds : List Dt) : Prop := ∀ F0 H0 F H σ, Env Z.K F0 H0 F H σ ρ → Wish Z F0 H0 → ∀ Q : VK, (∀ p vs F' H', Nx F H F' H' → SqX Z.K k H' p vs → DpAll Z.K F' vs ds → Q (.ref p) H') → te σ H Q
/-- a list that stands by itself -/
def EvW (Z : Zx) (te : TE) (ρ : List Sl) (ds : List Dt) : Prop := ∀ F0 H0 F H σ, Env Z.K F0 H0 F H σ ρ → Wish Z F0 H0 → ∀ Q : VK, (∀ p vs F' H', Nx F H F' H' → H' p = some (.lst vs) → DpAll Z.K F' vs ds → Q (.ref p) H') → te σ H Q
/-- a new list -/
def EvL (Z : Zx) (te : TE) (ρ : List Sl) (ds : List Dt) : Prop := ∀ F0 H0 F H σ, Env Z.K F0 H0 F H σ ρ → Wish Z F0 H0 → ∀ Q : VK, (∀ p vs F' H', Nx F H F' H' → H p = none → F' p = none → H' p = some (.lst vs) → DpAll Z.K F' vs ds → Q (.ref p) H') → te σ H Q
def EvT (Z : Zx) (tt : TT) (ρ : List Sl) (b : Bool) : Prop := ∀ F0 H0 F H σ, Env Z.K F0 H0 F H σ ρ → Wish Z F0 H0 → ∀ Q : Bool → Hp → Prop, (∀ F' H', Nx F H F' H' → Q b H') → tt σ H Q
def EvA (Z : Zx) (ta : TA) (ρ : List Sl) (ds : List Dt) : Prop := ∀ F0 H0 F H σ, Env Z.K F0 H0 F H σ ρ → Wish Z F0 H0 → ∀ Q : List V → Hp → Prop, (∀ vs F' H', Nx F H F' H' → DpAll Z.K F' vs ds → Q vs H') → ta σ H Q
def EvO (Z : Zx) (to : TO) (ρ : List Sl) (o : Option Int) : Prop := ∀ F0 H0 F H σ, Env Z.K F0 H0 F H σ ρ → Wish Z F0 H0 → ∀ Q : Option Int → Hp → Prop, (∀ F' H', Nx F H F' H' → Q o H') → to σ H Q
/-- it gives no value: it raises -/
def EvX (Z : Zx) (te : TE) (ρ : List Sl) : Prop := ∀ F0 H0 F H σ, Env Z.K F0 H0 F H σ ρ → Wish Z F0 H0 → ∀ Q : VK, te σ H Q
/-- a two-place operation on values -/
def RD (Z : Zx) (r : R2) (x y z : Dt) : Prop := ∀ F H v u, XEx F H → Dp Z.K F v x → Dp Z.K F u y → ∀ Q : VK, (∀ w F' H', Nx F H F' H' → Dp Z.K F' w z → Q w H') → r v u H Q

section
variable {Z : Zx} {ρ : List Sl} {te ta tb tc : TE} {t u : TT} {r : R2} {x y z d : Dt} {ds es : List Dt}
theorem EvL.w (h : EvL Z te ρ ds) : EvW Z te ρ ds := fun F0 H0 F H σ e w Q q => h F0 H0 F H σ e w Q fun p vs F' H' n _ _ hp a => q p vs F' H' n hp a
theorem EvW.v (h : EvW Z te ρ ds) : EvV Z true te ρ ds := fun F0 H0 F H σ e w Q q => h F0 H0 F H σ e w Q fun p vs F' H' n hp a => q p vs F' H' n (Or.inl (Or.inl hp)) a
theorem EvL.v (h : EvL Z te ρ ds) : EvV Z true te ρ ds := h.w.v
theorem EvL.dt (h : EvL Z te ρ ds) : EvD Z te ρ (.list ds) := fun F0 H0 F H σ e w Q q => h F0 H0 F H σ e w Q fun p vs F' H' n hn hF hp a =>
  q (.ref p) _ H' (n.shut hn hF hp) (.lst (Or.inl (Or.inl upd_same)) (dpAll_ex (XEx.new hF) _ _ a))
theorem EvD.vk {k : Bool} (h : EvD Z te ρ (sqD k ds)) : EvV Z k te ρ ds := fun F0 H0 F H σ e w Q q => h F0 H0 F H σ e w Q fun v F' H' n a => by
  obtain ⟨p, vs, rfl, s, b⟩ := dp_sqx a
  exact q p vs F' H' n (sqx_ex n.i s) b
theorem EvD.v (h : EvD Z te ρ (.list ds)) : EvV Z true te ρ ds := EvD.vk (k := true) h
theorem EvD.tp (h : EvD Z te ρ (.tuple ds)) : EvV Z false te ρ ds := EvD.vk (k := false) h
inductive IsSq : Dt → Bool → List Dt → Prop where
  | l {ds : List Dt} : IsSq (.list ds) true ds
  | t {ds : List Dt} : IsSq (.tuple ds) false ds
theorem EvD.sq {k : Bool} (h : EvD Z te ρ d) (s : IsSq d k ds) : EvV Z k te ρ ds := by
  cases s with
  | l => exact h.v
  | t => exact h.tp
theorem EvD.is (h : EvD Z te ρ x) (e : x = y) : EvD Z te ρ y := e ▸ h
theorem EvT.is {a b : Bool} (h : EvT Z t ρ a) (e : a = b) : EvT Z t ρ b := e ▸ h

theorem d_var {i : Nat} (h : ρ[i]? = some (.dat d)) : EvD Z (tVar i) ρ d := fun F0 H0 F H σ e w Q q => by
  obtain ⟨v, h1, h2⟩ := e.dat h
  exact ⟨v, h1, q v F H (.refl e.g.i) h2⟩
theorem w_var {i : Nat} (h : ρ[i]? = some (.own ds)) : EvW Z (tVar i) ρ ds := fun F0 H0 F H σ e w Q q => by
  obtain ⟨p, vs, h1, _, _, h2, h3⟩ := e.own h
  exact ⟨.ref p, h1, q p vs F H (.refl e.g.i) h2 h3⟩
theorem d_int {i : Int} : EvD Z (tC (.int i)) ρ (.int i) := fun F0 H0 F H σ e w Q q => q _ F H (.refl e.g.i) (.int i)
theorem d_bl {b : Bool} : EvD Z (tC (.bl b)) ρ (.bool b) := fun F0 H0 F H σ e w Q q => q _ F H (.refl e.g.i) (.bl b)
theorem d_non : EvD Z (tC .non) ρ .none := fun F0 H0 F H σ e w Q q => q _ F H (.refl e.g.i) .non
theorem d_str {s : Str} : EvD Z (tC (.str s)) ρ (.str s) := fun F0 H0 F H σ e w Q q => q _ F H (.refl e.g.i) (.str s)
theorem d_op (ha : EvD Z ta ρ x) (hb : EvD Z tb ρ y) (hr : RD Z r x y z) : EvD Z (tOp r ta tb) ρ z := fun F0 H0 F H σ e w Q q =>
  ha F0 H0 F H σ e w _ fun v F1 H1 n1 p1 => hb F0 H0 F1 H1 σ (e.step n1) w _ fun u F2 H2 n2 p2 =>
    hr F2 H2 v u n2.i (dp_ex n2.f _ _ p1) p2 Q fun c F3 H3 n3 p3 => q c F3 H3 ((n1.trans n2).trans n3) p3
theorem d_un {f : V → Hp → VK → Prop} {i : Int} {g : Int → V} {j : Int} (ha : EvD Z ta ρ (.int i)) (hg : g i = .int j) : EvD Z (tUn (rU g) ta) ρ (.int j) := fun F0 H0 F H σ e w Q q =>
  ha F0 H0 F H σ e w _ fun v F1 H1 n1 p1 => ⟨i, dp_int p1, by rw [hg]; exact q _ F1 H1 n1 (.int j)⟩
theorem d_neg {i : Int} (ha : EvD Z ta ρ (.int i)) : EvD Z (tUn (rU fun i => .int (-i)) ta) ρ (.int (-i)) := d_un (f := fun _ _ _ => True) ha rfl
theorem ea_nil : EvA Z tNil ρ [] := fun F0 H0 F H σ e w Q q => q [] F H (.refl e.g.i) .nil
theorem ea_cons {tr : TA} (h : EvD Z te ρ d) (hr : EvA Z tr ρ ds) : EvA Z (tCons te tr) ρ (d :: ds) := fun F0 H0 F H σ e w Q q =>
  h F0 H0 F H σ e w _ fun v F1 H1 n1 p1 => hr F0 H0 F1 H1 σ (e.step n1) w _ fun vs F2 H2 n2 p2 => q _ F2 H2 (n1.trans n2) (.cons (dp_ex n2.f _ _ p1) p2)
theorem d_tup {tr : TA} (h : EvA Z tr ρ ds) (hl : ds.length ≤ 100000) : EvD Z (tTup tr) ρ (.tuple ds) := fun F0 H0 F H σ e w Q q =>
  h F0 H0 F H σ e w _ fun vs F1 H1 n1 p1 => ⟨Evl.sz_of (by rw [dpAll_len p1]; exact hl), fun p hp =>
    q (.ref p) _ _ (n1.trans (Nx.both n1.i hp)) (.tup (Or.inl (Or.inl upd_same)) (dpAll_ex (XEx.new (none_back n1.i hp)) _ _ p1))⟩
theorem l_lst {tr : TA} (h : EvA Z tr ρ ds) (hl : ds.length ≤ 100000) : EvL Z (tLst tr) ρ ds := fun F0 H0 F H σ e w Q q =>
  h F0 H0 F H σ e w _ fun vs F1 H1 n1 p1 => ⟨Evl.sz_of (by rw [dpAll_len p1]; exact hl), fun p hp =>
    q p vs F1 _ (n1.trans (Nx.own n1.i hp)) (none_back n1.h hp) (none_back n1.i hp) upd_same p1⟩

/-! ### operators -/
def rAddU (K : PySem.W.Frag) : R2 := fun x y H Q => rI0 (fun i j => .int (i + j)) x y H Q ∨ (rCat x y H Q ∨ rCatA K x y H Q)
theorem op_addU {X : Cx} : OpR X (binaryOp .Add) (rAddU X.K) := op_add.or (op_cat.or op_catA)
def rMulU (K : PySem.W.Frag) : R2 := fun x y H Q => rI CMul (fun i j => .int (i * j)) x y H Q ∨ (rI CMulW (fun i j => .int (i * j)) x y H Q ∨ (rRep x y H Q ∨ rRepT K x y H Q))
theorem op_mulU {X : Cx} : OpR X (binaryOp .Mult) (rMulU X.K) := op_mul.or (op_mulW.or (op_rep.or op_repT))
def rDivU : R2 := fun x y H Q => rI CDiv (fun i j => .int (i / j)) x y H Q ∨ rI CDivW (fun i j => .int (i / j)) x y H Q
theorem op_divU {X : Cx} : OpR X (binaryOp .FloorDiv) rDivU := op_fdiv.or op_fdivW
def rEqU (K : PySem.W.Frag) : R2 := rEqD K
theorem RD.int0 {g : Int → Int → Int} {i j : Int} : RD Z (rI0 fun i j => .int (g i j)) (.int i) (.int j) (.int (g i j)) := fun F H v u e hv hu Q q => ⟨i, j, dp_int hv, dp_int hu, q _ F H (.refl e) (.int _)⟩
theorem RD.bl0 {g : Int → Int → Bool} {i j : Int} : RD Z (rI0 fun i j => .bl (g i j)) (.int i) (.int j) (.bool (g i j)) := fun F H v u e hv hu Q q => ⟨i, j, dp_int hv, dp_int hu, q _ F H (.refl e) (.bl _)⟩
theorem RD.intC {C : Int → Int → Prop} {g : Int → Int → Int} {i j : Int} (h : C i j) : RD Z (rI C fun i j => .int (g i j)) (.int i) (.int j) (.int (g i j)) := fun F H v u e hv hu Q q => ⟨i, j, dp_int hv, dp_int hu, h, q _ F H (.refl e) (.int _)⟩
theorem RD.l {r' : R2} (h : RD Z r x y z) : RD Z (fun a b H Q => r a b H Q ∨ r' a b H Q) x y z := fun F H v u e hv hu Q q => Or.inl (h F H v u e hv hu Q q)
theorem RD.rr {r' : R2} (h : RD Z r x y z) : RD Z (fun a b H Q => r' a b H Q ∨ r a b H Q) x y z := fun F H v u e hv hu Q q => Or.inr (h F H v u e hv hu Q q)
theorem r_addI {i j : Int} : RD Z (rAddU Z.K) (.int i) (.int j) (.int (i + j)) := RD.l RD.int0
theorem r_subI {i j : Int} : RD Z (rI0 fun i j => .int (i - j)) (.int i) (.int j) (.int (i - j)) := RD.int0
theorem r_mulI {i j : Int} (h : CMul i j ∨ CMulW i j) : RD Z (rMulU Z.K) (.int i) (.int j) (.int (i * j)) := by
  rcases h with h | h
  · exact RD.l (RD.intC h)
  · exact RD.rr (RD.l (RD.intC h))
theorem r_divI {i j : Int} (h : CDiv i j ∨ CDivW i j) : RD Z rDivU (.int i) (.int j) (.int (i / j)) := by
  rcases h with h | h
  · exact RD.l (RD.intC h)
  · exact RD.rr (RD.intC h)
theorem r_modI {i j : Int} (h : 0 < j) : RD Z (rI (fun _ j => 0 < j) fun i j => .int (i % j)) (.int i) (.int j) (.int (i % j)) := RD.intC h
theorem r_powI {i j : Int} (h : CPow i j) : RD Z (rI CPow fun i j => .int (i ^ j.toNat)) (.int i) (.int j) (.int (i ^ j.toNat)) := RD.intC h
theorem r_addT {xs ys : List Dt} (h : xs.length + ys.length ≤ 100000) : RD Z (rAddU Z.K) (.tuple xs) (.tuple ys) (.tuple (xs ++ ys)) := RD.rr (RD.rr fun F H v u e hv hu Q q => by
  obtain ⟨a, vs, rfl, sa, aa⟩ := dp_tup hv
  obtain ⟨b, us, rfl, sb, ab⟩ := dp_tup hu
  refine ⟨a, b, vs, us, rfl, rfl, xex_t e sa, xex_t e sb, Evl.sz_of (by rw [dpAll_len aa, dpAll_len ab]; exact h), fun hz => ?_, fun _ hz => ?_, fun _ _ p hp => ?_⟩
  · subst hz; cases aa; exact q _ F H (.refl e) (.tup sb ab)
  · subst hz; cases ab; rw [List.append_nil] at q; exact q _ F H (.refl e) (.tup sa aa)
  · exact q _ _ _ (Nx.both e hp) (.tup (Or.inl (Or.inl upd_same)) (dpAll_ex (XEx.new (none_back e hp)) _ _ (dpAll_app aa ab))))
theorem r_repT {xs : List Dt} {k : Int} (h0 : xs ≠ []) (h1 : 2 ≤ k) (h2 : k ≤ 1000) (h3 : xs.length ≤ 1000) : RD Z (rMulU Z.K) (.tuple xs) (.int k) (.tuple (List.replicate k.toNat xs).flatten) := RD.rr (RD.rr (RD.rr fun F H v u e hv hu Q q => by
  obtain ⟨a, vs, rfl, sa, aa⟩ := dp_tup hv
  refine ⟨a, k, vs, rfl, dp_int hu, xex_t e sa, fun z => h0 (by subst z; cases aa; rfl), h1, h2, by rw [dpAll_len aa]; exact h3, fun p hp => ?_⟩
  exact q _ _ _ (Nx.both e hp) (.tup (Or.inl (Or.inl upd_same)) (dpAll_ex (XEx.new (none_back e hp)) _ _ (dpAll_rep aa _)))))
/-- xs + ys, lists that stand by themselves -/
theorem l_cat (ha : EvW Z ta ρ ds) (hb : EvW Z tb ρ es) (h : ds.length + es.length ≤ 100000) : EvL Z (tOp (rAddU Z.K) ta tb) ρ (ds ++ es) := fun F0 H0 F H σ e w Q q =>
  ha F0 H0 F H σ e w _ fun p vs F1 H1 n1 h1 a1 => hb F0 H0 F1 H1 σ (e.step n1) w _ fun p2 us F2 H2 n2 h2 a2 =>
    Or.inr (Or.inl ⟨p, p2, vs, us, rfl, rfl, n2.h.k p _ h1 (fun _ z => nomatch z), h2, Evl.sz_of (by rw [dpAll_len a1, dpAll_len a2]; exact h), fun l hl => by
      exact q l _ F2 _ ((n1.trans n2).trans (Nx.own n2.i hl)) (none_back (n1.trans n2).h hl) (none_back n2.i hl) upd_same (dpAll_app (dpAll_ex n2.f _ _ a1) a2)⟩)
theorem l_rep {k : Int} (ha : EvW Z ta ρ ds) (hb : EvD Z tb ρ (.int k)) (h0 : 0 ≤ k) (h : ds.length * k.toNat ≤ 100000) (h1 : k ≤ 100000) : EvL Z (tOp (rMulU Z.K) ta tb) ρ (List.replicate k.toNat ds).flatten := fun F0 H0 F H σ e w Q q =>
  ha F0 H0 F H σ e w _ fun p vs F1 H1 n1 h1' a1 => hb F0 H0 F1 H1 σ (e.step n1) w _ fun v F2 H2 n2 p2 =>
    Or.inr (Or.inr (Or.inl ⟨p, k, vs, rfl, dp_int p2, n2.h.k p _ h1' (fun _ z => nomatch z), by omega, by omega, Evl.sz_of (by rw [dpAll_len a1]; exact h), fun l hl => by
      have g := q l _ F2 _ ((n1.trans n2).trans (Nx.own (o := .lst (List.replicate k.toNat vs).flatten) n2.i hl)) (none_back (n1.trans n2).h hl) (none_back n2.i hl) upd_same (dpAll_rep (dpAll_ex n2.f _ _ a1) k.toNat)
      exact g⟩))
/-- == of data -/
def sh (d : Dt) : Prop := SeqAt.shaped d = true
theorem r_eqD (h1 : sh x) (h2 : sh y) : RD Z (rEqD Z.K) x y (.bool (PyData.eqv x y)) := fun F H v u e hv hu Q q => ⟨x, y, dp_ex e _ _ hv, dp_ex e _ _ hu, h1, h2, q _ F H (.refl e) (.bl _)⟩
theorem r_neD (h1 : sh x) (h2 : sh y) : RD Z (rNeD Z.K) x y (.bool (!PyData.eqv x y)) := fun F H v u e hv hu Q q => ⟨x, y, dp_ex e _ _ hv, dp_ex e _ _ hu, h1, h2, q _ F H (.refl e) (.bl _)⟩
theorem r_eqI {i j : Int} : RD Z (rEqD Z.K) (.int i) (.int j) (.bool (decide (i = j))) := by
  have h := r_eqD (Z := Z) (x := .int i) (y := .int j) rfl rfl
  simp only [PyData.eqv, Bool.beq_eq_decide_eq] at h
  exact h
theorem r_neI {i j : Int} : RD Z (rNeD Z.K) (.int i) (.int j) (.bool (!decide (i = j))) := by
  have h := r_neD (Z := Z) (x := .int i) (y := .int j) rfl rfl
  simp only [PyData.eqv, Bool.beq_eq_decide_eq] at h
  exact h
theorem r_eqB {i j : Bool} : RD Z (rEqD Z.K) (.bool i) (.bool j) (.bool (i == j)) := by
  have h := r_eqD (Z := Z) (x := .bool i) (y := .bool j) rfl rfl
  simp only [PyData.eqv] at h
  exact h
theorem r_neB {i j : Bool} : RD Z (rNeD Z.K) (.bool i) (.bool j) (.bool (!(i == j))) := by
  have h := r_neD (Z := Z) (x := .bool i) (y := .bool j) rfl rfl
  simp only [PyData.eqv] at h
  exact h
/-- == where one side is an own list -/
theorem d_eqV {k l : Bool} (ha : EvV Z k ta ρ ds) (hb : EvV Z l tb ρ es) (h1 : sh (sqD k ds)) (h2 : sh (sqD l es)) : EvD Z (tOp (rEqD Z.K) ta tb) ρ (.bool (PyData.eqv (sqD k ds) (sqD l es))) := fun F0 H0 F H σ e w Q q =>
  ha F0 H0 F H σ e w _ fun p vs F1 H1 n1 s1 a1 => hb F0 H0 F1 H1 σ (e.step n1) w _ fun p2 us F2 H2 n2 s2 a2 =>
    ⟨_, _, sqx_dp (sqx_ex n2.h s1) (dpAll_ex n2.i _ _ (dpAll_ex n2.f _ _ a1)), sqx_dp s2 (dpAll_ex n2.i _ _ a2), h1, h2, q _ F2 H2 (n1.trans n2) (.bl _)⟩
theorem d_neV {k l : Bool} (ha : EvV Z k ta ρ ds) (hb : EvV Z l tb ρ es) (h1 : sh (sqD k ds)) (h2 : sh (sqD l es)) : EvD Z (tOp (rNeD Z.K) ta tb) ρ (.bool (!PyData.eqv (sqD k ds) (sqD l es))) := fun F0 H0 F H σ e w Q q =>
  ha F0 H0 F H σ e w _ fun p vs F1 H1 n1 s1 a1 => hb F0 H0 F1 H1 σ (e.step n1) w _ fun p2 us F2 H2 n2 s2 a2 =>
    ⟨_, _, sqx_dp (sqx_ex n2.h s1) (dpAll_ex n2.i _ _ (dpAll_ex n2.f _ _ a1)), sqx_dp s2 (dpAll_ex n2.i _ _ a2), h1, h2, q _ F2 H2 (n1.trans n2) (.bl _)⟩
theorem r_lt {i j : Int} : RD Z (rI0 fun i j => .bl (decide (i < j))) (.int i) (.int j) (.bool (decide (i < j))) := RD.bl0
theorem r_le {i j : Int} : RD Z (rI0 fun i j => .bl (decide (i ≤ j))) (.int i) (.int j) (.bool (decide (i ≤ j))) := RD.bl0
theorem r_gt {i j : Int} : RD Z (rI0 fun i j => .bl (decide (j < i))) (.int i) (.int j) (.bool (decide (j < i))) := RD.bl0
theorem r_ge {i j : Int} : RD Z (rI0 fun i j => .bl (decide (j ≤ i))) (.int i) (.int j) (.bool (decide (j ≤ i))) := RD.bl0
/-- is None, is True -/
def isN : Dt → Bool
  | .none => true
  | _ => false
theorem dp_isN {K : PySem.W.Frag} {F : Hp} {v : V} {d : Dt} (h : Dp K F v d) : decide (v = .non) = isN d := by
  cases h <;> first | rfl | exact decide_eq_false (fun z => nomatch z)
def rIsU : R2 := fun x y H Q => (y = .non ∧ Q (.bl (decide (x = .non))) H) ∨ rIsB x y H Q
def rNotU : R2 := fun x y H Q => (y = .non ∧ Q (.bl (!decide (x = .non))) H) ∨ rNotB x y H Q
theorem op_isU {X : Cx} : OpR X (compareOp .Is) rIsU := op_isN.or op_isBl
theorem op_notU {X : Cx} : OpR X (compareOp .IsNot) rNotU := op_notN.or op_notBl
theorem r_isN : RD Z rIsU x .none (.bool (isN x)) := fun F H v u e hv hu Q q => Or.inl ⟨dp_non hu, by rw [dp_isN hv]; exact q _ F H (.refl e) (.bl _)⟩
theorem r_notN : RD Z rNotU x .none (.bool (!isN x)) := fun F H v u e hv hu Q q => Or.inl ⟨dp_non hu, by rw [dp_isN hv]; exact q _ F H (.refl e) (.bl _)⟩
theorem r_isB {a b : Bool} : RD Z rIsU (.bool a) (.bool b) (.bool (decide (a = b))) := fun F H v u e hv hu Q q => Or.inr ⟨a, b, dp_bl hv, dp_bl hu, q _ F H (.refl e) (.bl _)⟩
theorem r_notB {a b : Bool} : RD Z rNotU (.bool a) (.bool b) (.bool (!decide (a = b))) := fun F H v u e hv hu Q q => Or.inr ⟨a, b, dp_bl hv, dp_bl hu, q _ F H (.refl e) (.bl _)⟩

/-! ### items, slices -/
def rIxU (K : PySem.W.Frag) : R2 := fun x y H Q => rIxL K x y H Q ∨ rIxT K x y H Q
theorem ix_U {X : Cx} : IxR X (rIxU X.K) := ix_list.or ix_tup
theorem at_nat {xs : List V} {i : Int} {v : V} (h0 : 0 ≤ i) (h : xs[i.toNat]? = some v) : atI xs i = some v := at_of (j := i.toNat) (by omega) h
theorem d_ix {k : Bool} {i : Int} (ha : EvV Z k ta ρ ds) (hb : EvD Z tb ρ (.int i)) (h0 : 0 ≤ i) (h : ds[i.toNat]? = some d) : EvD Z (tOp (rIxU Z.K) ta tb) ρ d := fun F0 H0 F H σ e w Q q =>
  ha F0 H0 F H σ e w _ fun p vs F1 H1 n1 s1 a1 => hb F0 H0 F1 H1 σ (e.step n1) w _ fun v F2 H2 n2 p2 => by
    obtain ⟨c, h1, h2⟩ := dpAll_get (dpAll_ex n2.f _ _ a1) h
    have hv := dp_int p2
    cases k with
    | true => exact Or.inl ⟨p, vs, i, c, rfl, hv, xex_l n2.h s1, at_nat h0 h1, q c F2 H2 (n1.trans n2) h2⟩
    | false => exact Or.inr ⟨p, vs, i, c, rfl, hv, xex_t n2.h s1, at_nat h0 h1, q c F2 H2 (n1.trans n2) h2⟩
/-- from behind -/
theorem d_ixN {k : Bool} {i : Int} (ha : EvV Z k ta ρ ds) (hb : EvD Z tb ρ (.int i)) (h0 : i < 0) (h1' : -(ds.length : Int) ≤ i) (h : ds[(i + ds.length).toNat]? = some d) : EvD Z (tOp (rIxU Z.K) ta tb) ρ d := fun F0 H0 F H σ e w Q q =>
  ha F0 H0 F H σ e w _ fun p vs F1 H1 n1 s1 a1 => hb F0 H0 F1 H1 σ (e.step n1) w _ fun v F2 H2 n2 p2 => by
    obtain ⟨c, h1, h2⟩ := dpAll_get (dpAll_ex n2.f _ _ a1) h
    have hv := dp_int p2
    have hl := dpAll_len a1
    have hat : atI vs i = some c := by
      unfold atI ixN
      rw [if_neg (by omega), hl, if_pos h1']
      exact h1
    cases k with
    | true => exact Or.inl ⟨p, vs, i, c, rfl, hv, xex_l n2.h s1, hat, q c F2 H2 (n1.trans n2) h2⟩
    | false => exact Or.inr ⟨p, vs, i, c, rfl, hv, xex_t n2.h s1, hat, q c F2 H2 (n1.trans n2) h2⟩
theorem o_none : EvO Z tNoPart ρ Option.none := fun F0 H0 F H σ e w Q q => q F H (.refl e.g.i)
theorem o_some {i : Int} (h : EvD Z te ρ (.int i)) : EvO Z (tPart te) ρ (some i) := fun F0 H0 F H σ e w Q q => h F0 H0 F H σ e w _ fun v F1 H1 n1 p1 => ⟨i, dp_int p1, q F1 H1 n1⟩
def cutD (xs : List Dt) (lo hi : Option Int) : List Dt := (xs.drop (HT.sIx xs.length 0 lo)).take (HT.sIx xs.length xs.length hi - HT.sIx xs.length 0 lo)
end
end DL

set_option Elab.async false
set_option linter.all false
set_option maxRecDepth 100000
set_option maxHeartbeats 2000000
/-! DS: slices, calls, tests, statements, loops over data. -/
namespace DL
open PySem L2
variable [Nm]
section
variable {Z : Zx} {ρ : List Sl} {te ta tb tc : TE} {t u : TT} {r : R2} {x y z d : Dt} {ds es : List Dt}

/-! ### slices -/
def rSlU (K : PySem.W.Frag) : V → Option Int → Option Int → Hp → VK → Prop := fun x lo hi H Q => rSlL K x lo hi H Q ∨ rSlA K x lo hi H Q
theorem sl_U {X : Cx} : SlR X (rSlU X.K) := sl_list.or sl_tupA
theorem cut_all {K : PySem.W.Frag} {F : Hp} {vs : List V} (a : DpAll K F vs ds) (lo hi : Option Int) : DpAll K F (cutV vs lo hi) (cutD ds lo hi) := by
  unfold cutV cutD
  rw [dpAll_len a]
  exact dpAll_take _ (dpAll_drop _ a)
theorem l_slice {tl th : TO} {lo hi : Option Int} (h : EvV Z true te ρ ds) (hl : EvO Z tl ρ lo) (hh : EvO Z th ρ hi) : EvL Z (tSl (rSlU Z.K) te tl th) ρ (cutD ds lo hi) := fun F0 H0 F H σ e w Q q =>
  h F0 H0 F H σ e w _ fun p vs F1 H1 n1 s1 a1 => hl F0 H0 F1 H1 σ (e.step n1) w _ fun F2 H2 n2 => hh F0 H0 F2 H2 σ ((e.step n1).step n2) w _ fun F3 H3 n3 =>
    Or.inl ⟨p, vs, rfl, xex_l (n2.trans n3).h s1, fun l hl => q l _ F3 _ (((n1.trans n2).trans n3).trans (Nx.own n3.i hl)) (none_back ((n1.trans n2).trans n3).h hl) (none_back n3.i hl) upd_same (cut_all (dpAll_ex (n2.trans n3).f _ _ a1) lo hi)⟩
theorem d_slice {tl th : TO} {lo hi : Option Int} (h : EvD Z te ρ (.tuple ds)) (hl : EvO Z tl ρ lo) (hh : EvO Z th ρ hi) : EvD Z (tSl (rSlU Z.K) te tl th) ρ (.tuple (cutD ds lo hi)) := fun F0 H0 F H σ e w Q q =>
  h F0 H0 F H σ e w _ fun v F1 H1 n1 p1 => hl F0 H0 F1 H1 σ (e.step n1) w _ fun F2 H2 n2 => hh F0 H0 F2 H2 σ ((e.step n1).step n2) w _ fun F3 H3 n3 => by
    obtain ⟨p, vs, rfl, s1, a1⟩ := dp_tup p1
    have aa := dpAll_ex (n2.trans n3).f _ _ a1
    have ss := xex_t (n2.trans n3).f s1
    refine Or.inr ⟨p, vs, rfl, xex_t n3.i ss, fun hw => ?_, fun _ l hl => ?_⟩
    · have ec : cutD ds lo hi = ds := by
        unfold cutD
        rw [← dpAll_len aa, hw.1, hw.2, List.drop_zero, Nat.sub_zero, dpAll_len aa, List.take_length]
      rw [ec] at q
      exact q _ F3 H3 ((n1.trans n2).trans n3) (.tup ss aa)
    · exact q _ _ _ (((n1.trans n2).trans n3).trans (Nx.both n3.i hl)) (.tup (Or.inl (Or.inl upd_same)) (dpAll_ex (XEx.new (none_back n3.i hl)) _ _ (cut_all aa lo hi)))

/-! ### calls of built-ins -/
def rLen (K : PySem.W.Frag) : List V → Hp → VK → Prop := fun xs H Q => ∃ p ys, xs = [.ref p] ∧ (SqL K H p ys ∨ SqT K H p ys) ∧ Q (.int ys.length) H
theorem c_len {X : Cx} : CallR X (.builtin "len") (rLen X.K) := call_len_seq
theorem d_len {k : Bool} (h : EvV Z k ta ρ ds) : EvD Z (tCB (rLen Z.K) (tCons ta tNil)) ρ (.int (ds.length : Nat)) := fun F0 H0 F H σ e w Q q =>
  h F0 H0 F H σ e w _ fun p vs F1 H1 n1 s1 a1 => ⟨p, vs, rfl, sqx_or s1, by rw [dpAll_len a1]; exact q _ F1 H1 n1 (.int _)⟩
def rLst (K : PySem.W.Frag) : List V → Hp → VK → Prop := fun xs H Q => ∃ p ys, xs = [.ref p] ∧ (SqL K H p ys ∨ SqT K H p ys) ∧ ∀ l, H l = none → Q (.ref l) (upd H l (.lst ys))
theorem c_list {X : Cx} : CallR X (.type "list") (rLst X.K) := call_list_of
theorem l_list {k : Bool} (h : EvV Z k ta ρ ds) : EvL Z (tCB (rLst Z.K) (tCons ta tNil)) ρ ds := fun F0 H0 F H σ e w Q q =>
  h F0 H0 F H σ e w _ fun p vs F1 H1 n1 s1 a1 => ⟨p, vs, rfl, sqx_or s1, fun l hl => q l vs F1 _ (n1.trans (Nx.own n1.i hl)) (none_back n1.h hl) (none_back n1.i hl) upd_same a1⟩
def rTpl (K : PySem.W.Frag) : List V → Hp → VK → Prop := fun xs H Q => ∃ p ys, xs = [.ref p] ∧ ((SqL K H p ys ∧ ∀ l, H l = none → Q (.ref l) (upd H l (.tup ys))) ∨ (SqT K H p ys ∧ Q (.ref p) H))
theorem c_tuple {X : Cx} : CallR X (.type "tuple") (rTpl X.K) := call_tuple_of
theorem d_tuple (h : EvV Z true ta ρ ds) : EvD Z (tCB (rTpl Z.K) (tCons ta tNil)) ρ (.tuple ds) := fun F0 H0 F H σ e w Q q =>
  h F0 H0 F H σ e w _ fun p vs F1 H1 n1 s1 a1 => ⟨p, vs, rfl, Or.inl ⟨s1, fun l hl => q _ _ _ (n1.trans (Nx.both n1.i hl)) (.tup (Or.inl (Or.inl upd_same)) (dpAll_ex (XEx.new (none_back n1.i hl)) _ _ a1))⟩⟩
theorem d_tupleT (h : EvD Z ta ρ (.tuple ds)) : EvD Z (tCB (rTpl Z.K) (tCons ta tNil)) ρ (.tuple ds) := fun F0 H0 F H σ e w Q q =>
  h F0 H0 F H σ e w _ fun v F1 H1 n1 p1 => by
    obtain ⟨p, vs, rfl, s1, a1⟩ := dp_tup p1
    exact ⟨p, vs, rfl, Or.inr ⟨xex_t n1.i s1, q _ F1 H1 n1 (.tup s1 a1)⟩⟩
def rAbs : List V → Hp → VK → Prop := fun xs H Q => ∃ i, xs = [.int i] ∧ Q (.int (if i < 0 then -i else i)) H
theorem c_abs {X : Cx} : CallR X (.builtin "abs") rAbs := call_abs
def rMax2 : List V → Hp → VK → Prop := fun xs H Q => ∃ i j, xs = [.int i, .int j] ∧ Q (.int (if j > i then j else i)) H
theorem c_max2 {X : Cx} (hc : X.calm = true) : CallR X (.builtin "max") rMax2 := call_max2 hc
def rMin2 : List V → Hp → VK → Prop := fun xs H Q => ∃ i j, xs = [.int i, .int j] ∧ Q (.int (if j < i then j else i)) H
theorem c_min2 {X : Cx} (hc : X.calm = true) : CallR X (.builtin "min") rMin2 := call_min2 hc
def rInt1 : List V → Hp → VK → Prop := fun xs H Q => (∃ i, xs = [.int i] ∧ Q (.int i) H) ∨ ∃ k, xs = [.bl k] ∧ Q (.int (if k then 1 else 0)) H
theorem c_int {X : Cx} : CallR X (.type "int") rInt1 := call_int1
/-- a call that gives a flat value, by data -/
theorem d_cb {f : List V → Hp → VK → Prop} {tr : TA} {v : V} (h : EvA Z tr ρ ds) (hv : flat d = some v) (hf : ∀ F H vs Q, XEx F H → DpAll Z.K F vs ds → Q v H → f vs H Q) : EvD Z (tCB f tr) ρ d := fun F0 H0 F H σ e w Q q =>
  h F0 H0 F H σ e w _ fun vs F1 H1 n1 a1 => hf F1 H1 vs Q n1.i a1 (q v F1 H1 n1 (by
    cases d <;> (unfold flat at hv; first | (cases hv; constructor) | cases hv)))
theorem all1 {K : PySem.W.Frag} {F : Hp} {vs : List V} {v : V} (a : DpAll K F vs [x]) (f : flat x = some v) : vs = [v] := by
  cases a with
  | cons a b => cases b; rw [dp_flat a f]
theorem all2 {K : PySem.W.Frag} {F : Hp} {vs : List V} {v w : V} (a : DpAll K F vs [x, y]) (f : flat x = some v) (g : flat y = some w) : vs = [v, w] := by
  cases a with
  | cons a b => cases b with
    | cons b c => cases c; rw [dp_flat a f, dp_flat b g]
theorem d_abs {i : Int} (h : EvD Z ta ρ (.int i)) : EvD Z (tCB rAbs (tCons ta tNil)) ρ (.int (if i < 0 then -i else i)) :=
  d_cb (ea_cons h ea_nil) rfl fun F H vs Q _ a q => ⟨i, all1 a rfl, q⟩
theorem d_max2 {i j : Int} (h : EvD Z ta ρ (.int i)) (g : EvD Z tb ρ (.int j)) : EvD Z (tCB rMax2 (tCons ta (tCons tb tNil))) ρ (.int (max i j)) :=
  d_cb (ea_cons h (ea_cons g ea_nil)) rfl fun F H vs Q _ a q => ⟨i, j, all2 a rfl rfl, by
    rw [show (if j > i then j else i) = max i j by omega]; exact q⟩
theorem d_min2 {i j : Int} (h : EvD Z ta ρ (.int i)) (g : EvD Z tb ρ (.int j)) : EvD Z (tCB rMin2 (tCons ta (tCons tb tNil))) ρ (.int (min i j)) :=
  d_cb (ea_cons h (ea_cons g ea_nil)) rfl fun F H vs Q _ a q => ⟨i, j, all2 a rfl rfl, by
    rw [show (if j < i then j else i) = min i j by omega]; exact q⟩
theorem d_intI {i : Int} (h : EvD Z ta ρ (.int i)) : EvD Z (tCB rInt1 (tCons ta tNil)) ρ (.int i) :=
  d_cb (ea_cons h ea_nil) rfl fun F H vs Q _ a q => Or.inl ⟨i, all1 a rfl, q⟩
theorem d_intB {b : Bool} (h : EvD Z ta ρ (.bool b)) : EvD Z (tCB rInt1 (tCons ta tNil)) ρ (.int (if b then 1 else 0)) :=
  d_cb (ea_cons h ea_nil) rfl fun F H vs Q _ a q => Or.inr ⟨b, all1 a rfl, q⟩
theorem d_gcd {i j : Int} (h : EvD Z ta ρ (.int i)) (g : EvD Z tb ρ (.int j)) : EvD Z (tCB rGcd (tCons ta (tCons tb tNil))) ρ (.int ((Nat.gcd i.natAbs j.natAbs : Nat) : Int)) :=
  d_cb (ea_cons h (ea_cons g ea_nil)) rfl fun F H vs Q _ a q => ⟨i, j, all2 a rfl rfl, q⟩
/-- isinstance -/
def kindD : Dt → String
  | .none => "NoneType"
  | .bool _ => "bool"
  | .int _ => "int"
  | .str _ => "str"
  | .list _ => "list"
  | .tuple _ => "tuple"
  | .dict _ => "dict"
theorem ty_of {K : PySem.W.Frag} {H : Hp} {v : V} (h : Dp K H v d) : TyX K H v (.type (kindD d)) := by
  cases h with
  | non => exact .base .non
  | bl b => exact .base (.bl b)
  | int i => exact .base (.int i)
  | str s => exact .base (.str s)
  | lst s a =>
    rcases s with (g | ⟨o, g⟩) | ⟨o, its, n, g, c, _⟩
    · exact .base (.lst g)
    · exact .base (.frz g)
    · exact .kList g c
  | tup s a =>
    rcases s with (g | ⟨o, g⟩) | ⟨o, its, n, g, c, _⟩
    · exact .base (.tup g)
    · exact .fTuple g
    · exact .kTuple g c
theorem d_isi {T : String} {b : Bool} (h : EvD Z ta ρ d) (hb : kitB (kindD d) T = some b) : EvD Z (tCB (rIsi Z.K) (tCons ta (tCons (tC (.ty T)) tNil))) ρ (.bool b) := fun F0 H0 F H σ e w Q q =>
  h F0 H0 F H σ e w _ fun v F1 H1 n1 p1 => ⟨v, .ty T, _, _, b, rfl, .ty T, ty_of (dp_ex n1.i _ _ p1), kit_ty hb, q _ F1 H1 n1 (.bl b)⟩
theorem d_isiV {k : Bool} {T : String} {b : Bool} (h : EvV Z k ta ρ ds) (hb : kitB (if k then "list" else "tuple") T = some b) : EvD Z (tCB (rIsi Z.K) (tCons ta (tCons (tC (.ty T)) tNil))) ρ (.bool b) := fun F0 H0 F H σ e w Q q =>
  h F0 H0 F H σ e w _ fun p vs F1 H1 n1 s1 a1 => ⟨.ref p, .ty T, _, _, b, rfl, .ty T, ty_of (sqx_dp s1 (dpAll_ex n1.i _ _ a1)), kit_ty (by cases k <;> exact hb), q _ F1 H1 n1 (.bl b)⟩

/-! ### tests -/
def tTru (K : PySem.W.Frag) (ta : TE) : TT := fun σ H Q => ta σ H fun x H' => ∃ k, TruV K x H' k ∧ Q k H'
theorem pt_tru {X : Cx} {a : Expr} (ha : PE X a ta) (he : ∀ whole, isTrue a X.env whole = (do let v ← whole; standAt a.pos; holding [v] (truthy v)) := by intro _; rfl) : PT X a (tTru X.K ta) := pt_truth ha he
theorem pt_truK {X : Cx} {K : PySem.W.Frag} (hK : X.K = K) {a : Expr} (ha : PE X a ta) (he : ∀ whole, isTrue a X.env whole = (do let v ← whole; standAt a.pos; holding [v] (truthy v)) := by intro _; rfl) : PT X a (tTru K ta) := by
  subst hK
  exact pt_tru ha he
theorem all_empty {K : PySem.W.Frag} {F : Hp} {vs : List V} {ds : List Dt} (a : DpAll K F vs ds) : vs.isEmpty = ds.isEmpty := by cases a <;> rfl
/-- a datum's truth -/
inductive TruD : Dt → Bool → Prop where
  | non : TruD .none false
  | bl {b : Bool} : TruD (.bool b) b
  | int {i : Int} : TruD (.int i) (i != 0)
  | lst {ds : List Dt} : TruD (.list ds) (!ds.isEmpty)
  | tup {ds : List Dt} : TruD (.tuple ds) (!ds.isEmpty)
theorem t_tru {b : Bool} (h : EvD Z ta ρ d) (k : TruD d b) : EvT Z (tTru Z.K ta) ρ b := fun F0 H0 F H σ e w Q q =>
  h F0 H0 F H σ e w _ fun v F1 H1 n1 p1 => by
    cases k with
    | non => rw [dp_non p1]; exact ⟨_, rfl, q F1 H1 n1⟩
    | bl => rw [dp_bl p1]; exact ⟨_, rfl, q F1 H1 n1⟩
    | int => rw [dp_int p1]; exact ⟨_, rfl, q F1 H1 n1⟩
    | lst =>
      obtain ⟨p, vs, rfl, s, a⟩ := dp_list p1
      exact ⟨_, Or.inl ⟨vs, xex_l n1.i s, rfl⟩, by rw [all_empty a]; exact q F1 H1 n1⟩
    | tup =>
      obtain ⟨p, vs, rfl, s, a⟩ := dp_tup p1
      exact ⟨_, Or.inr (Or.inl ⟨vs, xex_t n1.i s, rfl⟩), by rw [all_empty a]; exact q F1 H1 n1⟩
theorem t_bl {b : Bool} (h : EvD Z ta ρ (.bool b)) : EvT Z (tTru Z.K ta) ρ b := fun F0 H0 F H σ e w Q q =>
  h F0 H0 F H σ e w _ fun v F1 H1 n1 p1 => by rw [dp_bl p1]; exact ⟨b, rfl, q F1 H1 n1⟩
theorem t_int {i : Int} (h : EvD Z ta ρ (.int i)) : EvT Z (tTru Z.K ta) ρ (i != 0) := fun F0 H0 F H σ e w Q q =>
  h F0 H0 F H σ e w _ fun v F1 H1 n1 p1 => by rw [dp_int p1]; exact ⟨_, rfl, q F1 H1 n1⟩
theorem t_seq {k : Bool} (h : EvV Z k ta ρ ds) : EvT Z (tTru Z.K ta) ρ (!ds.isEmpty) := fun F0 H0 F H σ e w Q q =>
  h F0 H0 F H σ e w _ fun p vs F1 H1 n1 s1 a1 => by
    have ee : vs.isEmpty = ds.isEmpty := by cases a1 <;> rfl
    rcases sqx_or s1 with s | s
    · exact ⟨!ds.isEmpty, Or.inl ⟨vs, s, by rw [ee]⟩, q F1 H1 n1⟩
    · exact ⟨!ds.isEmpty, Or.inr (Or.inl ⟨vs, s, by rw [ee]⟩), q F1 H1 n1⟩
theorem t_B {b : Bool} (h : EvD Z ta ρ (.bool b)) : EvT Z (tB ta) ρ b := fun F0 H0 F H σ e w Q q =>
  h F0 H0 F H σ e w _ fun v F1 H1 n1 p1 => ⟨b, dp_bl p1, q F1 H1 n1⟩
theorem t_T {b : Bool} (h : EvD Z ta ρ (.bool b)) : EvT Z (tTest ta) ρ b := fun F0 H0 F H σ e w Q q =>
  h F0 H0 F H σ e w _ fun v F1 H1 n1 p1 => ⟨b, dp_bl p1, q F1 H1 n1⟩
theorem t_not {a : Bool} (h : EvT Z t ρ a) : EvT Z (tNot t) ρ (!a) := fun F0 H0 F H σ e w Q q => h F0 H0 F H σ e w _ fun F1 H1 n1 => q F1 H1 n1
theorem t_and {a b : Bool} (h : EvT Z t ρ a) (g : a = true → EvT Z u ρ b) : EvT Z (tAnd t u) ρ (a && b) := fun F0 H0 F H σ e w Q q => h F0 H0 F H σ e w _ fun F1 H1 n1 => by
  cases a with
  | true => exact iteT (g rfl F0 H0 F1 H1 σ (e.step n1) w _ fun F2 H2 n2 => q F2 H2 (n1.trans n2))
  | false => exact iteF (q F1 H1 n1)
theorem t_or {a b : Bool} (h : EvT Z t ρ a) (g : a = false → EvT Z u ρ b) : EvT Z (tOr t u) ρ (a || b) := fun F0 H0 F H σ e w Q q => h F0 H0 F H σ e w _ fun F1 H1 n1 => by
  cases a with
  | true => exact iteT (q F1 H1 n1)
  | false => exact iteF (g rfl F0 H0 F1 H1 σ (e.step n1) w _ fun F2 H2 n2 => q F2 H2 (n1.trans n2))
theorem d_not {a : Bool} (h : EvD Z ta ρ (.bool a)) : EvD Z (tNotV ta) ρ (.bool (!a)) := fun F0 H0 F H σ e w Q q =>
  h F0 H0 F H σ e w _ fun v F1 H1 n1 p1 => ⟨a, dp_bl p1, q _ F1 H1 n1 (.bl _)⟩
theorem d_and {a b : Bool} (h : EvD Z ta ρ (.bool a)) (g : a = true → EvD Z tb ρ (.bool b)) : EvD Z (tAndV ta tb) ρ (.bool (a && b)) := fun F0 H0 F H σ e w Q q =>
  h F0 H0 F H σ e w _ fun v F1 H1 n1 p1 => ⟨a, dp_bl p1, by
    cases a with
    | true => exact iteT (g rfl F0 H0 F1 H1 σ (e.step n1) w _ fun v F2 H2 n2 p2 => q v F2 H2 (n1.trans n2) p2)
    | false => exact iteF (q _ F1 H1 n1 (.bl _))⟩
theorem d_or {a b : Bool} (h : EvD Z ta ρ (.bool a)) (g : a = false → EvD Z tb ρ (.bool b)) : EvD Z (tOrV ta tb) ρ (.bool (a || b)) := fun F0 H0 F H σ e w Q q =>
  h F0 H0 F H σ e w _ fun v F1 H1 n1 p1 => ⟨a, dp_bl p1, by
    cases a with
    | true => exact iteT (q _ F1 H1 n1 (.bl _))
    | false => exact iteF (g rfl F0 H0 F1 H1 σ (e.step n1) w _ fun v F2 H2 n2 p2 => q v F2 H2 (n1.trans n2) p2)⟩
theorem d_if {b : Bool} (h : EvT Z t ρ b) (h1 : b = true → EvD Z ta ρ x) (h2 : b = false → EvD Z tb ρ y) : EvD Z (tIf t ta tb) ρ (if b = true then x else y) := fun F0 H0 F H σ e w Q q =>
  h F0 H0 F H σ e w _ fun F1 H1 n1 => by
    cases b with
    | true => exact iteT (h1 rfl F0 H0 F1 H1 σ (e.step n1) w _ fun v F2 H2 n2 p2 => q v F2 H2 (n1.trans n2) p2)
    | false => exact iteF (h2 rfl F0 H0 F1 H1 σ (e.step n1) w _ fun v F2 H2 n2 p2 => q v F2 H2 (n1.trans n2) p2)
theorem d_chain {r r' : R2} {a b : Bool} (ha : EvD Z ta ρ x) (hb : EvD Z tb ρ y) (hr : RD Z r x y (.bool a)) (hc : a = true → EvD Z tc ρ z) (hr' : a = true → RD Z r' y z (.bool b)) : EvD Z (tChain r r' ta tb tc) ρ (.bool (a && b)) := fun F0 H0 F H σ e w Q q =>
  ha F0 H0 F H σ e w _ fun v F1 H1 n1 p1 => hb F0 H0 F1 H1 σ (e.step n1) w _ fun u F2 H2 n2 p2 => hr F2 H2 v u n2.i (dp_ex n2.f _ _ p1) p2 _ fun k F3 H3 n3 p3 => by
    have hk := dp_bl p3
    subst hk
    refine ⟨a, rfl, ?_⟩
    cases a with
    | true => exact iteT (hc rfl F0 H0 F3 H3 σ (e.step ((n1.trans n2).trans n3)) w _ fun c F4 H4 n4 p4 => hr' rfl F4 H4 u c n4.i (dp_ex (n3.trans n4).f _ _ p2) p4 Q fun k2 F5 H5 n5 p5 => q k2 F5 H5 ((((n1.trans n2).trans n3).trans n4).trans n5) p5)
    | false => exact iteF (q _ F3 H3 ((n1.trans n2).trans n3) (.bl _))

/-! ### the calls of own defs -/
/-- a promise: from the data of the arguments to the datum that comes -/
def spD {α : Type} (K : PySem.W.Frag) (args : α → List Dt) (ok : α → Prop) (f : α → Dt) : Sp := fun vs H Q _ => ∃ F a, XEx F H ∧ DpAll K F vs (args a) ∧ ok a ∧ Tb H ∧ ∀ v F' H', Nx F H F' H' → Dp K F' v (f a) → Q v H'
/-- .. a new list -/
def spL {α : Type} (K : PySem.W.Frag) (args : α → List Dt) (ok : α → Prop) (f : α → List Dt) : Sp := fun vs H Q _ => ∃ F a, XEx F H ∧ DpAll K F vs (args a) ∧ ok a ∧ Tb H ∧ ∀ p vs F' H', Nx F H F' H' → H p = none → F' p = none → H' p = some (.lst vs) → DpAll K F' vs (f a) → Q (.ref p) H'
theorem d_call {α : Type} {args : α → List Dt} {ok : α → Prop} {f : α → Dt} {E : XK} {tr : TA} (a : α) (h : EvA Z tr ρ (args a)) (ho : ok a) : EvD Z (tCall (spD Z.K args ok f) [] E tr) ρ (f a) := fun F0 H0 F H σ e w Q q =>
  h F0 H0 F H σ e w _ fun vs F1 H1 n1 a1 => ⟨F1, a, n1.i, by rw [List.append_nil]; exact a1, ho, wish_tb w e n1, fun v F2 H2 n2 p2 => q v F2 H2 (n1.trans n2) p2⟩
theorem l_call {α : Type} {args : α → List Dt} {ok : α → Prop} {f : α → List Dt} {E : XK} {tr : TA} (a : α) (h : EvA Z tr ρ (args a)) (ho : ok a) : EvL Z (tCall (spL Z.K args ok f) [] E tr) ρ (f a) := fun F0 H0 F H σ e w Q q =>
  h F0 H0 F H σ e w _ fun vs F1 H1 n1 a1 => ⟨F1, a, n1.i, by rw [List.append_nil]; exact a1, ho, wish_tb w e n1, fun p us F2 H2 n2 hn hF hp a2 => q p us F2 H2 (n1.trans n2) (none_back n1.h hn) hF hp a2⟩
/-- one argument an own list that is shut for the call alone: what comes is flat -/
theorem d_callW {α : Type} {args : α → List Dt} {ok : α → Prop} {f : α → Dt} {E : XK} {v : V} (a : α) (h : EvW Z ta ρ ds) (he : args a = [.list ds]) (ho : ok a) (hv : flat (f a) = some v) : EvD Z (tCall (spD Z.K args ok f) [] E (tCons ta tNil)) ρ (f a) := fun F0 H0 F H σ e w Q q =>
  h F0 H0 F H σ e w _ fun p vs F1 H1 n1 hp a1 => by
    by_cases hF : ∃ o, F1 p = some o
    · obtain ⟨o, ho'⟩ := hF
      have hnt : ∀ ps, o ≠ .tbl ps := fun ps z => by
        rw [z] at ho'
        obtain ⟨ps', h'⟩ := n1.i.b p ps ho'
        rw [hp] at h'
        cases h'
      have hpo := n1.i.k p o ho' hnt
      rw [hp] at hpo
      rw [← Option.some.inj hpo] at ho'
      refine ⟨F1, a, n1.i, ?_, ho, wish_tb w e n1, fun u F2 H2 n2 p2 => q u F2 H2 (n1.trans n2) p2⟩
      rw [he]
      exact .cons (.lst (Or.inl (Or.inl ho')) a1) .nil
    · have hF : F1 p = none := by
        cases hq : F1 p with
        | none => rfl
        | some o => exact absurd ⟨o, hq⟩ hF
      refine ⟨upd F1 p (.lst vs), a, ex_shut n1.i hp, ?_, ho, wish_tb w e n1, fun u F2 H2 n2 p2 => ?_⟩
      · rw [he]
        exact .cons (.lst (Or.inl (Or.inl upd_same)) (dpAll_ex (XEx.new hF) _ _ a1)) .nil
      · have hu := dp_flat p2 hv
        subst hu
        refine q _ F1 H2 ⟨n1.f, n1.h.trans n2.h, n1.i.trans n2.h, n1.o⟩ ?_
        generalize f a = z at hv
        cases z <;> (unfold flat at hv; first | (cases hv; constructor) | cases hv)
end
end DL

set_option Elab.async false
set_option linter.all false
set_option maxRecDepth 100000
set_option maxHeartbeats 2000000
/-! DT: statements and loops over data; a def's promise. -/
namespace DL
open PySem PySem.Spec PyProof.Rows L2
variable [Nm]
structure Post where
  nx : List Sl → Prop
  rt : Dt → Prop
  rl : List Dt → Prop
  bk : List Sl → Prop
  ct : List Sl → Prop
structure Fits (Z : Zx) (F0 H0 F : Hp) (D : Ends) (P : Post) : Prop where
  nx : ∀ F' H' σ ρ, XEx F F' → P.nx ρ → Env Z.K F0 H0 F' H' σ ρ → D.nx σ H'
  rt : ∀ d v F' H', P.rt d → Nx F0 H0 F' H' → Dp Z.K F' v d → D.rt v H'
  rl : ∀ ds p vs F' H', P.rl ds → Nx F0 H0 F' H' → H0 p = none → F' p = none → H' p = some (.lst vs) → DpAll Z.K F' vs ds → D.rt (.ref p) H'
  bk : ∀ F' H' σ ρ, XEx F F' → P.bk ρ → Env Z.K F0 H0 F' H' σ ρ → D.bk σ H'
  ct : ∀ F' H' σ ρ, XEx F F' → P.ct ρ → Env Z.K F0 H0 F' H' σ ρ → D.ct σ H'
def EvS (Z : Zx) (t : TS) (ρ : List Sl) (P : Post) : Prop := ∀ F0 H0 F H σ D, Env Z.K F0 H0 F H σ ρ → Wish Z F0 H0 → Fits Z F0 H0 F D P → t D σ H
theorem Fits.step {Z : Zx} {F0 H0 F F1 : Hp} {D : Ends} {P : Post} (f : Fits Z F0 H0 F D P) (e : XEx F F1) : Fits Z F0 H0 F1 D P :=
  ⟨fun F' H' σ ρ x => f.nx F' H' σ ρ (e.trans x), f.rt, f.rl, fun F' H' σ ρ x => f.bk F' H' σ ρ (e.trans x), fun F' H' σ ρ x => f.ct F' H' σ ρ (e.trans x)⟩
section
variable {Z : Zx} {ρ ρ1 ρ2 : List Sl} {te ta tb tc : TE} {t u : TT} {r : R2} {x y z d : Dt} {ds es : List Dt} {P : Post} {ts tu tw : TS}
theorem s_next (h : P.nx ρ) : EvS Z tNext ρ P := fun F0 H0 F H σ D e w f => f.nx F H σ ρ (.refl _) h e
theorem s_break (h : P.bk ρ) : EvS Z tBreak ρ P := fun F0 H0 F H σ D e w f => f.bk F H σ ρ (.refl _) h e
theorem s_cont (h : P.ct ρ) : EvS Z tCont ρ P := fun F0 H0 F H σ D e w f => f.ct F H σ ρ (.refl _) h e
/-- a statement, then the rest: what stands between is said once -/
theorem s_cut (M : List Sl → Prop) (h1 : EvS Z ts ρ { P with nx := M }) (h2 : ∀ ρ1, M ρ1 → EvS Z tu ρ1 P) : EvS Z (tSeq ts tu) ρ P := fun F0 H0 F H σ D e w f =>
  h1 F0 H0 F H σ _ e w ⟨fun F' H' σ' ρ' x m e' => h2 ρ' m F0 H0 F' H' σ' D e' w (f.step x), f.rt, f.rl, f.bk, f.ct⟩
/-- one way behind it -/
theorem s_seq (h1 : EvS Z ts ρ { P with nx := fun ρ' => ρ' = ρ1 }) (h2 : EvS Z tu ρ1 P) : EvS Z (tSeq ts tu) ρ P := s_cut _ h1 fun _ e => by
  subst e
  exact h2
theorem s_imp {P' : Post} (h : EvS Z ts ρ P') (i1 : ∀ ρ, P'.nx ρ → P.nx ρ) (i2 : ∀ d, P'.rt d → P.rt d) (i3 : ∀ d, P'.rl d → P.rl d) (i4 : ∀ ρ, P'.bk ρ → P.bk ρ) (i5 : ∀ ρ, P'.ct ρ → P.ct ρ) : EvS Z ts ρ P := fun F0 H0 F H σ D e w f =>
  h F0 H0 F H σ D e w ⟨fun F' H' σ' ρ' x m => f.nx F' H' σ' ρ' x (i1 _ m), fun d v F' H' m => f.rt d v F' H' (i2 _ m), fun d v vs F' H' m => f.rl d v vs F' H' (i3 _ m), fun F' H' σ' ρ' x m => f.bk F' H' σ' ρ' x (i4 _ m), fun F' H' σ' ρ' x m => f.ct F' H' σ' ρ' x (i5 _ m)⟩
/-- what is known may be less -/
theorem s_weak (w : Weak ρ ρ1) (h : EvS Z ts ρ1 P) : EvS Z ts ρ P := fun F0 H0 F H σ D e w' f => h F0 H0 F H σ D (e.weak w) w' f
theorem s_shut {i : Nat} (hi : ρ[i]? = some (.own ds)) (h : EvS Z ts (ρ.set i (.dat (.list ds))) P) : EvS Z ts ρ P := fun F0 H0 F H σ D e w f => by
  obtain ⟨p, vs, hp, h0, hF, hH, hA⟩ := e.own hi
  have n2 : XEx F (upd F p (.lst vs)) := XEx.new hF
  obtain ⟨F', e'⟩ : ∃ F', F' = upd F p (.lst vs) ∧ Env Z.K F0 H0 F' H σ (ρ.set i (.dat (.list ds))) := by
    refine ⟨_, rfl, e.g.shut h0 hF hH, by rw [List.length_set]; exact e.len, fun j x hx => ?_, fun a b ds es q ha hb sa sb => ?_, e.ap2.put fun _ z => nomatch z⟩
    · rcases get_set hx with ⟨rfl, rfl, hl⟩ | ⟨ne, hx⟩
      · exact ⟨_, hp, .ref p, rfl, .lst (Or.inl (Or.inl upd_same)) (dpAll_ex n2 _ _ hA)⟩
      · obtain ⟨o, h1, h2⟩ := e.sl j x hx
        refine ⟨o, h1, ?_⟩
        cases x with
        | any => exact True.intro
        | ref a => exact h2
        | dct es =>
          obtain ⟨r, ws, e, gF, q⟩ := h2
          exact ⟨r, ws, e, n2.k r _ gF (fun _ z => nomatch z), q.ex n2⟩
        | odc es =>
          obtain ⟨r, us, e2, g0, gF, gH, gA⟩ := h2
          exact ⟨r, us, e2, g0, by rw [upd_ne (fun z => by rw [z, hH] at gH; cases gH)]; exact gF, gH, gA.ex n2⟩
        | dat d =>
          obtain ⟨v, e, q⟩ := h2
          exact ⟨v, e, dp_ex n2 _ _ q⟩
        | own fs =>
          obtain ⟨r, us, e2, g0, gF, gH, gA⟩ := h2
          subst e2
          refine ⟨r, us, rfl, g0, ?_, gH, dpAll_ex n2 _ _ gA⟩
          rw [upd_ne (fun z => ne (e.ap j i _ _ p hx hi (by rw [h1, z]) hp))]
          exact gF
    · rcases get_set ha with ⟨_, z, _⟩ | ⟨na, ha⟩
      · cases z
      · rcases get_set hb with ⟨_, z, _⟩ | ⟨nb, hb⟩
        · cases z
        · exact e.ap a b ds es q ha hb sa sb
  obtain ⟨rfl, e'⟩ := e'
  exact h F0 H0 _ H σ D e' w (f.step n2)
/-! ### targets -/
def EvG (Z : Zx) (g : TG) (d : Dt) (ρ ρ' : List Sl) : Prop := ∀ F0 H0 F H σ v, Env Z.K F0 H0 F H σ ρ → Dp Z.K F v d → ∀ Q : L2.St → Hp → Prop, (∀ σ', Env Z.K F0 H0 F H σ' ρ' → Q σ' H) → g v σ H Q
def EvGs (Z : Zx) (g : TGs) (ds : List Dt) (ρ ρ' : List Sl) : Prop := ∀ F0 H0 F H σ vs, Env Z.K F0 H0 F H σ ρ → DpAll Z.K F vs ds → ∀ Q : L2.St → Hp → Prop, (∀ σ', Env Z.K F0 H0 F H σ' ρ' → Q σ' H) → g vs σ H Q
theorem g_name {i : Nat} : EvG Z (gName i) d ρ (ρ.set i (.dat d)) := fun F0 H0 F H σ v e p Q q => q _ (e.set p)
theorem gs_nil : EvGs Z gNil [] ρ ρ := fun F0 H0 F H σ vs e p Q q => by cases p; exact ⟨rfl, q σ e⟩
theorem gs_cons {g : TG} {gs : TGs} (h : EvG Z g d ρ ρ1) (hs : EvGs Z gs ds ρ1 ρ2) : EvGs Z (gCons g gs) (d :: ds) ρ ρ2 := fun F0 H0 F H σ vs e p Q q => by
  cases p with
  | cons a b => exact ⟨_, _, rfl, h F0 H0 F H σ _ e a _ fun σ' e' => hs F0 H0 F H σ' _ e' b Q q⟩
theorem g_tup {n : Nat} {gs : TGs} (hl : ds.length = n) (h : EvGs Z gs ds ρ ρ1) : EvG Z (gTup Z.K n gs) (.tuple ds) ρ ρ1 := fun F0 H0 F H σ v e p Q q => by
  obtain ⟨a, vs, rfl, s, aa⟩ := dp_tup p
  exact ⟨a, vs, rfl, xex_t e.g.i s, (dpAll_len aa).trans hl, h F0 H0 F H σ vs e aa Q q⟩
/-! ### assignments, return -/
theorem s_asg {g : TG} (h : EvD Z te ρ d) (hg : EvG Z g d ρ ρ1) (k : P.nx ρ1) : EvS Z (tAsg te g) ρ P := fun F0 H0 F H σ D e w f =>
  h F0 H0 F H σ e w _ fun v F1 H1 n1 p1 => hg F0 H0 F1 H1 σ v (e.step n1) p1 _ fun σ' e' => f.nx F1 H1 σ' ρ1 n1.f k e'
theorem s_asgL {i : Nat} (h : EvL Z te ρ ds) (k : P.nx (ρ.set i (.own ds))) : EvS Z (tAsg te (gName i)) ρ P := fun F0 H0 F H σ D e w f =>
  h F0 H0 F H σ e w _ fun p vs F1 H1 n1 hn hF hp a1 => f.nx F1 H1 _ _ n1.f k (e.setOwn n1 hn hF hp a1)
theorem s_par {i j : Nat} {tr : TA} (h : EvA Z tr ρ [x, y]) (k : P.nx ((ρ.set i (.dat x)).set j (.dat y))) : EvS Z (tPar i j tr) ρ P := fun F0 H0 F H σ D e w f =>
  h F0 H0 F H σ e w _ fun vs F1 H1 n1 a1 => by
    cases a1 with
    | cons a b => cases b with
      | cons b c =>
        cases c
        exact ⟨_, _, rfl, f.nx F1 H1 _ _ n1.f k (((e.step n1).set a).set b)⟩
theorem s_aug {i : Nat} {g : Int → Int → Int} {a b : Int} (hx : ρ[i]? = some (.dat (.int a))) (h : EvD Z te ρ (.int b)) (k : P.nx (ρ.set i (.dat (.int (g a b))))) : EvS Z (tAug i te (ipI g)) ρ P := fun F0 H0 F H σ D e w f => by
  obtain ⟨v, h1, h2⟩ := e.dat hx
  exact ⟨v, h1, h F0 H0 F H σ e w _ fun u F1 H1 n1 p1 => ⟨a, b, dp_int h2, dp_int p1, f.nx F1 H1 _ _ n1.f k ((e.step n1).set (.int _))⟩⟩
theorem s_ret (h : EvD Z te ρ d) (k : P.rt d) : EvS Z (tRet te) ρ P := fun F0 H0 F H σ D e w f =>
  h F0 H0 F H σ e w _ fun v F1 H1 n1 p1 => f.rt d v F1 H1 k (e.g.trans n1) p1
theorem s_retL (h : EvL Z te ρ ds) (k : P.rl ds) : EvS Z (tRet te) ρ P := fun F0 H0 F H σ D e w f =>
  h F0 H0 F H σ e w _ fun p vs F1 H1 n1 hn hF hp a1 => f.rl ds p vs F1 H1 k (e.g.trans n1) (none_back e.g.h hn) hF hp a1
/-- return xs, xs an own list -/
theorem s_retO {i : Nat} (h : ρ[i]? = some (.own ds)) (k : P.rl ds) : EvS Z (tRet (tVar i)) ρ P := fun F0 H0 F H σ D e w f => by
  obtain ⟨p, vs, h1, h0, hF, hp, a⟩ := e.own h
  exact ⟨.ref p, h1, f.rl ds p vs F H k e.g h0 hF hp a⟩
theorem s_retN (k : P.rt .none) : EvS Z tRetN ρ P := fun F0 H0 F H σ D e w f => f.rt .none .non F H k e.g .non
theorem s_drop (h : EvD Z te ρ d) (k : P.nx ρ) : EvS Z (tDrop te) ρ P := fun F0 H0 F H σ D e w f =>
  h F0 H0 F H σ e w _ fun v F1 H1 n1 p1 => f.nx F1 H1 σ ρ n1.f k (e.step n1)
theorem s_raise (h : EvX Z te ρ) : EvS Z (tDrop te) ρ P := fun F0 H0 F H σ D e w f => h F0 H0 F H σ e w _
theorem s_retX (h : EvX Z te ρ) : EvS Z (tRet te) ρ P := fun F0 H0 F H σ D e w f => h F0 H0 F H σ e w _
theorem s_asgX {g : TG} (h : EvX Z te ρ) : EvS Z (tAsg te g) ρ P := fun F0 H0 F H σ D e w f => h F0 H0 F H σ e w _
/-- xs.append(e), xs an own list -/
theorem s_app {i : Nat} (hi : ρ[i]? = some (.own ds)) (h : EvD Z te ρ d) (hz : ds.length < 100000) (k : P.nx (ρ.set i (.own (ds ++ [d])))) : EvS Z (tDrop (tBM Z.K "list" rAppend (tVar i) (tCons te tNil))) ρ P := fun F0 H0 F H σ D e w f => by
  obtain ⟨p, vs, h1, h0, hF, hp, a⟩ := e.own hi
  refine ⟨.ref p, h1, Or.inl ⟨rfl, vs, Or.inl (Or.inl hp)⟩, h F0 H0 F H σ e w _ fun v F1 H1 n1 p1 => ?_⟩
  have e1 := e.step n1
  exact ⟨p, vs, v, rfl, rfl, n1.h.k p _ hp (fun _ z => nomatch z), Evl.sz_lt (by rw [dpAll_len a]; exact hz), f.nx F1 _ σ _ n1.f k (e1.mut hi h1 (dpAll_app (dpAll_ex n1.f _ _ a) (.cons p1 .nil)))⟩
/-- xs[j] = e, xs an own list -/
theorem s_setI {i : Nat} {j : Int} (hi : ρ[i]? = some (.own ds)) (h : EvD Z te ρ d) (hj : EvD Z tb ρ (.int j)) (h0 : 0 ≤ j) (h1 : j.toNat < ds.length) (k : P.nx (ρ.set i (.own (ds.set j.toNat d)))) : EvS Z (tAsg te (gSub (tVar i) tb rSetL)) ρ P := fun F0 H0 F H σ D e w f =>
  h F0 H0 F H σ e w _ fun v F1 H1 n1 p1 => by
    have e1 := e.step n1
    obtain ⟨p, vs, g1, g0, hF, hp, a⟩ := e1.own hi
    refine ⟨.ref p, g1, hj F0 H0 F1 H1 σ e1 w _ fun u F2 H2 n2 p2 => ?_⟩
    exact ⟨p, vs, j, j.toNat, rfl, dp_int p2, n2.h.k p _ hp (fun _ z => nomatch z), by
      have := Evl.ixN_nat (n := vs.length) (j := j.toNat) (by rw [dpAll_len a]; exact h1)
      rw [show ((j.toNat : Nat) : Int) = j by omega] at this
      exact this, f.nx F2 _ σ _ (n1.trans n2).f k ((e1.step n2).mut hi g1 (dpAll_set (dp_ex n2.f _ _ p1) _ (dpAll_ex n2.f _ _ a)))⟩
theorem s_clear {i : Nat} (hi : ρ[i]? = some (.own ds)) (k : P.nx (ρ.set i (.own []))) : EvS Z (tDrop (tBM0 Z.K "list" rClear (tVar i))) ρ P := fun F0 H0 F H σ D e w f => by
  obtain ⟨p, vs, h1, h0, hF, hp, a⟩ := e.own hi
  exact ⟨.ref p, h1, Or.inl ⟨rfl, vs, Or.inl (Or.inl hp)⟩, p, vs, rfl, rfl, hp, f.nx F _ σ _ (.refl _) k (e.mut hi h1 .nil)⟩

/-! ### if -/
theorem s_if {b : Bool} (h : EvT Z t ρ b) (h1 : b = true → EvS Z tu ρ P) (h2 : b = false → EvS Z tw ρ P) : EvS Z (tIfS t tu tw) ρ P := fun F0 H0 F H σ D e w f =>
  h F0 H0 F H σ e w _ fun F1 H1 n1 => by
    cases b with
    | true => exact iteT (h1 rfl F0 H0 F1 H1 σ D (e.step n1) w (f.step n1.f))
    | false => exact iteF (h2 rfl F0 H0 F1 H1 σ D (e.step n1) w (f.step n1.f))
/-- an if, then the rest; the rest is shown on both ways -/
theorem s_if2 {b : Bool} (h : EvT Z t ρ b) (h1 : b = true → EvS Z (tSeq tu ts) ρ P) (h2 : b = false → EvS Z (tSeq tw ts) ρ P) : EvS Z (tSeq (tIfS t tu tw) ts) ρ P := fun F0 H0 F H σ D e w f =>
  h F0 H0 F H σ e w _ fun F1 H1 n1 => by
    cases b with
    | true => exact iteT (h1 rfl F0 H0 F1 H1 σ D (e.step n1) w (f.step n1.f))
    | false => exact iteF (h2 rfl F0 H0 F1 H1 σ D (e.step n1) w (f.step n1.f))
theorem s_nil2 (h : EvS Z ts ρ P) : EvS Z (tSeq tNext ts) ρ P := h
/-- if c: return .. -/
theorem s_ifRet {b : Bool} (h : EvT Z t ρ b) (h1 : b = true → EvS Z tu ρ { P with nx := fun _ => False }) (h2 : b = false → EvS Z ts ρ P) : EvS Z (tSeq (tIfS t tu tNext) ts) ρ P := s_if2 h (fun hb => s_cut (fun _ => False) (h1 hb) fun _ z => z.elim) h2
/-- if c: x = e -/
theorem s_ifAsg {b : Bool} {i : Nat} (h : EvT Z t ρ b) (h1 : b = true → EvD Z te ρ x) (h2 : b = false → ρ.set i (.dat x) = ρ) (k : EvS Z ts (ρ.set i (.dat x)) P) : EvS Z (tSeq (tIfS t (tAsg te (gName i)) tNext) ts) ρ P :=
  s_if2 h (fun hb => s_seq (s_asg (h1 hb) g_name rfl) k) (fun hb => s_nil2 (by
    rw [h2 hb] at k
    exact k))

/-! ### what a loop goes over -/
structure Yields (K : PySem.W.Frag) (J : It) (F : Hp) (ds : List Dt) : Prop where
  go : ∀ F' H' i, XEx F F' → XEx F' H' → i < ds.length → J.go i H'
  stop : ∀ F' H', XEx F F' → XEx F' H' → J.stop ds.length H'
  yld : ∀ F' H' i x H3 d, XEx F F' → XEx F' H' → J.yld i H' x H3 → ds[i]? = some d → ∃ F3, Nx F' H' F3 H3 ∧ Dp K F3 x d
def EvI (Z : Zx) (wi : TI) (ρ : List Sl) (ds : List Dt) : Prop := ∀ F0 H0 F H σ, Env Z.K F0 H0 F H σ ρ → Wish Z F0 H0 → ∀ R : It → Hp → Prop, (∀ J F' H', Nx F H F' H' → Yields Z.K J F' ds → R J H') → wi σ H R
def rangeD (lo : Int) (n : Nat) : List Dt := (List.range n).map fun i => .int (lo + (i : Nat))
theorem rangeD_len {lo : Int} {n : Nat} : (rangeD lo n).length = n := by unfold rangeD; rw [List.length_map, List.length_range]
theorem rangeD_get {lo : Int} {n i : Nat} {d : Dt} (e : (rangeD lo n)[i]? = some d) : i < n ∧ d = .int (lo + (i : Nat)) := by
  unfold rangeD at e
  rw [List.getElem?_map] at e
  by_cases h : i < n
  · rw [List.getElem?_range h] at e
    exact ⟨h, (Option.some.inj e).symm⟩
  · rw [List.getElem?_eq_none (by rw [List.length_range]; omega)] at e
    cases e
theorem yields_range {K : PySem.W.Frag} {F : Hp} {lo : Int} {n : Nat} : Yields K (Itr lo n) F (rangeD lo n) where
  go := fun F' H' i _ _ h => by rw [rangeD_len] at h; exact h
  stop := fun F' H' _ _ => by rw [rangeD_len]; exact Nat.le_refl _
  yld := fun F' H' i x H3 d _ e y hd => by
    obtain ⟨e1, e2⟩ := y
    subst e1 e2
    rw [(rangeD_get hd).2]
    exact ⟨F', .refl e, .int _⟩
theorem i_rng1 {tr : TA} {n : Int} (h : EvA Z tr ρ [.int n]) (hn : n ≤ 100000 ∧ -100000 ≤ n) : EvI Z (iRng1 tr) ρ (rangeD 0 n.toNat) := fun F0 H0 F H σ e w R q =>
  h F0 H0 F H σ e w _ fun vs F1 H1 n1 a1 => ⟨n, all1 a1 rfl, by omega, by omega, q _ F1 H1 n1 yields_range⟩
theorem i_rng2 {tr : TA} {m n : Int} (h : EvA Z tr ρ [.int m, .int n]) (hn : n ≤ 100000 ∧ -100000 ≤ n) (hm : m ≤ 100000 ∧ -100000 ≤ m) : EvI Z (iRng2 tr) ρ (rangeD m (n - m).toNat) := fun F0 H0 F H σ e w R q =>
  h F0 H0 F H σ e w _ fun vs F1 H1 n1 a1 => ⟨m, n, all2 a1 rfl rfl, by omega, q _ F1 H1 n1 yields_range⟩
theorem sql_one {K : PySem.W.Frag} {H : Hp} {p : Addr} {xs : List V} (h : SqL K H p xs) {F' H' : Hp} (e : XEx H H') : SqL K H' p xs := xex_l e h
theorem yields_list {K : PySem.W.Frag} {F : Hp} {p : Addr} {vs : List V} (s : SqL K F p vs) (a : DpAll K F vs ds) : Yields K (Itl K p) F ds where
  go := fun F' H' i e1 e2 h => by
    have hl := dpAll_len a
    exact ⟨vs, vs[i]'(by omega), xex_l (e1.trans e2) s, List.getElem?_eq_getElem _⟩
  stop := fun F' H' e1 e2 => ⟨vs, xex_l (e1.trans e2) s, by rw [dpAll_len a]; exact Nat.le_refl _⟩
  yld := fun F' H' i x H3 d e1 e2 y hd => by
    obtain ⟨q1, q2⟩ := y
    subst q1
    obtain ⟨v, h1, h2⟩ := dpAll_get a hd
    have := q2 vs (xex_l (e1.trans e2) s)
    rw [h1] at this
    rw [← Option.some.inj this]
    exact ⟨F', .refl e2, dp_ex e1 _ _ h2⟩
theorem yields_tup {K : PySem.W.Frag} {F : Hp} {p : Addr} {vs : List V} (s : SqT K F p vs) (a : DpAll K F vs ds) : Yields K (Itt K p) F ds where
  go := fun F' H' i e1 e2 h => by
    have hl := dpAll_len a
    exact ⟨vs, vs[i]'(by omega), xex_t (e1.trans e2) s, List.getElem?_eq_getElem _⟩
  stop := fun F' H' e1 e2 => ⟨vs, xex_t (e1.trans e2) s, by rw [dpAll_len a]; exact Nat.le_refl _⟩
  yld := fun F' H' i x H3 d e1 e2 y hd => by
    obtain ⟨q1, q2⟩ := y
    subst q1
    obtain ⟨v, h1, h2⟩ := dpAll_get a hd
    have := q2 vs (xex_t (e1.trans e2) s)
    rw [h1] at this
    rw [← Option.some.inj this]
    exact ⟨F', .refl e2, dp_ex e1 _ _ h2⟩
def iU (K : PySem.W.Frag) (tl : TE) : TI := fun σ H R => tl σ H fun x H1 => (∃ a, x = .ref a ∧ (∃ xs, SqL K H1 a xs) ∧ R (Itl K a) H1) ∨ (∃ a, x = .ref a ∧ (∃ xs, SqT K H1 a xs) ∧ R (Itt K a) H1)
theorem i_seq {k : Bool} (h : EvD Z te ρ (sqD k ds)) : EvI Z (iU Z.K te) ρ ds := fun F0 H0 F H σ e w R q =>
  h F0 H0 F H σ e w _ fun v F1 H1 n1 p1 => by
    cases k with
    | true =>
      obtain ⟨p, vs, rfl, s, a⟩ := dp_list p1
      exact Or.inl ⟨p, rfl, ⟨vs, xex_l n1.i s⟩, q _ F1 H1 n1 (yields_list s a)⟩
    | false =>
      obtain ⟨p, vs, rfl, s, a⟩ := dp_tup p1
      exact Or.inr ⟨p, rfl, ⟨vs, xex_t n1.i s⟩, q _ F1 H1 n1 (yields_tup s a)⟩
theorem pi_U {X : Cx} {tg l : Expr} {tl : TE} (hl : PE X l tl) : PI X tg l (iU X.K tl) := by
  refine ⟨fun pins s σ H R I h => ?_⟩
  refine thn (hl.run pins s σ H _ I h) fun v s1 ⟨x, H1, I1, r1, q1⟩ => ?_
  rcases q1 with ⟨a, e, ⟨xs, hq⟩, q⟩ | ⟨a, e, ⟨xs, hq⟩, q⟩
  · subst e
    cases r1
    obtain ⟨its, rv, p, hz⟩ := I1.list hq
    refine wpAny_pyIter_list p.isList ?_
    refine ⟨s1.heap.objs.size, [s1.heap.objs.size], _, _, H1, rfl, I1.kept (t' := s1.toks) fun b o e => Heap.get?_push_of_some _ e, turn_list a _, ⟨_, Heap.get?_push_size _ rfl, rfl, rfl⟩, fun b hb => ?_, q⟩
    have e : b = s1.heap.objs.size := by simpa using hb
    subst e
    exact I1.fpOk (Nat.le_refl _) (I1.hok.fresh (Nat.le_refl _))
  · subst e
    cases r1
    obtain ⟨its, rv, p, hz⟩ := I1.tuple hq
    refine wpAny_pyIter_tuple (show s1.heap.IsTuple a its.toArray from p) ?_
    refine ⟨s1.heap.objs.size, [s1.heap.objs.size], _, _, H1, rfl, I1.kept (t' := s1.toks) fun b o e => Heap.get?_push_of_some _ e, turn_tuple a _, ⟨_, Heap.get?_push_size _ rfl, rfl, rfl⟩, fun b hb => ?_, q⟩
    have e : b = s1.heap.objs.size := by simpa using hb
    subst e
    exact I1.fpOk (Nat.le_refl _) (I1.hok.fresh (Nat.le_refl _))

/-! ### for -/
theorem s_for {wi : TI} {g : TG} (h : EvI Z wi ρ ds) (I : Nat → List Sl → Prop) (h0 : I 0 ρ)
    (hs : ∀ i d ρ', ds[i]? = some d → I i ρ' → ∃ ρ2, EvG Z g d ρ' ρ2 ∧ EvS Z ts ρ2 { P with nx := I (i + 1), ct := I (i + 1), bk := P.nx }) (hd : ∀ ρ', I ds.length ρ' → P.nx ρ') : EvS Z (tFor wi g ts) ρ P := fun F0 H0 F H σ D e w f =>
  h F0 H0 F H σ e w _ fun J F1 H1 n1 y => by
    refine ⟨fun i m σ' H' => m = ds.length - i ∧ i ≤ ds.length ∧ ∃ F' ρ', XEx F1 F' ∧ Env Z.K F0 H0 F' H' σ' ρ' ∧ I i ρ', ⟨ds.length, by simp, Nat.zero_le _, F1, ρ, .refl _, e.step n1, h0⟩, ?_⟩
    rintro i m σ' H' ⟨rfl, hi, F', ρ', e1, en, p⟩
    by_cases hlt : i < ds.length
    · refine .inr ⟨y.go F' H' i e1 en.g.i hlt, fun σ2 H2 => i + 1 ≤ ds.length ∧ ∃ F' ρ', XEx F1 F' ∧ Env Z.K F0 H0 F' H2 σ2 ρ' ∧ I (i + 1) ρ', fun σ2 H2 hN => ⟨ds.length - (i + 1), by omega, rfl, hN⟩, fun x H3 hy => ?_⟩
      obtain ⟨F3, n3, p3⟩ := y.yld F' H' i x H3 ds[i] e1 en.g.i hy (List.getElem?_eq_getElem hlt)
      obtain ⟨ρ2, hg, hb⟩ := hs i ds[i] ρ' (List.getElem?_eq_getElem hlt) p
      have e3 := en.step n3
      refine hg F0 H0 F3 H3 σ' x e3 p3 _ fun σ4 e4 => hb F0 H0 F3 H3 σ4 _ e4 w ⟨fun F5 H5 σ5 ρ5 x5 m5 e5 => ⟨hlt, F5, ρ5, (e1.trans n3.f).trans x5, e5, m5⟩, f.rt, f.rl, fun F5 H5 σ5 ρ5 x5 m5 e5 => f.nx F5 H5 σ5 ρ5 (((n1.f.trans e1).trans n3.f).trans x5) m5 e5, fun F5 H5 σ5 ρ5 x5 m5 e5 => ⟨hlt, F5, ρ5, (e1.trans n3.f).trans x5, e5, m5⟩⟩
    · have ei : i = ds.length := by omega
      subst ei
      exact .inl ⟨y.stop F' H' e1 en.g.i, f.nx F' H' σ' ρ' (n1.f.trans e1) (hd ρ' p) en⟩
/-- while, by a word and a number that falls -/
theorem s_while (I : Nat → List Sl → Prop) (m0 : Nat) (h0 : I m0 ρ)
    (hs : ∀ m ρ', I m ρ' → ∃ b, EvT Z t ρ' b ∧ (b = true → EvS Z ts ρ' { P with nx := fun ρ2 => ∃ m', m' < m ∧ I m' ρ2, ct := fun ρ2 => ∃ m', m' < m ∧ I m' ρ2, bk := P.nx }) ∧ (b = false → P.nx ρ')) : EvS Z (tWhile t ts) ρ P := fun F0 H0 F H σ D e w f => by
  refine ⟨fun m σ' H' => ∃ F' ρ', XEx F F' ∧ Env Z.K F0 H0 F' H' σ' ρ' ∧ I m ρ', ⟨m0, F, ρ, .refl _, e, h0⟩, ?_⟩
  rintro m σ' H' ⟨F', ρ', e1, en, p⟩
  obtain ⟨b, ht, h1, h2⟩ := hs m ρ' p
  refine ht F0 H0 F' H' σ' en w _ fun F2 H2 n2 => ?_
  have e2 := en.step n2
  cases b with
  | true =>
    refine iteT ⟨fun σ3 H3 => ∃ m', m' < m ∧ ∃ F' ρ', XEx F F' ∧ Env Z.K F0 H0 F' H3 σ3 ρ' ∧ I m' ρ', fun σ3 H3 hN => hN, h1 rfl F0 H0 F2 H2 σ' _ e2 w ⟨fun F5 H5 σ5 ρ5 x5 m5 e5 => ?_, f.rt, f.rl, fun F5 H5 σ5 ρ5 x5 m5 e5 => f.nx F5 H5 σ5 ρ5 ((e1.trans n2.f).trans x5) m5 e5, fun F5 H5 σ5 ρ5 x5 m5 e5 => ?_⟩⟩
    · obtain ⟨m', hm, i5⟩ := m5
      exact ⟨m', hm, F5, ρ5, (e1.trans n2.f).trans x5, e5, i5⟩
    · obtain ⟨m', hm, i5⟩ := m5
      exact ⟨m', hm, F5, ρ5, (e1.trans n2.f).trans x5, e5, i5⟩
  | false => exact iteF (f.nx F2 H2 σ' ρ' (e1.trans n2.f) (h2 rfl) e2)
/-! ### comprehensions -/
/-- what is kept: of each datum, whether, and what -/
def keptD (ds : List Dt) (f : Dt → Bool) (v : Dt → Dt) : List Dt := (ds.filter f).map v
theorem kept_take {ds : List Dt} {f : Dt → Bool} {v : Dt → Dt} {i : Nat} {d : Dt} (h : ds[i]? = some d) : keptD (ds.take (i + 1)) f v = keptD (ds.take i) f v ++ (if f d = true then [v d] else []) := by
  unfold keptD
  rw [List.take_add_one, h, List.filter_append, List.map_append]
  show _ ++ ((List.filter f [d]).map v) = _
  by_cases hf : f d = true
  · rw [List.filter_cons_of_pos hf, if_pos hf]; rfl
  · rw [List.filter_cons_of_neg hf, if_neg hf]; rfl
theorem kept_len (ds : List Dt) (f : Dt → Bool) (v : Dt → Dt) : (keptD ds f v).length ≤ ds.length := by
  unfold keptD
  rw [List.length_map]
  exact List.length_filter_le _ _
/-- the slots of a comprehension's own names are forgotten -/
theorem env_wipe {K : PySem.W.Frag} {F0 H0 F H : Hp} {σ : L2.St} : ∀ {ns : List Nat} {ρ : List Sl}, Env K F0 H0 F H σ ρ → Env K F0 H0 F H (wipe σ ns) (ns.foldr (fun n r => r.set n .any) ρ)
  | [], _, e => e
  | n :: ns, ρ, e => (env_wipe (ns := ns) e).setAny
/-- a target within a comprehension: only its own slots are touched -/
def EvGw (Z : Zx) (g : TG) (ns : List Nat) (d : Dt) (ρ ρ' : List Sl) : Prop := ∀ F0 H0 F H σ v, Env Z.K F0 H0 F H (wipe σ ns) ρ → Dp Z.K F v d → ∀ Q : L2.St → Hp → Prop, (∀ σ', wipe σ' ns = wipe σ ns → Env Z.K F0 H0 F H σ' ρ' → Q σ' H) → g v (wipe σ ns) H Q
theorem gw_name {i : Nat} : EvGw Z (gName i) [i] d ρ (ρ.set i (.dat d)) := fun F0 H0 F H σ v e p Q q => q _ (by
  show (((σ.set i none).set i (some v)).set i none) = σ.set i none
  rw [List.set_set, List.set_set]) (e.set p)
theorem gw_tup2 {i j : Nat} (hij : i ≠ j) : EvGw Z (gTup Z.K 2 (gCons (gName i) (gCons (gName j) gNil))) [i, j] (.tuple [x, y]) ρ ((ρ.set i (.dat x)).set j (.dat y)) := fun F0 H0 F H σ v e p Q q => by
  obtain ⟨a, vs, rfl, s, aa⟩ := dp_tup p
  cases aa with
  | cons a1 b1 => cases b1 with
    | cons a2 c =>
      cases c
      refine ⟨a, _, rfl, xex_t e.g.i s, rfl, _, _, rfl, _, _, rfl, rfl, q _ ?_ ((e.set a1).set a2)⟩
      show ((((((σ.set j none).set i none).set i _).set j _).set j none).set i none) = ((σ.set j none).set i none)
      apply List.ext_getElem?; intro n; simp only [List.getElem?_set, List.length_set]; repeat' split <;> simp_all
theorem l_lc {wi : TI} {g : TG} {tt : TT} {ns : List Nat} (f : Dt → Bool) (v : Dt → Dt) (h : EvI Z wi ρ ds) (hz : ds.length ≤ 50000)
    (hs : ∀ (i : Nat) (d : Dt), ds[i]? = some d → ∃ ρ2, EvGw Z g ns d (ns.foldr (fun n r => r.set n .any) ρ) ρ2 ∧ EvT Z tt ρ2 (f d) ∧ (f d = true → EvD Z te ρ2 (v d))) : EvL Z (tLc wi g tt te ns) ρ (keptD ds f v) := fun F0 H0 F H σ e w Q q =>
  h F0 H0 F H σ e w _ fun J F1 H1 n1 y => fun C hC => by
    have e1 := e.step n1
    refine ⟨fun i m H' => m = ds.length - i ∧ i ≤ ds.length ∧ ∃ F' vs, Nx F1 H1 F' H' ∧ F' C = none ∧ H' C = some (.lst vs) ∧ DpAll Z.K F' vs (keptD (ds.take i) f v), ⟨ds.length, by simp, Nat.zero_le _, F1, [], Nx.own n1.i hC, none_back n1.i hC, upd_same, by
      rw [List.take_zero]; exact .nil⟩, ?_⟩
    rintro i m H' ⟨rfl, hi, F', vs, n2, hF, hH, ha⟩
    by_cases hlt : i < ds.length
    · refine .inr ⟨y.go F' H' i n2.f n2.i hlt, fun H2 => i + 1 ≤ ds.length ∧ ∃ F' vs, Nx F1 H1 F' H2 ∧ F' C = none ∧ H2 C = some (.lst vs) ∧ DpAll Z.K F' vs (keptD (ds.take (i + 1)) f v), fun H2 hN => ⟨ds.length - (i + 1), by omega, rfl, hN⟩, fun x H3 hy => ?_⟩
      obtain ⟨F3, n3, p3⟩ := y.yld F' H' i x H3 ds[i] n2.f n2.i hy (List.getElem?_eq_getElem hlt)
      obtain ⟨ρ2, hg, ht, hv⟩ := hs i ds[i] (List.getElem?_eq_getElem hlt)
      have hC3 : F3 C = none := n3.o C (by rw [hH]; exact fun z => nomatch z) hF
      have hH3 := n3.h.k C _ hH (fun _ z => nomatch z)
      refine hg F0 H0 F3 H3 σ x (env_wipe ((e1.step n2).step n3)) p3 _ fun σ4 hw4 e4 => ⟨hw4, ht F0 H0 F3 H3 σ4 e4 w _ fun F4 H4 n4 => ?_⟩
      have hC4 : F4 C = none := n4.o C (by rw [hH3]; exact fun z => nomatch z) hC3
      have hH4 := n4.h.k C _ hH3 (fun _ z => nomatch z)
      have n24 := (n2.trans n3).trans n4
      have ek := kept_take (f := f) (v := v) (List.getElem?_eq_getElem hlt)
      cases hf : f ds[i] with
      | true =>
        refine iteT (hv hf F0 H0 F4 H4 σ4 (e4.step n4) w _ fun u F5 H5 n5 p5 => ?_)
        have hC5 : F5 C = none := n5.o C (by rw [hH4]; exact fun z => nomatch z) hC4
        have hH5 := n5.h.k C _ hH4 (fun _ z => nomatch z)
        have n25 := n24.trans n5
        refine ⟨vs, hH5, Evl.sz_lt ?_, hlt, F5, vs ++ [u], ⟨n25.f, XEx.mut n25.h hC hH5, XEx.mut n25.i hC5 hH5, n25.o⟩, hC5, upd_same, ?_⟩
        · rw [dpAll_len ha]
          have h1 := kept_len (ds.take i) f v
          rw [List.length_take] at h1
          omega
        · rw [ek, if_pos hf]
          exact dpAll_app (dpAll_ex ((n3.f.trans n4.f).trans n5.f) _ _ ha) (.cons p5 .nil)
      | false =>
        refine iteF ⟨hlt, F4, vs, n24, hC4, hH4, ?_⟩
        rw [ek, if_neg (by rw [hf]; exact Bool.false_ne_true), List.append_nil]
        exact dpAll_ex (n3.f.trans n4.f) _ _ ha
    · have ei : i = ds.length := by omega
      subst ei
      refine .inl ⟨y.stop F' H' n2.f n2.i, ?_⟩
      rw [List.take_length] at ha
      exact q C vs F' H' (n1.trans n2) (none_back n1.h hC) hF hH ha
end

/-! ### a def -/
section
variable {P : Program} {w : World} {K : PySem.W.Frag} {mg : Str → Option Value} {base : Heap}
def slots0 (N : List Str) (ds : List Dt) : List Sl := ds.map Sl.dat ++ List.replicate (N.length - ds.length) Sl.any
theorem env_start {N : List Str} {F H : Hp} {vs : List V} {ds : List Dt} (e : XEx F H) (a : DpAll K F vs ds) : Env K F H F H (L2.start N vs) (slots0 N ds) := by
  have hl := dpAll_len a
  refine ⟨.refl e, ?_, fun i x h => ?_, fun i j ds' es p hi => ?_, Ap2.none fun i es hi => ?_⟩
  · unfold L2.start slots0
    rw [List.length_append, List.length_append, List.length_map, List.length_map, List.length_replicate, List.length_replicate, hl]
  · unfold L2.start slots0 at *
    by_cases hi : i < ds.length
    · rw [List.getElem?_append_left (by rw [List.length_map]; exact hi), List.getElem?_map, List.getElem?_eq_getElem hi] at h
      have hx : Sl.dat ds[i] = x := Option.some.inj h
      obtain ⟨v, h1, h2⟩ := dpAll_get a (List.getElem?_eq_getElem hi)
      refine ⟨some v, ?_, ?_⟩
      · rw [List.getElem?_append_left (by rw [List.length_map, hl]; exact hi), List.getElem?_map, h1]
        rfl
      · rw [← hx]
        exact ⟨v, rfl, h2⟩
    · rw [List.getElem?_append_right (by rw [List.length_map]; omega), List.length_map, List.getElem?_replicate] at h
      by_cases hj : i - ds.length < N.length - ds.length
      · rw [if_pos hj] at h
        have hx : Sl.any = x := Option.some.inj h
        refine ⟨none, ?_, by rw [← hx]; exact True.intro⟩
        rw [List.getElem?_append_right (by rw [List.length_map, hl]; omega), List.length_map, List.getElem?_replicate, hl, if_pos hj]
      · rw [if_neg hj] at h
        cases h
  · unfold slots0 at hi
    by_cases h : i < ds.length
    · rw [List.getElem?_append_left (by rw [List.length_map]; exact h), List.getElem?_map, List.getElem?_eq_getElem h] at hi
      cases hi
    · rw [List.getElem?_append_right (by rw [List.length_map]; omega), List.length_map, List.getElem?_replicate] at hi
      split at hi <;> cases hi
  · unfold slots0 at hi
    by_cases h : i < ds.length
    · rw [List.getElem?_append_left (by rw [List.length_map]; exact h), List.getElem?_map, List.getElem?_eq_getElem h] at hi
      cases hi
    · rw [List.getElem?_append_right (by rw [List.length_map]; omega), List.length_map, List.getElem?_replicate] at hi
      split at hi <;> cases hi
abbrev Z0 (K : PySem.W.Frag) : Zx := ⟨K, fun _ _ _ => False, fun _ => False⟩
theorem wish0 {F0 H0 : Hp} (tb : Tb H0) : Wish (Z0 K) F0 H0 := ⟨tb, fun _ _ _ h => h.elim⟩
/-- what a def's body is to reach: the datum d comes -/
def toD (d : Dt) : Post := ⟨fun _ => d = .none, fun x => x = d, fun ds => d = .list ds, fun _ => False, fun _ => False⟩
def toL (es : List Dt) : Post := ⟨fun _ => False, fun _ => False, fun ds => ds = es, fun _ => False, fun _ => False⟩
theorem fn_D {α : Type} {x qual : Str} {st : Stmt} {f : Addr} {fd : FuncData} {N ps : List Str} {k : Nat} {args : α → List Dt} {ok : α → Prop} {g : α → Dt} (Fu : Fun K x qual st f fd) (S : FnScope N ps (defScope st)) (hn : ∀ a, (args a).length = ps.length)
    (hbody : ∀ (cdv : Value) (A : Around) (outer : List PySem.Env) (s : Shared) (H : Hp) (E : XK), Room k (A.deeper (envOfC qual (defScope st) s.heap.objs.size f cdv)) →
      ∃ t, PSs (cxOf CX0 P w K mg base N qual (defScope st) f cdv A outer s H E).nox (defBody st) t ∧ ∀ a, ok a → EvS (Z0 K) t (slots0 N (args a)) (toD (g a))) : FnOk P w K mg base CX0 (k + 1) f fd ps (spD K args ok g) := by
  refine Fu.ok S (fun vs H Q E h => ?_) (fun cdv A outer s H vs Q E hr h => ?_)
  · obtain ⟨F, a, _, da, _⟩ := h
    exact (dpAll_len da).trans (hn a)
  · obtain ⟨F, a, e, da, ho, tb, q⟩ := h
    obtain ⟨t, ht, hev⟩ := hbody cdv A outer s H E hr
    refine ⟨t, ht, hev a ho F H F H _ _ (env_start e da) (wish0 tb) ⟨fun F' H' σ ρ _ hd en => ?_, fun d v F' H' hd n p => ?_, fun ds p vs F' H' hd n h0 hF hp a => ?_, fun _ _ _ _ _ z => z.elim, fun _ _ _ _ _ z => z.elim⟩⟩
    · exact q _ F' H' en.g (by rw [show g a = .none from hd]; exact .non)
    · exact q v F' H' n (by rw [← show d = g a from hd]; exact p)
    · exact q _ _ H' (n.shut h0 hF hp) (by
        rw [show g _ = .list ds from hd]
        exact .lst (Or.inl (Or.inl upd_same)) (dpAll_ex (XEx.new hF) _ _ a))
theorem fn_L {α : Type} {x qual : Str} {st : Stmt} {f : Addr} {fd : FuncData} {N ps : List Str} {k : Nat} {args : α → List Dt} {ok : α → Prop} {g : α → List Dt} (Fu : Fun K x qual st f fd) (S : FnScope N ps (defScope st)) (hn : ∀ a, (args a).length = ps.length)
    (hbody : ∀ (cdv : Value) (A : Around) (outer : List PySem.Env) (s : Shared) (H : Hp) (E : XK), Room k (A.deeper (envOfC qual (defScope st) s.heap.objs.size f cdv)) →
      ∃ t, PSs (cxOf CX0 P w K mg base N qual (defScope st) f cdv A outer s H E).nox (defBody st) t ∧ ∀ a, ok a → EvS (Z0 K) t (slots0 N (args a)) (toL (g a))) : FnOk P w K mg base CX0 (k + 1) f fd ps (spL K args ok g) := by
  refine Fu.ok S (fun vs H Q E h => ?_) (fun cdv A outer s H vs Q E hr h => ?_)
  · obtain ⟨F, a, _, da, _⟩ := h
    exact (dpAll_len da).trans (hn a)
  · obtain ⟨F, a, e, da, ho, tb, q⟩ := h
    obtain ⟨t, ht, hev⟩ := hbody cdv A outer s H E hr
    refine ⟨t, ht, hev a ho F H F H _ _ (env_start e da) (wish0 tb) ⟨fun F' H' σ ρ _ hd en => hd.elim, fun d v F' H' hd n p => hd.elim, fun ds p vs F' H' hd n h0 hF hp a => ?_, fun _ _ _ _ _ z => z.elim, fun _ _ _ _ _ z => z.elim⟩⟩
    exact q p vs F' H' n h0 hF hp (by rw [← show ds = g _ from hd]; exact a)
end
end DL

set_option Elab.async false
set_option linter.all false
set_option maxRecDepth 100000
set_option maxHeartbeats 2000000
/-! DU: a def of the text by its name; the end. -/
namespace DL
open PySem PySem.Spec PyProof.Rows L2
variable [Nm]
section
variable {P : Program} {w : World} {K : PySem.W.Frag} {mg : Str → Option Value} {base : Heap}
/-- the def that the name holds keeps the promise -/
structure Fn1 (P : Program) (w : World) (K : PySem.W.Frag) (mg : Str → Option Value) (base : Heap) (k : Nat) (x : Str) (ps : List Str) (sp : Sp) : Prop where
  ex : ∃ f fd, FnOk P w K mg base CX0 k f fd ps sp ∧ mg x = some (.ref f) ∧ PySem.W.keepIn K (.ref f) = true ∧ (∃ (oc : Value) (od : Option Addr) (osl : Array (Option Value)), K.lookup f = some ⟨oc, od, .func fd, osl⟩) ∧ ∀ us : List Value, us.length = ps.length → bindArgs fd ⟨us, []⟩ = pure (ps.zip us)
theorem pe_fn {X : Cx} {k : Nat} {x : Str} {ps : List Str} {sp : Sp} {p pos : Pos} {e : Expr} {es : List Expr} {t : TA} (G : Fn1 X.prog X.w X.K X.mg X.base k x ps sp) (hr : Room k X.A) (hg : Gl X x)
    (ha : PA X (e :: es) t) (hdb : (x == ("__debug__" : Str)) = false := by decide) (he : starEach (e :: es) X.env = (false, eval e X.env) :: starEach es X.env := by rfl) (hpl : (backTo pos (starEach es X.env)).any (·.1) = false := by rfl) :
    PE X (.Call (.Name x p) (e :: es) [] pos) (tCall sp [] E0 t) := by
  obtain ⟨f, fd, F, hm, hk, _, hb⟩ := G.ex
  exact pe_call F hr hg hm hk (Binds.all hb) .nil pass0 ha hdb he hpl
theorem fn1 {k : Nat} {x qual : Str} {st : Stmt} {f : Addr} {fd : FuncData} {ps : List Str} {sp : Sp} (Fu : Fun K x qual st f fd) (hm : mg x = some (.ref f)) (hb : ∀ us : List Value, us.length = ps.length → bindArgs fd ⟨us, []⟩ = pure (ps.zip us)) (F : FnOk P w K mg base CX0 k f fd ps sp) : Fn1 P w K mg base k x ps sp :=
  ⟨f, fd, F, hm, Fu.kp, by obtain ⟨oc, od, _, _, _, _, _, _, osl, _, h, _⟩ := Fu.ex; exact ⟨oc, od, osl, h⟩, hb⟩
/-- a def as it stands behind the top -/
structure DefAt (K : PySem.W.Frag) (mg : Str → Option Value) (x qual : Str) (st : Stmt) (ps : List Str) : Prop where
  ex : ∃ f fd, Fun K x qual st f fd ∧ mg x = some (.ref f) ∧ ∀ us : List Value, us.length = ps.length → bindArgs fd ⟨us, []⟩ = pure (ps.zip us)
theorem def1 {h : Heap} (X : K.In h) (G : h.Ns mainGlobals mg) {x qual : Str} {st : Stmt} {f : Addr} {oc : Value} {od an : Option Addr} {osl : Array (Option Value)} {kV doc pm cdv ct : Value} {ps : List Str}
    (hb : ∀ (kV doc pm : Value) (an : Option Addr) (cdv ct : Value) (us : List Value), us.length = ps.length → bindArgs (PySem.W.fnOf x qual (defArgs st) (defBody st) (defScope st) .none kV doc pm an cdv ct) ⟨us, []⟩ = pure (ps.zip us))
    (a : PySem.W.nsIn K mainGlobals x = some (some (.ref f))) (l : K.lookup f = some ⟨oc, od, .func (PySem.W.fnOf x qual (defArgs st) (defBody st) (defScope st) .none kV doc pm an cdv ct), osl⟩)
    (c : PySem.W.codeIn K cdv qual = true) (k : PySem.W.keepIn K (.ref f) = true) : DefAt K mg x qual st ps := by
  have Fu := fun_mk (st := st) l c k
  exact ⟨f, _, Fu, PySem.W.mg_of X G a, hb _ _ _ _ _ _⟩
theorem DefAt.D {x qual : Str} {st : Stmt} {N ps : List Str} {k : Nat} {α : Type} {args : α → List Dt} {ok : α → Prop} {g : α → Dt} (At : DefAt K mg x qual st ps) (S : FnScope N ps (defScope st)) (hn : ∀ a, (args a).length = ps.length)
    (hbody : ∀ (f : Addr) (cdv : Value) (A : Around) (outer : List PySem.Env) (s : Shared) (H : Hp) (E : XK), Room k (A.deeper (envOfC qual (defScope st) s.heap.objs.size f cdv)) →
      ∃ t, PSs (cxOf CX0 P w K mg base N qual (defScope st) f cdv A outer s H E).nox (defBody st) t ∧ ∀ a, ok a → EvS (Z0 K) t (slots0 N (args a)) (toD (g a))) : Fn1 P w K mg base (k + 1) x ps (spD K args ok g) := by
  obtain ⟨f, fd, Fu, hm, hb⟩ := At.ex
  exact fn1 Fu hm hb (fn_D Fu S hn (hbody f))
theorem DefAt.L {x qual : Str} {st : Stmt} {N ps : List Str} {k : Nat} {α : Type} {args : α → List Dt} {ok : α → Prop} {g : α → List Dt} (At : DefAt K mg x qual st ps) (S : FnScope N ps (defScope st)) (hn : ∀ a, (args a).length = ps.length)
    (hbody : ∀ (f : Addr) (cdv : Value) (A : Around) (outer : List PySem.Env) (s : Shared) (H : Hp) (E : XK), Room k (A.deeper (envOfC qual (defScope st) s.heap.objs.size f cdv)) →
      ∃ t, PSs (cxOf CX0 P w K mg base N qual (defScope st) f cdv A outer s H E).nox (defBody st) t ∧ ∀ a, ok a → EvS (Z0 K) t (slots0 N (args a)) (toL (g a))) : Fn1 P w K mg base (k + 1) x ps (spL K args ok g) := by
  obtain ⟨f, fd, Fu, hm, hb⟩ := At.ex
  exact fn1 Fu hm hb (fn_L Fu S hn (hbody f))
/-- nothing is promised: where a recursion begins -/
theorem DefAt.bot {x qual : Str} {st : Stmt} {N ps : List Str} {sp : Sp} (At : DefAt K mg x qual st ps) (S : FnScope N ps (defScope st)) (hno : ∀ vs H Q E, sp vs H Q E → False) : Fn1 P w K mg base (0 + 1) x ps sp := by
  obtain ⟨f, fd, Fu, hm, hb⟩ := At.ex
  exact fn1 Fu hm hb (Fu.ok S (fun vs H Q E h => (hno vs H Q E h).elim) fun cdv A outer s H vs Q E hr h => (hno vs H Q E h).elim)
/-- one list of ints, no condition, True: a law's promise -/
def spLaw (K : PySem.W.Frag) : Sp := spD K (fun ns : List Int => [.list (intsD ns)]) (fun ns => ns.length ≤ 63) (fun _ => .bool true)
theorem law_hsp {K : PySem.W.Frag} {H : Hp} {a : Addr} {ns : List Int} (hl : ns.length ≤ 63) (hS : SqL K H a (ns.map V.int)) (tb : Tb H) : spLaw K [.ref a] H (fun v _ => v = .bl true) fun _ _ _ => False :=
  ⟨H, ns, .refl _, .cons (.lst hS (dpAll_of_ints ns)) .nil, hl, tb, fun v F' H' _ p => dp_bl p⟩
theorem fn_law {x : Str} {fa : Addr} {k : Nat} {y qual : Str} {st : Stmt} (At : DefAt K mg x qual st [y]) (hm : mg x = some (.ref fa)) (G : ∀ base : Heap, Fn1 P w K mg base k x [y] (spLaw K)) :
    ∃ fd : FuncData, (∀ (s : Shared) (u : Value), BindsTo s fd ⟨[u], []⟩ [(y, u)]) ∧ ∀ base : Heap, K.In base → base.Ns mainGlobals mg → FnOk P w K mg base CX0 k fa fd [y] (spLaw K) := by
  obtain ⟨f, fd, Fu, hm1, hb1⟩ := At.ex
  obtain ⟨oc, od, _, _, _, _, _, _, osl, _, h1, _⟩ := Fu.ex
  rw [hm] at hm1
  cases hm1
  refine ⟨fd, fun s u => .of_eq (hb1 [u] rfl), fun base _ _ => ?_⟩
  obtain ⟨f, fd2, F, hm2, hk, ⟨oc2, od2, osl2, h2⟩, hb⟩ := (G base).ex
  rw [hm] at hm2
  cases hm2
  rw [h1] at h2
  cases h2
  exact F
end
end DL

set_option Elab.async false
set_option linter.all false
set_option maxRecDepth 100000
/-! DV: plain facts of data. -/
namespace DL
open PySem L2
variable [Nm]
theorem intsD_len (ns : List Int) : (intsD ns).length = ns.length := List.length_map ..
theorem intsD_get {ns : List Int} {i : Nat} (h : i < ns.length) : (intsD ns)[i]? = some (.int (ns.getD i 0)) := by
  unfold intsD
  rw [List.getElem?_map, List.getElem?_eq_getElem h, List.getD_eq_getElem?_getD, List.getElem?_eq_getElem h]
  rfl
theorem intsD_app (xs ys : List Int) : intsD (xs ++ ys) = intsD xs ++ intsD ys := List.map_append
theorem eqv_intsD : ∀ xs ys : List Int, PyData.eqvAll (intsD xs) (intsD ys) = decide (xs = ys)
  | [], [] => by simp [intsD, PyData.eqvAll]
  | [], _ :: _ => by simp [intsD, PyData.eqvAll]
  | _ :: _, [] => by simp [intsD, PyData.eqvAll]
  | x :: xs, y :: ys => by
    have h := eqv_intsD xs ys
    show (PyData.eqv (.int x) (.int y) && PyData.eqvAll (intsD xs) (intsD ys)) = _
    rw [h]
    simp only [PyData.eqv]
    by_cases e : x = y
    · subst e; simp
    · simp [e]
/-- a list of ints, as data -/
inductive IsInts : List Dt → List Int → Prop where
  | of (ns : List Int) : IsInts (intsD ns) ns
  | nil : IsInts [] []
  | cons {d : List Dt} {n : Int} {ns : List Int} : IsInts d ns → IsInts (.int n :: d) (n :: ns)
theorem IsInts.eq : ∀ {ds : List Dt} {ns : List Int}, IsInts ds ns → ds = intsD ns
  | _, _, .of _ => rfl
  | _, _, .nil => rfl
  | _, _, .cons h => by rw [h.eq]; rfl
section
variable {Z : Zx} {ρ : List Sl} {ta tb : TE} {ds : List Dt} {ns : List Int} {d : Dt}
theorem d_ixC {k : Bool} {i : Int} (ha : EvV Z k ta ρ ds) (h0 : 0 ≤ i) (h : ds[i.toNat]? = some d) : EvD Z (tOp (rIxU Z.K) ta (tC (.int i))) ρ d := d_ix ha d_int h0 h
theorem d_ixI {k : Bool} {i : Int} (ha : EvV Z k ta ρ ds) (hb : EvD Z tb ρ (.int i)) (hi : IsInts ds ns) (h0 : 0 ≤ i) (h : i.toNat < ns.length) : EvD Z (tOp (rIxU Z.K) ta tb) ρ (.int (ns.getD i.toNat 0)) := d_ix ha hb h0 (by
  rw [hi.eq]
  exact intsD_get h)
end
theorem t_yes {Z : Zx} {ρ : List Sl} : EvT Z tYes ρ true := fun F0 H0 F H σ e w Q q => q F H (.refl e.g.i)
theorem sh_ints : ∀ ns : List Int, PyData.canLayAll0 (intsD ns) = true ∧ PyData.depthAll (intsD ns) = 0
  | [] => by simp [intsD, PyData.canLayAll0, PyData.depthAll]
  | n :: ns => by
    obtain ⟨h1, h2⟩ := sh_ints ns
    constructor
    · show (PyData.canLay0 (.int n) && PyData.canLayAll0 (intsD ns)) = true
      rw [h1]
      simp [PyData.canLay0]
    · show max (PyData.depth (.int n)) (PyData.depthAll (intsD ns)) = 0
      rw [h2]
      simp [PyData.depth]
theorem sh_list (ns : List Int) : DL.sh (.list (intsD ns)) := by
  show SeqAt.shaped _ = true
  unfold SeqAt.shaped
  have h := sh_ints ns
  simp [PyData.canLay0, PyData.depth, h.1, h.2]
theorem sh_tup (ns : List Int) : DL.sh (.tuple (intsD ns)) := by
  show SeqAt.shaped _ = true
  unfold SeqAt.shaped
  have h := sh_ints ns
  simp [PyData.canLay0, PyData.depth, h.1, h.2]
theorem eqv_list (xs ys : List Int) : PyData.eqv (.list (intsD xs)) (.list (intsD ys)) = decide (xs = ys) := by
  rw [← eqv_intsD]
  simp [PyData.eqv]
theorem eqv_tup (xs ys : List Int) : PyData.eqv (.tuple (intsD xs)) (.tuple (intsD ys)) = decide (xs = ys) := by
  rw [← eqv_intsD]
  simp [PyData.eqv]
theorem intsD_get' {ns : List Int} {i : Nat} {d : Dt} (h : (intsD ns)[i]? = some d) : ∃ x, ns[i]? = some x ∧ d = .int x := by
  unfold intsD at h
  rw [List.getElem?_map] at h
  cases q : ns[i]? with
  | none => rw [q] at h; cases h
  | some x => rw [q] at h; exact ⟨x, rfl, (Option.some.inj h).symm⟩
theorem keptD_none (ds : List Dt) (v : Dt → Dt) : keptD ds (fun _ => false) v = [] := by
  unfold keptD
  rw [List.filter_eq_nil_iff.mpr (fun _ _ => Bool.false_ne_true)]
  rfl
theorem cutD_from (ds : List Dt) (n : Nat) : DL.cutD ds (some (n : Int)) none = ds.drop n := by
  unfold DL.cutD
  rw [HT.sIx_nat, HT.sIx_none]
  rcases Nat.le_total n ds.length with h | h
  · rw [Nat.min_eq_left h, List.take_of_length_le (by rw [List.length_drop]; omega)]
  · rw [Nat.min_eq_right h, Nat.sub_self, List.take_zero, List.drop_of_length_le h]
theorem cutD_to (ds : List Dt) (n : Nat) : DL.cutD ds none (some (n : Int)) = ds.take n := by
  unfold DL.cutD
  rw [HT.sIx_nat, HT.sIx_none, List.drop_zero, Nat.sub_zero]
  rcases Nat.le_total n ds.length with h | h
  · rw [Nat.min_eq_left h]
  · rw [Nat.min_eq_right h, List.take_length, List.take_of_length_le h]
theorem cutD_mid (ds : List Dt) (a b : Nat) : DL.cutD ds (some (a : Int)) (some (b : Int)) = (ds.drop a).take (b - a) := by
  unfold DL.cutD
  rw [HT.sIx_nat, HT.sIx_nat]
  rcases Nat.le_total a ds.length with h | h
  · rw [Nat.min_eq_left h]
    rcases Nat.le_total b ds.length with h2 | h2
    · rw [Nat.min_eq_left h2]
    · rw [Nat.min_eq_right h2, List.take_of_length_le (by rw [List.length_drop]; omega), List.take_of_length_le (by rw [List.length_drop]; omega)]
  · rw [Nat.min_eq_right h, List.drop_of_length_le (Nat.le_refl _), List.drop_of_length_le h, List.take_nil, List.take_nil]
/-- data that == takes: no dict, not deep -/
def Lay (n : Nat) (d : PyData) : Prop := d.canLay0 = true ∧ d.depth ≤ n
theorem Lay.sh {n : Nat} {d : PyData} (h : Lay n d) (hn : n ≤ 64) : DL.sh d := by
  show SeqAt.shaped d = true
  unfold SeqAt.shaped
  rw [h.1, decide_eq_true (Nat.le_trans h.2 hn)]
  rfl
theorem Lay.mono {n m : Nat} {d : PyData} (h : Lay n d) (hn : n ≤ m) : Lay m d := ⟨h.1, Nat.le_trans h.2 hn⟩
end DL

set_option Elab.async false
set_option linter.all false
set_option maxRecDepth 100000
set_option maxHeartbeats 4000000
/-! DW: enumerate over a tuple; max of a list, with and without a default; xs.index. -/
namespace DL
open PySem PySem.Spec PyProof.Rows L2
variable [Nm]
/-! ### enumerate(t), t a tuple -/
abbrev enumObj (it : Addr) : Obj := { cls := .type "enumerate", data := .fields #[.none, .bool false, .ref it, rawInt 0, .none, .none] }
set_option maxHeartbeats 1000000 in
theorem enum_new_tup (t : Addr) (items : Array Value) :
    Meets (Builtin.«enumerate.__new__» ⟨[.type "enumerate", .ref t], []⟩) (fun _ R s => s.heap.IsTuple t items ∧
      R (.ok (.ret (.ref (s.heap.objs.size + 1)))) { s with heap := (s.heap.push { cls := .type "tuple_iterator", data := .fields #[.ref t, .int 0 0] }).push (enumObj s.heap.objs.size) }) :=
  .of_wp fun prog w A R s h => by
    obtain ⟨hp, g, d, tk, os⟩ := s
    obtain ⟨hT, h⟩ := h
    have sub := sub_enumerate
    have hz : (hp.push { cls := .type "tuple_iterator", data := .fields #[.ref t, .int 0 0] }).objs.size = hp.objs.size + 1 := Heap.size_push ..
    rw [← hz] at h
    have it : ∀ {A' : Around} {E Q : Value → Shared → Prop}, Q (.ref hp.objs.size) ⟨hp.push { cls := .type "tuple_iterator", data := .fields #[.ref t, .int 0 0] }, g, d, tk, os⟩ →
        wpAny (model prog w) A' (pyIter (.ref t)) Q E ⟨hp, g, d, tk, os⟩ := fun q => wpAny_pyIter_tuple hT q
    wp_walk using it
    refine wpAny_stack_any fun _ => wpAny_pure ?_
    split
    · rename_i c _ _ _ _ _
      cases (c == Value.type "enumerate") <;>
        (wp_walk using it
         exact ⟨_, rfl, h⟩)
    · wp_walk using it
      exact ⟨_, rfl, h⟩
theorem enum_call_tup {prog : Program} {w : World} {A : Around} {E : Value → Shared → Prop} {s : Shared} {t : Addr} {items : Array Value} {Q : Value → Shared → Prop} (hT : s.heap.IsTuple t items)
    (h : ∀ h', IsEnum h' (s.heap.objs.size + 1) s.heap.objs.size 0 .none → h'.IsTupleIter s.heap.objs.size t 0 → (∀ b o, s.heap.get? b = some o → h'.get? b = some o) → Q (.ref (s.heap.objs.size + 1)) { s with heap := h' }) :
    wpAny (model prog w) A (call (.type "enumerate") [.ref t]) Q E s := by
  refine callType_new F.called_enumerate (by decide) (F.typeCall_enumerate_1 _) (F.newCall_enumerate_1 _) (fun obj => F.args_object_init_2 obj _) F.entry_enumerate_new (enum_new_tup t items) ⟨hT, ?_⟩
  have hz : (s.heap.push { cls := .type "tuple_iterator", data := .fields #[.ref t, .int 0 0] }).objs.size = s.heap.objs.size + 1 := Heap.size_push ..
  have he := Heap.get?_push_size (s.heap.push { cls := .type "tuple_iterator", data := .fields #[.ref t, .int 0 0] }) (o := { cls := .type "enumerate", data := .fields #[.none, .bool false, .ref s.heap.objs.size, rawInt 0, .none, .none] }) rfl
  rw [hz] at he
  exact ⟨⟨_, he, rfl⟩, h _ he ⟨{ cls := .type "tuple_iterator", data := .fields #[.ref t, .int 0 0] }, Heap.get?_push_of_some _ (Heap.get?_push_size s.heap rfl), rfl, rfl⟩ fun b o x => Heap.get?_push_of_some _ (Heap.get?_push_of_some _ x)⟩
/-- (i, the i-th item), each a new tuple -/
def ItE (K : PySem.W.Frag) (a : Addr) : It where
  go := fun i H => ∃ (xs : List V) (x : V), SqT K H a xs ∧ xs[i]? = some x
  yld := fun i H v H' => ∃ T x, v = .ref T ∧ H T = none ∧ H' = upd H T (.tup [.int (i : Nat), x]) ∧ ∀ xs, SqT K H a xs → xs[i]? = some x
  stop := fun i H => ∃ xs : List V, SqT K H a xs ∧ xs.length = i
theorem turn_E {P : Program} {w : World} {K : PySem.W.Frag} {elts : List Expr} {kk : Nat} {tpos : Pos} (a e it : Addr) :
    Turn P w K (.Tuple elts kk tpos) (ItE K a) [e, it] e (fun i h => (∃ old, IsEnum h e it ((i : Nat) : Int) old) ∧ h.IsTupleIter it a i ∧ e ≠ it) where
  mem := by simp
  obj := fun i h st b hb => by
    obtain ⟨⟨old, he⟩, ⟨o, ho, _, hd⟩, _⟩ := st
    rcases (show b = e ∨ b = it by simpa using hb) with rfl | rfl
    · exact ⟨_, he, fun v q => nomatch q⟩
    · exact ⟨o, ho, fun v q => by rw [hd] at q; cases q⟩
  keep := fun i h h' st k => ⟨let ⟨old, he⟩ := st.1; ⟨old, k e (by simp) _ he⟩, st.2.1.at fun o q => k it (by simp) o q, st.2.2⟩
  item := by
    intro X hP hw hK hc i pins s σ H E I hf st hg
    subst hP hw hK
    obtain ⟨⟨old, he⟩, hit, hne⟩ := st
    obtain ⟨xs, x, hq, hx⟩ := hg
    obtain ⟨its, rv, p, hz⟩ := I.tuple hq
    have pT : s.heap.IsTuple a its.toArray := p
    obtain ⟨u, hu, ru⟩ := rv.get hx
    have hel : e < s.heap.objs.size := Heap.lt_size he
    have hil : it < s.heap.objs.size := by obtain ⟨_, q, _⟩ := hit; exact Heap.lt_size q
    have nai : a ≠ it := fun z => by
      obtain ⟨o1, h1, c1, _⟩ := hit
      obtain ⟨o2, h2, c2, _⟩ := pT
      rw [z, h1] at h2
      cases h2
      rw [c1] at c2
      simp at c2
    have nae : e ≠ a := fun z => by
      obtain ⟨o2, h2, c2, _⟩ := pT
      rw [← z, show s.heap.get? e = _ from he] at h2
      cases h2
      simp at c2
    have hlt : i < its.toArray.size := by
      have := (List.getElem?_eq_some_iff.mp hu).1
      simpa using this
    refine wpAny_pyNext_enum_itemD (Draws.tuple (A := X.A.in1) (I.ok.hd hc) it a nai its.toArray) he ⟨hit, pT⟩ hlt hne (by simp [hne, nae]) fun y h' tk hy ho hS hT hsz hk => ?_
    have ey : y = u := by
      have h1 : its[i]? = some y := by simpa using hy
      rw [hu] at h1
      exact (Option.some.inj h1).symm
    subst ey
    refine ⟨_, rfl, wpAny_letOwnedTupleGo_enum (s := { s with heap := h', toks := tk + 1 }) ho fun h'' he' sb => ?_⟩
    have hT2 : h''.get? s.heap.objs.size = some { cls := .type "tuple", data := .seq #[.int i tk, y] } := (sb.2 _ (Nat.ne_of_gt hel)).trans hT
    have ok2 : ObjOk X.prog X.w (upd H s.heap.objs.size (.tup [.int (i : Nat), x])) h'' s.heap.objs.size (.tup [.int (i : Nat), x]) :=
      ⟨by show 2 ≤ sizeLine; decide, [.int i tk, y], .cons ⟨_, rfl⟩ (.cons ru .nil), _, hT2, rfl, _, rfl⟩
    have far : ∀ b ob, b ∉ [e, it] → s.heap.get? b = some ob → h''.get? b = some ob := fun b ob hb q => by
      have n1 : b ≠ e := fun z => hb (by simp [z])
      have n2 : b ≠ it := fun z => hb (by simp [z])
      exact (sb.2 b n1).trans (hk b ob n1 n2 q)
    have I1 := I.turnedNew (t' := tk + 1) far hf (Nat.le_refl _) ok2
    refine ⟨.ref s.heap.objs.size, _, I1, rfl, ⟨_, x, rfl, I.hok.fresh (Nat.le_refl _), rfl, fun ys hy2 => by rw [I.tuple_inj hy2 hq]; exact hx⟩, ⟨⟨y, by rw [show ((i + 1 : Nat) : Int) = (i : Int) + 1 by omega]; exact he'⟩, hS.1.at fun o q => (sb.2 it (Ne.symm hne)).trans q, hne⟩, fun b hb => ?_⟩
    have hb' : b < s.heap.objs.size := by
      rcases (show b = e ∨ b = it by simpa using hb) with z | z
      · rw [z]; exact hel
      · rw [z]; exact hil
    rw [upd_ne (Nat.ne_of_lt hb')]
    exact (hf b hb).1
  done := by
    intro X hP hw hK hc i pins s σ H E I hf st hg
    subst hP hw hK
    obtain ⟨⟨old, he⟩, hit, hne⟩ := st
    obtain ⟨xs, hq, hx⟩ := hg
    obtain ⟨its, rv, p, hz⟩ := I.tuple hq
    have pT : s.heap.IsTuple a its.toArray := p
    obtain ⟨f0, f1, f2, f3, f4, f5⟩ := hf it (by simp)
    have nai : a ≠ it := fun z => by
      obtain ⟨o1, h1, c1, _⟩ := hit
      obtain ⟨o2, h2, c2, _⟩ := pT
      rw [z, h1] at h2
      cases h2
      rw [c1] at c2
      simp at c2
    have hl := rv.length
    have h3 : its.toArray.size = i := by simp; omega
    refine wpAny_pyNext_enum_endD (Draws.tuple (A := X.A.in1) (I.ok.hd hc) it a nai its.toArray) he (by rw [h3]; exact ⟨hit, pT⟩) fun h' eb => ⟨rfl, I.turned (t' := s.toks) eb f0 f1 f3 f4 f5⟩
  self := fun A i s Q E st h => by
    obtain ⟨⟨_, he⟩, _⟩ := st
    exact wpAny_pyIter_enum he h
def iEnT (K : PySem.W.Frag) (ta : TA) : TI := fun σ H R => ta σ H fun vs H1 => ∃ a xs, vs = [.ref a] ∧ SqT K H1 a xs ∧ R (ItE K a) H1
theorem pi_enT {X : Cx} {e : Expr} {ta : TA} {p pos tpos : Pos} {elts : List Expr} {kk : Nat} (hg : Gl X "enumerate") (hm : X.mg "enumerate" = none) (ha : PA X [e] ta) (hs : starEach [e] X.env = [(false, eval e X.env)] := by rfl) :
    PI X (.Tuple elts kk tpos) (.Call (.Name "enumerate" p) [e] [] pos) (iEnT X.K ta) := by
  refine ⟨fun pins s σ H R I h => Call_ (ld_blt I hg hm boot_enumerate (PyProof.Rows.callWith_type1 (thn (ha.run pos pins s σ H _ I h) ?_) hs rfl))⟩
  rintro us s1 ⟨vs, H1, I1, r1, a, xs, rfl, hq, q⟩
  obtain rfl := Vals.ref1 r1
  obtain ⟨its, rv, p', hz⟩ := I1.tuple hq
  refine enum_call_tup (show s1.heap.IsTuple a its.toArray from p') fun h' he hit hk => wpAny_pyIter_enum he ?_
  have I2 := I1.kept (h' := h') (t' := s1.toks) hk
  refine ⟨s1.heap.objs.size + 1, [s1.heap.objs.size + 1, s1.heap.objs.size], _, _, H1, rfl, I2, turn_E a _ _, ⟨⟨_, he⟩, hit, Nat.succ_ne_self _⟩, fun b hb => ?_, q⟩
  have hle : s1.heap.objs.size ≤ b := by
    rcases (show b = s1.heap.objs.size + 1 ∨ b = s1.heap.objs.size by simpa using hb) with z | z
    · rw [z]; exact Nat.le_add_right _ _
    · rw [z]; exact Nat.le_refl _
  exact I1.fpOk hle (I1.hok.fresh hle)
/-- what enumerate gives -/
def enumD (ds : List Dt) : List Dt := (List.range ds.length).map fun i => .tuple [.int (i : Nat), ds.getD i .none]
theorem enumD_len (ds : List Dt) : (enumD ds).length = ds.length := by unfold enumD; rw [List.length_map, List.length_range]
theorem enumD_get {ds : List Dt} {i : Nat} {d : Dt} (h : (enumD ds)[i]? = some d) : ∃ x, ds[i]? = some x ∧ d = .tuple [.int (i : Nat), x] := by
  have hl : i < ds.length := by rw [← enumD_len]; exact (List.getElem?_eq_some_iff.mp h).1
  unfold enumD at h
  rw [List.getElem?_map, List.getElem?_range hl] at h
  refine ⟨ds[i], List.getElem?_eq_getElem hl, ?_⟩
  rw [← Option.some.inj h]
  show PyData.tuple [PyData.int (i : Nat), ds.getD i PyData.none] = _
  rw [List.getD_eq_getElem?_getD, List.getElem?_eq_getElem hl]
  rfl
section
variable {Z : Zx} {ρ : List Sl} {ta te : TE} {ds : List Dt} {d : Dt}
theorem i_enT (h : EvD Z ta ρ (.tuple ds)) : EvI Z (iEnT Z.K (tCons ta tNil)) ρ (enumD ds) := fun F0 H0 F H σ e w R q =>
  h F0 H0 F H σ e w _ fun v F1 H1 n1 p1 => by
    obtain ⟨p, vs, rfl, s, a⟩ := dp_tup p1
    have hl := dpAll_len a
    refine ⟨p, vs, rfl, xex_t n1.i s, q _ F1 H1 n1 ⟨fun F' H' i e1 e2 h => ?_, fun F' H' e1 e2 => ⟨vs, xex_t (e1.trans e2) s, by rw [enumD_len]; exact hl⟩, fun F' H' i x H3 d e1 e2 y hd => ?_⟩⟩
    · rw [enumD_len] at h
      exact ⟨vs, vs[i]'(by omega), xex_t (e1.trans e2) s, List.getElem?_eq_getElem _⟩
    · obtain ⟨T, x', rfl, hT, rfl, hx⟩ := y
      obtain ⟨c, hc, rfl⟩ := enumD_get hd
      obtain ⟨v, h1, h2⟩ := dpAll_get a hc
      have hv := hx vs (xex_t (e1.trans e2) s)
      rw [h1] at hv
      rw [← Option.some.inj hv]
      exact ⟨_, Nx.both e2 hT, .tup (Or.inl (Or.inl upd_same)) (.cons (.int _) (.cons (dp_ex (e1.trans (XEx.new (none_back e2 hT))) _ _ h2) .nil))⟩
end

/-! ### max(xs, default=d), max(xs), xs.index(y) -/
def optD : Option Int → Dt
  | none => .none
  | some i => .int i
def maxI : List Int → Option Int
  | [] => none
  | n :: r => some (r.foldl max n)
theorem foldl_max_ge : ∀ (r : List Int) (n : Int), n ≤ r.foldl max n ∧ ∀ y ∈ r, y ≤ r.foldl max n
  | [], n => ⟨Int.le_refl _, fun y h => by cases h⟩
  | a :: r, n => by
    obtain ⟨h1, h2⟩ := foldl_max_ge r (max n a)
    refine ⟨by rw [List.foldl_cons]; omega, fun y hy => ?_⟩
    rw [List.foldl_cons]
    rcases List.mem_cons.mp hy with rfl | hy
    · omega
    · exact h2 y hy
theorem foldl_max_mem : ∀ (r : List Int) (n : Int), r.foldl max n = n ∨ r.foldl max n ∈ r
  | [], n => Or.inl rfl
  | a :: r, n => by
    rw [List.foldl_cons]
    rcases foldl_max_mem r (max n a) with h | h
    · rcases Int.le_total n a with q | q
      · right
        rw [h, Int.max_eq_right q]
        exact List.mem_cons_self
      · left
        rw [h, Int.max_eq_left q]
    · exact Or.inr (List.mem_cons_of_mem _ h)
theorem maxI_mem {ns : List Int} {m : Int} (h : maxI ns = some m) : m ∈ ns := by
  cases ns with
  | nil => cases h
  | cons n r =>
    have e : r.foldl max n = m := Option.some.inj h
    rcases foldl_max_mem r n with q | q
    · rw [← e, q]; exact List.mem_cons_self
    · rw [← e]; exact List.mem_cons_of_mem _ q
theorem maxI_ge {ns : List Int} {m : Int} (h : maxI ns = some m) : ∀ y ∈ ns, y ≤ m := by
  cases ns with
  | nil => cases h
  | cons n r =>
    have e : r.foldl max n = m := Option.some.inj h
    intro y hy
    rw [← e]
    rcases List.mem_cons.mp hy with rfl | hy
    · exact (foldl_max_ge r _).1
    · exact (foldl_max_ge r n).2 y hy
theorem maxI_some {ns : List Int} (h : ns ≠ []) : ∃ m, maxI ns = some m := by
  cases ns with
  | nil => exact absurd rfl h
  | cons n r => exact ⟨_, rfl⟩
theorem maxI_is {ns : List Int} {m : Int} (h1 : m ∈ ns) (h2 : ∀ y ∈ ns, y ≤ m) : maxI ns = some m := by
  obtain ⟨k, hk⟩ := maxI_some (ns := ns) (fun z => by rw [z] at h1; cases h1)
  have a := maxI_ge hk m h1
  have b := h2 k (maxI_mem hk)
  rw [hk, show k = m by omega]
theorem alike_ints (ns : List Int) : PySem.W.AlikeAll (intsD ns) := by
  refine ⟨fun x hx y hy => ?_, fun x hx => ?_⟩
  · obtain ⟨a, _, rfl⟩ := List.mem_map.mp hx
    obtain ⟨b, _, rfl⟩ := List.mem_map.mp hy
    rfl
  · obtain ⟨a, _, rfl⟩ := List.mem_map.mp hx
    exact fun z => by cases z
theorem depth_ints : ∀ ns : List Int, PyData.depthAll (intsD ns) = 0
  | [] => by simp [intsD, PyData.depthAll]
  | n :: ns => by
    have h := depth_ints ns
    show max (PyData.depth (.int n)) (PyData.depthAll (intsD ns)) = 0
    rw [h]
    simp [PyData.depth]
def rMxD (K : PySem.W.Frag) : List V → List V → Hp → VK → Prop := fun vs zs H Q => ∃ (a : Addr) (ns : List Int), vs = [V.ref a] ∧ zs = [.non] ∧ SqL K H a (ns.map V.int) ∧ Q (match maxI ns with | none => .non | some m => .int m) H
theorem c_maxD {X : Cx} (hc : X.calm = true) (hu : X.A.units + 64 < cLine) : CallRK X (.builtin "max") [Str.ofString "default"] (rMxD X.K) := by
  intro pins s σ H vs zs us ws Q I r rz h
  obtain ⟨a, ns, rfl, rfl, hs, q⟩ := h
  obtain rfl := Vals.ref1 r
  obtain ⟨w1, rfl, e1⟩ := vals1 rz
  obtain rfl : w1 = Value.none := e1
  obtain ⟨its, rv, hl, _⟩ := I.list hs
  obtain ⟨as, ra⟩ := Dp.readsAll I (intsD ns) _ its (dpAll_of_ints ns) rv
  show wpAny (model X.prog X.w) X.A (call (.builtin "max") [.ref a] [(Str.ofString "default", Value.none)]) (EP X pins σ Q) X.xe s
  refine PySem.W.max_list_default (I.ok.hd hc) hl.isList ra (alike_ints ns) (by rw [depth_ints]; omega) (fun hz h' tk hk => ?_) (fun y ys i v h' tk bs hz hv hr hk => ?_)
  · have e : ns = [] := by
      cases ns with
      | nil => rfl
      | cons n r => cases hz
    subst e
    exact ⟨.non, H, I.kept hk, rfl, q⟩
  · cases ns with
    | nil => cases hz
    | cons n r =>
      have e : (PyData.int n : PyData) = y ∧ intsD r = ys := by
        have hz' : PyData.int n :: intsD r = y :: ys := hz
        injection hz' with h1 h2
        exact ⟨h1, h2⟩
      obtain ⟨rfl, rfl⟩ := e
      rw [show PySem.W.maxD (.int n) (intsD r) = .int (r.foldl max n) from PySem.W.maxD_ints n r] at hr
      cases hr
      exact ⟨.int (r.foldl max n), H, I.kept hk, ⟨_, rfl⟩, q⟩
theorem c_max1 {X : Cx} (hc : X.calm = true) : CallR X (.builtin "max") (rMax X.K) := cr_max hc
theorem c_min1 {X : Cx} (hc : X.calm = true) : CallR X (.builtin "min") (rMin X.K) := cr_min hc
section
variable {Z : Zx} {ρ : List Sl} {ta te : TE} {ns : List Int} {d : Dt}
theorem d_maxD (h : EvV Z true ta ρ (intsD ns)) : EvD Z (tCKw (rMxD Z.K) (tCons ta tNil) (tCons (tC .non) tNil)) ρ (optD (maxI ns)) := fun F0 H0 F H σ e w Q q =>
  h F0 H0 F H σ e w _ fun p vs F1 H1 n1 s1 a1 => ⟨p, ns, rfl, rfl, by rw [← dpAll_ints a1]; exact s1, by
    cases hm : maxI ns with
    | none => rw [hm] at q; exact q _ F1 H1 n1 .non
    | some m => rw [hm] at q; exact q _ F1 H1 n1 (.int m)⟩
theorem d_max1 {m : Int} (h : EvV Z true ta ρ (intsD ns)) (hm : maxI ns = some m) : EvD Z (tCB (rMax Z.K) (tCons ta tNil)) ρ (.int m) := fun F0 H0 F H σ e w Q q =>
  h F0 H0 F H σ e w _ fun p vs F1 H1 n1 s1 a1 => ⟨p, ns, rfl, by rw [← dpAll_ints a1]; exact s1, List.length_pos_of_mem (maxI_mem hm), fun k h1 h2 => by
    have := maxI_is h1 h2
    rw [hm] at this
    rw [← Option.some.inj this]
    exact q _ F1 H1 n1 (.int m)⟩
theorem eqV_int (a b : Int) : eqV (.int a) (.int b) = decide (a = b) := by
  show (a == b) = _
  exact Bool.beq_eq_decide_eq a b
theorem flat_ints (ns : List Int) : (ns.map V.int).all flatV = true := by
  rw [List.all_map]
  exact List.all_eq_true.mpr fun _ _ => rfl
/-- xs.index(y) of ints: the first place -/
theorem d_index {y : Int} (h : EvV Z true ta ρ (intsD ns)) (hy : EvD Z te ρ (.int y)) (hm : y ∈ ns) : EvD Z (tBM Z.K "list" (rIndex Z.K) ta (tCons te tNil)) ρ (.int (ns.idxOf y : Nat)) := fun F0 H0 F H σ e w Q q =>
  h F0 H0 F H σ e w _ fun p vs F1 H1 n1 s1 a1 => by
    have ev := dpAll_ints a1
    subst ev
    refine ⟨Or.inl ⟨rfl, _, s1⟩, hy F0 H0 F1 H1 σ (e.step n1) w _ fun v F2 H2 n2 p2 => ?_⟩
    have hv := dp_int p2
    subst hv
    have hlt : ns.idxOf y < ns.length := List.idxOf_lt_length_of_mem hm
    refine ⟨p, _, .int y, ns.idxOf y, .int y, rfl, rfl, xex_l n2.h s1, rfl, flat_ints ns, ?_, by rw [eqV_int]; exact decide_eq_true rfl, fun m z' hlt2 hz => ?_, q _ F2 H2 (n1.trans n2) (.int _)⟩
    · rw [List.getElem?_map, List.getElem?_eq_getElem hlt, List.getElem_idxOf hlt]
      rfl
    · rw [List.getElem?_map] at hz
      have hml : m < ns.length := Nat.lt_trans hlt2 hlt
      rw [List.getElem?_eq_getElem hml] at hz
      have ez : V.int ns[m] = z' := Option.some.inj hz
      rw [← ez, eqV_int]
      refine decide_eq_false fun z => ?_
      have hn := List.not_of_lt_findIdx (p := (· == y)) (xs := ns) (i := m) hlt2
      rw [z] at hn
      simp at hn
end
section
variable {Z : Zx} {ρ : List Sl} {ta tb : TE} {ns : List Int}
theorem inV_ints (x : Int) : ∀ ns : List Int, inV (.int x) (ns.map V.int) = decide (x ∈ ns)
  | [] => rfl
  | n :: r => by
    have ih := inV_ints x r
    unfold inV at ih ⊢
    rw [List.map_cons, List.any_cons, ih]
    first | rw [eqV_int] | skip
    by_cases e : n = x
    · subst e; simp [eqV_int]
    · have e2 : ¬ x = n := fun z => e z.symm
      simp [eqV_int, e, e2, List.mem_cons]
theorem d_inI {k neg : Bool} {x : Int} (ha : EvD Z ta ρ (.int x)) (hb : EvV Z k tb ρ (intsD ns)) : EvD Z (tOp (rIn Z.K neg) ta tb) ρ (.bool (if neg then !decide (x ∈ ns) else decide (x ∈ ns))) := fun F0 H0 F H σ e w Q q =>
  ha F0 H0 F H σ e w _ fun v F1 H1 n1 p1 => hb F0 H0 F1 H1 σ (e.step n1) w _ fun p vs F2 H2 n2 s2 a2 => by
    have ev := dpAll_ints a2
    subst ev
    have hv := dp_int p1
    subst hv
    refine ⟨p, _, rfl, ?_, rfl, flat_ints ns, ?_⟩
    · cases k with
      | true => exact Or.inl s2
      | false => exact Or.inr s2
    · rw [inV_ints]
      exact q _ F2 H2 (n1.trans n2) (.bl _)
end
/-! ### sum of a list or a tuple -/
def rSumU (K : PySem.W.Frag) : List V → Hp → VK → Prop := fun vs H Q => rSum K vs H Q ∨ ∃ (a : Addr) (ns : List Int), vs = [V.ref a] ∧ SqT K H a (ns.map V.int) ∧ Q (.int ns.sum) H
theorem c_sumU {X : Cx} (hc : X.calm = true) : CallR X (.builtin "sum") (rSumU X.K) := by
  intro pins s σ H vs us Q I r h
  rcases h with h | ⟨a, ns, rfl, hs, q⟩
  · exact cr_sum hc pins s σ H vs us Q I r h
  · obtain ⟨its, rv, hl, _⟩ := I.tuple hs
    rw [Vals.ref1 r]
    obtain ⟨o, e, c, n, d⟩ := hl
    have hi := rv.ints
    have ht : s.heap.IsTuple a its.toArray := ⟨o, e, c, n, d⟩
    obtain ⟨xs, hx⟩ := hi.allInts.items
    have hn : numsOf (intItems xs).toList = ns := by rw [← hx]; exact hi.numsOf
    rw [nums_intItems] at hn
    rw [hx] at ht
    refine PySem.W.ktm_sumG (I.ok.hd hc) ht fun h' tk t' hk => ?_
    refine ⟨.int _, H, I.kept hk, ⟨_, rfl⟩, ?_⟩
    rw [preSum_eq, List.take_of_length_le (by simp), hn]
    exact q
section
variable {Z : Zx} {ρ : List Sl} {ta : TE} {ns : List Int}
theorem d_sum {k : Bool} (h : EvV Z k ta ρ (intsD ns)) : EvD Z (tCB (rSumU Z.K) (tCons ta tNil)) ρ (.int ns.sum) := fun F0 H0 F H σ e w Q q =>
  h F0 H0 F H σ e w _ fun p vs F1 H1 n1 s1 a1 => by
    have ev := dpAll_ints a1
    subst ev
    cases k with
    | true => exact Or.inl ⟨p, ns, rfl, s1, q _ F1 H1 n1 (.int _)⟩
    | false => exact Or.inr ⟨p, ns, rfl, s1, q _ F1 H1 n1 (.int _)⟩
end
end DL

set_option Elab.async false
set_option linter.all false
set_option maxRecDepth 100000
set_option maxHeartbeats 2000000
/-! DC: combinations of a list, at the library's level. -/
namespace CpComb
open PySem PySem.Spec
open Sem (wp)
theorem mro_cmb : mroOf (.type "itertools.combinations") = pure [.type "itertools.combinations", .type "object"] := by rw [mroOf_type]; kernel_rfl
theorem lookup_cmb_new : typeLookup (.type "itertools.combinations") "__new__" = pure (some (.builtin "itertools.combinations.__new__")) := by rw [typeLookup_type, builtinLookup_eq_fast]; kernel_rfl
theorem slot_cmb_init : Slot "itertools.combinations" "__init__" "object.__init__" :=
  .of (owner := "object") (n := "__init__") (by rw [typeLookup_type, builtinLookup_eq_fast]; kernel_rfl) (by decide +kernel) (by decide +kernel) (by decide +kernel)
    (by first | exact .inl (by decide +kernel) | exact .inr (by decide +kernel)) (by rw [isSubtype_type]; kernel_rfl)
theorem sub_cmb : isSubtype (.type "itertools.combinations") (.type "itertools.combinations") = pure true := by rw [isSubtype_type]; kernel_rfl
theorem called_cmb : TypeCalled "itertools.combinations" "itertools.combinations.__new__" "object.__init__" :=
  ⟨by decide +kernel, by decide +kernel, ⟨_, _, mro_cmb⟩, madeBy_type mro_cmb lookup_cmb_new (by decide +kernel), by decide +kernel, sub_cmb, slot_cmb_init⟩
theorem typeCall_cmb_2 (a b : Value) : checkTypeCall "itertools.combinations" ⟨[a, b], []⟩ = pure () := by kernel_rfl
theorem newCall_cmb_2 (a b : Value) : checkBuiltinCall "itertools.combinations.__new__" ⟨[.type "itertools.combinations", a, b], []⟩ = pure () := by kernel_rfl
theorem entry_cmb_new : entryFor table "itertools.combinations.__new__" = some Builtin.«itertools.combinations.__new__» := entryFor_of_tree (by kernel_rfl)
theorem slot_cmb_iter : Slot "itertools.combinations" "__iter__" "itertools.combinations.__iter__" :=
  .of (owner := "itertools.combinations") (n := "__iter__") (by rw [typeLookup_type, builtinLookup_eq_fast]; kernel_rfl) (by decide +kernel) (by decide +kernel) (by decide +kernel)
    (by first | exact .inl (by decide +kernel) | exact .inr (by decide +kernel)) sub_cmb
theorem slot_cmb_next : Slot "itertools.combinations" "__next__" "itertools.combinations.__next__" :=
  .of (owner := "itertools.combinations") (n := "__next__") (by rw [typeLookup_type, builtinLookup_eq_fast]; kernel_rfl) (by decide +kernel) (by decide +kernel) (by decide +kernel)
    (by first | exact .inl (by decide +kernel) | exact .inr (by decide +kernel)) sub_cmb
theorem entry_cmb_iter : entryFor table "itertools.combinations.__iter__" = some Builtin.«dict_keyiterator.__iter__» :=
  entryFor_alias (id' := "dict_keyiterator.__iter__") (by kernel_rfl) (by first | rfl | decide +kernel | (unfold String.splitOn; simp +decide [String.splitOnAux])) (by decide +kernel) (by kernel_rfl)
theorem entry_cmb_next : entryFor table "itertools.combinations.__next__" = some Builtin.«itertools.combinations.__next__» := entryFor_of_tree (by kernel_rfl)
abbrev cmbF (p : Addr) (f : Int) (r : Value) (q : List Nat) : Array Value := ([.ref p, rawInt f, r] ++ q.map fun (n : Nat) => rawInt n).toArray
abbrev IsCmb (h : Heap) (e p : Addr) (f : Int) (r : Value) (q : List Nat) : Prop := h.get? e = some { cls := .type "itertools.combinations", dict := none, data := .fields (cmbF p f r q), slots := #[] }
theorem args_cmb_iter (a : Value) : argsOk "itertools.combinations.__iter__" ⟨[a], []⟩ := by
  unfold argsOk; rw [signature?_of (id := "itertools.combinations.__iter__") (n := ['_', '_', 'r', 'e', 't', 'i', '_', '_']) (o := "itertools.combinations".toList.reverse) (by kernel_rfl) (by kernel_rfl : _ = some Manifest.sig_itertools_combinations)]; kernel_rfl
theorem args_cmb_next (a : Value) : argsOk "itertools.combinations.__next__" ⟨[a], []⟩ := by
  unfold argsOk; rw [signature?_of (id := "itertools.combinations.__next__") (n := ['_', '_', 't', 'x', 'e', 'n', '_', '_']) (o := "itertools.combinations".toList.reverse) (by kernel_rfl) (by kernel_rfl : _ = some Manifest.sig_itertools_combinations)]; kernel_rfl
/-- the step from one way to the next one -/
def stepC (n : Nat) (q : List Nat) : Option (List Nat) :=
  match (List.range q.length).reverse.find? (fun j => q.getD j 0 != j + n - q.length) with
  | Option.none => Option.none
  | some j => some (q.take j ++ (List.range (q.length - j)).map (q.getD j 0 + 1 + ·))
section
variable {prog : Program} {w : World} {A : Around} {E : Value → Shared → Prop} {s : Shared}
theorem iter_cmb {e p : Addr} {f : Int} {r : Value} {q : List Nat} {Q : Value → Shared → Prop} (he : IsCmb s.heap e p f r q) (h : Q (.ref e) s) : wpAny (model prog w) A (pyIter (.ref e)) Q E s := by
  have hT : s.TypeIs (.ref e) "itertools.combinations" := ⟨_, he, rfl⟩
  refine wpAny_pyIter_slot hT slot_cmb_iter (wpAny_call_entry slot_cmb_iter hT entry_cmb_iter ?_ (args_cmb_iter _))
  show wpAny _ _ (ret (.ref e)) _ _ s
  exact wpAny_pure ⟨_, rfl, "itertools.combinations", _, hT, slot_cmb_next.lookup, h⟩
theorem cmbF_1 (p : Addr) (f f' : Int) (r : Value) (q : List Nat) : (cmbF p f r q).setIfInBounds 1 (rawInt f') = cmbF p f' r q := by simp [cmbF]
theorem cmbF_2 (p : Addr) (f : Int) (r r' : Value) (q : List Nat) : (cmbF p f r q).setIfInBounds 2 r' = cmbF p f r' q := by simp [cmbF]
theorem cmbF_q (p : Addr) (f : Int) (r : Value) (q : List Nat) (g : Value → Nat) (hg : ∀ x : Nat, g (rawInt x) = x) : List.map g (List.drop 3 (cmbF p f r q).toList) = q := by
  show List.map g (List.map _ q) = q
  rw [List.map_map]
  conv => rhs; rw [← List.map_id q]
  exact List.map_congr_left fun x _ => hg x
/-- a way is handed out: a new tuple, kept in the object -/
theorem cmb_first {e p : Addr} {r : Value} {q : List Nat} {items : Array Value} {Q : Option Value → Shared → Prop} (he : IsCmb s.heap e p 0 r q) (hp : ∃ o, s.heap.get? p = some o ∧ o.data = .seq items 0) (hne : p ≠ e)
    (hq : q.length ≤ 1000)
    (hQ : ∀ h', IsCmb h' e p 1 (.ref s.heap.objs.size) q → h'.get? s.heap.objs.size = some { cls := .type "tuple", data := .seq (q.map fun i => items.getD i .none).toArray } → (∀ b o, b ≠ e → s.heap.get? b = some o → h'.get? b = some o) → Q (some (.ref s.heap.objs.size)) { s with heap := h' }) :
    wpAny (model prog w) A (pyNext (.ref e)) Q E s := by
  have hT : s.TypeIs (.ref e) "itertools.combinations" := ⟨_, he, rfl⟩
  unfold pyNext
  refine wpAny_bind (wpAny_attempt (wpAny_callSpecial?_slot (name := Str.ofString "__next__") hT slot_cmb_next
    (wpAny_call_entry slot_cmb_next hT entry_cmb_next ?_ (args_cmb_next _))))
  obtain ⟨hp0, g, dd, tk, os⟩ := s
  obtain ⟨⟨oc, od, odt, osl⟩, hp1, hp2⟩ := hp
  dsimp only at hp2
  subst hp2
  have he' : hp0.get? e = some { cls := .type "itertools.combinations", dict := none, data := .fields (cmbF p 0 r q), slots := #[] } := he
  have hp1' : hp0.get? p = some { cls := oc, dict := od, data := .seq items 0, slots := osl } := hp1
  have hs : (hp0.update e (Obj.mapFields fun x => x.setIfInBounds 1 (rawInt 1))).objs.size = hp0.objs.size := Heap.size_after_update ..
  have hsz : ∀ f : Nat → Value, (List.map f q).toArray.size ≤ sizeLine := fun f => by
    have : sizeLine = 16777216 := sizeLine_eq
    simp only [List.size_toArray, List.length_map]
    omega
  have he2 : (hp0.update e (Obj.mapFields fun x => x.setIfInBounds 1 (rawInt 1))).get? e = some { cls := .type "itertools.combinations", dict := none, data := .fields (cmbF p 1 r q), slots := #[] } := by
    rw [← cmbF_1 p 0 1 r q]
    exact Heap.get?_update_self _ he' rfl
  repeat (first | wp_step)
  rw [cmbF_q (hg := fun x => Int.toNat_natCast x)]
  refine wpAny_ite_false (decide_eq_false (Nat.not_lt.mpr (hsz _))) ?_
  repeat (first | wp_step)
  refine ⟨_, rfl, wpAny_pure ?_⟩
  rw [hs]
  refine hQ _ ?_ ?_ fun b o hb hbo => ?_
  · show Heap.get? _ _ = _
    rw [← cmbF_2 p 1 r (.ref hp0.objs.size) q]
    exact Heap.get?_update_self _ (Heap.get?_push_of_some _ he2) rfl
  · refine (Heap.get?_update_other _ _ (Nat.ne_of_lt (Heap.lt_size he'))).trans ?_
    have := Heap.get?_push_size (hp0.update e (Obj.mapFields fun x => x.setIfInBounds 1 (rawInt 1))) (o := { cls := .type "tuple", data := .seq (q.map fun i => items.getD i .none).toArray }) rfl
    rw [hs] at this
    exact this
  · refine (Heap.get?_update_other _ _ (Ne.symm hb)).trans (Heap.get?_push_of_some _ ((Heap.get?_update_other _ _ (Ne.symm hb)).trans hbo))
/-- the next way -/
theorem cmb_next {e p : Addr} {r : Value} {q q' : List Nat} {items : Array Value} {Q : Option Value → Shared → Prop} (he : IsCmb s.heap e p 1 r q) (hp : ∃ o, s.heap.get? p = some o ∧ o.data = .seq items 0) (hne : p ≠ e)
    (hq : q'.length ≤ 1000) (hst : stepC items.size q = some q')
    (hQ : ∀ h', IsCmb h' e p 1 (.ref s.heap.objs.size) q' → h'.get? s.heap.objs.size = some { cls := .type "tuple", data := .seq (q'.map fun i => items.getD i .none).toArray } → (∀ b o, b ≠ e → s.heap.get? b = some o → h'.get? b = some o) → Q (some (.ref s.heap.objs.size)) { s with heap := h' }) :
    wpAny (model prog w) A (pyNext (.ref e)) Q E s := by
  have hT : s.TypeIs (.ref e) "itertools.combinations" := ⟨_, he, rfl⟩
  unfold pyNext
  refine wpAny_bind (wpAny_attempt (wpAny_callSpecial?_slot (name := Str.ofString "__next__") hT slot_cmb_next
    (wpAny_call_entry slot_cmb_next hT entry_cmb_next ?_ (args_cmb_next _))))
  obtain ⟨hp0, g, dd, tk, os⟩ := s
  obtain ⟨⟨oc, od, odt, osl⟩, hp1, hp2⟩ := hp
  dsimp only at hp2
  subst hp2
  have he' : hp0.get? e = some { cls := .type "itertools.combinations", dict := none, data := .fields (cmbF p 1 r q), slots := #[] } := he
  have hp1' : hp0.get? p = some { cls := oc, dict := od, data := .seq items 0, slots := osl } := hp1
  repeat (first | wp_step)
  rw [cmbF_q (hg := fun x => Int.toNat_natCast x)]
  have hsz : ∀ f : Nat → Value, (List.map f q').toArray.size ≤ sizeLine := fun f => by
    have : sizeLine = 16777216 := sizeLine_eq
    simp only [List.size_toArray, List.length_map]
    omega
  split
  · rename_i nx hx
    have hx' : stepC items.size q = some nx := hx
    rw [hst] at hx'
    have hx2 := Option.some.inj hx'
    subst hx2
    have eF : (cmbF p 1 r q).extract 0 3 ++ (q'.map fun (n : Nat) => rawInt n).toArray = cmbF p 1 r q' := by
      simp [cmbF]
    refine wpAny_bind ?_
    show wpAny _ _ (updateFields e _) _ _ _
    refine wpAny_updateFields he' rfl ?_ (by
      rw [eF]
      have : sizeLine = 16777216 := sizeLine_eq
      simp [cmbF]
      omega)
    have hs : (hp0.update e (Obj.mapFields fun fs => fs.extract 0 3 ++ (q'.map fun (n : Nat) => rawInt n).toArray)).objs.size = hp0.objs.size := Heap.size_after_update ..
    have he2 : (hp0.update e (Obj.mapFields fun fs => fs.extract 0 3 ++ (q'.map fun (n : Nat) => rawInt n).toArray)).get? e = some { cls := .type "itertools.combinations", dict := none, data := .fields (cmbF p 1 r q'), slots := #[] } := by
      rw [← eF]
      exact Heap.get?_update_self _ he' rfl
    repeat (first | wp_step)
    refine wpAny_ite_false (decide_eq_false (Nat.not_lt.mpr (hsz _))) ?_
    repeat (first | wp_step)
    refine ⟨_, rfl, wpAny_pure ?_⟩
    rw [hs]
    refine hQ _ ?_ ?_ fun b o hb hbo => ?_
    · show Heap.get? _ _ = _
      rw [← cmbF_2 p 1 r (.ref hp0.objs.size) q']
      exact Heap.get?_update_self _ (Heap.get?_push_of_some _ he2) rfl
    · refine (Heap.get?_update_other _ _ (Nat.ne_of_lt (Heap.lt_size he'))).trans ?_
      have := Heap.get?_push_size (hp0.update e (Obj.mapFields fun fs => fs.extract 0 3 ++ (q'.map fun (n : Nat) => rawInt n).toArray)) (o := { cls := .type "tuple", data := .seq (q'.map fun i => items.getD i .none).toArray }) rfl
      rw [hs] at this
      exact this
    · refine (Heap.get?_update_other _ _ (Ne.symm hb)).trans (Heap.get?_push_of_some _ ((Heap.get?_update_other _ _ (Ne.symm hb)).trans hbo))
  · rename_i hx
    have hx' : stepC items.size q = none := hx
    rw [hst] at hx'
    cases hx'
/-- the end -/
theorem cmb_end {e p : Addr} {r : Value} {q : List Nat} {items : Array Value} {Q : Option Value → Shared → Prop} (hh : A.handled = none) (he : IsCmb s.heap e p 1 r q) (hp : ∃ o, s.heap.get? p = some o ∧ o.data = .seq items 0) (hne : p ≠ e)
    (hst : stepC items.size q = none)
    (hQ : ∀ h', (∀ b o, b ≠ e → s.heap.get? b = some o → h'.get? b = some o) → Q none { s with heap := h' }) :
    wpAny (model prog w) A (pyNext (.ref e)) Q E s := by
  have hT : s.TypeIs (.ref e) "itertools.combinations" := ⟨_, he, rfl⟩
  unfold pyNext
  refine wpAny_bind (wpAny_attempt (wpAny_callSpecial?_slot (name := Str.ofString "__next__") hT slot_cmb_next
    (wpAny_call_entry slot_cmb_next hT entry_cmb_next ?_ (args_cmb_next _))))
  obtain ⟨hp0, g, dd, tk, os⟩ := s
  obtain ⟨⟨oc, od, odt, osl⟩, hp1, hp2⟩ := hp
  dsimp only at hp2
  subst hp2
  have he' : hp0.get? e = some { cls := .type "itertools.combinations", dict := none, data := .fields (cmbF p 1 r q), slots := #[] } := he
  have hp1' : hp0.get? p = some { cls := oc, dict := od, data := .seq items 0, slots := osl } := hp1
  repeat (first | wp_step)
  rw [cmbF_q (hg := fun x => Int.toNat_natCast x)]
  split
  · rename_i nx hx
    have hx' : stepC items.size q = some nx := hx
    rw [hst] at hx'
    cases hx'
  · have he2 : (hp0.update e (Obj.mapFields fun x => x.setIfInBounds 1 (rawInt 2))).get? e = some { cls := .type "itertools.combinations", dict := none, data := .fields (cmbF p 2 r q), slots := #[] } := by
      rw [← cmbF_1 p 1 2 r q]
      exact Heap.get?_update_self _ he' rfl
    refine wpAny_bind (wpAny_setField he' rfl (by simp [cmbF]) ?_)
    show wpAny _ _ (newExc (.type "StopIteration") [] >>= _) _ _ _
    refine wpAny_bind ?_
    simp only [newExc, newTuple]
    refine wpAny_bind (wpAny_newObj_type ?_ (by size_fits))
    refine wpAny_bind (m := firstArgMember _ _) (wpAny_of_eq (a := Value.none) (by first | rfl | (simp only [firstArgMember]; rfl)) ?_)
    refine wpAny_newObj_type ?_ (by size_fits)
    simp only [raiseNew]
    refine wpAny_bind (wpAny_handled ?_)
    first | rw [show A.in1.handled = none from hh] | rw [hh]
    refine wpAny_bind (wpAny_pure (wpAny_throw ?_))
    refine wpAny_bind (wpAny_isInstance (T := "StopIteration") (b := true) ⟨_, Heap.get?_push_size _ rfl, rfl⟩ isSubtype_stop ?_)
    exact wpAny_pure (hQ _ fun b o hb hbo => Heap.get?_push_of_some _ (Heap.get?_push_of_some _ ((Heap.get?_update_other _ _ (Ne.symm hb)).trans hbo)))
end
theorem noDict_cmb : typeHasDict (.type "itertools.combinations") = false := by decide +kernel
theorem meets_cmb_new (l : Addr) (items : Array Value) (k : Nat) (t : Tok) (hk : k ≤ items.size) (hsz : items.size ≤ sizeLine) (hk2 : k ≤ 1000) :
    Meets (Builtin.«itertools.combinations.__new__» ⟨[.type "itertools.combinations", .ref l, .int (k : Nat) t], []⟩)
      (fun _ R s => s.heap.IsList l items ∧ ∀ h' : Heap, s.heap.objs.size ≤ h'.objs.size → (∀ b o', s.heap.get? b = some o' → h'.get? b = some o') → R (.ok (.ret (.ref (h'.objs.size + 1)))) { s with heap := (h'.push { cls := .type "tuple", data := .seq items }).push { cls := .type "itertools.combinations", data := .fields (cmbF h'.objs.size 0 .none (List.range k)) } }) :=
  .of_wp fun prog w A R s h => by
    obtain ⟨hp, g, dd, tk, os⟩ := s
    obtain ⟨ht, h⟩ := h
    have hsub := sub_cmb
    have hdi := noDict_cmb
    have hn : (decide (((k : Nat) : Int) < -(2 ^ 63 : Int)) || decide (((k : Nat) : Int) ≥ (2 ^ 63 : Int))) = false := by
      rw [decide_eq_false (by omega), decide_eq_false (by omega)]; rfl
    have hcol : ∀ {A' : Around} {E : Value → Shared → Prop} {Q : List Value → Shared → Prop}, (∀ h' : Heap, hp.objs.size ≤ h'.objs.size → (∀ b o', hp.get? b = some o' → h'.get? b = some o') → Q items.toList ⟨h', g, dd, tk, os⟩) → wpAny (model prog w) A' (collect (.ref l)) Q E ⟨hp, g, dd, tk, os⟩ := fun {A' E Q} q => by
      have ht' : Heap.IsList (Shared.heap ⟨hp, g, dd, tk, os⟩) l items.toList.toArray := by simpa using ht
      refine PyProof.Rows.collect_list (vs := items.toList) ht' (q _ ?_ fun b o' hb => ?_) (by simpa using hsz)
      · rw [Heap.size_after_update, Heap.size_push]; exact Nat.le_succ _
      · exact (Heap.get?_update_other _ _ (Nat.ne_of_gt (Heap.lt_size hb))).trans (Heap.get?_push_of_some _ hb)
    have hsub2 : isSubtype (.type "itertools.combinations") (.type ("itertools." ++ "combinations")) = pure true := by
      rw [show ("itertools." ++ "combinations" : String) = "itertools.combinations" by decide +kernel]
      exact sub_cmb
    repeat (first
      | with_reducible refine wpAny_of_eq hsub2 ?_
      | with_reducible apply hcol
      | (with_reducible refine wpAny_ite_false (decide_eq_false (ne_true_of_eq_false hn)) ?_)
      | wp_step
      | simp only [List.head?_cons, Option.some_or, List.getElem?_cons_succ, List.getElem?_cons_zero, List.length_cons, List.length_nil, List.forIn_nil]
      )
    intro h' hge hk'
    refine wpAny_ite_false (decide_eq_false (by omega)) ?_
    have hm : Builtin.Itertools.itTooMany ((k : Nat) : Int) = false := by
      show decide (((k : Nat) : Int) > 2 ^ 20) = false
      exact decide_eq_false (by omega)
    refine wpAny_ite_false (by rw [hm]; rfl) ?_
    simp only [newTuple]
    refine wpAny_bind (wpAny_newObj_type ?_ (by show items.toList.toArray.size ≤ sizeLine; simpa using hsz))
    refine wpAny_pure ?_
    refine wpAny_bind ?_
    have e1 : items.toList.toArray = items := by simp
    have e2 : (((k : Nat) : Int)).toNat = k := Int.toNat_natCast k
    have e3 : ¬ (k > items.toList.length) := by rw [Array.length_toList]; omega
    dsimp only
    rw [e1, e2, if_neg e3]
    unfold Builtin.Itertools.itNewRecord
    rw [hdi]
    have hsz2 : ∀ (a b c : Value) (f : Nat → Value), ([a, b, c] ++ (List.range k).map f).toArray.size ≤ sizeLine + 2 := fun a b c f => by
      have : sizeLine = 16777216 := sizeLine_eq
      simp only [List.size_toArray, List.length_append, List.length_map, List.length_range, List.length_cons, List.length_nil]
      omega
    refine wpAny_ite_true rfl ?_
    refine wpAny_newObj_type ?_ (hsz2 _ _ _ _)
    refine wpAny_pure ?_
    refine ⟨_, rfl, ?_⟩
    have hz : (h'.push { cls := .type "tuple", data := .seq items }).objs.size = h'.objs.size + 1 := Heap.size_push ..
    have hh := h h' hge hk'
    rw [← hz] at hh
    exact hh
section
variable {prog : Program} {w : World} {A : Around} {E : Value → Shared → Prop} {s : Shared}
theorem call_cmb {l : Addr} {items : Array Value} {k : Nat} {t : Tok} {Q : Value → Shared → Prop} (hl : s.heap.IsList l items) (hk : k ≤ items.size) (hsz : items.size ≤ sizeLine) (hk2 : k ≤ 1000)
    (h : ∀ h' e p, IsCmb h' e p 0 .none (List.range k) → (∃ o, h'.get? p = some o ∧ o.cls = .type "tuple" ∧ o.data = .seq items 0) → s.heap.objs.size ≤ p → s.heap.objs.size ≤ e → p ≠ e → (∀ b o, s.heap.get? b = some o → h'.get? b = some o) → Q (.ref e) { s with heap := h' }) :
    wpAny (model prog w) A (call (.type "itertools.combinations") [.ref l, .int (k : Nat) t]) Q E s := by
  refine callType_new called_cmb (by decide +kernel) (typeCall_cmb_2 _ _) (newCall_cmb_2 _ _) (fun obj => F.args_object_init_3 obj _ _) entry_cmb_new (meets_cmb_new l items k t hk hsz hk2) ⟨hl, fun h' hge hk' => ?_⟩
  have hz : (h'.push { cls := .type "tuple", data := .seq items }).objs.size = h'.objs.size + 1 := Heap.size_push ..
  have he := Heap.get?_push_size (h'.push { cls := .type "tuple", data := .seq items }) (o := { cls := .type "itertools.combinations", data := .fields (cmbF h'.objs.size 0 .none (List.range k)) }) rfl
  rw [hz] at he
  exact ⟨⟨_, he, rfl⟩, h _ _ h'.objs.size he ⟨_, Heap.get?_push_of_some _ (Heap.get?_push_size h' rfl), rfl, rfl⟩ hge (Nat.le_succ_of_le hge) (Nat.ne_of_lt (Nat.lt_succ_self _)) fun b o x => Heap.get?_push_of_some _ (Heap.get?_push_of_some _ (hk' b o x))⟩
end
end CpComb

set_option Elab.async false
set_option linter.all false
set_option maxRecDepth 100000
set_option maxHeartbeats 4000000
/-! DY: for .. in combinations(xs, k). -/
namespace DL
open PySem PySem.Spec PyProof.Rows L2 CpComb
variable [Nm]
/-- the ways one after another, as the iterator steps from one to the next -/
structure Chain (n : Nat) (ws : List (List Nat)) : Prop where
  ne : ws ≠ []
  first : ws[0]? = some (List.range (ws.headD []).length)
  step : ∀ (i : Nat) (w u : List Nat), ws[i]? = some w → ws[i + 1]? = some u → stepC n w = some u
  last : ∀ w, ws[ws.length - 1]? = some w → stepC n w = none
  lt : ∀ w ∈ ws, w.length ≤ 1000 ∧ ∀ j ∈ w, j < n
/-- the items at these places -/
def pickV (vs : List V) (w : List Nat) : List V := w.map fun j => vs.getD j .non
def ItC (vs : List V) (ws : List (List Nat)) : It where
  go := fun i _ => i < ws.length
  yld := fun i H v H' => ∃ T w, v = .ref T ∧ H T = none ∧ ws[i]? = some w ∧ H' = upd H T (.tup (pickV vs w))
  stop := fun i _ => i = ws.length
theorem pick_vals {vs : List V} {its : List Value} (rv : Vals vs its) : ∀ w : List Nat, (∀ j ∈ w, j < vs.length) → Vals (pickV vs w) (w.map fun i => its.toArray.getD i .none)
  | [], _ => .nil
  | j :: r, h => by
    have hj := h j (by simp)
    obtain ⟨u, hu, ru⟩ := rv.get (List.getElem?_eq_getElem hj)
    refine .cons ?_ (pick_vals rv r fun x hx => h x (by simp [hx]))
    have e1 : vs.getD j .non = vs[j] := by rw [List.getD_eq_getElem?_getD, List.getElem?_eq_getElem hj]; rfl
    have e2 : its.toArray.getD j .none = u := by
      rw [Array.getD_eq_getD_getElem?, List.getElem?_toArray, hu]; rfl
    show L2.RelV (vs.getD j .non) (its.toArray.getD j .none)
    rw [e1, e2]
    exact ru
/-- where the iterator stands -/
def CmbAt (items : Array Value) (ws : List (List Nat)) (e p : Addr) (i : Nat) (h : Heap) : Prop :=
  ((i = 0 ∧ ∃ r w, ws[0]? = some w ∧ IsCmb h e p 0 r w) ∨ ∃ j r w, i = j + 1 ∧ ws[j]? = some w ∧ IsCmb h e p 1 r w) ∧ (∃ o, h.get? p = some o ∧ o.data = .seq items 0) ∧ p ≠ e
theorem turn_C {P : Program} {w : World} {K : PySem.W.Frag} {tg : Expr} {vs : List V} {its : List Value} {ws : List (List Nat)} (e p : Addr) (rv : Vals vs its) (C : Chain vs.length ws) :
    Turn P w K tg (ItC vs ws) [e, p] e (fun i h => CmbAt its.toArray ws e p i h) where
  mem := by simp
  obj := fun i h st b hb => by
    obtain ⟨h1, ⟨o, ho, hd⟩, _⟩ := st
    rcases (show b = e ∨ b = p by simpa using hb) with rfl | rfl
    · rcases h1 with ⟨_, r, w, _, he⟩ | ⟨j, r, w, _, _, he⟩
      · exact ⟨_, he, fun v q => nomatch q⟩
      · exact ⟨_, he, fun v q => nomatch q⟩
    · exact ⟨o, ho, fun v q => by rw [hd] at q; cases q⟩
  keep := fun i h h' st k => by
    obtain ⟨h1, ⟨o, ho, hd⟩, hne⟩ := st
    refine ⟨?_, ⟨o, k p (by simp) _ ho, hd⟩, hne⟩
    rcases h1 with ⟨hi, r, w, hw, he⟩ | ⟨j, r, w, hi, hw, he⟩
    · exact .inl ⟨hi, r, w, hw, k e (by simp) _ he⟩
    · exact .inr ⟨j, r, w, hi, hw, k e (by simp) _ he⟩
  item := by
    intro X hP hw hK hc i pins s σ H E I hf st hg
    subst hP hw hK
    obtain ⟨h1, ⟨o, ho, hd⟩, hne⟩ := st
    have hi : i < ws.length := hg
    have hsz : its.toArray.size = vs.length := by rw [List.size_toArray, rv.length]
    have hel : e < s.heap.objs.size := by
      rcases h1 with ⟨_, r, w, _, he⟩ | ⟨j, r, w, _, _, he⟩ <;> exact Heap.lt_size he
    have hpl : p < s.heap.objs.size := Heap.lt_size ho
    have hk := C.lt ws[i] (List.getElem_mem hi)
    have go : ∀ (r : Value) (h' : Heap), IsCmb h' e p 1 (.ref s.heap.objs.size) ws[i] → h'.get? s.heap.objs.size = some { cls := .type "tuple", data := .seq (ws[i].map fun i => its.toArray.getD i .none).toArray } →
        (∀ b o, b ≠ e → s.heap.get? b = some o → h'.get? b = some o) →
        wpAny (model X.prog X.w) X.A (letOwnedTupleGo tg (.ref e) (.ref s.heap.objs.size)) (fun _ s2 => ∃ x H', Inv X pins σ H' s2 ∧ RelV x (.ref s.heap.objs.size) ∧ (ItC vs ws).yld i H x H' ∧ CmbAt its.toArray ws e p (i + 1) s2.heap ∧ ∀ b ∈ [e, p], H' b = none) E { s with heap := h' } := fun r h' he' hT k => by
      have lens : (pickV vs ws[i]).length ≤ sizeLine := by
        have : sizeLine = 16777216 := sizeLine_eq
        unfold pickV
        rw [List.length_map]
        omega
      have ok2 : ObjOk X.prog X.w (upd H s.heap.objs.size (.tup (pickV vs ws[i]))) h' s.heap.objs.size (.tup (pickV vs ws[i])) :=
        ⟨lens, _, pick_vals rv ws[i] hk.2, _, hT, rfl, _, rfl⟩
      have I1 : Inv X pins σ (upd H s.heap.objs.size (.tup (pickV vs ws[i]))) { s with heap := h' } := I.turnedNew (t' := s.toks) (ch := [e]) (fun b ob hb q => k b ob (fun z => hb (by simp [z])) q) (fun b hb => hf b (by
        rcases (show b = e by simpa using hb) with rfl
        simp)) (Nat.le_refl _) ok2
      refine go_of (s := { s with heap := h' }) he' rfl rfl (by decide) ⟨.ref s.heap.objs.size, _, I1, rfl, ⟨_, ws[i], rfl, I.hok.fresh (Nat.le_refl _), List.getElem?_eq_getElem hi, rfl⟩, ⟨.inr ⟨i, _, ws[i], rfl, List.getElem?_eq_getElem hi, he'⟩, ⟨o, k p o hne ho, hd⟩, hne⟩, fun b hb => ?_⟩
      have hb' : b < s.heap.objs.size := by
        rcases (show b = e ∨ b = p by simpa using hb) with z | z
        · rw [z]; exact hel
        · rw [z]; exact hpl
      rw [upd_ne (Nat.ne_of_lt hb')]
      exact (hf b hb).1
    rcases h1 with ⟨rfl, r, w, hw, he⟩ | ⟨j, r, w, rfl, hw, he⟩
    · have ew : w = ws[0] := by
        rw [List.getElem?_eq_getElem hi] at hw
        exact (Option.some.inj hw).symm
      subst ew
      exact cmb_first he ⟨o, ho, hd⟩ hne hk.1 fun h' a b c => ⟨_, rfl, go r h' a b c⟩
    · have hst := C.step j w ws[j + 1] hw (List.getElem?_eq_getElem hi)
      rw [← hsz] at hst
      exact cmb_next he ⟨o, ho, hd⟩ hne hk.1 hst fun h' a b c => ⟨_, rfl, go r h' a b c⟩
  done := by
    intro X hP hw hK hc i pins s σ H E I hf st hg
    subst hP hw hK
    obtain ⟨h1, ⟨o, ho, hd⟩, hne⟩ := st
    have hi : i = ws.length := hg
    have hsz : its.toArray.size = vs.length := by rw [List.size_toArray, rv.length]
    have hl : ws.length ≠ 0 := fun z => C.ne (List.length_eq_zero_iff.mp z)
    rcases h1 with ⟨h0, r, w, hw, he⟩ | ⟨j, r, w, hj, hw, he⟩
    · omega
    · have hst := C.last w (by rw [show ws.length - 1 = j by omega]; exact hw)
      rw [← hsz] at hst
      exact cmb_end (I.ok.hd hc) he ⟨o, ho, hd⟩ hne hst fun h' k => by
        obtain ⟨f0, f1, f2, f3, f4, f5⟩ := hf e (by simp)
        exact ⟨rfl, I.turned (t' := s.toks) (fun b ob hb q => k b ob hb q) f0 f1 f3 f4 f5⟩
  self := fun A i s Q E st h => by
    obtain ⟨h1, _⟩ := st
    rcases h1 with ⟨_, r, w, _, he⟩ | ⟨j, r, w, _, _, he⟩
    · exact iter_cmb he h
    · exact iter_cmb he h
/-- combinations(xs, k), xs a list -/
def iCmb (K : PySem.W.Frag) (ta : TA) : TI := fun σ H R => ta σ H fun vs H1 => ∃ (a : Addr) (xs : List V) (k : Nat) (ws : List (List Nat)), vs = [.ref a, .int (k : Nat)] ∧ SqL K H1 a xs ∧ Chain xs.length ws ∧ (ws.headD []).length = k ∧ k ≤ xs.length ∧ R (ItC xs ws) H1
theorem pi_cmb {X : Cx} {x : Str} {e e2 : Expr} {ta : TA} {p pos : Pos} {tg : Expr} (hg : Gl X x) (hm : X.mg x = some (.type "itertools.combinations")) (ha : PA X [e, e2] ta) (hdb : (x == ("__debug__" : Str)) = false := by decide)
    (hs : starEach [e, e2] X.env = (false, eval e X.env) :: starEach [e2] X.env := by rfl) (hpl : (backTo pos (starEach [e2] X.env)).any (·.1) = false := by rfl) :
    PI X tg (.Call (.Name x p) [e, e2] [] pos) (iCmb X.K ta) := by
  refine ⟨fun pins s σ H R I h => ?_⟩
  refine wpAny_Call_Name_kw (ld_glob I hg hm (PyProof.Rows.callWith_type1 (thn (ha.run pos pins s σ H _ I h) fun us s1 ⟨vs, H1, I1, r1, q1⟩ => ?_) hs hpl) hdb)
  obtain ⟨a, xs, k, ws, rfl, hq, C, hk, hkn, q⟩ := q1
  cases r1 with
  | cons r rr =>
    cases rr with
    | cons r' rr =>
      cases rr
      cases r
      obtain ⟨t, rfl⟩ := r'
      obtain ⟨its, rv, pl, hz⟩ := I1.list hq
      have hl := rv.length
      have hws : ws[0]? = some (List.range k) := by rw [← hk]; exact C.first
      have hk1 : k ≤ 1000 := by
        have := (C.lt _ (List.mem_of_getElem? hws)).1
        rw [List.length_range] at this
        exact this
      refine call_cmb (items := its.toArray) pl.isList (by rw [List.size_toArray, ← hl]; exact hkn) (by rw [List.size_toArray, ← hl]; exact hz) hk1 fun h' ee pp he hp h1 h2 hne hkeep => iter_cmb he ?_
      have I2 := I1.kept (h' := h') (t' := s1.toks) hkeep
      obtain ⟨op, hp1, _, hp2⟩ := hp
      refine ⟨ee, [ee, pp], _, _, H1, rfl, I2, turn_C ee pp rv C, ⟨.inl ⟨rfl, _, _, hws, he⟩, ⟨op, hp1, hp2⟩, hne⟩, fun b hb => ?_, q⟩
      have hle : s1.heap.objs.size ≤ b := by
        rcases (show b = ee ∨ b = pp by simpa using hb) with z | z
        · rw [z]; exact h2
        · rw [z]; exact h1
      exact I1.fpOk hle (I1.hok.fresh hle)
section
variable {Z : Zx} {ρ : List Sl} {ta tb : TE} {ds : List Dt}
def pickD (ds : List Dt) (w : List Nat) : List Dt := w.map fun j => ds.getD j .none
theorem pick_dp {K : PySem.W.Frag} {F : Hp} {vs : List V} (a : DpAll K F vs ds) : ∀ w : List Nat, (∀ j ∈ w, j < ds.length) → DpAll K F (pickV vs w) (pickD ds w)
  | [], _ => .nil
  | j :: r, h => by
    have hj := h j (by simp)
    obtain ⟨v, hv, dv⟩ := dpAll_get a (List.getElem?_eq_getElem hj)
    refine .cons ?_ (pick_dp a r fun x hx => h x (by simp [hx]))
    show Dp K F (vs.getD j .non) (ds.getD j .none)
    rw [List.getD_eq_getElem?_getD, hv, List.getD_eq_getElem?_getD, List.getElem?_eq_getElem hj]
    exact dv
theorem i_cmb {b : Bool} {k : Nat} {ws : List (List Nat)} (ha : EvV Z true ta ρ ds) (hb : EvD Z tb ρ (.int (k : Nat))) (C : Chain ds.length ws) (hk : (ws.headD []).length = k) (hkn : k ≤ ds.length) :
    EvI Z (iCmb Z.K (tCons ta (tCons tb tNil))) ρ (ws.map fun w => .tuple (pickD ds w)) := fun F0 H0 F H σ e w R q =>
  ha F0 H0 F H σ e w _ fun p vs F1 H1 n1 s1 a1 => hb F0 H0 F1 H1 σ (e.step n1) w _ fun v F2 H2 n2 p2 => by
    have hl := dpAll_len a1
    have hv := dp_int p2
    subst hv
    have a2 := dpAll_ex n2.f _ _ a1
    refine ⟨p, vs, k, ws, rfl, xex_l n2.h s1, by rw [hl]; exact C, hk, by rw [hl]; exact hkn, q _ F2 H2 (n1.trans n2) ⟨fun F' H' i e1 e2 h => ?_, fun F' H' e1 e2 => ?_, fun F' H' i x H3 d e1 e2 y hd => ?_⟩⟩
    · rw [List.length_map] at h; exact h
    · show _ = _; rw [List.length_map]
    · obtain ⟨T, w', rfl, hT, hw, rfl⟩ := y
      rw [List.getElem?_map, hw] at hd
      have ed : PyData.tuple (pickD ds w') = d := Option.some.inj hd
      subst ed
      refine ⟨_, Nx.both e2 hT, .tup (Or.inl (Or.inl upd_same)) (dpAll_ex (e1.trans (XEx.new (none_back e2 hT))) _ _ (pick_dp a2 w' (C.lt w' (List.mem_of_getElem? hw)).2))⟩
end
/-! ### the ways of k out of n -/
def waysN {α : Type} : List α → Nat → List (List α)
  | _, 0 => [[]]
  | [], _ + 1 => []
  | x :: r, k + 1 => (waysN r k).map (x :: ·) ++ waysN r (k + 1)
theorem waysN_map {α β : Type} (f : α → β) : ∀ (xs : List α) (k : Nat), waysN (xs.map f) k = (waysN xs k).map (List.map f)
  | [], 0 => rfl
  | _ :: _, 0 => rfl
  | [], _ + 1 => rfl
  | x :: r, k + 1 => by
    show (waysN (r.map f) k).map (f x :: ·) ++ waysN (r.map f) (k + 1) = ((waysN r k).map (x :: ·) ++ waysN r (k + 1)).map (List.map f)
    rw [waysN_map f r k, waysN_map f r (k + 1), List.map_append, List.map_map, List.map_map]
    rfl
def chainB (n : Nat) (ws : List (List Nat)) : Bool :=
  !ws.isEmpty && decide (ws[0]? = some (List.range (ws.headD []).length)) && (List.range ws.length).all (fun i => decide (stepC n (ws.getD i []) = ws[i + 1]?)) && ws.all fun w => decide (w.length ≤ 1000) && w.all fun j => decide (j < n)
theorem chain_of {n : Nat} {ws : List (List Nat)} (h : chainB n ws = true) : Chain n ws := by
  unfold chainB at h
  simp only [Bool.and_eq_true, decide_eq_true_eq, List.all_eq_true, Bool.not_eq_true', List.mem_range] at h
  obtain ⟨⟨⟨h1, h2⟩, h3⟩, h4⟩ := h
  have hne : ws ≠ [] := fun z => by rw [z] at h1; simp at h1
  have hl : 0 < ws.length := List.length_pos_iff.mpr hne
  refine ⟨hne, h2, fun i w u hw hu => ?_, fun w hw => ?_, fun w hw => ⟨(h4 w hw).1, (h4 w hw).2⟩⟩
  · have hi : i < ws.length := (List.getElem?_eq_some_iff.mp hw).1
    have := h3 i hi
    rw [List.getD_eq_getElem?_getD, hw, hu] at this
    exact this
  · have hi : ws.length - 1 < ws.length := by omega
    have := h3 _ hi
    rw [List.getD_eq_getElem?_getD, hw, show ws.length - 1 + 1 = ws.length by omega, List.getElem?_eq_none (Nat.le_refl _)] at this
    exact this
def chainsB : Bool := (List.range 9).all fun n => (List.range 4).all fun k => decide (n < k) || (chainB n (waysN (List.range n) k) && decide (((waysN (List.range n) k).headD []).length = k))
theorem chains_ok : chainsB = true := by decide +kernel
theorem ways_chain {n k : Nat} (hn : n ≤ 8) (hk : k ≤ 3) (hkn : k ≤ n) : Chain n (waysN (List.range n) k) ∧ ((waysN (List.range n) k).headD []).length = k := by
  have h := chains_ok
  unfold chainsB at h
  have h2 := List.all_eq_true.mp h n (List.mem_range.mpr (by omega))
  have h3 := List.all_eq_true.mp h2 k (List.mem_range.mpr (by omega))
  rw [decide_eq_false (by omega), Bool.false_or, Bool.and_eq_true] at h3
  exact ⟨chain_of h3.1, of_decide_eq_true h3.2⟩
theorem pi_UK {X : Cx} {K : PySem.W.Frag} {tg l : Expr} {tl : TE} (hK : X.K = K) (hl : PE X l tl) : PI X tg l (iU K tl) := by
  subst hK
  exact pi_U hl
theorem ix_UK {X : Cx} {K : PySem.W.Frag} (hK : X.K = K) : IxR X (rIxU K) := by
  subst hK
  exact ix_U
end DL

set_option Elab.async false
set_option linter.all false
set_option maxRecDepth 100000
set_option maxHeartbeats 4000000
/-! DF: rows that hold a list of their own: handed back, changed behind. -/
namespace DL
open PySem PySem.Spec PyProof.Rows L2
variable [Nm]
/-- a row of three, its last thing a list at an address of which N is true -/
def RowAt (N : Addr → Prop) (n : Nat) (H : Hp) (v : V) : Prop := ∃ (t : Addr) (x y : V) (q : Addr) (rs : List V), v = .ref t ∧ H t = some (.tup [x, y, .ref q]) ∧ H q = some (.lst rs) ∧ rs.length ≤ n ∧ N q
theorem RowAt.ex {N : Addr → Prop} {n : Nat} {H G : Hp} {v : V} (e : XEx H G) (h : RowAt N n H v) : RowAt N n G v := by
  obtain ⟨t, x, y, q, rs, h1, h2, h3, h4, h5⟩ := h
  exact ⟨t, x, y, q, rs, h1, e.k t _ h2 (fun _ z => nomatch z), e.k q _ h3 (fun _ z => nomatch z), h4, h5⟩
theorem RowAt.imp {N M : Addr → Prop} {n m : Nat} {H : Hp} {v : V} (hn : n ≤ m) (i : ∀ q rs, H q = some (.lst rs) → N q → M q) (h : RowAt N n H v) : RowAt M m H v := by
  obtain ⟨t, x, y, q, rs, h1, h2, h3, h4, h5⟩ := h
  exact ⟨t, x, y, q, rs, h1, h2, h3, Nat.le_trans h4 hn, i q rs h3 h5⟩
/-- another list changes -/
theorem RowAt.other {N : Addr → Prop} {n : Nat} {H : Hp} {v : V} {p : Addr} {vs ws : List V} (hp : H p = some (.lst vs)) (hN : ∀ q, N q → q ≠ p) (h : RowAt N n H v) : RowAt N n (upd H p (.lst ws)) v := by
  obtain ⟨t, x, y, q, rs, h1, h2, h3, h4, h5⟩ := h
  exact ⟨t, x, y, q, rs, h1, by rw [upd_ne (fun z => by rw [z, hp] at h2; cases h2)]; exact h2, by rw [upd_ne (hN q h5)]; exact h3, h4, h5⟩
/-- one more in a row's list -/
theorem RowAt.more {N : Addr → Prop} {n : Nat} {H : Hp} {v : V} {p : Addr} {rs : List V} {u : V} (hp : H p = some (.lst rs)) (hl : rs.length ≤ n) (h : RowAt N n H v) : RowAt N (n + 1) (upd H p (.lst (rs ++ [u]))) v := by
  obtain ⟨t, x, y, q, ws, h1, h2, h3, h4, h5⟩ := h
  have ht : t ≠ p := fun z => by rw [z, hp] at h2; cases h2
  by_cases hq : q = p
  · exact ⟨t, x, y, q, rs ++ [u], h1, by rw [upd_ne ht]; exact h2, by rw [hq]; exact upd_same, by rw [List.length_append]; exact Nat.add_le_add_right hl 1, h5⟩
  · exact ⟨t, x, y, q, ws, h1, by rw [upd_ne ht]; exact h2, by rw [upd_ne hq]; exact h3, Nat.le_succ_of_le h4, h5⟩
def spR {α : Type} (K : PySem.W.Frag) (args : α → List Dt) (ok : α → Prop) (f : α → Dt) : Sp := fun vs H Q _ => ∃ F a, XEx F H ∧ DpAll K F vs (args a) ∧ ok a ∧ Tb H ∧
  ∀ v F' H', Nx F H F' H' → Dp K F' v (f a) → RowAt (fun q => H q = none) 100 H' v → Q v H'
def spLR {α : Type} (K : PySem.W.Frag) (args : α → List Dt) (ok : α → Prop) (f : α → List Dt) : Sp := fun vs H Q _ => ∃ F a, XEx F H ∧ DpAll K F vs (args a) ∧ ok a ∧ Tb H ∧
  ∀ p vs F' H', Nx F H F' H' → H p = none → F' p = none → H' p = some (.lst vs) → DpAll K F' vs (f a) → (∀ v ∈ vs, RowAt (fun q => H q = none ∧ q ≠ p) 100 H' v) → Q (.ref p) H'
section
variable {K : PySem.W.Frag} {ρ : List Sl}
def EvR (K : PySem.W.Frag) (t : TS) (ρ : List Sl) (d : Dt) : Prop := ∀ F H σ, Env K F H F H σ ρ → Tb H → ∀ D : Ends, (∀ v F' H', Nx F H F' H' → Dp K F' v d → RowAt (fun q => H q = none) 100 H' v → D.rt v H') → t D σ H
def EvLR (K : PySem.W.Frag) (t : TS) (ρ : List Sl) (ds : List Dt) : Prop := ∀ F H σ, Env K F H F H σ ρ → Tb H → ∀ D : Ends,
  (∀ p vs F' H', Nx F H F' H' → H p = none → F' p = none → H' p = some (.lst vs) → DpAll K F' vs ds → (∀ v ∈ vs, RowAt (fun q => H q = none ∧ q ≠ p) 100 H' v) → D.rt (.ref p) H') → t D σ H
def EvDR (K : PySem.W.Frag) (te : TE) (ρ : List Sl) (d : Dt) : Prop := ∀ F0 H0 F H σ, Env K F0 H0 F H σ ρ → Wish (Z0 K) F0 H0 → ∀ Q : VK, (∀ v F' H', Nx F H F' H' → Dp K F' v d → RowAt (fun q => H q = none) 100 H' v → Q v H') → te σ H Q
theorem r_call {α : Type} {args : α → List Dt} {ok : α → Prop} {f : α → Dt} {E : XK} {tr : TA} (a : α) (h : EvA (Z0 K) tr ρ (args a)) (ho : ok a) : EvDR K (tCall (spR K args ok f) [] E tr) ρ (f a) := fun F0 H0 F H σ e w Q q =>
  h F0 H0 F H σ e w _ fun vs F1 H1 n1 a1 => ⟨F1, a, n1.i, by rw [List.append_nil]; exact a1, ho, wish_tb w e n1, fun v F2 H2 n2 p2 r2 => q v F2 H2 (n1.trans n2) p2 (r2.imp (Nat.le_refl _) fun x _ _ hx => none_back n1.h hx)⟩
theorem l_callR {Z : Zx} {α : Type} {args : α → List Dt} {ok : α → Prop} {f : α → List Dt} {E : XK} {tr : TA} (a : α) (h : EvA Z tr ρ (args a)) (ho : ok a) : EvL Z (tCall (spLR Z.K args ok f) [] E tr) ρ (f a) := fun F0 H0 F H σ e w Q q =>
  h F0 H0 F H σ e w _ fun vs F1 H1 n1 a1 => ⟨F1, a, n1.i, by rw [List.append_nil]; exact a1, ho, wish_tb w e n1, fun p us F2 H2 n2 hn hF hp a2 _ => q p us F2 H2 (n1.trans n2) (none_back n1.h hn) hF hp a2⟩
/-- a = .., b = [..], return (.., a, b) -/
theorem ev_row {i j : Nat} {te1 te2 te3 : TE} {d1 d3 : Dt} {ds : List Dt} (hij : i ≠ j) (hi : i < ρ.length) (hj : j < ρ.length) (h1 : EvD (Z0 K) te1 ρ d1) (h2 : EvL (Z0 K) te2 (ρ.set i (.dat d1)) ds) (h3 : EvD (Z0 K) te3 ((ρ.set i (.dat d1)).set j (.own ds)) d3) (hl : ds.length ≤ 100) :
    EvR K (tSeq (tAsg te1 (gName i)) (tSeq (tAsg te2 (gName j)) (tRet (tTup (tCons te3 (tCons (tVar i) (tCons (tVar j) tNil))))))) ρ (.tuple [d3, d1, .list ds]) := by
  intro F H σ e tb D q
  refine h1 F H F H σ e (wish0 tb) _ fun v1 F1 H1 n1 p1 => ?_
  have e1 := (e.step n1).set (i := i) p1
  refine h2 F H F1 H1 _ e1 (wish0 tb) _ fun r vs F2 H2 n2 hn hF hr a2 => ?_
  have e2 := e1.setOwn (i := j) n2 hn hF hr a2
  refine h3 F H F2 H2 _ e2 (wish0 tb) _ fun v3 F3 H3 n3 p3 => ?_
  have e3 := e2.step n3
  obtain ⟨w1, g1, k1⟩ := e3.dat (i := i) (d := d1) (by rw [List.getElem?_set, if_neg (fun z => hij z.symm), List.getElem?_set, if_pos rfl, if_pos hi])
  obtain ⟨p, ws, g2, h0, hF3, hH3, a3⟩ := e3.own (i := j) (ds := ds) (by rw [List.getElem?_set, if_pos rfl, if_pos (by rw [List.length_set]; exact hj)])
  refine ⟨w1, g1, .ref p, g2, Evl.sz_of (by show 3 ≤ 100000; decide), fun t ht => ?_⟩
  have nt : p ≠ t := fun z => by rw [z, ht] at hH3; cases hH3
  have na := e3.g.shut h0 hF3 hH3
  have nb := Nx.both (o := .tup [v3, w1, .ref p]) na.i ht
  have x1 : XEx F3 (upd F3 p (.lst ws)) := XEx.new hF3
  have x2 := x1.trans nb.f
  refine q (.ref t) _ _ (na.trans nb) (.tup (Or.inl (Or.inl upd_same)) (.cons (dp_ex x2 _ _ p3) (.cons (dp_ex x2 _ _ k1) (.cons (.lst (Or.inl (Or.inl ?_)) (dpAll_ex x2 _ _ a3)) .nil)))) ⟨t, v3, w1, p, ws, rfl, upd_same, ?_, by rw [dpAll_len a3]; exact hl, h0⟩
  · rw [upd_ne nt]; exact upd_same
  · rw [upd_ne nt]; exact hH3
/-- return [.. for .. in ..], each a row -/
theorem ev_rows {wi : TI} {g : TG} {te : TE} {ns : List Nat} {ds es : List Dt} (hes : es.length = ds.length) (h : EvI (Z0 K) wi ρ ds) (hz : ds.length ≤ 50000)
    (hs : ∀ (i : Nat) (d : Dt), ds[i]? = some d → ∃ ρ2 x, es[i]? = some x ∧ EvGw (Z0 K) g ns d (ns.foldr (fun n r => r.set n .any) ρ) ρ2 ∧ EvDR K te ρ2 x) : EvLR K (tRet (tLc wi g tYes te ns)) ρ es := by
  intro F H σ e tb D q
  refine h F H F H σ e (wish0 tb) _ fun J F1 H1 n1 y => fun C hC => ?_
  have e1 := e.step n1
  refine ⟨fun i m H' => m = ds.length - i ∧ i ≤ ds.length ∧ ∃ F' vs, Nx F1 H1 F' H' ∧ F' C = none ∧ H' C = some (.lst vs) ∧ DpAll K F' vs (es.take i) ∧ ∀ u ∈ vs, RowAt (fun q => H q = none ∧ q ≠ C) 100 H' u, ⟨ds.length, by simp, Nat.zero_le _, F1, [], Nx.own n1.i hC, none_back n1.i hC, upd_same, by
    rw [List.take_zero]; exact .nil, fun u hu => nomatch hu⟩, ?_⟩
  rintro i m H' ⟨rfl, hi, F', vs, n2, hF, hH, ha, hr⟩
  by_cases hlt : i < ds.length
  · refine .inr ⟨y.go F' H' i n2.f n2.i hlt, fun H2 => i + 1 ≤ ds.length ∧ ∃ F' vs, Nx F1 H1 F' H2 ∧ F' C = none ∧ H2 C = some (.lst vs) ∧ DpAll K F' vs (es.take (i + 1)) ∧ ∀ u ∈ vs, RowAt (fun q => H q = none ∧ q ≠ C) 100 H2 u, fun H2 hN => ⟨ds.length - (i + 1), by omega, rfl, hN⟩, fun x H3 hy => ?_⟩
    obtain ⟨F3, n3, p3⟩ := y.yld F' H' i x H3 ds[i] n2.f n2.i hy (List.getElem?_eq_getElem hlt)
    obtain ⟨ρ2, x0, hx0, hg, hv⟩ := hs i ds[i] (List.getElem?_eq_getElem hlt)
    have hC3 : F3 C = none := n3.o C (by rw [hH]; exact fun z => nomatch z) hF
    have hH3 := n3.h.k C _ hH (fun _ z => nomatch z)
    refine hg F H F3 H3 σ x (env_wipe ((e1.step n2).step n3)) p3 _ fun σ4 hw4 e4 => ⟨hw4, ?_⟩
    dsimp only [tYes]
    refine iteT (hv F H F3 H3 σ4 e4 (wish0 tb) _ fun u F5 H5 n5 p5 r5 => ?_)
    have n23 := n2.trans n3
    have hC5 : F5 C = none := n5.o C (by rw [hH3]; exact fun z => nomatch z) hC3
    have hH5 := n5.h.k C _ hH3 (fun _ z => nomatch z)
    have n25 := n23.trans n5
    refine ⟨vs, hH5, Evl.sz_lt ?_, hlt, F5, vs ++ [u], ⟨n25.f, XEx.mut n25.h hC hH5, XEx.mut n25.i hC5 hH5, n25.o⟩, hC5, upd_same, ?_, fun z hz => ?_⟩
    · rw [dpAll_len ha, List.length_take]
      omega
    · have et : es.take (i + 1) = es.take i ++ [x0] := by
        rw [List.take_add_one, hx0]
        rfl
      rw [et]
      exact dpAll_app (dpAll_ex (n3.f.trans n5.f) _ _ ha) (.cons p5 .nil)
    · rcases List.mem_append.mp hz with hz | hz
      · exact ((hr z hz).ex (n3.h.trans n5.h)).other hH5 fun q hq => hq.2
      · rw [List.mem_singleton.mp hz]
        refine RowAt.other hH5 (fun q hq => hq.2) (r5.imp (Nat.le_refl _) fun q rs _ hq => ⟨none_back ((n1.h.trans n2.h).trans n3.h) hq, fun z2 => ?_⟩)
        rw [z2, hH3] at hq
        cases hq
  · have ei : i = ds.length := by omega
    subst ei
    refine .inl ⟨y.stop F' H' n2.f n2.i, ?_⟩
    rw [← hes, List.take_length] at ha
    exact q C vs F' H' (n1.trans n2) (none_back n1.h hC) hF hH ha hr
/-! ### the law's loan -/
def Calm (ρ : List Sl) : Prop := ∀ x ∈ ρ, x = .any ∨ ∃ d, x = .dat d
theorem Calm.set {ρ : List Sl} (c : Calm ρ) (i : Nat) : Calm (ρ.set i .any) := fun x hx => by
  rcases List.mem_or_eq_of_mem_set hx with h | h
  · exact c x h
  · exact .inl h
theorem weak_set : ∀ (ρ : List Sl) (k : Nat), Weak ρ (ρ.set k .any)
  | [], _ => .nil
  | x :: r, 0 => .any (Weak.refl r)
  | x :: r, k + 1 => .same (weak_set r k)
theorem Env.free {F0 H0 F H : Hp} {σ : L2.St} {q : Addr} {rs ws : List V} (E : Env K F0 H0 F H σ ρ) (c : Calm ρ) (hF : F q = none) (h0 : H0 q = none) (hH : H q = some (.lst rs)) : Env K F0 H0 F (upd H q (.lst ws)) σ ρ := by
  have no : ∀ {i : Nat} {x : Sl}, ρ[i]? = some x → x = .any ∨ ∃ d, x = .dat d := fun h => c _ (List.mem_of_getElem? h)
  refine ⟨⟨E.g.f, XEx.mut E.g.h h0 hH, XEx.mut E.g.i hF hH, E.g.o⟩, E.len, fun i x hx => ?_, E.ap, E.ap2⟩
  obtain ⟨o, h1, h2⟩ := E.sl i x hx
  refine ⟨o, h1, ?_⟩
  rcases no hx with rfl | ⟨d, rfl⟩
  · exact True.intro
  · exact h2
theorem s_tale {i j k : Nat} {th : TE} {ds es : List Dt} {tt : TT} {tu tr : TS} {α : Type} {args : α → List Dt} {ok : α → Prop} {f : α → List Dt} {E : XK} {P : Post} {w1 : Str} (a : α) (c : Calm ρ) (hij : i ≠ j) (hik : i ≠ k) (hjk : j ≠ k) (hi : i < ρ.length) (hj : j < ρ.length) (hk : k < ρ.length)
    (hh : EvL (Z0 K) th ρ ds) (ha : args a = [.list ds]) (ho : ok a) (he : f a = es) (hes : es.length ≤ 50) (ht : EvT (Z0 K) tt ((ρ.set i (.dat (.list ds))).set j (.dat (.list es))) false)
    (hr : EvS (Z0 K) tr (((ρ.set i .any).set j .any).set k .any) P) :
    EvS (Z0 K) (tSeq (tAsg th (gName i)) (tSeq (tAsg (tCall (spLR K args ok f) [] E (tCons (tVar i) tNil)) (gName j)) (tSeq (tIfS tt tu tNext)
      (tSeq (tFor (iU K (tVar j)) (gName k) (tDrop (tBM K "list" rAppend (tOp (rIxU K) (tVar k) (tC (.int 2))) (tCons (tTup (tCons (tC (.str w1)) (tCons (tC .non) (tCons (tC .non) tNil)))) tNil))))
        (tSeq (tDrop (tBM K "list" rAppend (tVar j) (tCons (tC .non) tNil))) (tSeq (tDrop (tBM0 K "list" rClear (tVar i))) tr)))))) ρ P := by
  intro F0 H0 F H σ D e w fit
  refine hh F0 H0 F H σ e w _ fun p1 vs1 F1 H1 n1 hn1 hF1 hp1 a1 => ?_
  have e1 := e.setOwn (i := i) n1 hn1 hF1 hp1 a1
  obtain ⟨G1, g1⟩ := e1.shut (i := i) (ds := ds) (by rw [List.getElem?_set, if_pos rfl, if_pos hi])
  rw [List.set_set] at g1
  have hv1 : EvA (Z0 K) (tCons (tVar i) tNil) (ρ.set i (.dat (.list ds))) [.list ds] := ea_cons (d_var (by rw [List.getElem?_set, if_pos rfl, if_pos hi])) ea_nil
  dsimp only [gName, tSeq, tAsg, tCall]
  refine hv1 F0 H0 G1 H1 _ g1 w _ fun us F2 H2 n2 a2 => ?_
  refine ⟨F2, a, n2.i, by rw [List.append_nil, ha]; exact a2, ho, wish_tb w g1 n2, fun p2 vs2 F3 H3 n3 hn3 hF3 hp3 a3 r3 => ?_⟩
  rw [he] at a3
  have g2 := g1.step n2
  have e3 := g2.setOwn (i := j) n3 hn3 hF3 hp3 a3
  obtain ⟨G3, g3⟩ := e3.shut (i := j) (ds := es) (by rw [List.getElem?_set, if_pos rfl, if_pos (by rw [List.length_set]; exact hj)])
  rw [List.set_set] at g3
  refine ht F0 H0 G3 H3 _ g3 w _ fun F4 H4 n4 => ?_
  refine iteF ?_
  -- what is left of it
  have x12 : XEx H1 H2 := n2.h
  have x24 : XEx H2 H4 := n3.h.trans n4.h
  have x04 : XEx H H4 := (n1.h.trans x12).trans x24
  have l1 : H4 p1 = some (.lst vs1) := (x12.trans x24).k p1 _ hp1 (fun _ z => nomatch z)
  have l2 : H4 p2 = some (.lst vs2) := n4.h.k p2 _ hp3 (fun _ z => nomatch z)
  have z1 : H p1 = none := none_back (.refl H) hn1
  have z2 : H p2 = none := none_back (n1.h.trans x12) hn3
  have b1 : H2 p1 = some (.lst vs1) := x12.k p1 _ hp1 (fun _ z => nomatch z)
  have z12 : p1 ≠ p2 := fun z => by
    rw [z, hn3] at b1
    cases b1
  have fF : ∀ {q : Addr}, H q = none → F q = none := fun h => none_back e.g.i h
  have f0 : ∀ {q : Addr}, H q = none → H0 q = none := fun h => none_back e.g.h h
  have r4 : ∀ v ∈ vs2, RowAt (fun q => H q = none ∧ q ≠ p1 ∧ q ≠ p2) (100 + 0) H4 v := fun v hv => (RowAt.ex n4.h (r3 v hv)).imp (Nat.le_refl _) fun q rs _ hq => by
    obtain ⟨hq1, hq2⟩ := hq
    refine ⟨none_back (n1.h.trans x12) hq1, fun z => ?_, hq2⟩
    rw [z, b1] at hq1
    cases hq1
  have nF : Nx F H F H4 := ⟨.refl _, x04, e.g.i.trans x04, fun _ _ h => h⟩
  have len2 : vs2.length ≤ 50 := by rw [dpAll_len a3]; exact hes
  generalize hK : ((ρ.set i .any).set j .any).set k .any = ρK at hr
  have cK : Calm ρK := by rw [← hK]; exact ((c.set i).set j).set k
  have eK : Env K F0 H0 F H4 ((σ.set i (some (.ref p1))).set j (some (.ref p2))) ρK := by
    rw [← hK]
    exact (((e.step nF).setAny (i := i)).setAny (i := j)).weak (weak_set _ k)
  have sj : ((σ.set i (some (.ref p1))).set j (some (.ref p2)))[j]? = some (some (.ref p2)) := by
    rw [List.getElem?_set, if_pos rfl, if_pos (by rw [List.length_set, e.len]; exact hj)]
  have si : ((σ.set i (some (.ref p1))).set j (some (.ref p2)))[i]? = some (some (.ref p1)) := by
    rw [List.getElem?_set, if_neg (fun z => hij z.symm), List.getElem?_set, if_pos rfl, if_pos (by rw [e.len]; exact hi)]
  generalize (σ.set i (some (V.ref p1))).set j (some (V.ref p2)) = σK at eK sj si
  refine ⟨.ref p2, sj, Or.inl ⟨p2, rfl, ⟨vs2, Or.inl (Or.inl l2)⟩, ?_⟩⟩
  refine ⟨fun ix m σ' H' => m = vs2.length - ix ∧ ix ≤ vs2.length ∧ Env K F0 H0 F H' σ' ρK ∧ H' p1 = some (.lst vs1) ∧ H' p2 = some (.lst vs2) ∧ σ'[i]? = some (some (.ref p1)) ∧ σ'[j]? = some (some (.ref p2)) ∧ ∀ v ∈ vs2, RowAt (fun q => H q = none ∧ q ≠ p1 ∧ q ≠ p2) (100 + ix) H' v,
    ⟨vs2.length, by simp, Nat.zero_le _, eK, l1, l2, si, sj, r4⟩, ?_⟩
  rintro ix m σ' H' ⟨rfl, hix, en, q1, q2, t1, t2, rr⟩
  by_cases hlt : ix < vs2.length
  · refine .inr ⟨⟨vs2, vs2[ix], Or.inl (Or.inl q2), List.getElem?_eq_getElem hlt⟩, fun σ2 H2 => ix + 1 ≤ vs2.length ∧ Env K F0 H0 F H2 σ2 ρK ∧ H2 p1 = some (.lst vs1) ∧ H2 p2 = some (.lst vs2) ∧ σ2[i]? = some (some (.ref p1)) ∧ σ2[j]? = some (some (.ref p2)) ∧ ∀ v ∈ vs2, RowAt (fun q => H q = none ∧ q ≠ p1 ∧ q ≠ p2) (100 + (ix + 1)) H2 v, fun σ2 H2 hN => ⟨vs2.length - (ix + 1), by omega, rfl, hN⟩, ?_⟩
    rintro x H5 ⟨e5, hx⟩
    rw [e5]
    have ex := hx vs2 (Or.inl (Or.inl q2))
    rw [List.getElem?_eq_getElem hlt] at ex
    obtain rfl : vs2[ix] = x := Option.some.inj ex
    obtain ⟨t, y1, y2, q, rs, ev, h2, h3, h4, h5, h6, h7⟩ := rr _ (List.getElem_mem hlt)
    rw [ev]
    have hk2 : ρK.set k .any = ρK := by rw [← hK, List.set_set]
    have en2 : Env K F0 H0 F H' (σ'.set k (some (.ref t))) ρK := by
      have := en.setAny (i := k) (o := some (.ref t))
      rw [hk2] at this
      exact this
    have u1 : (σ'.set k (some (V.ref t)))[i]? = some (some (.ref p1)) := by rw [List.getElem?_set, if_neg (fun z => hik z.symm)]; exact t1
    have u2 : (σ'.set k (some (V.ref t)))[j]? = some (some (.ref p2)) := by rw [List.getElem?_set, if_neg (fun z => hjk z.symm)]; exact t2
    have hkl : k < σ'.length := by
      rw [en.len, ← hK, List.length_set, List.length_set, List.length_set]
      exact hk
    · refine ⟨.ref t, by rw [List.getElem?_set, if_pos rfl, if_pos hkl], Or.inr ⟨t, _, 2, .ref q, rfl, rfl, Or.inl (Or.inl h2), at_nat (by decide) rfl, Or.inl ⟨rfl, rs, Or.inl (Or.inl h3)⟩, Evl.sz_of (by show 3 ≤ 100000; decide), fun p' hp' => ?_⟩⟩
      have nq : q ≠ p' := fun z => by rw [z, hp'] at h3; cases h3
      have np1 : p1 ≠ p' := fun z => by rw [z, hp'] at q1; cases q1
      have np2 : p2 ≠ p' := fun z => by rw [z, hp'] at q2; cases q2
      have no := Nx.own (o := .tup [.str w1, .non, .non]) en2.g.i hp'
      have en3 := en2.step no
      have hq3 : (upd H' p' (.tup [.str w1, .non, .non])) q = some (.lst rs) := by rw [upd_ne nq]; exact h3
      refine ⟨q, rs, .ref p', rfl, rfl, hq3, Evl.sz_lt (by omega), hlt, en3.free cK (fF h5) (f0 h5) hq3, ?_, ?_, u1, u2, fun v hv => ?_⟩
      · rw [upd_ne (fun z => h6 z.symm), upd_ne np1]; exact q1
      · rw [upd_ne (fun z => h7 z.symm), upd_ne np2]; exact q2
      · exact RowAt.more hq3 h4 ((rr v hv).ex no.h)
  · have ei : ix = vs2.length := by omega
    subst ei
    refine .inl ⟨⟨vs2, Or.inl (Or.inl q2), Nat.le_refl _⟩, ?_⟩
    refine ⟨.ref p2, t2, Or.inl ⟨rfl, vs2, Or.inl (Or.inl q2)⟩, p2, vs2, .non, rfl, rfl, q2, Evl.sz_lt (by omega), ?_⟩
    have en3 := en.free (ws := vs2 ++ [.non]) cK (fF z2) (f0 z2) q2
    have q13 : (upd H' p2 (.lst (vs2 ++ [.non]))) p1 = some (.lst vs1) := by rw [upd_ne z12]; exact q1
    refine ⟨.ref p1, t1, Or.inl ⟨rfl, vs1, Or.inl (Or.inl q13)⟩, p1, vs1, rfl, rfl, q13, ?_⟩
    exact hr F0 H0 F _ σ' D (en3.free (ws := []) cK (fF z1) (f0 z1) q13) w fit
end
section
variable {P : Program} {w : World} {K : PySem.W.Frag} {mg : Str → Option Value} {base : Heap}
theorem DefAt.R {x qual : Str} {st : Stmt} {N ps : List Str} {k : Nat} {α : Type} {args : α → List Dt} {ok : α → Prop} {g : α → Dt} (At : DefAt K mg x qual st ps) (S : FnScope N ps (defScope st)) (hn : ∀ a, (args a).length = ps.length)
    (hbody : ∀ (f : Addr) (cdv : Value) (A : Around) (outer : List PySem.Env) (s : Shared) (H : Hp) (E : XK), Room k (A.deeper (envOfC qual (defScope st) s.heap.objs.size f cdv)) →
      ∃ t, PSs (cxOf CX0 P w K mg base N qual (defScope st) f cdv A outer s H E).nox (defBody st) t ∧ ∀ a, ok a → EvR K t (slots0 N (args a)) (g a)) : Fn1 P w K mg base (k + 1) x ps (spR K args ok g) := by
  obtain ⟨f, fd, Fu, hm, hb⟩ := At.ex
  refine fn1 Fu hm hb (Fu.ok S (fun vs H Q E h => ?_) (fun cdv A outer s H vs Q E hr h => ?_))
  · obtain ⟨F, a, _, da, _⟩ := h
    exact (dpAll_len da).trans (hn a)
  · obtain ⟨F, a, e, da, ho, tb, q⟩ := h
    obtain ⟨t, ht, hev⟩ := hbody f cdv A outer s H E hr
    exact ⟨t, ht, hev a ho F H _ (env_start e da) tb _ q⟩
theorem DefAt.LR {x qual : Str} {st : Stmt} {N ps : List Str} {k : Nat} {α : Type} {args : α → List Dt} {ok : α → Prop} {g : α → List Dt} (At : DefAt K mg x qual st ps) (S : FnScope N ps (defScope st)) (hn : ∀ a, (args a).length = ps.length)
    (hbody : ∀ (f : Addr) (cdv : Value) (A : Around) (outer : List PySem.Env) (s : Shared) (H : Hp) (E : XK), Room k (A.deeper (envOfC qual (defScope st) s.heap.objs.size f cdv)) →
      ∃ t, PSs (cxOf CX0 P w K mg base N qual (defScope st) f cdv A outer s H E).nox (defBody st) t ∧ ∀ a, ok a → EvLR K t (slots0 N (args a)) (g a)) : Fn1 P w K mg base (k + 1) x ps (spLR K args ok g) := by
  obtain ⟨f, fd, Fu, hm, hb⟩ := At.ex
  refine fn1 Fu hm hb (Fu.ok S (fun vs H Q E h => ?_) (fun cdv A outer s H vs Q E hr h => ?_))
  · obtain ⟨F, a, _, da, _⟩ := h
    exact (dpAll_len da).trans (hn a)
  · obtain ⟨F, a, e, da, ho, tb, q⟩ := h
    obtain ⟨t, ht, hev⟩ := hbody f cdv A outer s H E hr
    exact ⟨t, ht, hev a ho F H _ (env_start e da) tb _ q⟩
end
end DL

set_option Elab.async false
set_option linter.all false
set_option maxRecDepth 100000
set_option maxHeartbeats 4000000
set_option exponentiation.threshold 10000
/-! tactics of this file: walk_at "ev" goes through a reading by data; what it can't say stays -/
local macro_rules | `(tactic| walk_at "ev") => `(tactic| first
  | with_reducible exact DL.d_int | with_reducible exact DL.d_bl | with_reducible exact DL.d_non | with_reducible exact DL.d_str | with_reducible exact DL.ea_nil | with_reducible exact DL.o_none
  | ((with_reducible apply DL.d_var) <;> exact rfl)
  | ((with_reducible apply DL.w_var) <;> exact rfl)
  | ((with_reducible apply DL.ea_cons) <;> walk_at "ev")
  | ((with_reducible apply DL.o_some) <;> walk_at "ev")
  | ((with_reducible apply DL.d_ixC) <;> first | ((fail_if_success (with_reducible show (_ : Option _) = _)); walk_at "ev") | exact rfl)
  | ((with_reducible apply DL.d_ixI) <;> walk_at "ev")
  | ((with_reducible apply DL.d_ix) <;> walk_at "ev")
  | with_reducible exact DL.IsInts.of _
  | with_reducible exact DL.IsInts.nil
  | ((with_reducible apply DL.IsInts.cons) <;> walk_at "ev")
  | ((with_reducible apply DL.d_tup) <;> walk_at "ev")
  | ((with_reducible apply DL.d_len) <;> walk_at "ev")
  | ((with_reducible apply DL.d_isi) <;> walk_at "ev")
  | ((with_reducible apply DL.d_isiV) <;> walk_at "ev")
  | ((with_reducible apply DL.d_neg) <;> walk_at "ev")
  | ((with_reducible apply DL.d_abs) <;> walk_at "ev")
  | ((with_reducible apply DL.d_gcd) <;> walk_at "ev")
  | ((with_reducible apply DL.d_max2) <;> walk_at "ev")
  | ((with_reducible apply DL.d_min2) <;> walk_at "ev")
  | ((with_reducible apply DL.d_intI) <;> walk_at "ev")
  | ((with_reducible apply DL.d_intB) <;> walk_at "ev")
  | ((with_reducible apply DL.d_tuple) <;> walk_at "ev")
  | ((with_reducible apply DL.d_tupleT) <;> walk_at "ev")
  | ((with_reducible apply DL.d_maxD) <;> walk_at "ev")
  | ((with_reducible apply DL.d_if) <;> walk_at "ev")
  | ((with_reducible apply DL.d_index) <;> walk_at "ev")
  | ((with_reducible apply DL.d_not) <;> walk_at "ev")
  | ((with_reducible apply DL.d_and) <;> walk_at "ev")
  | ((with_reducible apply DL.d_or) <;> walk_at "ev")
  | ((with_reducible apply DL.d_slice) <;> walk_at "ev")
  | ((with_reducible apply DL.d_chain) <;> walk_at "ev")
  | walk_at "call"
  | ((with_reducible apply DL.d_op) <;> walk_at "ev")
  | ((with_reducible apply DL.l_lst) <;> walk_at "ev")
  | ((with_reducible apply DL.l_list) <;> walk_at "ev")
  | ((with_reducible apply DL.l_slice) <;> walk_at "ev")
  | ((with_reducible apply DL.l_cat) <;> walk_at "ev")
  | ((with_reducible apply DL.l_rep) <;> walk_at "ev")
  | ((with_reducible apply DL.t_not) <;> walk_at "ev")
  | ((with_reducible apply DL.t_and) <;> walk_at "ev")
  | ((with_reducible apply DL.t_or) <;> walk_at "ev")
  | ((with_reducible apply DL.t_T) <;> walk_at "ev")
  | ((with_reducible apply DL.t_B) <;> walk_at "ev")
  | ((with_reducible apply DL.t_tru) <;> walk_at "ev")
  | ((with_reducible apply DL.t_seq) <;> walk_at "ev")
  | ((with_reducible apply DL.EvW.v) <;> (with_reducible apply DL.w_var) <;> exact rfl)
  | ((with_reducible apply DL.EvL.v) <;> walk_at "ev")
  | ((with_reducible apply DL.EvD.sq) <;> walk_at "ev")
  | ((with_reducible apply DL.EvL.w) <;> walk_at "ev")
  | ((with_reducible apply DL.EvL.dt) <;> walk_at "ev")
  | ((with_reducible refine fun (_ : _ = _) => ?_); walk_at "ev")
  | walk_at "op"
  | walk_at "side")
local macro_rules | `(tactic| walk_at "op") => `(tactic| first
  | with_reducible exact DL.r_addI | with_reducible exact DL.r_subI | with_reducible exact DL.r_lt | with_reducible exact DL.r_le | with_reducible exact DL.r_gt | with_reducible exact DL.r_ge
  | exact DL.r_isN | exact DL.r_notN | with_reducible exact DL.r_isB | with_reducible exact DL.r_notB
  | with_reducible exact DL.r_eqI | with_reducible exact DL.r_neI | with_reducible exact DL.r_eqB | with_reducible exact DL.r_neB
  | ((with_reducible apply DL.r_mulI) <;> first | exact Or.inl (Or.inl (by omega)) | exact Or.inl (Or.inr (by omega)) | skip)
  | ((with_reducible apply DL.r_divI) <;> first | exact Or.inl (show 0 < _ ∧ _ < 1073741824 from ⟨by omega, by omega⟩) | exact Or.inl (show 0 < _ ∧ _ < 1073741824 from ⟨by simp only [DL.intsD_len]; omega, by simp only [DL.intsD_len]; omega⟩) | skip)
  | ((with_reducible apply DL.r_modI) <;> walk_at "side")
  | ((with_reducible apply DL.r_powI) <;> first | exact ⟨by omega, by omega, by omega⟩ | exact ⟨by decide, by decide, by decide⟩ | skip)
  | ((with_reducible apply DL.r_addT) <;> first | (simp only [DL.intsD_len, List.length_cons, List.length_nil, List.length_append]; omega) | skip)
  | ((with_reducible apply DL.r_repT) <;> walk_at "side")
  | ((with_reducible apply DL.r_eqD) <;> walk_at "side")
  | ((with_reducible apply DL.r_neD) <;> walk_at "side"))
local macro_rules | `(tactic| walk_at "side") => `(tactic| (
  (fail_if_success (with_reducible show DL.EvD _ _ _ _)); (fail_if_success (with_reducible show DL.EvV _ _ _ _ _)); (fail_if_success (with_reducible show DL.EvL _ _ _ _)); (fail_if_success (with_reducible show DL.EvT _ _ _ _)); (fail_if_success (with_reducible show DL.EvA _ _ _ _)); (fail_if_success (with_reducible show DL.EvW _ _ _ _)); (fail_if_success (with_reducible show DL.EvO _ _ _ _)); (fail_if_success (with_reducible show DL.IsInts _ _));
  first | exact DL.IsSq.l | exact DL.IsSq.t | exact DL.TruD.bl | exact DL.TruD.int | exact DL.TruD.lst | exact DL.TruD.tup | exact DL.TruD.non | exact rfl | omega | (simp only [DL.intsD_len, List.length_cons, List.length_nil, List.length_append]; omega) | (decide +kernel) | exact trivial | ((with_reducible show _ ∧ _); (with_reducible refine ⟨?_, ?_⟩) <;> walk_at "side") | skip))
namespace k07
open PySem PySem.Spec PyProof.Rows L2 DL
variable [Nm]
def topS (i : Nat) : Stmt := PySem.Challenge.pw_gradewish_k07_tales.main.body.getD i (.Pass ⟨0, 0, 0, 0⟩)
-- KIND: D
-- CALL: {ns : List Int} {k : Int} | .list (intsD ns) ; .int k | (ns, k) | ns.length ≤ 63 ∧ 0 ≤ k | .int (cellAt ns k)
def cellAt (ns : List Int) (k : Int) : Int := if ns.length = 0 then k else ns.getD (k % (ns.length : Int)).toNat 0 + 3 * (k / (ns.length : Int))
abbrev sp_l_cell_at (K : PySem.W.Frag) : Sp := spD K (fun a : List Int × Int => [.list (intsD a.1), .int a.2]) (fun a => a.1.length ≤ 63 ∧ 0 ≤ a.2) (fun a => .int (cellAt a.1 a.2))

theorem c_l_cell_at {Z : Zx} {ρ : List Sl} {E : XK} {t0 t1 : TE} {ns : List Int} {k : Int} (h0 : EvD Z t0 ρ (.list (intsD ns))) (h1 : EvD Z t1 ρ (.int k)) (ok : ns.length ≤ 63 ∧ 0 ≤ k) : EvD Z (tCall (sp_l_cell_at Z.K) [] E (tCons t0 (tCons t1 tNil))) ρ (.int (cellAt ns k)) := DL.d_call (ns, k) (DL.ea_cons h0 (DL.ea_cons h1 DL.ea_nil)) ok
local macro_rules | `(tactic| walk_at "call") => `(tactic| ((with_reducible apply k07.c_l_cell_at) <;> walk_at "ev"))
-- KIND: L
-- CALL: {c m : Int} | .int c ; .int m | (c, m) | 0 ≤ m ∧ m ≤ 1000 | intsD (streamP c m)
def strN (c : Int) : Nat → Int
  | 0 => c % 2147483647 + 48271
  | i + 1 => (strN c i * strN c i + 48271 * strN c i + 7 * (i : Int) + 1) % 2147483647
theorem strN_lo (c : Int) : ∀ i, 0 ≤ strN c i ∧ strN c i < 2 ^ 32
  | 0 => by unfold strN; omega
  | i + 1 => by
    unfold strN
    constructor
    · exact Int.emod_nonneg _ (by decide)
    · exact Int.lt_trans (Int.emod_lt_of_pos _ (by decide)) (by decide)
def streamP (c m : Int) : List Int := (List.range m.toNat).map fun j => strN c (j + 2)
theorem streamP_len (c m : Int) : (streamP c m).length = m.toNat := by unfold streamP; rw [List.length_map, List.length_range]
theorem streamP_lo (c m : Int) : ∀ x ∈ streamP c m, 0 ≤ x ∧ x < 2 ^ 32 := fun x hx => by
  obtain ⟨j, _, rfl⟩ := List.mem_map.mp hx
  exact strN_lo c _
abbrev sp_l_stream (K : PySem.W.Frag) : Sp := spL K (fun a : Int × Int => [.int a.1, .int a.2]) (fun a => 0 ≤ a.2 ∧ a.2 ≤ 1000) (fun a => intsD (streamP a.1 a.2))

theorem c_l_stream {Z : Zx} {ρ : List Sl} {E : XK} {t0 t1 : TE} {c m : Int} (h0 : EvD Z t0 ρ (.int c)) (h1 : EvD Z t1 ρ (.int m)) (ok : 0 ≤ m ∧ m ≤ 1000) : EvL Z (tCall (sp_l_stream Z.K) [] E (tCons t0 (tCons t1 tNil))) ρ (intsD (streamP c m)) := DL.l_call (c, m) (DL.ea_cons h0 (DL.ea_cons h1 DL.ea_nil)) ok
local macro_rules | `(tactic| walk_at "call") => `(tactic| ((with_reducible apply k07.c_l_stream) <;> walk_at "ev"))
-- KIND: D
-- CALL: {xs : List Int} | .list (intsD xs) | xs | 16 ≤ xs.length | (taskBy xs).D
structure Task where
  w : Int
  most : Int
  cap : Int
  tries : List Int
abbrev Task.D (t : Task) : PyData := .tuple [.int t.w, .int t.most, .int t.cap, .tuple (intsD t.tries)]
structure Task.Ok (t : Task) : Prop where
  w0 : 1 ≤ t.w
  w1 : t.w ≤ 1000
  m0 : 1 ≤ t.most
  m1 : t.most ≤ 1000000
  c0 : 0 ≤ t.cap
  c1 : t.cap ≤ t.most
  l : t.tries.length ≤ 12
  t0 : ∀ x ∈ t.tries, 0 ≤ x ∧ x ≤ t.most
theorem getD_all {p : Int → Prop} {l : List Int} {i : Nat} (h : i < l.length) (hp : ∀ y ∈ l, p y) : p (l.getD i 0) := by
  rw [List.getD_eq_getElem?_getD, List.getElem?_eq_getElem h]
  exact hp _ (List.getElem_mem h)
def weightP (x : Int) : Int := if x / 5 % 5 = 0 then 1 + x / 25 % 1000 else 1 + x % 5
def mostP (x : Int) : Int := [1, 10, 100, 1 + x / 6 % 20, 1 + x / 6 % 1000000, 1000000].getD (x % 6).toNat 0
def capP (x m : Int) : Int := [m, 0, m / 2, x / 4 % (m + 1)].getD (x % 4).toNat 0
def manyP (x : Int) : Int := [0, 1, 1, 2, 3, 1, 0, 12, 11].getD (x % 9).toNat 0
def tryP (x m c : Int) : Int := [x / 5 % (m + 1), x / 5 % (m + 1), 0, m, c].getD (x % 5).toNat 0
theorem weightP_lo (x : Int) : 1 ≤ weightP x ∧ weightP x ≤ 1000 := by unfold weightP; split <;> omega
theorem mostP_lo (x : Int) : 1 ≤ mostP x ∧ mostP x ≤ 1000000 := by
  unfold mostP
  refine getD_all (p := fun m => 1 ≤ m ∧ m ≤ 1000000) (by simp only [List.length_cons, List.length_nil]; omega) fun y hy => ?_
  simp only [List.mem_cons, List.not_mem_nil, or_false] at hy
  rcases hy with rfl | rfl | rfl | rfl | rfl | rfl <;> omega
theorem capP_lo {x m : Int} (hm : 1 ≤ m) : 0 ≤ capP x m ∧ capP x m ≤ m := by
  unfold capP
  refine getD_all (p := fun c => 0 ≤ c ∧ c ≤ m) (by simp only [List.length_cons, List.length_nil]; omega) fun y hy => ?_
  have h1 := Int.emod_nonneg (x / 4) (show m + 1 ≠ 0 by omega)
  have h2 := Int.emod_lt_of_pos (x / 4) (show 0 < m + 1 by omega)
  simp only [List.mem_cons, List.not_mem_nil, or_false] at hy
  rcases hy with rfl | rfl | rfl | rfl <;> omega
theorem manyP_lo (x : Int) : 0 ≤ manyP x ∧ manyP x ≤ 12 := by
  unfold manyP
  refine getD_all (p := fun m => 0 ≤ m ∧ m ≤ 12) (by simp only [List.length_cons, List.length_nil]; omega) fun y hy => ?_
  simp only [List.mem_cons, List.not_mem_nil, or_false] at hy
  omega
theorem tryP_lo {x m c : Int} (hm : 1 ≤ m) (h0 : 0 ≤ c) (h1 : c ≤ m) : 0 ≤ tryP x m c ∧ tryP x m c ≤ m := by
  unfold tryP
  refine getD_all (p := fun c => 0 ≤ c ∧ c ≤ m) (by simp only [List.length_cons, List.length_nil]; omega) fun y hy => ?_
  have h1 := Int.emod_nonneg (x / 5) (show m + 1 ≠ 0 by omega)
  have h2 := Int.emod_lt_of_pos (x / 5) (show 0 < m + 1 by omega)
  simp only [List.mem_cons, List.not_mem_nil, or_false] at hy
  rcases hy with rfl | rfl | rfl | rfl | rfl <;> omega
def taskBy (xs : List Int) : Task where
  w := weightP (xs.getD 0 0)
  most := mostP (xs.getD 1 0)
  cap := capP (xs.getD 2 0) (mostP (xs.getD 1 0))
  tries := (List.range (manyP (xs.getD 3 0)).toNat).map fun j => tryP (xs.getD (4 + j) 0) (mostP (xs.getD 1 0)) (capP (xs.getD 2 0) (mostP (xs.getD 1 0)))
theorem taskBy_ok (xs : List Int) : (taskBy xs).Ok where
  w0 := (weightP_lo _).1
  w1 := (weightP_lo _).2
  m0 := (mostP_lo _).1
  m1 := (mostP_lo _).2
  c0 := (capP_lo (mostP_lo _).1).1
  c1 := (capP_lo (mostP_lo _).1).2
  l := by
    show (List.map _ _).length ≤ 12
    rw [List.length_map, List.length_range]
    have := manyP_lo (xs.getD 3 0)
    omega
  t0 := fun x hx => by
    obtain ⟨j, _, rfl⟩ := List.mem_map.mp hx
    exact tryP_lo (mostP_lo _).1 (capP_lo (mostP_lo _).1).1 (capP_lo (mostP_lo _).1).2
def gAt (t : Task) (i : Nat) : Int := if i = 0 then t.tries.getD i 0 else min (t.tries.getD i 0) t.cap
def givesP (t : Task) : List Int := (List.range t.tries.length).map (gAt t)
abbrev sp_l_task_by (K : PySem.W.Frag) : Sp := spD K (fun xs : List Int => [.list (intsD xs)]) (fun xs => 16 ≤ xs.length) (fun xs => (taskBy xs).D)

theorem c_l_task_by {Z : Zx} {ρ : List Sl} {E : XK} {t0 : TE} {xs : List Int} (h0 : EvD Z t0 ρ (.list (intsD xs))) (ok : 16 ≤ xs.length) : EvD Z (tCall (sp_l_task_by Z.K) [] E (tCons t0 tNil)) ρ ((taskBy xs).D) := DL.d_call xs (DL.ea_cons h0 DL.ea_nil) ok
local macro_rules | `(tactic| walk_at "call") => `(tactic| ((with_reducible apply k07.c_l_task_by) <;> walk_at "ev"))
-- KIND: D
-- CALL: {c m : Int} | .int c ; .int m | (c, m) | 0 ≤ m ∧ m ≤ 8 | (partBy c m).D
structure Part where
  w : Int
  worst : Int
  top : Int
  tasks : List Task
  extras : List Int
def tasksD (ts : List Task) : List PyData := ts.map Task.D
abbrev Part.D (p : Part) : PyData := .tuple [.int p.w, .int p.worst, .int p.top, .tuple (tasksD p.tasks), .tuple (intsD p.extras)]
structure Part.Ok (p : Part) : Prop where
  w0 : 1 ≤ p.w
  w1 : p.w ≤ 1000
  o0 : 0 ≤ p.worst
  o1 : p.worst ≤ 3
  t0 : 0 ≤ p.top
  t1 : p.top ≤ 1000
  tl : p.tasks.length ≤ 8
  ts : ∀ t ∈ p.tasks, t.Ok
  el : p.extras.length ≤ 12
  es : ∀ x ∈ p.extras, 0 ≤ x ∧ x ≤ 1000
def topP (x : Int) : Int := [0, 50, 1000, x / 4 % 1001].getD (x % 4).toNat 0
def exMod (x : Int) : Int := [1001, 30].getD (x / 8 % 2).toNat 0
def exMany (x : Int) : Int := [0, 0, 1, 1, 2, 3, 4, 12].getD (x % 8).toNat 0
theorem topP_lo (x : Int) : 0 ≤ topP x ∧ topP x ≤ 1000 := by
  unfold topP
  refine getD_all (p := fun m => 0 ≤ m ∧ m ≤ 1000) (by simp only [List.length_cons, List.length_nil]; omega) fun y hy => ?_
  simp only [List.mem_cons, List.not_mem_nil, or_false] at hy
  omega
theorem exMod_lo (x : Int) : 0 < exMod x ∧ exMod x ≤ 1001 := by
  unfold exMod
  refine getD_all (p := fun m => 0 < m ∧ m ≤ 1001) (by simp only [List.length_cons, List.length_nil]; omega) fun y hy => ?_
  simp only [List.mem_cons, List.not_mem_nil, or_false] at hy
  omega
theorem exMany_lo (x : Int) : 0 ≤ exMany x ∧ exMany x ≤ 12 := by
  unfold exMany
  refine getD_all (p := fun m => 0 ≤ m ∧ m ≤ 12) (by simp only [List.length_cons, List.length_nil]; omega) fun y hy => ?_
  simp only [List.mem_cons, List.not_mem_nil, or_false] at hy
  omega
def partOf (xs : List Int) (m : Int) : Part where
  w := weightP (xs.getD 0 0)
  worst := xs.getD 1 0 % 4
  top := topP (xs.getD 2 0)
  tasks := (List.range (xs.getD 3 0 % (m + 1)).toNat).map fun k => taskBy ((xs.drop (20 + 16 * k)).take 16)
  extras := (List.range (exMany (xs.getD 4 0)).toNat).map fun k => xs.getD (5 + k) 0 % exMod (xs.getD 4 0)
def partBy (c m : Int) : Part := partOf (streamP c (20 + 16 * m)) m
theorem partOf_ok {xs : List Int} {m : Int} (h0 : 0 ≤ m) (h1 : m ≤ 8) : (partOf xs m).Ok where
  w0 := (weightP_lo _).1
  w1 := (weightP_lo _).2
  o0 := by show 0 ≤ xs.getD 1 0 % 4; omega
  o1 := by show xs.getD 1 0 % 4 ≤ 3; omega
  t0 := (topP_lo _).1
  t1 := (topP_lo _).2
  tl := by
    show (List.map _ _).length ≤ 8
    rw [List.length_map, List.length_range]
    have h2 := Int.emod_lt_of_pos (xs.getD 3 0) (show 0 < m + 1 by omega)
    omega
  ts := fun t ht => by
    obtain ⟨k, _, rfl⟩ := List.mem_map.mp ht
    exact taskBy_ok _
  el := by
    show (List.map _ _).length ≤ 12
    rw [List.length_map, List.length_range]
    have := exMany_lo (xs.getD 4 0)
    omega
  es := fun x hx => by
    obtain ⟨k, _, rfl⟩ := List.mem_map.mp hx
    have h1 := exMod_lo (xs.getD 4 0)
    have h2 := Int.emod_nonneg (xs.getD (5 + k) 0) (show exMod (xs.getD 4 0) ≠ 0 by omega)
    have h3 := Int.emod_lt_of_pos (xs.getD (5 + k) 0) h1.1
    omega
theorem partBy_ok {c m : Int} (h0 : 0 ≤ m) (h1 : m ≤ 8) : (partBy c m).Ok := partOf_ok h0 h1
def exV (xs : List Int) (q : Int) : PyData → PyData
  | .int k => .int (xs.getD (5 + k).toNat 0 % q)
  | _ => .none
abbrev sp_l_part_by (K : PySem.W.Frag) : Sp := spD K (fun a : Int × Int => [.int a.1, .int a.2]) (fun a => 0 ≤ a.2 ∧ a.2 ≤ 8) (fun a => (partBy a.1 a.2).D)

theorem c_l_part_by {Z : Zx} {ρ : List Sl} {E : XK} {t0 t1 : TE} {c m : Int} (h0 : EvD Z t0 ρ (.int c)) (h1 : EvD Z t1 ρ (.int m)) (ok : 0 ≤ m ∧ m ≤ 8) : EvD Z (tCall (sp_l_part_by Z.K) [] E (tCons t0 (tCons t1 tNil))) ρ ((partBy c m).D) := DL.d_call (c, m) (DL.ea_cons h0 (DL.ea_cons h1 DL.ea_nil)) ok
local macro_rules | `(tactic| walk_at "call") => `(tactic| ((with_reducible apply k07.c_l_part_by) <;> walk_at "ev"))
-- KIND: L
-- CALL: {ns : List Int} {f m : Int} | .list (intsD ns) ; .int f ; .int m | (ns, f, m) | ns.length ≤ 63 ∧ 0 ≤ f ∧ f ≤ 100 ∧ 0 ≤ m ∧ m ≤ 8 | courseD (courseBy ns f m)
def courseD (ps : List Part) : List PyData := ps.map Part.D
def manyParts (ns : List Int) : Int := if cellAt ns 0 / 4 % 9 = 1 then 4 + cellAt ns 0 / 36 % 3 else cellAt ns 0 % 4
theorem manyParts_lo (ns : List Int) : 0 ≤ manyParts ns ∧ manyParts ns ≤ 6 := by unfold manyParts; split <;> omega
def courseBy (ns : List Int) (f m : Int) : List Part := (List.range (manyParts ns).toNat).map fun (k : Nat) => partBy (cellAt ns (f + (k : Int))) m
theorem courseBy_len (ns : List Int) (f m : Int) : (courseBy ns f m).length ≤ 6 := by
  unfold courseBy
  rw [List.length_map, List.length_range]
  have := manyParts_lo ns
  omega
theorem courseBy_ok {ns : List Int} {f m : Int} (h0 : 0 ≤ m) (h1 : m ≤ 8) : ∀ p ∈ courseBy ns f m, p.Ok := fun p hp => by
  obtain ⟨k, _, rfl⟩ := List.mem_map.mp hp
  exact partBy_ok h0 h1
def partV (ns : List Int) (f m : Int) : PyData → PyData
  | .int k => (partBy (cellAt ns (f + k)) m).D
  | _ => .none
abbrev sp_l_course_by (K : PySem.W.Frag) : Sp := spL K (fun a : List Int × Int × Int => [.list (intsD a.1), .int a.2.1, .int a.2.2]) (fun a => a.1.length ≤ 63 ∧ 0 ≤ a.2.1 ∧ a.2.1 ≤ 100 ∧ 0 ≤ a.2.2 ∧ a.2.2 ≤ 8) (fun a => courseD (courseBy a.1 a.2.1 a.2.2))

theorem c_l_course_by {Z : Zx} {ρ : List Sl} {E : XK} {t0 t1 t2 : TE} {ns : List Int} {f m : Int} (h0 : EvD Z t0 ρ (.list (intsD ns))) (h1 : EvD Z t1 ρ (.int f)) (h2 : EvD Z t2 ρ (.int m)) (ok : ns.length ≤ 63 ∧ 0 ≤ f ∧ f ≤ 100 ∧ 0 ≤ m ∧ m ≤ 8) : EvL Z (tCall (sp_l_course_by Z.K) [] E (tCons t0 (tCons t1 (tCons t2 tNil)))) ρ (courseD (courseBy ns f m)) := DL.l_call (ns, f, m) (DL.ea_cons h0 (DL.ea_cons h1 (DL.ea_cons h2 DL.ea_nil))) ok
local macro_rules | `(tactic| walk_at "call") => `(tactic| ((with_reducible apply k07.c_l_course_by) <;> walk_at "ev"))
-- KIND: L
-- CALL: {t : Task} | t.D | t | t.Ok | intsD (givesP t)
def givesV (c : Int) : PyData → PyData
  | .tuple [.int i, .int x] => .int (if i = 0 then x else min x c)
  | _ => .none
abbrev sp_gives (K : PySem.W.Frag) : Sp := spL K (fun t : Task => [t.D]) (fun t => t.Ok) (fun t => intsD (givesP t))

theorem c_gives {Z : Zx} {ρ : List Sl} {E : XK} {t0 : TE} {t : Task} (h0 : EvD Z t0 ρ (t.D)) (ok : t.Ok) : EvL Z (tCall (sp_gives Z.K) [] E (tCons t0 tNil)) ρ (intsD (givesP t)) := DL.l_call t (DL.ea_cons h0 DL.ea_nil) ok
local macro_rules | `(tactic| walk_at "call") => `(tactic| ((with_reducible apply k07.c_gives) <;> walk_at "ev"))
-- KIND: D
-- CALL: {t : Task} | t.D | t | t.Ok | optD (maxI (givesP t))
abbrev sp_mark (K : PySem.W.Frag) : Sp := spD K (fun t : Task => [t.D]) (fun t => t.Ok) (fun t => optD (maxI (givesP t)))

theorem c_mark {Z : Zx} {ρ : List Sl} {E : XK} {t0 : TE} {t : Task} (h0 : EvD Z t0 ρ (t.D)) (ok : t.Ok) : EvD Z (tCall (sp_mark Z.K) [] E (tCons t0 tNil)) ρ (optD (maxI (givesP t))) := DL.d_call t (DL.ea_cons h0 DL.ea_nil) ok
local macro_rules | `(tactic| walk_at "call") => `(tactic| ((with_reducible apply k07.c_mark) <;> walk_at "ev"))
/-- the fraction in lowest terms -/
def lowP (t b : Int) : Int × Int := (t / (Nat.gcd t.natAbs b.natAbs : Nat), b / (Nat.gcd t.natAbs b.natAbs : Nat))
abbrev shD (p : Int × Int) : PyData := .tuple [.int p.1, .int p.2]
theorem gcd_pos {t b : Int} (h : 0 < b) : 0 < ((Nat.gcd t.natAbs b.natAbs : Nat) : Int) := by
  have := Nat.gcd_pos_of_pos_right t.natAbs (show 0 < b.natAbs by omega)
  omega
theorem gcd_le {t b : Int} (h : 0 < b) : ((Nat.gcd t.natAbs b.natAbs : Nat) : Int) ≤ b := by
  have := Nat.gcd_le_right t.natAbs (show 0 < b.natAbs by omega)
  omega
theorem gcd_small {t b : Int} {n : Nat} (h : 0 < b) (hb : b < 2 ^ n) : ((Nat.gcd t.natAbs b.natAbs : Nat) : Int).natAbs < 2 ^ n := by
  have h1 := gcd_le (t := t) h
  have h2 := gcd_pos (t := t) h
  have h3 : (((2 : Nat) ^ n : Nat) : Int) = (2 : Int) ^ n := by push_cast; rfl
  omega
theorem gcd_ne {t b : Int} (h : 0 < b) : Nat.gcd t.natAbs b.natAbs ≠ 0 := by
  have := gcd_pos (t := t) h
  omega
theorem dvd_t (t b : Int) : ((Nat.gcd t.natAbs b.natAbs : Nat) : Int) ∣ t := Int.ofNat_dvd_left.mpr (Nat.gcd_dvd_left _ _)
theorem dvd_b (t b : Int) : ((Nat.gcd t.natAbs b.natAbs : Nat) : Int) ∣ b := Int.ofNat_dvd_left.mpr (Nat.gcd_dvd_right _ _)
theorem lowP_t (t b : Int) : (lowP t b).1 * ((Nat.gcd t.natAbs b.natAbs : Nat) : Int) = t := Int.ediv_mul_cancel (dvd_t t b)
theorem lowP_b (t b : Int) : (lowP t b).2 * ((Nat.gcd t.natAbs b.natAbs : Nat) : Int) = b := Int.ediv_mul_cancel (dvd_b t b)
theorem lowP_pos {t b : Int} (h : 0 < b) : 0 < (lowP t b).2 := by
  have h1 := lowP_b t b
  have h2 := gcd_pos (t := t) h
  rcases Int.lt_trichotomy (lowP t b).2 0 with h3 | h3 | h3
  · have := Int.mul_neg_of_neg_of_pos h3 h2
    omega
  · rw [h3, Int.zero_mul] at h1
    omega
  · exact h3
theorem lowP_le {t b : Int} (h : 0 < b) : (lowP t b).2 ≤ b := by
  have h1 := lowP_b t b
  have h2 := gcd_pos (t := t) h
  have h3 := lowP_pos (t := t) h
  have : (lowP t b).2 * 1 ≤ (lowP t b).2 * ((Nat.gcd t.natAbs b.natAbs : Nat) : Int) := Int.mul_le_mul_of_nonneg_left (by omega) (by omega)
  omega
theorem lowP_co {t b : Int} (h : 0 < b) : Nat.gcd (lowP t b).1.natAbs (lowP t b).2.natAbs = 1 := by
  have h1 := lowP_t t b
  have h2 := lowP_b t b
  have h3 : Nat.gcd ((lowP t b).1.natAbs * Nat.gcd t.natAbs b.natAbs) ((lowP t b).2.natAbs * Nat.gcd t.natAbs b.natAbs) = Nat.gcd t.natAbs b.natAbs := by
    have e1 : (lowP t b).1.natAbs * Nat.gcd t.natAbs b.natAbs = t.natAbs := by
      have := congrArg Int.natAbs h1
      rw [Int.natAbs_mul, Int.natAbs_natCast] at this
      exact this
    have e2 : (lowP t b).2.natAbs * Nat.gcd t.natAbs b.natAbs = b.natAbs := by
      have := congrArg Int.natAbs h2
      rw [Int.natAbs_mul, Int.natAbs_natCast] at this
      exact this
    rw [e1, e2]
  rw [Nat.gcd_mul_right] at h3
  have h4 : 0 < Nat.gcd t.natAbs b.natAbs := Nat.pos_of_ne_zero (gcd_ne h)
  exact Nat.eq_of_mul_eq_mul_right h4 (by omega)
/-- two coprime fractions of one value are one -/
theorem co_eq {a b c d : Int} (hb : 0 < b) (hd : 0 < d) (h1 : Nat.gcd a.natAbs b.natAbs = 1) (h2 : Nat.gcd c.natAbs d.natAbs = 1) (h : a * d = c * b) : a = c ∧ b = d := by
  have n := congrArg Int.natAbs h
  rw [Int.natAbs_mul, Int.natAbs_mul] at n
  have db : b.natAbs ∣ d.natAbs := by
    have : b.natAbs ∣ a.natAbs * d.natAbs := ⟨c.natAbs, by rw [n, Nat.mul_comm]⟩
    exact Nat.Coprime.dvd_of_dvd_mul_left (show Nat.Coprime b.natAbs a.natAbs from by rw [Nat.coprime_comm]; exact h1) this
  have bd : d.natAbs ∣ b.natAbs := by
    have : d.natAbs ∣ c.natAbs * b.natAbs := ⟨a.natAbs, by rw [← n, Nat.mul_comm]⟩
    exact Nat.Coprime.dvd_of_dvd_mul_left (show Nat.Coprime d.natAbs c.natAbs from by rw [Nat.coprime_comm]; exact h2) this
  have e := Nat.dvd_antisymm db bd
  have e2 : b = d := by omega
  subst e2
  exact ⟨Int.eq_of_mul_eq_mul_right (by omega) h, rfl⟩
theorem lowP_eq {x y u v : Int} (hy : 0 < y) (hv : 0 < v) (h : x * v = u * y) : lowP x y = lowP u v := by
  have hg := gcd_pos (t := x) hy
  have hk := gcd_pos (t := u) hv
  have e1 := lowP_t x y
  have e2 := lowP_b x y
  have e3 := lowP_t u v
  have e4 := lowP_b u v
  have key : (lowP x y).1 * (lowP u v).2 = (lowP u v).1 * (lowP x y).2 := by
    have h5 : ((lowP x y).1 * (lowP u v).2) * (((Nat.gcd x.natAbs y.natAbs : Nat) : Int) * ((Nat.gcd u.natAbs v.natAbs : Nat) : Int)) = ((lowP u v).1 * (lowP x y).2) * (((Nat.gcd x.natAbs y.natAbs : Nat) : Int) * ((Nat.gcd u.natAbs v.natAbs : Nat) : Int)) := by
      have l : ((lowP x y).1 * (lowP u v).2) * (((Nat.gcd x.natAbs y.natAbs : Nat) : Int) * ((Nat.gcd u.natAbs v.natAbs : Nat) : Int)) = ((lowP x y).1 * ((Nat.gcd x.natAbs y.natAbs : Nat) : Int)) * ((lowP u v).2 * ((Nat.gcd u.natAbs v.natAbs : Nat) : Int)) := by ac_rfl
      have r : ((lowP u v).1 * (lowP x y).2) * (((Nat.gcd x.natAbs y.natAbs : Nat) : Int) * ((Nat.gcd u.natAbs v.natAbs : Nat) : Int)) = ((lowP u v).1 * ((Nat.gcd u.natAbs v.natAbs : Nat) : Int)) * ((lowP x y).2 * ((Nat.gcd x.natAbs y.natAbs : Nat) : Int)) := by ac_rfl
      rw [l, r, e1, e2, e3, e4, h]
    exact Int.eq_of_mul_eq_mul_right (Int.ne_of_gt (Int.mul_pos hg hk)) h5
  have := co_eq (lowP_pos hy) (lowP_pos hv) (lowP_co hy) (lowP_co hv) key
  exact Prod.ext this.1 this.2
/-- what the law asks of lowered fractions -/
theorem low_plus {t b u c : Int} (hb : 0 < b) (hc : 0 < c) : lowP ((lowP t b).1 * (lowP u c).2 + (lowP u c).1 * (lowP t b).2) ((lowP t b).2 * (lowP u c).2) = lowP (t * c + u * b) (b * c) := by
  refine lowP_eq (Int.mul_pos (lowP_pos hb) (lowP_pos hc)) (Int.mul_pos hb hc) ?_
  have e1 := lowP_t t b
  have e2 := lowP_b t b
  have e3 := lowP_t u c
  have e4 := lowP_b u c
  generalize (lowP t b).1 = p at *
  generalize (lowP t b).2 = q at *
  generalize (lowP u c).1 = r at *
  generalize (lowP u c).2 = s at *
  generalize ((Nat.gcd t.natAbs b.natAbs : Nat) : Int) = g at *
  generalize ((Nat.gcd u.natAbs c.natAbs : Nat) : Int) = k at *
  subst e1 e2 e3 e4
  simp only [Int.add_mul]
  congr 1 <;> ac_rfl
theorem low_times {t b n o : Int} (hb : 0 < b) (ho : 0 < o) : lowP ((lowP t b).1 * n) ((lowP t b).2 * o) = lowP (t * n) (b * o) := by
  refine lowP_eq (Int.mul_pos (lowP_pos hb) ho) (Int.mul_pos hb ho) ?_
  have e1 := lowP_t t b
  have e2 := lowP_b t b
  generalize (lowP t b).1 = p at *
  generalize (lowP t b).2 = q at *
  generalize ((Nat.gcd t.natAbs b.natAbs : Nat) : Int) = g at *
  subst e1 e2
  ac_rfl
theorem low_less {t b u c : Int} (hb : 0 < b) (hc : 0 < c) : ((lowP t b).1 * (lowP u c).2 < (lowP u c).1 * (lowP t b).2) ↔ t * c < u * b := by
  have e1 := lowP_t t b
  have e2 := lowP_b t b
  have e3 := lowP_t u c
  have e4 := lowP_b u c
  have hg := gcd_pos (t := t) hb
  have hk := gcd_pos (t := u) hc
  generalize (lowP t b).1 = p at *
  generalize (lowP t b).2 = q at *
  generalize (lowP u c).1 = r at *
  generalize (lowP u c).2 = s at *
  generalize ((Nat.gcd t.natAbs b.natAbs : Nat) : Int) = g at *
  generalize ((Nat.gcd u.natAbs c.natAbs : Nat) : Int) = k at *
  subst e1 e2 e3 e4
  have h1 : p * g * (s * k) = (p * s) * (g * k) := by ac_rfl
  have h2 : r * k * (q * g) = (r * q) * (g * k) := by ac_rfl
  rw [h1, h2]
  have hgk := Int.mul_pos hg hk
  exact ⟨fun h => Int.mul_lt_mul_of_pos_right h hgk, fun h => Int.lt_of_mul_lt_mul_right h (Int.le_of_lt hgk)⟩
theorem low_zero {b : Int} (hb : 0 < b) : lowP 0 b = (0, 1) := by
  have h : lowP 0 b = lowP 0 1 := lowP_eq hb (by decide) (by simp)
  rw [h]
  decide
/-- a share whose numbers are of at most n bits -/
def FrN (n : Nat) (p : Int × Int) : Prop := 0 < p.2 ∧ p.2.natAbs < 2 ^ n ∧ p.1.natAbs < 2 ^ n
theorem FrN.mul {n m : Nat} {x y : Int} (hx : x.natAbs < 2 ^ n) (hy : y.natAbs < 2 ^ m) (h0 : 0 < n) (h1 : 0 < m) (h : n + m ≤ 1000000) : CMul x y ∨ CMulW x y := Or.inr (wide_mul hx hy h0 h1 h)
theorem natAbs_of_lt {b : Int} {n : Nat} (h0 : 0 < b) (h : b < 2 ^ n) : b.natAbs < 2 ^ n := by
  have h3 : (((2 : Nat) ^ n : Nat) : Int) = (2 : Int) ^ n := by push_cast; rfl
  omega
theorem gcd_small' {t b : Int} {n : Nat} (h : 0 < b) (hb : b.natAbs < 2 ^ n) : ((Nat.gcd t.natAbs b.natAbs : Nat) : Int).natAbs < 2 ^ n := by
  have h1 := gcd_le (t := t) h
  have h2 := gcd_pos (t := t) h
  exact Nat.lt_of_le_of_lt (by omega) hb
theorem lowP_small {t b : Int} {n m : Nat} (h : 0 < b) (ht : t.natAbs < 2 ^ m) (hb : b.natAbs < 2 ^ n) : 0 < (lowP t b).2 ∧ (lowP t b).2.natAbs < 2 ^ n ∧ (lowP t b).1.natAbs < 2 ^ m := by
  refine ⟨lowP_pos h, ?_, ?_⟩
  · have h1 := lowP_le (t := t) h
    have h2 := lowP_pos (t := t) h
    exact Nat.lt_of_le_of_lt (by omega) hb
  · refine Nat.lt_of_le_of_lt ?_ ht
    show (t / ((Nat.gcd t.natAbs b.natAbs : Nat) : Int)).natAbs ≤ t.natAbs
    obtain ⟨q, hq⟩ := dvd_t t b
    have hg := gcd_pos (t := t) h
    have e : t / ((Nat.gcd t.natAbs b.natAbs : Nat) : Int) = q := by
      have := Int.mul_ediv_cancel_left q (show ((Nat.gcd t.natAbs b.natAbs : Nat) : Int) ≠ 0 by omega)
      rw [← hq] at this
      exact this
    rw [e, hq, Int.natAbs_mul]
    have h3 : 1 ≤ ((Nat.gcd t.natAbs b.natAbs : Nat) : Int).natAbs := by omega
    exact Nat.le_mul_of_pos_left _ h3
theorem map_get {α : Type} {l : List α} {f : α → PyData} {i : Nat} {d : PyData} (hd : (l.map f)[i]? = some d) : ∃ x, l[i]? = some x ∧ f x = d := by
  rw [List.getElem?_map] at hd
  cases q : l[i]? with
  | none => rw [q] at hd; cases hd
  | some r => rw [q] at hd; exact ⟨r, rfl, Option.some.inj hd⟩

/-! means -/
def noT : Task := ⟨1, 1, 0, [0]⟩
def markZ (t : Task) : Int := (maxI (givesP t)).getD 0
def stepM (p : Int × Int) (t : Task) : Int × Int := lowP (p.1 * t.most + t.w * markZ t * p.2) (p.2 * t.most)
def foldM (ts : List Task) : Int × Int := ts.foldl stepM (0, 1)
def wSum (ts : List Task) : Int := ts.foldl (fun s t => s + t.w) 0
def meanP (ts : List Task) : Int × Int := lowP (foldM ts).1 ((foldM ts).2 * wSum ts)
def Tried (t : Task) : Prop := t.Ok ∧ t.tries ≠ []
theorem gAt_lo {t : Task} (h : t.Ok) {i : Nat} (hi : i < t.tries.length) : 0 ≤ gAt t i ∧ gAt t i ≤ t.most := by
  have hm : t.tries.getD i 0 ∈ t.tries := by
    rw [List.getD_eq_getElem?_getD, List.getElem?_eq_getElem hi]
    exact List.getElem_mem hi
  have h1 := h.t0 _ hm
  have h2 := h.c0
  have h3 := h.c1
  unfold gAt
  split <;> omega
theorem gives_ne {t : Task} (h : t.tries ≠ []) : givesP t ≠ [] := fun z => by
  have := congrArg List.length z
  unfold givesP at this
  rw [List.length_map, List.length_range] at this
  exact h (List.eq_nil_of_length_eq_zero this)
theorem mark_is {t : Task} (h : Tried t) : maxI (givesP t) = some (markZ t) := by
  obtain ⟨m, hm⟩ := maxI_some (gives_ne h.2)
  unfold markZ
  rw [hm]
  rfl
theorem markZ_lo {t : Task} (h : Tried t) : 0 ≤ markZ t ∧ markZ t ≤ t.most := by
  have hm := maxI_mem (mark_is h)
  obtain ⟨i, hi, e⟩ := List.mem_map.mp hm
  rw [← e]
  exact gAt_lo h.1 (List.mem_range.mp hi)
theorem stepM_fr {n : Nat} {p : Int × Int} {t : Task} (hp : FrN n p) (h : Tried t) : FrN (n + 40) (stepM p t) := by
  obtain ⟨h0, h1, h2⟩ := hp
  have m := markZ_lo h
  have b1 := h.1.m0
  have b2 := h.1.m1
  have w0 := h.1.w0
  have w1 := h.1.w1
  have e40 : (2 : Nat) ^ (n + 40) = 2 ^ n * 2 ^ 40 := Nat.pow_add _ _ _
  have hmost : t.most.natAbs ≤ 1000000 := by omega
  have hw : t.w.natAbs ≤ 1000 := by omega
  have hmk : (markZ t).natAbs ≤ 1000000 := by omega
  refine lowP_small (Int.mul_pos h0 (by omega)) ?_ ?_
  · rw [e40]
    refine Nat.lt_of_le_of_lt (Int.natAbs_add_le _ _) ?_
    rw [Int.natAbs_mul, Int.natAbs_mul, Int.natAbs_mul]
    have a1 : p.1.natAbs * t.most.natAbs ≤ 2 ^ n * 1000000 := Nat.mul_le_mul (by omega) hmost
    have a2 : t.w.natAbs * (markZ t).natAbs ≤ 1000 * 1000000 := Nat.mul_le_mul hw hmk
    have a3 : t.w.natAbs * (markZ t).natAbs * p.2.natAbs ≤ 1000 * 1000000 * 2 ^ n := Nat.mul_le_mul a2 (by omega)
    have hpos : 0 < (2 : Nat) ^ n := Nat.two_pow_pos n
    generalize (2 : Nat) ^ n = N at *
    omega
  · rw [e40, Int.natAbs_mul]
    have a1 : p.2.natAbs * t.most.natAbs ≤ 2 ^ n * 1000000 := Nat.mul_le_mul (by omega) hmost
    have hpos : 0 < (2 : Nat) ^ n := Nat.two_pow_pos n
    generalize (2 : Nat) ^ n = N at *
    omega
theorem foldM_fr : ∀ {ts : List Task} {n : Nat} {p : Int × Int}, FrN n p → (∀ t ∈ ts, Tried t) → FrN (n + 40 * ts.length) (ts.foldl stepM p)
  | [], _, _, hp, _ => hp
  | t :: ts, n, p, hp, h => by
    have h2 := foldM_fr (ts := ts) (stepM_fr hp (h t List.mem_cons_self)) fun x hx => h x (List.mem_cons_of_mem _ hx)
    rw [List.length_cons, List.foldl_cons, show n + 40 * (ts.length + 1) = n + 40 + 40 * ts.length by omega]
    exact h2
theorem foldM_snoc (ts : List Task) (t : Task) : foldM (ts ++ [t]) = stepM (foldM ts) t := by
  unfold foldM
  rw [List.foldl_append]
  rfl
theorem wSum_snoc (ts : List Task) (t : Task) : wSum (ts ++ [t]) = wSum ts + t.w := by
  unfold wSum
  rw [List.foldl_append]
  rfl
theorem wSum_lo : ∀ {ts : List Task}, (∀ t ∈ ts, Tried t) → (ts.length : Int) ≤ wSum ts ∧ wSum ts ≤ 1000 * (ts.length : Int) := by
  intro ts h
  have key : ∀ (l : List Task) (s : Int), (∀ t ∈ l, Tried t) → s + (l.length : Int) ≤ l.foldl (fun s t => s + t.w) s ∧ l.foldl (fun s t => s + t.w) s ≤ s + 1000 * (l.length : Int) := by
    intro l
    induction l with
    | nil => intro s _; simp
    | cons t r ih =>
      intro s h
      have h1 := ih (s + t.w) fun x hx => h x (List.mem_cons_of_mem _ hx)
      have h2 := (h t List.mem_cons_self).1
      have w0 := h2.w0
      have w1 := h2.w1
      rw [List.foldl_cons, List.length_cons]
      push_cast
      omega
  have := key ts 0 h
  unfold wSum
  omega
theorem foldM_fr0 {ts : List Task} (h : ∀ t ∈ ts, Tried t) : FrN (1 + 40 * ts.length) (foldM ts) := foldM_fr (n := 1) ⟨by decide, by decide, by decide⟩ h
/-! one bottom for all -/
def vOf (M : Int) (t : Task) : Int := t.w * markZ t * (M / t.most)
def vSum (M : Int) (ts : List Task) : Int := (ts.map (vOf M)).sum
theorem stepM_common {M V : Int} {t : Task} (hM : 0 < M) (h0 : 0 < t.most) (hd : t.most ∣ M) : stepM (lowP V M) t = lowP (V + vOf M t) M := by
  obtain ⟨e, he⟩ := hd
  have hde : M / t.most = e := by rw [he]; exact Int.mul_ediv_cancel_left e (by omega)
  unfold stepM vOf
  rw [hde]
  have ha := lowP_t V M
  have hb := lowP_b V M
  have hp := lowP_pos (t := V) hM
  refine lowP_eq (Int.mul_pos hp h0) hM ?_
  generalize (lowP V M).1 = a at *
  generalize (lowP V M).2 = b at *
  generalize ((Nat.gcd V.natAbs M.natAbs : Nat) : Int) = g at *
  generalize t.w * markZ t = k at *
  generalize t.most = m at *
  rw [show (a * m + k * b) * M = a * m * M + k * b * M by rw [Int.add_mul], show (V + k * e) * (b * m) = V * (b * m) + k * e * (b * m) by rw [Int.add_mul]]
  congr 1
  · rw [← hb, ← ha]
    ac_rfl
  · rw [he]
    ac_rfl
theorem foldM_common {M : Int} (hM : 0 < M) : ∀ (ts : List Task) (V : Int), (∀ t ∈ ts, 0 < t.most ∧ t.most ∣ M) → ts.foldl stepM (lowP V M) = lowP (V + vSum M ts) M
  | [], V, _ => by
    show lowP V M = lowP (V + 0) M
    rw [Int.add_zero]
  | t :: ts, V, h => by
    have h1 := h t List.mem_cons_self
    rw [List.foldl_cons, stepM_common hM h1.1 h1.2, foldM_common hM ts _ fun x hx => h x (List.mem_cons_of_mem _ hx)]
    unfold vSum
    rw [List.map_cons, List.sum_cons, Int.add_assoc]
theorem foldM_eq {M : Int} {ts : List Task} (hM : 0 < M) (h : ∀ t ∈ ts, 0 < t.most ∧ t.most ∣ M) : foldM ts = lowP (vSum M ts) M := by
  have := foldM_common hM ts 0 h
  rw [low_zero hM, Int.zero_add] at this
  exact this
/-- the mean, over one bottom: its value hangs on the sums alone -/
theorem meanP_eq {M : Int} {ts : List Task} (hM : 0 < M) (h : ∀ t ∈ ts, 0 < t.most ∧ t.most ∣ M) (hw : 0 < wSum ts) : meanP ts = lowP (vSum M ts) (M * wSum ts) := by
  unfold meanP
  rw [foldM_eq hM h]
  have ha := lowP_t (vSum M ts) M
  have hb := lowP_b (vSum M ts) M
  have hp := lowP_pos (t := vSum M ts) hM
  refine lowP_eq (Int.mul_pos hp hw) (Int.mul_pos hM hw) ?_
  generalize (lowP (vSum M ts) M).1 = a at *
  generalize (lowP (vSum M ts) M).2 = b at *
  generalize ((Nat.gcd (vSum M ts).natAbs M.natAbs : Nat) : Int) = g at *
  rw [← ha]
  rw [show a * (M * wSum ts) = a * (b * g * wSum ts) by rw [hb]]
  ac_rfl
theorem perm_sum {xs ys : List Int} (h : xs.Perm ys) : xs.sum = ys.sum := by
  induction h with
  | nil => rfl
  | cons x _ ih => rw [List.sum_cons, List.sum_cons, ih]
  | swap x y l => rw [List.sum_cons, List.sum_cons, List.sum_cons, List.sum_cons]; omega
  | trans _ _ i1 i2 => exact i1.trans i2
theorem vSum_perm {M : Int} {xs ys : List Task} (h : xs.Perm ys) : vSum M xs = vSum M ys := perm_sum (h.map _)
theorem wSum_eq (ts : List Task) : wSum ts = (ts.map (·.w)).sum := by
  have key : ∀ (l : List Task) (s : Int), l.foldl (fun s t => s + t.w) s = s + (l.map (·.w)).sum := by
    intro l
    induction l with
    | nil => intro s; simp
    | cons t r ih => intro s; rw [List.foldl_cons, ih, List.map_cons, List.sum_cons, Int.add_assoc]
  have := key ts 0
  unfold wSum
  omega
theorem wSum_perm {xs ys : List Task} (h : xs.Perm ys) : wSum xs = wSum ys := by
  rw [wSum_eq, wSum_eq]
  exact perm_sum (h.map _)
def allMost (ts : List Task) : Int := (ts.map (·.most)).foldl (· * ·) 1
theorem tasks_get {p : Part} {j : Nat} (h : j < p.tasks.length) : (tasksD p.tasks)[j]? = some (p.tasks.getD j noT).D := by
  unfold tasksD
  rw [List.getElem?_map, List.getD_eq_getElem?_getD, List.getElem?_eq_getElem h]
  rfl
theorem tasks_ok {p : Part} (hp : p.Ok) {j : Nat} (h : j < p.tasks.length) : (p.tasks.getD j noT).Ok := by
  refine hp.ts _ ?_
  rw [List.getD_eq_getElem?_getD, List.getElem?_eq_getElem h]
  exact List.getElem_mem h
def triedN (p : Part) (i : Nat) : Bool := !(p.tasks.getD i noT).tries.isEmpty
def markedN (p : Part) : List Nat := (List.range p.tasks.length).filter (triedN p)
theorem isN_mark (t : Task) : DL.isN (optD (maxI (givesP t))) = t.tries.isEmpty := by
  cases h : t.tries with
  | nil =>
    have e : givesP t = [] := by unfold givesP; rw [h]; rfl
    rw [e]
    rfl
  | cons x r =>
    obtain ⟨m, hm⟩ := maxI_some (gives_ne (t := t) (by rw [h]; exact fun z => nomatch z))
    rw [hm]
    rfl
theorem meanP_fr {ts : List Task} (h : ∀ t ∈ ts, Tried t) (hl : ts.length ≤ 8) (hne : 0 < ts.length) : FrN 400 (meanP ts) := by
  obtain ⟨f0, f1, f2⟩ := foldM_fr0 h
  have ws := wSum_lo h
  have b1 : ((foldM ts).2 * wSum ts).natAbs < 2 ^ 400 := Nat.lt_of_lt_of_le (wide_lt f1 (b := 20) (by omega)) (Nat.pow_le_pow_right (by decide) (by omega))
  have t1 : (foldM ts).1.natAbs < 2 ^ 400 := Nat.lt_of_lt_of_le f2 (Nat.pow_le_pow_right (by decide) (by omega))
  exact lowP_small (Int.mul_pos f0 (by omega)) t1 b1
theorem FrN.up {n m : Nat} {p : Int × Int} (h : FrN n p) (hm : n ≤ m) : FrN m p :=
  ⟨h.1, Nat.lt_of_lt_of_le h.2.1 (Nat.pow_le_pow_right (by decide) hm), Nat.lt_of_lt_of_le h.2.2 (Nat.pow_le_pow_right (by decide) hm)⟩

-- KIND: L
-- NEED: low
-- NEED: mean
-- CALL: {p : Part} | p.D | p | p.Ok | intsD ((markedN p).map Int.ofNat)
def triedE (p : Part) : PyData → Bool
  | .tuple [.int i, _] => triedN p i.toNat
  | _ => false
def firstE : PyData → PyData
  | .tuple [i, _] => i
  | _ => .none
abbrev sp__marked (K : PySem.W.Frag) : Sp := spL K (fun p : Part => [p.D]) (fun p => p.Ok) (fun p => intsD ((markedN p).map Int.ofNat))

theorem c__marked {Z : Zx} {ρ : List Sl} {E : XK} {t0 : TE} {p : Part} (h0 : EvD Z t0 ρ (p.D)) (ok : p.Ok) : EvL Z (tCall (sp__marked Z.K) [] E (tCons t0 tNil)) ρ (intsD ((markedN p).map Int.ofNat)) := DL.l_call p (DL.ea_cons h0 DL.ea_nil) ok
local macro_rules | `(tactic| walk_at "call") => `(tactic| ((with_reducible apply k07.c__marked) <;> walk_at "ev"))
-- KIND: D
-- NEED: low
-- CALL: {t b : Int} | .int t ; .int b | (t, b) | 0 < b ∧ b.natAbs < 2 ^ 8000 | shD (lowP t b)
abbrev sp_share (K : PySem.W.Frag) : Sp := spD K (fun a : Int × Int => [.int a.1, .int a.2]) (fun a => 0 < a.2 ∧ a.2.natAbs < 2 ^ 8000) (fun a => shD (lowP a.1 a.2))

theorem c_share {Z : Zx} {ρ : List Sl} {E : XK} {t0 t1 : TE} {t b : Int} (h0 : EvD Z t0 ρ (.int t)) (h1 : EvD Z t1 ρ (.int b)) (ok : 0 < b ∧ b.natAbs < 2 ^ 8000) : EvD Z (tCall (sp_share Z.K) [] E (tCons t0 (tCons t1 tNil))) ρ (shD (lowP t b)) := DL.d_call (t, b) (DL.ea_cons h0 (DL.ea_cons h1 DL.ea_nil)) ok
local macro_rules | `(tactic| walk_at "call") => `(tactic| ((with_reducible apply k07.c_share) <;> walk_at "ev"))
-- KIND: D
-- NEED: low
-- CALL: {p : Int × Int} {n o : Int} | shD p ; .int n ; .int o | (p, n, o) | FrN 4000 p ∧ n.natAbs < 2 ^ 4000 ∧ 0 < o ∧ o.natAbs < 2 ^ 4000 | shD (lowP (p.1 * n) (p.2 * o))
abbrev sp_times (K : PySem.W.Frag) : Sp := spD K (fun a : (Int × Int) × Int × Int => [shD a.1, .int a.2.1, .int a.2.2]) (fun a => FrN 4000 a.1 ∧ a.2.1.natAbs < 2 ^ 4000 ∧ 0 < a.2.2 ∧ a.2.2.natAbs < 2 ^ 4000) (fun a => shD (lowP (a.1.1 * a.2.1) (a.1.2 * a.2.2)))

theorem c_times {Z : Zx} {ρ : List Sl} {E : XK} {t0 t1 t2 : TE} {p : Int × Int} {n o : Int} (h0 : EvD Z t0 ρ (shD p)) (h1 : EvD Z t1 ρ (.int n)) (h2 : EvD Z t2 ρ (.int o)) (ok : FrN 4000 p ∧ n.natAbs < 2 ^ 4000 ∧ 0 < o ∧ o.natAbs < 2 ^ 4000) : EvD Z (tCall (sp_times Z.K) [] E (tCons t0 (tCons t1 (tCons t2 tNil)))) ρ (shD (lowP (p.1 * n) (p.2 * o))) := DL.d_call (p, n, o) (DL.ea_cons h0 (DL.ea_cons h1 (DL.ea_cons h2 DL.ea_nil))) ok
local macro_rules | `(tactic| walk_at "call") => `(tactic| ((with_reducible apply k07.c_times) <;> walk_at "ev"))
-- KIND: D
-- NEED: low
-- CALL: {p q : Int × Int} | shD p ; shD q | (p, q) | FrN 4000 p ∧ FrN 4000 q | shD (lowP (p.1 * q.2 + q.1 * p.2) (p.2 * q.2))
abbrev sp_plus (K : PySem.W.Frag) : Sp := spD K (fun a : (Int × Int) × (Int × Int) => [shD a.1, shD a.2]) (fun a => FrN 4000 a.1 ∧ FrN 4000 a.2) (fun a => shD (lowP (a.1.1 * a.2.2 + a.2.1 * a.1.2) (a.1.2 * a.2.2)))

theorem c_plus {Z : Zx} {ρ : List Sl} {E : XK} {t0 t1 : TE} {p q : Int × Int} (h0 : EvD Z t0 ρ (shD p)) (h1 : EvD Z t1 ρ (shD q)) (ok : FrN 4000 p ∧ FrN 4000 q) : EvD Z (tCall (sp_plus Z.K) [] E (tCons t0 (tCons t1 tNil))) ρ (shD (lowP (p.1 * q.2 + q.1 * p.2) (p.2 * q.2))) := DL.d_call (p, q) (DL.ea_cons h0 (DL.ea_cons h1 DL.ea_nil)) ok
local macro_rules | `(tactic| walk_at "call") => `(tactic| ((with_reducible apply k07.c_plus) <;> walk_at "ev"))
/-! all ways to take so many of them -/
def waysP : List Int → Nat → List (List Int)
  | _, 0 => [[]]
  | ns, m + 1 => (List.range ns.length).flatMap fun k => (waysP (ns.drop (k + 1)) m).map (ns.getD k 0 :: ·)
def wayD (w : List Int) : PyData := .tuple (intsD w)

/-! the first of all ways -/
def keptN (ns : List Nat) (w : List Int) : List Nat := ns.filter fun i => !decide ((i : Int) ∈ w)
def taskN (p : Part) (i : Nat) : Task := p.tasks.getD i noT
def hereP (p : Part) (ns : List Nat) (w : List Int) : Int × Int := if keptN ns w = [] then (0, 1) else meanP ((keptN ns w).map (taskN p))
def stepL (p : Part) (ns : List Nat) (s : List Int × (Int × Int)) (w : List Int) : List Int × (Int × Int) :=
  if s.2.1 * (hereP p ns w).2 < (hereP p ns w).1 * s.2.2 then (w, hereP p ns w) else s
def manyL (p : Part) : Nat := min p.worst.toNat ((markedN p).length - 1)
def waysL (p : Part) : List (List Int) := waysP ((markedN p).map Int.ofNat) (manyL p)
def foldL (p : Part) (ws : List (List Int)) : List Int × (Int × Int) := ws.foldl (stepL p (markedN p)) ([], (-1, 1))
def leftP (p : Part) : List Int := (foldL p (waysL p)).1
theorem markedN_lo {p : Part} {i : Nat} (h : i ∈ markedN p) : i < p.tasks.length ∧ (p.tasks.getD i noT).tries ≠ [] := by
  obtain ⟨h1, h2⟩ := List.mem_filter.mp h
  refine ⟨List.mem_range.mp h1, fun z => ?_⟩
  unfold triedN at h2
  rw [z] at h2
  cases h2
theorem markedN_len (p : Part) : (markedN p).length ≤ p.tasks.length := by
  have := List.length_filter_le (triedN p) (List.range p.tasks.length)
  rw [List.length_range] at this
  exact this
theorem kept_tried {p : Part} (hp : p.Ok) {w : List Int} : ∀ t ∈ (keptN (markedN p) w).map (taskN p), Tried t := fun t ht => by
  obtain ⟨i, hi, rfl⟩ := List.mem_map.mp ht
  have h1 := markedN_lo (List.mem_filter.mp hi).1
  exact ⟨tasks_ok hp h1.1, h1.2⟩
theorem kept_len {p : Part} (hp : p.Ok) (w : List Int) : (keptN (markedN p) w).length ≤ 8 := by
  have h1 := List.length_filter_le (fun i : Nat => !decide ((i : Int) ∈ w)) (markedN p)
  have h2 := markedN_len p
  have h3 := hp.tl
  unfold keptN
  omega
theorem hereP_fr {p : Part} (hp : p.Ok) (w : List Int) : FrN 400 (hereP p (markedN p) w) := by
  unfold hereP
  split
  · exact FrN.up (n := 1) ⟨by decide, by decide, by decide⟩ (by decide)
  · rename_i h
    have h8 := kept_len hp w
    have hpos : 0 < (keptN (markedN p) w).length := List.length_pos_iff.mpr h
    exact meanP_fr (kept_tried hp) (by rw [List.length_map]; omega) (by rw [List.length_map]; omega)
theorem foldL_fr {p : Part} (hp : p.Ok) : ∀ (ws : List (List Int)) (s : List Int × (Int × Int)), FrN 400 s.2 → FrN 400 (ws.foldl (stepL p (markedN p)) s).2
  | [], s, h => h
  | w :: r, s, h => by
    rw [List.foldl_cons]
    refine foldL_fr hp r _ ?_
    unfold stepL
    split
    · exact hereP_fr hp w
    · exact h
theorem foldL_snoc (p : Part) (ws : List (List Int)) (w : List Int) : foldL p (ws ++ [w]) = stepL p (markedN p) (foldL p ws) w := by
  unfold foldL
  rw [List.foldl_append]
  rfl
theorem foldL_fr0 {p : Part} (hp : p.Ok) (ws : List (List Int)) : FrN 400 (foldL p ws).2 := foldL_fr hp ws _ (FrN.up (n := 1) ⟨by decide, by decide, by decide⟩ (by decide))
def optS : Option (Int × Int) → PyData
  | none => .none
  | some p => shD p
def keptP (p : Part) : List Nat := keptN (markedN p) (leftP p)
def meanK (p : Part) : Int × Int := meanP ((keptP p).map (taskN p))
def topK (p : Part) : Int := (meanK p).1 * 1000 + min p.top p.extras.sum * (meanK p).2
def pshareP (p : Part) : Option (Int × Int) := if keptP p = [] then none else if 1000 * (meanK p).2 < topK p then some (1, 1) else some (lowP (topK p) (1000 * (meanK p).2))
theorem meanK_fr {p : Part} (hp : p.Ok) (h : keptP p ≠ []) : FrN 400 (meanK p) := by
  have h8 := kept_len hp (leftP p)
  have hpos : 0 < (keptP p).length := List.length_pos_iff.mpr h
  exact meanP_fr (kept_tried hp) (by rw [List.length_map]; exact h8) (by rw [List.length_map]; exact hpos)
theorem pshare_fr {p : Part} (hp : p.Ok) {q : Int × Int} (h : pshareP p = some q) : FrN 420 q := by
  unfold pshareP at h
  split at h
  · cases h
  rename_i hne
  obtain ⟨f0, f1, f2⟩ := meanK_fr hp hne
  split at h
  · rw [← Option.some.inj h]
    exact FrN.up (n := 1) ⟨by decide, by decide, by decide⟩ (by decide)
  · rw [← Option.some.inj h]
    have hb : (1000 * (meanK p).2).natAbs < 2 ^ 420 := Nat.lt_of_lt_of_le (wide_lt (a := 10) (by decide) f1) (Nat.pow_le_pow_right (by decide) (by decide))
    have hs : ∀ l : List Int, (∀ x ∈ l, 0 ≤ x ∧ x ≤ 1000) → 0 ≤ l.sum := by
      intro l
      induction l with
      | nil => intro _; exact Int.le_refl _
      | cons x r ih =>
        intro h
        have h1 := ih fun y hy => h y (List.mem_cons_of_mem _ hy)
        have h2 := h x List.mem_cons_self
        rw [List.sum_cons]
        omega
    have ht0 := hp.t0
    have ht1 := hp.t1
    have hes := hs _ hp.es
    have hx : (min p.top p.extras.sum).natAbs < 2 ^ 10 := by
      have : (2 : Nat) ^ 10 = 1024 := by decide
      omega
    have h1 : ((meanK p).1 * 1000).natAbs < 2 ^ 410 := wide_lt f2 (b := 10) (by decide)
    have h2 : (min p.top p.extras.sum * (meanK p).2).natAbs < 2 ^ 410 := Nat.lt_of_lt_of_le (wide_lt hx f1) (Nat.pow_le_pow_right (by decide) (by decide))
    have ht : (topK p).natAbs < 2 ^ 420 := by
      refine Nat.lt_of_le_of_lt (Int.natAbs_add_le _ _) ?_
      have e : (2 : Nat) ^ 420 = 2 ^ 410 * 1024 := by decide
      rw [e]
      generalize (2 : Nat) ^ 410 = N at *
      omega
    exact lowP_small (Int.mul_pos (by decide) f0) ht hb
def stepG (s : (Int × Int) × Int) (p : Part) : (Int × Int) × Int := match pshareP p with
  | none => s
  | some h => (lowP (s.1.1 * h.2 + p.w * h.1 * s.1.2) (s.1.2 * h.2), s.2 + p.w)
def foldG (ps : List Part) : (Int × Int) × Int := ps.foldl stepG ((0, 1), 0)
def gradeP (ps : List Part) : Option (Int × Int) := if (foldG ps).2 = 0 then none else some (lowP (foldG ps).1.1 ((foldG ps).1.2 * (foldG ps).2))
theorem foldG_snoc (ps : List Part) (p : Part) : foldG (ps ++ [p]) = stepG (foldG ps) p := by
  unfold foldG
  rw [List.foldl_append]
  rfl
theorem stepG_top {n : Nat} {q h : Int × Int} {w : Int} (hq : FrN n q) (hh : FrN 420 h) (w0 : 0 ≤ w) (w1 : w ≤ 1000) : (q.1 * h.2 + w * h.1 * q.2).natAbs < 2 ^ (n + 440) ∧ (q.2 * h.2).natAbs < 2 ^ (n + 440) ∧ 0 < q.2 * h.2 := by
  obtain ⟨a0, a1, a2⟩ := hq
  obtain ⟨b0, b1, b2⟩ := hh
  have e : (2 : Nat) ^ (n + 440) = 2 ^ (n + 430) * 1024 := by rw [show n + 440 = n + 430 + 10 by omega, Nat.pow_add]
  have hw : w.natAbs < 2 ^ 10 := by
    have : (2 : Nat) ^ 10 = 1024 := by decide
    omega
  have h1 : (q.1 * h.2).natAbs < 2 ^ (n + 430) := Nat.lt_of_lt_of_le (wide_lt a2 b1) (Nat.pow_le_pow_right (by decide) (by omega))
  have h2 : (w * h.1 * q.2).natAbs < 2 ^ (n + 430) := Nat.lt_of_lt_of_le (wide_lt (wide_lt hw b2) a1) (Nat.pow_le_pow_right (by decide) (by omega))
  have h3 : (q.2 * h.2).natAbs < 2 ^ (n + 430) := Nat.lt_of_lt_of_le (wide_lt a1 b1) (Nat.pow_le_pow_right (by decide) (by omega))
  rw [e]
  refine ⟨Nat.lt_of_le_of_lt (Int.natAbs_add_le _ _) ?_, ?_, Int.mul_pos a0 b0⟩
  · generalize (2 : Nat) ^ (n + 430) = N at *
    omega
  · generalize (2 : Nat) ^ (n + 430) = N at *
    omega
theorem foldG_fr : ∀ (ps : List Part) (s : (Int × Int) × Int) (n : Nat), FrN n s.1 → (∀ p ∈ ps, p.Ok) → FrN (n + 440 * ps.length) (ps.foldl stepG s).1 ∧ s.2 ≤ (ps.foldl stepG s).2 ∧ (ps.foldl stepG s).2 ≤ s.2 + 1000 * (ps.length : Int)
  | [], s, n, h, _ => ⟨h, Int.le_refl _, by simp⟩
  | p :: r, s, n, h, hp => by
    rw [List.foldl_cons, List.length_cons]
    have hpo := hp p List.mem_cons_self
    have w0 := hpo.w0
    have w1 := hpo.w1
    have hs : FrN (n + 440) (stepG s p).1 ∧ s.2 ≤ (stepG s p).2 ∧ (stepG s p).2 ≤ s.2 + 1000 := by
      unfold stepG
      cases q : pshareP p with
      | none => exact ⟨FrN.up h (by omega), Int.le_refl _, by show s.2 ≤ _; omega⟩
      | some x =>
        have t := stepG_top h (pshare_fr hpo q) (w := p.w) (by omega) w1
        exact ⟨lowP_small t.2.2 t.1 t.2.1, by show s.2 ≤ s.2 + p.w; omega, by show s.2 + p.w ≤ _; omega⟩
    have ih := foldG_fr r (stepG s p) (n + 440) hs.1 fun x hx => hp x (List.mem_cons_of_mem _ hx)
    rw [show n + 440 * (r.length + 1) = n + 440 + 440 * r.length by omega]
    refine ⟨ih.1, ?_, ?_⟩
    · omega
    · push_cast
      omega
theorem foldG_fr0 {ps : List Part} (h : ∀ p ∈ ps, p.Ok) : FrN (1 + 440 * ps.length) (foldG ps).1 ∧ 0 ≤ (foldG ps).2 ∧ (foldG ps).2 ≤ 1000 * (ps.length : Int) := by
  have := foldG_fr ps ((0, 1), 0) 1 ⟨by decide, by decide, by decide⟩ h
  refine ⟨this.1, this.2.1, ?_⟩
  have h2 : (foldG ps).2 ≤ 0 + 1000 * (ps.length : Int) := this.2.2
  omega
theorem optS_eqv (a b : Option (Int × Int)) : PyData.eqv (optS a) (optS b) = decide (a = b) := by
  cases a with
  | none =>
    cases b with
    | none => rfl
    | some q => rfl
  | some p =>
    cases b with
    | none => rfl
    | some q =>
      show PyData.eqv (.tuple (intsD [p.1, p.2])) (.tuple (intsD [q.1, q.2])) = _
      rw [eqv_tup]
      by_cases h : p = q
      · subst h
        rw [decide_eq_true rfl, decide_eq_true rfl]
      · have : ¬ [p.1, p.2] = [q.1, q.2] := fun z => h (by
          simp only [List.cons.injEq, and_true] at z
          exact Prod.ext z.1 z.2)
        rw [decide_eq_false this, decide_eq_false (fun z => h (Option.some.inj z))]
theorem sh_optS (a : Option (Int × Int)) : DL.sh (optS a) := by
  cases a with
  | none => show SeqAt.shaped _ = true; decide
  | some p => exact sh_tup [p.1, p.2]

/-! what the program reckons, in the words of the law -/
def stepW (p : Int × Int) (r : Int × (Int × Int)) : Int × Int := lowP (p.1 * r.2.2 + r.1 * r.2.1 * p.2) (p.2 * r.2.2)
def foldW (rs : List (Int × (Int × Int))) : Int × Int := rs.foldl stepW (0, 1)
def sumW (rs : List (Int × (Int × Int))) : Int := rs.foldl (fun s r => s + r.1) 0
def weightedP (rs : List (Int × (Int × Int))) : Int × Int := lowP (foldW rs).1 ((foldW rs).2 * sumW rs)
def rowD (r : Int × (Int × Int)) : PyData := .tuple [.int r.1, shD r.2]
structure RowOk (r : Int × (Int × Int)) : Prop where
  w0 : 1 ≤ r.1
  w1 : r.1 ≤ 1000
  f : FrN 420 r.2
structure WOk (rs : List (Int × (Int × Int))) : Prop where
  r : ∀ r ∈ rs, RowOk r
  ne : rs ≠ []
  l : rs.length ≤ 8
theorem stepW_prog {p : Int × Int} {r : Int × (Int × Int)} (hp : 0 < p.2) (hr : 0 < r.2.2) :
    lowP (p.1 * (lowP (r.2.1 * r.1) (r.2.2 * 1)).2 + (lowP (r.2.1 * r.1) (r.2.2 * 1)).1 * p.2) (p.2 * (lowP (r.2.1 * r.1) (r.2.2 * 1)).2) = stepW p r := by
  rw [Int.mul_one]
  have e1 := lowP_t (r.2.1 * r.1) r.2.2
  have e2 := lowP_b (r.2.1 * r.1) r.2.2
  have h2 := lowP_pos (t := r.2.1 * r.1) hr
  unfold stepW
  refine lowP_eq (Int.mul_pos hp h2) (Int.mul_pos hp hr) ?_
  generalize (lowP (r.2.1 * r.1) r.2.2).1 = a at *
  generalize (lowP (r.2.1 * r.1) r.2.2).2 = b at *
  generalize ((Nat.gcd (r.2.1 * r.1).natAbs r.2.2.natAbs : Nat) : Int) = g at *
  rw [show r.1 * r.2.1 = a * g by rw [e1]; ac_rfl, ← e2]
  simp only [Int.add_mul]
  congr 1 <;> ac_rfl
theorem stepW_fr {n : Nat} {p : Int × Int} {r : Int × (Int × Int)} (hp : FrN n p) (h : RowOk r) : FrN (n + 440) (stepW p r) := by
  have t := stepG_top hp h.f (w := r.1) (by have := h.w0; omega) h.w1
  exact lowP_small t.2.2 t.1 t.2.1
theorem foldW_fr : ∀ {rs : List (Int × (Int × Int))} {n : Nat} {p : Int × Int}, FrN n p → (∀ r ∈ rs, RowOk r) → FrN (n + 440 * rs.length) (rs.foldl stepW p)
  | [], _, _, hp, _ => hp
  | t :: ts, n, p, hp, h => by
    have h2 := foldW_fr (rs := ts) (stepW_fr hp (h t List.mem_cons_self)) fun x hx => h x (List.mem_cons_of_mem _ hx)
    rw [List.length_cons, List.foldl_cons, show n + 440 * (ts.length + 1) = n + 440 + 440 * ts.length by omega]
    exact h2
theorem foldW_fr0 {rs : List (Int × (Int × Int))} (h : ∀ r ∈ rs, RowOk r) : FrN (1 + 440 * rs.length) (foldW rs) := foldW_fr (n := 1) ⟨by decide, by decide, by decide⟩ h
theorem foldW_snoc (rs : List (Int × (Int × Int))) (r : Int × (Int × Int)) : foldW (rs ++ [r]) = stepW (foldW rs) r := by
  unfold foldW
  rw [List.foldl_append]
  rfl
theorem sumW_snoc (rs : List (Int × (Int × Int))) (r : Int × (Int × Int)) : sumW (rs ++ [r]) = sumW rs + r.1 := by
  unfold sumW
  rw [List.foldl_append]
  rfl
theorem sumW_lo : ∀ {rs : List (Int × (Int × Int))}, (∀ r ∈ rs, RowOk r) → (rs.length : Int) ≤ sumW rs ∧ sumW rs ≤ 1000 * (rs.length : Int) := by
  intro rs h
  have key : ∀ (l : List (Int × (Int × Int))) (s : Int), (∀ r ∈ l, RowOk r) → s + (l.length : Int) ≤ l.foldl (fun s r => s + r.1) s ∧ l.foldl (fun s r => s + r.1) s ≤ s + 1000 * (l.length : Int) := by
    intro l
    induction l with
    | nil => intro s _; simp
    | cons t r ih =>
      intro s h
      have h1 := ih (s + t.1) fun x hx => h x (List.mem_cons_of_mem _ hx)
      have h2 := h t List.mem_cons_self
      have w0 := h2.w0
      have w1 := h2.w1
      rw [List.foldl_cons, List.length_cons]
      push_cast
      omega
  have := key rs 0 h
  unfold sumW
  omega
theorem rowD_len (r : Int × (Int × Int)) : rowD r = .tuple [.int r.1, .tuple [.int r.2.1, .int r.2.2]] := rfl
theorem ea_shD {Z : Zx} {ρ : List Sl} {ta : TE} {p : Int × Int} (h : EvD Z ta ρ (.tuple [.int p.1, .int p.2])) : EvD Z ta ρ (shD p) := h
/-- the rows of the tasks -/
def taskRow (t : Task) : Int × (Int × Int) := (t.w, lowP (markZ t) t.most)
theorem taskRow_ok {t : Task} (h : Tried t) : RowOk (taskRow t) := by
  refine ⟨h.1.w0, h.1.w1, ?_⟩
  have m := markZ_lo h
  have b1 := h.1.m0
  have b2 := h.1.m1
  have e20 : (2 : Nat) ^ 20 = 1048576 := by decide
  exact FrN.up (n := 20) (lowP_small (by omega) (by omega) (by omega)) (by decide)
theorem stepW_task {p : Int × Int} {t : Task} (hp : 0 < p.2) (h : 0 < t.most) : stepW p (taskRow t) = stepM p t := by
  unfold stepW stepM taskRow
  dsimp only
  have e1 := lowP_t (markZ t) t.most
  have e2 := lowP_b (markZ t) t.most
  have h2 := lowP_pos (t := markZ t) h
  refine lowP_eq (Int.mul_pos hp h2) (Int.mul_pos hp h) ?_
  generalize (lowP (markZ t) t.most).1 = a at *
  generalize (lowP (markZ t) t.most).2 = b at *
  generalize ((Nat.gcd (markZ t).natAbs t.most.natAbs : Nat) : Int) = g at *
  rw [← e1, ← e2]
  simp only [Int.add_mul]
  congr 1 <;> ac_rfl
theorem foldW_task : ∀ (ts : List Task) (p : Int × Int), 0 < p.2 → (∀ t ∈ ts, Tried t) → (ts.map taskRow).foldl stepW p = ts.foldl stepM p
  | [], _, _, _ => rfl
  | t :: r, p, hp, h => by
    have hm := (h t List.mem_cons_self).1.m0
    rw [List.map_cons, List.foldl_cons, List.foldl_cons, stepW_task hp (by omega)]
    refine foldW_task r _ ?_ fun x hx => h x (List.mem_cons_of_mem _ hx)
    exact lowP_pos (Int.mul_pos hp (by omega))
theorem sumW_task (ts : List Task) : sumW (ts.map taskRow) = wSum ts := by
  unfold sumW wSum
  rw [List.foldl_map]
  rfl
theorem weighted_task {ts : List Task} (h : ∀ t ∈ ts, Tried t) : weightedP (ts.map taskRow) = meanP ts := by
  unfold weightedP meanP foldW foldM
  rw [foldW_task ts _ (by decide) h, sumW_task]
/-- the rows of the parts -/
def partRow (p : Part) : Option (Int × (Int × Int)) := (pshareP p).map fun q => (p.w, q)
theorem foldW_part : ∀ (ps : List Part) (s : (Int × Int) × Int), ps.foldl stepG s = ((ps.filterMap partRow).foldl stepW s.1, (ps.filterMap partRow).foldl (fun s r => s + r.1) s.2)
  | [], _ => rfl
  | p :: r, s => by
    rw [List.foldl_cons, foldW_part r]
    unfold stepG
    cases q : pshareP p with
    | none =>
      have e : partRow p = none := by unfold partRow; rw [q]; rfl
      rw [List.filterMap_cons_none e]
    | some h =>
      have e : partRow p = some (p.w, h) := by unfold partRow; rw [q]; rfl
      rw [List.filterMap_cons_some e]
      rfl
theorem grade_rows (ps : List Part) (h : ∀ r ∈ ps.filterMap partRow, RowOk r) : gradeP ps = if ps.filterMap partRow = [] then none else some (weightedP (ps.filterMap partRow)) := by
  unfold gradeP foldG
  rw [foldW_part]
  have e : (ps.filterMap partRow).foldl (fun s r => s + r.1) ((0, 1), 0).2 = sumW (ps.filterMap partRow) := rfl
  dsimp only
  by_cases hne : ps.filterMap partRow = []
  · rw [if_pos hne, hne]
    rfl
  · have hl := sumW_lo h
    have hpos : 0 < (ps.filterMap partRow).length := List.length_pos_iff.mpr hne
    have hz : ¬ (ps.filterMap partRow).foldl (fun s r => s + r.1) 0 = 0 := by
      show ¬ sumW (ps.filterMap partRow) = 0
      omega
    rw [if_neg hne, if_neg hz]
    rfl
theorem rows_ok {ps : List Part} (h : ∀ p ∈ ps, p.Ok) : ∀ r ∈ ps.filterMap partRow, RowOk r := fun r hr => by
  obtain ⟨p, hp, e⟩ := List.mem_filterMap.mp hr
  unfold partRow at e
  cases q : pshareP p with
  | none => rw [q] at e; cases e
  | some s =>
    rw [q] at e
    have e2 : (p.w, s) = r := Option.some.inj e
    subst e2
    exact ⟨(h p hp).w0, (h p hp).w1, pshare_fr (h p hp) q⟩
/-- the ways by places -/
theorem drop_flat (m : Nat) (x : Int) (r : List Int) : (List.range (x :: r).length).flatMap (fun k => (waysP ((x :: r).drop (k + 1)) m).map ((x :: r).getD k 0 :: ·)) = (waysP r m).map (x :: ·) ++ (List.range r.length).flatMap (fun k => (waysP (r.drop (k + 1)) m).map (r.getD k 0 :: ·)) := by
  rw [List.length_cons, List.range_succ_eq_map, List.flatMap_cons, List.flatMap_map]
  rfl
theorem ways_eq : ∀ (ns : List Int) (k : Nat), waysP ns k = waysN ns k
  | ns, 0 => by
    unfold waysP
    cases ns <;> rfl
  | [], k + 1 => by unfold waysP; rfl
  | x :: r, k + 1 => by
    unfold waysP
    rw [drop_flat, ways_eq r k]
    have h := ways_eq r (k + 1)
    unfold waysP at h
    rw [h]
    rfl
theorem range_getD (ns : List Int) : (List.range ns.length).map (fun i => ns.getD i 0) = ns := by
  refine List.ext_getElem? fun i => ?_
  rw [List.getElem?_map]
  by_cases h : i < ns.length
  · rw [List.getElem?_range h, List.getElem?_eq_getElem h]
    show some (ns.getD i 0) = _
    rw [List.getD_eq_getElem?_getD, List.getElem?_eq_getElem h]
    rfl
  · rw [List.getElem?_eq_none (by rw [List.length_range]; omega), List.getElem?_eq_none (by omega)]
    rfl
theorem pick_ways {ns : List Int} {k : Nat} (C : Chain ns.length (waysN (List.range ns.length) k)) : ((waysN (List.range ns.length) k).map fun w => PyData.tuple (pickD (intsD ns) w)) = (waysP ns k).map wayD := by
  rw [ways_eq]
  conv => rhs; rw [← range_getD ns, waysN_map, List.map_map]
  refine List.map_congr_left fun w hw => ?_
  show PyData.tuple (pickD (intsD ns) w) = .tuple (intsD (w.map fun i => ns.getD i 0))
  congr 1
  unfold pickD intsD
  rw [List.map_map]
  refine List.map_congr_left fun j hj => ?_
  have hlt := (C.lt w hw).2 j hj
  show (intsD ns).getD j .none = .int (ns.getD j 0)
  rw [List.getD_eq_getElem?_getD, intsD_get hlt]
  rfl
theorem keptN_ne {ns : List Nat} {w : List Int} (hn : ns.Nodup) (hl : w.length < ns.length) : keptN ns w ≠ [] := fun z => by
  have key : ∀ (ns : List Nat) (w : List Int), ns.Nodup → (∀ i ∈ ns, (i : Int) ∈ w) → ns.length ≤ w.length := by
    intro ns
    induction ns with
    | nil => intro w _ _; exact Nat.zero_le _
    | cons a r ih =>
      intro w hnd hm
      have ha := hm a List.mem_cons_self
      have hnd2 := List.nodup_cons.mp hnd
      have h2 := ih (w.erase (a : Int)) hnd2.2 fun i hi => by
        have hne : (i : Int) ≠ (a : Int) := fun z => hnd2.1 (by rw [← Int.ofNat.inj z]; exact hi)
        exact (List.mem_erase_of_ne hne).mpr (hm i (List.mem_cons_of_mem _ hi))
      rw [List.length_erase_of_mem ha] at h2
      have h3 : 0 < w.length := List.length_pos_of_mem ha
      rw [List.length_cons]
      omega
  have := key ns w hn fun i hi => by
    apply Classical.byContradiction
    intro q
    have : i ∈ keptN ns w := List.mem_filter.mpr ⟨hi, by rw [decide_eq_false q]; rfl⟩
    rw [z] at this
    cases this
  omega
theorem marked_nodup (p : Part) : (markedN p).Nodup := List.Pairwise.filter _ List.nodup_range
theorem foldM_nn {ts : List Task} (h : ∀ t ∈ ts, Tried t) : 0 ≤ (foldM ts).1 := by
  have key : ∀ (ts : List Task) (p : Int × Int), 0 ≤ p.1 → 0 < p.2 → (∀ t ∈ ts, Tried t) → 0 ≤ (ts.foldl stepM p).1 := by
    intro ts
    induction ts with
    | nil => intro p h _ _; exact h
    | cons t r ih =>
      intro p h1 h2 h3
      have ht := h3 t List.mem_cons_self
      have hm := markZ_lo ht
      have m0 := ht.1.m0
      have w0 := ht.1.w0
      have hb : 0 < p.2 * t.most := Int.mul_pos h2 (by omega)
      refine ih _ ?_ (lowP_pos hb) fun x hx => h3 x (List.mem_cons_of_mem _ hx)
      refine Int.ediv_nonneg (Int.add_nonneg (Int.mul_nonneg h1 (by omega)) (Int.mul_nonneg (Int.mul_nonneg (by omega) hm.1) (by omega))) (Int.le_of_lt (gcd_pos hb))
  exact key ts (0, 1) (by decide) (by decide) h
theorem hereP_nn {p : Part} (hp : p.Ok) (w : List Int) : 0 ≤ (hereP p (markedN p) w).1 := by
  unfold hereP
  split
  · decide
  · rename_i hne
    have ht := kept_tried hp (w := w)
    have hl := wSum_lo ht
    have f := foldM_fr0 ht
    have hpos : 0 < (keptN (markedN p) w).length := List.length_pos_iff.mpr hne
    rw [List.length_map] at hl
    exact Int.ediv_nonneg (foldM_nn ht) (Int.le_of_lt (gcd_pos (Int.mul_pos f.1 (by omega))))
theorem waysN_len {α : Type} : ∀ (xs : List α) (k : Nat), ∀ w ∈ waysN xs k, w.length = k
  | _, 0, w, h => by
    have : w ∈ [[]] := by
      unfold waysN at h
      exact h
    rw [List.mem_singleton.mp this]; rfl
  | [], k + 1, w, h => by
    have h2 : w ∈ ([] : List (List α)) := h
    cases h2
  | x :: r, k + 1, w, h => by
    have h2 : w ∈ (waysN r k).map (x :: ·) ++ waysN r (k + 1) := h
    rcases List.mem_append.mp h2 with h3 | h3
    · obtain ⟨v, hv, rfl⟩ := List.mem_map.mp h3
      rw [List.length_cons, waysN_len r k v hv]
    · exact waysN_len r (k + 1) w h3
theorem leftP_len {p : Part} (hne : markedN p ≠ []) : (leftP p).length < (markedN p).length := by
  have key : ∀ (ws : List (List Int)) (s : List Int × (Int × Int)) (n : Nat), s.1.length ≤ n → (∀ w ∈ ws, w.length ≤ n) → (ws.foldl (stepL p (markedN p)) s).1.length ≤ n := by
    intro ws
    induction ws with
    | nil => intro s n h _; exact h
    | cons w r ih =>
      intro s n h hw
      rw [List.foldl_cons]
      refine ih _ n ?_ fun x hx => hw x (List.mem_cons_of_mem _ hx)
      unfold stepL
      split
      · exact hw w List.mem_cons_self
      · exact h
  have h := key (waysL p) ([], (-1, 1)) (manyL p) (Nat.zero_le _) fun w hw => by
    unfold waysL at hw
    rw [ways_eq] at hw
    exact Nat.le_of_eq (waysN_len _ _ _ hw)
  have hpos : 0 < (markedN p).length := List.length_pos_iff.mpr hne
  have : manyL p < (markedN p).length := by unfold manyL; omega
  exact Nat.lt_of_le_of_lt h this
theorem keptP_ne {p : Part} (hne : markedN p ≠ []) : keptP p ≠ [] := keptN_ne (marked_nodup p) (leftP_len hne)
theorem keptP_nil {p : Part} (h : markedN p = []) : keptP p = [] := by
  unfold keptP keptN
  rw [h]
  rfl

-- KIND: D
-- NEED: low
-- NEED: mean
-- NEED: ways
-- NEED: left
-- NEED: prog
-- CALL: {rs : List (Int × (Int × Int))} | .list (rs.map rowD) | rs | WOk rs | shD (weightedP rs)
abbrev sp_weighted (K : PySem.W.Frag) : Sp := spD K (fun rs : List (Int × (Int × Int)) => [.list (rs.map rowD)]) (fun rs => WOk rs) (fun rs => shD (weightedP rs))

theorem c_weighted {Z : Zx} {ρ : List Sl} {E : XK} {t0 : TE} {rs : List (Int × (Int × Int))} (h0 : EvD Z t0 ρ (.list (rs.map rowD))) (ok : WOk rs) : EvD Z (tCall (sp_weighted Z.K) [] E (tCons t0 tNil)) ρ (shD (weightedP rs)) := DL.d_call rs (DL.ea_cons h0 DL.ea_nil) ok
local macro_rules | `(tactic| walk_at "call") => `(tactic| ((with_reducible apply k07.c_weighted) <;> walk_at "ev"))
-- KIND: D
-- NEED: low
-- NEED: mean
-- NEED: ways
-- NEED: left
-- NEED: prog
-- CALL: {k : Bool} {p : Part} {is : List Nat} | p.D ; sqD k (intsD (is.map Int.ofNat)) | (k, p, is) | MeanOk8 p is | shD (meanP (is.map fun i => p.tasks.getD i noT))
structure MeanOk8 (p : Part) (is : List Nat) : Prop where
  po : p.Ok
  io : ∀ i ∈ is, i < p.tasks.length ∧ (p.tasks.getD i noT).tries ≠ []
  ne : is ≠ []
  l : is.length ≤ 8
theorem MeanOk8.tried {p : Part} {is : List Nat} (h : MeanOk8 p is) : ∀ t ∈ is.map (fun i => p.tasks.getD i noT), Tried t := fun t ht => by
  obtain ⟨i, hi, rfl⟩ := List.mem_map.mp ht
  have q := h.io i hi
  exact ⟨tasks_ok h.po q.1, q.2⟩
def taskAtV (p : Part) : PyData → PyData
  | .int i => (p.tasks.getD i.toNat noT).D
  | _ => .none
def intZ : PyData → Int
  | .int i => i
  | _ => 0
def taskRowV : PyData → PyData
  | .tuple [.int w, .int m, .int c, .tuple ts] => rowD (taskRow ⟨w, m, c, ts.map intZ⟩)
  | _ => .none
theorem taskRowV_D (t : Task) : taskRowV t.D = rowD (taskRow t) := by
  have e : (intsD t.tries).map intZ = t.tries := by
    unfold intsD
    rw [List.map_map]
    conv => rhs; rw [← List.map_id t.tries]
    rfl
  show rowD (taskRow ⟨t.w, t.most, t.cap, _⟩) = _
  rw [e]
abbrev sp_mean (K : PySem.W.Frag) : Sp := spD K (fun a : Bool × Part × List Nat => [a.2.1.D, sqD a.1 (intsD (a.2.2.map Int.ofNat))]) (fun a => MeanOk8 a.2.1 a.2.2) (fun a => shD (meanP (a.2.2.map fun i => a.2.1.tasks.getD i noT)))

theorem c_mean {Z : Zx} {ρ : List Sl} {E : XK} {t0 t1 : TE} {k : Bool} {p : Part} {is : List Nat} (h0 : EvD Z t0 ρ (p.D)) (h1 : EvD Z t1 ρ (sqD k (intsD (is.map Int.ofNat)))) (ok : MeanOk8 p is) : EvD Z (tCall (sp_mean Z.K) [] E (tCons t0 (tCons t1 tNil))) ρ (shD (meanP (is.map fun i => p.tasks.getD i noT))) := DL.d_call (k, p, is) (DL.ea_cons h0 (DL.ea_cons h1 DL.ea_nil)) ok
local macro_rules | `(tactic| walk_at "call") => `(tactic| ((with_reducible apply k07.c_mean) <;> walk_at "ev"))
-- KIND: L
-- NEED: low
-- NEED: mean
-- NEED: ways
-- NEED: left
-- CALL: {ns : List Nat} {w : List Int} | .list (intsD (ns.map Int.ofNat)) ; .tuple (intsD w) | (ns, w) | ns.length ≤ 50 | intsD ((keptN ns w).map Int.ofNat)
def keptU (w : List Int) : PyData → Bool
  | .int i => !decide (i ∈ w)
  | _ => false
theorem keptU_eq (ns : List Nat) (w : List Int) : keptD (intsD (ns.map Int.ofNat)) (keptU w) (fun d => d) = intsD ((keptN ns w).map Int.ofNat) := by
  unfold keptD intsD keptN
  rw [List.map_map, List.filter_map, List.map_map, List.map_map]
  rfl
abbrev sp__without (K : PySem.W.Frag) : Sp := spL K (fun a : List Nat × List Int => [.list (intsD (a.1.map Int.ofNat)), .tuple (intsD a.2)]) (fun a => a.1.length ≤ 50) (fun a => intsD ((keptN a.1 a.2).map Int.ofNat))

theorem c__without {Z : Zx} {ρ : List Sl} {E : XK} {t0 t1 : TE} {ns : List Nat} {w : List Int} (h0 : EvD Z t0 ρ (.list (intsD (ns.map Int.ofNat)))) (h1 : EvD Z t1 ρ (.tuple (intsD w))) (ok : ns.length ≤ 50) : EvL Z (tCall (sp__without Z.K) [] E (tCons t0 (tCons t1 tNil))) ρ (intsD ((keptN ns w).map Int.ofNat)) := DL.l_call (ns, w) (DL.ea_cons h0 (DL.ea_cons h1 DL.ea_nil)) ok
local macro_rules | `(tactic| walk_at "call") => `(tactic| ((with_reducible apply k07.c__without) <;> walk_at "ev"))
-- KIND: D
-- NEED: low
-- CALL: {p q : Int × Int} | shD p ; shD q | (p, q) | FrN 4000 p ∧ FrN 4000 q | .bool (decide (p.1 * q.2 < q.1 * p.2))
abbrev sp_less (K : PySem.W.Frag) : Sp := spD K (fun a : (Int × Int) × (Int × Int) => [shD a.1, shD a.2]) (fun a => FrN 4000 a.1 ∧ FrN 4000 a.2) (fun a => .bool (decide (a.1.1 * a.2.2 < a.2.1 * a.1.2)))

theorem c_less {Z : Zx} {ρ : List Sl} {E : XK} {t0 t1 : TE} {p q : Int × Int} (h0 : EvD Z t0 ρ (shD p)) (h1 : EvD Z t1 ρ (shD q)) (ok : FrN 4000 p ∧ FrN 4000 q) : EvD Z (tCall (sp_less Z.K) [] E (tCons t0 (tCons t1 tNil))) ρ (.bool (decide (p.1 * q.2 < q.1 * p.2))) := DL.d_call (p, q) (DL.ea_cons h0 (DL.ea_cons h1 DL.ea_nil)) ok
local macro_rules | `(tactic| walk_at "call") => `(tactic| ((with_reducible apply k07.c_less) <;> walk_at "ev"))
-- KIND: D
-- NEED: low
-- NEED: mean
-- NEED: ways
-- NEED: left
-- NEED: prog
-- CALL: {p : Part} | p.D ; .list (intsD ((markedN p).map Int.ofNat)) ; .int (manyL p : Int) | p | p.Ok ∧ markedN p ≠ [] | wayD (leftP p)
def bestD (p : Part) : List (List Int) → PyData
  | [] => .none
  | w :: r => shD (foldL p (w :: r)).2
theorem bestD_snoc (p : Part) (ws : List (List Int)) (w : List Int) : bestD p (ws ++ [w]) = shD (foldL p (ws ++ [w])).2 := by
  cases ws <;> rfl
abbrev sp__best_way (K : PySem.W.Frag) : Sp := spD K (fun p : Part => [p.D, .list (intsD ((markedN p).map Int.ofNat)), .int (manyL p : Int)]) (fun p => p.Ok ∧ markedN p ≠ []) (fun p => wayD (leftP p))

theorem c__best_way {Z : Zx} {ρ : List Sl} {E : XK} {t0 t1 t2 : TE} {p : Part} (h0 : EvD Z t0 ρ (p.D)) (h1 : EvD Z t1 ρ (.list (intsD ((markedN p).map Int.ofNat)))) (h2 : EvD Z t2 ρ (.int (manyL p : Int))) (ok : p.Ok ∧ markedN p ≠ []) : EvD Z (tCall (sp__best_way Z.K) [] E (tCons t0 (tCons t1 (tCons t2 tNil)))) ρ (wayD (leftP p)) := DL.d_call p (DL.ea_cons h0 (DL.ea_cons h1 (DL.ea_cons h2 DL.ea_nil))) ok
local macro_rules | `(tactic| walk_at "call") => `(tactic| ((with_reducible apply k07.c__best_way) <;> walk_at "ev"))
-- KIND: D
-- NEED: low
-- NEED: mean
-- NEED: ways
-- NEED: left
-- NEED: prog
-- CALL: {p : Part} | p.D | p | p.Ok | wayD (leftP p)
theorem leftP_nil {p : Part} (h : markedN p = []) : leftP p = [] := by
  have e : manyL p = 0 := by unfold manyL; rw [h]; simp
  have eW : waysL p = [[]] := by
    unfold waysL
    rw [h, e]
    show waysP [] 0 = [[]]
    unfold waysP
    rfl
  unfold leftP
  rw [eW]
  show (stepL p (markedN p) ([], (-1, 1)) []).1 = []
  unfold stepL
  split <;> rfl
abbrev sp_left_out (K : PySem.W.Frag) : Sp := spD K (fun p : Part => [p.D]) (fun p => p.Ok) (fun p => wayD (leftP p))

theorem c_left_out {Z : Zx} {ρ : List Sl} {E : XK} {t0 : TE} {p : Part} (h0 : EvD Z t0 ρ (p.D)) (ok : p.Ok) : EvD Z (tCall (sp_left_out Z.K) [] E (tCons t0 tNil)) ρ (wayD (leftP p)) := DL.d_call p (DL.ea_cons h0 DL.ea_nil) ok
local macro_rules | `(tactic| walk_at "call") => `(tactic| ((with_reducible apply k07.c_left_out) <;> walk_at "ev"))
-- KIND: D
-- CALL: {t : Task} | t.D | t | t.Ok | chosenP t
def chosenP (t : Task) : PyData := match maxI (givesP t) with
  | none => .none
  | some m => .int ((givesP t).idxOf m : Nat)
abbrev sp_chosen (K : PySem.W.Frag) : Sp := spD K (fun t : Task => [t.D]) (fun t => t.Ok) (fun t => chosenP t)

theorem c_chosen {Z : Zx} {ρ : List Sl} {E : XK} {t0 : TE} {t : Task} (h0 : EvD Z t0 ρ (t.D)) (ok : t.Ok) : EvD Z (tCall (sp_chosen Z.K) [] E (tCons t0 tNil)) ρ (chosenP t) := DL.d_call t (DL.ea_cons h0 DL.ea_nil) ok
local macro_rules | `(tactic| walk_at "call") => `(tactic| ((with_reducible apply k07.c_chosen) <;> walk_at "ev"))
def LayN (n : Nat) (d : PyData) : Prop := d.canLay0 = true ∧ d.depth ≤ n
theorem lay_all {n : Nat} : ∀ {xs : List PyData}, (∀ x ∈ xs, LayN n x) → PyData.canLayAll0 xs = true ∧ PyData.depthAll xs ≤ n
  | [], _ => ⟨rfl, Nat.zero_le _⟩
  | x :: xs, h => by
    have h1 := h x List.mem_cons_self
    have h2 := lay_all (xs := xs) fun y hy => h y (List.mem_cons_of_mem _ hy)
    constructor
    · simp [PyData.canLayAll0, h1.1, h2.1]
    · simp only [PyData.depthAll]
      exact Nat.max_le.mpr ⟨h1.2, h2.2⟩
theorem lay_sq {n : Nat} {k : Bool} {xs : List PyData} (h : ∀ x ∈ xs, LayN n x) : LayN (n + 1) (sqD k xs) := by
  have h2 := lay_all h
  cases k with
  | true =>
    show LayN (n + 1) (.list xs)
    constructor
    · simp [PyData.canLay0, h2.1]
    · simp only [PyData.depth]
      omega
  | false =>
    show LayN (n + 1) (.tuple xs)
    constructor
    · simp [PyData.canLay0, h2.1]
    · simp only [PyData.depth]
      omega
theorem lay_up {n m : Nat} {d : PyData} (h : LayN n d) (hm : n ≤ m) : LayN m d := ⟨h.1, Nat.le_trans h.2 hm⟩
theorem lay_int (i : Int) : LayN 0 (.int i) := ⟨by simp [PyData.canLay0], by simp [PyData.depth]⟩
theorem lay_non : LayN 0 .none := ⟨by simp [PyData.canLay0], by simp [PyData.depth]⟩
theorem lay_ints {k : Bool} (ns : List Int) : LayN 1 (sqD k (intsD ns)) := lay_sq fun x hx => by
  obtain ⟨i, _, rfl⟩ := List.mem_map.mp hx
  exact lay_int i
theorem lay_taskD (t : Task) : LayN 2 t.D := lay_sq (k := false) fun x hx => by
  simp only [List.mem_cons, List.not_mem_nil, or_false] at hx
  rcases hx with rfl | rfl | rfl | rfl
  · exact lay_up (lay_int _) (by decide)
  · exact lay_up (lay_int _) (by decide)
  · exact lay_up (lay_int _) (by decide)
  · exact lay_ints (k := false) _
theorem lay_tasksD {k : Bool} (ts : List Task) : LayN 3 (sqD k (tasksD ts)) := lay_sq fun x hx => by
  obtain ⟨t, _, rfl⟩ := List.mem_map.mp hx
  exact lay_taskD t
theorem lay_partD (p : Part) : LayN 4 p.D := lay_sq (k := false) fun x hx => by
  simp only [List.mem_cons, List.not_mem_nil, or_false] at hx
  rcases hx with rfl | rfl | rfl | rfl | rfl
  · exact lay_up (lay_int _) (by decide)
  · exact lay_up (lay_int _) (by decide)
  · exact lay_up (lay_int _) (by decide)
  · exact lay_tasksD (k := false) _
  · exact lay_up (lay_ints (k := false) _) (by decide)
theorem lay_parts {k : Bool} (ps : List Part) : LayN 5 (sqD k (ps.map Part.D)) := lay_sq fun x hx => by
  obtain ⟨p, _, rfl⟩ := List.mem_map.mp hx
  exact lay_partD p
theorem LayN.sh {n : Nat} {d : PyData} (h : LayN n d) (hn : n ≤ 64 := by decide) : DL.sh d := by
  show SeqAt.shaped _ = true
  unfold SeqAt.shaped
  rw [h.1, decide_eq_true (Nat.le_trans h.2 hn)]
  rfl
/-! == of a datum with itself -/
theorem eqvAll_self : ∀ {xs : List PyData}, (∀ x ∈ xs, PyData.eqv x x = true) → PyData.eqvAll xs xs = true
  | [], _ => by simp [PyData.eqvAll]
  | x :: xs, h => by
    have h1 := h x List.mem_cons_self
    have h2 := eqvAll_self (xs := xs) fun y hy => h y (List.mem_cons_of_mem _ hy)
    simp [PyData.eqvAll, h1, h2]
theorem eqv_sq {k : Bool} {xs : List PyData} (h : ∀ x ∈ xs, PyData.eqv x x = true) : PyData.eqv (sqD k xs) (sqD k xs) = true := by
  cases k with
  | true =>
    show PyData.eqv (.list xs) (.list xs) = true
    simp [PyData.eqv, eqvAll_self h]
  | false =>
    show PyData.eqv (.tuple xs) (.tuple xs) = true
    simp [PyData.eqv, eqvAll_self h]
theorem eqv_int (i : Int) : PyData.eqv (.int i) (.int i) = true := by simp [PyData.eqv]
theorem eqv_ints {k : Bool} (ns : List Int) : PyData.eqv (sqD k (intsD ns)) (sqD k (intsD ns)) = true := eqv_sq fun x hx => by
  obtain ⟨i, _, rfl⟩ := List.mem_map.mp hx
  exact eqv_int i
theorem eqv_taskD (t : Task) : PyData.eqv t.D t.D = true := eqv_sq (k := false) fun x hx => by
  simp only [List.mem_cons, List.not_mem_nil, or_false] at hx
  rcases hx with rfl | rfl | rfl | rfl
  · exact eqv_int _
  · exact eqv_int _
  · exact eqv_int _
  · exact eqv_ints (k := false) _
theorem eqv_partD (p : Part) : PyData.eqv p.D p.D = true := eqv_sq (k := false) fun x hx => by
  simp only [List.mem_cons, List.not_mem_nil, or_false] at hx
  rcases hx with rfl | rfl | rfl | rfl | rfl
  · exact eqv_int _
  · exact eqv_int _
  · exact eqv_int _
  · exact eqv_sq (k := false) fun y hy => by
      obtain ⟨t, _, rfl⟩ := List.mem_map.mp hy
      exact eqv_taskD t
  · exact eqv_ints (k := false) _
theorem eqv_parts {k : Bool} (ps : List Part) : PyData.eqv (sqD k (ps.map Part.D)) (sqD k (ps.map Part.D)) = true := eqv_sq fun x hx => by
  obtain ⟨p, _, rfl⟩ := List.mem_map.mp hx
  exact eqv_partD p
theorem eqv_nil (xs : List PyData) : PyData.eqv (.list xs) (.list []) = decide (xs = []) := by
  cases xs with
  | nil => simp [PyData.eqv, PyData.eqvAll]
  | cons x r => simp [PyData.eqv, PyData.eqvAll]

-- NEED: low
-- NEED: mean
-- NEED: ways
-- NEED: left
-- NEED: prog
-- NEED: lay
/-! the tale -/
def lineD (t : Task) (b : Bool) : PyData := match maxI (givesP t) with
  | none => .tuple [.str "open", .none, .none]
  | some m => .tuple [.str (if b = true then "left out" else "kept"), .int m, .int ((givesP t).idxOf m : Nat)]
def linesD (p : Part) : List PyData := (List.range p.tasks.length).map fun i => lineD (p.tasks.getD i noT) (decide ((i : Int) ∈ leftP p))
def ptaleD (p : Part) : PyData := .tuple [optS (pshareP p), .tuple (intsD (leftP p)), .list (linesD p)]
def taleD (ps : List Part) : List PyData := ps.map ptaleD
theorem lay_txt {x : Str} (h : PyData.strOk x = true) : LayN 0 (.str x) := ⟨by simp [PyData.canLay0, h], by simp [PyData.depth]⟩
theorem eqv_txt (x : Str) : PyData.eqv (.str x) (.str x) = true := by simp [PyData.eqv]
theorem eqv_none : PyData.eqv .none .none = true := by simp [PyData.eqv]
theorem word_ok (b : Bool) : PyData.strOk (if b = true then "left out" else "kept") = true := by cases b <;> decide +kernel
theorem lay_row (t : Task) (b : Bool) : LayN 1 (lineD t b) := by
  unfold lineD
  cases maxI (givesP t) with
  | none =>
    exact lay_sq (k := false) fun x hx => by
      simp only [List.mem_cons, List.not_mem_nil, or_false] at hx
      rcases hx with rfl | rfl | rfl
      · exact lay_txt (by decide +kernel)
      · exact lay_non
      · exact lay_non
  | some m =>
    exact lay_sq (k := false) fun x hx => by
      simp only [List.mem_cons, List.not_mem_nil, or_false] at hx
      rcases hx with rfl | rfl | rfl
      · exact lay_txt (word_ok b)
      · exact lay_int _
      · exact lay_int _
theorem eqv_row (t : Task) (b : Bool) : PyData.eqv (lineD t b) (lineD t b) = true := by
  unfold lineD
  cases maxI (givesP t) with
  | none =>
    exact eqv_sq (k := false) fun x hx => by
      simp only [List.mem_cons, List.not_mem_nil, or_false] at hx
      rcases hx with rfl | rfl | rfl
      · exact eqv_txt _
      · exact eqv_none
      · exact eqv_none
  | some m =>
    exact eqv_sq (k := false) fun x hx => by
      simp only [List.mem_cons, List.not_mem_nil, or_false] at hx
      rcases hx with rfl | rfl | rfl
      · exact eqv_txt _
      · exact eqv_int _
      · exact eqv_int _
theorem lay_optS (a : Option (Int × Int)) : LayN 1 (optS a) := by
  cases a with
  | none => exact lay_up lay_non (by decide)
  | some q => exact lay_ints (k := false) [q.1, q.2]
theorem lay_ptale (p : Part) : LayN 3 (ptaleD p) := lay_sq (k := false) fun x hx => by
  simp only [List.mem_cons, List.not_mem_nil, or_false] at hx
  rcases hx with rfl | rfl | rfl
  · exact lay_up (lay_optS _) (by decide)
  · exact lay_up (lay_ints (k := false) _) (by decide)
  · exact lay_sq (k := true) fun y hy => by
      obtain ⟨i, _, rfl⟩ := List.mem_map.mp hy
      exact lay_row _ _
theorem eqv_ptale (p : Part) : PyData.eqv (ptaleD p) (ptaleD p) = true := eqv_sq (k := false) fun x hx => by
  simp only [List.mem_cons, List.not_mem_nil, or_false] at hx
  rcases hx with rfl | rfl | rfl
  · rw [optS_eqv, decide_eq_true rfl]
  · exact eqv_ints (k := false) _
  · exact eqv_sq (k := true) fun y hy => by
      obtain ⟨i, _, rfl⟩ := List.mem_map.mp hy
      exact eqv_row _ _
theorem linesD_len (p : Part) : (linesD p).length = p.tasks.length := by unfold linesD; rw [List.length_map, List.length_range]

-- KIND: D
-- NEED: tale
-- CALL: {t : Task} {b : Bool} | t.D ; .bool b | (t, b) | t.Ok | lineD t b
abbrev sp__row (K : PySem.W.Frag) : Sp := spD K (fun a : Task × Bool => [a.1.D, .bool a.2]) (fun a => a.1.Ok) (fun a => lineD a.1 a.2)

theorem c__row {Z : Zx} {ρ : List Sl} {E : XK} {t0 t1 : TE} {t : Task} {b : Bool} (h0 : EvD Z t0 ρ (t.D)) (h1 : EvD Z t1 ρ (.bool b)) (ok : t.Ok) : EvD Z (tCall (sp__row Z.K) [] E (tCons t0 (tCons t1 tNil))) ρ (lineD t b) := DL.d_call (t, b) (DL.ea_cons h0 (DL.ea_cons h1 DL.ea_nil)) ok
local macro_rules | `(tactic| walk_at "call") => `(tactic| ((with_reducible apply k07.c__row) <;> walk_at "ev"))
-- KIND: D
-- NEED: low
-- NEED: mean
-- NEED: ways
-- NEED: left
-- NEED: prog
-- CALL: {p : Part} | p.D | p | p.Ok | optS (pshareP p)
theorem extra_lo2 {p : Part} (hp : p.Ok) : min p.extras.sum p.top ≤ 1000 ∧ 0 ≤ min p.extras.sum p.top := by
  have h : ∀ l : List Int, (∀ x ∈ l, 0 ≤ x ∧ x ≤ 1000) → 0 ≤ l.sum := by
    intro l
    induction l with
    | nil => intro _; exact Int.le_refl _
    | cons x r ih =>
      intro h
      have h1 := ih fun y hy => h y (List.mem_cons_of_mem _ hy)
      have h2 := h x List.mem_cons_self
      rw [List.sum_cons]
      omega
  have h1 := h _ hp.es
  have h2 := hp.t0
  have h3 := hp.t1
  omega
def wholeP (p : Part) : Int × Int := lowP ((meanK p).1 * (lowP (min p.extras.sum p.top) 1000).2 + (lowP (min p.extras.sum p.top) 1000).1 * (meanK p).2) ((meanK p).2 * (lowP (min p.extras.sum p.top) 1000).2)
theorem wholeP_eq {p : Part} (hm : 0 < (meanK p).2) : wholeP p = lowP (topK p) (1000 * (meanK p).2) := by
  unfold wholeP topK
  rw [show min p.top p.extras.sum = min p.extras.sum p.top by omega]
  generalize min p.extras.sum p.top = x
  have e1 := lowP_t x 1000
  have e2 := lowP_b x 1000
  have h2 := lowP_pos (t := x) (b := 1000) (by decide)
  refine lowP_eq (Int.mul_pos hm h2) (Int.mul_pos (by decide) hm) ?_
  generalize (lowP x 1000).1 = a at *
  generalize (lowP x 1000).2 = b at *
  generalize ((Nat.gcd x.natAbs (1000 : Int).natAbs : Nat) : Int) = g at *
  rw [← e1, ← e2]
  simp only [Int.add_mul]
  congr 1 <;> ac_rfl
theorem whole_less {t b : Int} (hb : 0 < b) : (decide ((1 : Int) * (lowP t b).2 < (lowP t b).1 * 1)) = decide (b < t) := by
  have e1 := lowP_t t b
  have e2 := lowP_b t b
  have hg := gcd_pos (t := t) hb
  generalize (lowP t b).1 = p at *
  generalize (lowP t b).2 = q at *
  generalize ((Nat.gcd t.natAbs b.natAbs : Nat) : Int) = g at *
  subst e1 e2
  rw [Int.one_mul, Int.mul_one]
  by_cases h : q < p
  · rw [decide_eq_true h, decide_eq_true (Int.mul_lt_mul_of_pos_right h hg)]
  · rw [decide_eq_false h, decide_eq_false (fun z => h (Int.lt_of_mul_lt_mul_right z (Int.le_of_lt hg)))]
abbrev sp_part_share (K : PySem.W.Frag) : Sp := spD K (fun p : Part => [p.D]) (fun p => p.Ok) (fun p => optS (pshareP p))

theorem c_part_share {Z : Zx} {ρ : List Sl} {E : XK} {t0 : TE} {p : Part} (h0 : EvD Z t0 ρ (p.D)) (ok : p.Ok) : EvD Z (tCall (sp_part_share Z.K) [] E (tCons t0 tNil)) ρ (optS (pshareP p)) := DL.d_call p (DL.ea_cons h0 DL.ea_nil) ok
local macro_rules | `(tactic| walk_at "call") => `(tactic| ((with_reducible apply k07.c_part_share) <;> walk_at "ev"))
-- KIND: R
-- NEED: tale
def rowV (p : Part) : PyData → PyData
  | .tuple [.int i, _] => lineD (p.tasks.getD i.toNat noT) (decide (i ∈ leftP p))
  | _ => .none
abbrev sp__part_tale (K : PySem.W.Frag) : Sp := spR K (fun p : Part => [p.D]) (fun p => p.Ok) (fun p => ptaleD p)

-- KIND: LR
-- NEED: tale
-- CALL: {k : Bool} {ps : List Part} | sqD k (ps.map Part.D) | (k, ps) | (∀ p ∈ ps, p.Ok) ∧ ps.length ≤ 8 | taleD ps
abbrev sp_tale (K : PySem.W.Frag) : Sp := spLR K (fun a : Bool × List Part => [sqD a.1 (a.2.map Part.D)]) (fun a => (∀ p ∈ a.2, p.Ok) ∧ a.2.length ≤ 8) (fun a => taleD a.2)

theorem c_tale {Z : Zx} {ρ : List Sl} {E : XK} {t0 : TE} {k : Bool} {ps : List Part} (h0 : EvD Z t0 ρ (sqD k (ps.map Part.D))) (ok : (∀ p ∈ ps, p.Ok) ∧ ps.length ≤ 8) : EvL Z (tCall (sp_tale Z.K) [] E (tCons t0 tNil)) ρ (taleD ps) := DL.l_callR (k, ps) (DL.ea_cons h0 DL.ea_nil) ok
local macro_rules | `(tactic| walk_at "call") => `(tactic| ((with_reducible apply k07.c_tale) <;> walk_at "ev"))
-- KIND: D
-- CALL: {t : Task} | t.D | t | t.Ok | optD (maxI (givesP t))
theorem maxI_snoc (l : List Int) (x : Int) : maxI (l ++ [x]) = some (match maxI l with | none => x | some m => max m x) := by
  cases l with
  | nil => rfl
  | cons n r =>
    show some ((r ++ [x]).foldl max n) = _
    rw [List.foldl_append]
    rfl
abbrev sp_l_mark (K : PySem.W.Frag) : Sp := spD K (fun t : Task => [t.D]) (fun t => t.Ok) (fun t => optD (maxI (givesP t)))

theorem c_l_mark {Z : Zx} {ρ : List Sl} {E : XK} {t0 : TE} {t : Task} (h0 : EvD Z t0 ρ (t.D)) (ok : t.Ok) : EvD Z (tCall (sp_l_mark Z.K) [] E (tCons t0 tNil)) ρ (optD (maxI (givesP t))) := DL.d_call t (DL.ea_cons h0 DL.ea_nil) ok
local macro_rules | `(tactic| walk_at "call") => `(tactic| ((with_reducible apply k07.c_l_mark) <;> walk_at "ev"))
-- KIND: D
-- NEED: tale
-- CALL: {t : Task} {b : Bool} | t.D ; .bool b | (t, b) | t.Ok | lineD t b
theorem idx_first {m : Int} : ∀ {l : List Int} {i : Nat}, l[i]? = some m → (∀ j, j < i → l[j]? ≠ some m) → l.idxOf m = i
  | [], i, h, _ => by simp at h
  | x :: r, i, h, hn => by
    by_cases e : x = m
    · cases i with
      | zero => rw [e, List.idxOf_cons_self]
      | succ k => exact absurd (by rw [e]; rfl) (hn 0 (Nat.succ_pos k))
    · cases i with
      | zero =>
        have e2 : x = m := by simpa using h
        exact absurd e2 e
      | succ k =>
        rw [List.idxOf_cons, beq_false_of_ne e, cond_false, idx_first (l := r) (i := k) (by simpa using h) fun j hj z => hn (j + 1) (Nat.succ_lt_succ hj) (by simpa using z)]
theorem gives_get {t : Task} {i : Nat} (h : i < t.tries.length) : (givesP t)[i]? = some (gAt t i) := by
  unfold givesP
  rw [List.getElem?_map, List.getElem?_range h]
  rfl
theorem gives_mem {t : Task} {m : Int} (h : m ∈ givesP t) : ∃ j, j < t.tries.length ∧ gAt t j = m := by
  unfold givesP at h
  obtain ⟨j, hj, e⟩ := List.mem_map.mp h
  exact ⟨j, List.mem_range.mp hj, e⟩
theorem gAt_cap {t : Task} {j : Nat} (h : 0 < j) : gAt t j ≤ t.cap := by
  unfold gAt
  rw [if_neg (by omega)]
  omega
theorem row_hit {t : Task} {m : Int} {i : Nat} (hm : m ∈ givesP t) (hn : ∀ j, j < i → gAt t j ≠ m) :
    (decide (t.tries.getD i 0 = m) || (decide ((0 : Int) < (i : Int)) && (decide (m = t.cap) && decide (m < t.tries.getD i 0)))) = decide (gAt t i = m) := by
  obtain ⟨j, _, ej⟩ := gives_mem hm
  have hc : 0 < i → m ≤ t.cap := fun h => by
    have hj : i ≤ j := by
      apply Nat.le_of_not_lt
      exact fun z => hn j z ej
    rw [← ej]
    exact gAt_cap (by omega)
  unfold gAt
  generalize t.tries.getD i 0 = x at *
  by_cases h0 : i = 0
  · rw [if_pos h0, decide_eq_false (show ¬ (0 : Int) < (i : Int) by omega), Bool.false_and, Bool.or_false]
  · rw [if_neg h0, decide_eq_true (show (0 : Int) < (i : Int) by omega), Bool.true_and]
    have hc2 := hc (by omega)
    by_cases e1 : x = m
    · rw [decide_eq_true e1, Bool.true_or, decide_eq_true (by omega)]
    · rw [decide_eq_false e1, Bool.false_or]
      by_cases e2 : m = t.cap
      · rw [decide_eq_true e2, Bool.true_and]
        by_cases e3 : m < x
        · rw [decide_eq_true e3, decide_eq_true (by omega)]
        · rw [decide_eq_false e3, decide_eq_false (by omega)]
      · rw [decide_eq_false e2, Bool.false_and, decide_eq_false (by omega)]
abbrev sp_l_row (K : PySem.W.Frag) : Sp := spD K (fun a : Task × Bool => [a.1.D, .bool a.2]) (fun a => a.1.Ok) (fun a => lineD a.1 a.2)

theorem c_l_row {Z : Zx} {ρ : List Sl} {E : XK} {t0 t1 : TE} {t : Task} {b : Bool} (h0 : EvD Z t0 ρ (t.D)) (h1 : EvD Z t1 ρ (.bool b)) (ok : t.Ok) : EvD Z (tCall (sp_l_row Z.K) [] E (tCons t0 (tCons t1 tNil))) ρ (lineD t b) := DL.d_call (t, b) (DL.ea_cons h0 (DL.ea_cons h1 DL.ea_nil)) ok
local macro_rules | `(tactic| walk_at "call") => `(tactic| ((with_reducible apply k07.c_l_row) <;> walk_at "ev"))
-- KIND: D
-- CALL: {a : Int} | .int a | a | True | .bool true
abbrev sp_l_whole (K : PySem.W.Frag) : Sp := spD K (fun a : Int => [.int a]) (fun _ => True) (fun a => .bool true)

theorem c_l_whole {Z : Zx} {ρ : List Sl} {E : XK} {t0 : TE} {a : Int} (h0 : EvD Z t0 ρ (.int a)) (ok : True) : EvD Z (tCall (sp_l_whole Z.K) [] E (tCons t0 tNil)) ρ (.bool true) := DL.d_call a (DL.ea_cons h0 DL.ea_nil) ok
local macro_rules | `(tactic| walk_at "call") => `(tactic| ((with_reducible apply k07.c_l_whole) <;> walk_at "ev"))
-- KIND: D
-- NEED: tale
-- CALL: {t : Task} {b : Bool} | lineD t b | (t, b) | True | .bool true
/-- None or a whole number -/
def Plain (d : PyData) : Prop := d = .none ∨ ∃ i, d = .int i
theorem line_is (t : Task) (b : Bool) : ∃ w x y, lineD t b = .tuple [.str w, x, y] ∧ Plain x ∧ Plain y := by
  unfold lineD
  cases maxI (givesP t) with
  | none => exact ⟨_, _, _, rfl, .inl rfl, .inl rfl⟩
  | some m => exact ⟨_, _, _, rfl, .inr ⟨_, rfl⟩, .inr ⟨_, rfl⟩⟩
abbrev sp_l_kinds (K : PySem.W.Frag) : Sp := spD K (fun a : Task × Bool => [lineD a.1 a.2]) (fun _ => True) (fun _ => .bool true)

theorem c_l_kinds {Z : Zx} {ρ : List Sl} {E : XK} {t0 : TE} {t : Task} {b : Bool} (h0 : EvD Z t0 ρ (lineD t b)) (ok : True) : EvD Z (tCall (sp_l_kinds Z.K) [] E (tCons t0 tNil)) ρ (.bool true) := DL.d_call (t, b) (DL.ea_cons h0 DL.ea_nil) ok
local macro_rules | `(tactic| walk_at "call") => `(tactic| ((with_reducible apply k07.c_l_kinds) <;> walk_at "ev"))
-- KIND: D
-- NEED: tale
-- CALL: {ps : List Part} | .list (taleD ps) ; .list (ps.map Part.D) | ps | (∀ p ∈ ps, p.Ok) ∧ ps.length ≤ 8 | .bool true
def lineW (p : Part) : PyData → PyData
  | .int i => lineD (p.tasks.getD i.toNat noT) (decide (i ∈ leftP p))
  | _ => .none
theorem lines_eq (p : Part) : keptD (rangeD 0 p.tasks.length) (fun _ => true) (lineW p) = linesD p := by
  unfold keptD rangeD linesD
  rw [List.filter_eq_self.mpr (fun _ _ => rfl), List.map_map]
  refine List.map_congr_left fun i _ => ?_
  show lineD (p.tasks.getD (0 + (i : Int)).toNat noT) _ = _
  rw [Int.zero_add, Int.toNat_natCast]
abbrev sp_l_told (K : PySem.W.Frag) : Sp := spD K (fun ps : List Part => [.list (taleD ps), .list (ps.map Part.D)]) (fun ps => (∀ p ∈ ps, p.Ok) ∧ ps.length ≤ 8) (fun _ => .bool true)

theorem c_l_told {Z : Zx} {ρ : List Sl} {E : XK} {t0 t1 : TE} {ps : List Part} (h0 : EvD Z t0 ρ (.list (taleD ps))) (h1 : EvD Z t1 ρ (.list (ps.map Part.D))) (ok : (∀ p ∈ ps, p.Ok) ∧ ps.length ≤ 8) : EvD Z (tCall (sp_l_told Z.K) [] E (tCons t0 (tCons t1 tNil))) ρ (.bool true) := DL.d_call ps (DL.ea_cons h0 (DL.ea_cons h1 DL.ea_nil)) ok
local macro_rules | `(tactic| walk_at "call") => `(tactic| ((with_reducible apply k07.c_l_told) <;> walk_at "ev"))
-- KIND: D
-- NEED: tale
abbrev sp_law (K : PySem.W.Frag) : Sp := DL.spLaw K

section
variable {P : Program} {w : World} {K : PySem.W.Frag} {mg : Str → Option Value} {base : Heap}
abbrev s_l_cell_at : Stmt := topS 24
theorem sc_l_cell_at : FnScope ["_law_script", "_law_k"] ["_law_script", "_law_k"] (defScope s_l_cell_at) := ⟨rfl, rfl, rfl, by decide +kernel, rfl, by decide +kernel, by decide +kernel⟩
theorem ok_l_cell_at (At : DefAt K mg "_law_cell_at" "_law_cell_at" s_l_cell_at ["_law_script", "_law_k"]) (m_len : mg "len" = none) : Fn1 P w K mg base 1 "_law_cell_at" ["_law_script", "_law_k"] (sp_l_cell_at K) := by
  have nd := sc_l_cell_at.nd
  refine At.D sc_l_cell_at (fun _ => rfl) (fun f cdv A outer s H E hr => ⟨_, (pss_cons (ps_if (pt_cmpR (op_eqD hr.units : OpR _ _ (rEqD K)) (pe_callB (c_len : CallR _ _ (DL.rLen K)) (by rfl) m_len PySem.boot_len (pa_cons (pv 0) pa_nil)) pe_int (nomark _)) (pss_one (ps_ret (pv 1))) pss_nil)
      (pss_one (ps_ret (pe_op (op_addU : OpR _ _ (rAddU K)) (pe_ix (ix_U : IxR _ (rIxU K)) (pv 0) (pe_op op_mod (pv 1) (pe_callB (c_len : CallR _ _ (DL.rLen K)) (by rfl) m_len PySem.boot_len (pa_cons (pv 0) pa_nil))) (fun _ _ => rfl)) (pe_op (op_mulU : OpR _ _ (rMulU K)) pe_int (pe_op op_divU (pv 1) (pe_callB (c_len : CallR _ _ (DL.rLen K)) (by rfl) m_len PySem.boot_len (pa_cons (pv 0) pa_nil)))))))), fun a ha => ?_⟩)
  try dsimp only [cxOf]
  show EvS (Z0 K) _ [Sl.dat _, Sl.dat _] _
  obtain ⟨ns, k⟩ := a
  obtain ⟨hl, hk⟩ := ha
  try dsimp only at *
  apply DL.s_ifRet
  · walk_at "ev"
  · intro hb
    apply DL.s_ret
    · walk_at "ev"
    · have e := of_decide_eq_true hb
      rw [intsD_len] at e
      show PyData.int _ = _
      rw [cellAt, if_pos (by omega)]
  · intro hb
    have e := of_decide_eq_false hb
    rw [intsD_len] at e
    have h1 : 0 ≤ k % (ns.length : Int) := Int.emod_nonneg _ (by omega)
    have h2 : k % (ns.length : Int) < ns.length := Int.emod_lt_of_pos _ (by omega)
    apply DL.s_ret
    · walk_at "ev"
    · show PyData.int _ = PyData.int _
      rw [cellAt, if_neg (by omega)]
      simp only [intsD_len]

abbrev s_l_stream : Stmt := topS 25
theorem sc_l_stream : FnScope ["_law_cell", "_law_many", "_law_found", "_law_number", "_law_k"] ["_law_cell", "_law_many"] (defScope s_l_stream) := ⟨rfl, rfl, rfl, by decide +kernel, rfl, by decide +kernel, by decide +kernel⟩
theorem ok_l_stream (At : DefAt K mg "_law_stream" "_law_stream" s_l_stream ["_law_cell", "_law_many"]) (m_range : mg "range" = none) : Fn1 P w K mg base 1 "_law_stream" ["_law_cell", "_law_many"] (sp_l_stream K) := by
  have nd := sc_l_stream.nd
  refine At.L sc_l_stream (fun _ => rfl) (fun f cdv A outer s H E hr => ⟨_, (pss_cons (ps_asg (pe_lst pa_nil) (pg_name (i := 2) nd rfl (by first | exact Or.inl rfl | exact Or.inr rfl)))
      (pss_cons (ps_asg (pe_op (op_addU : OpR _ _ (rAddU K)) (pe_op op_mod (pv 0) pe_int) pe_int) (pg_name (i := 3) nd rfl (by first | exact Or.inl rfl | exact Or.inr rfl)))
      (pss_cons (ps_for PassesOwn.never rfl (pi_range1 (by rfl) m_range (pa_cons (pe_op (op_addU : OpR _ _ (rAddU K)) (pv 1) pe_int) pa_nil)) (pg_name (i := 4) nd rfl (by first | exact Or.inl rfl | exact Or.inr rfl)) (pss_cons (ps_asg (pe_op op_mod (pe_op (op_addU : OpR _ _ (rAddU K)) (pe_op (op_addU : OpR _ _ (rAddU K)) (pe_op (op_addU : OpR _ _ (rAddU K)) (pe_op (op_mulU : OpR _ _ (rMulU K)) (pv 3) (pv 3)) (pe_op (op_mulU : OpR _ _ (rMulU K)) pe_int (pv 3))) (pe_op (op_mulU : OpR _ _ (rMulU K)) pe_int (pv 4))) pe_int) pe_int) (pg_name (i := 3) nd rfl (by first | exact Or.inl rfl | exact Or.inr rfl)))
      (pss_one (ps_expr (pe_bm PySem.F.plainAttrs_list PySem.F.slot_list_append PySem.F.type_list_append mt_append (pv 2) (pa_cons (pv 3) pa_nil))))))
      (pss_one (ps_ret (pe_slice (sl_U : SlR _ (rSlU K)) (pv 2) (po_some pe_int) po_none)))))), fun a ha => ?_⟩)
  try dsimp only [cxOf]
  show EvS (Z0 K) _ [Sl.dat _, Sl.dat _, Sl.any, Sl.any, Sl.any] _
  obtain ⟨c, m⟩ := a
  obtain ⟨h0, h1⟩ := ha
  try dsimp only at *
  apply DL.s_seq
  · apply DL.s_asgL
    · walk_at "ev"
    · exact rfl
  apply DL.s_seq
  · apply DL.s_asg
    · walk_at "ev"
    · exact DL.g_name
    · exact rfl
  refine DL.s_cut (fun ρ => ∃ x y, ρ = [Sl.dat (.int c), Sl.dat (.int m), Sl.own ((List.range (m + 1).toNat).map fun j => .int (strN c (j + 1))), x, y]) ?_ ?_
  · apply DL.s_for (I := fun i ρ => ∃ y, ρ = [Sl.dat (.int c), Sl.dat (.int m), Sl.own ((List.range i).map fun j => .int (strN c (j + 1))), Sl.dat (.int (strN c i)), y])
    · apply DL.i_rng1
      · walk_at "ev"
      · omega
    · exact ⟨_, rfl⟩
    · rintro i d ρ hd ⟨y, rfl⟩
      obtain ⟨hi, rfl⟩ := rangeD_get hd
      refine ⟨_, DL.g_name, ?_⟩
      simp only [Int.zero_add]
      have b := strN_lo c i
      have hi2 : (i : Int) < m + 1 := by omega
      apply DL.s_seq
      · apply DL.s_asg
        · walk_at "ev"
        · exact DL.g_name
        · exact rfl
      apply DL.s_app
      · exact rfl
      · walk_at "ev"
      · simp; omega
      · refine ⟨Sl.dat (.int (i : Int)), ?_⟩
        simp only [List.set_cons_zero, List.set_cons_succ, List.range_succ, List.map_append]
        rfl
    · rintro ρ ⟨y, rfl⟩
      refine ⟨Sl.dat (.int (strN c (m + 1).toNat)), y, ?_⟩
      rw [rangeD_len]
  · rintro ρ ⟨x, y, rfl⟩
    apply DL.s_retL
    · walk_at "ev"
    · show _ = intsD (streamP c m)
      have e : (m + 1).toNat = m.toNat + 1 := by omega
      have c1 := cutD_from ((List.range (m + 1).toNat).map fun j => PyData.int (strN c (j + 1))) 1
      refine Eq.trans c1 ?_
      unfold streamP intsD
      rw [e, List.map_map, List.range_succ_eq_map, List.map_cons, List.drop_succ_cons, List.drop_zero, List.map_map]
      rfl

abbrev s_l_task_by : Stmt := topS 27
theorem sc_l_task_by : FnScope ["_law_xs", "_law_weight", "_law_most", "_law_cap", "_law_many", "_law_tries", "_law_k"] ["_law_xs"] (defScope s_l_task_by) := ⟨rfl, rfl, rfl, by decide +kernel, rfl, by decide +kernel, by decide +kernel⟩
theorem ok_l_task_by (At : DefAt K mg "_law_task_by" "_law_task_by" s_l_task_by ["_law_xs"]) (m_range : mg "range" = none) (m_tuple : mg "tuple" = none) : Fn1 P w K mg base 1 "_law_task_by" ["_law_xs"] (sp_l_task_by K) := by
  have nd := sc_l_task_by.nd
  refine At.D sc_l_task_by (fun _ => rfl) (fun f cdv A outer s H E hr => ⟨_, (pss_cons (ps_asg (pe_op (op_addU : OpR _ _ (rAddU K)) pe_int (pe_op op_mod (pe_ix (ix_U : IxR _ (rIxU K)) (pv 0) pe_int (fun _ _ => rfl)) pe_int)) (pg_name (i := 1) nd rfl (by first | exact Or.inl rfl | exact Or.inr rfl)))
      (pss_cons (ps_if (pt_cmpR (op_eqD hr.units : OpR _ _ (rEqD K)) (pe_op op_mod (pe_op op_divU (pe_ix (ix_U : IxR _ (rIxU K)) (pv 0) pe_int (fun _ _ => rfl)) pe_int) pe_int) pe_int (nomark _)) (pss_one (ps_asg (pe_op (op_addU : OpR _ _ (rAddU K)) pe_int (pe_op op_mod (pe_op op_divU (pe_ix (ix_U : IxR _ (rIxU K)) (pv 0) pe_int (fun _ _ => rfl)) pe_int) pe_int)) (pg_name (i := 1) nd rfl (by first | exact Or.inl rfl | exact Or.inr rfl)))) pss_nil)
      (pss_cons (ps_asg (pe_ix (ix_U : IxR _ (rIxU K)) (pe_lst (pa_cons pe_int (pa_cons pe_int (pa_cons pe_int (pa_cons (pe_op (op_addU : OpR _ _ (rAddU K)) pe_int (pe_op op_mod (pe_op op_divU (pe_ix (ix_U : IxR _ (rIxU K)) (pv 0) pe_int (fun _ _ => rfl)) pe_int) pe_int)) (pa_cons (pe_op (op_addU : OpR _ _ (rAddU K)) pe_int (pe_op op_mod (pe_op op_divU (pe_ix (ix_U : IxR _ (rIxU K)) (pv 0) pe_int (fun _ _ => rfl)) pe_int) (pe_op op_pow pe_int pe_int))) (pa_cons (pe_op op_pow pe_int pe_int) pa_nil))))))) (pe_op op_mod (pe_ix (ix_U : IxR _ (rIxU K)) (pv 0) pe_int (fun _ _ => rfl)) pe_int) (fun _ _ => rfl)) (pg_name (i := 2) nd rfl (by first | exact Or.inl rfl | exact Or.inr rfl)))
      (pss_cons (ps_asg (pe_ix (ix_U : IxR _ (rIxU K)) (pe_lst (pa_cons (pv 2) (pa_cons pe_int (pa_cons (pe_op op_divU (pv 2) pe_int) (pa_cons (pe_op op_mod (pe_op op_divU (pe_ix (ix_U : IxR _ (rIxU K)) (pv 0) pe_int (fun _ _ => rfl)) pe_int) (pe_op (op_addU : OpR _ _ (rAddU K)) (pv 2) pe_int)) pa_nil))))) (pe_op op_mod (pe_ix (ix_U : IxR _ (rIxU K)) (pv 0) pe_int (fun _ _ => rfl)) pe_int) (fun _ _ => rfl)) (pg_name (i := 3) nd rfl (by first | exact Or.inl rfl | exact Or.inr rfl)))
      (pss_cons (ps_asg (pe_ix (ix_U : IxR _ (rIxU K)) (pe_lst (pa_cons pe_int (pa_cons pe_int (pa_cons pe_int (pa_cons pe_int (pa_cons pe_int (pa_cons pe_int (pa_cons pe_int (pa_cons pe_int (pa_cons pe_int pa_nil)))))))))) (pe_op op_mod (pe_ix (ix_U : IxR _ (rIxU K)) (pv 0) pe_int (fun _ _ => rfl)) pe_int) (fun _ _ => rfl)) (pg_name (i := 4) nd rfl (by first | exact Or.inl rfl | exact Or.inr rfl)))
      (pss_cons (ps_asg (pe_lst pa_nil) (pg_name (i := 5) nd rfl (by first | exact Or.inl rfl | exact Or.inr rfl)))
      (pss_cons (ps_for PassesOwn.never rfl (pi_range1 (by rfl) m_range (pa_cons (pv 4) pa_nil)) (pg_name (i := 6) nd rfl (by first | exact Or.inl rfl | exact Or.inr rfl)) (pss_one (ps_expr (pe_bm PySem.F.plainAttrs_list PySem.F.slot_list_append PySem.F.type_list_append mt_append (pv 5) (pa_cons (pe_ix (ix_U : IxR _ (rIxU K)) (pe_lst (pa_cons (pe_op op_mod (pe_op op_divU (pe_ix (ix_U : IxR _ (rIxU K)) (pv 0) (pe_op (op_addU : OpR _ _ (rAddU K)) pe_int (pv 6)) (fun _ _ => rfl)) pe_int) (pe_op (op_addU : OpR _ _ (rAddU K)) (pv 2) pe_int)) (pa_cons (pe_op op_mod (pe_op op_divU (pe_ix (ix_U : IxR _ (rIxU K)) (pv 0) (pe_op (op_addU : OpR _ _ (rAddU K)) pe_int (pv 6)) (fun _ _ => rfl)) pe_int) (pe_op (op_addU : OpR _ _ (rAddU K)) (pv 2) pe_int)) (pa_cons pe_int (pa_cons (pv 2) (pa_cons (pv 3) pa_nil)))))) (pe_op op_mod (pe_ix (ix_U : IxR _ (rIxU K)) (pv 0) (pe_op (op_addU : OpR _ _ (rAddU K)) pe_int (pv 6)) (fun _ _ => rfl)) pe_int) (fun _ _ => rfl)) pa_nil)))))
      (pss_one (ps_ret (pe_tup (pa_cons (pv 1) (pa_cons (pv 2) (pa_cons (pv 3) (pa_cons (pe_callTy (c_tuple : CallR _ _ (rTpl K)) (by rfl) m_tuple (by decide +kernel) (pa_cons (pv 5) pa_nil)) pa_nil)))))))))))))), fun a ha => ?_⟩)
  try dsimp only [cxOf]
  show EvS (Z0 K) _ [Sl.dat _, Sl.any, Sl.any, Sl.any, Sl.any, Sl.any, Sl.any] _
  rename List Int => xs
  have hl : 16 ≤ xs.length := ha
  have w0 := weightP_lo (xs.getD 0 0)
  have m0 := mostP_lo (xs.getD 1 0)
  have c0 := capP_lo (x := xs.getD 2 0) m0.1
  have n0 := manyP_lo (xs.getD 3 0)
  apply DL.s_seq
  · apply DL.s_asg
    · walk_at "ev"
    · exact DL.g_name
    · exact rfl
  apply DL.s_ifAsg (x := .int (weightP (xs.getD 0 0)))
  · walk_at "ev"
  · intro hb
    apply DL.EvD.is
    · walk_at "ev"
    · have e : xs.getD 0 0 / 5 % 5 = 0 := of_decide_eq_true hb
      show PyData.int _ = PyData.int _
      unfold weightP
      rw [if_pos e]
      rfl
  · intro hb
    have e : ¬ xs.getD 0 0 / 5 % 5 = 0 := of_decide_eq_false hb
    unfold weightP
    rw [if_neg e]
    rfl
  have p6 : (10 : Int) ^ (6 : Int).toNat = 1000000 := by decide
  apply DL.s_seq (ρ1 := [Sl.dat (.list (intsD xs)), Sl.dat (.int (weightP (xs.getD 0 0))), Sl.dat (.int (mostP (xs.getD 1 0))), .any, .any, .any, .any])
  · apply DL.s_asg
    · walk_at "ev"
    · exact DL.g_name
    · show _ = _
      rw [p6]
      rfl
  generalize hm : mostP (xs.getD 1 0) = m at *
  apply DL.s_seq (ρ1 := [Sl.dat (.list (intsD xs)), Sl.dat (.int (weightP (xs.getD 0 0))), Sl.dat (.int m), Sl.dat (.int (capP (xs.getD 2 0) m)), .any, .any, .any])
  · apply DL.s_asg
    · walk_at "ev"
    · exact DL.g_name
    · exact rfl
  generalize hc : capP (xs.getD 2 0) m = c at *
  apply DL.s_seq (ρ1 := [Sl.dat (.list (intsD xs)), Sl.dat (.int (weightP (xs.getD 0 0))), Sl.dat (.int m), Sl.dat (.int c), Sl.dat (.int (manyP (xs.getD 3 0))), .any, .any])
  · apply DL.s_asg
    · walk_at "ev"
    · exact DL.g_name
    · exact rfl
  generalize hn : manyP (xs.getD 3 0) = n at *
  apply DL.s_seq
  · apply DL.s_asgL
    · walk_at "ev"
    · exact rfl
  refine DL.s_cut (fun ρ => ∃ y, ρ = [Sl.dat (.list (intsD xs)), Sl.dat (.int (weightP (xs.getD 0 0))), Sl.dat (.int m), Sl.dat (.int c), Sl.dat (.int n), Sl.own ((List.range n.toNat).map fun j => .int (tryP (xs.getD (4 + j) 0) m c)), y]) ?_ ?_
  · apply DL.s_for (I := fun i ρ => ∃ y, ρ = [Sl.dat (.list (intsD xs)), Sl.dat (.int (weightP (xs.getD 0 0))), Sl.dat (.int m), Sl.dat (.int c), Sl.dat (.int n), Sl.own ((List.range i).map fun j => .int (tryP (xs.getD (4 + j) 0) m c)), y])
    · apply DL.i_rng1
      · walk_at "ev"
      · omega
    · exact ⟨_, rfl⟩
    · rintro i d ρ hd ⟨y, rfl⟩
      obtain ⟨hi, rfl⟩ := rangeD_get hd
      refine ⟨_, DL.g_name, ?_⟩
      simp only [Int.zero_add]
      have e4 : (4 + (i : Int)).toNat = 4 + i := by omega
      apply DL.s_app
      · exact rfl
      · walk_at "ev"
      · simp; omega
      · refine ⟨Sl.dat (.int (i : Int)), ?_⟩
        simp only [List.set_cons_zero, List.set_cons_succ, List.range_succ, List.map_append, e4]
        rfl
    · rintro ρ ⟨y, rfl⟩
      refine ⟨y, ?_⟩
      rw [rangeD_len]
  · rintro ρ ⟨y, rfl⟩
    apply DL.s_ret
    · walk_at "ev"
    · show _ = (taskBy xs).D
      unfold taskBy Task.D intsD
      rw [List.map_map, hm, hc, hn]
      rfl

abbrev s_l_part_by : Stmt := topS 28
theorem sc_l_part_by : FnScope ["_law_cell", "_law_most_tasks", "_law_xs", "_law_weight", "_law_top", "_law_tasks", "_law_k", "_law_extras"] ["_law_cell", "_law_most_tasks"] (defScope s_l_part_by) := ⟨rfl, rfl, rfl, by decide +kernel, rfl, by decide +kernel, by decide +kernel⟩
theorem ok_l_part_by (At : DefAt K mg "_law_part_by" "_law_part_by" s_l_part_by ["_law_cell", "_law_most_tasks"]) (G_l_stream : Fn1 P w K mg base 1 "_law_stream" ["_law_cell", "_law_many"] (sp_l_stream K)) (G_l_task_by : Fn1 P w K mg base 1 "_law_task_by" ["_law_xs"] (sp_l_task_by K)) (m_range : mg "range" = none) (m_tuple : mg "tuple" = none) : Fn1 P w K mg base 2 "_law_part_by" ["_law_cell", "_law_most_tasks"] (sp_l_part_by K) := by
  have nd := sc_l_part_by.nd
  refine At.D sc_l_part_by (fun _ => rfl) (fun f cdv A outer s H E hr => ⟨_, (pss_cons (ps_asg (pe_fn G_l_stream (hr.mono (by decide)) (by rfl) (pa_cons (pv 0) (pa_cons (pe_op (op_addU : OpR _ _ (rAddU K)) pe_int (pe_op (op_mulU : OpR _ _ (rMulU K)) pe_int (pv 1))) pa_nil))) (pg_name (i := 2) nd rfl (by first | exact Or.inl rfl | exact Or.inr rfl)))
      (pss_cons (ps_asg (pe_op (op_addU : OpR _ _ (rAddU K)) pe_int (pe_op op_mod (pe_ix (ix_U : IxR _ (rIxU K)) (pv 2) pe_int (fun _ _ => rfl)) pe_int)) (pg_name (i := 3) nd rfl (by first | exact Or.inl rfl | exact Or.inr rfl)))
      (pss_cons (ps_if (pt_cmpR (op_eqD hr.units : OpR _ _ (rEqD K)) (pe_op op_mod (pe_op op_divU (pe_ix (ix_U : IxR _ (rIxU K)) (pv 2) pe_int (fun _ _ => rfl)) pe_int) pe_int) pe_int (nomark _)) (pss_one (ps_asg (pe_op (op_addU : OpR _ _ (rAddU K)) pe_int (pe_op op_mod (pe_op op_divU (pe_ix (ix_U : IxR _ (rIxU K)) (pv 2) pe_int (fun _ _ => rfl)) pe_int) pe_int)) (pg_name (i := 3) nd rfl (by first | exact Or.inl rfl | exact Or.inr rfl)))) pss_nil)
      (pss_cons (ps_asg (pe_ix (ix_U : IxR _ (rIxU K)) (pe_lst (pa_cons pe_int (pa_cons pe_int (pa_cons pe_int (pa_cons (pe_op op_mod (pe_op op_divU (pe_ix (ix_U : IxR _ (rIxU K)) (pv 2) pe_int (fun _ _ => rfl)) pe_int) pe_int) pa_nil))))) (pe_op op_mod (pe_ix (ix_U : IxR _ (rIxU K)) (pv 2) pe_int (fun _ _ => rfl)) pe_int) (fun _ _ => rfl)) (pg_name (i := 4) nd rfl (by first | exact Or.inl rfl | exact Or.inr rfl)))
      (pss_cons (ps_asg (pe_lst pa_nil) (pg_name (i := 5) nd rfl (by first | exact Or.inl rfl | exact Or.inr rfl)))
      (pss_cons (ps_for PassesOwn.never rfl (pi_range1 (by rfl) m_range (pa_cons (pe_op op_mod (pe_ix (ix_U : IxR _ (rIxU K)) (pv 2) pe_int (fun _ _ => rfl)) (pe_op (op_addU : OpR _ _ (rAddU K)) (pv 1) pe_int)) pa_nil)) (pg_name (i := 6) nd rfl (by first | exact Or.inl rfl | exact Or.inr rfl)) (pss_one (ps_expr (pe_bm PySem.F.plainAttrs_list PySem.F.slot_list_append PySem.F.type_list_append mt_append (pv 5) (pa_cons (pe_fn G_l_task_by (hr.mono (by decide)) (by rfl) (pa_cons (pe_slice (sl_U : SlR _ (rSlU K)) (pv 2) (po_some (pe_op (op_addU : OpR _ _ (rAddU K)) pe_int (pe_op (op_mulU : OpR _ _ (rMulU K)) pe_int (pv 6)))) (po_some (pe_op (op_addU : OpR _ _ (rAddU K)) pe_int (pe_op (op_mulU : OpR _ _ (rMulU K)) pe_int (pv 6))))) pa_nil)) pa_nil)))))
      (pss_cons (ps_setLc (i := 7) (own := [("_law_k", 6)]) (g := gName 6) (tt := tYes) (by rfl) nd rfl rfl (sw_true rfl rfl rfl (by decide +kernel)) (pi_range1 (by rfl) m_range (pa_cons (pe_ix (ix_U : IxR _ (rIxU K)) (pe_lst (pa_cons pe_int (pa_cons pe_int (pa_cons pe_int (pa_cons pe_int (pa_cons pe_int (pa_cons pe_int (pa_cons pe_int (pa_cons pe_int pa_nil))))))))) (pe_op op_mod (pe_ix (ix_U : IxR _ (rIxU K)) (pv 2) pe_int (fun _ _ => rfl)) pe_int) (fun _ _ => rfl)) pa_nil)) (blkOk_by (own := [("_law_k", 6)]) (N := ["_law_cell", "_law_most_tasks", "_law_xs", "_law_weight", "_law_top", "_law_tasks", "_law_k", "_law_extras"]) (sc := defScope s_l_part_by) (by decide +kernel)) (fun _ _ _ _ _ => (pg_name (i := 6) nd rfl (by first | exact Or.inl rfl | exact Or.inr rfl))) (fun _ _ _ _ _ => pts_nil) (fun _ _ _ _ _ => (pe_op op_mod (pe_ix (ix_U : IxR _ (rIxU K)) (pv 2) (pe_op (op_addU : OpR _ _ (rAddU K)) pe_int (pv 6)) (fun _ _ => rfl)) (pe_ix (ix_U : IxR _ (rIxU K)) (pe_lst (pa_cons pe_int (pa_cons pe_int pa_nil))) (pe_op op_mod (pe_op op_divU (pe_ix (ix_U : IxR _ (rIxU K)) (pv 2) pe_int (fun _ _ => rfl)) pe_int) pe_int) (fun _ _ => rfl)))))
      (pss_one (ps_ret (pe_tup (pa_cons (pv 3) (pa_cons (pe_op op_mod (pe_ix (ix_U : IxR _ (rIxU K)) (pv 2) pe_int (fun _ _ => rfl)) pe_int) (pa_cons (pv 4) (pa_cons (pe_callTy (c_tuple : CallR _ _ (rTpl K)) (by rfl) m_tuple (by decide +kernel) (pa_cons (pv 5) pa_nil)) (pa_cons (pe_callTy (c_tuple : CallR _ _ (rTpl K)) (by rfl) m_tuple (by decide +kernel) (pa_cons (pv 7) pa_nil)) pa_nil))))))))))))))), fun a ha => ?_⟩)
  try dsimp only [cxOf]
  show EvS (Z0 K) _ [Sl.dat _, Sl.dat _, Sl.any, Sl.any, Sl.any, Sl.any, Sl.any, Sl.any] _
  obtain ⟨c, m⟩ := a
  obtain ⟨h0, h1⟩ := ha
  dsimp only at h0 h1
  have lx := streamP_len c (20 + 16 * m)
  have lo := streamP_lo c (20 + 16 * m)
  show EvS (Z0 K) _ _ (toD (partOf (streamP c (20 + 16 * m)) m).D)
  apply DL.s_seq (ρ1 := [Sl.dat (.int c), Sl.dat (.int m), Sl.dat (.list (intsD (streamP c (20 + 16 * m)))), .any, .any, .any, .any, .any])
  · apply DL.s_asg
    · apply DL.EvL.dt
      walk_at "call"
    · exact DL.g_name
    · exact rfl
  generalize streamP c (20 + 16 * m) = xs at *
  have hx : (20 : Int) ≤ xs.length := by omega
  apply DL.s_seq
  · apply DL.s_asg
    · walk_at "ev"
    · exact DL.g_name
    · exact rfl
  apply DL.s_ifAsg (x := .int (weightP (xs.getD 0 0)))
  · walk_at "ev"
  · intro hb
    apply DL.EvD.is
    · walk_at "ev"
    · have e : xs.getD 0 0 / 5 % 5 = 0 := of_decide_eq_true hb
      show PyData.int _ = PyData.int _
      unfold weightP
      rw [if_pos e]
      rfl
  · intro hb
    have e : ¬ xs.getD 0 0 / 5 % 5 = 0 := of_decide_eq_false hb
    unfold weightP
    rw [if_neg e]
    rfl
  apply DL.s_seq (ρ1 := [Sl.dat (.int c), Sl.dat (.int m), Sl.dat (.list (intsD xs)), Sl.dat (.int (weightP (xs.getD 0 0))), Sl.dat (.int (topP (xs.getD 2 0))), .any, .any, .any])
  · apply DL.s_asg
    · walk_at "ev"
    · exact DL.g_name
    · exact rfl
  apply DL.s_seq
  · apply DL.s_asgL
    · walk_at "ev"
    · exact rfl
  have r0 := Int.emod_nonneg (xs.getD 3 0) (show m + 1 ≠ 0 by omega)
  have r1 := Int.emod_lt_of_pos (xs.getD 3 0) (show 0 < m + 1 by omega)
  refine DL.s_cut (fun ρ => ∃ y, ρ = [Sl.dat (.int c), Sl.dat (.int m), Sl.dat (.list (intsD xs)), Sl.dat (.int (weightP (xs.getD 0 0))), Sl.dat (.int (topP (xs.getD 2 0))), Sl.own (tasksD (partOf xs m).tasks), y, .any]) ?_ ?_
  · apply DL.s_for (I := fun i ρ => ∃ y, ρ = [Sl.dat (.int c), Sl.dat (.int m), Sl.dat (.list (intsD xs)), Sl.dat (.int (weightP (xs.getD 0 0))), Sl.dat (.int (topP (xs.getD 2 0))), Sl.own ((List.range i).map fun k => (taskBy ((xs.drop (20 + 16 * k)).take 16)).D), y, .any])
    · apply DL.i_rng1
      · walk_at "ev"
      · show xs.getD 3 0 % (m + 1) ≤ 100000 ∧ -100000 ≤ xs.getD 3 0 % (m + 1)
        omega
    · exact ⟨_, rfl⟩
    · rintro i d ρ hd ⟨y, rfl⟩
      obtain ⟨hi, rfl⟩ := rangeD_get hd
      refine ⟨_, DL.g_name, ?_⟩
      simp only [Int.zero_add]
      have hi2 : (i : Int) < xs.getD 3 0 % (m + 1) := by
        have : i < (xs.getD 3 0 % (m + 1)).toNat := hi
        omega
      have ec : DL.cutD (intsD xs) (some (20 + 16 * (i : Int))) (some (36 + 16 * (i : Int))) = intsD ((xs.drop (20 + 16 * i)).take 16) := by
        have h := cutD_mid (intsD xs) (20 + 16 * i) (36 + 16 * i)
        rw [show (36 + 16 * i) - (20 + 16 * i) = 16 by omega] at h
        rw [show (20 : Int) + 16 * (i : Int) = ((20 + 16 * i : Nat) : Int) by omega, show (36 : Int) + 16 * (i : Int) = ((36 + 16 * i : Nat) : Int) by omega, h]
        unfold intsD
        rw [List.map_take, List.map_drop]
      apply DL.s_app
      · exact rfl
      · apply c_l_task_by (xs := (xs.drop (20 + 16 * i)).take 16)
        · apply DL.EvD.is
          · apply DL.EvL.dt
            walk_at "ev"
          · exact congrArg _ ec
        · rw [List.length_take, List.length_drop]
          omega
      · simp; omega
      · refine ⟨Sl.dat (.int (i : Int)), ?_⟩
        simp only [List.set_cons_zero, List.set_cons_succ, List.range_succ, List.map_append]
        rfl
    · rintro ρ ⟨y, rfl⟩
      refine ⟨y, ?_⟩
      rw [rangeD_len]
      show _ = [_, _, _, _, _, Sl.own (tasksD (List.map _ _)), _, _]
      unfold tasksD
      rw [List.map_map]
      rfl
  rintro ρ ⟨y, rfl⟩
  have m0 := exMany_lo (xs.getD 4 0)
  have q0 := exMod_lo (xs.getD 4 0)
  apply DL.s_seq (ρ1 := [Sl.dat (.int c), Sl.dat (.int m), Sl.dat (.list (intsD xs)), Sl.dat (.int (weightP (xs.getD 0 0))), Sl.dat (.int (topP (xs.getD 2 0))), Sl.own (tasksD (partOf xs m).tasks), y, Sl.own (intsD (partOf xs m).extras)])
  · apply DL.s_asgL (ds := intsD (partOf xs m).extras)
    · have hk : keptD (rangeD 0 (exMany (xs.getD 4 0)).toNat) (fun _ => true) (exV xs (exMod (xs.getD 4 0))) = intsD (partOf xs m).extras := by
        unfold keptD rangeD intsD
        rw [List.filter_eq_self.mpr (fun _ _ => rfl), List.map_map]
        show _ = List.map _ (List.map _ _)
        rw [List.map_map]
        refine List.map_congr_left fun i _ => ?_
        show PyData.int (xs.getD (5 + (0 + (i : Int))).toNat 0 % exMod (xs.getD 4 0)) = PyData.int (xs.getD (5 + i) 0 % exMod (xs.getD 4 0))
        rw [show (5 + (0 + (i : Int))).toNat = 5 + i by omega]
      rw [← hk]
      refine DL.l_lc _ _ (DL.i_rng1 (n := exMany (xs.getD 4 0)) (DL.ea_cons (DL.EvD.is (x := .int ([0, 0, 1, 1, 2, 3, 4, 12].getD (xs.getD (Int.toNat 4) 0 % 8).toNat 0)) (by walk_at "ev") rfl) DL.ea_nil) (by omega)) ?_ ?_
      · rw [rangeD_len]; omega
      · intro i d hd
        obtain ⟨hi, rfl⟩ := rangeD_get hd
        refine ⟨_, DL.gw_name, DL.t_yes, fun _ => ?_⟩
        have hi2 : i < (exMany (xs.getD 4 0)).toNat := hi
        apply DL.EvD.is
        · walk_at "ev"
          exact q0.1
        · show PyData.int _ = PyData.int _
          rfl
    · exact rfl
  apply DL.s_ret
  · walk_at "ev"
  · show _ = (partOf xs m).D
    rfl

abbrev s_l_course_by : Stmt := topS 29
theorem sc_l_course_by : FnScope ["_law_script", "_law_first", "_law_most_tasks", "_law_many", "_law_k"] ["_law_script", "_law_first", "_law_most_tasks"] (defScope s_l_course_by) := ⟨rfl, rfl, rfl, by decide +kernel, rfl, by decide +kernel, by decide +kernel⟩
theorem ok_l_course_by (At : DefAt K mg "_law_course_by" "_law_course_by" s_l_course_by ["_law_script", "_law_first", "_law_most_tasks"]) (G_l_cell_at : Fn1 P w K mg base 1 "_law_cell_at" ["_law_script", "_law_k"] (sp_l_cell_at K)) (G_l_part_by : Fn1 P w K mg base 2 "_law_part_by" ["_law_cell", "_law_most_tasks"] (sp_l_part_by K)) (m_range : mg "range" = none) : Fn1 P w K mg base 3 "_law_course_by" ["_law_script", "_law_first", "_law_most_tasks"] (sp_l_course_by K) := by
  have nd := sc_l_course_by.nd
  refine At.L sc_l_course_by (fun _ => rfl) (fun f cdv A outer s H E hr => ⟨_, (pss_cons (ps_asg (pe_op op_mod (pe_fn G_l_cell_at (hr.mono (by decide)) (by rfl) (pa_cons (pv 0) (pa_cons pe_int pa_nil))) pe_int) (pg_name (i := 3) nd rfl (by first | exact Or.inl rfl | exact Or.inr rfl)))
      (pss_cons (ps_if (pt_cmpR (op_eqD hr.units : OpR _ _ (rEqD K)) (pe_op op_mod (pe_op op_divU (pe_fn G_l_cell_at (hr.mono (by decide)) (by rfl) (pa_cons (pv 0) (pa_cons pe_int pa_nil))) pe_int) pe_int) pe_int (nomark _)) (pss_one (ps_asg (pe_op (op_addU : OpR _ _ (rAddU K)) pe_int (pe_op op_mod (pe_op op_divU (pe_fn G_l_cell_at (hr.mono (by decide)) (by rfl) (pa_cons (pv 0) (pa_cons pe_int pa_nil))) pe_int) pe_int)) (pg_name (i := 3) nd rfl (by first | exact Or.inl rfl | exact Or.inr rfl)))) pss_nil)
      (pss_one (ps_ret (pe_lc (own := [("_law_k", 4)]) (g := gName 4) (tt := tYes) (by rfl) nd (pi_range1 (by rfl) m_range (pa_cons (pv 3) pa_nil)) (blkOk_by (own := [("_law_k", 4)]) (N := ["_law_script", "_law_first", "_law_most_tasks", "_law_many", "_law_k"]) (sc := defScope s_l_course_by) (by decide +kernel)) (fun _ _ _ _ _ => (pg_name (i := 4) nd rfl (by first | exact Or.inl rfl | exact Or.inr rfl))) (fun _ _ _ _ _ => pts_nil) (fun _ _ _ _ _ => (pe_fn G_l_part_by (hr.mono (by decide)) (by rfl) (pa_cons (pe_fn G_l_cell_at (hr.mono (by decide)) (by rfl) (pa_cons (pv 0) (pa_cons (pe_op (op_addU : OpR _ _ (rAddU K)) (pv 1) (pv 4)) pa_nil))) (pa_cons (pv 2) pa_nil))))))))), fun a ha => ?_⟩)
  try dsimp only [cxOf]
  show EvS (Z0 K) _ [Sl.dat _, Sl.dat _, Sl.dat _, Sl.any, Sl.any] _
  obtain ⟨ns, f, m⟩ := a
  obtain ⟨hl, f0, f1, m0, m1⟩ := ha
  dsimp only at hl f0 f1 m0 m1
  have c0 := manyParts_lo ns
  apply DL.s_seq
  · apply DL.s_asg
    · walk_at "ev"
    · exact DL.g_name
    · exact rfl
  apply DL.s_ifAsg (x := .int (manyParts ns))
  · walk_at "ev"
  · intro hb
    have e : cellAt ns 0 / 4 % 9 = 1 := of_decide_eq_true hb
    apply DL.EvD.is
    · walk_at "ev"
    · show PyData.int _ = PyData.int _
      rw [manyParts, if_pos e]
  · intro hb
    have e : ¬ cellAt ns 0 / 4 % 9 = 1 := of_decide_eq_false hb
    rw [manyParts, if_neg e]
    rfl
  apply DL.s_retL (ds := courseD (courseBy ns f m))
  · have hk : keptD (rangeD 0 (manyParts ns).toNat) (fun _ => true) (partV ns f m) = courseD (courseBy ns f m) := by
      unfold keptD rangeD courseD courseBy
      rw [List.filter_eq_self.mpr (fun _ _ => rfl), List.map_map, List.map_map]
      refine List.map_congr_left fun i _ => ?_
      show (partBy (cellAt ns (f + (0 + (i : Int)))) m).D = (partBy (cellAt ns (f + (i : Int))) m).D
      rw [Int.zero_add]
    rw [← hk]
    refine DL.l_lc _ _ (DL.i_rng1 (n := manyParts ns) (by walk_at "ev") (by omega)) ?_ ?_
    · rw [rangeD_len]; omega
    · intro i d hd
      obtain ⟨hi, rfl⟩ := rangeD_get hd
      refine ⟨_, DL.gw_name, DL.t_yes, fun _ => ?_⟩
      apply DL.EvD.is
      · walk_at "ev"
      · exact rfl
  · exact rfl

abbrev s_gives : Stmt := topS 9
theorem sc_gives : FnScope ["task", "cap", "tries", "at", "points"] ["task"] (defScope s_gives) := ⟨rfl, rfl, rfl, by decide +kernel, rfl, by decide +kernel, by decide +kernel⟩
theorem ok_gives (At : DefAt K mg "gives" "gives" s_gives ["task"]) (m_min : mg "min" = none) (m_enumerate : mg "enumerate" = none) : Fn1 P w K mg base 1 "gives" ["task"] (sp_gives K) := by
  have nd := sc_gives.nd
  refine At.L sc_gives (fun _ => rfl) (fun f cdv A outer s H E hr => ⟨_, (pss_cons (ps_asg (pe_slice (sl_U : SlR _ (rSlU K)) (pv 0) (po_some pe_int) po_none) (pg_tup (by rfl) (pgs_cons (pg_name (i := 1) nd rfl (by first | exact Or.inl rfl | exact Or.inr rfl)) (pgs_cons (pg_name (i := 2) nd rfl (by first | exact Or.inl rfl | exact Or.inr rfl)) pgs_nil))))
      (pss_one (ps_ret (pe_lc (own := [("at", 3), ("points", 4)]) (g := gTup K 2 (gCons (gName 3) (gCons (gName 4) gNil))) (tt := tYes) (by rfl) nd (pi_enT (by rfl) m_enumerate (pa_cons (pv 2) pa_nil)) (blkOk_by (own := [("at", 3), ("points", 4)]) (N := ["task", "cap", "tries", "at", "points"]) (sc := defScope s_gives) (by decide +kernel)) (fun _ _ _ _ _ => (pg_tup (by rfl) (pgs_cons (pg_name (i := 3) nd rfl (by first | exact Or.inl rfl | exact Or.inr rfl)) (pgs_cons (pg_name (i := 4) nd rfl (by first | exact Or.inl rfl | exact Or.inr rfl)) pgs_nil)))) (fun _ _ _ _ _ => pts_nil) (fun _ _ _ _ _ => (pe_ifExp (pt_cmpR (op_eqD hr.units : OpR _ _ (rEqD K)) (pv 3) pe_int (nomark _)) (pv 4) (pe_callB (c_min2 rfl) (by rfl) m_min (by decide +kernel) (pa_cons (pv 4) (pa_cons (pv 1) pa_nil))))))))), fun a ha => ?_⟩)
  try dsimp only [cxOf]
  show EvS (Z0 K) _ [Sl.dat _, Sl.any, Sl.any, Sl.any, Sl.any] _
  rename Task => t
  have e3 : DL.cutD [.int t.w, .int t.most, .int t.cap, .tuple (intsD t.tries)] (some (2 : Int)) none = [.int t.cap, .tuple (intsD t.tries)] := cutD_from _ 2
  apply DL.s_seq (ρ1 := [Sl.dat t.D, Sl.dat (.int t.cap), Sl.dat (.tuple (intsD t.tries)), .any, .any])
  · apply DL.s_asg (d := .tuple [.int t.cap, .tuple (intsD t.tries)])
    · apply DL.EvD.is
      · walk_at "ev"
      · exact congrArg _ e3
    · apply DL.g_tup
      · rfl
      · apply DL.gs_cons
        · exact DL.g_name
        · apply DL.gs_cons
          · exact DL.g_name
          · exact DL.gs_nil
    · exact rfl
  apply DL.s_retL
  · refine DL.l_lc (fun _ => true) (givesV t.cap) (DL.i_enT (ds := intsD t.tries) (by walk_at "ev")) ?_ ?_
    · rw [enumD_len, intsD_len]
      have := ha.l
      omega
    · intro i d hd
      obtain ⟨x, hx, rfl⟩ := enumD_get hd
      have hlt : i < t.tries.length := by
        have := (List.getElem?_eq_some_iff.mp hx).1
        rw [intsD_len] at this
        exact this
      rw [intsD_get hlt] at hx
      obtain rfl := Option.some.inj hx
      refine ⟨_, DL.gw_tup2 (by decide), DL.t_yes, fun _ => ?_⟩
      apply DL.EvD.is
      · walk_at "ev"
      · show _ = PyData.int _
        by_cases h : (i : Int) = 0
        · rw [if_pos (decide_eq_true h), if_pos h]
        · rw [if_neg (by rw [decide_eq_false h]; decide), if_neg h]
  · show _ = intsD (givesP t)
    unfold keptD givesP enumD intsD
    rw [List.filter_eq_self.mpr (fun _ _ => rfl), List.map_map, List.map_map, List.length_map]
    refine List.map_congr_left fun i hi => ?_
    have hlt := List.mem_range.mp hi
    show givesV t.cap (.tuple [.int i, (intsD t.tries).getD i .none]) = .int (gAt t i)
    rw [List.getD_eq_getElem?_getD, intsD_get hlt]
    show PyData.int _ = PyData.int _
    unfold gAt
    by_cases h : i = 0
    · subst h; rfl
    · rw [if_neg h, if_neg (by omega)]

abbrev s_mark : Stmt := topS 10
theorem sc_mark : FnScope ["task"] ["task"] (defScope s_mark) := ⟨rfl, rfl, rfl, by decide +kernel, rfl, by decide +kernel, by decide +kernel⟩
theorem ok_mark (At : DefAt K mg "mark" "mark" s_mark ["task"]) (G_gives : Fn1 P w K mg base 1 "gives" ["task"] (sp_gives K)) (m_max : mg "max" = none) : Fn1 P w K mg base 2 "mark" ["task"] (sp_mark K) := by
  have nd := sc_mark.nd
  refine At.D sc_mark (fun _ => rfl) (fun f cdv A outer s H E hr => ⟨_, (pss_one (ps_ret (pe_callBK (c_maxD rfl hr.units) (by rfl) m_max (by decide +kernel) (pa_cons (pe_fn G_gives (hr.mono (by decide)) (by rfl) (pa_cons (pv 0) pa_nil)) pa_nil) (pk_cons pe_non pk_nil)))), fun a ha => ?_⟩)
  try dsimp only [cxOf]
  show EvS (Z0 K) _ [Sl.dat _] _
  apply DL.s_ret
  · apply DL.d_maxD
    apply DL.EvL.v
    apply c_gives
    · walk_at "ev"
    · exact ha
  · exact rfl

abbrev s__marked : Stmt := topS 16
theorem sc__marked : FnScope ["part", "number", "task"] ["part"] (defScope s__marked) := ⟨rfl, rfl, rfl, by decide +kernel, rfl, by decide +kernel, by decide +kernel⟩
theorem ok__marked (At : DefAt K mg "_marked" "_marked" s__marked ["part"]) (G_mark : Fn1 P w K mg base 2 "mark" ["task"] (sp_mark K)) (m_enumerate : mg "enumerate" = none) : Fn1 P w K mg base 3 "_marked" ["part"] (sp__marked K) := by
  have nd := sc__marked.nd
  refine At.L sc__marked (fun _ => rfl) (fun f cdv A outer s H E hr => ⟨_, (pss_one (ps_ret (pe_lc (own := [("number", 1), ("task", 2)]) (g := gTup K 2 (gCons (gName 1) (gCons (gName 2) gNil))) (by rfl) nd (pi_enT (by rfl) m_enumerate (pa_cons (pe_ix (ix_U : IxR _ (rIxU K)) (pv 0) pe_int (fun _ _ => rfl)) pa_nil)) (blkOk_by (own := [("number", 1), ("task", 2)]) (N := ["part", "number", "task"]) (sc := defScope s__marked) (by decide +kernel)) (fun _ _ _ _ _ => (pg_tup (by rfl) (pgs_cons (pg_name (i := 1) nd rfl (by first | exact Or.inl rfl | exact Or.inr rfl)) (pgs_cons (pg_name (i := 2) nd rfl (by first | exact Or.inl rfl | exact Or.inr rfl)) pgs_nil)))) (fun _ _ _ _ _ => (pts_one (pt_cmpR op_notU (pe_fn G_mark (hr.mono (by decide)) (by rfl) (pa_cons (pv 2) pa_nil)) pe_non (nomark _)))) (fun _ _ _ _ _ => (pv 1))))), fun a ha => ?_⟩)
  try dsimp only [cxOf]
  show EvS (Z0 K) _ [Sl.dat _, Sl.any, Sl.any] _
  rename Part => p
  have ok : p.Ok := ha
  have htl := ok.tl
  show EvS _ _ [Sl.dat p.D, .any, .any] _
  have hln : (tasksD p.tasks).length = p.tasks.length := by unfold tasksD; rw [List.length_map]
  apply DL.s_retL (ds := intsD ((markedN p).map Int.ofNat))
  · have hk : keptD (enumD (tasksD p.tasks)) (triedE p) firstE = intsD ((markedN p).map Int.ofNat) := by
      unfold keptD enumD intsD markedN
      rw [List.filter_map, List.map_map, List.map_map, hln]
      have e : (triedE p ∘ fun i : Nat => PyData.tuple [.int (i : Int), (tasksD p.tasks).getD i .none]) = triedN p := by
        funext i
        show triedN p (i : Int).toNat = _
        rw [Int.toNat_natCast]
      rw [e]
      rfl
    rw [← hk]
    refine DL.l_lc _ _ (DL.i_enT (ds := tasksD p.tasks) ?_) ?_ ?_
    · apply DL.d_ixC (k := false) (ds := [.int p.w, .int p.worst, .int p.top, .tuple (tasksD p.tasks), .tuple (intsD p.extras)])
      · exact DL.EvD.vk (k := false) (DL.d_var rfl)
      · decide
      · exact rfl
    · rw [enumD_len, hln]; omega
    · intro i d hd
      obtain ⟨x, hx, rfl⟩ := enumD_get hd
      obtain ⟨t, ht, rfl⟩ := map_get hx
      have hi : i < p.tasks.length := (List.getElem?_eq_some_iff.mp ht).1
      have et : p.tasks.getD i noT = t := by rw [List.getD_eq_getElem?_getD, ht]; rfl
      have hto : t.Ok := ok.ts _ (List.mem_of_getElem? ht)
      refine ⟨_, DL.gw_tup2 (by decide), ?_, fun _ => ?_⟩
      · have e : triedE p (.tuple [.int (i : Int), t.D]) = !DL.isN (optD (maxI (givesP t))) := by
          rw [isN_mark]
          show triedN p (i : Int).toNat = _
          rw [Int.toNat_natCast]
          unfold triedN
          rw [et]
        rw [e]
        refine DL.t_T (DL.d_op (c_mark (t := t) (DL.d_var rfl) hto) DL.d_non DL.r_notN)
      · show EvD _ _ _ (.int (i : Int))
        exact DL.d_var rfl
  · exact rfl

abbrev s_share : Stmt := topS 3
theorem sc_share : FnScope ["top", "bottom", "common"] ["top", "bottom"] (defScope s_share) := ⟨rfl, rfl, rfl, by decide +kernel, rfl, by decide +kernel, by decide +kernel⟩
theorem ok_share (At : DefAt K mg "share" "share" s_share ["top", "bottom"]) (m_gcd : mg "gcd" = some (.builtin "math.gcd")) : Fn1 P w K mg base 1 "share" ["top", "bottom"] (sp_share K) := by
  have nd := sc_share.nd
  refine At.D sc_share (fun _ => rfl) (fun f cdv A outer s H E hr => ⟨_, (pss_cons (ps_asg (pe_callBfun cr_gcd (by rfl) m_gcd (pa_cons (pv 0) (pa_cons (pv 1) pa_nil))) (pg_name (i := 2) nd rfl (by first | exact Or.inl rfl | exact Or.inr rfl)))
      (pss_one (ps_ret (pe_tup (pa_cons (pe_op op_divU (pv 0) (pv 2)) (pa_cons (pe_op op_divU (pv 1) (pv 2)) pa_nil)))))), fun a ha => ?_⟩)
  try dsimp only [cxOf]
  show EvS (Z0 K) _ [Sl.dat _, Sl.dat _, Sl.any] _
  obtain ⟨t, b⟩ := a
  obtain ⟨h0, h1⟩ := ha
  try dsimp only at *
  have hd : CDivW t ((Nat.gcd t.natAbs b.natAbs : Nat) : Int) := wide_div (gcd_pos h0) (gcd_small' h0 h1) (by decide) (by decide)
  have hd2 : CDivW b ((Nat.gcd t.natAbs b.natAbs : Nat) : Int) := wide_div (gcd_pos h0) (gcd_small' h0 h1) (by decide) (by decide)
  apply DL.s_seq
  · apply DL.s_asg
    · walk_at "ev"
    · exact DL.g_name
    · exact rfl
  · apply DL.s_ret
    · walk_at "ev"
      · exact Or.inr hd
      · exact Or.inr hd2
    · exact rfl

abbrev s_times : Stmt := topS 5
theorem sc_times : FnScope ["one", "number", "over"] ["one", "number", "over"] (defScope s_times) := ⟨rfl, rfl, rfl, by decide +kernel, rfl, by decide +kernel, by decide +kernel⟩
theorem ok_times (At : DefAt K mg "times" "times" s_times ["one", "number", "over"]) (G_share : Fn1 P w K mg base 1 "share" ["top", "bottom"] (sp_share K)) : Fn1 P w K mg base 2 "times" ["one", "number", "over"] (sp_times K) := by
  have nd := sc_times.nd
  refine At.D sc_times (fun _ => rfl) (fun f cdv A outer s H E hr => ⟨_, (pss_one (ps_ret (pe_fn G_share (hr.mono (by decide)) (by rfl) (pa_cons (pe_op (op_mulU : OpR _ _ (rMulU K)) (pe_ix (ix_U : IxR _ (rIxU K)) (pv 0) pe_int (fun _ _ => rfl)) (pv 1)) (pa_cons (pe_op (op_mulU : OpR _ _ (rMulU K)) (pe_ix (ix_U : IxR _ (rIxU K)) (pv 0) pe_int (fun _ _ => rfl)) (pv 2)) pa_nil))))), fun a ha => ?_⟩)
  try dsimp only [cxOf]
  show EvS (Z0 K) _ [Sl.dat _, Sl.dat _, Sl.dat _] _
  obtain ⟨⟨t, b⟩, n, o⟩ := a
  obtain ⟨⟨h0, h1, h2⟩, h3, h4, h5⟩ := ha
  dsimp only at h0 h1 h2 h3 h4 h5
  have hm : 0 < b * o := Int.mul_pos h0 h4
  have hm2 : (b * o).natAbs < 2 ^ 8000 := wide_lt h1 h5
  apply DL.s_ret
  · refine DL.d_call (t * n, b * o) ?_ ⟨hm, hm2⟩
    refine DL.ea_cons (DL.d_op ?_ ?_ (DL.r_mulI (FrN.mul h2 h3 (by decide) (by decide) (by decide)))) (DL.ea_cons (DL.d_op ?_ ?_ (DL.r_mulI (FrN.mul h1 h5 (by decide) (by decide) (by decide)))) DL.ea_nil)
    all_goals walk_at "ev"
  · exact rfl

abbrev s_plus : Stmt := topS 4
theorem sc_plus : FnScope ["one", "other"] ["one", "other"] (defScope s_plus) := ⟨rfl, rfl, rfl, by decide +kernel, rfl, by decide +kernel, by decide +kernel⟩
theorem ok_plus (At : DefAt K mg "plus" "plus" s_plus ["one", "other"]) (G_share : Fn1 P w K mg base 1 "share" ["top", "bottom"] (sp_share K)) : Fn1 P w K mg base 2 "plus" ["one", "other"] (sp_plus K) := by
  have nd := sc_plus.nd
  refine At.D sc_plus (fun _ => rfl) (fun f cdv A outer s H E hr => ⟨_, (pss_one (ps_ret (pe_fn G_share (hr.mono (by decide)) (by rfl) (pa_cons (pe_op (op_addU : OpR _ _ (rAddU K)) (pe_op (op_mulU : OpR _ _ (rMulU K)) (pe_ix (ix_U : IxR _ (rIxU K)) (pv 0) pe_int (fun _ _ => rfl)) (pe_ix (ix_U : IxR _ (rIxU K)) (pv 1) pe_int (fun _ _ => rfl))) (pe_op (op_mulU : OpR _ _ (rMulU K)) (pe_ix (ix_U : IxR _ (rIxU K)) (pv 1) pe_int (fun _ _ => rfl)) (pe_ix (ix_U : IxR _ (rIxU K)) (pv 0) pe_int (fun _ _ => rfl)))) (pa_cons (pe_op (op_mulU : OpR _ _ (rMulU K)) (pe_ix (ix_U : IxR _ (rIxU K)) (pv 0) pe_int (fun _ _ => rfl)) (pe_ix (ix_U : IxR _ (rIxU K)) (pv 1) pe_int (fun _ _ => rfl))) pa_nil))))), fun a ha => ?_⟩)
  try dsimp only [cxOf]
  show EvS (Z0 K) _ [Sl.dat _, Sl.dat _] _
  obtain ⟨⟨t, b⟩, ⟨u, c⟩⟩ := a
  obtain ⟨⟨h0, h1, h2⟩, ⟨h3, h4, h5⟩⟩ := ha
  dsimp only at h0 h1 h2 h3 h4 h5
  have hm : 0 < b * c := Int.mul_pos h0 h3
  have hm2 : (b * c).natAbs < 2 ^ 8000 := wide_lt h1 h4
  apply DL.s_ret
  · refine DL.d_call (t * c + u * b, b * c) ?_ ⟨hm, hm2⟩
    refine DL.ea_cons (DL.d_op (DL.d_op ?_ ?_ (DL.r_mulI (FrN.mul h2 h4 (by decide) (by decide) (by decide)))) (DL.d_op ?_ ?_ (DL.r_mulI (FrN.mul h5 h1 (by decide) (by decide) (by decide)))) DL.r_addI) (DL.ea_cons (DL.d_op ?_ ?_ (DL.r_mulI (FrN.mul h1 h4 (by decide) (by decide) (by decide)))) DL.ea_nil)
    all_goals walk_at "ev"
  · exact rfl

abbrev s_weighted : Stmt := topS 7
theorem sc_weighted : FnScope ["rows", "total", "weights", "weight", "one"] ["rows"] (defScope s_weighted) := ⟨rfl, rfl, rfl, by decide +kernel, rfl, by decide +kernel, by decide +kernel⟩
theorem ok_weighted (At : DefAt K mg "weighted" "weighted" s_weighted ["rows"]) (G_times : Fn1 P w K mg base 2 "times" ["one", "number", "over"] (sp_times K)) (G_plus : Fn1 P w K mg base 2 "plus" ["one", "other"] (sp_plus K)) : Fn1 P w K mg base 3 "weighted" ["rows"] (sp_weighted K) := by
  have nd := sc_weighted.nd
  refine At.D sc_weighted (fun _ => rfl) (fun f cdv A outer s H E hr => ⟨_, (pss_cons (ps_asg (pe_tup (pa_cons pe_int (pa_cons pe_int pa_nil))) (pg_name (i := 1) nd rfl (by first | exact Or.inl rfl | exact Or.inr rfl)))
      (pss_cons (ps_asg pe_int (pg_name (i := 2) nd rfl (by first | exact Or.inl rfl | exact Or.inr rfl)))
      (pss_cons (ps_for PassesOwn.never rfl (pi_U (pv 0)) (pg_tup (by rfl) (pgs_cons (pg_name (i := 3) nd rfl (by first | exact Or.inl rfl | exact Or.inr rfl)) (pgs_cons (pg_name (i := 4) nd rfl (by first | exact Or.inl rfl | exact Or.inr rfl)) pgs_nil))) (pss_cons (ps_asg (pe_fn G_plus (hr.mono (by decide)) (by rfl) (pa_cons (pv 1) (pa_cons (pe_fn G_times (hr.mono (by decide)) (by rfl) (pa_cons (pv 4) (pa_cons (pv 3) (pa_cons pe_int pa_nil)))) pa_nil))) (pg_name (i := 1) nd rfl (by first | exact Or.inl rfl | exact Or.inr rfl)))
      (pss_one (ps_aug (i := 2) nd rfl (by first | exact Or.inl rfl | exact Or.inr rfl) (pv 3) ip_add))))
      (pss_one (ps_ret (pe_fn G_times (hr.mono (by decide)) (by rfl) (pa_cons (pv 1) (pa_cons pe_int (pa_cons (pv 2) pa_nil))))))))), fun a ha => ?_⟩)
  try dsimp only [cxOf]
  show EvS (Z0 K) _ [Sl.dat _, Sl.any, Sl.any, Sl.any, Sl.any] _
  rename List (Int × (Int × Int)) => rs
  have ok : WOk rs := ha
  have lis := ok.l
  show EvS _ _ [Sl.dat (.list (rs.map rowD)), .any, .any, .any, .any] (toD (shD (weightedP rs)))
  apply DL.s_seq
  · apply DL.s_asg
    · walk_at "ev"
    · exact DL.g_name
    · exact rfl
  apply DL.s_seq
  · apply DL.s_asg
    · walk_at "ev"
    · exact DL.g_name
    · exact rfl
  apply DL.s_cut (fun ρ => ∃ y z, ρ = [Sl.dat (.list (rs.map rowD)), .dat (shD (foldW rs)), .dat (.int (sumW rs)), y, z])
  · apply DL.s_for (I := fun i ρ => ∃ y z, ρ = [Sl.dat (.list (rs.map rowD)), .dat (shD (foldW (rs.take i))), .dat (.int (sumW (rs.take i))), y, z])
    · apply DL.i_seq (k := true) (ds := rs.map rowD)
      walk_at "ev"
    · exact ⟨_, _, rfl⟩
    · rintro i d ρ hd ⟨y, z, rfl⟩
      obtain ⟨r, hr, rfl⟩ := map_get hd
      refine ⟨_, DL.g_tup rfl (DL.gs_cons DL.g_name (DL.gs_cons DL.g_name DL.gs_nil)), ?_⟩
      have hro := ok.r r (List.mem_of_getElem? hr)
      have hil : i < rs.length := (List.getElem?_eq_some_iff.mp hr).1
      have htk : rs.take (i + 1) = rs.take i ++ [r] := by rw [List.take_add_one, hr]; rfl
      have fr := foldW_fr0 (rs := rs.take i) fun t h => ok.r t (List.mem_of_mem_take h)
      have frl : (rs.take i).length ≤ 7 := by rw [List.length_take]; omega
      rw [htk, foldW_snoc, sumW_snoc]
      generalize foldW (rs.take i) = q at *
      generalize sumW (rs.take i) = s at *
      have w0 := hro.w0
      have w1 := hro.w1
      have e10 : (2 : Nat) ^ 10 = 1024 := by decide
      have fq : FrN 4000 q := FrN.up fr (by omega)
      have fr2 : FrN 4000 r.2 := FrN.up hro.f (by decide)
      have ft : FrN 4000 (lowP (r.2.1 * r.1) (r.2.2 * 1)) := by
        refine FrN.up (n := 440) (lowP_small (Int.mul_pos hro.f.1 (by decide)) ?_ ?_) (by decide)
        · exact Nat.lt_of_lt_of_le (wide_lt hro.f.2.2 (b := 10) (by omega)) (Nat.pow_le_pow_right (by decide) (by decide))
        · exact Nat.lt_of_lt_of_le (wide_lt hro.f.2.1 (b := 10) (by decide)) (Nat.pow_le_pow_right (by decide) (by decide))
      have es := stepW_prog (p := q) (r := r) fr.1 hro.f.1
      show EvS _ _ [Sl.dat (.list (rs.map rowD)), .dat (shD q), .dat (.int s), .dat (.int r.1), .dat (shD r.2)] _
      apply DL.s_seq (ρ1 := [Sl.dat (.list (rs.map rowD)), .dat (shD (stepW q r)), .dat (.int s), .dat (.int r.1), .dat (shD r.2)])
      · apply DL.s_asg (d := shD (stepW q r))
        · rw [← es]
          apply c_plus (p := q) (q := lowP (r.2.1 * r.1) (r.2.2 * 1))
          · walk_at "ev"
          · apply c_times (p := r.2) (n := r.1) (o := 1)
            · exact DL.d_var rfl
            · exact DL.d_var rfl
            · exact DL.d_int
            · exact ⟨fr2, Nat.lt_of_lt_of_le (show r.1.natAbs < 2 ^ 10 by omega) (Nat.pow_le_pow_right (by decide) (by decide)), by decide, by decide⟩
          · exact ⟨fq, ft⟩
        · exact DL.g_name
        · exact rfl
      · apply DL.s_aug (g := fun a b => a + b)
        · exact rfl
        · exact DL.d_var rfl
        · exact ⟨_, _, rfl⟩
    · rintro ρ ⟨y, z, rfl⟩
      rw [List.length_map, List.take_length]
      exact ⟨y, z, rfl⟩
  rintro ρ ⟨y, z, rfl⟩
  have fr := foldW_fr0 ok.r
  have hne : 0 < rs.length := List.length_pos_iff.mpr ok.ne
  have ws := sumW_lo ok.r
  have e14 : (2 : Nat) ^ 14 = 16384 := by decide
  apply DL.s_ret
  · apply c_times (p := foldW rs) (n := 1) (o := sumW rs)
    · exact DL.d_var rfl
    · exact DL.d_int
    · exact DL.d_var rfl
    · exact ⟨FrN.up fr (by omega), by decide, by omega, Nat.lt_of_lt_of_le (show (sumW rs).natAbs < 2 ^ 14 by omega) (Nat.pow_le_pow_right (by decide) (by decide))⟩
  · show _ = shD (weightedP rs)
    unfold weightedP
    rw [Int.mul_one]

abbrev s_mean : Stmt := topS 14
theorem sc_mean : FnScope ["part", "numbers", "tasks", "number", "task"] ["part", "numbers"] (defScope s_mean) := ⟨rfl, rfl, rfl, by decide +kernel, rfl, by decide +kernel, by decide +kernel⟩
theorem ok_mean (At : DefAt K mg "mean" "mean" s_mean ["part", "numbers"]) (G_weighted : Fn1 P w K mg base 3 "weighted" ["rows"] (sp_weighted K)) (G_share : Fn1 P w K mg base 1 "share" ["top", "bottom"] (sp_share K)) (G_mark : Fn1 P w K mg base 2 "mark" ["task"] (sp_mark K)) : Fn1 P w K mg base 4 "mean" ["part", "numbers"] (sp_mean K) := by
  have nd := sc_mean.nd
  refine At.D sc_mean (fun _ => rfl) (fun f cdv A outer s H E hr => ⟨_, (pss_cons (ps_setLc (i := 2) (own := [("number", 3)]) (g := gName 3) (tt := tYes) (by rfl) nd rfl rfl (sw_true rfl rfl rfl (by decide +kernel)) (pi_U (pv 1)) (blkOk_by (own := [("number", 3)]) (N := ["part", "numbers", "tasks", "number", "task"]) (sc := defScope s_mean) (by decide +kernel)) (fun _ _ _ _ _ => (pg_name (i := 3) nd rfl (by first | exact Or.inl rfl | exact Or.inr rfl))) (fun _ _ _ _ _ => pts_nil) (fun _ _ _ _ _ => (pe_ix (ix_U : IxR _ (rIxU K)) (pe_ix (ix_U : IxR _ (rIxU K)) (pv 0) pe_int (fun _ _ => rfl)) (pv 3) (fun _ _ => rfl))))
      (pss_one (ps_ret (pe_fn G_weighted (hr.mono (by decide)) (by rfl) (pa_cons (pe_lc (own := [("task", 4)]) (g := gName 4) (tt := tYes) (by rfl) nd (pi_U (pv 2)) (blkOk_by (own := [("task", 4)]) (N := ["part", "numbers", "tasks", "number", "task"]) (sc := defScope s_mean) (by decide +kernel)) (fun _ _ _ _ _ => (pg_name (i := 4) nd rfl (by first | exact Or.inl rfl | exact Or.inr rfl))) (fun _ _ _ _ _ => pts_nil) (fun _ _ _ _ _ => (pe_tup (pa_cons (pe_ix (ix_U : IxR _ (rIxU K)) (pv 4) pe_int (fun _ _ => rfl)) (pa_cons (pe_fn G_share (hr.mono (by decide)) (by rfl) (pa_cons (pe_fn G_mark (hr.mono (by decide)) (by rfl) (pa_cons (pv 4) pa_nil)) (pa_cons (pe_ix (ix_U : IxR _ (rIxU K)) (pv 4) pe_int (fun _ _ => rfl)) pa_nil))) pa_nil))))) pa_nil))))), fun a ha => ?_⟩)
  try dsimp only [cxOf]
  show EvS (Z0 K) _ [Sl.dat _, Sl.dat _, Sl.any, Sl.any, Sl.any] _
  obtain ⟨k, p, is⟩ := a
  have ok : MeanOk8 p is := ha
  have htr := ok.tried
  have lis := ok.l
  show EvS _ _ [Sl.dat p.D, .dat (sqD k (intsD (is.map Int.ofNat))), .any, .any, .any] (toD (shD (meanP (is.map fun i => p.tasks.getD i noT))))
  generalize hts : (is.map fun i => p.tasks.getD i noT) = ts at htr
  have lts : ts.length = is.length := by rw [← hts, List.length_map]
  apply DL.s_seq (ρ1 := [Sl.dat p.D, .dat (sqD k (intsD (is.map Int.ofNat))), .dat (.list (tasksD ts)), .any, .any])
  · apply DL.s_asg (d := .list (tasksD ts))
    · have hk : keptD (intsD (is.map Int.ofNat)) (fun _ => true) (taskAtV p) = tasksD ts := by
        unfold keptD intsD tasksD
        rw [List.filter_eq_self.mpr (fun _ _ => rfl), List.map_map, List.map_map, ← hts, List.map_map]
        rfl
      rw [← hk]
      refine DL.EvL.dt (DL.l_lc _ _ (DL.i_seq (k := k) (ds := intsD (is.map Int.ofNat)) (DL.d_var rfl)) ?_ ?_)
      · rw [intsD_len, List.length_map]; omega
      · intro i d hd
        obtain ⟨x, hx, rfl⟩ := intsD_get' hd
        obtain ⟨j, hj, rfl⟩ : ∃ j : Nat, is[i]? = some j ∧ (j : Int) = x := by
          rw [List.getElem?_map] at hx
          cases q : is[i]? with
          | none => rw [q] at hx; cases hx
          | some r => rw [q] at hx; exact ⟨r, rfl, Option.some.inj hx⟩
        have hji := ok.io j (List.mem_of_getElem? hj)
        refine ⟨_, DL.gw_name, DL.t_yes, fun _ => ?_⟩
        show EvD _ _ _ (p.tasks.getD (j : Int).toNat noT).D
        apply DL.d_ix (k := false) (i := (j : Int)) (ds := tasksD p.tasks)
        · refine (DL.EvD.vk (k := false) (ds := tasksD p.tasks) ?_)
          show EvD _ _ _ (.tuple (tasksD p.tasks))
          walk_at "ev"
        · walk_at "ev"
        · omega
        · rw [Int.toNat_natCast]
          exact tasks_get hji.1
    · exact DL.g_name
    · exact rfl
  have hne : ts ≠ [] := fun z => ok.ne (List.length_eq_zero_iff.mp (by rw [← lts, z]; rfl))
  apply DL.s_ret (d := shD (meanP ts))
  · rw [← weighted_task htr]
    apply c_weighted (rs := ts.map taskRow)
    · have hk : keptD (tasksD ts) (fun _ => true) taskRowV = (ts.map taskRow).map rowD := by
        unfold keptD tasksD
        rw [List.filter_eq_self.mpr (fun _ _ => rfl), List.map_map, List.map_map]
        exact List.map_congr_left fun t _ => taskRowV_D t
      rw [← hk]
      refine DL.EvL.dt (DL.l_lc _ _ (DL.i_seq (k := true) (ds := tasksD ts) (DL.d_var rfl)) ?_ ?_)
      · unfold tasksD; rw [List.length_map]; omega
      · intro i d hd
        obtain ⟨t, ht, rfl⟩ := map_get hd
        have hT := htr t (List.mem_of_getElem? ht)
        refine ⟨_, DL.gw_name, DL.t_yes, fun _ => ?_⟩
        rw [taskRowV_D]
        show EvD _ _ _ (.tuple [.int t.w, shD (lowP (markZ t) t.most)])
        have m0 := hT.1.m0
        have m1 := hT.1.m1
        have e20 : (2 : Nat) ^ 20 = 1048576 := by decide
        refine DL.d_tup (DL.ea_cons ?_ (DL.ea_cons ?_ DL.ea_nil)) (by show 2 ≤ 100000; decide)
        · walk_at "ev"
        · apply c_share (t := markZ t) (b := t.most)
          · refine DL.EvD.is (c_mark (t := t) (DL.d_var rfl) hT.1) ?_
            rw [mark_is hT]
            rfl
          · walk_at "ev"
          · exact ⟨by omega, Nat.lt_of_lt_of_le (show t.most.natAbs < 2 ^ 20 by omega) (Nat.pow_le_pow_right (by decide) (by decide))⟩
    · refine ⟨fun r hr => ?_, fun z => hne (List.map_eq_nil_iff.mp z), by rw [List.length_map]; omega⟩
      obtain ⟨t, ht, rfl⟩ := List.mem_map.mp hr
      exact taskRow_ok (htr t ht)
  · exact rfl

abbrev s__without : Stmt := topS 17
theorem sc__without : FnScope ["numbers", "left", "number"] ["numbers", "left"] (defScope s__without) := ⟨rfl, rfl, rfl, by decide +kernel, rfl, by decide +kernel, by decide +kernel⟩
theorem ok__without (At : DefAt K mg "_without" "_without" s__without ["numbers", "left"]) : Fn1 P w K mg base 1 "_without" ["numbers", "left"] (sp__without K) := by
  have nd := sc__without.nd
  refine At.L sc__without (fun _ => rfl) (fun f cdv A outer s H E hr => ⟨_, (pss_one (ps_ret (pe_lc (own := [("number", 2)]) (g := gName 2) (by rfl) nd (pi_U (pv 0)) (blkOk_by (own := [("number", 2)]) (N := ["numbers", "left", "number"]) (sc := defScope s__without) (by decide +kernel)) (fun _ _ _ _ _ => (pg_name (i := 2) nd rfl (by first | exact Or.inl rfl | exact Or.inr rfl))) (fun _ _ _ _ _ => (pts_one (pt_cmpR (op_notIn_seq : OpR _ _ (rIn K true)) (pv 2) (pv 1) (by rfl)))) (fun _ _ _ _ _ => (pv 2))))), fun a ha => ?_⟩)
  try dsimp only [cxOf]
  show EvS (Z0 K) _ [Sl.dat _, Sl.dat _, Sl.any] _
  obtain ⟨ns, w⟩ := a
  dsimp only at ha
  show EvS _ _ [Sl.dat (.list (intsD (ns.map Int.ofNat))), .dat (.tuple (intsD w)), .any] (toL (intsD ((keptN ns w).map Int.ofNat)))
  apply DL.s_retL (ds := intsD ((keptN ns w).map Int.ofNat))
  · rw [← keptU_eq]
    refine DL.l_lc _ _ (DL.i_seq (k := true) (ds := intsD (ns.map Int.ofNat)) (DL.d_var rfl)) ?_ ?_
    · rw [intsD_len, List.length_map]; omega
    · intro j d hd
      obtain ⟨x, _, rfl⟩ := intsD_get' hd
      refine ⟨_, DL.gw_name, ?_, fun _ => ?_⟩
      · exact DL.t_T (DL.d_inI (k := false) (neg := true) (ns := w) (DL.d_var rfl) (DL.EvD.vk (k := false) (ds := intsD w) (DL.d_var rfl)))
      · exact DL.d_var rfl
  · exact rfl

abbrev s_less : Stmt := topS 6
theorem sc_less : FnScope ["one", "other"] ["one", "other"] (defScope s_less) := ⟨rfl, rfl, rfl, by decide +kernel, rfl, by decide +kernel, by decide +kernel⟩
theorem ok_less (At : DefAt K mg "less" "less" s_less ["one", "other"]) : Fn1 P w K mg base 1 "less" ["one", "other"] (sp_less K) := by
  have nd := sc_less.nd
  refine At.D sc_less (fun _ => rfl) (fun f cdv A outer s H E hr => ⟨_, (pss_one (ps_ret (pe_cmpR op_lt (pe_op (op_mulU : OpR _ _ (rMulU K)) (pe_ix (ix_U : IxR _ (rIxU K)) (pv 0) pe_int (fun _ _ => rfl)) (pe_ix (ix_U : IxR _ (rIxU K)) (pv 1) pe_int (fun _ _ => rfl))) (pe_op (op_mulU : OpR _ _ (rMulU K)) (pe_ix (ix_U : IxR _ (rIxU K)) (pv 1) pe_int (fun _ _ => rfl)) (pe_ix (ix_U : IxR _ (rIxU K)) (pv 0) pe_int (fun _ _ => rfl))) (nomark _)))), fun a ha => ?_⟩)
  try dsimp only [cxOf]
  show EvS (Z0 K) _ [Sl.dat _, Sl.dat _] _
  obtain ⟨⟨t, b⟩, ⟨u, c⟩⟩ := a
  obtain ⟨⟨h0, h1, h2⟩, ⟨h3, h4, h5⟩⟩ := ha
  dsimp only at h0 h1 h2 h3 h4 h5
  apply DL.s_ret
  · refine DL.d_op (DL.d_op ?_ ?_ (DL.r_mulI (FrN.mul h2 h4 (by decide) (by decide) (by decide)))) (DL.d_op ?_ ?_ (DL.r_mulI (FrN.mul h5 h1 (by decide) (by decide) (by decide)))) DL.r_lt
    all_goals walk_at "ev"
  · exact rfl

abbrev s__best_way : Stmt := topS 18
theorem sc__best_way : FnScope ["part", "marked", "many", "best", "way", "left", "found"] ["part", "marked", "many"] (defScope s__best_way) := ⟨rfl, rfl, rfl, by decide +kernel, rfl, by decide +kernel, by decide +kernel⟩
theorem ok__best_way (At : DefAt K mg "_best_way" "_best_way" s__best_way ["part", "marked", "many"]) (G_mean : Fn1 P w K mg base 4 "mean" ["part", "numbers"] (sp_mean K)) (G__without : Fn1 P w K mg base 1 "_without" ["numbers", "left"] (sp__without K)) (G_less : Fn1 P w K mg base 1 "less" ["one", "other"] (sp_less K)) (m_combinations : mg "combinations" = some (.type "itertools.combinations")) : Fn1 P w K mg base 5 "_best_way" ["part", "marked", "many"] (sp__best_way K) := by
  have nd := sc__best_way.nd
  refine At.D sc__best_way (fun _ => rfl) (fun f cdv A outer s H E hr => ⟨_, (pss_cons (ps_asg pe_non (pg_name (i := 3) nd rfl (by first | exact Or.inl rfl | exact Or.inr rfl)))
      (pss_cons (ps_asg (pe_tup pa_nil) (pg_name (i := 4) nd rfl (by first | exact Or.inl rfl | exact Or.inr rfl)))
      (pss_cons (ps_for PassesOwn.never rfl (pi_cmb (by rfl) m_combinations (pa_cons (pv 1) (pa_cons (pv 2) pa_nil))) (pg_name (i := 5) nd rfl (by first | exact Or.inl rfl | exact Or.inr rfl)) (pss_cons (ps_asg (pe_fn G_mean (hr.mono (by decide)) (by rfl) (pa_cons (pv 0) (pa_cons (pe_fn G__without (hr.mono (by decide)) (by rfl) (pa_cons (pv 1) (pa_cons (pv 5) pa_nil))) pa_nil))) (pg_name (i := 6) nd rfl (by first | exact Or.inl rfl | exact Or.inr rfl)))
      (pss_one (ps_if (PW.pt (pw_or (pt_cmpR op_isU (pv 3) pe_non (nomark _)) (pw_or1 (pt_truK (K := K) rfl (pe_fn G_less (hr.mono (by decide)) (by rfl) (pa_cons (pv 3) (pa_cons (pv 6) pa_nil))))))) (pss_cons (ps_asg (pv 6) (pg_name (i := 3) nd rfl (by first | exact Or.inl rfl | exact Or.inr rfl)))
      (pss_one (ps_asg (pv 5) (pg_name (i := 4) nd rfl (by first | exact Or.inl rfl | exact Or.inr rfl))))) pss_nil))))
      (pss_one (ps_ret (pv 4)))))), fun a ha => ?_⟩)
  try dsimp only [cxOf]
  show EvS (Z0 K) _ [Sl.dat _, Sl.dat _, Sl.dat _, Sl.any, Sl.any, Sl.any, Sl.any] _
  rename Part => p
  obtain ⟨ok, hne⟩ := ha
  have htl := ok.tl
  have hml := markedN_len p
  have o0 := ok.o0
  have o1 := ok.o1
  have hpos : 0 < (markedN p).length := List.length_pos_iff.mpr hne
  show EvS _ _ [Sl.dat p.D, .dat (.list (intsD ((markedN p).map Int.ofNat))), .dat (.int (manyL p : Int)), .any, .any, .any, .any] _
  generalize hNs : (markedN p).map Int.ofNat = Ns
  have lNs : Ns.length = (markedN p).length := by rw [← hNs, List.length_map]
  have hm3 : manyL p ≤ 3 := by unfold manyL; omega
  have hml2 : manyL p < Ns.length := by unfold manyL; omega
  obtain ⟨C, hk⟩ := ways_chain (n := Ns.length) (k := manyL p) (by omega) hm3 (by omega)
  have eC := pick_ways (ns := Ns) (k := manyL p) C
  have eW : waysL p = waysP Ns (manyL p) := by unfold waysL; rw [hNs]
  have lW : ∀ w ∈ waysP Ns (manyL p), w.length = manyL p := fun w hw => by rw [ways_eq] at hw; exact waysN_len _ _ _ hw
  apply DL.s_seq (ρ1 := [Sl.dat p.D, .dat (.list (intsD Ns)), .dat (.int (manyL p : Int)), .dat .none, .any, .any, .any])
  · apply DL.s_asg
    · exact DL.d_non
    · exact DL.g_name
    · exact rfl
  apply DL.s_seq (ρ1 := [Sl.dat p.D, .dat (.list (intsD Ns)), .dat (.int (manyL p : Int)), .dat .none, .dat (wayD []), .any, .any])
  · apply DL.s_asg (d := .tuple [])
    · walk_at "ev"
    · exact DL.g_name
    · exact rfl
  generalize hWs : waysP Ns (manyL p) = Ws at *
  apply DL.s_cut (fun ρ => ∃ y5 y6, ρ = [Sl.dat p.D, .dat (.list (intsD Ns)), .dat (.int (manyL p : Int)), .dat (bestD p Ws), .dat (wayD (foldL p Ws).1), y5, y6])
  · apply DL.s_for (I := fun i ρ => ∃ y5 y6, ρ = [Sl.dat p.D, .dat (.list (intsD Ns)), .dat (.int (manyL p : Int)), .dat (bestD p (Ws.take i)), .dat (wayD (foldL p (Ws.take i)).1), y5, y6])
    · refine DL.i_cmb (b := true) (k := manyL p) (ds := intsD Ns) (ws := waysN (List.range Ns.length) (manyL p)) (DL.EvD.vk (k := true) (DL.d_var rfl)) (DL.d_var rfl) (by rw [intsD_len]; exact C) hk (by rw [intsD_len]; omega)
    · exact ⟨_, _, rfl⟩
    · rintro i d ρ hd ⟨y5, y6, rfl⟩
      refine ⟨_, DL.g_name, ?_⟩
      rw [eC] at hd
      obtain ⟨w, hw, rfl⟩ := map_get hd
      have hwl := lW w (List.mem_of_getElem? hw)
      have kne : keptN (markedN p) w ≠ [] := keptN_ne (marked_nodup p) (by omega)
      have fr := foldL_fr0 ok (Ws.take i)
      have frh := hereP_fr ok w
      have nnh := hereP_nn ok w
      have k8 := kept_len ok w
      rw [List.take_add_one, hw]
      show EvS _ _ [Sl.dat p.D, .dat (.list (intsD Ns)), .dat (.int (manyL p : Int)), .dat (bestD p (Ws.take i)), .dat (wayD (foldL p (Ws.take i)).1), .dat (.tuple (intsD w)), y6] _
      rw [Option.toList_some, bestD_snoc, foldL_snoc]
      apply DL.s_seq (ρ1 := [Sl.dat p.D, .dat (.list (intsD Ns)), .dat (.int (manyL p : Int)), .dat (bestD p (Ws.take i)), .dat (wayD (foldL p (Ws.take i)).1), .dat (.tuple (intsD w)), .dat (shD (hereP p (markedN p) w))])
      · apply DL.s_asg (d := shD (hereP p (markedN p) w))
        · have e : hereP p (markedN p) w = meanP ((keptN (markedN p) w).map fun i => p.tasks.getD i noT) := by
            unfold hereP
            rw [if_neg kne]
            rfl
          rw [e]
          apply c_mean (k := true) (p := p) (is := keptN (markedN p) w)
          · exact DL.d_var rfl
          · refine DL.EvL.dt (c__without (ns := markedN p) (w := w) ?_ (DL.d_var rfl) (by omega))
            rw [hNs]
            exact DL.d_var rfl
          · exact ⟨ok, fun i hi => markedN_lo (List.mem_filter.mp hi).1, kne, k8⟩
        · exact DL.g_name
        · exact rfl
      have eS : stepL p (markedN p) (foldL p (Ws.take i)) w = if (foldL p (Ws.take i)).2.1 * (hereP p (markedN p) w).2 < (hereP p (markedN p) w).1 * (foldL p (Ws.take i)).2.2 then (w, hereP p (markedN p) w) else foldL p (Ws.take i) := rfl
      have better : ∀ b : Bool, b = decide ((foldL p (Ws.take i)).2.1 * (hereP p (markedN p) w).2 < (hereP p (markedN p) w).1 * (foldL p (Ws.take i)).2.2) → b = true →
          stepL p (markedN p) (foldL p (Ws.take i)) w = (w, hereP p (markedN p) w) := fun b e hb => by
        rw [eS, if_pos (of_decide_eq_true (by rw [← e]; exact hb))]
      cases hW0 : Ws.take i with
      | nil =>
        have b0 : decide ((foldL p (Ws.take i)).2.1 * (hereP p (markedN p) w).2 < (hereP p (markedN p) w).1 * (foldL p (Ws.take i)).2.2) = true := by
          rw [hW0]
          show decide ((-1 : Int) * (hereP p (markedN p) w).2 < (hereP p (markedN p) w).1 * 1) = true
          have := frh.1
          exact decide_eq_true (by omega)
        have e2 := better _ rfl b0
        rw [hW0] at e2
        rw [e2]
        show EvS _ _ [Sl.dat p.D, .dat (.list (intsD Ns)), .dat (.int (manyL p : Int)), .dat .none, .dat (wayD (foldL p []).1), .dat (.tuple (intsD w)), .dat (shD (hereP p (markedN p) w))] _
        apply DL.s_if (b := true || true)
        · refine DL.t_or ?_ fun h => by cases h
          exact DL.t_T (DL.d_op (DL.d_var rfl) DL.d_non DL.r_isN)
        · intro _
          apply DL.s_seq (ρ1 := [Sl.dat p.D, .dat (.list (intsD Ns)), .dat (.int (manyL p : Int)), .dat (shD (hereP p (markedN p) w)), .dat (wayD (foldL p []).1), .dat (.tuple (intsD w)), .dat (shD (hereP p (markedN p) w))])
          · apply DL.s_asg
            · exact DL.d_var rfl
            · exact DL.g_name
            · exact rfl
          · apply DL.s_asg
            · exact DL.d_var rfl
            · exact DL.g_name
            · exact ⟨_, _, rfl⟩
        · intro h; cases h
      | cons w0 r0 =>
        rw [← hW0]
        have eb : bestD p (Ws.take i) = shD (foldL p (Ws.take i)).2 := by rw [hW0]; rfl
        rw [eb, eS]
        generalize foldL p (Ws.take i) = st at *
        obtain ⟨best, most⟩ := st
        dsimp only at *
        generalize hereP p (markedN p) w = here at *
        apply DL.s_if (b := false || decide (most.1 * here.2 < here.1 * most.2))
        · refine DL.t_or ?_ fun _ => ?_
          · exact DL.t_T (DL.d_op (x := shD most) (DL.d_var rfl) DL.d_non DL.r_isN)
          · refine DL.t_bl ?_
            exact c_less (p := most) (q := here) (DL.d_var rfl) (DL.d_var rfl) ⟨FrN.up fr (by decide), FrN.up frh (by decide)⟩
        · intro hb
          rw [Bool.false_or] at hb
          rw [if_pos (of_decide_eq_true hb)]
          apply DL.s_seq (ρ1 := [Sl.dat p.D, .dat (.list (intsD Ns)), .dat (.int (manyL p : Int)), .dat (shD here), .dat (wayD best), .dat (.tuple (intsD w)), .dat (shD here)])
          · apply DL.s_asg
            · exact DL.d_var rfl
            · exact DL.g_name
            · exact rfl
          · apply DL.s_asg
            · exact DL.d_var rfl
            · exact DL.g_name
            · exact ⟨_, _, rfl⟩
        · intro hb
          rw [Bool.false_or] at hb
          rw [if_neg (of_decide_eq_false hb)]
          apply DL.s_next
          exact ⟨_, _, rfl⟩
    · rintro ρ ⟨y5, y6, rfl⟩
      refine ⟨y5, y6, ?_⟩
      have e : (List.map (fun w => PyData.tuple (pickD (intsD Ns) w)) (waysN (List.range Ns.length) (manyL p))).length = Ws.length := by
        rw [eC, List.length_map]
      rw [e, List.take_length]
  rintro ρ ⟨y5, y6, rfl⟩
  apply DL.s_ret
  · exact DL.d_var rfl
  · show _ = wayD (leftP p)
    unfold leftP
    rw [eW]

abbrev s_left_out : Stmt := topS 13
theorem sc_left_out : FnScope ["part", "marked"] ["part"] (defScope s_left_out) := ⟨rfl, rfl, rfl, by decide +kernel, rfl, by decide +kernel, by decide +kernel⟩
theorem ok_left_out (At : DefAt K mg "left_out" "left_out" s_left_out ["part"]) (G__marked : Fn1 P w K mg base 3 "_marked" ["part"] (sp__marked K)) (G__best_way : Fn1 P w K mg base 5 "_best_way" ["part", "marked", "many"] (sp__best_way K)) (m_min : mg "min" = none) (m_len : mg "len" = none) : Fn1 P w K mg base 6 "left_out" ["part"] (sp_left_out K) := by
  have nd := sc_left_out.nd
  refine At.D sc_left_out (fun _ => rfl) (fun f cdv A outer s H E hr => ⟨_, (pss_cons (ps_asg (pe_fn G__marked (hr.mono (by decide)) (by rfl) (pa_cons (pv 0) pa_nil)) (pg_name (i := 1) nd rfl (by first | exact Or.inl rfl | exact Or.inr rfl)))
      (pss_cons (ps_if (pt_not (pt_truK (K := K) rfl (pv 1))) (pss_one (ps_ret (pe_tup pa_nil))) pss_nil)
      (pss_one (ps_ret (pe_fn G__best_way (hr.mono (by decide)) (by rfl) (pa_cons (pv 0) (pa_cons (pv 1) (pa_cons (pe_callB (c_min2 rfl) (by rfl) m_min (by decide +kernel) (pa_cons (pe_ix (ix_U : IxR _ (rIxU K)) (pv 0) pe_int (fun _ _ => rfl)) (pa_cons (pe_op op_sub (pe_callB (c_len : CallR _ _ (DL.rLen K)) (by rfl) m_len PySem.boot_len (pa_cons (pv 1) pa_nil)) pe_int) pa_nil))) pa_nil)))))))), fun a ha => ?_⟩)
  try dsimp only [cxOf]
  show EvS (Z0 K) _ [Sl.dat _, Sl.any] _
  rename Part => p
  have ok : p.Ok := ha
  have htl := ok.tl
  have hml := markedN_len p
  have o0 := ok.o0
  have o1 := ok.o1
  show EvS _ _ [Sl.dat p.D, .any] _
  generalize hNs : intsD ((markedN p).map Int.ofNat) = Ns
  have lNs : Ns.length = (markedN p).length := by rw [← hNs, intsD_len, List.length_map]
  apply DL.s_seq (ρ1 := [Sl.dat p.D, .dat (.list Ns)])
  · apply DL.s_asg (d := .list Ns)
    · rw [← hNs]
      apply DL.EvL.dt
      apply c__marked (p := p)
      · exact DL.d_var rfl
      · exact ok
    · exact DL.g_name
    · exact rfl
  apply DL.s_ifRet (b := !(!Ns.isEmpty))
  · refine DL.t_not (DL.t_tru (d := .list Ns) (DL.d_var rfl) DL.TruD.lst)
  · intro hb
    have he : markedN p = [] := by
      rw [Bool.not_not] at hb
      have : Ns = [] := List.isEmpty_iff.mp hb
      rw [this] at lNs
      exact List.eq_nil_of_length_eq_zero lNs.symm
    apply DL.s_ret (d := .tuple [])
    · walk_at "ev"
    · rw [leftP_nil he]
      exact rfl
  intro hb
  have hne : markedN p ≠ [] := fun z => by
    rw [z] at lNs
    have : Ns = [] := List.eq_nil_of_length_eq_zero lNs
    rw [this] at hb
    cases hb
  have hpos : 0 < (markedN p).length := List.length_pos_iff.mpr hne
  apply DL.s_ret
  · apply c__best_way (p := p)
    · exact DL.d_var rfl
    · rw [hNs]
      exact DL.d_var rfl
    · refine DL.EvD.is (x := .int (min p.worst ((Ns.length : Int) - 1))) (by walk_at "ev") ?_
      show PyData.int _ = PyData.int _
      unfold manyL
      congr 1
      omega
    · exact ⟨ok, hne⟩
  · exact rfl

abbrev s_chosen : Stmt := topS 11
theorem sc_chosen : FnScope ["task", "given"] ["task"] (defScope s_chosen) := ⟨rfl, rfl, rfl, by decide +kernel, rfl, by decide +kernel, by decide +kernel⟩
theorem ok_chosen (At : DefAt K mg "chosen" "chosen" s_chosen ["task"]) (G_gives : Fn1 P w K mg base 1 "gives" ["task"] (sp_gives K)) (m_max : mg "max" = none) : Fn1 P w K mg base 2 "chosen" ["task"] (sp_chosen K) := by
  have nd := sc_chosen.nd
  refine At.D sc_chosen (fun _ => rfl) (fun f cdv A outer s H E hr => ⟨_, (pss_cons (ps_asg (pe_fn G_gives (hr.mono (by decide)) (by rfl) (pa_cons (pv 0) pa_nil)) (pg_name (i := 1) nd rfl (by first | exact Or.inl rfl | exact Or.inr rfl)))
      (pss_cons (ps_if (pt_not (pt_truK (K := K) rfl (pv 1))) (pss_one (ps_ret pe_non)) pss_nil)
      (pss_one (ps_ret (pe_bm PySem.F.plainAttrs_list PySem.F.slot_list_index PySem.F.type_list_index mt_index (pv 1) (pa_cons (pe_callB (c_max1 rfl : CallR _ _ (rMax K)) (by rfl) m_max (by decide +kernel) (pa_cons (pv 1) pa_nil)) pa_nil)))))), fun a ha => ?_⟩)
  try dsimp only [cxOf]
  show EvS (Z0 K) _ [Sl.dat _, Sl.any] _
  rename Task => t
  apply DL.s_seq
  · apply DL.s_asg
    · apply DL.EvL.dt
      apply c_gives
      · walk_at "ev"
      · exact ha
    · exact DL.g_name
    · exact rfl
  cases hm : maxI (givesP t) with
  | none =>
    have e : givesP t = [] := by
      cases h : givesP t with
      | nil => rfl
      | cons n r => rw [h] at hm; cases hm
    apply DL.s_ifRet
    · walk_at "ev"
    · intro _
      apply DL.s_ret
      · walk_at "ev"
      · show _ = chosenP t
        unfold chosenP
        rw [hm]
    · intro h
      rw [e] at h
      cases h
  | some m =>
    have hmem := maxI_mem hm
    apply DL.s_ifRet
    · walk_at "ev"
    · intro h
      cases h2 : givesP t with
      | nil => rw [h2] at hmem; cases hmem
      | cons n r => rw [h2] at h; cases h
    · intro _
      apply DL.s_ret
      · apply DL.d_index
        · walk_at "ev"
        · apply DL.d_max1
          · walk_at "ev"
          · exact hm
        · exact hmem
      · show _ = chosenP t
        unfold chosenP
        rw [hm]

abbrev s__row : Stmt := topS 22
theorem sc__row : FnScope ["task", "is_left", "points"] ["task", "is_left"] (defScope s__row) := ⟨rfl, rfl, rfl, by decide +kernel, rfl, by decide +kernel, by decide +kernel⟩
theorem ok__row (At : DefAt K mg "_row" "_row" s__row ["task", "is_left"]) (G_mark : Fn1 P w K mg base 2 "mark" ["task"] (sp_mark K)) (G_chosen : Fn1 P w K mg base 2 "chosen" ["task"] (sp_chosen K)) : Fn1 P w K mg base 3 "_row" ["task", "is_left"] (sp__row K) := by
  have nd := sc__row.nd
  refine At.D sc__row (fun _ => rfl) (fun f cdv A outer s H E hr => ⟨_, (pss_cons (ps_asg (pe_fn G_mark (hr.mono (by decide)) (by rfl) (pa_cons (pv 0) pa_nil)) (pg_name (i := 2) nd rfl (by first | exact Or.inl rfl | exact Or.inr rfl)))
      (pss_cons (ps_if (pt_cmpR op_isU (pv 2) pe_non (nomark _)) (pss_one (ps_ret (pe_tup (pa_cons pe_str (pa_cons pe_non (pa_cons pe_non pa_nil)))))) pss_nil)
      (pss_one (ps_ret (pe_tup (pa_cons (pe_ifExp (pt_truK (K := K) rfl (pv 1)) pe_str pe_str) (pa_cons (pv 2) (pa_cons (pe_fn G_chosen (hr.mono (by decide)) (by rfl) (pa_cons (pv 0) pa_nil)) pa_nil)))))))), fun a ha => ?_⟩)
  try dsimp only [cxOf]
  show EvS (Z0 K) _ [Sl.dat _, Sl.dat _, Sl.any] _
  obtain ⟨t, b⟩ := a
  have ok : t.Ok := ha
  show EvS _ _ [Sl.dat t.D, .dat (.bool b), .any] (toD (lineD t b))
  apply DL.s_seq (ρ1 := [Sl.dat t.D, .dat (.bool b), .dat (optD (maxI (givesP t)))])
  · exact DL.s_asg (c_mark (t := t) (DL.d_var rfl) ok) DL.g_name rfl
  cases hm : maxI (givesP t) with
  | none =>
    apply DL.s_ifRet (b := true)
    · exact DL.t_T (DL.d_op (DL.d_var (d := .none) rfl) DL.d_non DL.r_isN)
    · intro _
      apply DL.s_ret (d := .tuple [.str "open", .none, .none])
      · exact DL.d_tup (DL.ea_cons DL.d_str (DL.ea_cons DL.d_non (DL.ea_cons DL.d_non DL.ea_nil))) (by show 3 ≤ 100000; decide)
      · show _ = lineD t b
        unfold lineD
        rw [hm]
    · intro h; cases h
  | some m =>
    apply DL.s_ifRet (b := false)
    · exact DL.t_T (DL.d_op (DL.d_var (d := .int m) rfl) DL.d_non DL.r_isN)
    · intro h; cases h
    intro _
    apply DL.s_ret (d := lineD t b)
    · unfold lineD
      rw [hm]
      refine DL.d_tup (DL.ea_cons ?_ (DL.ea_cons (DL.d_var rfl) (DL.ea_cons ?_ DL.ea_nil))) (by show 3 ≤ 100000; decide)
      · refine DL.EvD.is (DL.d_if (b := b) (x := .str "left out") (y := .str "kept") (DL.t_bl (DL.d_var rfl)) (fun _ => DL.d_str) (fun _ => DL.d_str)) ?_
        cases b <;> rfl
      · have h := c_chosen (Z := Z0 K) (E := E0) (ρ := [Sl.dat t.D, .dat (.bool b), .dat (.int m)]) (t := t) (DL.d_var (i := 0) rfl) ok
        unfold chosenP at h
        rw [hm] at h
        exact h
    · exact rfl

abbrev s_part_share : Stmt := topS 15
theorem sc_part_share : FnScope ["part", "marked", "top", "extras", "kept", "whole"] ["part"] (defScope s_part_share) := ⟨rfl, rfl, rfl, by decide +kernel, rfl, by decide +kernel, by decide +kernel⟩
theorem ok_part_share (At : DefAt K mg "part_share" "part_share" s_part_share ["part"]) (G__marked : Fn1 P w K mg base 3 "_marked" ["part"] (sp__marked K)) (G_mean : Fn1 P w K mg base 4 "mean" ["part", "numbers"] (sp_mean K)) (G_plus : Fn1 P w K mg base 2 "plus" ["one", "other"] (sp_plus K)) (G__without : Fn1 P w K mg base 1 "_without" ["numbers", "left"] (sp__without K)) (G_share : Fn1 P w K mg base 1 "share" ["top", "bottom"] (sp_share K)) (G_less : Fn1 P w K mg base 1 "less" ["one", "other"] (sp_less K)) (G_left_out : Fn1 P w K mg base 6 "left_out" ["part"] (sp_left_out K)) (m_min : mg "min" = none) (m_sum : mg "sum" = none) : Fn1 P w K mg base 7 "part_share" ["part"] (sp_part_share K) := by
  have nd := sc_part_share.nd
  refine At.D sc_part_share (fun _ => rfl) (fun f cdv A outer s H E hr => ⟨_, (pss_cons (ps_asg (pe_fn G__marked (hr.mono (by decide)) (by rfl) (pa_cons (pv 0) pa_nil)) (pg_name (i := 1) nd rfl (by first | exact Or.inl rfl | exact Or.inr rfl)))
      (pss_cons (ps_if (pt_not (pt_truK (K := K) rfl (pv 1))) (pss_one (ps_ret pe_non)) pss_nil)
      (pss_cons (ps_par (i := 2) (j := 3) (by rfl) nd rfl rfl (by decide) rfl rfl (pa_cons (pe_ix (ix_U : IxR _ (rIxU K)) (pv 0) pe_int (fun _ _ => rfl)) (pa_cons (pe_ix (ix_U : IxR _ (rIxU K)) (pv 0) pe_int (fun _ _ => rfl)) pa_nil)) (by rfl))
      (pss_cons (ps_asg (pe_fn G_mean (hr.mono (by decide)) (by rfl) (pa_cons (pv 0) (pa_cons (pe_fn G__without (hr.mono (by decide)) (by rfl) (pa_cons (pv 1) (pa_cons (pe_fn G_left_out (hr.mono (by decide)) (by rfl) (pa_cons (pv 0) pa_nil)) pa_nil))) pa_nil))) (pg_name (i := 4) nd rfl (by first | exact Or.inl rfl | exact Or.inr rfl)))
      (pss_cons (ps_asg (pe_fn G_plus (hr.mono (by decide)) (by rfl) (pa_cons (pv 4) (pa_cons (pe_fn G_share (hr.mono (by decide)) (by rfl) (pa_cons (pe_callB (c_min2 rfl) (by rfl) m_min (by decide +kernel) (pa_cons (pe_callB (c_sumU rfl : CallR _ _ (rSumU K)) (by rfl) m_sum (by decide +kernel) (pa_cons (pv 3) pa_nil)) (pa_cons (pv 2) pa_nil))) (pa_cons pe_int pa_nil))) pa_nil))) (pg_name (i := 5) nd rfl (by first | exact Or.inl rfl | exact Or.inr rfl)))
      (pss_one (ps_ret (pe_ifExp (pt_truK (K := K) rfl (pe_fn G_less (hr.mono (by decide)) (by rfl) (pa_cons (pe_tup (pa_cons pe_int (pa_cons pe_int pa_nil))) (pa_cons (pv 5) pa_nil)))) (pe_tup (pa_cons pe_int (pa_cons pe_int pa_nil))) (pv 5))))))))), fun a ha => ?_⟩)
  try dsimp only [cxOf]
  show EvS (Z0 K) _ [Sl.dat _, Sl.any, Sl.any, Sl.any, Sl.any, Sl.any] _
  rename Part => p
  have ok : p.Ok := ha
  have htl := ok.tl
  have hml := markedN_len p
  show EvS _ _ [Sl.dat p.D, .any, .any, .any, .any, .any] _
  generalize hNs : intsD ((markedN p).map Int.ofNat) = Ns
  have lNs : Ns.length = (markedN p).length := by rw [← hNs, intsD_len, List.length_map]
  apply DL.s_seq (ρ1 := [Sl.dat p.D, .dat (.list Ns), .any, .any, .any, .any])
  · apply DL.s_asg (d := .list Ns)
    · rw [← hNs]
      apply DL.EvL.dt
      apply c__marked (p := p)
      · exact DL.d_var rfl
      · exact ok
    · exact DL.g_name
    · exact rfl
  apply DL.s_ifRet (b := !(!Ns.isEmpty))
  · refine DL.t_not (DL.t_tru (d := .list Ns) (DL.d_var rfl) DL.TruD.lst)
  · intro hb
    have he : markedN p = [] := by
      rw [Bool.not_not] at hb
      have : Ns = [] := List.isEmpty_iff.mp hb
      rw [this] at lNs
      exact List.eq_nil_of_length_eq_zero lNs.symm
    apply DL.s_ret DL.d_non
    show _ = optS (pshareP p)
    unfold pshareP
    rw [if_pos (keptP_nil he)]
    rfl
  intro hb
  have hmne : markedN p ≠ [] := fun z => by
    rw [z] at lNs
    have : Ns = [] := List.eq_nil_of_length_eq_zero lNs
    rw [this] at hb
    cases hb
  have hne := keptP_ne hmne
  have fr := meanK_fr ok hne
  have k8 := kept_len ok (leftP p)
  have ex := extra_lo2 ok
  apply DL.s_seq (ρ1 := [Sl.dat p.D, .dat (.list Ns), .dat (.int p.top), .dat (.tuple (intsD p.extras)), .any, .any])
  · apply DL.s_par (x := .int p.top) (y := .tuple (intsD p.extras))
    · refine DL.ea_cons ?_ (DL.ea_cons ?_ DL.ea_nil)
      · walk_at "ev"
      · apply DL.d_ixC (k := false) (ds := [.int p.w, .int p.worst, .int p.top, .tuple (tasksD p.tasks), .tuple (intsD p.extras)])
        · exact DL.EvD.vk (k := false) (DL.d_var rfl)
        · decide
        · exact rfl
    · exact rfl
  apply DL.s_seq (ρ1 := [Sl.dat p.D, .dat (.list Ns), .dat (.int p.top), .dat (.tuple (intsD p.extras)), .dat (shD (meanK p)), .any])
  · apply DL.s_asg (d := shD (meanK p))
    · apply c_mean (k := true) (p := p) (is := keptP p)
      · exact DL.d_var rfl
      · refine DL.EvL.dt (c__without (ns := markedN p) (w := leftP p) ?_ (c_left_out (p := p) (DL.d_var rfl) ok) (by omega))
        rw [hNs]
        exact DL.d_var rfl
      · exact ⟨ok, fun i hi => markedN_lo (List.mem_filter.mp hi).1, hne, k8⟩
    · exact DL.g_name
    · exact rfl
  have eW := wholeP_eq (p := p) fr.1
  have hb0 : 0 < 1000 * (meanK p).2 := Int.mul_pos (by decide) fr.1
  have fx : FrN 20 (lowP (min p.extras.sum p.top) 1000) := by
    have e20 : (2 : Nat) ^ 20 = 1048576 := by decide
    exact lowP_small (by decide) (by omega) (by decide)
  have eP : pshareP p = if 1000 * (meanK p).2 < topK p then some (1, 1) else some (lowP (topK p) (1000 * (meanK p).2)) := if_neg hne
  have fw : FrN 4000 (wholeP p) := by
    have h1 := stepG_top (q := meanK p) (h := lowP (min p.extras.sum p.top) 1000) (w := 1) fr (FrN.up fx (by decide)) (by decide) (by decide)
    rw [Int.one_mul] at h1
    exact FrN.up (n := 840) (lowP_small h1.2.2 h1.1 h1.2.1) (by decide)
  have eL := whole_less (t := topK p) hb0
  rw [← eW] at eL eP
  apply DL.s_seq (ρ1 := [Sl.dat p.D, .dat (.list Ns), .dat (.int p.top), .dat (.tuple (intsD p.extras)), .dat (shD (meanK p)), .dat (shD (wholeP p))])
  · apply DL.s_asg (d := shD (wholeP p))
    · apply c_plus (p := meanK p) (q := lowP (min p.extras.sum p.top) 1000)
      · exact DL.d_var rfl
      · apply c_share (t := min p.extras.sum p.top) (b := 1000)
        · apply DL.d_min2
          · exact DL.d_sum (k := false) (DL.EvD.vk (k := false) (ds := intsD p.extras) (DL.d_var rfl))
          · exact DL.d_var rfl
        · exact DL.d_int
        · exact ⟨by decide, Nat.lt_of_lt_of_le (show (1000 : Int).natAbs < 2 ^ 10 by decide) (Nat.pow_le_pow_right (by decide) (by decide))⟩
      · exact ⟨FrN.up fr (by decide), FrN.up fx (by decide)⟩
    · exact DL.g_name
    · exact rfl
  apply DL.s_ret
  · apply DL.d_if (b := decide ((1 : Int) * (wholeP p).2 < (wholeP p).1 * 1)) (x := shD (1, 1)) (y := shD (wholeP p))
    · refine DL.t_bl ?_
      apply c_less (p := (1, 1)) (q := wholeP p)
      · show EvD _ _ _ (.tuple [.int 1, .int 1])
        walk_at "ev"
      · exact DL.d_var rfl
      · exact ⟨FrN.up (n := 1) ⟨by decide, by decide, by decide⟩ (by decide), fw⟩
    · intro _
      show EvD _ _ _ (.tuple [.int 1, .int 1])
      walk_at "ev"
    · intro _
      exact DL.d_var rfl
  · show _ = optS (pshareP p)
    rw [eP, eL]
    by_cases h : 1000 * (meanK p).2 < topK p
    · rw [if_pos h, if_pos (decide_eq_true h)]
      rfl
    · rw [if_neg h, if_neg (by rw [decide_eq_false h]; exact Bool.false_ne_true)]
      rfl

abbrev s__part_tale : Stmt := topS 21
theorem sc__part_tale : FnScope ["part", "left", "rows", "number", "task"] ["part"] (defScope s__part_tale) := ⟨rfl, rfl, rfl, by decide +kernel, rfl, by decide +kernel, by decide +kernel⟩
theorem ok__part_tale (At : DefAt K mg "_part_tale" "_part_tale" s__part_tale ["part"]) (G_left_out : Fn1 P w K mg base 6 "left_out" ["part"] (sp_left_out K)) (G__row : Fn1 P w K mg base 3 "_row" ["task", "is_left"] (sp__row K)) (G_part_share : Fn1 P w K mg base 7 "part_share" ["part"] (sp_part_share K)) (m_enumerate : mg "enumerate" = none) : Fn1 P w K mg base 8 "_part_tale" ["part"] (sp__part_tale K) := by
  have nd := sc__part_tale.nd
  refine At.R sc__part_tale (fun _ => rfl) (fun f cdv A outer s H E hr => ⟨_, (pss_cons (ps_asg (pe_fn G_left_out (hr.mono (by decide)) (by rfl) (pa_cons (pv 0) pa_nil)) (pg_name (i := 1) nd rfl (by first | exact Or.inl rfl | exact Or.inr rfl)))
      (pss_cons (ps_setLc (i := 2) (own := [("number", 3), ("task", 4)]) (g := gTup K 2 (gCons (gName 3) (gCons (gName 4) gNil))) (tt := tYes) (by rfl) nd rfl rfl (sw_true rfl rfl rfl (by decide +kernel)) (pi_enT (by rfl) m_enumerate (pa_cons (pe_ix (ix_U : IxR _ (rIxU K)) (pv 0) pe_int (fun _ _ => rfl)) pa_nil)) (blkOk_by (own := [("number", 3), ("task", 4)]) (N := ["part", "left", "rows", "number", "task"]) (sc := defScope s__part_tale) (by decide +kernel)) (fun _ _ _ _ _ => (pg_tup (by rfl) (pgs_cons (pg_name (i := 3) nd rfl (by first | exact Or.inl rfl | exact Or.inr rfl)) (pgs_cons (pg_name (i := 4) nd rfl (by first | exact Or.inl rfl | exact Or.inr rfl)) pgs_nil)))) (fun _ _ _ _ _ => pts_nil) (fun _ _ _ _ _ => (pe_fn G__row (hr.mono (by decide)) (by rfl) (pa_cons (pv 4) (pa_cons (pe_cmpR (op_in_seq : OpR _ _ (rIn K false)) (pv 3) (pv 1) (by rfl)) pa_nil)))))
      (pss_one (ps_ret (pe_tup (pa_cons (pe_fn G_part_share (hr.mono (by decide)) (by rfl) (pa_cons (pv 0) pa_nil)) (pa_cons (pv 1) (pa_cons (pv 2) pa_nil)))))))), fun a ha => ?_⟩)
  try dsimp only [cxOf]
  show EvR K _ [Sl.dat _, Sl.any, Sl.any, Sl.any, Sl.any] _
  rename Part => p
  have ok : p.Ok := ha
  have htl := ok.tl
  have hln : (tasksD p.tasks).length = p.tasks.length := by unfold tasksD; rw [List.length_map]
  have hk : keptD (enumD (tasksD p.tasks)) (fun _ => true) (rowV p) = linesD p := by
    unfold keptD enumD linesD
    rw [List.filter_eq_self.mpr (fun _ _ => rfl), List.map_map, hln]
    refine List.map_congr_left fun i _ => ?_
    show lineD (p.tasks.getD (i : Int).toNat noT) _ = _
    rw [Int.toNat_natCast]
  show EvR K _ [Sl.dat p.D, .any, .any, .any, .any] (.tuple [optS (pshareP p), .tuple (intsD (leftP p)), .list (linesD p)])
  refine DL.ev_row (i := 1) (j := 2) (d1 := .tuple (intsD (leftP p))) (d3 := optS (pshareP p)) (ds := linesD p) (by decide) (by show 1 < 5; decide) (by show 2 < 5; decide) (c_left_out (p := p) (DL.d_var rfl) ok) ?_ (c_part_share (p := p) (DL.d_var rfl) ok) (by rw [linesD_len]; omega)
  show EvL _ _ [Sl.dat p.D, .dat (.tuple (intsD (leftP p))), .any, .any, .any] _
  rw [← hk]
  refine DL.l_lc (fun _ => true) (rowV p) (DL.i_enT (ds := tasksD p.tasks) ?_) (by rw [enumD_len, hln]; omega) ?_
  · apply DL.d_ixC (k := false) (ds := [.int p.w, .int p.worst, .int p.top, .tuple (tasksD p.tasks), .tuple (intsD p.extras)])
    · exact DL.EvD.vk (k := false) (DL.d_var rfl)
    · decide
    · exact rfl
  · intro i d hd
    obtain ⟨x, hx, rfl⟩ := enumD_get hd
    obtain ⟨t, ht, rfl⟩ := map_get hx
    have et : p.tasks.getD i noT = t := by rw [List.getD_eq_getElem?_getD, ht]; rfl
    have hto : t.Ok := ok.ts _ (List.mem_of_getElem? ht)
    refine ⟨_, DL.gw_tup2 (by decide), DL.t_yes, fun _ => ?_⟩
    have e : rowV p (.tuple [.int (i : Int), t.D]) = lineD t (decide ((i : Int) ∈ leftP p)) := by
      show lineD (p.tasks.getD (i : Int).toNat noT) _ = _
      rw [Int.toNat_natCast, et]
    rw [e]
    refine c__row (t := t) (b := decide ((i : Int) ∈ leftP p)) (DL.d_var rfl) ?_ hto
    exact DL.d_inI (k := false) (neg := false) (ns := leftP p) (DL.d_var rfl) (DL.EvD.vk (k := false) (ds := intsD (leftP p)) (DL.d_var rfl))

abbrev s_tale : Stmt := topS 20
theorem sc_tale : FnScope ["course", "part"] ["course"] (defScope s_tale) := ⟨rfl, rfl, rfl, by decide +kernel, rfl, by decide +kernel, by decide +kernel⟩
theorem ok_tale (At : DefAt K mg "tale" "tale" s_tale ["course"]) (G__part_tale : Fn1 P w K mg base 8 "_part_tale" ["part"] (sp__part_tale K)) : Fn1 P w K mg base 9 "tale" ["course"] (sp_tale K) := by
  have nd := sc_tale.nd
  refine At.LR sc_tale (fun _ => rfl) (fun f cdv A outer s H E hr => ⟨_, (pss_one (ps_ret (pe_lc (own := [("part", 1)]) (g := gName 1) (tt := tYes) (by rfl) nd (pi_U (pv 0)) (blkOk_by (own := [("part", 1)]) (N := ["course", "part"]) (sc := defScope s_tale) (by decide +kernel)) (fun _ _ _ _ _ => (pg_name (i := 1) nd rfl (by first | exact Or.inl rfl | exact Or.inr rfl))) (fun _ _ _ _ _ => pts_nil) (fun _ _ _ _ _ => (pe_fn G__part_tale (hr.mono (by decide)) (by rfl) (pa_cons (pv 1) pa_nil)))))), fun a ha => ?_⟩)
  try dsimp only [cxOf]
  show EvLR K _ [Sl.dat _, Sl.any] _
  obtain ⟨k, ps⟩ := a
  obtain ⟨ok, hl⟩ := ha
  dsimp only at ok hl
  show EvLR K _ [Sl.dat (sqD k (ps.map Part.D)), .any] (taleD ps)
  refine DL.ev_rows (ds := ps.map Part.D) (by unfold taleD; rw [List.length_map, List.length_map]) (DL.i_seq (k := k) (DL.d_var rfl)) (by rw [List.length_map]; omega) ?_
  intro i d hd
  obtain ⟨p, hp, rfl⟩ := map_get hd
  refine ⟨_, ptaleD p, by unfold taleD; rw [List.getElem?_map, hp]; rfl, DL.gw_name, ?_⟩
  exact DL.r_call p (DL.ea_cons (DL.d_var rfl) DL.ea_nil) (ok p (List.mem_of_getElem? hp))

abbrev s_l_mark : Stmt := topS 30
theorem sc_l_mark : FnScope ["_law_task", "_law_best", "_law_k", "_law_points"] ["_law_task"] (defScope s_l_mark) := ⟨rfl, rfl, rfl, by decide +kernel, rfl, by decide +kernel, by decide +kernel⟩
theorem ok_l_mark (At : DefAt K mg "_law_mark" "_law_mark" s_l_mark ["_law_task"]) (m_range : mg "range" = none) (m_len : mg "len" = none) : Fn1 P w K mg base 1 "_law_mark" ["_law_task"] (sp_l_mark K) := by
  have nd := sc_l_mark.nd
  refine At.D sc_l_mark (fun _ => rfl) (fun f cdv A outer s H E hr => ⟨_, (pss_cons (ps_asg pe_non (pg_name (i := 1) nd rfl (by first | exact Or.inl rfl | exact Or.inr rfl)))
      (pss_cons (ps_for PassesOwn.never rfl (pi_range1 (by rfl) m_range (pa_cons (pe_callB (c_len : CallR _ _ (DL.rLen K)) (by rfl) m_len PySem.boot_len (pa_cons (pe_ix (ix_U : IxR _ (rIxU K)) (pv 0) pe_int (fun _ _ => rfl)) pa_nil)) pa_nil)) (pg_name (i := 2) nd rfl (by first | exact Or.inl rfl | exact Or.inr rfl)) (pss_cons (ps_asg (pe_ix (ix_U : IxR _ (rIxU K)) (pe_ix (ix_U : IxR _ (rIxU K)) (pv 0) pe_int (fun _ _ => rfl)) (pv 2) (fun _ _ => rfl)) (pg_name (i := 3) nd rfl (by first | exact Or.inl rfl | exact Or.inr rfl)))
      (pss_cons (ps_if (PW.pt (pw_and (pt_cmpR op_gt (pv 2) pe_int (nomark _)) (pw_and1 (pt_cmpR op_gt (pv 3) (pe_ix (ix_U : IxR _ (rIxU K)) (pv 0) pe_int (fun _ _ => rfl)) (nomark _))))) (pss_one (ps_asg (pe_ix (ix_U : IxR _ (rIxU K)) (pv 0) pe_int (fun _ _ => rfl)) (pg_name (i := 3) nd rfl (by first | exact Or.inl rfl | exact Or.inr rfl)))) pss_nil)
      (pss_one (ps_if (PW.pt (pw_or (pt_cmpR op_isU (pv 1) pe_non (nomark _)) (pw_or1 (pt_cmpR op_gt (pv 3) (pv 1) (nomark _))))) (pss_one (ps_asg (pv 3) (pg_name (i := 1) nd rfl (by first | exact Or.inl rfl | exact Or.inr rfl)))) pss_nil)))))
      (pss_one (ps_ret (pv 1))))), fun a ha => ?_⟩)
  try dsimp only [cxOf]
  show EvS (Z0 K) _ [Sl.dat _, Sl.any, Sl.any, Sl.any] _
  rename Task => t
  have hl := ha.l
  apply DL.s_seq
  · apply DL.s_asg
    · walk_at "ev"
    · exact DL.g_name
    · exact rfl
  refine DL.s_cut (fun ρ => ∃ y z, ρ = [Sl.dat t.D, Sl.dat (optD (maxI (givesP t))), y, z]) ?_ ?_
  · apply DL.s_for (I := fun i ρ => ∃ y z, ρ = [Sl.dat t.D, Sl.dat (optD (maxI ((List.range i).map (gAt t)))), y, z])
    · apply DL.i_rng1
      · walk_at "ev"
      · rw [intsD_len]; omega
    · exact ⟨_, _, rfl⟩
    · rintro i d ρ hd ⟨y, z, rfl⟩
      obtain ⟨hi, rfl⟩ := rangeD_get hd
      refine ⟨_, DL.g_name, ?_⟩
      simp only [Int.zero_add]
      rw [intsD_len] at hi
      have hi2 : i < t.tries.length := by omega
      apply DL.s_seq
      · apply DL.s_asg
        · walk_at "ev"
        · exact DL.g_name
        · exact rfl
      apply DL.s_ifAsg (x := .int (gAt t i))
      · walk_at "ev"
      · intro hb
        have hb2 := Bool.and_eq_true_iff.mp hb
        have h1 : (0 : Int) < (i : Int) := of_decide_eq_true hb2.1
        have h2 : t.cap < t.tries.getD (i : Int).toNat 0 := of_decide_eq_true hb2.2
        apply DL.EvD.is
        · walk_at "ev"
        · show PyData.int _ = PyData.int _
          unfold gAt
          rw [if_neg (by omega)]
          exact congrArg _ (Int.min_eq_right (Int.le_of_lt h2)).symm
      · intro hb
        have e : gAt t i = t.tries.getD (i : Int).toNat 0 := by
          unfold gAt
          by_cases h : i = 0
          · rw [if_pos h]; rfl
          · rw [if_neg h]
            have h1 : decide ((0 : Int) < (i : Int)) = true := decide_eq_true (by omega)
            rw [h1] at hb
            have h2 : ¬ t.cap < t.tries.getD (i : Int).toNat 0 := of_decide_eq_false hb
            exact Int.min_eq_left (Int.not_lt.mp h2)
        rw [e]
        rfl
      have es := maxI_snoc ((List.range i).map (gAt t)) (gAt t i)
      have er : (List.range (i + 1)).map (gAt t) = (List.range i).map (gAt t) ++ [gAt t i] := by rw [List.range_succ, List.map_append]; rfl
      cases hm : maxI ((List.range i).map (gAt t)) with
      | none =>
        rw [hm] at es
        dsimp only [optD]
        refine DL.s_if (DL.EvT.is (a := true || false) (DL.t_or (by walk_at "ev") (fun h => by cases h)) rfl) ?_ ?_
        · intro _
          apply DL.s_asg
          · walk_at "ev"
          · exact DL.g_name
          · refine ⟨Sl.dat (.int (i : Int)), Sl.dat (.int (gAt t i)), ?_⟩
            rw [er, es]
            rfl
        · intro h
          cases h
      | some m =>
        rw [hm] at es
        dsimp only [optD]
        apply DL.s_if
        · walk_at "ev"
        · intro hb
          have h2 : m < gAt t i := of_decide_eq_true hb
          apply DL.s_asg
          · walk_at "ev"
          · exact DL.g_name
          · refine ⟨Sl.dat (.int (i : Int)), Sl.dat (.int (gAt t i)), ?_⟩
            rw [er, es]
            show _ = [_, Sl.dat (.int (max m (gAt t i))), _, _]
            rw [Int.max_eq_right (Int.le_of_lt h2)]
            rfl
        · intro hb
          have h2 : ¬ m < gAt t i := of_decide_eq_false hb
          apply DL.s_next
          refine ⟨Sl.dat (.int (i : Int)), Sl.dat (.int (gAt t i)), ?_⟩
          rw [er, es]
          show _ = [_, Sl.dat (.int (max m (gAt t i))), _, _]
          rw [Int.max_eq_left (Int.not_lt.mp h2)]
          rfl
    · rintro ρ ⟨y, z, rfl⟩
      refine ⟨y, z, ?_⟩
      rw [rangeD_len, intsD_len]
      rfl
  · rintro ρ ⟨y, z, rfl⟩
    apply DL.s_ret
    · walk_at "ev"
    · exact rfl

abbrev s_l_row : Stmt := topS 31
theorem sc_l_row : FnScope ["_law_task", "_law_is_left", "_law_points", "_law_word", "_law_k"] ["_law_task", "_law_is_left"] (defScope s_l_row) := ⟨rfl, rfl, rfl, by decide +kernel, rfl, by decide +kernel, by decide +kernel⟩
theorem ok_l_row (At : DefAt K mg "_law_row" "_law_row" s_l_row ["_law_task", "_law_is_left"]) (G_l_mark : Fn1 P w K mg base 1 "_law_mark" ["_law_task"] (sp_l_mark K)) (m_range : mg "range" = none) (m_int : mg "int" = none) (m_len : mg "len" = none) : Fn1 P w K mg base 2 "_law_row" ["_law_task", "_law_is_left"] (sp_l_row K) := by
  have nd := sc_l_row.nd
  refine At.D sc_l_row (fun _ => rfl) (fun f cdv A outer s H E hr => ⟨_, (pss_cons (ps_asg (pe_fn G_l_mark (hr.mono (by decide)) (by rfl) (pa_cons (pv 0) pa_nil)) (pg_name (i := 2) nd rfl (by first | exact Or.inl rfl | exact Or.inr rfl)))
      (pss_cons (ps_if (pt_cmpR op_isU (pv 2) pe_non (nomark _)) (pss_one (ps_ret (pe_tup (pa_cons pe_str (pa_cons pe_non (pa_cons pe_non pa_nil)))))) pss_nil)
      (pss_cons (ps_asg (pe_ix (ix_U : IxR _ (rIxU K)) (pe_lst (pa_cons pe_str (pa_cons pe_str pa_nil))) (pe_callTy c_int (by rfl) m_int (by decide +kernel) (pa_cons (pv 1) pa_nil)) (fun _ _ => rfl)) (pg_name (i := 3) nd rfl (by first | exact Or.inl rfl | exact Or.inr rfl)))
      (pss_cons (ps_for PassesOwn.never rfl (pi_range1 (by rfl) m_range (pa_cons (pe_callB (c_len : CallR _ _ (DL.rLen K)) (by rfl) m_len PySem.boot_len (pa_cons (pe_ix (ix_U : IxR _ (rIxU K)) (pv 0) pe_int (fun _ _ => rfl)) pa_nil)) pa_nil)) (pg_name (i := 4) nd rfl (by first | exact Or.inl rfl | exact Or.inr rfl)) (pss_one (ps_if (PW.pt (pw_or (pt_cmpR (op_eqD hr.units : OpR _ _ (rEqD K)) (pe_ix (ix_U : IxR _ (rIxU K)) (pe_ix (ix_U : IxR _ (rIxU K)) (pv 0) pe_int (fun _ _ => rfl)) (pv 4) (fun _ _ => rfl)) (pv 2) (nomark _)) (pw_or1 (PW.pt (pw_and (pt_cmpR op_gt (pv 4) pe_int (nomark _)) (pw_and (pt_cmpR (op_eqD hr.units : OpR _ _ (rEqD K)) (pv 2) (pe_ix (ix_U : IxR _ (rIxU K)) (pv 0) pe_int (fun _ _ => rfl)) (nomark _)) (pw_and1 (pt_cmpR op_gt (pe_ix (ix_U : IxR _ (rIxU K)) (pe_ix (ix_U : IxR _ (rIxU K)) (pv 0) pe_int (fun _ _ => rfl)) (pv 4) (fun _ _ => rfl)) (pv 2) (nomark _))))))))) (pss_one (ps_ret (pe_tup (pa_cons (pv 3) (pa_cons (pv 2) (pa_cons (pv 4) pa_nil)))))) pss_nil)))
      (pss_one (ps_ret pe_non)))))), fun a ha => ?_⟩)
  try dsimp only [cxOf]
  show EvS (Z0 K) _ [Sl.dat _, Sl.dat _, Sl.any, Sl.any, Sl.any] _
  obtain ⟨t, b⟩ := a
  have ok : t.Ok := ha
  have hl := ok.l
  show EvS _ _ [Sl.dat t.D, .dat (.bool b), .any, .any, .any] (toD (lineD t b))
  apply DL.s_seq (ρ1 := [Sl.dat t.D, .dat (.bool b), .dat (optD (maxI (givesP t))), .any, .any])
  · exact DL.s_asg (c_l_mark (t := t) (DL.d_var rfl) ok) DL.g_name rfl
  cases hm : maxI (givesP t) with
  | none =>
    apply DL.s_ifRet (b := true)
    · exact DL.t_T (DL.d_op (DL.d_var (d := .none) rfl) DL.d_non DL.r_isN)
    · intro _
      apply DL.s_ret (d := .tuple [.str "open", .none, .none])
      · exact DL.d_tup (DL.ea_cons DL.d_str (DL.ea_cons DL.d_non (DL.ea_cons DL.d_non DL.ea_nil))) (by show 3 ≤ 100000; decide)
      · show _ = lineD t b
        unfold lineD
        rw [hm]
    · intro h; cases h
  | some m =>
    have hmem := maxI_mem hm
    apply DL.s_ifRet (b := false)
    · exact DL.t_T (DL.d_op (DL.d_var (d := .int m) rfl) DL.d_non DL.r_isN)
    · intro h; cases h
    intro _
    apply DL.s_seq (ρ1 := [Sl.dat t.D, .dat (.bool b), .dat (.int m), .dat (.str (if b = true then "left out" else "kept")), .any])
    · apply DL.s_asg (d := .str (if b = true then "left out" else "kept"))
      · refine DL.d_ix (k := true) (i := if b = true then 1 else 0) (ds := [.str "kept", .str "left out"]) (DL.EvL.v (DL.l_lst (DL.ea_cons DL.d_str (DL.ea_cons DL.d_str DL.ea_nil)) (by show 2 ≤ 100000; decide))) (DL.d_intB (DL.d_var rfl)) (by cases b <;> decide) ?_
        cases b <;> rfl
      · exact DL.g_name
      · exact rfl
    have g3 : ∀ {ρ : List Sl}, ρ[0]? = some (.dat t.D) → EvD (Z0 K) (tOp (rIxU K) (tVar 0) (tC (.int 3))) ρ (.tuple (intsD t.tries)) := fun h => DL.d_ixC (k := false) (ds := [.int t.w, .int t.most, .int t.cap, .tuple (intsD t.tries)]) (DL.EvD.vk (k := false) (DL.d_var h)) (by decide) rfl
    apply DL.s_cut (fun _ => False)
    · apply DL.s_for (I := fun i ρ => (∃ y, ρ = [Sl.dat t.D, .dat (.bool b), .dat (.int m), .dat (.str (if b = true then "left out" else "kept")), y]) ∧ ∀ j, j < i → gAt t j ≠ m)
      · refine DL.i_rng1 (n := ((intsD t.tries).length : Nat)) (DL.ea_cons (DL.d_len (k := false) (DL.EvD.vk (k := false) (g3 rfl))) DL.ea_nil) ?_
        rw [intsD_len]; omega
      · exact ⟨⟨_, rfl⟩, fun j hj => absurd hj (Nat.not_lt_zero j)⟩
      · rintro i d ρ hd ⟨⟨y, rfl⟩, hn⟩
        obtain ⟨hi, rfl⟩ := rangeD_get hd
        refine ⟨_, DL.g_name, ?_⟩
        simp only [Int.zero_add]
        rw [intsD_len] at hi
        have hi2 : i < t.tries.length := by omega
        show EvS _ _ [Sl.dat t.D, .dat (.bool b), .dat (.int m), .dat (.str (if b = true then "left out" else "kept")), .dat (.int (i : Int))] _
        have gx : EvD (Z0 K) (tOp (rIxU K) (tOp (rIxU K) (tVar 0) (tC (.int 3))) (tVar 4)) [Sl.dat t.D, .dat (.bool b), .dat (.int m), .dat (.str (if b = true then "left out" else "kept")), .dat (.int (i : Int))] (.int (t.tries.getD i 0)) := by
          refine DL.d_ix (k := false) (i := (i : Int)) (ds := intsD t.tries) (DL.EvD.vk (k := false) (g3 rfl)) (DL.d_var rfl) (by omega) ?_
          rw [Int.toNat_natCast]
          exact intsD_get hi2
        apply DL.s_if (b := decide (gAt t i = m))
        · rw [← row_hit hmem hn]
          refine DL.t_or (DL.t_T (DL.d_op gx (DL.d_var rfl) DL.r_eqI)) fun _ => DL.t_and (DL.t_T (DL.d_op (DL.d_var rfl) DL.d_int DL.r_gt)) fun _ => DL.t_and (DL.t_T (DL.d_op (DL.d_var rfl) ?_ DL.r_eqI)) fun _ => DL.t_T (DL.d_op gx (DL.d_var rfl) DL.r_gt)
          exact DL.d_ixC (k := false) (ds := [.int t.w, .int t.most, .int t.cap, .tuple (intsD t.tries)]) (DL.EvD.vk (k := false) (DL.d_var rfl)) (by decide) rfl
        · intro hb
          have hg := of_decide_eq_true hb
          apply DL.s_ret (d := .tuple [.str (if b = true then "left out" else "kept"), .int m, .int (i : Int)])
          · exact DL.d_tup (DL.ea_cons (DL.d_var rfl) (DL.ea_cons (DL.d_var rfl) (DL.ea_cons (DL.d_var rfl) DL.ea_nil))) (by show 3 ≤ 100000; decide)
          · show _ = lineD t b
            unfold lineD
            rw [hm]
            have hx : (givesP t).idxOf m = i := idx_first (by rw [gives_get hi2, hg]) fun j hj z => by
              rw [gives_get (by omega)] at z
              exact hn j hj (Option.some.inj z)
            show _ = PyData.tuple [_, _, .int ((givesP t).idxOf m : Nat)]
            rw [hx]
        · intro hb
          have hg := of_decide_eq_false hb
          apply DL.s_next
          refine ⟨⟨_, rfl⟩, fun j hj => ?_⟩
          by_cases e : j = i
          · rw [e]; exact hg
          · exact hn j (by omega)
      · rintro ρ ⟨_, hn⟩
        obtain ⟨j, hj, e⟩ := gives_mem hmem
        rw [rangeD_len, intsD_len] at hn
        exact hn j (by omega) e
    · intro ρ z; exact z.elim

abbrev s_l_whole : Stmt := topS 26
theorem sc_l_whole : FnScope ["_law_found"] ["_law_found"] (defScope s_l_whole) := ⟨rfl, rfl, rfl, by decide +kernel, rfl, by decide +kernel, by decide +kernel⟩
theorem ok_l_whole (At : DefAt K mg "_law_whole" "_law_whole" s_l_whole ["_law_found"]) (m_isinstance : mg "isinstance" = none) (m_int : mg "int" = none) (m_bool : mg "bool" = none) : Fn1 P w K mg base 1 "_law_whole" ["_law_found"] (sp_l_whole K) := by
  have nd := sc_l_whole.nd
  refine At.D sc_l_whole (fun _ => rfl) (fun f cdv A outer s H E hr => ⟨_, (pss_one (ps_ret (pe_and (pe_callB (call_isi : CallR _ _ (rIsi K)) (by rfl) m_isinstance (by decide +kernel) (pa_cons (pv 0) (pa_cons (pe_bltn (v := .ty "int") (u := .type "int") (by rfl) m_int (by decide +kernel) rfl) pa_nil))) (pe_one (pe_not (pe_callB (call_isi : CallR _ _ (rIsi K)) (by rfl) m_isinstance (by decide +kernel) (pa_cons (pv 0) (pa_cons (pe_bltn (v := .ty "bool") (u := .type "bool") (by rfl) m_bool (by decide +kernel) rfl) pa_nil)))))))), fun a ha => ?_⟩)
  try dsimp only [cxOf]
  show EvS (Z0 K) _ [Sl.dat _] _
  apply DL.s_ret
  · walk_at "ev"
  · exact rfl

abbrev s_l_kinds : Stmt := topS 32
theorem sc_l_kinds : FnScope ["_law_row_here", "_law_thing"] ["_law_row_here"] (defScope s_l_kinds) := ⟨rfl, rfl, rfl, by decide +kernel, rfl, by decide +kernel, by decide +kernel⟩
theorem ok_l_kinds (At : DefAt K mg "_law_kinds" "_law_kinds" s_l_kinds ["_law_row_here"]) (G_l_whole : Fn1 P w K mg base 1 "_law_whole" ["_law_found"] (sp_l_whole K)) (m_isinstance : mg "isinstance" = none) (m_tuple : mg "tuple" = none) (m_len : mg "len" = none) (m_str : mg "str" = none) : Fn1 P w K mg base 2 "_law_kinds" ["_law_row_here"] (sp_l_kinds K) := by
  have nd := sc_l_kinds.nd
  refine At.D sc_l_kinds (fun _ => rfl) (fun f cdv A outer s H E hr => ⟨_, (pss_cons (ps_if (PW.pt (pw_or (pt_not (pt_truK (K := K) rfl (pe_callB (call_isi : CallR _ _ (rIsi K)) (by rfl) m_isinstance (by decide +kernel) (pa_cons (pv 0) (pa_cons (pe_bltn (v := .ty "tuple") (u := .type "tuple") (by rfl) m_tuple (by decide +kernel) rfl) pa_nil))))) (pw_or (pt_cmpR (op_neD hr.units : OpR _ _ (rNeD K)) (pe_callB (c_len : CallR _ _ (DL.rLen K)) (by rfl) m_len PySem.boot_len (pa_cons (pv 0) pa_nil)) pe_int (nomark _)) (pw_or1 (pt_not (pt_truK (K := K) rfl (pe_callB (call_isi : CallR _ _ (rIsi K)) (by rfl) m_isinstance (by decide +kernel) (pa_cons (pe_ix (ix_U : IxR _ (rIxU K)) (pv 0) pe_int (fun _ _ => rfl)) (pa_cons (pe_bltn (v := .ty "str") (u := .type "str") (by rfl) m_str (by decide +kernel) rfl) pa_nil))))))))) (pss_one (ps_ret pe_bl)) pss_nil)
      (pss_cons (ps_for PassesOwn.never rfl (pi_U (pe_slice (sl_U : SlR _ (rSlU K)) (pv 0) (po_some pe_int) po_none)) (pg_name (i := 1) nd rfl (by first | exact Or.inl rfl | exact Or.inr rfl)) (pss_one (ps_if (PW.pt (pw_and (pt_cmpR op_notU (pv 1) pe_non (nomark _)) (pw_and1 (pt_not (pt_truK (K := K) rfl (pe_fn G_l_whole (hr.mono (by decide)) (by rfl) (pa_cons (pv 1) pa_nil))))))) (pss_one (ps_ret pe_bl)) pss_nil)))
      (pss_one (ps_ret pe_bl)))), fun a ha => ?_⟩)
  try dsimp only [cxOf]
  show EvS (Z0 K) _ [Sl.dat _, Sl.any] _
  obtain ⟨t, b⟩ := a
  obtain ⟨w, x, y, e, px, py⟩ := line_is t b
  show EvS _ _ [Sl.dat (lineD t b), .any] (toD (.bool true))
  rw [e]
  apply DL.s_ifRet (b := !true || (!decide ((3 : Int) = 3) || !true))
  · refine DL.t_or (DL.t_not (DL.t_bl (DL.d_isi (d := .tuple [.str w, x, y]) (T := "tuple") (DL.d_var rfl) rfl))) fun _ => DL.t_or ?_ fun _ => DL.t_not (DL.t_bl (DL.d_isi (d := .str w) (T := "str") (DL.d_ixC (k := false) (ds := [.str w, x, y]) (DL.EvD.vk (k := false) (DL.d_var rfl)) (by decide) rfl) rfl))
    exact DL.t_T (DL.d_op (x := .int 3) (DL.d_len (k := false) (ds := [.str w, x, y]) (DL.EvD.vk (k := false) (DL.d_var rfl))) DL.d_int DL.r_neI)
  · intro h; cases h
  intro _
  apply DL.s_cut (fun ρ => ∃ y', ρ = [Sl.dat (.tuple [.str w, x, y]), y'])
  · have e1 : DL.cutD [.str w, x, y] (some (1 : Int)) none = [x, y] := cutD_from _ 1
    apply DL.s_for (I := fun i ρ => ∃ y', ρ = [Sl.dat (.tuple [.str w, x, y]), y']) (ds := [x, y])
    · refine DL.i_seq (k := false) (DL.EvD.is (DL.d_slice (ds := [.str w, x, y]) (DL.d_var rfl) (DL.o_some DL.d_int) DL.o_none) ?_)
      exact congrArg PyData.tuple e1
    · exact ⟨_, rfl⟩
    · rintro i d ρ hd ⟨y', rfl⟩
      have hp : Plain d := by
        have hm := List.mem_of_getElem? hd
        simp only [List.mem_cons, List.not_mem_nil, or_false] at hm
        rcases hm with rfl | rfl
        · exact px
        · exact py
      refine ⟨_, DL.g_name, ?_⟩
      show EvS _ _ [Sl.dat (.tuple [.str w, x, y]), .dat d] _
      apply DL.s_if (b := false)
      · rcases hp with rfl | ⟨j, rfl⟩
        · exact DL.EvT.is (DL.t_and (a := !DL.isN .none) (b := true) (DL.t_T (DL.d_op (DL.d_var (d := .none) rfl) DL.d_non DL.r_notN)) fun h => by cases h) rfl
        · exact DL.EvT.is (DL.t_and (a := !DL.isN (.int j)) (b := !true) (DL.t_T (DL.d_op (DL.d_var (d := .int j) rfl) DL.d_non DL.r_notN)) fun _ => DL.t_not (DL.t_bl (c_l_whole (a := j) (DL.d_var rfl) trivial))) rfl
      · intro h; cases h
      · intro _
        apply DL.s_next
        exact ⟨_, rfl⟩
    · rintro ρ ⟨y', rfl⟩
      exact ⟨_, rfl⟩
  rintro ρ ⟨y', rfl⟩
  apply DL.s_ret DL.d_bl
  exact rfl

abbrev s_l_told : Stmt := topS 33
theorem sc_l_told : FnScope ["_law_found", "_law_course", "_law_k", "_law_left", "_law_tasks", "_law_rows", "_law_number", "_law_row_here"] ["_law_found", "_law_course"] (defScope s_l_told) := ⟨rfl, rfl, rfl, by decide +kernel, rfl, by decide +kernel, by decide +kernel⟩
theorem ok_l_told (At : DefAt K mg "_law_told" "_law_told" s_l_told ["_law_found", "_law_course"]) (G_left_out : Fn1 P w K mg base 6 "left_out" ["part"] (sp_left_out K)) (G_l_row : Fn1 P w K mg base 2 "_law_row" ["_law_task", "_law_is_left"] (sp_l_row K)) (G_part_share : Fn1 P w K mg base 7 "part_share" ["part"] (sp_part_share K)) (G_l_kinds : Fn1 P w K mg base 2 "_law_kinds" ["_law_row_here"] (sp_l_kinds K)) (m_range : mg "range" = none) (m_len : mg "len" = none) (m_isinstance : mg "isinstance" = none) (m_list : mg "list" = none) (m_tuple : mg "tuple" = none) : Fn1 P w K mg base 8 "_law_told" ["_law_found", "_law_course"] (sp_l_told K) := by
  have nd := sc_l_told.nd
  refine At.D sc_l_told (fun _ => rfl) (fun f cdv A outer s H E hr => ⟨_, (pss_cons (ps_if (PW.pt (pw_or (pt_not (pt_truK (K := K) rfl (pe_callB (call_isi : CallR _ _ (rIsi K)) (by rfl) m_isinstance (by decide +kernel) (pa_cons (pv 0) (pa_cons (pe_bltn (v := .ty "list") (u := .type "list") (by rfl) m_list (by decide +kernel) rfl) pa_nil))))) (pw_or1 (pt_cmpR (op_neD hr.units : OpR _ _ (rNeD K)) (pe_callB (c_len : CallR _ _ (DL.rLen K)) (by rfl) m_len PySem.boot_len (pa_cons (pv 0) pa_nil)) (pe_callB (c_len : CallR _ _ (DL.rLen K)) (by rfl) m_len PySem.boot_len (pa_cons (pv 1) pa_nil)) (nomark _))))) (pss_one (ps_ret pe_bl)) pss_nil)
      (pss_cons (ps_for PassesOwn.never rfl (pi_range1 (by rfl) m_range (pa_cons (pe_callB (c_len : CallR _ _ (DL.rLen K)) (by rfl) m_len PySem.boot_len (pa_cons (pv 1) pa_nil)) pa_nil)) (pg_name (i := 2) nd rfl (by first | exact Or.inl rfl | exact Or.inr rfl)) (pss_cons (ps_if (PW.pt (pw_or (pt_not (pt_truK (K := K) rfl (pe_callB (call_isi : CallR _ _ (rIsi K)) (by rfl) m_isinstance (by decide +kernel) (pa_cons (pe_ix (ix_U : IxR _ (rIxU K)) (pv 0) (pv 2) (fun _ _ => rfl)) (pa_cons (pe_bltn (v := .ty "tuple") (u := .type "tuple") (by rfl) m_tuple (by decide +kernel) rfl) pa_nil))))) (pw_or (pt_cmpR (op_neD hr.units : OpR _ _ (rNeD K)) (pe_callB (c_len : CallR _ _ (DL.rLen K)) (by rfl) m_len PySem.boot_len (pa_cons (pe_ix (ix_U : IxR _ (rIxU K)) (pv 0) (pv 2) (fun _ _ => rfl)) pa_nil)) pe_int (nomark _)) (pw_or1 (pt_not (pt_truK (K := K) rfl (pe_callB (call_isi : CallR _ _ (rIsi K)) (by rfl) m_isinstance (by decide +kernel) (pa_cons (pe_ix (ix_U : IxR _ (rIxU K)) (pe_ix (ix_U : IxR _ (rIxU K)) (pv 0) (pv 2) (fun _ _ => rfl)) pe_int (fun _ _ => rfl)) (pa_cons (pe_bltn (v := .ty "list") (u := .type "list") (by rfl) m_list (by decide +kernel) rfl) pa_nil))))))))) (pss_one (ps_ret pe_bl)) pss_nil)
      (pss_cons (ps_asg (pe_fn G_left_out (hr.mono (by decide)) (by rfl) (pa_cons (pe_ix (ix_U : IxR _ (rIxU K)) (pv 1) (pv 2) (fun _ _ => rfl)) pa_nil)) (pg_name (i := 3) nd rfl (by first | exact Or.inl rfl | exact Or.inr rfl)))
      (pss_cons (ps_asg (pe_ix (ix_U : IxR _ (rIxU K)) (pe_ix (ix_U : IxR _ (rIxU K)) (pv 1) (pv 2) (fun _ _ => rfl)) pe_int (fun _ _ => rfl)) (pg_name (i := 4) nd rfl (by first | exact Or.inl rfl | exact Or.inr rfl)))
      (pss_cons (ps_if (pt_cmpR (op_neD hr.units : OpR _ _ (rNeD K)) (pe_lc (own := [("_law_row_here", 7)]) (g := gName 7) (by rfl) nd (pi_U (pe_ix (ix_U : IxR _ (rIxU K)) (pe_ix (ix_U : IxR _ (rIxU K)) (pv 0) (pv 2) (fun _ _ => rfl)) pe_int (fun _ _ => rfl))) (blkOk_by (own := [("_law_row_here", 7)]) (N := ["_law_found", "_law_course", "_law_k", "_law_left", "_law_tasks", "_law_rows", "_law_number", "_law_row_here"]) (sc := defScope s_l_told) (by decide +kernel)) (fun _ _ _ _ _ => (pg_name (i := 7) nd rfl (by first | exact Or.inl rfl | exact Or.inr rfl))) (fun _ _ _ _ _ => (pts_one (pt_not (pt_truK (K := K) rfl (pe_fn G_l_kinds (hr.mono (by decide)) (by rfl) (pa_cons (pv 7) pa_nil)))))) (fun _ _ _ _ _ => (pv 7))) (pe_lst pa_nil) (nomark _)) (pss_one (ps_ret pe_bl)) pss_nil)
      (pss_cons (ps_setLc (i := 5) (own := [("_law_number", 6)]) (g := gName 6) (tt := tYes) (by rfl) nd rfl rfl (sw_true rfl rfl rfl (by decide +kernel)) (pi_range1 (by rfl) m_range (pa_cons (pe_callB (c_len : CallR _ _ (DL.rLen K)) (by rfl) m_len PySem.boot_len (pa_cons (pv 4) pa_nil)) pa_nil)) (blkOk_by (own := [("_law_number", 6)]) (N := ["_law_found", "_law_course", "_law_k", "_law_left", "_law_tasks", "_law_rows", "_law_number", "_law_row_here"]) (sc := defScope s_l_told) (by decide +kernel)) (fun _ _ _ _ _ => (pg_name (i := 6) nd rfl (by first | exact Or.inl rfl | exact Or.inr rfl))) (fun _ _ _ _ _ => pts_nil) (fun _ _ _ _ _ => (pe_fn G_l_row (hr.mono (by decide)) (by rfl) (pa_cons (pe_ix (ix_U : IxR _ (rIxU K)) (pv 4) (pv 6) (fun _ _ => rfl)) (pa_cons (pe_cmpR (op_in_seq : OpR _ _ (rIn K false)) (pv 6) (pv 3) (by rfl)) pa_nil)))))
      (pss_one (ps_if (PW.pt (pw_or (pt_cmpR (op_neD hr.units : OpR _ _ (rNeD K)) (pe_ix (ix_U : IxR _ (rIxU K)) (pv 0) (pv 2) (fun _ _ => rfl)) (pe_tup (pa_cons (pe_fn G_part_share (hr.mono (by decide)) (by rfl) (pa_cons (pe_ix (ix_U : IxR _ (rIxU K)) (pv 1) (pv 2) (fun _ _ => rfl)) pa_nil)) (pa_cons (pv 3) (pa_cons (pv 5) pa_nil)))) (nomark _)) (pw_or1 (pt_not (pt_truK (K := K) rfl (pe_callB (call_isi : CallR _ _ (rIsi K)) (by rfl) m_isinstance (by decide +kernel) (pa_cons (pe_ix (ix_U : IxR _ (rIxU K)) (pe_ix (ix_U : IxR _ (rIxU K)) (pv 0) (pv 2) (fun _ _ => rfl)) pe_int (fun _ _ => rfl)) (pa_cons (pe_bltn (v := .ty "tuple") (u := .type "tuple") (by rfl) m_tuple (by decide +kernel) rfl) pa_nil)))))))) (pss_one (ps_ret pe_bl)) pss_nil))))))))
      (pss_one (ps_ret pe_bl)))), fun a ha => ?_⟩)
  try dsimp only [cxOf]
  show EvS (Z0 K) _ [Sl.dat _, Sl.dat _, Sl.any, Sl.any, Sl.any, Sl.any, Sl.any, Sl.any] _
  rename List Part => ps
  obtain ⟨ok, hl⟩ := ha
  have lT : (taleD ps).length = ps.length := by unfold taleD; rw [List.length_map]
  have lC : (ps.map Part.D).length = ps.length := List.length_map ..
  show EvS _ _ [Sl.dat (.list (taleD ps)), .dat (.list (ps.map Part.D)), .any, .any, .any, .any, .any, .any] (toD (.bool true))
  have ln : ∀ {ρ : List Sl} {i : Nat} {ds : List PyData}, ρ[i]? = some (.dat (.list ds)) → EvD (Z0 K) (tCB (DL.rLen K) (tCons (tVar i) tNil)) ρ (.int (ds.length : Nat)) := fun h => DL.d_len (k := true) (DL.EvD.vk (k := true) (DL.d_var h))
  apply DL.s_ifRet (b := !true || !decide (((taleD ps).length : Int) = ((ps.map Part.D).length : Int)))
  · exact DL.t_or (DL.t_not (DL.t_bl (DL.d_isi (d := .list (taleD ps)) (T := "list") (DL.d_var rfl) rfl))) fun _ => DL.t_T (DL.d_op (ln rfl) (ln rfl) DL.r_neI)
  · intro h
    rw [lT, lC, decide_eq_true rfl] at h
    cases h
  intro _
  apply DL.s_cut (fun ρ => ∃ y1 y2 y3 y4 y5 y6, ρ = [Sl.dat (.list (taleD ps)), .dat (.list (ps.map Part.D)), y1, y2, y3, y4, y5, y6])
  · apply DL.s_for (I := fun _ ρ => ∃ y1 y2 y3 y4 y5 y6, ρ = [Sl.dat (.list (taleD ps)), .dat (.list (ps.map Part.D)), y1, y2, y3, y4, y5, y6])
    · exact DL.i_rng1 (n := ((ps.map Part.D).length : Nat)) (DL.ea_cons (ln rfl) DL.ea_nil) (by rw [lC]; omega)
    · exact ⟨_, _, _, _, _, _, rfl⟩
    · rintro i d ρ hd ⟨y1, y2, y3, y4, y5, y6, rfl⟩
      obtain ⟨hi, rfl⟩ := rangeD_get hd
      refine ⟨_, DL.g_name, ?_⟩
      simp only [Int.zero_add]
      rw [lC] at hi
      have hi2 : i < ps.length := by omega
      obtain ⟨p, hp⟩ : ∃ p, ps[i]? = some p := ⟨_, List.getElem?_eq_getElem hi2⟩
      have pok := ok p (List.mem_of_getElem? hp)
      have htl := pok.tl
      have hC : (ps.map Part.D)[((i : Int)).toNat]? = some p.D := by rw [Int.toNat_natCast, List.getElem?_map, hp]; rfl
      have hT : (taleD ps)[((i : Int)).toNat]? = some (ptaleD p) := by unfold taleD; rw [Int.toNat_natCast, List.getElem?_map, hp]; rfl
      show EvS _ _ [Sl.dat (.list (taleD ps)), .dat (.list (ps.map Part.D)), .dat (.int (i : Int)), y2, y3, y4, y5, y6] _
      have gF : ∀ {ρ : List Sl}, ρ[0]? = some (.dat (.list (taleD ps))) → ρ[2]? = some (.dat (.int (i : Int))) → EvD (Z0 K) (tOp (rIxU K) (tVar 0) (tVar 2)) ρ (ptaleD p) := fun h1 h2 => DL.d_ix (k := true) (i := (i : Int)) (ds := taleD ps) (DL.EvD.vk (k := true) (DL.d_var h1)) (DL.d_var h2) (by omega) hT
      have gC : ∀ {ρ : List Sl}, ρ[1]? = some (.dat (.list (ps.map Part.D))) → ρ[2]? = some (.dat (.int (i : Int))) → EvD (Z0 K) (tOp (rIxU K) (tVar 1) (tVar 2)) ρ p.D := fun h1 h2 => DL.d_ix (k := true) (i := (i : Int)) (ds := ps.map Part.D) (DL.EvD.vk (k := true) (DL.d_var h1)) (DL.d_var h2) (by omega) hC
      have gF2 : ∀ {ρ : List Sl}, ρ[0]? = some (.dat (.list (taleD ps))) → ρ[2]? = some (.dat (.int (i : Int))) → EvD (Z0 K) (tOp (rIxU K) (tOp (rIxU K) (tVar 0) (tVar 2)) (tC (.int 2))) ρ (.list (linesD p)) := fun h1 h2 => DL.d_ixC (k := false) (ds := [optS (pshareP p), .tuple (intsD (leftP p)), .list (linesD p)]) (DL.EvD.vk (k := false) (gF h1 h2)) (by decide) rfl
      apply DL.s_ifRet (b := !true || (!decide ((3 : Int) = 3) || !true))
      · refine DL.t_or (DL.t_not (DL.t_bl (DL.d_isi (d := ptaleD p) (T := "tuple") (gF rfl rfl) rfl))) fun _ => DL.t_or ?_ fun _ => DL.t_not (DL.t_bl (DL.d_isi (d := .list (linesD p)) (T := "list") (gF2 rfl rfl) rfl))
        exact DL.t_T (DL.d_op (x := .int 3) (DL.d_len (k := false) (ds := [optS (pshareP p), .tuple (intsD (leftP p)), .list (linesD p)]) (DL.EvD.vk (k := false) (gF rfl rfl))) DL.d_int DL.r_neI)
      · intro h; cases h
      intro _
      apply DL.s_seq (ρ1 := [Sl.dat (.list (taleD ps)), .dat (.list (ps.map Part.D)), .dat (.int (i : Int)), .dat (.tuple (intsD (leftP p))), y3, y4, y5, y6])
      · exact DL.s_asg (c_left_out (p := p) (gC rfl rfl) pok) DL.g_name rfl
      apply DL.s_seq (ρ1 := [Sl.dat (.list (taleD ps)), .dat (.list (ps.map Part.D)), .dat (.int (i : Int)), .dat (.tuple (intsD (leftP p))), .dat (.tuple (tasksD p.tasks)), y4, y5, y6])
      · exact DL.s_asg (DL.d_ixC (k := false) (ds := [.int p.w, .int p.worst, .int p.top, .tuple (tasksD p.tasks), .tuple (intsD p.extras)]) (DL.EvD.vk (k := false) (gC rfl rfl)) (by decide) rfl) DL.g_name rfl
      apply DL.s_ifRet (b := !decide (([] : List PyData) = []))
      · rw [← eqv_nil]
        refine DL.t_T (DL.d_op (x := .list []) (y := .list []) ?_ (DL.EvL.dt (DL.l_lst DL.ea_nil (by decide))) (DL.r_neD (sh_list []) (sh_list [])))
        rw [← keptD_none (linesD p) (fun d => d)]
        refine DL.EvL.dt (DL.l_lc _ _ (DL.i_seq (k := true) (gF2 rfl rfl)) (by rw [linesD_len]; omega) ?_)
        intro j d hd
        have hd2 : ∃ n, d = lineD (p.tasks.getD n noT) (decide ((n : Int) ∈ leftP p)) := by
          have hm := List.mem_of_getElem? hd
          unfold linesD at hm
          obtain ⟨n, _, e⟩ := List.mem_map.mp hm
          exact ⟨n, e.symm⟩
        obtain ⟨n, rfl⟩ := hd2
        refine ⟨_, DL.gw_name, ?_, fun h => by cases h⟩
        exact DL.EvT.is (DL.t_not (DL.t_bl (c_l_kinds (t := p.tasks.getD n noT) (b := decide ((n : Int) ∈ leftP p)) (DL.d_var rfl) trivial))) rfl
      · intro h; cases h
      intro _
      have hln : (tasksD p.tasks).length = p.tasks.length := by unfold tasksD; rw [List.length_map]
      apply DL.s_seq (ρ1 := [Sl.dat (.list (taleD ps)), .dat (.list (ps.map Part.D)), .dat (.int (i : Int)), .dat (.tuple (intsD (leftP p))), .dat (.tuple (tasksD p.tasks)), .dat (.list (linesD p)), y5, y6])
      · apply DL.s_asg (d := .list (linesD p))
        · rw [← lines_eq]
          refine DL.EvL.dt (DL.l_lc _ _ (by rw [← hln]; exact DL.i_rng1 (n := ((tasksD p.tasks).length : Nat)) (DL.ea_cons (DL.d_len (k := false) (DL.EvD.vk (k := false) (DL.d_var rfl))) DL.ea_nil) (by omega)) (by rw [rangeD_len]; omega) ?_)
          intro j d hd
          obtain ⟨hj, rfl⟩ := rangeD_get hd
          refine ⟨_, DL.gw_name, DL.t_yes, fun _ => ?_⟩
          show EvD _ _ _ (lineD (p.tasks.getD (0 + (j : Int)).toNat noT) (decide ((0 + (j : Int)) ∈ leftP p)))
          have hj2 : (0 + (j : Int)).toNat = j := by omega
          rw [hj2]
          refine c_l_row (t := p.tasks.getD j noT) (b := decide ((0 + (j : Int)) ∈ leftP p)) ?_ ?_ (tasks_ok pok hj)
          · apply DL.d_ix (k := false) (i := (0 + (j : Int))) (ds := tasksD p.tasks)
            · exact DL.EvD.vk (k := false) (DL.d_var rfl)
            · exact DL.d_var rfl
            · omega
            · rw [hj2]
              exact tasks_get hj
          · exact DL.d_inI (k := false) (neg := false) (ns := leftP p) (DL.d_var rfl) (DL.EvD.vk (k := false) (ds := intsD (leftP p)) (DL.d_var rfl))
        · exact DL.g_name
        · exact rfl
      have shp := (lay_ptale p).sh
      apply DL.s_if (b := !PyData.eqv (ptaleD p) (ptaleD p) || !true)
      · refine DL.t_or (DL.t_T (DL.d_op (x := ptaleD p) (y := ptaleD p) (gF rfl rfl) ?_ (DL.r_neD shp shp))) fun _ => DL.t_not (DL.t_bl (DL.d_isi (d := .tuple (intsD (leftP p))) (T := "tuple") (DL.d_ixC (k := false) (ds := [optS (pshareP p), .tuple (intsD (leftP p)), .list (linesD p)]) (DL.EvD.vk (k := false) (gF rfl rfl)) (by decide) rfl) rfl))
        exact DL.d_tup (DL.ea_cons (c_part_share (p := p) (gC rfl rfl) pok) (DL.ea_cons (DL.d_var rfl) (DL.ea_cons (DL.d_var rfl) DL.ea_nil))) (by show 3 ≤ 100000; decide)
      · intro h
        rw [eqv_ptale] at h
        cases h
      · intro _
        apply DL.s_next
        exact ⟨_, _, _, _, _, _, rfl⟩
    · rintro ρ ⟨y1, y2, y3, y4, y5, y6, rfl⟩
      exact ⟨_, _, _, _, _, _, rfl⟩
  rintro ρ ⟨y1, y2, y3, y4, y5, y6, rfl⟩
  apply DL.s_ret DL.d_bl
  exact rfl

abbrev s_law : Stmt := topS 34
theorem sc_law : FnScope ["_law_script", "_law_course", "_law_handed", "_law_found", "_law_row_here"] ["_law_script"] (defScope s_law) := ⟨rfl, rfl, rfl, by decide +kernel, rfl, by decide +kernel, by decide +kernel⟩
theorem ok_law (At : DefAt K mg "law" "law" s_law ["_law_script"]) (G_l_course_by : Fn1 P w K mg base 3 "_law_course_by" ["_law_script", "_law_first", "_law_most_tasks"] (sp_l_course_by K)) (G_tale : Fn1 P w K mg base 9 "tale" ["course"] (sp_tale K)) (G_l_told : Fn1 P w K mg base 8 "_law_told" ["_law_found", "_law_course"] (sp_l_told K)) (m_list : mg "list" = none) (m_tuple : mg "tuple" = none) : Fn1 P w K mg base 10 "law" ["_law_script"] (sp_law K) := by
  have nd := sc_law.nd
  refine At.D sc_law (fun _ => rfl) (fun f cdv A outer s H E hr => ⟨_, (pss_cons (ps_asg (pe_fn G_l_course_by (hr.mono (by decide)) (by rfl) (pa_cons (pv 0) (pa_cons pe_int (pa_cons pe_int pa_nil)))) (pg_name (i := 1) nd rfl (by first | exact Or.inl rfl | exact Or.inr rfl)))
      (pss_cons (ps_asg (pe_callTy (c_list : CallR _ _ (rLst K)) (by rfl) m_list (by decide +kernel) (pa_cons (pv 1) pa_nil)) (pg_name (i := 2) nd rfl (by first | exact Or.inl rfl | exact Or.inr rfl)))
      (pss_cons (ps_asg (pe_fn G_tale (hr.mono (by decide)) (by rfl) (pa_cons (pv 2) pa_nil)) (pg_name (i := 3) nd rfl (by first | exact Or.inl rfl | exact Or.inr rfl)))
      (pss_cons (ps_if (PW.pt (pw_or (pt_not (pt_truK (K := K) rfl (pe_fn G_l_told (hr.mono (by decide)) (by rfl) (pa_cons (pv 3) (pa_cons (pv 1) pa_nil))))) (pw_or1 (pt_cmpR (op_neD hr.units : OpR _ _ (rNeD K)) (pv 2) (pv 1) (nomark _))))) (pss_one (ps_ret pe_bl)) pss_nil)
      (pss_cons (ps_for PassesOwn.never rfl (pi_U (pv 3)) (pg_name (i := 4) nd rfl (by first | exact Or.inl rfl | exact Or.inr rfl)) (pss_one (ps_expr (pe_bm PySem.F.plainAttrs_list PySem.F.slot_list_append PySem.F.type_list_append mt_append (pe_ix (ix_U : IxR _ (rIxU K)) (pv 4) pe_int (fun _ _ => rfl)) (pa_cons (pe_tup (pa_cons pe_str (pa_cons pe_non (pa_cons pe_non pa_nil)))) pa_nil)))))
      (pss_cons (ps_expr (pe_bm PySem.F.plainAttrs_list PySem.F.slot_list_append PySem.F.type_list_append mt_append (pv 3) (pa_cons pe_non pa_nil)))
      (pss_cons (ps_expr (pe_bm0 PySem.F.plainAttrs_list PySem.F.slot_list_clear PySem.F.type_list_clear mt_clear (pv 2)))
      (pss_one (ps_ret (pe_fn G_l_told (hr.mono (by decide)) (by rfl) (pa_cons (pe_fn G_tale (hr.mono (by decide)) (by rfl) (pa_cons (pe_callTy (c_tuple : CallR _ _ (rTpl K)) (by rfl) m_tuple (by decide +kernel) (pa_cons (pv 1) pa_nil)) pa_nil)) (pa_cons (pv 1) pa_nil)))))))))))), fun a ha => ?_⟩)
  try dsimp only [cxOf]
  show EvS (Z0 K) _ [Sl.dat _, Sl.any, Sl.any, Sl.any, Sl.any] _
  rename List Int => ns
  have hl : ns.length ≤ 63 := ha
  have cl := courseBy_len ns 2 4
  have ok := courseBy_ok (ns := ns) (f := 2) (m := 4) (by decide) (by decide)
  show EvS _ _ [Sl.dat (.list (intsD ns)), .any, .any, .any, .any] _
  apply DL.s_seq (ρ1 := [Sl.dat (.list (intsD ns)), .dat (.list (courseD (courseBy ns 2 4))), .any, .any, .any])
  · exact DL.s_asg (DL.EvL.dt (c_l_course_by (ns := ns) (f := 2) (m := 4) (DL.d_var rfl) DL.d_int DL.d_int ⟨hl, by decide, by decide, by decide, by decide⟩)) DL.g_name rfl
  generalize courseBy ns 2 4 = ps at *
  have okl : (∀ p ∈ ps, p.Ok) ∧ ps.length ≤ 8 := ⟨ok, by omega⟩
  have shc : DL.sh (.list (courseD ps)) := (lay_parts (k := true) ps).sh
  refine DL.s_tale (i := 2) (j := 3) (k := 4) (ds := courseD ps) (es := taleD ps) (true, ps) ?_ (by decide) (by decide) (by decide) (by show 2 < 5; decide) (by show 3 < 5; decide) (by show 4 < 5; decide) ?_ rfl okl rfl (by unfold taleD; rw [List.length_map]; omega) ?_ ?_
  · intro x hx
    simp only [List.mem_cons, List.not_mem_nil, or_false] at hx
    rcases hx with rfl | rfl | rfl | rfl | rfl
    · exact .inr ⟨_, rfl⟩
    · exact .inr ⟨_, rfl⟩
    · exact .inl rfl
    · exact .inl rfl
    · exact .inl rfl
  · exact DL.l_list (k := true) (DL.EvD.vk (k := true) (ds := courseD ps) (DL.d_var rfl))
  · show EvT _ _ [Sl.dat (.list (intsD ns)), .dat (.list (courseD ps)), .dat (.list (courseD ps)), .dat (.list (taleD ps)), .any] _
    refine DL.EvT.is (DL.t_or (a := !true) (b := !PyData.eqv (.list (courseD ps)) (.list (courseD ps))) (DL.t_not (DL.t_bl (c_l_told (ps := ps) (DL.d_var rfl) (DL.d_var rfl) okl))) fun _ => DL.t_T (DL.d_op (x := .list (courseD ps)) (y := .list (courseD ps)) (DL.d_var rfl) (DL.d_var rfl) (DL.r_neD shc shc))) ?_
    rw [show PyData.eqv (.list (courseD ps)) (.list (courseD ps)) = true from eqv_parts (k := true) ps]
    rfl
  · show EvS _ _ [Sl.dat (.list (intsD ns)), .dat (.list (courseD ps)), .any, .any, .any] _
    apply DL.s_ret
    · refine c_l_told (ps := ps) (DL.EvL.dt (c_tale (k := false) (ps := ps) ?_ okl)) (DL.d_var rfl) okl
      exact DL.d_tuple (DL.EvD.vk (k := true) (ds := courseD ps) (DL.d_var rfl))
    · exact rfl
end
theorem all_mk {l : PySem.W.OpenLaw} {w : World} {K : PySem.W.Frag} {h : Heap} {mg : Str → Option Value} {fa : Addr} {f0 : Addr} {od0 an0 : Option Addr} {sl0 : Array (Option Value)} {oc0 kV0 dc0 pm0 cd0 ct0 : Value} {f1 : Addr} {od1 an1 : Option Addr} {sl1 : Array (Option Value)} {oc1 kV1 dc1 pm1 cd1 ct1 : Value} {f2 : Addr} {od2 an2 : Option Addr} {sl2 : Array (Option Value)} {oc2 kV2 dc2 pm2 cd2 ct2 : Value} {f3 : Addr} {od3 an3 : Option Addr} {sl3 : Array (Option Value)} {oc3 kV3 dc3 pm3 cd3 ct3 : Value} {f4 : Addr} {od4 an4 : Option Addr} {sl4 : Array (Option Value)} {oc4 kV4 dc4 pm4 cd4 ct4 : Value} {f5 : Addr} {od5 an5 : Option Addr} {sl5 : Array (Option Value)} {oc5 kV5 dc5 pm5 cd5 ct5 : Value} {f6 : Addr} {od6 an6 : Option Addr} {sl6 : Array (Option Value)} {oc6 kV6 dc6 pm6 cd6 ct6 : Value} {f7 : Addr} {od7 an7 : Option Addr} {sl7 : Array (Option Value)} {oc7 kV7 dc7 pm7 cd7 ct7 : Value} {f8 : Addr} {od8 an8 : Option Addr} {sl8 : Array (Option Value)} {oc8 kV8 dc8 pm8 cd8 ct8 : Value} {f9 : Addr} {od9 an9 : Option Addr} {sl9 : Array (Option Value)} {oc9 kV9 dc9 pm9 cd9 ct9 : Value} {f10 : Addr} {od10 an10 : Option Addr} {sl10 : Array (Option Value)} {oc10 kV10 dc10 pm10 cd10 ct10 : Value} {f11 : Addr} {od11 an11 : Option Addr} {sl11 : Array (Option Value)} {oc11 kV11 dc11 pm11 cd11 ct11 : Value} {f12 : Addr} {od12 an12 : Option Addr} {sl12 : Array (Option Value)} {oc12 kV12 dc12 pm12 cd12 ct12 : Value} {f13 : Addr} {od13 an13 : Option Addr} {sl13 : Array (Option Value)} {oc13 kV13 dc13 pm13 cd13 ct13 : Value} {f14 : Addr} {od14 an14 : Option Addr} {sl14 : Array (Option Value)} {oc14 kV14 dc14 pm14 cd14 ct14 : Value} {f15 : Addr} {od15 an15 : Option Addr} {sl15 : Array (Option Value)} {oc15 kV15 dc15 pm15 cd15 ct15 : Value} {f16 : Addr} {od16 an16 : Option Addr} {sl16 : Array (Option Value)} {oc16 kV16 dc16 pm16 cd16 ct16 : Value} {f17 : Addr} {od17 an17 : Option Addr} {sl17 : Array (Option Value)} {oc17 kV17 dc17 pm17 cd17 ct17 : Value} {f18 : Addr} {od18 an18 : Option Addr} {sl18 : Array (Option Value)} {oc18 kV18 dc18 pm18 cd18 ct18 : Value} {f19 : Addr} {od19 an19 : Option Addr} {sl19 : Array (Option Value)} {oc19 kV19 dc19 pm19 cd19 ct19 : Value} {f20 : Addr} {od20 an20 : Option Addr} {sl20 : Array (Option Value)} {oc20 kV20 dc20 pm20 cd20 ct20 : Value} {f21 : Addr} {od21 an21 : Option Addr} {sl21 : Array (Option Value)} {oc21 kV21 dc21 pm21 cd21 ct21 : Value} {f22 : Addr} {od22 an22 : Option Addr} {sl22 : Array (Option Value)} {oc22 kV22 dc22 pm22 cd22 ct22 : Value} {f23 : Addr} {od23 an23 : Option Addr} {sl23 : Array (Option Value)} {oc23 kV23 dc23 pm23 cd23 ct23 : Value} {f24 : Addr} {od24 an24 : Option Addr} {sl24 : Array (Option Value)} {oc24 kV24 dc24 pm24 cd24 ct24 : Value} {f25 : Addr} {od25 an25 : Option Addr} {sl25 : Array (Option Value)} {oc25 kV25 dc25 pm25 cd25 ct25 : Value} {f26 : Addr} {od26 an26 : Option Addr} {sl26 : Array (Option Value)} {oc26 kV26 dc26 pm26 cd26 ct26 : Value} {f27 : Addr} {od27 an27 : Option Addr} {sl27 : Array (Option Value)} {oc27 kV27 dc27 pm27 cd27 ct27 : Value}   (X : K.In h) (G : h.Ns mainGlobals mg) (hfa : mg "law" = some (.ref fa))
    (a0 : PySem.W.nsIn K mainGlobals "_law_cell_at" = some (some (.ref f0))) (l0 : K.lookup f0 = some ⟨oc0, od0, .func (PySem.W.fnOf "_law_cell_at" "_law_cell_at" (defArgs s_l_cell_at) (defBody s_l_cell_at) (defScope s_l_cell_at) .none kV0 dc0 pm0 an0 cd0 ct0), sl0⟩) (c0 : PySem.W.codeIn K cd0 "_law_cell_at" = true) (k0 : PySem.W.keepIn K (.ref f0) = true)
    (a1 : PySem.W.nsIn K mainGlobals "_law_stream" = some (some (.ref f1))) (l1 : K.lookup f1 = some ⟨oc1, od1, .func (PySem.W.fnOf "_law_stream" "_law_stream" (defArgs s_l_stream) (defBody s_l_stream) (defScope s_l_stream) .none kV1 dc1 pm1 an1 cd1 ct1), sl1⟩) (c1 : PySem.W.codeIn K cd1 "_law_stream" = true) (k1 : PySem.W.keepIn K (.ref f1) = true)
    (a2 : PySem.W.nsIn K mainGlobals "_law_task_by" = some (some (.ref f2))) (l2 : K.lookup f2 = some ⟨oc2, od2, .func (PySem.W.fnOf "_law_task_by" "_law_task_by" (defArgs s_l_task_by) (defBody s_l_task_by) (defScope s_l_task_by) .none kV2 dc2 pm2 an2 cd2 ct2), sl2⟩) (c2 : PySem.W.codeIn K cd2 "_law_task_by" = true) (k2 : PySem.W.keepIn K (.ref f2) = true)
    (a3 : PySem.W.nsIn K mainGlobals "_law_part_by" = some (some (.ref f3))) (l3 : K.lookup f3 = some ⟨oc3, od3, .func (PySem.W.fnOf "_law_part_by" "_law_part_by" (defArgs s_l_part_by) (defBody s_l_part_by) (defScope s_l_part_by) .none kV3 dc3 pm3 an3 cd3 ct3), sl3⟩) (c3 : PySem.W.codeIn K cd3 "_law_part_by" = true) (k3 : PySem.W.keepIn K (.ref f3) = true)
    (a4 : PySem.W.nsIn K mainGlobals "_law_course_by" = some (some (.ref f4))) (l4 : K.lookup f4 = some ⟨oc4, od4, .func (PySem.W.fnOf "_law_course_by" "_law_course_by" (defArgs s_l_course_by) (defBody s_l_course_by) (defScope s_l_course_by) .none kV4 dc4 pm4 an4 cd4 ct4), sl4⟩) (c4 : PySem.W.codeIn K cd4 "_law_course_by" = true) (k4 : PySem.W.keepIn K (.ref f4) = true)
    (a5 : PySem.W.nsIn K mainGlobals "gives" = some (some (.ref f5))) (l5 : K.lookup f5 = some ⟨oc5, od5, .func (PySem.W.fnOf "gives" "gives" (defArgs s_gives) (defBody s_gives) (defScope s_gives) .none kV5 dc5 pm5 an5 cd5 ct5), sl5⟩) (c5 : PySem.W.codeIn K cd5 "gives" = true) (k5 : PySem.W.keepIn K (.ref f5) = true)
    (a6 : PySem.W.nsIn K mainGlobals "mark" = some (some (.ref f6))) (l6 : K.lookup f6 = some ⟨oc6, od6, .func (PySem.W.fnOf "mark" "mark" (defArgs s_mark) (defBody s_mark) (defScope s_mark) .none kV6 dc6 pm6 an6 cd6 ct6), sl6⟩) (c6 : PySem.W.codeIn K cd6 "mark" = true) (k6 : PySem.W.keepIn K (.ref f6) = true)
    (a7 : PySem.W.nsIn K mainGlobals "_marked" = some (some (.ref f7))) (l7 : K.lookup f7 = some ⟨oc7, od7, .func (PySem.W.fnOf "_marked" "_marked" (defArgs s__marked) (defBody s__marked) (defScope s__marked) .none kV7 dc7 pm7 an7 cd7 ct7), sl7⟩) (c7 : PySem.W.codeIn K cd7 "_marked" = true) (k7 : PySem.W.keepIn K (.ref f7) = true)
    (a8 : PySem.W.nsIn K mainGlobals "share" = some (some (.ref f8))) (l8 : K.lookup f8 = some ⟨oc8, od8, .func (PySem.W.fnOf "share" "share" (defArgs s_share) (defBody s_share) (defScope s_share) .none kV8 dc8 pm8 an8 cd8 ct8), sl8⟩) (c8 : PySem.W.codeIn K cd8 "share" = true) (k8 : PySem.W.keepIn K (.ref f8) = true)
    (a9 : PySem.W.nsIn K mainGlobals "times" = some (some (.ref f9))) (l9 : K.lookup f9 = some ⟨oc9, od9, .func (PySem.W.fnOf "times" "times" (defArgs s_times) (defBody s_times) (defScope s_times) .none kV9 dc9 pm9 an9 cd9 ct9), sl9⟩) (c9 : PySem.W.codeIn K cd9 "times" = true) (k9 : PySem.W.keepIn K (.ref f9) = true)
    (a10 : PySem.W.nsIn K mainGlobals "plus" = some (some (.ref f10))) (l10 : K.lookup f10 = some ⟨oc10, od10, .func (PySem.W.fnOf "plus" "plus" (defArgs s_plus) (defBody s_plus) (defScope s_plus) .none kV10 dc10 pm10 an10 cd10 ct10), sl10⟩) (c10 : PySem.W.codeIn K cd10 "plus" = true) (k10 : PySem.W.keepIn K (.ref f10) = true)
    (a11 : PySem.W.nsIn K mainGlobals "weighted" = some (some (.ref f11))) (l11 : K.lookup f11 = some ⟨oc11, od11, .func (PySem.W.fnOf "weighted" "weighted" (defArgs s_weighted) (defBody s_weighted) (defScope s_weighted) .none kV11 dc11 pm11 an11 cd11 ct11), sl11⟩) (c11 : PySem.W.codeIn K cd11 "weighted" = true) (k11 : PySem.W.keepIn K (.ref f11) = true)
    (a12 : PySem.W.nsIn K mainGlobals "mean" = some (some (.ref f12))) (l12 : K.lookup f12 = some ⟨oc12, od12, .func (PySem.W.fnOf "mean" "mean" (defArgs s_mean) (defBody s_mean) (defScope s_mean) .none kV12 dc12 pm12 an12 cd12 ct12), sl12⟩) (c12 : PySem.W.codeIn K cd12 "mean" = true) (k12 : PySem.W.keepIn K (.ref f12) = true)
    (a13 : PySem.W.nsIn K mainGlobals "_without" = some (some (.ref f13))) (l13 : K.lookup f13 = some ⟨oc13, od13, .func (PySem.W.fnOf "_without" "_without" (defArgs s__without) (defBody s__without) (defScope s__without) .none kV13 dc13 pm13 an13 cd13 ct13), sl13⟩) (c13 : PySem.W.codeIn K cd13 "_without" = true) (k13 : PySem.W.keepIn K (.ref f13) = true)
    (a14 : PySem.W.nsIn K mainGlobals "less" = some (some (.ref f14))) (l14 : K.lookup f14 = some ⟨oc14, od14, .func (PySem.W.fnOf "less" "less" (defArgs s_less) (defBody s_less) (defScope s_less) .none kV14 dc14 pm14 an14 cd14 ct14), sl14⟩) (c14 : PySem.W.codeIn K cd14 "less" = true) (k14 : PySem.W.keepIn K (.ref f14) = true)
    (a15 : PySem.W.nsIn K mainGlobals "_best_way" = some (some (.ref f15))) (l15 : K.lookup f15 = some ⟨oc15, od15, .func (PySem.W.fnOf "_best_way" "_best_way" (defArgs s__best_way) (defBody s__best_way) (defScope s__best_way) .none kV15 dc15 pm15 an15 cd15 ct15), sl15⟩) (c15 : PySem.W.codeIn K cd15 "_best_way" = true) (k15 : PySem.W.keepIn K (.ref f15) = true)
    (a16 : PySem.W.nsIn K mainGlobals "left_out" = some (some (.ref f16))) (l16 : K.lookup f16 = some ⟨oc16, od16, .func (PySem.W.fnOf "left_out" "left_out" (defArgs s_left_out) (defBody s_left_out) (defScope s_left_out) .none kV16 dc16 pm16 an16 cd16 ct16), sl16⟩) (c16 : PySem.W.codeIn K cd16 "left_out" = true) (k16 : PySem.W.keepIn K (.ref f16) = true)
    (a17 : PySem.W.nsIn K mainGlobals "chosen" = some (some (.ref f17))) (l17 : K.lookup f17 = some ⟨oc17, od17, .func (PySem.W.fnOf "chosen" "chosen" (defArgs s_chosen) (defBody s_chosen) (defScope s_chosen) .none kV17 dc17 pm17 an17 cd17 ct17), sl17⟩) (c17 : PySem.W.codeIn K cd17 "chosen" = true) (k17 : PySem.W.keepIn K (.ref f17) = true)
    (a18 : PySem.W.nsIn K mainGlobals "_row" = some (some (.ref f18))) (l18 : K.lookup f18 = some ⟨oc18, od18, .func (PySem.W.fnOf "_row" "_row" (defArgs s__row) (defBody s__row) (defScope s__row) .none kV18 dc18 pm18 an18 cd18 ct18), sl18⟩) (c18 : PySem.W.codeIn K cd18 "_row" = true) (k18 : PySem.W.keepIn K (.ref f18) = true)
    (a19 : PySem.W.nsIn K mainGlobals "part_share" = some (some (.ref f19))) (l19 : K.lookup f19 = some ⟨oc19, od19, .func (PySem.W.fnOf "part_share" "part_share" (defArgs s_part_share) (defBody s_part_share) (defScope s_part_share) .none kV19 dc19 pm19 an19 cd19 ct19), sl19⟩) (c19 : PySem.W.codeIn K cd19 "part_share" = true) (k19 : PySem.W.keepIn K (.ref f19) = true)
    (a20 : PySem.W.nsIn K mainGlobals "_part_tale" = some (some (.ref f20))) (l20 : K.lookup f20 = some ⟨oc20, od20, .func (PySem.W.fnOf "_part_tale" "_part_tale" (defArgs s__part_tale) (defBody s__part_tale) (defScope s__part_tale) .none kV20 dc20 pm20 an20 cd20 ct20), sl20⟩) (c20 : PySem.W.codeIn K cd20 "_part_tale" = true) (k20 : PySem.W.keepIn K (.ref f20) = true)
    (a21 : PySem.W.nsIn K mainGlobals "tale" = some (some (.ref f21))) (l21 : K.lookup f21 = some ⟨oc21, od21, .func (PySem.W.fnOf "tale" "tale" (defArgs s_tale) (defBody s_tale) (defScope s_tale) .none kV21 dc21 pm21 an21 cd21 ct21), sl21⟩) (c21 : PySem.W.codeIn K cd21 "tale" = true) (k21 : PySem.W.keepIn K (.ref f21) = true)
    (a22 : PySem.W.nsIn K mainGlobals "_law_mark" = some (some (.ref f22))) (l22 : K.lookup f22 = some ⟨oc22, od22, .func (PySem.W.fnOf "_law_mark" "_law_mark" (defArgs s_l_mark) (defBody s_l_mark) (defScope s_l_mark) .none kV22 dc22 pm22 an22 cd22 ct22), sl22⟩) (c22 : PySem.W.codeIn K cd22 "_law_mark" = true) (k22 : PySem.W.keepIn K (.ref f22) = true)
    (a23 : PySem.W.nsIn K mainGlobals "_law_row" = some (some (.ref f23))) (l23 : K.lookup f23 = some ⟨oc23, od23, .func (PySem.W.fnOf "_law_row" "_law_row" (defArgs s_l_row) (defBody s_l_row) (defScope s_l_row) .none kV23 dc23 pm23 an23 cd23 ct23), sl23⟩) (c23 : PySem.W.codeIn K cd23 "_law_row" = true) (k23 : PySem.W.keepIn K (.ref f23) = true)
    (a24 : PySem.W.nsIn K mainGlobals "_law_whole" = some (some (.ref f24))) (l24 : K.lookup f24 = some ⟨oc24, od24, .func (PySem.W.fnOf "_law_whole" "_law_whole" (defArgs s_l_whole) (defBody s_l_whole) (defScope s_l_whole) .none kV24 dc24 pm24 an24 cd24 ct24), sl24⟩) (c24 : PySem.W.codeIn K cd24 "_law_whole" = true) (k24 : PySem.W.keepIn K (.ref f24) = true)
    (a25 : PySem.W.nsIn K mainGlobals "_law_kinds" = some (some (.ref f25))) (l25 : K.lookup f25 = some ⟨oc25, od25, .func (PySem.W.fnOf "_law_kinds" "_law_kinds" (defArgs s_l_kinds) (defBody s_l_kinds) (defScope s_l_kinds) .none kV25 dc25 pm25 an25 cd25 ct25), sl25⟩) (c25 : PySem.W.codeIn K cd25 "_law_kinds" = true) (k25 : PySem.W.keepIn K (.ref f25) = true)
    (a26 : PySem.W.nsIn K mainGlobals "_law_told" = some (some (.ref f26))) (l26 : K.lookup f26 = some ⟨oc26, od26, .func (PySem.W.fnOf "_law_told" "_law_told" (defArgs s_l_told) (defBody s_l_told) (defScope s_l_told) .none kV26 dc26 pm26 an26 cd26 ct26), sl26⟩) (c26 : PySem.W.codeIn K cd26 "_law_told" = true) (k26 : PySem.W.keepIn K (.ref f26) = true)
    (a27 : PySem.W.nsIn K mainGlobals "law" = some (some (.ref f27))) (l27 : K.lookup f27 = some ⟨oc27, od27, .func (PySem.W.fnOf "law" "law" (defArgs s_law) (defBody s_law) (defScope s_law) .none kV27 dc27 pm27 an27 cd27 ct27), sl27⟩) (c27 : PySem.W.codeIn K cd27 "law" = true) (k27 : PySem.W.keepIn K (.ref f27) = true)
    (z_len : PySem.W.nsIn K mainGlobals "len" = some none)
    (z_range : PySem.W.nsIn K mainGlobals "range" = some none)
    (z_tuple : PySem.W.nsIn K mainGlobals "tuple" = some none)
    (z_min : PySem.W.nsIn K mainGlobals "min" = some none)
    (z_enumerate : PySem.W.nsIn K mainGlobals "enumerate" = some none)
    (z_max : PySem.W.nsIn K mainGlobals "max" = some none)
    (z_sum : PySem.W.nsIn K mainGlobals "sum" = some none)
    (z_int : PySem.W.nsIn K mainGlobals "int" = some none)
    (z_isinstance : PySem.W.nsIn K mainGlobals "isinstance" = some none)
    (z_bool : PySem.W.nsIn K mainGlobals "bool" = some none)
    (z_str : PySem.W.nsIn K mainGlobals "str" = some none)
    (z_list : PySem.W.nsIn K mainGlobals "list" = some none)
    (z_gcd : PySem.W.nsIn K mainGlobals "gcd" = some (some (.builtin "math.gcd")))
    (z_combinations : PySem.W.nsIn K mainGlobals "combinations" = some (some (.type "itertools.combinations")))
    : ∃ fd : FuncData, (∀ (s : Shared) (v : Value), BindsTo s fd ⟨[v], []⟩ [("_law_script", v)]) ∧ ∀ base : Heap, K.In base → base.Ns mainGlobals mg → FnOk l.prog w K mg base CX0 10 fa fd ["_law_script"] (DL.spLaw K) := by
  have m_len := PySem.W.mg_none_of X G z_len
  have m_range := PySem.W.mg_none_of X G z_range
  have m_tuple := PySem.W.mg_none_of X G z_tuple
  have m_min := PySem.W.mg_none_of X G z_min
  have m_enumerate := PySem.W.mg_none_of X G z_enumerate
  have m_max := PySem.W.mg_none_of X G z_max
  have m_sum := PySem.W.mg_none_of X G z_sum
  have m_int := PySem.W.mg_none_of X G z_int
  have m_isinstance := PySem.W.mg_none_of X G z_isinstance
  have m_bool := PySem.W.mg_none_of X G z_bool
  have m_str := PySem.W.mg_none_of X G z_str
  have m_list := PySem.W.mg_none_of X G z_list
  have m_gcd := PySem.W.mg_of X G z_gcd
  have m_combinations := PySem.W.mg_of X G z_combinations
  have D_l_cell_at : DefAt K mg "_law_cell_at" "_law_cell_at" s_l_cell_at ["_law_script", "_law_k"] := def1 X G (fun _ _ _ _ _ _ us hl => match us, hl with | [_, _], _ => rfl) a0 l0 c0 k0
  have D_l_stream : DefAt K mg "_law_stream" "_law_stream" s_l_stream ["_law_cell", "_law_many"] := def1 X G (fun _ _ _ _ _ _ us hl => match us, hl with | [_, _], _ => rfl) a1 l1 c1 k1
  have D_l_task_by : DefAt K mg "_law_task_by" "_law_task_by" s_l_task_by ["_law_xs"] := def1 X G (fun _ _ _ _ _ _ us hl => match us, hl with | [_], _ => rfl) a2 l2 c2 k2
  have D_l_part_by : DefAt K mg "_law_part_by" "_law_part_by" s_l_part_by ["_law_cell", "_law_most_tasks"] := def1 X G (fun _ _ _ _ _ _ us hl => match us, hl with | [_, _], _ => rfl) a3 l3 c3 k3
  have D_l_course_by : DefAt K mg "_law_course_by" "_law_course_by" s_l_course_by ["_law_script", "_law_first", "_law_most_tasks"] := def1 X G (fun _ _ _ _ _ _ us hl => match us, hl with | [_, _, _], _ => rfl) a4 l4 c4 k4
  have D_gives : DefAt K mg "gives" "gives" s_gives ["task"] := def1 X G (fun _ _ _ _ _ _ us hl => match us, hl with | [_], _ => rfl) a5 l5 c5 k5
  have D_mark : DefAt K mg "mark" "mark" s_mark ["task"] := def1 X G (fun _ _ _ _ _ _ us hl => match us, hl with | [_], _ => rfl) a6 l6 c6 k6
  have D__marked : DefAt K mg "_marked" "_marked" s__marked ["part"] := def1 X G (fun _ _ _ _ _ _ us hl => match us, hl with | [_], _ => rfl) a7 l7 c7 k7
  have D_share : DefAt K mg "share" "share" s_share ["top", "bottom"] := def1 X G (fun _ _ _ _ _ _ us hl => match us, hl with | [_, _], _ => rfl) a8 l8 c8 k8
  have D_times : DefAt K mg "times" "times" s_times ["one", "number", "over"] := def1 X G (fun _ _ _ _ _ _ us hl => match us, hl with | [_, _, _], _ => rfl) a9 l9 c9 k9
  have D_plus : DefAt K mg "plus" "plus" s_plus ["one", "other"] := def1 X G (fun _ _ _ _ _ _ us hl => match us, hl with | [_, _], _ => rfl) a10 l10 c10 k10
  have D_weighted : DefAt K mg "weighted" "weighted" s_weighted ["rows"] := def1 X G (fun _ _ _ _ _ _ us hl => match us, hl with | [_], _ => rfl) a11 l11 c11 k11
  have D_mean : DefAt K mg "mean" "mean" s_mean ["part", "numbers"] := def1 X G (fun _ _ _ _ _ _ us hl => match us, hl with | [_, _], _ => rfl) a12 l12 c12 k12
  have D__without : DefAt K mg "_without" "_without" s__without ["numbers", "left"] := def1 X G (fun _ _ _ _ _ _ us hl => match us, hl with | [_, _], _ => rfl) a13 l13 c13 k13
  have D_less : DefAt K mg "less" "less" s_less ["one", "other"] := def1 X G (fun _ _ _ _ _ _ us hl => match us, hl with | [_, _], _ => rfl) a14 l14 c14 k14
  have D__best_way : DefAt K mg "_best_way" "_best_way" s__best_way ["part", "marked", "many"] := def1 X G (fun _ _ _ _ _ _ us hl => match us, hl with | [_, _, _], _ => rfl) a15 l15 c15 k15
  have D_left_out : DefAt K mg "left_out" "left_out" s_left_out ["part"] := def1 X G (fun _ _ _ _ _ _ us hl => match us, hl with | [_], _ => rfl) a16 l16 c16 k16
  have D_chosen : DefAt K mg "chosen" "chosen" s_chosen ["task"] := def1 X G (fun _ _ _ _ _ _ us hl => match us, hl with | [_], _ => rfl) a17 l17 c17 k17
  have D__row : DefAt K mg "_row" "_row" s__row ["task", "is_left"] := def1 X G (fun _ _ _ _ _ _ us hl => match us, hl with | [_, _], _ => rfl) a18 l18 c18 k18
  have D_part_share : DefAt K mg "part_share" "part_share" s_part_share ["part"] := def1 X G (fun _ _ _ _ _ _ us hl => match us, hl with | [_], _ => rfl) a19 l19 c19 k19
  have D__part_tale : DefAt K mg "_part_tale" "_part_tale" s__part_tale ["part"] := def1 X G (fun _ _ _ _ _ _ us hl => match us, hl with | [_], _ => rfl) a20 l20 c20 k20
  have D_tale : DefAt K mg "tale" "tale" s_tale ["course"] := def1 X G (fun _ _ _ _ _ _ us hl => match us, hl with | [_], _ => rfl) a21 l21 c21 k21
  have D_l_mark : DefAt K mg "_law_mark" "_law_mark" s_l_mark ["_law_task"] := def1 X G (fun _ _ _ _ _ _ us hl => match us, hl with | [_], _ => rfl) a22 l22 c22 k22
  have D_l_row : DefAt K mg "_law_row" "_law_row" s_l_row ["_law_task", "_law_is_left"] := def1 X G (fun _ _ _ _ _ _ us hl => match us, hl with | [_, _], _ => rfl) a23 l23 c23 k23
  have D_l_whole : DefAt K mg "_law_whole" "_law_whole" s_l_whole ["_law_found"] := def1 X G (fun _ _ _ _ _ _ us hl => match us, hl with | [_], _ => rfl) a24 l24 c24 k24
  have D_l_kinds : DefAt K mg "_law_kinds" "_law_kinds" s_l_kinds ["_law_row_here"] := def1 X G (fun _ _ _ _ _ _ us hl => match us, hl with | [_], _ => rfl) a25 l25 c25 k25
  have D_l_told : DefAt K mg "_law_told" "_law_told" s_l_told ["_law_found", "_law_course"] := def1 X G (fun _ _ _ _ _ _ us hl => match us, hl with | [_, _], _ => rfl) a26 l26 c26 k26
  have D_law : DefAt K mg "law" "law" s_law ["_law_script"] := def1 X G (fun _ _ _ _ _ _ us hl => match us, hl with | [_], _ => rfl) a27 l27 c27 k27
  refine DL.fn_law D_law hfa fun base => ?_
  have G_l_cell_at := ok_l_cell_at (P := l.prog) (w := w) (K := K) (mg := mg) (base := base) D_l_cell_at m_len
  have G_l_stream := ok_l_stream (P := l.prog) (w := w) (K := K) (mg := mg) (base := base) D_l_stream m_range
  have G_l_task_by := ok_l_task_by (P := l.prog) (w := w) (K := K) (mg := mg) (base := base) D_l_task_by m_range m_tuple
  have G_l_part_by := ok_l_part_by (P := l.prog) (w := w) (K := K) (mg := mg) (base := base) D_l_part_by G_l_stream G_l_task_by m_range m_tuple
  have G_l_course_by := ok_l_course_by (P := l.prog) (w := w) (K := K) (mg := mg) (base := base) D_l_course_by G_l_cell_at G_l_part_by m_range
  have G_gives := ok_gives (P := l.prog) (w := w) (K := K) (mg := mg) (base := base) D_gives m_min m_enumerate
  have G_mark := ok_mark (P := l.prog) (w := w) (K := K) (mg := mg) (base := base) D_mark G_gives m_max
  have G__marked := ok__marked (P := l.prog) (w := w) (K := K) (mg := mg) (base := base) D__marked G_mark m_enumerate
  have G_share := ok_share (P := l.prog) (w := w) (K := K) (mg := mg) (base := base) D_share m_gcd
  have G_times := ok_times (P := l.prog) (w := w) (K := K) (mg := mg) (base := base) D_times G_share
  have G_plus := ok_plus (P := l.prog) (w := w) (K := K) (mg := mg) (base := base) D_plus G_share
  have G_weighted := ok_weighted (P := l.prog) (w := w) (K := K) (mg := mg) (base := base) D_weighted G_times G_plus
  have G_mean := ok_mean (P := l.prog) (w := w) (K := K) (mg := mg) (base := base) D_mean G_weighted G_share G_mark
  have G__without := ok__without (P := l.prog) (w := w) (K := K) (mg := mg) (base := base) D__without
  have G_less := ok_less (P := l.prog) (w := w) (K := K) (mg := mg) (base := base) D_less
  have G__best_way := ok__best_way (P := l.prog) (w := w) (K := K) (mg := mg) (base := base) D__best_way G_mean G__without G_less m_combinations
  have G_left_out := ok_left_out (P := l.prog) (w := w) (K := K) (mg := mg) (base := base) D_left_out G__marked G__best_way m_min m_len
  have G_chosen := ok_chosen (P := l.prog) (w := w) (K := K) (mg := mg) (base := base) D_chosen G_gives m_max
  have G__row := ok__row (P := l.prog) (w := w) (K := K) (mg := mg) (base := base) D__row G_mark G_chosen
  have G_part_share := ok_part_share (P := l.prog) (w := w) (K := K) (mg := mg) (base := base) D_part_share G__marked G_mean G_plus G__without G_share G_less G_left_out m_min m_sum
  have G__part_tale := ok__part_tale (P := l.prog) (w := w) (K := K) (mg := mg) (base := base) D__part_tale G_left_out G__row G_part_share m_enumerate
  have G_tale := ok_tale (P := l.prog) (w := w) (K := K) (mg := mg) (base := base) D_tale G__part_tale
  have G_l_mark := ok_l_mark (P := l.prog) (w := w) (K := K) (mg := mg) (base := base) D_l_mark m_range m_len
  have G_l_row := ok_l_row (P := l.prog) (w := w) (K := K) (mg := mg) (base := base) D_l_row G_l_mark m_range m_int m_len
  have G_l_whole := ok_l_whole (P := l.prog) (w := w) (K := K) (mg := mg) (base := base) D_l_whole m_isinstance m_int m_bool
  have G_l_kinds := ok_l_kinds (P := l.prog) (w := w) (K := K) (mg := mg) (base := base) D_l_kinds G_l_whole m_isinstance m_tuple m_len m_str
  have G_l_told := ok_l_told (P := l.prog) (w := w) (K := K) (mg := mg) (base := base) D_l_told G_left_out G_l_row G_part_share G_l_kinds m_range m_len m_isinstance m_list m_tuple
  have G_law := ok_law (P := l.prog) (w := w) (K := K) (mg := mg) (base := base) D_law G_l_course_by G_tale G_l_told m_list m_tuple
  exact G_law
end k07
open PySem PySem.W PyProof.Rows
local instance : DL.Nm := ⟨fun _ => Str.ofString "", []⟩
set_option maxHeartbeats 0 in
theorem PySem.Challenge.cw_gradewish_k07_tales_holds : PySem.Challenge.rw_gradewish_k07_tales.Holds := by
  w_on; o_law; k_head; (case hw => w_witness2)
  k_fill
  refine L2.walk_of (l := PySem.Challenge.rw_gradewish_k07_tales) (n := 63) (k := 10) (x := "_law_script") (CX := fun _ => L2.CX0) (sp := fun w => DL.spLaw _) rfl (by decide) rfl ⟨rfl, by decide, by decide⟩ (fun w h Y => PySem.W.kIn_of Y) ?F (fun _ _ a ns hl _ hS => DL.law_hsp hl hS fun _ h => nomatch h) (fun _ _ _ _ _ h => h)
  case F =>
    intro w mg fa h KX G hmg
    refine' k07.all_mk KX G hmg ?a0 ?l0 ?c0 ?k0 ?a1 ?l1 ?c1 ?k1 ?a2 ?l2 ?c2 ?k2 ?a3 ?l3 ?c3 ?k3 ?a4 ?l4 ?c4 ?k4 ?a5 ?l5 ?c5 ?k5 ?a6 ?l6 ?c6 ?k6 ?a7 ?l7 ?c7 ?k7 ?a8 ?l8 ?c8 ?k8 ?a9 ?l9 ?c9 ?k9 ?a10 ?l10 ?c10 ?k10 ?a11 ?l11 ?c11 ?k11 ?a12 ?l12 ?c12 ?k12 ?a13 ?l13 ?c13 ?k13 ?a14 ?l14 ?c14 ?k14 ?a15 ?l15 ?c15 ?k15 ?a16 ?l16 ?c16 ?k16 ?a17 ?l17 ?c17 ?k17 ?a18 ?l18 ?c18 ?k18 ?a19 ?l19 ?c19 ?k19 ?a20 ?l20 ?c20 ?k20 ?a21 ?l21 ?c21 ?k21 ?a22 ?l22 ?c22 ?k22 ?a23 ?l23 ?c23 ?k23 ?a24 ?l24 ?c24 ?k24 ?a25 ?l25 ?c25 ?k25 ?a26 ?l26 ?c26 ?k26 ?a27 ?l27 ?c27 ?k27 ?z_len ?z_range ?z_tuple ?z_min ?z_enumerate ?z_max ?z_sum ?z_int ?z_isinstance ?z_bool ?z_str ?z_list ?z_gcd ?z_combinations
    (case a0 => k_is); (case l0 => k_is); (case c0 => k_is); (case k0 => k_is); (case a1 => k_is); (case l1 => k_is); (case c1 => k_is); (case k1 => k_is); (case a2 => k_is); (case l2 => k_is); (case c2 => k_is); (case k2 => k_is); (case a3 => k_is); (case l3 => k_is); (case c3 => k_is); (case k3 => k_is); (case a4 => k_is); (case l4 => k_is); (case c4 => k_is); (case k4 => k_is); (case a5 => k_is); (case l5 => k_is); (case c5 => k_is); (case k5 => k_is); (case a6 => k_is); (case l6 => k_is); (case c6 => k_is); (case k6 => k_is); (case a7 => k_is); (case l7 => k_is); (case c7 => k_is); (case k7 => k_is); (case a8 => k_is); (case l8 => k_is); (case c8 => k_is); (case k8 => k_is); (case a9 => k_is); (case l9 => k_is); (case c9 => k_is); (case k9 => k_is); (case a10 => k_is); (case l10 => k_is); (case c10 => k_is); (case k10 => k_is); (case a11 => k_is); (case l11 => k_is); (case c11 => k_is); (case k11 => k_is); (case a12 => k_is); (case l12 => k_is); (case c12 => k_is); (case k12 => k_is); (case a13 => k_is); (case l13 => k_is); (case c13 => k_is); (case k13 => k_is); (case a14 => k_is); (case l14 => k_is); (case c14 => k_is); (case k14 => k_is); (case a15 => k_is); (case l15 => k_is); (case c15 => k_is); (case k15 => k_is); (case a16 => k_is); (case l16 => k_is); (case c16 => k_is); (case k16 => k_is); (case a17 => k_is); (case l17 => k_is); (case c17 => k_is); (case k17 => k_is); (case a18 => k_is); (case l18 => k_is); (case c18 => k_is); (case k18 => k_is); (case a19 => k_is); (case l19 => k_is); (case c19 => k_is); (case k19 => k_is); (case a20 => k_is); (case l20 => k_is); (case c20 => k_is); (case k20 => k_is); (case a21 => k_is); (case l21 => k_is); (case c21 => k_is); (case k21 => k_is); (case a22 => k_is); (case l22 => k_is); (case c22 => k_is); (case k22 => k_is); (case a23 => k_is); (case l23 => k_is); (case c23 => k_is); (case k23 => k_is); (case a24 => k_is); (case l24 => k_is); (case c24 => k_is); (case k24 => k_is); (case a25 => k_is); (case l25 => k_is); (case c25 => k_is); (case k25 => k_is); (case a26 => k_is); (case l26 => k_is); (case c26 => k_is); (case k26 => k_is); (case a27 => k_is); (case l27 => k_is); (case c27 => k_is); (case k27 => k_is); (case z_len => k_is); (case z_range => k_is); (case z_tuple => k_is); (case z_min => k_is); (case z_enumerate => k_is); (case z_max => k_is); (case z_sum => k_is); (case z_int => k_is); (case z_isinstance => k_is); (case z_bool => k_is); (case z_str => k_is); (case z_list => k_is); (case z_gcd => k_is); (case z_combinations => k_is)
