import PyProof.Rows.All
import Wide.All
import OpenK.AllK
import Wide.FinOn
import HandS.ForMost
import HandS.Evl
import HandS.Gcd
import HandS.IsInst
import HandS.Wide
import HandS.Style
import HandS.TupAny
import HandS.TupMul
import KE.KTupSum
import HandS.SortKw
import HandS.SetFor
import KE.DataMinMax
import KE.GoesEnum
import HandS.ForExc
import HandS.FStr
import HandS.RaiseMore
import HandS.ExcIs
import PyProof.Rows.IntBool
import KE.RegKIsAll
import PySem.Challenge.RW_gradewish_k12_courses_refused
set_option Elab.async false
set_option linter.all false
set_option maxRecDepth 100000
set_option maxHeartbeats 2000000
/-! DL: a layer over readings that speaks of data (PyData) alone: no heap, no addresses. -/
namespace DL
open PySem L2

abbrev Dt := PyData

/-! ### data stays -/
mutual
theorem dp_ex {K : PySem.W.Frag} {F G : Hp} (e : Evl.Ex F G) : ∀ (d : Dt) (v : V), Dp K F v d → Dp K G v d
  | .none, _, h => by cases h; exact .non
  | .bool _, _, h => by cases h; exact .bl _
  | .int _, _, h => by cases h; exact .int _
  | .str _, _, h => by cases h; exact .str _
  | .list ds, _, h => by
    cases h with
    | lst s a => exact .lst (Evl.ex_l e s) (dpAll_ex e ds _ a)
  | .tuple ds, _, h => by
    cases h with
    | tup s a => exact .tup (Evl.ex_t e s) (dpAll_ex e ds _ a)
  | .dict _, _, h => by cases h
theorem dpAll_ex {K : PySem.W.Frag} {F G : Hp} (e : Evl.Ex F G) : ∀ (ds : List Dt) (vs : List V), DpAll K F vs ds → DpAll K G vs ds
  | [], _, h => by cases h; exact .nil
  | d :: ds, _, h => by
    cases h with
    | cons a b => exact .cons (dp_ex e d _ a) (dpAll_ex e ds _ b)
end
theorem dpAll_len {K : PySem.W.Frag} {F : Hp} : ∀ {vs : List V} {ds : List Dt}, DpAll K F vs ds → vs.length = ds.length
  | _, _, .nil => rfl
  | _, _, .cons _ b => by rw [List.length_cons, List.length_cons, dpAll_len b]
theorem dpAll_get {K : PySem.W.Frag} {F : Hp} : ∀ {ds : List Dt} {vs : List V} {i : Nat} {d : Dt}, DpAll K F vs ds → ds[i]? = some d → ∃ v, vs[i]? = some v ∧ Dp K F v d
  | [], _, _, _, _, h => by simp at h
  | x :: xs, _, 0, d, .cons a _, h => ⟨_, rfl, by
    have e : x = d := by simpa using h
    rw [← e]; exact a⟩
  | x :: xs, _, i + 1, d, .cons _ b, h => by
    obtain ⟨v, h1, h2⟩ := dpAll_get b (i := i) (d := d) (by simpa using h)
    exact ⟨v, by simpa using h1, h2⟩
theorem dpAll_get' {K : PySem.W.Frag} {F : Hp} : ∀ {ds : List Dt} {vs : List V} {i : Nat} {v : V}, DpAll K F vs ds → vs[i]? = some v → ∃ d, ds[i]? = some d ∧ Dp K F v d
  | _, _, _, _, .nil, h => by simp at h
  | _, _, 0, v, .cons (d := d) a _, h => ⟨d, rfl, by
    have e := Option.some.inj (show some _ = some v from by simpa using h)
    rw [← e]; exact a⟩
  | _, _, i + 1, v, .cons _ b, h => by
    obtain ⟨d, h1, h2⟩ := dpAll_get' b (i := i) (v := v) (by simpa using h)
    exact ⟨d, by simpa using h1, h2⟩
theorem dpAll_app {K : PySem.W.Frag} {F : Hp} : ∀ {xs ys : List V} {ds es : List Dt}, DpAll K F xs ds → DpAll K F ys es → DpAll K F (xs ++ ys) (ds ++ es)
  | _, _, _, _, .nil, h => h
  | _, _, _, _, .cons a b, h => .cons a (dpAll_app b h)
theorem dpAll_drop {K : PySem.W.Frag} {F : Hp} : ∀ (n : Nat) {xs : List V} {ds : List Dt}, DpAll K F xs ds → DpAll K F (xs.drop n) (ds.drop n)
  | 0, _, _, h => h
  | _ + 1, _, _, .nil => .nil
  | n + 1, _, _, .cons _ b => dpAll_drop n b
theorem dpAll_take {K : PySem.W.Frag} {F : Hp} : ∀ (n : Nat) {xs : List V} {ds : List Dt}, DpAll K F xs ds → DpAll K F (xs.take n) (ds.take n)
  | 0, _, _, _ => .nil
  | _ + 1, _, _, .nil => .nil
  | n + 1, _, _, .cons a b => .cons a (dpAll_take n b)
theorem dpAll_set {K : PySem.W.Frag} {F : Hp} {v : V} {d : Dt} (h : Dp K F v d) : ∀ (n : Nat) {xs : List V} {ds : List Dt}, DpAll K F xs ds → DpAll K F (xs.set n v) (ds.set n d)
  | _, _, _, .nil => .nil
  | 0, _, _, .cons _ b => .cons h b
  | n + 1, _, _, .cons a b => .cons a (dpAll_set h n b)
theorem dpAll_rep {K : PySem.W.Frag} {F : Hp} {xs : List V} {ds : List Dt} (h : DpAll K F xs ds) : ∀ n : Nat, DpAll K F (List.replicate n xs).flatten (List.replicate n ds).flatten
  | 0 => .nil
  | n + 1 => by
    rw [List.replicate_succ, List.replicate_succ, List.flatten_cons, List.flatten_cons]
    exact dpAll_app h (dpAll_rep h n)
/-- flat data: the value hangs on the data alone -/
def flat : Dt → Option V
  | .none => some .non
  | .bool b => some (.bl b)
  | .int i => some (.int i)
  | .str x => some (.str x)
  | _ => Option.none
theorem dp_flat {K : PySem.W.Frag} {F : Hp} {d : Dt} {v w : V} (h : Dp K F v d) (f : flat d = some w) : v = w := by
  cases h <;> (unfold flat at f; first | exact Option.some.inj f | cases f)
theorem dp_int {K : PySem.W.Frag} {F : Hp} {i : Int} {v : V} (h : Dp K F v (.int i)) : v = .int i := dp_flat h rfl
theorem dp_bl {K : PySem.W.Frag} {F : Hp} {i : Bool} {v : V} (h : Dp K F v (.bool i)) : v = .bl i := dp_flat h rfl
theorem dp_non {K : PySem.W.Frag} {F : Hp} {v : V} (h : Dp K F v .none) : v = .non := dp_flat h rfl
theorem dp_str {K : PySem.W.Frag} {F : Hp} {i : Str} {v : V} (h : Dp K F v (.str i)) : v = .str i := dp_flat h rfl
theorem dp_list {K : PySem.W.Frag} {F : Hp} {ds : List Dt} {v : V} (h : Dp K F v (.list ds)) : ∃ p vs, v = .ref p ∧ SqL K F p vs ∧ DpAll K F vs ds := by
  cases h with
  | lst s a => exact ⟨_, _, rfl, s, a⟩
theorem dp_tup {K : PySem.W.Frag} {F : Hp} {ds : List Dt} {v : V} (h : Dp K F v (.tuple ds)) : ∃ p vs, v = .ref p ∧ SqT K F p vs ∧ DpAll K F vs ds := by
  cases h with
  | tup s a => exact ⟨_, _, rfl, s, a⟩
/-- intsD -/
def intsD (ns : List Int) : List Dt := ns.map .int
theorem dpAll_ints {K : PySem.W.Frag} {F : Hp} : ∀ {ns : List Int} {vs : List V}, DpAll K F vs (intsD ns) → vs = ns.map V.int
  | [], _, h => by cases h; rfl
  | n :: ns, _, h => by
    cases h with
    | cons a b => rw [dp_int a, dpAll_ints b]; rfl
theorem dpAll_of_ints {K : PySem.W.Frag} {F : Hp} : ∀ (ns : List Int), DpAll K F (ns.map V.int) (intsD ns)
  | [] => .nil
  | n :: ns => .cons (.int n) (dpAll_of_ints ns)

/-! ### the step from (F, H) to (F', H'): F what never changes, H all that is tracked -/
structure Nx (F H F' H' : Hp) : Prop where
  f : Evl.Ex F F'
  h : Evl.Ex H H'
  i : Evl.Ex F' H'
  o : ∀ p, H p ≠ none → F p = none → F' p = none
theorem Nx.refl {F H : Hp} (i : Evl.Ex F H) : Nx F H F H := ⟨.refl _, .refl _, i, fun _ _ h => h⟩
theorem ex_some {F G : Hp} (e : Evl.Ex F G) {p : Addr} (h : F p ≠ none) : G p ≠ none := by
  cases q : F p with
  | none => exact absurd q h
  | some o => rw [e p o q]; exact fun z => nomatch z
theorem Nx.trans {F H F1 H1 F2 H2 : Hp} (a : Nx F H F1 H1) (b : Nx F1 H1 F2 H2) : Nx F H F2 H2 :=
  ⟨a.f.trans b.f, a.h.trans b.h, b.i, fun p hp fp => b.o p (ex_some a.h hp) (a.o p hp fp)⟩
/-- a new object, laid in both -/
theorem upd_ex {F H : Hp} {p : Addr} {o : HO} (e : Evl.Ex F H) : Evl.Ex (upd F p o) (upd H p o) := fun a u h => by
  by_cases q : a = p
  · subst q; rw [upd_same] at h ⊢; exact h
  · rw [upd_ne q] at h ⊢; exact e a u h
theorem none_back {F H : Hp} (e : Evl.Ex F H) {p : Addr} (h : H p = none) : F p = none := Evl.fresh_back e h
theorem Nx.both {F H : Hp} (i : Evl.Ex F H) {p : Addr} {o : HO} (h : H p = none) : Nx F H (upd F p o) (upd H p o) :=
  ⟨Evl.Ex.new (none_back i h), Evl.Ex.new h, upd_ex i, fun q hq fq => by
    have ne : q ≠ p := fun e => by subst e; exact hq h
    rw [upd_ne ne]; exact fq⟩
/-- .. in H alone: an own one -/
theorem Nx.own {F H : Hp} (i : Evl.Ex F H) {p : Addr} {o : HO} (h : H p = none) : Nx F H F (upd H p o) :=
  ⟨.refl _, Evl.Ex.new h, i.trans (Evl.Ex.new h), fun q hq fq => fq⟩
/-- an own object is shut: from now on it never changes -/
theorem ex_shut {F H : Hp} {p : Addr} {o : HO} (i : Evl.Ex F H) (h : H p = some o) : Evl.Ex (upd F p o) H := fun a u e => by
  by_cases q : a = p
  · subst q; rw [upd_same] at e; rw [h]; exact e
  · rw [upd_ne q] at e; exact i a u e
/-- new behind F0 H0, own in F H: shut -/
theorem Nx.shut {F0 H0 F H : Hp} (n : Nx F0 H0 F H) {p : Addr} {o : HO} (h0 : H0 p = none) (hF : F p = none) (h : H p = some o) : Nx F0 H0 (upd F p o) H :=
  ⟨n.f.trans (Evl.Ex.new hF), n.h, ex_shut n.i h, fun q hq fq => by
    have ne : q ≠ p := fun e => by subst e; exact hq h0
    rw [upd_ne ne]; exact n.o q hq fq⟩

/-! ### slots -/
inductive Sl where
  | any
  | dat (d : Dt)
  | own (ds : List Dt)
  | ref (a : Addr)
def SlOk (K : PySem.W.Frag) (H0 F H : Hp) : Option V → Sl → Prop
  | _, .any => True
  | o, .dat d => ∃ v, o = some v ∧ Dp K F v d
  | o, .own ds => ∃ p vs, o = some (.ref p) ∧ H0 p = none ∧ F p = none ∧ H p = some (.lst vs) ∧ DpAll K F vs ds
  | o, .ref a => o = some (.ref a)
structure Env (K : PySem.W.Frag) (F0 H0 F H : Hp) (σ : L2.St) (ρ : List Sl) : Prop where
  g : Nx F0 H0 F H
  len : σ.length = ρ.length
  sl : ∀ (i : Nat) (x : Sl), ρ[i]? = some x → ∃ o, σ[i]? = some o ∧ SlOk K H0 F H o x
  ap : ∀ (i j : Nat) (ds es : List Dt) (p : Addr), ρ[i]? = some (.own ds) → ρ[j]? = some (.own es) → σ[i]? = some (some (.ref p)) → σ[j]? = some (some (.ref p)) → i = j
theorem SlOk.step {K : PySem.W.Frag} {H0 F H F' H' : Hp} (n : Nx F H F' H') : ∀ {o : Option V} {x : Sl}, SlOk K H0 F H o x → SlOk K H0 F' H' o x
  | _, .any, _ => True.intro
  | _, .dat d, h => by
    obtain ⟨v, e, q⟩ := h
    exact ⟨v, e, dp_ex n.f _ _ q⟩
  | _, .ref _, h => h
  | _, .own ds, h => by
    obtain ⟨p, vs, e, h0, hF, hH, q⟩ := h
    exact ⟨p, vs, e, h0, n.o p (by rw [hH]; exact fun z => nomatch z) hF, n.h p _ hH, dpAll_ex n.f _ _ q⟩
section
variable {K : PySem.W.Frag} {F0 H0 F H F' H' : Hp} {σ : L2.St} {ρ : List Sl}
theorem Env.step (E : Env K F0 H0 F H σ ρ) (n : Nx F H F' H') : Env K F0 H0 F' H' σ ρ :=
  ⟨E.g.trans n, E.len, fun i x h => by
    obtain ⟨o, h1, h2⟩ := E.sl i x h
    exact ⟨o, h1, h2.step n⟩, E.ap⟩
theorem Env.dat (E : Env K F0 H0 F H σ ρ) {i : Nat} {d : Dt} (h : ρ[i]? = some (.dat d)) : ∃ v, σ[i]? = some (some v) ∧ Dp K F v d := by
  obtain ⟨o, h1, v, rfl, h2⟩ := E.sl i _ h
  exact ⟨v, h1, h2⟩
theorem Env.own (E : Env K F0 H0 F H σ ρ) {i : Nat} {ds : List Dt} (h : ρ[i]? = some (.own ds)) : ∃ p vs, σ[i]? = some (some (.ref p)) ∧ H0 p = none ∧ F p = none ∧ H p = some (.lst vs) ∧ DpAll K F vs ds := by
  obtain ⟨o, h1, p, vs, rfl, h2⟩ := E.sl i _ h
  exact ⟨p, vs, h1, h2⟩
theorem get_set {α : Type} {l : List α} {i j : Nat} {x y : α} (h : (l.set i x)[j]? = some y) : (j = i ∧ y = x ∧ i < l.length) ∨ (j ≠ i ∧ l[j]? = some y) := by
  rw [List.getElem?_set] at h
  by_cases e : i = j
  · subst e
    rw [if_pos rfl] at h
    by_cases q : i < l.length
    · rw [if_pos q] at h
      exact Or.inl ⟨rfl, (Option.some.inj h).symm, q⟩
    · rw [if_neg q] at h; cases h
  · rw [if_neg e] at h
    exact Or.inr ⟨fun z => e z.symm, h⟩
theorem Env.set {i : Nat} {v : V} {d : Dt} (E : Env K F0 H0 F H σ ρ) (h : Dp K F v d) : Env K F0 H0 F H (σ.set i (some v)) (ρ.set i (.dat d)) :=
  ⟨E.g, by rw [List.length_set, List.length_set]; exact E.len, fun j x hx => by
    rcases get_set hx with ⟨rfl, rfl, hl⟩ | ⟨ne, hx⟩
    · exact ⟨some v, by rw [List.getElem?_set, if_pos rfl, if_pos (by rw [E.len]; exact hl)], v, rfl, h⟩
    · obtain ⟨o, h1, h2⟩ := E.sl j x hx
      exact ⟨o, by rw [List.getElem?_set, if_neg (fun z => ne z.symm)]; exact h1, h2⟩, fun a b ds es p ha hb sa sb => by
    rcases get_set ha with ⟨_, z, _⟩ | ⟨na, ha⟩
    · cases z
    · rcases get_set hb with ⟨_, z, _⟩ | ⟨nb, hb⟩
      · cases z
      · rw [List.getElem?_set, if_neg (fun z => na z.symm)] at sa
        rw [List.getElem?_set, if_neg (fun z => nb z.symm)] at sb
        exact E.ap a b ds es p ha hb sa sb⟩
theorem Env.setAny {i : Nat} {o : Option V} (E : Env K F0 H0 F H σ ρ) : Env K F0 H0 F H (σ.set i o) (ρ.set i .any) :=
  ⟨E.g, by rw [List.length_set, List.length_set]; exact E.len, fun j x hx => by
    rcases get_set hx with ⟨rfl, rfl, hl⟩ | ⟨ne, hx⟩
    · exact ⟨o, by rw [List.getElem?_set, if_pos rfl, if_pos (by rw [E.len]; exact hl)], True.intro⟩
    · obtain ⟨o, h1, h2⟩ := E.sl j x hx
      exact ⟨o, by rw [List.getElem?_set, if_neg (fun z => ne z.symm)]; exact h1, h2⟩, fun a b ds es p ha hb sa sb => by
    rcases get_set ha with ⟨_, z, _⟩ | ⟨na, ha⟩
    · cases z
    · rcases get_set hb with ⟨_, z, _⟩ | ⟨nb, hb⟩
      · cases z
      · rw [List.getElem?_set, if_neg (fun z => na z.symm)] at sa
        rw [List.getElem?_set, if_neg (fun z => nb z.symm)] at sb
        exact E.ap a b ds es p ha hb sa sb⟩
theorem Env.setRef {i : Nat} {a : Addr} (E : Env K F0 H0 F H σ ρ) : Env K F0 H0 F H (σ.set i (some (.ref a))) (ρ.set i (.ref a)) :=
  ⟨E.g, by rw [List.length_set, List.length_set]; exact E.len, fun j x hx => by
    rcases get_set hx with ⟨rfl, rfl, hl⟩ | ⟨ne, hx⟩
    · exact ⟨_, by rw [List.getElem?_set, if_pos rfl, if_pos (by rw [E.len]; exact hl)], rfl⟩
    · obtain ⟨o, h1, h2⟩ := E.sl j x hx
      exact ⟨o, by rw [List.getElem?_set, if_neg (fun z => ne z.symm)]; exact h1, h2⟩, fun a b ds es p ha hb sa sb => by
    rcases get_set ha with ⟨_, z, _⟩ | ⟨na, ha⟩
    · cases z
    · rcases get_set hb with ⟨_, z, _⟩ | ⟨nb, hb⟩
      · cases z
      · rw [List.getElem?_set, if_neg (fun z => na z.symm)] at sa
        rw [List.getElem?_set, if_neg (fun z => nb z.symm)] at sb
        exact E.ap a b ds es p ha hb sa sb⟩
/-- a new own list goes to a slot -/
theorem Env.setOwn {i : Nat} {p : Addr} {vs : List V} {ds : List Dt} {F1 H1 : Hp} (E : Env K F0 H0 F1 H1 σ ρ) (n : Nx F1 H1 F H) (hn : H1 p = none) (hF : F p = none) (hH : H p = some (.lst vs)) (h : DpAll K F vs ds) : Env K F0 H0 F H (σ.set i (some (.ref p))) (ρ.set i (.own ds)) := by
  have E2 := E.step n
  have h0 : H0 p = none := none_back E.g.h hn
  have apart : ∀ (a : Nat) (es : List Dt), ρ[a]? = some (.own es) → σ[a]? = some (some (.ref p)) → False := fun a es ha sa => by
    obtain ⟨q, ws, h1, _, _, h2, _⟩ := E.own ha
    rw [sa] at h1
    have e := Option.some.inj (Option.some.inj h1)
    cases e
    rw [hn] at h2
    cases h2
  refine ⟨E2.g, by rw [List.length_set, List.length_set]; exact E2.len, fun j x hx => ?_, fun a b ds es q ha hb sa sb => ?_⟩
  · rcases get_set hx with ⟨rfl, rfl, hl⟩ | ⟨ne, hx⟩
    · exact ⟨some (.ref p), by rw [List.getElem?_set, if_pos rfl, if_pos (by rw [E.len]; exact hl)], p, vs, rfl, h0, hF, hH, h⟩
    · obtain ⟨o, h1, h2⟩ := E2.sl j x hx
      exact ⟨o, by rw [List.getElem?_set, if_neg (fun z => ne z.symm)]; exact h1, h2⟩
  · rcases get_set ha with ⟨ea, _, la⟩ | ⟨na, ha⟩
    · rcases get_set hb with ⟨eb, _, _⟩ | ⟨nb, hb⟩
      · rw [ea, eb]
      · rw [ea, List.getElem?_set, if_pos rfl, if_pos (by rw [E.len]; exact la)] at sa
        rw [List.getElem?_set, if_neg (fun z => nb z.symm)] at sb
        have e := V.ref.inj (Option.some.inj (Option.some.inj sa))
        rw [← e] at sb
        exact (apart b _ hb sb).elim
    · rcases get_set hb with ⟨eb, _, lb⟩ | ⟨nb, hb⟩
      · rw [eb, List.getElem?_set, if_pos rfl, if_pos (by rw [E.len]; exact lb)] at sb
        rw [List.getElem?_set, if_neg (fun z => na z.symm)] at sa
        have e := V.ref.inj (Option.some.inj (Option.some.inj sb))
        rw [← e] at sa
        exact (apart a _ ha sa).elim
      · rw [List.getElem?_set, if_neg (fun z => na z.symm)] at sa
        rw [List.getElem?_set, if_neg (fun z => nb z.symm)] at sb
        exact E.ap a b _ _ q ha hb sa sb
/-- an own list changes -/
theorem Env.mut {i : Nat} {p : Addr} {ws : List V} {ds es : List Dt} (E : Env K F0 H0 F H σ ρ) (hi : ρ[i]? = some (.own ds)) (hp : σ[i]? = some (some (.ref p))) (h : DpAll K F ws es) : Env K F0 H0 F (upd H p (.lst ws)) σ (ρ.set i (.own es)) := by
  obtain ⟨q, vs, h1, h0, hF, hH, _⟩ := E.own hi
  rw [hp] at h1
  have e := V.ref.inj (Option.some.inj (Option.some.inj h1))
  subst e
  refine ⟨⟨E.g.f, Evl.Ex.mut E.g.h h0, Evl.Ex.mut E.g.i hF, fun q hq fq => E.g.o q hq fq⟩, by rw [List.length_set]; exact E.len, fun j x hx => ?_, fun a b ds es q ha hb sa sb => ?_⟩
  · rcases get_set hx with ⟨rfl, rfl, hl⟩ | ⟨ne, hx⟩
    · exact ⟨_, hp, p, ws, rfl, h0, hF, upd_same, h⟩
    · obtain ⟨o, h1, h2⟩ := E.sl j x hx
      refine ⟨o, h1, ?_⟩
      cases x with
      | any => exact True.intro
      | ref a => exact h2
      | dat d => exact h2
      | own fs =>
        obtain ⟨r, us, e, g0, gF, gH, gA⟩ := h2
        refine ⟨r, us, e, g0, gF, ?_, gA⟩
        subst e
        rw [upd_ne (fun z => ne (E.ap j i _ _ p hx hi (by rw [h1, z]) hp))]
        exact gH
  · rcases get_set ha with ⟨ea, _, _⟩ | ⟨na, ha2⟩
    · rcases get_set hb with ⟨eb, _, _⟩ | ⟨nb, hb2⟩
      · rw [ea, eb]
      · exact ea.trans (E.ap i b _ _ q hi hb2 (by rw [← ea]; exact sa) sb)
    · rcases get_set hb with ⟨eb, _, _⟩ | ⟨nb, hb2⟩
      · exact (E.ap a i _ _ q ha2 hi sa (by rw [← eb]; exact sb)).trans eb.symm
      · exact E.ap a b _ _ q ha2 hb2 sa sb
/-- an own list is shut -/
theorem Env.shut {i : Nat} {ds : List Dt} (E : Env K F0 H0 F H σ ρ) (hi : ρ[i]? = some (.own ds)) : ∃ F', Env K F0 H0 F' H σ (ρ.set i (.dat (.list ds))) := by
  obtain ⟨p, vs, hp, h0, hF, hH, hA⟩ := E.own hi
  have n2 : Evl.Ex F (upd F p (.lst vs)) := Evl.Ex.new hF
  refine ⟨upd F p (.lst vs), E.g.shut h0 hF hH, by rw [List.length_set]; exact E.len, fun j x hx => ?_, fun a b ds es q ha hb sa sb => ?_⟩
  · rcases get_set hx with ⟨rfl, rfl, hl⟩ | ⟨ne, hx⟩
    · exact ⟨_, hp, .ref p, rfl, .lst (Or.inl (Or.inl upd_same)) (dpAll_ex n2 _ _ hA)⟩
    · obtain ⟨o, h1, h2⟩ := E.sl j x hx
      refine ⟨o, h1, ?_⟩
      cases x with
      | any => exact True.intro
      | ref a => exact h2
      | dat d =>
        obtain ⟨v, e, q⟩ := h2
        exact ⟨v, e, dp_ex n2 _ _ q⟩
      | own fs =>
        obtain ⟨r, us, e, g0, gF, gH, gA⟩ := h2
        subst e
        refine ⟨r, us, rfl, g0, ?_, gH, dpAll_ex n2 _ _ gA⟩
        rw [upd_ne (fun z => ne (E.ap j i _ _ p hx hi (by rw [h1, z]) hp))]
        exact gF
  · rcases get_set ha with ⟨_, z, _⟩ | ⟨na, ha⟩
    · cases z
    · rcases get_set hb with ⟨_, z, _⟩ | ⟨nb, hb⟩
      · cases z
      · exact E.ap a b ds es q ha hb sa sb
/-- less is known -/
inductive Weak : List Sl → List Sl → Prop where
  | nil : Weak [] []
  | same {x : Sl} {r r' : List Sl} : Weak r r' → Weak (x :: r) (x :: r')
  | any {x : Sl} {r r' : List Sl} : Weak r r' → Weak (x :: r) (.any :: r')
theorem Weak.len : ∀ {a b : List Sl}, Weak a b → a.length = b.length
  | _, _, .nil => rfl
  | _, _, .same h => by rw [List.length_cons, List.length_cons, h.len]
  | _, _, .any h => by rw [List.length_cons, List.length_cons, h.len]
theorem Weak.get : ∀ {a b : List Sl}, Weak a b → ∀ (i : Nat) (x : Sl), b[i]? = some x → x = .any ∨ a[i]? = some x
  | _, _, .nil, i, x, h => by simp at h
  | _, _, .same _, 0, x, h => Or.inr h
  | _, _, .any _, 0, x, h => Or.inl (Option.some.inj h).symm
  | _, _, .same w, i + 1, x, h => by simpa using w.get i x (by simpa using h)
  | _, _, .any w, i + 1, x, h => by simpa using w.get i x (by simpa using h)
theorem Weak.refl : ∀ a : List Sl, Weak a a
  | [] => .nil
  | _ :: r => .same (Weak.refl r)
theorem Env.weak {ρ' : List Sl} (E : Env K F0 H0 F H σ ρ) (w : Weak ρ ρ') : Env K F0 H0 F H σ ρ' :=
  ⟨E.g, E.len.trans w.len, fun i x h => by
    rcases w.get i x h with rfl | h
    · have hl : i < ρ.length := by rw [w.len]; exact (List.getElem?_eq_some_iff.mp h).1
      exact ⟨σ[i]'(by rw [E.len]; exact hl), List.getElem?_eq_getElem _, True.intro⟩
    · exact E.sl i x h, fun i j ds es p hi hj si sj => by
    rcases w.get i _ hi with z | hi
    · cases z
    · rcases w.get j _ hj with z | hj
      · cases z
      · exact E.ap i j ds es p hi hj si sj⟩
end
end DL

set_option Elab.async false
set_option linter.all false
set_option maxRecDepth 100000
set_option maxHeartbeats 2000000
/-! DR: rules over data. -/
namespace DL
open PySem L2
structure Zx where
  K : PySem.W.Frag
  E : XK
  px : Value → Prop
def Wish (Z : Zx) (F0 H0 : Hp) : Prop := ∀ c F' H', Z.px c → Nx F0 H0 F' H' → Z.E c Option.none H'
def SqX (K : PySem.W.Frag) (k : Bool) (H : Hp) (p : Addr) (vs : List V) : Prop := if k = true then SqL K H p vs else SqT K H p vs
theorem sqx_ex {K : PySem.W.Frag} {k : Bool} {H H' : Hp} {p : Addr} {vs : List V} (e : Evl.Ex H H') (h : SqX K k H p vs) : SqX K k H' p vs := by
  unfold SqX at h ⊢
  cases k with
  | true => exact Evl.ex_l e h
  | false => exact Evl.ex_t e h
def sqD (k : Bool) (ds : List Dt) : Dt := if k = true then .list ds else .tuple ds
theorem sqx_dp {K : PySem.W.Frag} {k : Bool} {H : Hp} {p : Addr} {vs : List V} {ds : List Dt} (h : SqX K k H p vs) (a : DpAll K H vs ds) : Dp K H (.ref p) (sqD k ds) := by
  cases k with
  | true => exact .lst h a
  | false => exact .tup h a
theorem dp_sqx {K : PySem.W.Frag} {k : Bool} {H : Hp} {v : V} {ds : List Dt} (h : Dp K H v (sqD k ds)) : ∃ p vs, v = .ref p ∧ SqX K k H p vs ∧ DpAll K H vs ds := by
  cases k with
  | true => exact dp_list h
  | false => exact dp_tup h
theorem sqx_or {K : PySem.W.Frag} {k : Bool} {H : Hp} {p : Addr} {vs : List V} (h : SqX K k H p vs) : SqL K H p vs ∨ SqT K H p vs := by
  cases k with
  | true => exact Or.inl h
  | false => exact Or.inr h

/-! ### what evaluates to what -/
def EvD (Z : Zx) (te : TE) (ρ : List Sl) (d : Dt) : Prop := ∀ F0 H0 F H σ, Env Z.K F0 H0 F H σ ρ → Wish Z F0 H0 → ∀ Q : VK, (∀ v F' H', Nx F H F' H' → Dp Z.K F' v d → Q v H') → te σ H Q
/-- a list or tuple that is read -/
def EvV (Z : Zx) (k : Bool) (te : TE) (ρ : List Sl) (ds : List Dt) : Prop := ∀ F0 H0 F H σ, Env Z.K F0 H0 F H σ ρ → Wish Z F0 H0 → ∀ Q : VK, (∀ p vs F' H', Nx F H F' H' → SqX Z.K k H' p vs → DpAll Z.K F' vs ds → Q (.ref p) H') → te σ H Q
/-- a list that stands by itself -/
def EvW (Z : Zx) (te : TE) (ρ : List Sl) (ds : List Dt) : Prop := ∀ F0 H0 F H σ, Env Z.K F0 H0 F H σ ρ → Wish Z F0 H0 → ∀ Q : VK, (∀ p vs F' H', Nx F H F' H' → H' p = some (.lst vs) → DpAll Z.K F' vs ds → Q (.ref p) H') → te σ H Q
/-- a new list -/
def EvL (Z : Zx) (te : TE) (ρ : List Sl) (ds : List Dt) : Prop := ∀ F0 H0 F H σ, Env Z.K F0 H0 F H σ ρ → Wish Z F0 H0 → ∀ Q : VK, (∀ p vs F' H', Nx F H F' H' → H p = none → F' p = none → H' p = some (.lst vs) → DpAll Z.K F' vs ds → Q (.ref p) H') → te σ H Q
def EvT (Z : Zx) (tt : TT) (ρ : List Sl) (b : Bool) : Prop := ∀ F0 H0 F H σ, Env Z.K F0 H0 F H σ ρ → Wish Z F0 H0 → ∀ Q : Bool → Hp → Prop, (∀ F' H', Nx F H F' H' → Q b H') → tt σ H Q
def EvA (Z : Zx) (ta : TA) (ρ : List Sl) (ds : List Dt) : Prop := ∀ F0 H0 F H σ, Env Z.K F0 H0 F H σ ρ → Wish Z F0 H0 → ∀ Q : List V → Hp → Prop, (∀ vs F' H', Nx F H F' H' → DpAll Z.K F' vs ds → Q vs H') → ta σ H Q
def EvO (Z : Zx) (to : TO) (ρ : List Sl) (o : Option Int) : Prop := ∀ F0 H0 F H σ, Env Z.K F0 H0 F H σ ρ → Wish Z F0 H0 → ∀ Q : Option Int → Hp → Prop, (∀ F' H', Nx F H F' H' → Q o H') → to σ H Q
/-- it gives no value: it raises -/
def EvX (Z : Zx) (te : TE) (ρ : List Sl) : Prop := ∀ F0 H0 F H σ, Env Z.K F0 H0 F H σ ρ → Wish Z F0 H0 → ∀ Q : VK, te σ H Q
/-- a two-place operation on values -/
def RD (Z : Zx) (r : R2) (x y z : Dt) : Prop := ∀ F H v u, Evl.Ex F H → Dp Z.K F v x → Dp Z.K F u y → ∀ Q : VK, (∀ w F' H', Nx F H F' H' → Dp Z.K F' w z → Q w H') → r v u H Q

section
variable {Z : Zx} {ρ : List Sl} {te ta tb tc : TE} {t u : TT} {r : R2} {x y z d : Dt} {ds es : List Dt}
theorem EvL.w (h : EvL Z te ρ ds) : EvW Z te ρ ds := fun F0 H0 F H σ e w Q q => h F0 H0 F H σ e w Q fun p vs F' H' n _ _ hp a => q p vs F' H' n hp a
theorem EvW.v (h : EvW Z te ρ ds) : EvV Z true te ρ ds := fun F0 H0 F H σ e w Q q => h F0 H0 F H σ e w Q fun p vs F' H' n hp a => q p vs F' H' n (Or.inl (Or.inl hp)) a
theorem EvL.v (h : EvL Z te ρ ds) : EvV Z true te ρ ds := h.w.v
theorem EvL.dt (h : EvL Z te ρ ds) : EvD Z te ρ (.list ds) := fun F0 H0 F H σ e w Q q => h F0 H0 F H σ e w Q fun p vs F' H' n hn hF hp a =>
  q (.ref p) _ H' (n.shut hn hF hp) (.lst (Or.inl (Or.inl upd_same)) (dpAll_ex (Evl.Ex.new hF) _ _ a))
theorem EvD.vk {k : Bool} (h : EvD Z te ρ (sqD k ds)) : EvV Z k te ρ ds := fun F0 H0 F H σ e w Q q => h F0 H0 F H σ e w Q fun v F' H' n a => by
  obtain ⟨p, vs, rfl, s, b⟩ := dp_sqx a
  exact q p vs F' H' n (sqx_ex n.i s) b
theorem EvD.v (h : EvD Z te ρ (.list ds)) : EvV Z true te ρ ds := EvD.vk (k := true) h
theorem EvD.tp (h : EvD Z te ρ (.tuple ds)) : EvV Z false te ρ ds := EvD.vk (k := false) h
inductive IsSq : Dt → Bool → List Dt → Prop where
  | l {ds : List Dt} : IsSq (.list ds) true ds
  | t {ds : List Dt} : IsSq (.tuple ds) false ds
theorem EvD.sq {k : Bool} (h : EvD Z te ρ d) (s : IsSq d k ds) : EvV Z k te ρ ds := by
  cases s with
  | l => exact h.v
  | t => exact h.tp
theorem EvD.is (h : EvD Z te ρ x) (e : x = y) : EvD Z te ρ y := e ▸ h
theorem EvT.is {a b : Bool} (h : EvT Z t ρ a) (e : a = b) : EvT Z t ρ b := e ▸ h

theorem d_var {i : Nat} (h : ρ[i]? = some (.dat d)) : EvD Z (tVar i) ρ d := fun F0 H0 F H σ e w Q q => by
  obtain ⟨v, h1, h2⟩ := e.dat h
  exact ⟨v, h1, q v F H (.refl e.g.i) h2⟩
theorem w_var {i : Nat} (h : ρ[i]? = some (.own ds)) : EvW Z (tVar i) ρ ds := fun F0 H0 F H σ e w Q q => by
  obtain ⟨p, vs, h1, _, _, h2, h3⟩ := e.own h
  exact ⟨.ref p, h1, q p vs F H (.refl e.g.i) h2 h3⟩
theorem d_int {i : Int} : EvD Z (tC (.int i)) ρ (.int i) := fun F0 H0 F H σ e w Q q => q _ F H (.refl e.g.i) (.int i)
theorem d_bl {b : Bool} : EvD Z (tC (.bl b)) ρ (.bool b) := fun F0 H0 F H σ e w Q q => q _ F H (.refl e.g.i) (.bl b)
theorem d_non : EvD Z (tC .non) ρ .none := fun F0 H0 F H σ e w Q q => q _ F H (.refl e.g.i) .non
theorem d_str {s : Str} : EvD Z (tC (.str s)) ρ (.str s) := fun F0 H0 F H σ e w Q q => q _ F H (.refl e.g.i) (.str s)
theorem d_op (ha : EvD Z ta ρ x) (hb : EvD Z tb ρ y) (hr : RD Z r x y z) : EvD Z (tOp r ta tb) ρ z := fun F0 H0 F H σ e w Q q =>
  ha F0 H0 F H σ e w _ fun v F1 H1 n1 p1 => hb F0 H0 F1 H1 σ (e.step n1) w _ fun u F2 H2 n2 p2 =>
    hr F2 H2 v u n2.i (dp_ex n2.f _ _ p1) p2 Q fun c F3 H3 n3 p3 => q c F3 H3 ((n1.trans n2).trans n3) p3
theorem d_un {f : V → Hp → VK → Prop} {i : Int} {g : Int → V} {j : Int} (ha : EvD Z ta ρ (.int i)) (hg : g i = .int j) : EvD Z (tUn (rU g) ta) ρ (.int j) := fun F0 H0 F H σ e w Q q =>
  ha F0 H0 F H σ e w _ fun v F1 H1 n1 p1 => ⟨i, dp_int p1, by rw [hg]; exact q _ F1 H1 n1 (.int j)⟩
theorem d_neg {i : Int} (ha : EvD Z ta ρ (.int i)) : EvD Z (tUn (rU fun i => .int (-i)) ta) ρ (.int (-i)) := d_un (f := fun _ _ _ => True) ha rfl
theorem ea_nil : EvA Z tNil ρ [] := fun F0 H0 F H σ e w Q q => q [] F H (.refl e.g.i) .nil
theorem ea_cons {tr : TA} (h : EvD Z te ρ d) (hr : EvA Z tr ρ ds) : EvA Z (tCons te tr) ρ (d :: ds) := fun F0 H0 F H σ e w Q q =>
  h F0 H0 F H σ e w _ fun v F1 H1 n1 p1 => hr F0 H0 F1 H1 σ (e.step n1) w _ fun vs F2 H2 n2 p2 => q _ F2 H2 (n1.trans n2) (.cons (dp_ex n2.f _ _ p1) p2)
theorem d_tup {tr : TA} (h : EvA Z tr ρ ds) (hl : ds.length ≤ 100000) : EvD Z (tTup tr) ρ (.tuple ds) := fun F0 H0 F H σ e w Q q =>
  h F0 H0 F H σ e w _ fun vs F1 H1 n1 p1 => ⟨Evl.sz_of (by rw [dpAll_len p1]; exact hl), fun p hp =>
    q (.ref p) _ _ (n1.trans (Nx.both n1.i hp)) (.tup (Or.inl (Or.inl upd_same)) (dpAll_ex (Evl.Ex.new (none_back n1.i hp)) _ _ p1))⟩
theorem l_lst {tr : TA} (h : EvA Z tr ρ ds) (hl : ds.length ≤ 100000) : EvL Z (tLst tr) ρ ds := fun F0 H0 F H σ e w Q q =>
  h F0 H0 F H σ e w _ fun vs F1 H1 n1 p1 => ⟨Evl.sz_of (by rw [dpAll_len p1]; exact hl), fun p hp =>
    q p vs F1 _ (n1.trans (Nx.own n1.i hp)) (none_back n1.h hp) (none_back n1.i hp) upd_same p1⟩

/-! ### operators -/
def rAddU (K : PySem.W.Frag) : R2 := fun x y H Q => rI0 (fun i j => .int (i + j)) x y H Q ∨ (rCat x y H Q ∨ rCatA K x y H Q)
theorem op_addU {X : Cx} : OpR X (binaryOp .Add) (rAddU X.K) := op_add.or (op_cat.or op_catA)
def rMulU (K : PySem.W.Frag) : R2 := fun x y H Q => rI CMul (fun i j => .int (i * j)) x y H Q ∨ (rI CMulW (fun i j => .int (i * j)) x y H Q ∨ (rRep x y H Q ∨ rRepT K x y H Q))
theorem op_mulU {X : Cx} : OpR X (binaryOp .Mult) (rMulU X.K) := op_mul.or (op_mulW.or (op_rep.or op_repT))
def rDivU : R2 := fun x y H Q => rI CDiv (fun i j => .int (i / j)) x y H Q ∨ rI CDivW (fun i j => .int (i / j)) x y H Q
theorem op_divU {X : Cx} : OpR X (binaryOp .FloorDiv) rDivU := op_fdiv.or op_fdivW
def rEqU (K : PySem.W.Frag) : R2 := rEqD K
theorem RD.int0 {g : Int → Int → Int} {i j : Int} : RD Z (rI0 fun i j => .int (g i j)) (.int i) (.int j) (.int (g i j)) := fun F H v u e hv hu Q q => ⟨i, j, dp_int hv, dp_int hu, q _ F H (.refl e) (.int _)⟩
theorem RD.bl0 {g : Int → Int → Bool} {i j : Int} : RD Z (rI0 fun i j => .bl (g i j)) (.int i) (.int j) (.bool (g i j)) := fun F H v u e hv hu Q q => ⟨i, j, dp_int hv, dp_int hu, q _ F H (.refl e) (.bl _)⟩
theorem RD.intC {C : Int → Int → Prop} {g : Int → Int → Int} {i j : Int} (h : C i j) : RD Z (rI C fun i j => .int (g i j)) (.int i) (.int j) (.int (g i j)) := fun F H v u e hv hu Q q => ⟨i, j, dp_int hv, dp_int hu, h, q _ F H (.refl e) (.int _)⟩
theorem RD.l {r' : R2} (h : RD Z r x y z) : RD Z (fun a b H Q => r a b H Q ∨ r' a b H Q) x y z := fun F H v u e hv hu Q q => Or.inl (h F H v u e hv hu Q q)
theorem RD.rr {r' : R2} (h : RD Z r x y z) : RD Z (fun a b H Q => r' a b H Q ∨ r a b H Q) x y z := fun F H v u e hv hu Q q => Or.inr (h F H v u e hv hu Q q)
theorem r_addI {i j : Int} : RD Z (rAddU Z.K) (.int i) (.int j) (.int (i + j)) := RD.l RD.int0
theorem r_subI {i j : Int} : RD Z (rI0 fun i j => .int (i - j)) (.int i) (.int j) (.int (i - j)) := RD.int0
theorem r_mulI {i j : Int} (h : CMul i j ∨ CMulW i j) : RD Z (rMulU Z.K) (.int i) (.int j) (.int (i * j)) := by
  rcases h with h | h
  · exact RD.l (RD.intC h)
  · exact RD.rr (RD.l (RD.intC h))
theorem r_divI {i j : Int} (h : CDiv i j ∨ CDivW i j) : RD Z rDivU (.int i) (.int j) (.int (i / j)) := by
  rcases h with h | h
  · exact RD.l (RD.intC h)
  · exact RD.rr (RD.intC h)
theorem r_modI {i j : Int} (h : 0 < j) : RD Z (rI (fun _ j => 0 < j) fun i j => .int (i % j)) (.int i) (.int j) (.int (i % j)) := RD.intC h
theorem r_powI {i j : Int} (h : CPow i j) : RD Z (rI CPow fun i j => .int (i ^ j.toNat)) (.int i) (.int j) (.int (i ^ j.toNat)) := RD.intC h
theorem r_addT {xs ys : List Dt} (h : xs.length + ys.length ≤ 100000) : RD Z (rAddU Z.K) (.tuple xs) (.tuple ys) (.tuple (xs ++ ys)) := RD.rr (RD.rr fun F H v u e hv hu Q q => by
  obtain ⟨a, vs, rfl, sa, aa⟩ := dp_tup hv
  obtain ⟨b, us, rfl, sb, ab⟩ := dp_tup hu
  refine ⟨a, b, vs, us, rfl, rfl, Evl.ex_t e sa, Evl.ex_t e sb, Evl.sz_of (by rw [dpAll_len aa, dpAll_len ab]; exact h), fun hz => ?_, fun _ hz => ?_, fun _ _ p hp => ?_⟩
  · subst hz; cases aa; exact q _ F H (.refl e) (.tup sb ab)
  · subst hz; cases ab; rw [List.append_nil] at q; exact q _ F H (.refl e) (.tup sa aa)
  · exact q _ _ _ (Nx.both e hp) (.tup (Or.inl (Or.inl upd_same)) (dpAll_ex (Evl.Ex.new (none_back e hp)) _ _ (dpAll_app aa ab))))
theorem r_repT {xs : List Dt} {k : Int} (h0 : xs ≠ []) (h1 : 2 ≤ k) (h2 : k ≤ 1000) (h3 : xs.length ≤ 1000) : RD Z (rMulU Z.K) (.tuple xs) (.int k) (.tuple (List.replicate k.toNat xs).flatten) := RD.rr (RD.rr (RD.rr fun F H v u e hv hu Q q => by
  obtain ⟨a, vs, rfl, sa, aa⟩ := dp_tup hv
  refine ⟨a, k, vs, rfl, dp_int hu, Evl.ex_t e sa, fun z => h0 (by subst z; cases aa; rfl), h1, h2, by rw [dpAll_len aa]; exact h3, fun p hp => ?_⟩
  exact q _ _ _ (Nx.both e hp) (.tup (Or.inl (Or.inl upd_same)) (dpAll_ex (Evl.Ex.new (none_back e hp)) _ _ (dpAll_rep aa _)))))
/-- xs + ys, lists that stand by themselves -/
theorem l_cat (ha : EvW Z ta ρ ds) (hb : EvW Z tb ρ es) (h : ds.length + es.length ≤ 100000) : EvL Z (tOp (rAddU Z.K) ta tb) ρ (ds ++ es) := fun F0 H0 F H σ e w Q q =>
  ha F0 H0 F H σ e w _ fun p vs F1 H1 n1 h1 a1 => hb F0 H0 F1 H1 σ (e.step n1) w _ fun p2 us F2 H2 n2 h2 a2 =>
    Or.inr (Or.inl ⟨p, p2, vs, us, rfl, rfl, n2.h p _ h1, h2, Evl.sz_of (by rw [dpAll_len a1, dpAll_len a2]; exact h), fun l hl => by
      exact q l _ F2 _ ((n1.trans n2).trans (Nx.own n2.i hl)) (none_back (n1.trans n2).h hl) (none_back n2.i hl) upd_same (dpAll_app (dpAll_ex n2.f _ _ a1) a2)⟩)
theorem l_rep {k : Int} (ha : EvW Z ta ρ ds) (hb : EvD Z tb ρ (.int k)) (h0 : 0 ≤ k) (h : ds.length * k.toNat ≤ 100000) (h1 : k ≤ 100000) : EvL Z (tOp (rMulU Z.K) ta tb) ρ (List.replicate k.toNat ds).flatten := fun F0 H0 F H σ e w Q q =>
  ha F0 H0 F H σ e w _ fun p vs F1 H1 n1 h1' a1 => hb F0 H0 F1 H1 σ (e.step n1) w _ fun v F2 H2 n2 p2 =>
    Or.inr (Or.inr (Or.inl ⟨p, k, vs, rfl, dp_int p2, n2.h p _ h1', by omega, by omega, Evl.sz_of (by rw [dpAll_len a1]; exact h), fun l hl => by
      have g := q l _ F2 _ ((n1.trans n2).trans (Nx.own (o := .lst (List.replicate k.toNat vs).flatten) n2.i hl)) (none_back (n1.trans n2).h hl) (none_back n2.i hl) upd_same (dpAll_rep (dpAll_ex n2.f _ _ a1) k.toNat)
      exact g⟩))
/-- == of data -/
def sh (d : Dt) : Prop := SeqAt.shaped d = true
theorem r_eqD (h1 : sh x) (h2 : sh y) : RD Z (rEqD Z.K) x y (.bool (PyData.eqv x y)) := fun F H v u e hv hu Q q => ⟨x, y, dp_ex e _ _ hv, dp_ex e _ _ hu, h1, h2, q _ F H (.refl e) (.bl _)⟩
theorem r_neD (h1 : sh x) (h2 : sh y) : RD Z (rNeD Z.K) x y (.bool (!PyData.eqv x y)) := fun F H v u e hv hu Q q => ⟨x, y, dp_ex e _ _ hv, dp_ex e _ _ hu, h1, h2, q _ F H (.refl e) (.bl _)⟩
theorem r_eqI {i j : Int} : RD Z (rEqD Z.K) (.int i) (.int j) (.bool (decide (i = j))) := by
  have h := r_eqD (Z := Z) (x := .int i) (y := .int j) rfl rfl
  simp only [PyData.eqv, Bool.beq_eq_decide_eq] at h
  exact h
theorem r_neI {i j : Int} : RD Z (rNeD Z.K) (.int i) (.int j) (.bool (!decide (i = j))) := by
  have h := r_neD (Z := Z) (x := .int i) (y := .int j) rfl rfl
  simp only [PyData.eqv, Bool.beq_eq_decide_eq] at h
  exact h
theorem r_eqB {i j : Bool} : RD Z (rEqD Z.K) (.bool i) (.bool j) (.bool (i == j)) := by
  have h := r_eqD (Z := Z) (x := .bool i) (y := .bool j) rfl rfl
  simp only [PyData.eqv] at h
  exact h
theorem r_neB {i j : Bool} : RD Z (rNeD Z.K) (.bool i) (.bool j) (.bool (!(i == j))) := by
  have h := r_neD (Z := Z) (x := .bool i) (y := .bool j) rfl rfl
  simp only [PyData.eqv] at h
  exact h
/-- == where one side is an own list -/
theorem d_eqV {k l : Bool} (ha : EvV Z k ta ρ ds) (hb : EvV Z l tb ρ es) (h1 : sh (sqD k ds)) (h2 : sh (sqD l es)) : EvD Z (tOp (rEqD Z.K) ta tb) ρ (.bool (PyData.eqv (sqD k ds) (sqD l es))) := fun F0 H0 F H σ e w Q q =>
  ha F0 H0 F H σ e w _ fun p vs F1 H1 n1 s1 a1 => hb F0 H0 F1 H1 σ (e.step n1) w _ fun p2 us F2 H2 n2 s2 a2 =>
    ⟨_, _, sqx_dp (sqx_ex n2.h s1) (dpAll_ex n2.i _ _ (dpAll_ex n2.f _ _ a1)), sqx_dp s2 (dpAll_ex n2.i _ _ a2), h1, h2, q _ F2 H2 (n1.trans n2) (.bl _)⟩
theorem d_neV {k l : Bool} (ha : EvV Z k ta ρ ds) (hb : EvV Z l tb ρ es) (h1 : sh (sqD k ds)) (h2 : sh (sqD l es)) : EvD Z (tOp (rNeD Z.K) ta tb) ρ (.bool (!PyData.eqv (sqD k ds) (sqD l es))) := fun F0 H0 F H σ e w Q q =>
  ha F0 H0 F H σ e w _ fun p vs F1 H1 n1 s1 a1 => hb F0 H0 F1 H1 σ (e.step n1) w _ fun p2 us F2 H2 n2 s2 a2 =>
    ⟨_, _, sqx_dp (sqx_ex n2.h s1) (dpAll_ex n2.i _ _ (dpAll_ex n2.f _ _ a1)), sqx_dp s2 (dpAll_ex n2.i _ _ a2), h1, h2, q _ F2 H2 (n1.trans n2) (.bl _)⟩
theorem r_lt {i j : Int} : RD Z (rI0 fun i j => .bl (decide (i < j))) (.int i) (.int j) (.bool (decide (i < j))) := RD.bl0
theorem r_le {i j : Int} : RD Z (rI0 fun i j => .bl (decide (i ≤ j))) (.int i) (.int j) (.bool (decide (i ≤ j))) := RD.bl0
theorem r_gt {i j : Int} : RD Z (rI0 fun i j => .bl (decide (j < i))) (.int i) (.int j) (.bool (decide (j < i))) := RD.bl0
theorem r_ge {i j : Int} : RD Z (rI0 fun i j => .bl (decide (j ≤ i))) (.int i) (.int j) (.bool (decide (j ≤ i))) := RD.bl0
/-- is None, is True -/
def isN : Dt → Bool
  | .none => true
  | _ => false
theorem dp_isN {K : PySem.W.Frag} {F : Hp} {v : V} {d : Dt} (h : Dp K F v d) : decide (v = .non) = isN d := by
  cases h <;> first | rfl | exact decide_eq_false (fun z => nomatch z)
def rIsU : R2 := fun x y H Q => (y = .non ∧ Q (.bl (decide (x = .non))) H) ∨ rIsB x y H Q
def rNotU : R2 := fun x y H Q => (y = .non ∧ Q (.bl (!decide (x = .non))) H) ∨ rNotB x y H Q
theorem op_isU {X : Cx} : OpR X (compareOp .Is) rIsU := op_isN.or op_isBl
theorem op_notU {X : Cx} : OpR X (compareOp .IsNot) rNotU := op_notN.or op_notBl
theorem r_isN : RD Z rIsU x .none (.bool (isN x)) := fun F H v u e hv hu Q q => Or.inl ⟨dp_non hu, by rw [dp_isN hv]; exact q _ F H (.refl e) (.bl _)⟩
theorem r_notN : RD Z rNotU x .none (.bool (!isN x)) := fun F H v u e hv hu Q q => Or.inl ⟨dp_non hu, by rw [dp_isN hv]; exact q _ F H (.refl e) (.bl _)⟩
theorem r_isB {a b : Bool} : RD Z rIsU (.bool a) (.bool b) (.bool (decide (a = b))) := fun F H v u e hv hu Q q => Or.inr ⟨a, b, dp_bl hv, dp_bl hu, q _ F H (.refl e) (.bl _)⟩
theorem r_notB {a b : Bool} : RD Z rNotU (.bool a) (.bool b) (.bool (!decide (a = b))) := fun F H v u e hv hu Q q => Or.inr ⟨a, b, dp_bl hv, dp_bl hu, q _ F H (.refl e) (.bl _)⟩

/-! ### items, slices -/
def rIxU (K : PySem.W.Frag) : R2 := fun x y H Q => rIxL K x y H Q ∨ rIxT K x y H Q
theorem ix_U {X : Cx} : IxR X (rIxU X.K) := ix_list.or ix_tup
theorem at_nat {xs : List V} {i : Int} {v : V} (h0 : 0 ≤ i) (h : xs[i.toNat]? = some v) : atI xs i = some v := at_of (j := i.toNat) (by omega) h
theorem d_ix {k : Bool} {i : Int} (ha : EvV Z k ta ρ ds) (hb : EvD Z tb ρ (.int i)) (h0 : 0 ≤ i) (h : ds[i.toNat]? = some d) : EvD Z (tOp (rIxU Z.K) ta tb) ρ d := fun F0 H0 F H σ e w Q q =>
  ha F0 H0 F H σ e w _ fun p vs F1 H1 n1 s1 a1 => hb F0 H0 F1 H1 σ (e.step n1) w _ fun v F2 H2 n2 p2 => by
    obtain ⟨c, h1, h2⟩ := dpAll_get (dpAll_ex n2.f _ _ a1) h
    have hv := dp_int p2
    cases k with
    | true => exact Or.inl ⟨p, vs, i, c, rfl, hv, Evl.ex_l n2.h s1, at_nat h0 h1, q c F2 H2 (n1.trans n2) h2⟩
    | false => exact Or.inr ⟨p, vs, i, c, rfl, hv, Evl.ex_t n2.h s1, at_nat h0 h1, q c F2 H2 (n1.trans n2) h2⟩
/-- from behind -/
theorem d_ixN {k : Bool} {i : Int} (ha : EvV Z k ta ρ ds) (hb : EvD Z tb ρ (.int i)) (h0 : i < 0) (h1' : -(ds.length : Int) ≤ i) (h : ds[(i + ds.length).toNat]? = some d) : EvD Z (tOp (rIxU Z.K) ta tb) ρ d := fun F0 H0 F H σ e w Q q =>
  ha F0 H0 F H σ e w _ fun p vs F1 H1 n1 s1 a1 => hb F0 H0 F1 H1 σ (e.step n1) w _ fun v F2 H2 n2 p2 => by
    obtain ⟨c, h1, h2⟩ := dpAll_get (dpAll_ex n2.f _ _ a1) h
    have hv := dp_int p2
    have hl := dpAll_len a1
    have hat : atI vs i = some c := by
      unfold atI ixN
      rw [if_neg (by omega), hl, if_pos h1']
      exact h1
    cases k with
    | true => exact Or.inl ⟨p, vs, i, c, rfl, hv, Evl.ex_l n2.h s1, hat, q c F2 H2 (n1.trans n2) h2⟩
    | false => exact Or.inr ⟨p, vs, i, c, rfl, hv, Evl.ex_t n2.h s1, hat, q c F2 H2 (n1.trans n2) h2⟩
theorem o_none : EvO Z tNoPart ρ Option.none := fun F0 H0 F H σ e w Q q => q F H (.refl e.g.i)
theorem o_some {i : Int} (h : EvD Z te ρ (.int i)) : EvO Z (tPart te) ρ (some i) := fun F0 H0 F H σ e w Q q => h F0 H0 F H σ e w _ fun v F1 H1 n1 p1 => ⟨i, dp_int p1, q F1 H1 n1⟩
def cutD (xs : List Dt) (lo hi : Option Int) : List Dt := (xs.drop (HT.sIx xs.length 0 lo)).take (HT.sIx xs.length xs.length hi - HT.sIx xs.length 0 lo)
end
end DL

set_option Elab.async false
set_option linter.all false
set_option maxRecDepth 100000
set_option maxHeartbeats 2000000
/-! DS: slices, calls, tests, statements, loops over data. -/
namespace DL
open PySem L2
section
variable {Z : Zx} {ρ : List Sl} {te ta tb tc : TE} {t u : TT} {r : R2} {x y z d : Dt} {ds es : List Dt}

/-! ### slices -/
def rSlU (K : PySem.W.Frag) : V → Option Int → Option Int → Hp → VK → Prop := fun x lo hi H Q => rSlL K x lo hi H Q ∨ rSlA K x lo hi H Q
theorem sl_U {X : Cx} : SlR X (rSlU X.K) := sl_list.or sl_tupA
theorem cut_all {K : PySem.W.Frag} {F : Hp} {vs : List V} (a : DpAll K F vs ds) (lo hi : Option Int) : DpAll K F (cutV vs lo hi) (cutD ds lo hi) := by
  unfold cutV cutD
  rw [dpAll_len a]
  exact dpAll_take _ (dpAll_drop _ a)
theorem l_slice {tl th : TO} {lo hi : Option Int} (h : EvV Z true te ρ ds) (hl : EvO Z tl ρ lo) (hh : EvO Z th ρ hi) : EvL Z (tSl (rSlU Z.K) te tl th) ρ (cutD ds lo hi) := fun F0 H0 F H σ e w Q q =>
  h F0 H0 F H σ e w _ fun p vs F1 H1 n1 s1 a1 => hl F0 H0 F1 H1 σ (e.step n1) w _ fun F2 H2 n2 => hh F0 H0 F2 H2 σ ((e.step n1).step n2) w _ fun F3 H3 n3 =>
    Or.inl ⟨p, vs, rfl, Evl.ex_l (n2.trans n3).h s1, fun l hl => q l _ F3 _ (((n1.trans n2).trans n3).trans (Nx.own n3.i hl)) (none_back ((n1.trans n2).trans n3).h hl) (none_back n3.i hl) upd_same (cut_all (dpAll_ex (n2.trans n3).f _ _ a1) lo hi)⟩
theorem d_slice {tl th : TO} {lo hi : Option Int} (h : EvD Z te ρ (.tuple ds)) (hl : EvO Z tl ρ lo) (hh : EvO Z th ρ hi) : EvD Z (tSl (rSlU Z.K) te tl th) ρ (.tuple (cutD ds lo hi)) := fun F0 H0 F H σ e w Q q =>
  h F0 H0 F H σ e w _ fun v F1 H1 n1 p1 => hl F0 H0 F1 H1 σ (e.step n1) w _ fun F2 H2 n2 => hh F0 H0 F2 H2 σ ((e.step n1).step n2) w _ fun F3 H3 n3 => by
    obtain ⟨p, vs, rfl, s1, a1⟩ := dp_tup p1
    have aa := dpAll_ex (n2.trans n3).f _ _ a1
    have ss := Evl.ex_t (n2.trans n3).f s1
    refine Or.inr ⟨p, vs, rfl, Evl.ex_t n3.i ss, fun hw => ?_, fun _ l hl => ?_⟩
    · have ec : cutD ds lo hi = ds := by
        unfold cutD
        rw [← dpAll_len aa, hw.1, hw.2, List.drop_zero, Nat.sub_zero, dpAll_len aa, List.take_length]
      rw [ec] at q
      exact q _ F3 H3 ((n1.trans n2).trans n3) (.tup ss aa)
    · exact q _ _ _ (((n1.trans n2).trans n3).trans (Nx.both n3.i hl)) (.tup (Or.inl (Or.inl upd_same)) (dpAll_ex (Evl.Ex.new (none_back n3.i hl)) _ _ (cut_all aa lo hi)))

/-! ### calls of built-ins -/
def rLen (K : PySem.W.Frag) : List V → Hp → VK → Prop := fun xs H Q => ∃ p ys, xs = [.ref p] ∧ (SqL K H p ys ∨ SqT K H p ys) ∧ Q (.int ys.length) H
theorem c_len {X : Cx} : CallR X (.builtin "len") (rLen X.K) := call_len_seq
theorem d_len {k : Bool} (h : EvV Z k ta ρ ds) : EvD Z (tCB (rLen Z.K) (tCons ta tNil)) ρ (.int (ds.length : Nat)) := fun F0 H0 F H σ e w Q q =>
  h F0 H0 F H σ e w _ fun p vs F1 H1 n1 s1 a1 => ⟨p, vs, rfl, sqx_or s1, by rw [dpAll_len a1]; exact q _ F1 H1 n1 (.int _)⟩
def rLst (K : PySem.W.Frag) : List V → Hp → VK → Prop := fun xs H Q => ∃ p ys, xs = [.ref p] ∧ (SqL K H p ys ∨ SqT K H p ys) ∧ ∀ l, H l = none → Q (.ref l) (upd H l (.lst ys))
theorem c_list {X : Cx} : CallR X (.type "list") (rLst X.K) := call_list_of
theorem l_list {k : Bool} (h : EvV Z k ta ρ ds) : EvL Z (tCB (rLst Z.K) (tCons ta tNil)) ρ ds := fun F0 H0 F H σ e w Q q =>
  h F0 H0 F H σ e w _ fun p vs F1 H1 n1 s1 a1 => ⟨p, vs, rfl, sqx_or s1, fun l hl => q l vs F1 _ (n1.trans (Nx.own n1.i hl)) (none_back n1.h hl) (none_back n1.i hl) upd_same a1⟩
def rTpl (K : PySem.W.Frag) : List V → Hp → VK → Prop := fun xs H Q => ∃ p ys, xs = [.ref p] ∧ ((SqL K H p ys ∧ ∀ l, H l = none → Q (.ref l) (upd H l (.tup ys))) ∨ (SqT K H p ys ∧ Q (.ref p) H))
theorem c_tuple {X : Cx} : CallR X (.type "tuple") (rTpl X.K) := call_tuple_of
theorem d_tuple (h : EvV Z true ta ρ ds) : EvD Z (tCB (rTpl Z.K) (tCons ta tNil)) ρ (.tuple ds) := fun F0 H0 F H σ e w Q q =>
  h F0 H0 F H σ e w _ fun p vs F1 H1 n1 s1 a1 => ⟨p, vs, rfl, Or.inl ⟨s1, fun l hl => q _ _ _ (n1.trans (Nx.both n1.i hl)) (.tup (Or.inl (Or.inl upd_same)) (dpAll_ex (Evl.Ex.new (none_back n1.i hl)) _ _ a1))⟩⟩
theorem d_tupleT (h : EvD Z ta ρ (.tuple ds)) : EvD Z (tCB (rTpl Z.K) (tCons ta tNil)) ρ (.tuple ds) := fun F0 H0 F H σ e w Q q =>
  h F0 H0 F H σ e w _ fun v F1 H1 n1 p1 => by
    obtain ⟨p, vs, rfl, s1, a1⟩ := dp_tup p1
    exact ⟨p, vs, rfl, Or.inr ⟨Evl.ex_t n1.i s1, q _ F1 H1 n1 (.tup s1 a1)⟩⟩
def rAbs : List V → Hp → VK → Prop := fun xs H Q => ∃ i, xs = [.int i] ∧ Q (.int (if i < 0 then -i else i)) H
theorem c_abs {X : Cx} : CallR X (.builtin "abs") rAbs := call_abs
def rMax2 : List V → Hp → VK → Prop := fun xs H Q => ∃ i j, xs = [.int i, .int j] ∧ Q (.int (if j > i then j else i)) H
theorem c_max2 {X : Cx} (hc : X.calm = true) : CallR X (.builtin "max") rMax2 := call_max2 hc
def rMin2 : List V → Hp → VK → Prop := fun xs H Q => ∃ i j, xs = [.int i, .int j] ∧ Q (.int (if j < i then j else i)) H
theorem c_min2 {X : Cx} (hc : X.calm = true) : CallR X (.builtin "min") rMin2 := call_min2 hc
def rInt1 : List V → Hp → VK → Prop := fun xs H Q => (∃ i, xs = [.int i] ∧ Q (.int i) H) ∨ ∃ k, xs = [.bl k] ∧ Q (.int (if k then 1 else 0)) H
theorem c_int {X : Cx} : CallR X (.type "int") rInt1 := call_int1
/-- a call that gives a flat value, by data -/
theorem d_cb {f : List V → Hp → VK → Prop} {tr : TA} {v : V} (h : EvA Z tr ρ ds) (hv : flat d = some v) (hf : ∀ F H vs Q, Evl.Ex F H → DpAll Z.K F vs ds → Q v H → f vs H Q) : EvD Z (tCB f tr) ρ d := fun F0 H0 F H σ e w Q q =>
  h F0 H0 F H σ e w _ fun vs F1 H1 n1 a1 => hf F1 H1 vs Q n1.i a1 (q v F1 H1 n1 (by
    cases d <;> (unfold flat at hv; first | (cases hv; constructor) | cases hv)))
theorem all1 {K : PySem.W.Frag} {F : Hp} {vs : List V} {v : V} (a : DpAll K F vs [x]) (f : flat x = some v) : vs = [v] := by
  cases a with
  | cons a b => cases b; rw [dp_flat a f]
theorem all2 {K : PySem.W.Frag} {F : Hp} {vs : List V} {v w : V} (a : DpAll K F vs [x, y]) (f : flat x = some v) (g : flat y = some w) : vs = [v, w] := by
  cases a with
  | cons a b => cases b with
    | cons b c => cases c; rw [dp_flat a f, dp_flat b g]
theorem d_abs {i : Int} (h : EvD Z ta ρ (.int i)) : EvD Z (tCB rAbs (tCons ta tNil)) ρ (.int (if i < 0 then -i else i)) :=
  d_cb (ea_cons h ea_nil) rfl fun F H vs Q _ a q => ⟨i, all1 a rfl, q⟩
theorem d_max2 {i j : Int} (h : EvD Z ta ρ (.int i)) (g : EvD Z tb ρ (.int j)) : EvD Z (tCB rMax2 (tCons ta (tCons tb tNil))) ρ (.int (max i j)) :=
  d_cb (ea_cons h (ea_cons g ea_nil)) rfl fun F H vs Q _ a q => ⟨i, j, all2 a rfl rfl, by
    rw [show (if j > i then j else i) = max i j by omega]; exact q⟩
theorem d_min2 {i j : Int} (h : EvD Z ta ρ (.int i)) (g : EvD Z tb ρ (.int j)) : EvD Z (tCB rMin2 (tCons ta (tCons tb tNil))) ρ (.int (min i j)) :=
  d_cb (ea_cons h (ea_cons g ea_nil)) rfl fun F H vs Q _ a q => ⟨i, j, all2 a rfl rfl, by
    rw [show (if j < i then j else i) = min i j by omega]; exact q⟩
theorem d_intI {i : Int} (h : EvD Z ta ρ (.int i)) : EvD Z (tCB rInt1 (tCons ta tNil)) ρ (.int i) :=
  d_cb (ea_cons h ea_nil) rfl fun F H vs Q _ a q => Or.inl ⟨i, all1 a rfl, q⟩
theorem d_intB {b : Bool} (h : EvD Z ta ρ (.bool b)) : EvD Z (tCB rInt1 (tCons ta tNil)) ρ (.int (if b then 1 else 0)) :=
  d_cb (ea_cons h ea_nil) rfl fun F H vs Q _ a q => Or.inr ⟨b, all1 a rfl, q⟩
theorem d_gcd {i j : Int} (h : EvD Z ta ρ (.int i)) (g : EvD Z tb ρ (.int j)) : EvD Z (tCB rGcd (tCons ta (tCons tb tNil))) ρ (.int ((Nat.gcd i.natAbs j.natAbs : Nat) : Int)) :=
  d_cb (ea_cons h (ea_cons g ea_nil)) rfl fun F H vs Q _ a q => ⟨i, j, all2 a rfl rfl, q⟩
/-- isinstance -/
def kindD : Dt → String
  | .none => "NoneType"
  | .bool _ => "bool"
  | .int _ => "int"
  | .str _ => "str"
  | .list _ => "list"
  | .tuple _ => "tuple"
  | .dict _ => "dict"
theorem ty_of {K : PySem.W.Frag} {H : Hp} {v : V} (h : Dp K H v d) : TyX K H v (.type (kindD d)) := by
  cases h with
  | non => exact .base .non
  | bl b => exact .base (.bl b)
  | int i => exact .base (.int i)
  | str s => exact .base (.str s)
  | lst s a =>
    rcases s with (g | ⟨o, g⟩) | ⟨o, its, n, g, c, _⟩
    · exact .base (.lst g)
    · exact .base (.frz g)
    · exact .kList g c
  | tup s a =>
    rcases s with (g | ⟨o, g⟩) | ⟨o, its, n, g, c, _⟩
    · exact .base (.tup g)
    · exact .fTuple g
    · exact .kTuple g c
theorem d_isi {T : String} {b : Bool} (h : EvD Z ta ρ d) (hb : kitB (kindD d) T = some b) : EvD Z (tCB (rIsi Z.K) (tCons ta (tCons (tC (.ty T)) tNil))) ρ (.bool b) := fun F0 H0 F H σ e w Q q =>
  h F0 H0 F H σ e w _ fun v F1 H1 n1 p1 => ⟨v, .ty T, _, _, b, rfl, .ty T, ty_of (dp_ex n1.i _ _ p1), kit_ty hb, q _ F1 H1 n1 (.bl b)⟩
theorem d_isiV {k : Bool} {T : String} {b : Bool} (h : EvV Z k ta ρ ds) (hb : kitB (if k then "list" else "tuple") T = some b) : EvD Z (tCB (rIsi Z.K) (tCons ta (tCons (tC (.ty T)) tNil))) ρ (.bool b) := fun F0 H0 F H σ e w Q q =>
  h F0 H0 F H σ e w _ fun p vs F1 H1 n1 s1 a1 => ⟨.ref p, .ty T, _, _, b, rfl, .ty T, ty_of (sqx_dp s1 (dpAll_ex n1.i _ _ a1)), kit_ty (by cases k <;> exact hb), q _ F1 H1 n1 (.bl b)⟩

/-! ### tests -/
def tTru (K : PySem.W.Frag) (ta : TE) : TT := fun σ H Q => ta σ H fun x H' => ∃ k, TruV K x H' k ∧ Q k H'
theorem pt_tru {X : Cx} {a : Expr} (ha : PE X a ta) (he : ∀ whole, isTrue a X.env whole = (do let v ← whole; standAt a.pos; holding [v] (truthy v)) := by intro _; rfl) : PT X a (tTru X.K ta) := pt_truth ha he
theorem pt_truK {X : Cx} {K : PySem.W.Frag} (hK : X.K = K) {a : Expr} (ha : PE X a ta) (he : ∀ whole, isTrue a X.env whole = (do let v ← whole; standAt a.pos; holding [v] (truthy v)) := by intro _; rfl) : PT X a (tTru K ta) := by
  subst hK
  exact pt_tru ha he
theorem all_empty {K : PySem.W.Frag} {F : Hp} {vs : List V} {ds : List Dt} (a : DpAll K F vs ds) : vs.isEmpty = ds.isEmpty := by cases a <;> rfl
/-- a datum's truth -/
inductive TruD : Dt → Bool → Prop where
  | non : TruD .none false
  | bl {b : Bool} : TruD (.bool b) b
  | int {i : Int} : TruD (.int i) (i != 0)
  | lst {ds : List Dt} : TruD (.list ds) (!ds.isEmpty)
  | tup {ds : List Dt} : TruD (.tuple ds) (!ds.isEmpty)
theorem t_tru {b : Bool} (h : EvD Z ta ρ d) (k : TruD d b) : EvT Z (tTru Z.K ta) ρ b := fun F0 H0 F H σ e w Q q =>
  h F0 H0 F H σ e w _ fun v F1 H1 n1 p1 => by
    cases k with
    | non => rw [dp_non p1]; exact ⟨_, rfl, q F1 H1 n1⟩
    | bl => rw [dp_bl p1]; exact ⟨_, rfl, q F1 H1 n1⟩
    | int => rw [dp_int p1]; exact ⟨_, rfl, q F1 H1 n1⟩
    | lst =>
      obtain ⟨p, vs, rfl, s, a⟩ := dp_list p1
      exact ⟨_, Or.inl ⟨vs, Evl.ex_l n1.i s, rfl⟩, by rw [all_empty a]; exact q F1 H1 n1⟩
    | tup =>
      obtain ⟨p, vs, rfl, s, a⟩ := dp_tup p1
      exact ⟨_, Or.inr (Or.inl ⟨vs, Evl.ex_t n1.i s, rfl⟩), by rw [all_empty a]; exact q F1 H1 n1⟩
theorem t_bl {b : Bool} (h : EvD Z ta ρ (.bool b)) : EvT Z (tTru Z.K ta) ρ b := fun F0 H0 F H σ e w Q q =>
  h F0 H0 F H σ e w _ fun v F1 H1 n1 p1 => by rw [dp_bl p1]; exact ⟨b, rfl, q F1 H1 n1⟩
theorem t_int {i : Int} (h : EvD Z ta ρ (.int i)) : EvT Z (tTru Z.K ta) ρ (i != 0) := fun F0 H0 F H σ e w Q q =>
  h F0 H0 F H σ e w _ fun v F1 H1 n1 p1 => by rw [dp_int p1]; exact ⟨_, rfl, q F1 H1 n1⟩
theorem t_seq {k : Bool} (h : EvV Z k ta ρ ds) : EvT Z (tTru Z.K ta) ρ (!ds.isEmpty) := fun F0 H0 F H σ e w Q q =>
  h F0 H0 F H σ e w _ fun p vs F1 H1 n1 s1 a1 => by
    have ee : vs.isEmpty = ds.isEmpty := by cases a1 <;> rfl
    rcases sqx_or s1 with s | s
    · exact ⟨!ds.isEmpty, Or.inl ⟨vs, s, by rw [ee]⟩, q F1 H1 n1⟩
    · exact ⟨!ds.isEmpty, Or.inr (Or.inl ⟨vs, s, by rw [ee]⟩), q F1 H1 n1⟩
theorem t_B {b : Bool} (h : EvD Z ta ρ (.bool b)) : EvT Z (tB ta) ρ b := fun F0 H0 F H σ e w Q q =>
  h F0 H0 F H σ e w _ fun v F1 H1 n1 p1 => ⟨b, dp_bl p1, q F1 H1 n1⟩
theorem t_T {b : Bool} (h : EvD Z ta ρ (.bool b)) : EvT Z (tTest ta) ρ b := fun F0 H0 F H σ e w Q q =>
  h F0 H0 F H σ e w _ fun v F1 H1 n1 p1 => ⟨b, dp_bl p1, q F1 H1 n1⟩
theorem t_not {a : Bool} (h : EvT Z t ρ a) : EvT Z (tNot t) ρ (!a) := fun F0 H0 F H σ e w Q q => h F0 H0 F H σ e w _ fun F1 H1 n1 => q F1 H1 n1
theorem t_and {a b : Bool} (h : EvT Z t ρ a) (g : a = true → EvT Z u ρ b) : EvT Z (tAnd t u) ρ (a && b) := fun F0 H0 F H σ e w Q q => h F0 H0 F H σ e w _ fun F1 H1 n1 => by
  cases a with
  | true => exact iteT (g rfl F0 H0 F1 H1 σ (e.step n1) w _ fun F2 H2 n2 => q F2 H2 (n1.trans n2))
  | false => exact iteF (q F1 H1 n1)
theorem t_or {a b : Bool} (h : EvT Z t ρ a) (g : a = false → EvT Z u ρ b) : EvT Z (tOr t u) ρ (a || b) := fun F0 H0 F H σ e w Q q => h F0 H0 F H σ e w _ fun F1 H1 n1 => by
  cases a with
  | true => exact iteT (q F1 H1 n1)
  | false => exact iteF (g rfl F0 H0 F1 H1 σ (e.step n1) w _ fun F2 H2 n2 => q F2 H2 (n1.trans n2))
theorem d_not {a : Bool} (h : EvD Z ta ρ (.bool a)) : EvD Z (tNotV ta) ρ (.bool (!a)) := fun F0 H0 F H σ e w Q q =>
  h F0 H0 F H σ e w _ fun v F1 H1 n1 p1 => ⟨a, dp_bl p1, q _ F1 H1 n1 (.bl _)⟩
theorem d_and {a b : Bool} (h : EvD Z ta ρ (.bool a)) (g : a = true → EvD Z tb ρ (.bool b)) : EvD Z (tAndV ta tb) ρ (.bool (a && b)) := fun F0 H0 F H σ e w Q q =>
  h F0 H0 F H σ e w _ fun v F1 H1 n1 p1 => ⟨a, dp_bl p1, by
    cases a with
    | true => exact iteT (g rfl F0 H0 F1 H1 σ (e.step n1) w _ fun v F2 H2 n2 p2 => q v F2 H2 (n1.trans n2) p2)
    | false => exact iteF (q _ F1 H1 n1 (.bl _))⟩
theorem d_or {a b : Bool} (h : EvD Z ta ρ (.bool a)) (g : a = false → EvD Z tb ρ (.bool b)) : EvD Z (tOrV ta tb) ρ (.bool (a || b)) := fun F0 H0 F H σ e w Q q =>
  h F0 H0 F H σ e w _ fun v F1 H1 n1 p1 => ⟨a, dp_bl p1, by
    cases a with
    | true => exact iteT (q _ F1 H1 n1 (.bl _))
    | false => exact iteF (g rfl F0 H0 F1 H1 σ (e.step n1) w _ fun v F2 H2 n2 p2 => q v F2 H2 (n1.trans n2) p2)⟩
theorem d_if {b : Bool} (h : EvT Z t ρ b) (h1 : b = true → EvD Z ta ρ x) (h2 : b = false → EvD Z tb ρ y) : EvD Z (tIf t ta tb) ρ (if b = true then x else y) := fun F0 H0 F H σ e w Q q =>
  h F0 H0 F H σ e w _ fun F1 H1 n1 => by
    cases b with
    | true => exact iteT (h1 rfl F0 H0 F1 H1 σ (e.step n1) w _ fun v F2 H2 n2 p2 => q v F2 H2 (n1.trans n2) p2)
    | false => exact iteF (h2 rfl F0 H0 F1 H1 σ (e.step n1) w _ fun v F2 H2 n2 p2 => q v F2 H2 (n1.trans n2) p2)
theorem d_chain {r r' : R2} {a b : Bool} (ha : EvD Z ta ρ x) (hb : EvD Z tb ρ y) (hr : RD Z r x y (.bool a)) (hc : a = true → EvD Z tc ρ z) (hr' : a = true → RD Z r' y z (.bool b)) : EvD Z (tChain r r' ta tb tc) ρ (.bool (a && b)) := fun F0 H0 F H σ e w Q q =>
  ha F0 H0 F H σ e w _ fun v F1 H1 n1 p1 => hb F0 H0 F1 H1 σ (e.step n1) w _ fun u F2 H2 n2 p2 => hr F2 H2 v u n2.i (dp_ex n2.f _ _ p1) p2 _ fun k F3 H3 n3 p3 => by
    have hk := dp_bl p3
    subst hk
    refine ⟨a, rfl, ?_⟩
    cases a with
    | true => exact iteT (hc rfl F0 H0 F3 H3 σ (e.step ((n1.trans n2).trans n3)) w _ fun c F4 H4 n4 p4 => hr' rfl F4 H4 u c n4.i (dp_ex (n3.trans n4).f _ _ p2) p4 Q fun k2 F5 H5 n5 p5 => q k2 F5 H5 ((((n1.trans n2).trans n3).trans n4).trans n5) p5)
    | false => exact iteF (q _ F3 H3 ((n1.trans n2).trans n3) (.bl _))

/-! ### the calls of own defs -/
/-- a promise: from the data of the arguments to the datum that comes -/
def spD {α : Type} (K : PySem.W.Frag) (args : α → List Dt) (ok : α → Prop) (f : α → Dt) : Sp := fun vs H Q _ => ∃ F a, Evl.Ex F H ∧ DpAll K F vs (args a) ∧ ok a ∧ ∀ v F' H', Nx F H F' H' → Dp K F' v (f a) → Q v H'
/-- .. a new list -/
def spL {α : Type} (K : PySem.W.Frag) (args : α → List Dt) (ok : α → Prop) (f : α → List Dt) : Sp := fun vs H Q _ => ∃ F a, Evl.Ex F H ∧ DpAll K F vs (args a) ∧ ok a ∧ ∀ p vs F' H', Nx F H F' H' → H p = none → F' p = none → H' p = some (.lst vs) → DpAll K F' vs (f a) → Q (.ref p) H'
theorem d_call {α : Type} {args : α → List Dt} {ok : α → Prop} {f : α → Dt} {E : XK} {tr : TA} (a : α) (h : EvA Z tr ρ (args a)) (ho : ok a) : EvD Z (tCall (spD Z.K args ok f) [] E tr) ρ (f a) := fun F0 H0 F H σ e w Q q =>
  h F0 H0 F H σ e w _ fun vs F1 H1 n1 a1 => ⟨F1, a, n1.i, by rw [List.append_nil]; exact a1, ho, fun v F2 H2 n2 p2 => q v F2 H2 (n1.trans n2) p2⟩
theorem l_call {α : Type} {args : α → List Dt} {ok : α → Prop} {f : α → List Dt} {E : XK} {tr : TA} (a : α) (h : EvA Z tr ρ (args a)) (ho : ok a) : EvL Z (tCall (spL Z.K args ok f) [] E tr) ρ (f a) := fun F0 H0 F H σ e w Q q =>
  h F0 H0 F H σ e w _ fun vs F1 H1 n1 a1 => ⟨F1, a, n1.i, by rw [List.append_nil]; exact a1, ho, fun p us F2 H2 n2 hn hF hp a2 => q p us F2 H2 (n1.trans n2) (none_back n1.h hn) hF hp a2⟩
/-- one argument an own list that is shut for the call alone: what comes is flat -/
theorem d_callW {α : Type} {args : α → List Dt} {ok : α → Prop} {f : α → Dt} {E : XK} {v : V} (a : α) (h : EvW Z ta ρ ds) (he : args a = [.list ds]) (ho : ok a) (hv : flat (f a) = some v) : EvD Z (tCall (spD Z.K args ok f) [] E (tCons ta tNil)) ρ (f a) := fun F0 H0 F H σ e w Q q =>
  h F0 H0 F H σ e w _ fun p vs F1 H1 n1 hp a1 => by
    by_cases hF : ∃ o, F1 p = some o
    · obtain ⟨o, ho'⟩ := hF
      have hpo := n1.i p o ho'
      rw [hp] at hpo
      rw [← Option.some.inj hpo] at ho'
      refine ⟨F1, a, n1.i, ?_, ho, fun u F2 H2 n2 p2 => q u F2 H2 (n1.trans n2) p2⟩
      rw [he]
      exact .cons (.lst (Or.inl (Or.inl ho')) a1) .nil
    · have hF : F1 p = none := by
        cases hq : F1 p with
        | none => rfl
        | some o => exact absurd ⟨o, hq⟩ hF
      refine ⟨upd F1 p (.lst vs), a, ex_shut n1.i hp, ?_, ho, fun u F2 H2 n2 p2 => ?_⟩
      · rw [he]
        exact .cons (.lst (Or.inl (Or.inl upd_same)) (dpAll_ex (Evl.Ex.new hF) _ _ a1)) .nil
      · have hu := dp_flat p2 hv
        subst hu
        refine q _ F1 H2 ⟨n1.f, n1.h.trans n2.h, n1.i.trans n2.h, n1.o⟩ ?_
        generalize f a = z at hv
        cases z <;> (unfold flat at hv; first | (cases hv; constructor) | cases hv)
end
end DL

set_option Elab.async false
set_option linter.all false
set_option maxRecDepth 100000
set_option maxHeartbeats 2000000
/-! DT: statements and loops over data; a def's promise. -/
namespace DL
open PySem PySem.Spec PyProof.Rows L2
structure Post where
  nx : List Sl → Prop
  rt : Dt → Prop
  rl : List Dt → Prop
  bk : List Sl → Prop
  ct : List Sl → Prop
structure Fits (Z : Zx) (F0 H0 F : Hp) (D : Ends) (P : Post) : Prop where
  nx : ∀ F' H' σ ρ, Evl.Ex F F' → P.nx ρ → Env Z.K F0 H0 F' H' σ ρ → D.nx σ H'
  rt : ∀ d v F' H', P.rt d → Nx F0 H0 F' H' → Dp Z.K F' v d → D.rt v H'
  rl : ∀ ds p vs F' H', P.rl ds → Nx F0 H0 F' H' → H0 p = none → F' p = none → H' p = some (.lst vs) → DpAll Z.K F' vs ds → D.rt (.ref p) H'
  bk : ∀ F' H' σ ρ, Evl.Ex F F' → P.bk ρ → Env Z.K F0 H0 F' H' σ ρ → D.bk σ H'
  ct : ∀ F' H' σ ρ, Evl.Ex F F' → P.ct ρ → Env Z.K F0 H0 F' H' σ ρ → D.ct σ H'
def EvS (Z : Zx) (t : TS) (ρ : List Sl) (P : Post) : Prop := ∀ F0 H0 F H σ D, Env Z.K F0 H0 F H σ ρ → Wish Z F0 H0 → Fits Z F0 H0 F D P → t D σ H
theorem Fits.step {Z : Zx} {F0 H0 F F1 : Hp} {D : Ends} {P : Post} (f : Fits Z F0 H0 F D P) (e : Evl.Ex F F1) : Fits Z F0 H0 F1 D P :=
  ⟨fun F' H' σ ρ x => f.nx F' H' σ ρ (e.trans x), f.rt, f.rl, fun F' H' σ ρ x => f.bk F' H' σ ρ (e.trans x), fun F' H' σ ρ x => f.ct F' H' σ ρ (e.trans x)⟩
section
variable {Z : Zx} {ρ ρ1 ρ2 : List Sl} {te ta tb tc : TE} {t u : TT} {r : R2} {x y z d : Dt} {ds es : List Dt} {P : Post} {ts tu tw : TS}
theorem s_next (h : P.nx ρ) : EvS Z tNext ρ P := fun F0 H0 F H σ D e w f => f.nx F H σ ρ (.refl _) h e
theorem s_break (h : P.bk ρ) : EvS Z tBreak ρ P := fun F0 H0 F H σ D e w f => f.bk F H σ ρ (.refl _) h e
theorem s_cont (h : P.ct ρ) : EvS Z tCont ρ P := fun F0 H0 F H σ D e w f => f.ct F H σ ρ (.refl _) h e
/-- a statement, then the rest: what stands between is said once -/
theorem s_cut (M : List Sl → Prop) (h1 : EvS Z ts ρ { P with nx := M }) (h2 : ∀ ρ1, M ρ1 → EvS Z tu ρ1 P) : EvS Z (tSeq ts tu) ρ P := fun F0 H0 F H σ D e w f =>
  h1 F0 H0 F H σ _ e w ⟨fun F' H' σ' ρ' x m e' => h2 ρ' m F0 H0 F' H' σ' D e' w (f.step x), f.rt, f.rl, f.bk, f.ct⟩
/-- one way behind it -/
theorem s_seq (h1 : EvS Z ts ρ { P with nx := fun ρ' => ρ' = ρ1 }) (h2 : EvS Z tu ρ1 P) : EvS Z (tSeq ts tu) ρ P := s_cut _ h1 fun _ e => by
  subst e
  exact h2
theorem s_imp {P' : Post} (h : EvS Z ts ρ P') (i1 : ∀ ρ, P'.nx ρ → P.nx ρ) (i2 : ∀ d, P'.rt d → P.rt d) (i3 : ∀ d, P'.rl d → P.rl d) (i4 : ∀ ρ, P'.bk ρ → P.bk ρ) (i5 : ∀ ρ, P'.ct ρ → P.ct ρ) : EvS Z ts ρ P := fun F0 H0 F H σ D e w f =>
  h F0 H0 F H σ D e w ⟨fun F' H' σ' ρ' x m => f.nx F' H' σ' ρ' x (i1 _ m), fun d v F' H' m => f.rt d v F' H' (i2 _ m), fun d v vs F' H' m => f.rl d v vs F' H' (i3 _ m), fun F' H' σ' ρ' x m => f.bk F' H' σ' ρ' x (i4 _ m), fun F' H' σ' ρ' x m => f.ct F' H' σ' ρ' x (i5 _ m)⟩
/-- what is known may be less -/
theorem s_weak (w : Weak ρ ρ1) (h : EvS Z ts ρ1 P) : EvS Z ts ρ P := fun F0 H0 F H σ D e w' f => h F0 H0 F H σ D (e.weak w) w' f
theorem s_shut {i : Nat} (hi : ρ[i]? = some (.own ds)) (h : EvS Z ts (ρ.set i (.dat (.list ds))) P) : EvS Z ts ρ P := fun F0 H0 F H σ D e w f => by
  obtain ⟨p, vs, hp, h0, hF, hH, hA⟩ := e.own hi
  have n2 : Evl.Ex F (upd F p (.lst vs)) := Evl.Ex.new hF
  obtain ⟨F', e'⟩ : ∃ F', F' = upd F p (.lst vs) ∧ Env Z.K F0 H0 F' H σ (ρ.set i (.dat (.list ds))) := by
    refine ⟨_, rfl, e.g.shut h0 hF hH, by rw [List.length_set]; exact e.len, fun j x hx => ?_, fun a b ds es q ha hb sa sb => ?_⟩
    · rcases get_set hx with ⟨rfl, rfl, hl⟩ | ⟨ne, hx⟩
      · exact ⟨_, hp, .ref p, rfl, .lst (Or.inl (Or.inl upd_same)) (dpAll_ex n2 _ _ hA)⟩
      · obtain ⟨o, h1, h2⟩ := e.sl j x hx
        refine ⟨o, h1, ?_⟩
        cases x with
        | any => exact True.intro
        | ref a => exact h2
        | dat d =>
          obtain ⟨v, e, q⟩ := h2
          exact ⟨v, e, dp_ex n2 _ _ q⟩
        | own fs =>
          obtain ⟨r, us, e2, g0, gF, gH, gA⟩ := h2
          subst e2
          refine ⟨r, us, rfl, g0, ?_, gH, dpAll_ex n2 _ _ gA⟩
          rw [upd_ne (fun z => ne (e.ap j i _ _ p hx hi (by rw [h1, z]) hp))]
          exact gF
    · rcases get_set ha with ⟨_, z, _⟩ | ⟨na, ha⟩
      · cases z
      · rcases get_set hb with ⟨_, z, _⟩ | ⟨nb, hb⟩
        · cases z
        · exact e.ap a b ds es q ha hb sa sb
  obtain ⟨rfl, e'⟩ := e'
  exact h F0 H0 _ H σ D e' w (f.step n2)
/-! ### targets -/
def EvG (Z : Zx) (g : TG) (d : Dt) (ρ ρ' : List Sl) : Prop := ∀ F0 H0 F H σ v, Env Z.K F0 H0 F H σ ρ → Dp Z.K F v d → ∀ Q : L2.St → Hp → Prop, (∀ σ', Env Z.K F0 H0 F H σ' ρ' → Q σ' H) → g v σ H Q
def EvGs (Z : Zx) (g : TGs) (ds : List Dt) (ρ ρ' : List Sl) : Prop := ∀ F0 H0 F H σ vs, Env Z.K F0 H0 F H σ ρ → DpAll Z.K F vs ds → ∀ Q : L2.St → Hp → Prop, (∀ σ', Env Z.K F0 H0 F H σ' ρ' → Q σ' H) → g vs σ H Q
theorem g_name {i : Nat} : EvG Z (gName i) d ρ (ρ.set i (.dat d)) := fun F0 H0 F H σ v e p Q q => q _ (e.set p)
theorem gs_nil : EvGs Z gNil [] ρ ρ := fun F0 H0 F H σ vs e p Q q => by cases p; exact ⟨rfl, q σ e⟩
theorem gs_cons {g : TG} {gs : TGs} (h : EvG Z g d ρ ρ1) (hs : EvGs Z gs ds ρ1 ρ2) : EvGs Z (gCons g gs) (d :: ds) ρ ρ2 := fun F0 H0 F H σ vs e p Q q => by
  cases p with
  | cons a b => exact ⟨_, _, rfl, h F0 H0 F H σ _ e a _ fun σ' e' => hs F0 H0 F H σ' _ e' b Q q⟩
theorem g_tup {n : Nat} {gs : TGs} (hl : ds.length = n) (h : EvGs Z gs ds ρ ρ1) : EvG Z (gTup Z.K n gs) (.tuple ds) ρ ρ1 := fun F0 H0 F H σ v e p Q q => by
  obtain ⟨a, vs, rfl, s, aa⟩ := dp_tup p
  exact ⟨a, vs, rfl, Evl.ex_t e.g.i s, (dpAll_len aa).trans hl, h F0 H0 F H σ vs e aa Q q⟩
/-! ### assignments, return -/
theorem s_asg {g : TG} (h : EvD Z te ρ d) (hg : EvG Z g d ρ ρ1) (k : P.nx ρ1) : EvS Z (tAsg te g) ρ P := fun F0 H0 F H σ D e w f =>
  h F0 H0 F H σ e w _ fun v F1 H1 n1 p1 => hg F0 H0 F1 H1 σ v (e.step n1) p1 _ fun σ' e' => f.nx F1 H1 σ' ρ1 n1.f k e'
theorem s_asgL {i : Nat} (h : EvL Z te ρ ds) (k : P.nx (ρ.set i (.own ds))) : EvS Z (tAsg te (gName i)) ρ P := fun F0 H0 F H σ D e w f =>
  h F0 H0 F H σ e w _ fun p vs F1 H1 n1 hn hF hp a1 => f.nx F1 H1 _ _ n1.f k (e.setOwn n1 hn hF hp a1)
theorem s_par {i j : Nat} {tr : TA} (h : EvA Z tr ρ [x, y]) (k : P.nx ((ρ.set i (.dat x)).set j (.dat y))) : EvS Z (tPar i j tr) ρ P := fun F0 H0 F H σ D e w f =>
  h F0 H0 F H σ e w _ fun vs F1 H1 n1 a1 => by
    cases a1 with
    | cons a b => cases b with
      | cons b c =>
        cases c
        exact ⟨_, _, rfl, f.nx F1 H1 _ _ n1.f k (((e.step n1).set a).set b)⟩
theorem s_aug {i : Nat} {g : Int → Int → Int} {a b : Int} (hx : ρ[i]? = some (.dat (.int a))) (h : EvD Z te ρ (.int b)) (k : P.nx (ρ.set i (.dat (.int (g a b))))) : EvS Z (tAug i te (ipI g)) ρ P := fun F0 H0 F H σ D e w f => by
  obtain ⟨v, h1, h2⟩ := e.dat hx
  exact ⟨v, h1, h F0 H0 F H σ e w _ fun u F1 H1 n1 p1 => ⟨a, b, dp_int h2, dp_int p1, f.nx F1 H1 _ _ n1.f k ((e.step n1).set (.int _))⟩⟩
theorem s_ret (h : EvD Z te ρ d) (k : P.rt d) : EvS Z (tRet te) ρ P := fun F0 H0 F H σ D e w f =>
  h F0 H0 F H σ e w _ fun v F1 H1 n1 p1 => f.rt d v F1 H1 k (e.g.trans n1) p1
theorem s_retL (h : EvL Z te ρ ds) (k : P.rl ds) : EvS Z (tRet te) ρ P := fun F0 H0 F H σ D e w f =>
  h F0 H0 F H σ e w _ fun p vs F1 H1 n1 hn hF hp a1 => f.rl ds p vs F1 H1 k (e.g.trans n1) (none_back e.g.h hn) hF hp a1
/-- return xs, xs an own list -/
theorem s_retO {i : Nat} (h : ρ[i]? = some (.own ds)) (k : P.rl ds) : EvS Z (tRet (tVar i)) ρ P := fun F0 H0 F H σ D e w f => by
  obtain ⟨p, vs, h1, h0, hF, hp, a⟩ := e.own h
  exact ⟨.ref p, h1, f.rl ds p vs F H k e.g h0 hF hp a⟩
theorem s_retN (k : P.rt .none) : EvS Z tRetN ρ P := fun F0 H0 F H σ D e w f => f.rt .none .non F H k e.g .non
theorem s_drop (h : EvD Z te ρ d) (k : P.nx ρ) : EvS Z (tDrop te) ρ P := fun F0 H0 F H σ D e w f =>
  h F0 H0 F H σ e w _ fun v F1 H1 n1 p1 => f.nx F1 H1 σ ρ n1.f k (e.step n1)
theorem s_raise (h : EvX Z te ρ) : EvS Z (tDrop te) ρ P := fun F0 H0 F H σ D e w f => h F0 H0 F H σ e w _
theorem s_retX (h : EvX Z te ρ) : EvS Z (tRet te) ρ P := fun F0 H0 F H σ D e w f => h F0 H0 F H σ e w _
theorem s_asgX {g : TG} (h : EvX Z te ρ) : EvS Z (tAsg te g) ρ P := fun F0 H0 F H σ D e w f => h F0 H0 F H σ e w _
/-- xs.append(e), xs an own list -/
theorem s_app {i : Nat} (hi : ρ[i]? = some (.own ds)) (h : EvD Z te ρ d) (hz : ds.length < 100000) (k : P.nx (ρ.set i (.own (ds ++ [d])))) : EvS Z (tDrop (tBM Z.K "list" rAppend (tVar i) (tCons te tNil))) ρ P := fun F0 H0 F H σ D e w f => by
  obtain ⟨p, vs, h1, h0, hF, hp, a⟩ := e.own hi
  refine ⟨.ref p, h1, Or.inl ⟨rfl, vs, Or.inl (Or.inl hp)⟩, h F0 H0 F H σ e w _ fun v F1 H1 n1 p1 => ?_⟩
  have e1 := e.step n1
  exact ⟨p, vs, v, rfl, rfl, n1.h p _ hp, Evl.sz_lt (by rw [dpAll_len a]; exact hz), f.nx F1 _ σ _ n1.f k (e1.mut hi h1 (dpAll_app (dpAll_ex n1.f _ _ a) (.cons p1 .nil)))⟩
/-- xs[j] = e, xs an own list -/
theorem s_setI {i : Nat} {j : Int} (hi : ρ[i]? = some (.own ds)) (h : EvD Z te ρ d) (hj : EvD Z tb ρ (.int j)) (h0 : 0 ≤ j) (h1 : j.toNat < ds.length) (k : P.nx (ρ.set i (.own (ds.set j.toNat d)))) : EvS Z (tAsg te (gSub (tVar i) tb rSetL)) ρ P := fun F0 H0 F H σ D e w f =>
  h F0 H0 F H σ e w _ fun v F1 H1 n1 p1 => by
    have e1 := e.step n1
    obtain ⟨p, vs, g1, g0, hF, hp, a⟩ := e1.own hi
    refine ⟨.ref p, g1, hj F0 H0 F1 H1 σ e1 w _ fun u F2 H2 n2 p2 => ?_⟩
    exact ⟨p, vs, j, j.toNat, rfl, dp_int p2, n2.h p _ hp, by
      have := Evl.ixN_nat (n := vs.length) (j := j.toNat) (by rw [dpAll_len a]; exact h1)
      rw [show ((j.toNat : Nat) : Int) = j by omega] at this
      exact this, f.nx F2 _ σ _ (n1.trans n2).f k ((e1.step n2).mut hi g1 (dpAll_set (dp_ex n2.f _ _ p1) _ (dpAll_ex n2.f _ _ a)))⟩
theorem s_clear {i : Nat} (hi : ρ[i]? = some (.own ds)) (k : P.nx (ρ.set i (.own []))) : EvS Z (tDrop (tBM0 Z.K "list" rClear (tVar i))) ρ P := fun F0 H0 F H σ D e w f => by
  obtain ⟨p, vs, h1, h0, hF, hp, a⟩ := e.own hi
  exact ⟨.ref p, h1, Or.inl ⟨rfl, vs, Or.inl (Or.inl hp)⟩, p, vs, rfl, rfl, hp, f.nx F _ σ _ (.refl _) k (e.mut hi h1 .nil)⟩

/-! ### if -/
theorem s_if {b : Bool} (h : EvT Z t ρ b) (h1 : b = true → EvS Z tu ρ P) (h2 : b = false → EvS Z tw ρ P) : EvS Z (tIfS t tu tw) ρ P := fun F0 H0 F H σ D e w f =>
  h F0 H0 F H σ e w _ fun F1 H1 n1 => by
    cases b with
    | true => exact iteT (h1 rfl F0 H0 F1 H1 σ D (e.step n1) w (f.step n1.f))
    | false => exact iteF (h2 rfl F0 H0 F1 H1 σ D (e.step n1) w (f.step n1.f))
/-- an if, then the rest; the rest is shown on both ways -/
theorem s_if2 {b : Bool} (h : EvT Z t ρ b) (h1 : b = true → EvS Z (tSeq tu ts) ρ P) (h2 : b = false → EvS Z (tSeq tw ts) ρ P) : EvS Z (tSeq (tIfS t tu tw) ts) ρ P := fun F0 H0 F H σ D e w f =>
  h F0 H0 F H σ e w _ fun F1 H1 n1 => by
    cases b with
    | true => exact iteT (h1 rfl F0 H0 F1 H1 σ D (e.step n1) w (f.step n1.f))
    | false => exact iteF (h2 rfl F0 H0 F1 H1 σ D (e.step n1) w (f.step n1.f))
theorem s_nil2 (h : EvS Z ts ρ P) : EvS Z (tSeq tNext ts) ρ P := h
/-- if c: return .. -/
theorem s_ifRet {b : Bool} (h : EvT Z t ρ b) (h1 : b = true → EvS Z tu ρ { P with nx := fun _ => False }) (h2 : b = false → EvS Z ts ρ P) : EvS Z (tSeq (tIfS t tu tNext) ts) ρ P := s_if2 h (fun hb => s_cut (fun _ => False) (h1 hb) fun _ z => z.elim) h2
/-- if c: x = e -/
theorem s_ifAsg {b : Bool} {i : Nat} (h : EvT Z t ρ b) (h1 : b = true → EvD Z te ρ x) (h2 : b = false → ρ.set i (.dat x) = ρ) (k : EvS Z ts (ρ.set i (.dat x)) P) : EvS Z (tSeq (tIfS t (tAsg te (gName i)) tNext) ts) ρ P :=
  s_if2 h (fun hb => s_seq (s_asg (h1 hb) g_name rfl) k) (fun hb => s_nil2 (by
    rw [h2 hb] at k
    exact k))

/-! ### what a loop goes over -/
structure Yields (K : PySem.W.Frag) (J : It) (F : Hp) (ds : List Dt) : Prop where
  go : ∀ F' H' i, Evl.Ex F F' → Evl.Ex F' H' → i < ds.length → J.go i H'
  stop : ∀ F' H', Evl.Ex F F' → Evl.Ex F' H' → J.stop ds.length H'
  yld : ∀ F' H' i x H3 d, Evl.Ex F F' → Evl.Ex F' H' → J.yld i H' x H3 → ds[i]? = some d → ∃ F3, Nx F' H' F3 H3 ∧ Dp K F3 x d
def EvI (Z : Zx) (wi : TI) (ρ : List Sl) (ds : List Dt) : Prop := ∀ F0 H0 F H σ, Env Z.K F0 H0 F H σ ρ → Wish Z F0 H0 → ∀ R : It → Hp → Prop, (∀ J F' H', Nx F H F' H' → Yields Z.K J F' ds → R J H') → wi σ H R
def rangeD (lo : Int) (n : Nat) : List Dt := (List.range n).map fun i => .int (lo + (i : Nat))
theorem rangeD_len {lo : Int} {n : Nat} : (rangeD lo n).length = n := by unfold rangeD; rw [List.length_map, List.length_range]
theorem rangeD_get {lo : Int} {n i : Nat} {d : Dt} (e : (rangeD lo n)[i]? = some d) : i < n ∧ d = .int (lo + (i : Nat)) := by
  unfold rangeD at e
  rw [List.getElem?_map] at e
  by_cases h : i < n
  · rw [List.getElem?_range h] at e
    exact ⟨h, (Option.some.inj e).symm⟩
  · rw [List.getElem?_eq_none (by rw [List.length_range]; omega)] at e
    cases e
theorem yields_range {K : PySem.W.Frag} {F : Hp} {lo : Int} {n : Nat} : Yields K (Itr lo n) F (rangeD lo n) where
  go := fun F' H' i _ _ h => by rw [rangeD_len] at h; exact h
  stop := fun F' H' _ _ => by rw [rangeD_len]; exact Nat.le_refl _
  yld := fun F' H' i x H3 d _ e y hd => by
    obtain ⟨e1, e2⟩ := y
    subst e1 e2
    rw [(rangeD_get hd).2]
    exact ⟨F', .refl e, .int _⟩
theorem i_rng1 {tr : TA} {n : Int} (h : EvA Z tr ρ [.int n]) (hn : n ≤ 100000 ∧ -100000 ≤ n) : EvI Z (iRng1 tr) ρ (rangeD 0 n.toNat) := fun F0 H0 F H σ e w R q =>
  h F0 H0 F H σ e w _ fun vs F1 H1 n1 a1 => ⟨n, all1 a1 rfl, by omega, by omega, q _ F1 H1 n1 yields_range⟩
theorem i_rng2 {tr : TA} {m n : Int} (h : EvA Z tr ρ [.int m, .int n]) (hn : n ≤ 100000 ∧ -100000 ≤ n) (hm : m ≤ 100000 ∧ -100000 ≤ m) : EvI Z (iRng2 tr) ρ (rangeD m (n - m).toNat) := fun F0 H0 F H σ e w R q =>
  h F0 H0 F H σ e w _ fun vs F1 H1 n1 a1 => ⟨m, n, all2 a1 rfl rfl, by omega, q _ F1 H1 n1 yields_range⟩
theorem sql_one {K : PySem.W.Frag} {H : Hp} {p : Addr} {xs : List V} (h : SqL K H p xs) {F' H' : Hp} (e : Evl.Ex H H') : SqL K H' p xs := Evl.ex_l e h
theorem yields_list {K : PySem.W.Frag} {F : Hp} {p : Addr} {vs : List V} (s : SqL K F p vs) (a : DpAll K F vs ds) : Yields K (Itl K p) F ds where
  go := fun F' H' i e1 e2 h => by
    have hl := dpAll_len a
    exact ⟨vs, vs[i]'(by omega), Evl.ex_l (e1.trans e2) s, List.getElem?_eq_getElem _⟩
  stop := fun F' H' e1 e2 => ⟨vs, Evl.ex_l (e1.trans e2) s, by rw [dpAll_len a]; exact Nat.le_refl _⟩
  yld := fun F' H' i x H3 d e1 e2 y hd => by
    obtain ⟨q1, q2⟩ := y
    subst q1
    obtain ⟨v, h1, h2⟩ := dpAll_get a hd
    have := q2 vs (Evl.ex_l (e1.trans e2) s)
    rw [h1] at this
    rw [← Option.some.inj this]
    exact ⟨F', .refl e2, dp_ex e1 _ _ h2⟩
theorem yields_tup {K : PySem.W.Frag} {F : Hp} {p : Addr} {vs : List V} (s : SqT K F p vs) (a : DpAll K F vs ds) : Yields K (Itt K p) F ds where
  go := fun F' H' i e1 e2 h => by
    have hl := dpAll_len a
    exact ⟨vs, vs[i]'(by omega), Evl.ex_t (e1.trans e2) s, List.getElem?_eq_getElem _⟩
  stop := fun F' H' e1 e2 => ⟨vs, Evl.ex_t (e1.trans e2) s, by rw [dpAll_len a]; exact Nat.le_refl _⟩
  yld := fun F' H' i x H3 d e1 e2 y hd => by
    obtain ⟨q1, q2⟩ := y
    subst q1
    obtain ⟨v, h1, h2⟩ := dpAll_get a hd
    have := q2 vs (Evl.ex_t (e1.trans e2) s)
    rw [h1] at this
    rw [← Option.some.inj this]
    exact ⟨F', .refl e2, dp_ex e1 _ _ h2⟩
def iU (K : PySem.W.Frag) (tl : TE) : TI := fun σ H R => tl σ H fun x H1 => (∃ a, x = .ref a ∧ (∃ xs, SqL K H1 a xs) ∧ R (Itl K a) H1) ∨ (∃ a, x = .ref a ∧ (∃ xs, SqT K H1 a xs) ∧ R (Itt K a) H1)
theorem i_seq {k : Bool} (h : EvD Z te ρ (sqD k ds)) : EvI Z (iU Z.K te) ρ ds := fun F0 H0 F H σ e w R q =>
  h F0 H0 F H σ e w _ fun v F1 H1 n1 p1 => by
    cases k with
    | true =>
      obtain ⟨p, vs, rfl, s, a⟩ := dp_list p1
      exact Or.inl ⟨p, rfl, ⟨vs, Evl.ex_l n1.i s⟩, q _ F1 H1 n1 (yields_list s a)⟩
    | false =>
      obtain ⟨p, vs, rfl, s, a⟩ := dp_tup p1
      exact Or.inr ⟨p, rfl, ⟨vs, Evl.ex_t n1.i s⟩, q _ F1 H1 n1 (yields_tup s a)⟩
theorem pi_U {X : Cx} {tg l : Expr} {tl : TE} (hl : PE X l tl) : PI X tg l (iU X.K tl) := by
  refine ⟨fun pins s σ H R I h => ?_⟩
  refine thn (hl.run pins s σ H _ I h) fun v s1 ⟨x, H1, I1, r1, q1⟩ => ?_
  rcases q1 with ⟨a, e, ⟨xs, hq⟩, q⟩ | ⟨a, e, ⟨xs, hq⟩, q⟩
  · subst e
    cases r1
    obtain ⟨its, rv, p, hz⟩ := I1.list hq
    refine wpAny_pyIter_list p.isList ?_
    refine ⟨s1.heap.objs.size, [s1.heap.objs.size], _, _, H1, rfl, I1.kept (t' := s1.toks) fun b o e => Heap.get?_push_of_some _ e, turn_list a _, ⟨_, Heap.get?_push_size _ rfl, rfl, rfl⟩, fun b hb => ?_, q⟩
    have e : b = s1.heap.objs.size := by simpa using hb
    subst e
    exact I1.fpOk (Nat.le_refl _) (I1.hok.fresh (Nat.le_refl _))
  · subst e
    cases r1
    obtain ⟨its, rv, p, hz⟩ := I1.tuple hq
    refine wpAny_pyIter_tuple (show s1.heap.IsTuple a its.toArray from p) ?_
    refine ⟨s1.heap.objs.size, [s1.heap.objs.size], _, _, H1, rfl, I1.kept (t' := s1.toks) fun b o e => Heap.get?_push_of_some _ e, turn_tuple a _, ⟨_, Heap.get?_push_size _ rfl, rfl, rfl⟩, fun b hb => ?_, q⟩
    have e : b = s1.heap.objs.size := by simpa using hb
    subst e
    exact I1.fpOk (Nat.le_refl _) (I1.hok.fresh (Nat.le_refl _))

/-! ### for -/
theorem s_for {wi : TI} {g : TG} (h : EvI Z wi ρ ds) (I : Nat → List Sl → Prop) (h0 : I 0 ρ)
    (hs : ∀ i d ρ', ds[i]? = some d → I i ρ' → ∃ ρ2, EvG Z g d ρ' ρ2 ∧ EvS Z ts ρ2 { P with nx := I (i + 1), ct := I (i + 1), bk := P.nx }) (hd : ∀ ρ', I ds.length ρ' → P.nx ρ') : EvS Z (tFor wi g ts) ρ P := fun F0 H0 F H σ D e w f =>
  h F0 H0 F H σ e w _ fun J F1 H1 n1 y => by
    refine ⟨fun i m σ' H' => m = ds.length - i ∧ i ≤ ds.length ∧ ∃ F' ρ', Evl.Ex F1 F' ∧ Env Z.K F0 H0 F' H' σ' ρ' ∧ I i ρ', ⟨ds.length, by simp, Nat.zero_le _, F1, ρ, .refl _, e.step n1, h0⟩, ?_⟩
    rintro i m σ' H' ⟨rfl, hi, F', ρ', e1, en, p⟩
    by_cases hlt : i < ds.length
    · refine .inr ⟨y.go F' H' i e1 en.g.i hlt, fun σ2 H2 => i + 1 ≤ ds.length ∧ ∃ F' ρ', Evl.Ex F1 F' ∧ Env Z.K F0 H0 F' H2 σ2 ρ' ∧ I (i + 1) ρ', fun σ2 H2 hN => ⟨ds.length - (i + 1), by omega, rfl, hN⟩, fun x H3 hy => ?_⟩
      obtain ⟨F3, n3, p3⟩ := y.yld F' H' i x H3 ds[i] e1 en.g.i hy (List.getElem?_eq_getElem hlt)
      obtain ⟨ρ2, hg, hb⟩ := hs i ds[i] ρ' (List.getElem?_eq_getElem hlt) p
      have e3 := en.step n3
      refine hg F0 H0 F3 H3 σ' x e3 p3 _ fun σ4 e4 => hb F0 H0 F3 H3 σ4 _ e4 w ⟨fun F5 H5 σ5 ρ5 x5 m5 e5 => ⟨hlt, F5, ρ5, (e1.trans n3.f).trans x5, e5, m5⟩, f.rt, f.rl, fun F5 H5 σ5 ρ5 x5 m5 e5 => f.nx F5 H5 σ5 ρ5 (((n1.f.trans e1).trans n3.f).trans x5) m5 e5, fun F5 H5 σ5 ρ5 x5 m5 e5 => ⟨hlt, F5, ρ5, (e1.trans n3.f).trans x5, e5, m5⟩⟩
    · have ei : i = ds.length := by omega
      subst ei
      exact .inl ⟨y.stop F' H' e1 en.g.i, f.nx F' H' σ' ρ' (n1.f.trans e1) (hd ρ' p) en⟩
/-- while, by a word and a number that falls -/
theorem s_while (I : Nat → List Sl → Prop) (m0 : Nat) (h0 : I m0 ρ)
    (hs : ∀ m ρ', I m ρ' → ∃ b, EvT Z t ρ' b ∧ (b = true → EvS Z ts ρ' { P with nx := fun ρ2 => ∃ m', m' < m ∧ I m' ρ2, ct := fun ρ2 => ∃ m', m' < m ∧ I m' ρ2, bk := P.nx }) ∧ (b = false → P.nx ρ')) : EvS Z (tWhile t ts) ρ P := fun F0 H0 F H σ D e w f => by
  refine ⟨fun m σ' H' => ∃ F' ρ', Evl.Ex F F' ∧ Env Z.K F0 H0 F' H' σ' ρ' ∧ I m ρ', ⟨m0, F, ρ, .refl _, e, h0⟩, ?_⟩
  rintro m σ' H' ⟨F', ρ', e1, en, p⟩
  obtain ⟨b, ht, h1, h2⟩ := hs m ρ' p
  refine ht F0 H0 F' H' σ' en w _ fun F2 H2 n2 => ?_
  have e2 := en.step n2
  cases b with
  | true =>
    refine iteT ⟨fun σ3 H3 => ∃ m', m' < m ∧ ∃ F' ρ', Evl.Ex F F' ∧ Env Z.K F0 H0 F' H3 σ3 ρ' ∧ I m' ρ', fun σ3 H3 hN => hN, h1 rfl F0 H0 F2 H2 σ' _ e2 w ⟨fun F5 H5 σ5 ρ5 x5 m5 e5 => ?_, f.rt, f.rl, fun F5 H5 σ5 ρ5 x5 m5 e5 => f.nx F5 H5 σ5 ρ5 ((e1.trans n2.f).trans x5) m5 e5, fun F5 H5 σ5 ρ5 x5 m5 e5 => ?_⟩⟩
    · obtain ⟨m', hm, i5⟩ := m5
      exact ⟨m', hm, F5, ρ5, (e1.trans n2.f).trans x5, e5, i5⟩
    · obtain ⟨m', hm, i5⟩ := m5
      exact ⟨m', hm, F5, ρ5, (e1.trans n2.f).trans x5, e5, i5⟩
  | false => exact iteF (f.nx F2 H2 σ' ρ' (e1.trans n2.f) (h2 rfl) e2)
/-! ### comprehensions -/
/-- what is kept: of each datum, whether, and what -/
def keptD (ds : List Dt) (f : Dt → Bool) (v : Dt → Dt) : List Dt := (ds.filter f).map v
theorem kept_take {ds : List Dt} {f : Dt → Bool} {v : Dt → Dt} {i : Nat} {d : Dt} (h : ds[i]? = some d) : keptD (ds.take (i + 1)) f v = keptD (ds.take i) f v ++ (if f d = true then [v d] else []) := by
  unfold keptD
  rw [List.take_add_one, h, List.filter_append, List.map_append]
  show _ ++ ((List.filter f [d]).map v) = _
  by_cases hf : f d = true
  · rw [List.filter_cons_of_pos hf, if_pos hf]; rfl
  · rw [List.filter_cons_of_neg hf, if_neg hf]; rfl
theorem kept_len (ds : List Dt) (f : Dt → Bool) (v : Dt → Dt) : (keptD ds f v).length ≤ ds.length := by
  unfold keptD
  rw [List.length_map]
  exact List.length_filter_le _ _
/-- the slots of a comprehension's own names are forgotten -/
theorem env_wipe {K : PySem.W.Frag} {F0 H0 F H : Hp} {σ : L2.St} : ∀ {ns : List Nat} {ρ : List Sl}, Env K F0 H0 F H σ ρ → Env K F0 H0 F H (wipe σ ns) (ns.foldr (fun n r => r.set n .any) ρ)
  | [], _, e => e
  | n :: ns, ρ, e => (env_wipe (ns := ns) e).setAny
/-- a target within a comprehension: only its own slots are touched -/
def EvGw (Z : Zx) (g : TG) (ns : List Nat) (d : Dt) (ρ ρ' : List Sl) : Prop := ∀ F0 H0 F H σ v, Env Z.K F0 H0 F H (wipe σ ns) ρ → Dp Z.K F v d → ∀ Q : L2.St → Hp → Prop, (∀ σ', wipe σ' ns = wipe σ ns → Env Z.K F0 H0 F H σ' ρ' → Q σ' H) → g v (wipe σ ns) H Q
theorem gw_name {i : Nat} : EvGw Z (gName i) [i] d ρ (ρ.set i (.dat d)) := fun F0 H0 F H σ v e p Q q => q _ (by
  show (((σ.set i none).set i (some v)).set i none) = σ.set i none
  rw [List.set_set, List.set_set]) (e.set p)
theorem gw_tup2 {i j : Nat} (hij : i ≠ j) : EvGw Z (gTup Z.K 2 (gCons (gName i) (gCons (gName j) gNil))) [i, j] (.tuple [x, y]) ρ ((ρ.set i (.dat x)).set j (.dat y)) := fun F0 H0 F H σ v e p Q q => by
  obtain ⟨a, vs, rfl, s, aa⟩ := dp_tup p
  cases aa with
  | cons a1 b1 => cases b1 with
    | cons a2 c =>
      cases c
      refine ⟨a, _, rfl, Evl.ex_t e.g.i s, rfl, _, _, rfl, _, _, rfl, rfl, q _ ?_ ((e.set a1).set a2)⟩
      show ((((((σ.set j none).set i none).set i _).set j _).set j none).set i none) = ((σ.set j none).set i none)
      apply List.ext_getElem?; intro n; simp only [List.getElem?_set, List.length_set]; repeat' split <;> simp_all
theorem l_lc {wi : TI} {g : TG} {tt : TT} {ns : List Nat} (f : Dt → Bool) (v : Dt → Dt) (h : EvI Z wi ρ ds) (hz : ds.length ≤ 50000)
    (hs : ∀ (i : Nat) (d : Dt), ds[i]? = some d → ∃ ρ2, EvGw Z g ns d (ns.foldr (fun n r => r.set n .any) ρ) ρ2 ∧ EvT Z tt ρ2 (f d) ∧ (f d = true → EvD Z te ρ2 (v d))) : EvL Z (tLc wi g tt te ns) ρ (keptD ds f v) := fun F0 H0 F H σ e w Q q =>
  h F0 H0 F H σ e w _ fun J F1 H1 n1 y => fun C hC => by
    have e1 := e.step n1
    refine ⟨fun i m H' => m = ds.length - i ∧ i ≤ ds.length ∧ ∃ F' vs, Nx F1 H1 F' H' ∧ F' C = none ∧ H' C = some (.lst vs) ∧ DpAll Z.K F' vs (keptD (ds.take i) f v), ⟨ds.length, by simp, Nat.zero_le _, F1, [], Nx.own n1.i hC, none_back n1.i hC, upd_same, by
      rw [List.take_zero]; exact .nil⟩, ?_⟩
    rintro i m H' ⟨rfl, hi, F', vs, n2, hF, hH, ha⟩
    by_cases hlt : i < ds.length
    · refine .inr ⟨y.go F' H' i n2.f n2.i hlt, fun H2 => i + 1 ≤ ds.length ∧ ∃ F' vs, Nx F1 H1 F' H2 ∧ F' C = none ∧ H2 C = some (.lst vs) ∧ DpAll Z.K F' vs (keptD (ds.take (i + 1)) f v), fun H2 hN => ⟨ds.length - (i + 1), by omega, rfl, hN⟩, fun x H3 hy => ?_⟩
      obtain ⟨F3, n3, p3⟩ := y.yld F' H' i x H3 ds[i] n2.f n2.i hy (List.getElem?_eq_getElem hlt)
      obtain ⟨ρ2, hg, ht, hv⟩ := hs i ds[i] (List.getElem?_eq_getElem hlt)
      have hC3 : F3 C = none := n3.o C (by rw [hH]; exact fun z => nomatch z) hF
      have hH3 := n3.h C _ hH
      refine hg F0 H0 F3 H3 σ x (env_wipe ((e1.step n2).step n3)) p3 _ fun σ4 hw4 e4 => ⟨hw4, ht F0 H0 F3 H3 σ4 e4 w _ fun F4 H4 n4 => ?_⟩
      have hC4 : F4 C = none := n4.o C (by rw [hH3]; exact fun z => nomatch z) hC3
      have hH4 := n4.h C _ hH3
      have n24 := (n2.trans n3).trans n4
      have ek := kept_take (f := f) (v := v) (List.getElem?_eq_getElem hlt)
      cases hf : f ds[i] with
      | true =>
        refine iteT (hv hf F0 H0 F4 H4 σ4 (e4.step n4) w _ fun u F5 H5 n5 p5 => ?_)
        have hC5 : F5 C = none := n5.o C (by rw [hH4]; exact fun z => nomatch z) hC4
        have hH5 := n5.h C _ hH4
        have n25 := n24.trans n5
        refine ⟨vs, hH5, Evl.sz_lt ?_, hlt, F5, vs ++ [u], ⟨n25.f, Evl.Ex.mut n25.h hC, Evl.Ex.mut n25.i hC5, n25.o⟩, hC5, upd_same, ?_⟩
        · rw [dpAll_len ha]
          have h1 := kept_len (ds.take i) f v
          rw [List.length_take] at h1
          omega
        · rw [ek, if_pos hf]
          exact dpAll_app (dpAll_ex ((n3.f.trans n4.f).trans n5.f) _ _ ha) (.cons p5 .nil)
      | false =>
        refine iteF ⟨hlt, F4, vs, n24, hC4, hH4, ?_⟩
        rw [ek, if_neg (by rw [hf]; exact Bool.false_ne_true), List.append_nil]
        exact dpAll_ex (n3.f.trans n4.f) _ _ ha
    · have ei : i = ds.length := by omega
      subst ei
      refine .inl ⟨y.stop F' H' n2.f n2.i, ?_⟩
      rw [List.take_length] at ha
      exact q C vs F' H' (n1.trans n2) (none_back n1.h hC) hF hH ha
end

/-! ### a def -/
section
variable {P : Program} {w : World} {K : PySem.W.Frag} {mg : Str → Option Value} {base : Heap}
def slots0 (N : List Str) (ds : List Dt) : List Sl := ds.map Sl.dat ++ List.replicate (N.length - ds.length) Sl.any
theorem env_start {N : List Str} {F H : Hp} {vs : List V} {ds : List Dt} (e : Evl.Ex F H) (a : DpAll K F vs ds) : Env K F H F H (L2.start N vs) (slots0 N ds) := by
  have hl := dpAll_len a
  refine ⟨.refl e, ?_, fun i x h => ?_, fun i j ds' es p hi => ?_⟩
  · unfold L2.start slots0
    rw [List.length_append, List.length_append, List.length_map, List.length_map, List.length_replicate, List.length_replicate, hl]
  · unfold L2.start slots0 at *
    by_cases hi : i < ds.length
    · rw [List.getElem?_append_left (by rw [List.length_map]; exact hi), List.getElem?_map, List.getElem?_eq_getElem hi] at h
      have hx : Sl.dat ds[i] = x := Option.some.inj h
      obtain ⟨v, h1, h2⟩ := dpAll_get a (List.getElem?_eq_getElem hi)
      refine ⟨some v, ?_, ?_⟩
      · rw [List.getElem?_append_left (by rw [List.length_map, hl]; exact hi), List.getElem?_map, h1]
        rfl
      · rw [← hx]
        exact ⟨v, rfl, h2⟩
    · rw [List.getElem?_append_right (by rw [List.length_map]; omega), List.length_map, List.getElem?_replicate] at h
      by_cases hj : i - ds.length < N.length - ds.length
      · rw [if_pos hj] at h
        have hx : Sl.any = x := Option.some.inj h
        refine ⟨none, ?_, by rw [← hx]; exact True.intro⟩
        rw [List.getElem?_append_right (by rw [List.length_map, hl]; omega), List.length_map, List.getElem?_replicate, hl, if_pos hj]
      · rw [if_neg hj] at h
        cases h
  · unfold slots0 at hi
    by_cases h : i < ds.length
    · rw [List.getElem?_append_left (by rw [List.length_map]; exact h), List.getElem?_map, List.getElem?_eq_getElem h] at hi
      cases hi
    · rw [List.getElem?_append_right (by rw [List.length_map]; omega), List.length_map, List.getElem?_replicate] at hi
      split at hi <;> cases hi
abbrev Z0 (K : PySem.W.Frag) : Zx := ⟨K, fun _ _ _ => False, fun _ => False⟩
theorem wish0 {F0 H0 : Hp} : Wish (Z0 K) F0 H0 := fun _ _ _ h => h.elim
/-- what a def's body is to reach: the datum d comes -/
def toD (d : Dt) : Post := ⟨fun _ => d = .none, fun x => x = d, fun ds => d = .list ds, fun _ => False, fun _ => False⟩
def toL (es : List Dt) : Post := ⟨fun _ => False, fun _ => False, fun ds => ds = es, fun _ => False, fun _ => False⟩
theorem fn_D {α : Type} {x qual : Str} {st : Stmt} {f : Addr} {fd : FuncData} {N ps : List Str} {k : Nat} {args : α → List Dt} {ok : α → Prop} {g : α → Dt} (Fu : Fun K x qual st f fd) (S : FnScope N ps (defScope st)) (hn : ∀ a, (args a).length = ps.length)
    (hbody : ∀ (cdv : Value) (A : Around) (outer : List PySem.Env) (s : Shared) (H : Hp) (E : XK), Room k (A.deeper (envOfC qual (defScope st) s.heap.objs.size f cdv)) →
      ∃ t, PSs (cxOf CX0 P w K mg base N qual (defScope st) f cdv A outer s H E).nox (defBody st) t ∧ ∀ a, ok a → EvS (Z0 K) t (slots0 N (args a)) (toD (g a))) : FnOk P w K mg base CX0 (k + 1) f fd ps (spD K args ok g) := by
  refine Fu.ok S (fun vs H Q E h => ?_) (fun cdv A outer s H vs Q E hr h => ?_)
  · obtain ⟨F, a, _, da, _⟩ := h
    exact (dpAll_len da).trans (hn a)
  · obtain ⟨F, a, e, da, ho, q⟩ := h
    obtain ⟨t, ht, hev⟩ := hbody cdv A outer s H E hr
    refine ⟨t, ht, hev a ho F H F H _ _ (env_start e da) wish0 ⟨fun F' H' σ ρ _ hd en => ?_, fun d v F' H' hd n p => ?_, fun ds p vs F' H' hd n h0 hF hp a => ?_, fun _ _ _ _ _ z => z.elim, fun _ _ _ _ _ z => z.elim⟩⟩
    · exact q _ F' H' en.g (by rw [show g a = .none from hd]; exact .non)
    · exact q v F' H' n (by rw [← show d = g a from hd]; exact p)
    · exact q _ _ H' (n.shut h0 hF hp) (by
        rw [show g _ = .list ds from hd]
        exact .lst (Or.inl (Or.inl upd_same)) (dpAll_ex (Evl.Ex.new hF) _ _ a))
theorem fn_L {α : Type} {x qual : Str} {st : Stmt} {f : Addr} {fd : FuncData} {N ps : List Str} {k : Nat} {args : α → List Dt} {ok : α → Prop} {g : α → List Dt} (Fu : Fun K x qual st f fd) (S : FnScope N ps (defScope st)) (hn : ∀ a, (args a).length = ps.length)
    (hbody : ∀ (cdv : Value) (A : Around) (outer : List PySem.Env) (s : Shared) (H : Hp) (E : XK), Room k (A.deeper (envOfC qual (defScope st) s.heap.objs.size f cdv)) →
      ∃ t, PSs (cxOf CX0 P w K mg base N qual (defScope st) f cdv A outer s H E).nox (defBody st) t ∧ ∀ a, ok a → EvS (Z0 K) t (slots0 N (args a)) (toL (g a))) : FnOk P w K mg base CX0 (k + 1) f fd ps (spL K args ok g) := by
  refine Fu.ok S (fun vs H Q E h => ?_) (fun cdv A outer s H vs Q E hr h => ?_)
  · obtain ⟨F, a, _, da, _⟩ := h
    exact (dpAll_len da).trans (hn a)
  · obtain ⟨F, a, e, da, ho, q⟩ := h
    obtain ⟨t, ht, hev⟩ := hbody cdv A outer s H E hr
    refine ⟨t, ht, hev a ho F H F H _ _ (env_start e da) wish0 ⟨fun F' H' σ ρ _ hd en => hd.elim, fun d v F' H' hd n p => hd.elim, fun ds p vs F' H' hd n h0 hF hp a => ?_, fun _ _ _ _ _ z => z.elim, fun _ _ _ _ _ z => z.elim⟩⟩
    exact q p vs F' H' n h0 hF hp (by rw [← show ds = g _ from hd]; exact a)
end
end DL

set_option Elab.async false
set_option linter.all false
set_option maxRecDepth 100000
set_option maxHeartbeats 2000000
/-! DU: a def of the text by its name; the end. -/
namespace DL
open PySem PySem.Spec PyProof.Rows L2
section
variable {P : Program} {w : World} {K : PySem.W.Frag} {mg : Str → Option Value} {base : Heap}
/-- the def that the name holds keeps the promise -/
structure Fn1 (P : Program) (w : World) (K : PySem.W.Frag) (mg : Str → Option Value) (base : Heap) (k : Nat) (x : Str) (ps : List Str) (sp : Sp) : Prop where
  ex : ∃ f fd, FnOk P w K mg base CX0 k f fd ps sp ∧ mg x = some (.ref f) ∧ PySem.W.keepIn K (.ref f) = true ∧ (∃ (oc : Value) (od : Option Addr) (osl : Array (Option Value)), K.lookup f = some ⟨oc, od, .func fd, osl⟩) ∧ ∀ us : List Value, us.length = ps.length → bindArgs fd ⟨us, []⟩ = pure (ps.zip us)
theorem pe_fn {X : Cx} {k : Nat} {x : Str} {ps : List Str} {sp : Sp} {p pos : Pos} {e : Expr} {es : List Expr} {t : TA} (G : Fn1 X.prog X.w X.K X.mg X.base k x ps sp) (hr : Room k X.A) (hg : Gl X x)
    (ha : PA X (e :: es) t) (hdb : (x == ("__debug__" : Str)) = false := by decide) (he : starEach (e :: es) X.env = (false, eval e X.env) :: starEach es X.env := by rfl) (hpl : (backTo pos (starEach es X.env)).any (·.1) = false := by rfl) :
    PE X (.Call (.Name x p) (e :: es) [] pos) (tCall sp [] E0 t) := by
  obtain ⟨f, fd, F, hm, hk, _, hb⟩ := G.ex
  exact pe_call F hr hg hm hk (Binds.all hb) .nil pass0 ha hdb he hpl
theorem fn1 {k : Nat} {x qual : Str} {st : Stmt} {f : Addr} {fd : FuncData} {ps : List Str} {sp : Sp} (Fu : Fun K x qual st f fd) (hm : mg x = some (.ref f)) (hb : ∀ us : List Value, us.length = ps.length → bindArgs fd ⟨us, []⟩ = pure (ps.zip us)) (F : FnOk P w K mg base CX0 k f fd ps sp) : Fn1 P w K mg base k x ps sp :=
  ⟨f, fd, F, hm, Fu.kp, by obtain ⟨oc, od, _, _, _, _, _, _, osl, _, h, _⟩ := Fu.ex; exact ⟨oc, od, osl, h⟩, hb⟩
/-- a def as it stands behind the top -/
structure DefAt (K : PySem.W.Frag) (mg : Str → Option Value) (x qual : Str) (st : Stmt) (ps : List Str) : Prop where
  ex : ∃ f fd, Fun K x qual st f fd ∧ mg x = some (.ref f) ∧ ∀ us : List Value, us.length = ps.length → bindArgs fd ⟨us, []⟩ = pure (ps.zip us)
theorem def1 {h : Heap} (X : K.In h) (G : h.Ns mainGlobals mg) {x qual : Str} {st : Stmt} {f : Addr} {oc : Value} {od an : Option Addr} {osl : Array (Option Value)} {kV doc pm cdv ct : Value} {ps : List Str}
    (hb : ∀ (kV doc pm : Value) (an : Option Addr) (cdv ct : Value) (us : List Value), us.length = ps.length → bindArgs (PySem.W.fnOf x qual (defArgs st) (defBody st) (defScope st) .none kV doc pm an cdv ct) ⟨us, []⟩ = pure (ps.zip us))
    (a : PySem.W.nsIn K mainGlobals x = some (some (.ref f))) (l : K.lookup f = some ⟨oc, od, .func (PySem.W.fnOf x qual (defArgs st) (defBody st) (defScope st) .none kV doc pm an cdv ct), osl⟩)
    (c : PySem.W.codeIn K cdv qual = true) (k : PySem.W.keepIn K (.ref f) = true) : DefAt K mg x qual st ps := by
  have Fu := fun_mk (st := st) l c k
  exact ⟨f, _, Fu, PySem.W.mg_of X G a, hb _ _ _ _ _ _⟩
theorem DefAt.D {x qual : Str} {st : Stmt} {N ps : List Str} {k : Nat} {α : Type} {args : α → List Dt} {ok : α → Prop} {g : α → Dt} (At : DefAt K mg x qual st ps) (S : FnScope N ps (defScope st)) (hn : ∀ a, (args a).length = ps.length)
    (hbody : ∀ (f : Addr) (cdv : Value) (A : Around) (outer : List PySem.Env) (s : Shared) (H : Hp) (E : XK), Room k (A.deeper (envOfC qual (defScope st) s.heap.objs.size f cdv)) →
      ∃ t, PSs (cxOf CX0 P w K mg base N qual (defScope st) f cdv A outer s H E).nox (defBody st) t ∧ ∀ a, ok a → EvS (Z0 K) t (slots0 N (args a)) (toD (g a))) : Fn1 P w K mg base (k + 1) x ps (spD K args ok g) := by
  obtain ⟨f, fd, Fu, hm, hb⟩ := At.ex
  exact fn1 Fu hm hb (fn_D Fu S hn (hbody f))
theorem DefAt.L {x qual : Str} {st : Stmt} {N ps : List Str} {k : Nat} {α : Type} {args : α → List Dt} {ok : α → Prop} {g : α → List Dt} (At : DefAt K mg x qual st ps) (S : FnScope N ps (defScope st)) (hn : ∀ a, (args a).length = ps.length)
    (hbody : ∀ (f : Addr) (cdv : Value) (A : Around) (outer : List PySem.Env) (s : Shared) (H : Hp) (E : XK), Room k (A.deeper (envOfC qual (defScope st) s.heap.objs.size f cdv)) →
      ∃ t, PSs (cxOf CX0 P w K mg base N qual (defScope st) f cdv A outer s H E).nox (defBody st) t ∧ ∀ a, ok a → EvS (Z0 K) t (slots0 N (args a)) (toL (g a))) : Fn1 P w K mg base (k + 1) x ps (spL K args ok g) := by
  obtain ⟨f, fd, Fu, hm, hb⟩ := At.ex
  exact fn1 Fu hm hb (fn_L Fu S hn (hbody f))
/-- nothing is promised: where a recursion begins -/
theorem DefAt.bot {x qual : Str} {st : Stmt} {N ps : List Str} {sp : Sp} (At : DefAt K mg x qual st ps) (S : FnScope N ps (defScope st)) (hno : ∀ vs H Q E, sp vs H Q E → False) : Fn1 P w K mg base (0 + 1) x ps sp := by
  obtain ⟨f, fd, Fu, hm, hb⟩ := At.ex
  exact fn1 Fu hm hb (Fu.ok S (fun vs H Q E h => (hno vs H Q E h).elim) fun cdv A outer s H vs Q E hr h => (hno vs H Q E h).elim)
/-- one list of ints, no condition, True: a law's promise -/
def spLaw (K : PySem.W.Frag) : Sp := spD K (fun ns : List Int => [.list (intsD ns)]) (fun ns => ns.length ≤ 63) (fun _ => .bool true)
theorem law_hsp {K : PySem.W.Frag} {H : Hp} {a : Addr} {ns : List Int} (hl : ns.length ≤ 63) (hS : SqL K H a (ns.map V.int)) : spLaw K [.ref a] H (fun v _ => v = .bl true) fun _ _ _ => False :=
  ⟨H, ns, .refl _, .cons (.lst hS (dpAll_of_ints ns)) .nil, hl, fun v F' H' _ p => dp_bl p⟩
theorem fn_law {x : Str} {fa : Addr} {k : Nat} {y qual : Str} {st : Stmt} (At : DefAt K mg x qual st [y]) (hm : mg x = some (.ref fa)) (G : ∀ base : Heap, Fn1 P w K mg base k x [y] (spLaw K)) :
    ∃ fd : FuncData, (∀ (s : Shared) (u : Value), BindsTo s fd ⟨[u], []⟩ [(y, u)]) ∧ ∀ base : Heap, K.In base → base.Ns mainGlobals mg → FnOk P w K mg base CX0 k fa fd [y] (spLaw K) := by
  obtain ⟨f, fd, Fu, hm1, hb1⟩ := At.ex
  obtain ⟨oc, od, _, _, _, _, _, _, osl, _, h1, _⟩ := Fu.ex
  rw [hm] at hm1
  cases hm1
  refine ⟨fd, fun s u => .of_eq (hb1 [u] rfl), fun base _ _ => ?_⟩
  obtain ⟨f, fd2, F, hm2, hk, ⟨oc2, od2, osl2, h2⟩, hb⟩ := (G base).ex
  rw [hm] at hm2
  cases hm2
  rw [h1] at h2
  cases h2
  exact F
end
end DL

set_option Elab.async false
set_option linter.all false
set_option maxRecDepth 100000
/-! DV: plain facts of data. -/
namespace DL
open PySem L2
theorem intsD_len (ns : List Int) : (intsD ns).length = ns.length := List.length_map ..
theorem intsD_get {ns : List Int} {i : Nat} (h : i < ns.length) : (intsD ns)[i]? = some (.int (ns.getD i 0)) := by
  unfold intsD
  rw [List.getElem?_map, List.getElem?_eq_getElem h, List.getD_eq_getElem?_getD, List.getElem?_eq_getElem h]
  rfl
theorem intsD_app (xs ys : List Int) : intsD (xs ++ ys) = intsD xs ++ intsD ys := List.map_append
theorem eqv_intsD : ∀ xs ys : List Int, PyData.eqvAll (intsD xs) (intsD ys) = decide (xs = ys)
  | [], [] => by simp [intsD, PyData.eqvAll]
  | [], _ :: _ => by simp [intsD, PyData.eqvAll]
  | _ :: _, [] => by simp [intsD, PyData.eqvAll]
  | x :: xs, y :: ys => by
    have h := eqv_intsD xs ys
    show (PyData.eqv (.int x) (.int y) && PyData.eqvAll (intsD xs) (intsD ys)) = _
    rw [h]
    simp only [PyData.eqv]
    by_cases e : x = y
    · subst e; simp
    · simp [e]
/-- a list of ints, as data -/
inductive IsInts : List Dt → List Int → Prop where
  | of (ns : List Int) : IsInts (intsD ns) ns
  | nil : IsInts [] []
  | cons {d : List Dt} {n : Int} {ns : List Int} : IsInts d ns → IsInts (.int n :: d) (n :: ns)
theorem IsInts.eq : ∀ {ds : List Dt} {ns : List Int}, IsInts ds ns → ds = intsD ns
  | _, _, .of _ => rfl
  | _, _, .nil => rfl
  | _, _, .cons h => by rw [h.eq]; rfl
section
variable {Z : Zx} {ρ : List Sl} {ta tb : TE} {ds : List Dt} {ns : List Int} {d : Dt}
theorem d_ixC {k : Bool} {i : Int} (ha : EvV Z k ta ρ ds) (h0 : 0 ≤ i) (h : ds[i.toNat]? = some d) : EvD Z (tOp (rIxU Z.K) ta (tC (.int i))) ρ d := d_ix ha d_int h0 h
theorem d_ixI {k : Bool} {i : Int} (ha : EvV Z k ta ρ ds) (hb : EvD Z tb ρ (.int i)) (hi : IsInts ds ns) (h0 : 0 ≤ i) (h : i.toNat < ns.length) : EvD Z (tOp (rIxU Z.K) ta tb) ρ (.int (ns.getD i.toNat 0)) := d_ix ha hb h0 (by
  rw [hi.eq]
  exact intsD_get h)
end
theorem t_yes {Z : Zx} {ρ : List Sl} : EvT Z tYes ρ true := fun F0 H0 F H σ e w Q q => q F H (.refl e.g.i)
theorem sh_ints : ∀ ns : List Int, PyData.canLayAll0 (intsD ns) = true ∧ PyData.depthAll (intsD ns) = 0
  | [] => by simp [intsD, PyData.canLayAll0, PyData.depthAll]
  | n :: ns => by
    obtain ⟨h1, h2⟩ := sh_ints ns
    constructor
    · show (PyData.canLay0 (.int n) && PyData.canLayAll0 (intsD ns)) = true
      rw [h1]
      simp [PyData.canLay0]
    · show max (PyData.depth (.int n)) (PyData.depthAll (intsD ns)) = 0
      rw [h2]
      simp [PyData.depth]
theorem sh_list (ns : List Int) : DL.sh (.list (intsD ns)) := by
  show SeqAt.shaped _ = true
  unfold SeqAt.shaped
  have h := sh_ints ns
  simp [PyData.canLay0, PyData.depth, h.1, h.2]
theorem sh_tup (ns : List Int) : DL.sh (.tuple (intsD ns)) := by
  show SeqAt.shaped _ = true
  unfold SeqAt.shaped
  have h := sh_ints ns
  simp [PyData.canLay0, PyData.depth, h.1, h.2]
theorem eqv_list (xs ys : List Int) : PyData.eqv (.list (intsD xs)) (.list (intsD ys)) = decide (xs = ys) := by
  rw [← eqv_intsD]
  simp [PyData.eqv]
theorem eqv_tup (xs ys : List Int) : PyData.eqv (.tuple (intsD xs)) (.tuple (intsD ys)) = decide (xs = ys) := by
  rw [← eqv_intsD]
  simp [PyData.eqv]
theorem intsD_get' {ns : List Int} {i : Nat} {d : Dt} (h : (intsD ns)[i]? = some d) : ∃ x, ns[i]? = some x ∧ d = .int x := by
  unfold intsD at h
  rw [List.getElem?_map] at h
  cases q : ns[i]? with
  | none => rw [q] at h; cases h
  | some x => rw [q] at h; exact ⟨x, rfl, (Option.some.inj h).symm⟩
theorem keptD_none (ds : List Dt) (v : Dt → Dt) : keptD ds (fun _ => false) v = [] := by
  unfold keptD
  rw [List.filter_eq_nil_iff.mpr (fun _ _ => Bool.false_ne_true)]
  rfl
theorem cutD_from (ds : List Dt) (n : Nat) : DL.cutD ds (some (n : Int)) none = ds.drop n := by
  unfold DL.cutD
  rw [HT.sIx_nat, HT.sIx_none]
  rcases Nat.le_total n ds.length with h | h
  · rw [Nat.min_eq_left h, List.take_of_length_le (by rw [List.length_drop]; omega)]
  · rw [Nat.min_eq_right h, Nat.sub_self, List.take_zero, List.drop_of_length_le h]
theorem cutD_to (ds : List Dt) (n : Nat) : DL.cutD ds none (some (n : Int)) = ds.take n := by
  unfold DL.cutD
  rw [HT.sIx_nat, HT.sIx_none, List.drop_zero, Nat.sub_zero]
  rcases Nat.le_total n ds.length with h | h
  · rw [Nat.min_eq_left h]
  · rw [Nat.min_eq_right h, List.take_length, List.take_of_length_le h]
theorem cutD_mid (ds : List Dt) (a b : Nat) : DL.cutD ds (some (a : Int)) (some (b : Int)) = (ds.drop a).take (b - a) := by
  unfold DL.cutD
  rw [HT.sIx_nat, HT.sIx_nat]
  rcases Nat.le_total a ds.length with h | h
  · rw [Nat.min_eq_left h]
    rcases Nat.le_total b ds.length with h2 | h2
    · rw [Nat.min_eq_left h2]
    · rw [Nat.min_eq_right h2, List.take_of_length_le (by rw [List.length_drop]; omega), List.take_of_length_le (by rw [List.length_drop]; omega)]
  · rw [Nat.min_eq_right h, List.drop_of_length_le (Nat.le_refl _), List.drop_of_length_le h, List.take_nil, List.take_nil]
/-- data that == takes: no dict, not deep -/
def Lay (n : Nat) (d : PyData) : Prop := d.canLay0 = true ∧ d.depth ≤ n
theorem Lay.sh {n : Nat} {d : PyData} (h : Lay n d) (hn : n ≤ 64) : DL.sh d := by
  show SeqAt.shaped d = true
  unfold SeqAt.shaped
  rw [h.1, decide_eq_true (Nat.le_trans h.2 hn)]
  rfl
theorem Lay.mono {n m : Nat} {d : PyData} (h : Lay n d) (hn : n ≤ m) : Lay m d := ⟨h.1, Nat.le_trans h.2 hn⟩
end DL

set_option Elab.async false
set_option linter.all false
set_option maxRecDepth 100000
set_option maxHeartbeats 4000000
/-! DW: enumerate over a tuple; max of a list, with and without a default; xs.index. -/
namespace DL
open PySem PySem.Spec PyProof.Rows L2
/-! ### enumerate(t), t a tuple -/
abbrev enumObj (it : Addr) : Obj := { cls := .type "enumerate", data := .fields #[.none, .bool false, .ref it, rawInt 0, .none, .none] }
set_option maxHeartbeats 1000000 in
theorem enum_new_tup (t : Addr) (items : Array Value) :
    Meets (Builtin.«enumerate.__new__» ⟨[.type "enumerate", .ref t], []⟩) (fun _ R s => s.heap.IsTuple t items ∧
      R (.ok (.ret (.ref (s.heap.objs.size + 1)))) { s with heap := (s.heap.push { cls := .type "tuple_iterator", data := .fields #[.ref t, .int 0 0] }).push (enumObj s.heap.objs.size) }) :=
  .of_wp fun prog w A R s h => by
    obtain ⟨hp, g, d, tk, os⟩ := s
    obtain ⟨hT, h⟩ := h
    have sub := sub_enumerate
    have hz : (hp.push { cls := .type "tuple_iterator", data := .fields #[.ref t, .int 0 0] }).objs.size = hp.objs.size + 1 := Heap.size_push ..
    rw [← hz] at h
    have it : ∀ {A' : Around} {E Q : Value → Shared → Prop}, Q (.ref hp.objs.size) ⟨hp.push { cls := .type "tuple_iterator", data := .fields #[.ref t, .int 0 0] }, g, d, tk, os⟩ →
        wpAny (model prog w) A' (pyIter (.ref t)) Q E ⟨hp, g, d, tk, os⟩ := fun q => wpAny_pyIter_tuple hT q
    wp_walk using it
    refine wpAny_stack_any fun _ => wpAny_pure ?_
    split
    · rename_i c _ _ _ _ _
      cases (c == Value.type "enumerate") <;>
        (wp_walk using it
         exact ⟨_, rfl, h⟩)
    · wp_walk using it
      exact ⟨_, rfl, h⟩
theorem enum_call_tup {prog : Program} {w : World} {A : Around} {E : Value → Shared → Prop} {s : Shared} {t : Addr} {items : Array Value} {Q : Value → Shared → Prop} (hT : s.heap.IsTuple t items)
    (h : ∀ h', IsEnum h' (s.heap.objs.size + 1) s.heap.objs.size 0 .none → h'.IsTupleIter s.heap.objs.size t 0 → (∀ b o, s.heap.get? b = some o → h'.get? b = some o) → Q (.ref (s.heap.objs.size + 1)) { s with heap := h' }) :
    wpAny (model prog w) A (call (.type "enumerate") [.ref t]) Q E s := by
  refine callType_new F.called_enumerate (by decide) (F.typeCall_enumerate_1 _) (F.newCall_enumerate_1 _) (fun obj => F.args_object_init_2 obj _) F.entry_enumerate_new (enum_new_tup t items) ⟨hT, ?_⟩
  have hz : (s.heap.push { cls := .type "tuple_iterator", data := .fields #[.ref t, .int 0 0] }).objs.size = s.heap.objs.size + 1 := Heap.size_push ..
  have he := Heap.get?_push_size (s.heap.push { cls := .type "tuple_iterator", data := .fields #[.ref t, .int 0 0] }) (o := { cls := .type "enumerate", data := .fields #[.none, .bool false, .ref s.heap.objs.size, rawInt 0, .none, .none] }) rfl
  rw [hz] at he
  exact ⟨⟨_, he, rfl⟩, h _ he ⟨{ cls := .type "tuple_iterator", data := .fields #[.ref t, .int 0 0] }, Heap.get?_push_of_some _ (Heap.get?_push_size s.heap rfl), rfl, rfl⟩ fun b o x => Heap.get?_push_of_some _ (Heap.get?_push_of_some _ x)⟩
/-- (i, the i-th item), each a new tuple -/
def ItE (K : PySem.W.Frag) (a : Addr) : It where
  go := fun i H => ∃ (xs : List V) (x : V), SqT K H a xs ∧ xs[i]? = some x
  yld := fun i H v H' => ∃ T x, v = .ref T ∧ H T = none ∧ H' = upd H T (.tup [.int (i : Nat), x]) ∧ ∀ xs, SqT K H a xs → xs[i]? = some x
  stop := fun i H => ∃ xs : List V, SqT K H a xs ∧ xs.length = i
theorem turn_E {P : Program} {w : World} {K : PySem.W.Frag} {elts : List Expr} {kk : Nat} {tpos : Pos} (a e it : Addr) :
    Turn P w K (.Tuple elts kk tpos) (ItE K a) [e, it] e (fun i h => (∃ old, IsEnum h e it ((i : Nat) : Int) old) ∧ h.IsTupleIter it a i ∧ e ≠ it) where
  mem := by simp
  obj := fun i h st b hb => by
    obtain ⟨⟨old, he⟩, ⟨o, ho, _, hd⟩, _⟩ := st
    rcases (show b = e ∨ b = it by simpa using hb) with rfl | rfl
    · exact ⟨_, he, fun v q => nomatch q⟩
    · exact ⟨o, ho, fun v q => by rw [hd] at q; cases q⟩
  keep := fun i h h' st k => ⟨let ⟨old, he⟩ := st.1; ⟨old, k e (by simp) _ he⟩, st.2.1.at fun o q => k it (by simp) o q, st.2.2⟩
  item := by
    intro X hP hw hK hc i pins s σ H E I hf st hg
    subst hP hw hK
    obtain ⟨⟨old, he⟩, hit, hne⟩ := st
    obtain ⟨xs, x, hq, hx⟩ := hg
    obtain ⟨its, rv, p, hz⟩ := I.tuple hq
    have pT : s.heap.IsTuple a its.toArray := p
    obtain ⟨u, hu, ru⟩ := rv.get hx
    have hel : e < s.heap.objs.size := Heap.lt_size he
    have hil : it < s.heap.objs.size := by obtain ⟨_, q, _⟩ := hit; exact Heap.lt_size q
    have nai : a ≠ it := fun z => by
      obtain ⟨o1, h1, c1, _⟩ := hit
      obtain ⟨o2, h2, c2, _⟩ := pT
      rw [z, h1] at h2
      cases h2
      rw [c1] at c2
      simp at c2
    have nae : e ≠ a := fun z => by
      obtain ⟨o2, h2, c2, _⟩ := pT
      rw [← z, show s.heap.get? e = _ from he] at h2
      cases h2
      simp at c2
    have hlt : i < its.toArray.size := by
      have := (List.getElem?_eq_some_iff.mp hu).1
      simpa using this
    refine wpAny_pyNext_enum_itemD (Draws.tuple (A := X.A.in1) (I.ok.hd hc) it a nai its.toArray) he ⟨hit, pT⟩ hlt hne (by simp [hne, nae]) fun y h' tk hy ho hS hT hsz hk => ?_
    have ey : y = u := by
      have h1 : its[i]? = some y := by simpa using hy
      rw [hu] at h1
      exact (Option.some.inj h1).symm
    subst ey
    refine ⟨_, rfl, wpAny_letOwnedTupleGo_enum (s := { s with heap := h', toks := tk + 1 }) ho fun h'' he' sb => ?_⟩
    have hT2 : h''.get? s.heap.objs.size = some { cls := .type "tuple", data := .seq #[.int i tk, y] } := (sb.2 _ (Nat.ne_of_gt hel)).trans hT
    have ok2 : ObjOk X.prog X.w (upd H s.heap.objs.size (.tup [.int (i : Nat), x])) h'' s.heap.objs.size (.tup [.int (i : Nat), x]) :=
      ⟨by show 2 ≤ sizeLine; decide, [.int i tk, y], .cons ⟨_, rfl⟩ (.cons ru .nil), _, hT2, rfl, _, rfl⟩
    have far : ∀ b ob, b ∉ [e, it] → s.heap.get? b = some ob → h''.get? b = some ob := fun b ob hb q => by
      have n1 : b ≠ e := fun z => hb (by simp [z])
      have n2 : b ≠ it := fun z => hb (by simp [z])
      exact (sb.2 b n1).trans (hk b ob n1 n2 q)
    have I1 := I.turnedNew (t' := tk + 1) far hf (Nat.le_refl _) ok2
    refine ⟨.ref s.heap.objs.size, _, I1, rfl, ⟨_, x, rfl, I.hok.fresh (Nat.le_refl _), rfl, fun ys hy2 => by rw [I.tuple_inj hy2 hq]; exact hx⟩, ⟨⟨y, by rw [show ((i + 1 : Nat) : Int) = (i : Int) + 1 by omega]; exact he'⟩, hS.1.at fun o q => (sb.2 it (Ne.symm hne)).trans q, hne⟩, fun b hb => ?_⟩
    have hb' : b < s.heap.objs.size := by
      rcases (show b = e ∨ b = it by simpa using hb) with z | z
      · rw [z]; exact hel
      · rw [z]; exact hil
    rw [upd_ne (Nat.ne_of_lt hb')]
    exact (hf b hb).1
  done := by
    intro X hP hw hK hc i pins s σ H E I hf st hg
    subst hP hw hK
    obtain ⟨⟨old, he⟩, hit, hne⟩ := st
    obtain ⟨xs, hq, hx⟩ := hg
    obtain ⟨its, rv, p, hz⟩ := I.tuple hq
    have pT : s.heap.IsTuple a its.toArray := p
    obtain ⟨f0, f1, f2, f3, f4, f5⟩ := hf it (by simp)
    have nai : a ≠ it := fun z => by
      obtain ⟨o1, h1, c1, _⟩ := hit
      obtain ⟨o2, h2, c2, _⟩ := pT
      rw [z, h1] at h2
      cases h2
      rw [c1] at c2
      simp at c2
    have hl := rv.length
    have h3 : its.toArray.size = i := by simp; omega
    refine wpAny_pyNext_enum_endD (Draws.tuple (A := X.A.in1) (I.ok.hd hc) it a nai its.toArray) he (by rw [h3]; exact ⟨hit, pT⟩) fun h' eb => ⟨rfl, I.turned (t' := s.toks) eb f0 f1 f3 f4 f5⟩
  self := fun A i s Q E st h => by
    obtain ⟨⟨_, he⟩, _⟩ := st
    exact wpAny_pyIter_enum he h
def iEnT (K : PySem.W.Frag) (ta : TA) : TI := fun σ H R => ta σ H fun vs H1 => ∃ a xs, vs = [.ref a] ∧ SqT K H1 a xs ∧ R (ItE K a) H1
theorem pi_enT {X : Cx} {e : Expr} {ta : TA} {p pos tpos : Pos} {elts : List Expr} {kk : Nat} (hg : Gl X "enumerate") (hm : X.mg "enumerate" = none) (ha : PA X [e] ta) (hs : starEach [e] X.env = [(false, eval e X.env)] := by rfl) :
    PI X (.Tuple elts kk tpos) (.Call (.Name "enumerate" p) [e] [] pos) (iEnT X.K ta) := by
  refine ⟨fun pins s σ H R I h => Call_ (ld_blt I hg hm boot_enumerate (PyProof.Rows.callWith_type1 (thn (ha.run pos pins s σ H _ I h) ?_) hs rfl))⟩
  rintro us s1 ⟨vs, H1, I1, r1, a, xs, rfl, hq, q⟩
  obtain rfl := Vals.ref1 r1
  obtain ⟨its, rv, p', hz⟩ := I1.tuple hq
  refine enum_call_tup (show s1.heap.IsTuple a its.toArray from p') fun h' he hit hk => wpAny_pyIter_enum he ?_
  have I2 := I1.kept (h' := h') (t' := s1.toks) hk
  refine ⟨s1.heap.objs.size + 1, [s1.heap.objs.size + 1, s1.heap.objs.size], _, _, H1, rfl, I2, turn_E a _ _, ⟨⟨_, he⟩, hit, Nat.succ_ne_self _⟩, fun b hb => ?_, q⟩
  have hle : s1.heap.objs.size ≤ b := by
    rcases (show b = s1.heap.objs.size + 1 ∨ b = s1.heap.objs.size by simpa using hb) with z | z
    · rw [z]; exact Nat.le_add_right _ _
    · rw [z]; exact Nat.le_refl _
  exact I1.fpOk hle (I1.hok.fresh hle)
/-- what enumerate gives -/
def enumD (ds : List Dt) : List Dt := (List.range ds.length).map fun i => .tuple [.int (i : Nat), ds.getD i .none]
theorem enumD_len (ds : List Dt) : (enumD ds).length = ds.length := by unfold enumD; rw [List.length_map, List.length_range]
theorem enumD_get {ds : List Dt} {i : Nat} {d : Dt} (h : (enumD ds)[i]? = some d) : ∃ x, ds[i]? = some x ∧ d = .tuple [.int (i : Nat), x] := by
  have hl : i < ds.length := by rw [← enumD_len]; exact (List.getElem?_eq_some_iff.mp h).1
  unfold enumD at h
  rw [List.getElem?_map, List.getElem?_range hl] at h
  refine ⟨ds[i], List.getElem?_eq_getElem hl, ?_⟩
  rw [← Option.some.inj h]
  show PyData.tuple [PyData.int (i : Nat), ds.getD i PyData.none] = _
  rw [List.getD_eq_getElem?_getD, List.getElem?_eq_getElem hl]
  rfl
section
variable {Z : Zx} {ρ : List Sl} {ta te : TE} {ds : List Dt} {d : Dt}
theorem i_enT (h : EvD Z ta ρ (.tuple ds)) : EvI Z (iEnT Z.K (tCons ta tNil)) ρ (enumD ds) := fun F0 H0 F H σ e w R q =>
  h F0 H0 F H σ e w _ fun v F1 H1 n1 p1 => by
    obtain ⟨p, vs, rfl, s, a⟩ := dp_tup p1
    have hl := dpAll_len a
    refine ⟨p, vs, rfl, Evl.ex_t n1.i s, q _ F1 H1 n1 ⟨fun F' H' i e1 e2 h => ?_, fun F' H' e1 e2 => ⟨vs, Evl.ex_t (e1.trans e2) s, by rw [enumD_len]; exact hl⟩, fun F' H' i x H3 d e1 e2 y hd => ?_⟩⟩
    · rw [enumD_len] at h
      exact ⟨vs, vs[i]'(by omega), Evl.ex_t (e1.trans e2) s, List.getElem?_eq_getElem _⟩
    · obtain ⟨T, x', rfl, hT, rfl, hx⟩ := y
      obtain ⟨c, hc, rfl⟩ := enumD_get hd
      obtain ⟨v, h1, h2⟩ := dpAll_get a hc
      have hv := hx vs (Evl.ex_t (e1.trans e2) s)
      rw [h1] at hv
      rw [← Option.some.inj hv]
      exact ⟨_, Nx.both e2 hT, .tup (Or.inl (Or.inl upd_same)) (.cons (.int _) (.cons (dp_ex (e1.trans (Evl.Ex.new (none_back e2 hT))) _ _ h2) .nil))⟩
end

/-! ### max(xs, default=d), max(xs), xs.index(y) -/
def optD : Option Int → Dt
  | none => .none
  | some i => .int i
def maxI : List Int → Option Int
  | [] => none
  | n :: r => some (r.foldl max n)
theorem foldl_max_ge : ∀ (r : List Int) (n : Int), n ≤ r.foldl max n ∧ ∀ y ∈ r, y ≤ r.foldl max n
  | [], n => ⟨Int.le_refl _, fun y h => by cases h⟩
  | a :: r, n => by
    obtain ⟨h1, h2⟩ := foldl_max_ge r (max n a)
    refine ⟨by rw [List.foldl_cons]; omega, fun y hy => ?_⟩
    rw [List.foldl_cons]
    rcases List.mem_cons.mp hy with rfl | hy
    · omega
    · exact h2 y hy
theorem foldl_max_mem : ∀ (r : List Int) (n : Int), r.foldl max n = n ∨ r.foldl max n ∈ r
  | [], n => Or.inl rfl
  | a :: r, n => by
    rw [List.foldl_cons]
    rcases foldl_max_mem r (max n a) with h | h
    · rcases Int.le_total n a with q | q
      · right
        rw [h, Int.max_eq_right q]
        exact List.mem_cons_self
      · left
        rw [h, Int.max_eq_left q]
    · exact Or.inr (List.mem_cons_of_mem _ h)
theorem maxI_mem {ns : List Int} {m : Int} (h : maxI ns = some m) : m ∈ ns := by
  cases ns with
  | nil => cases h
  | cons n r =>
    have e : r.foldl max n = m := Option.some.inj h
    rcases foldl_max_mem r n with q | q
    · rw [← e, q]; exact List.mem_cons_self
    · rw [← e]; exact List.mem_cons_of_mem _ q
theorem maxI_ge {ns : List Int} {m : Int} (h : maxI ns = some m) : ∀ y ∈ ns, y ≤ m := by
  cases ns with
  | nil => cases h
  | cons n r =>
    have e : r.foldl max n = m := Option.some.inj h
    intro y hy
    rw [← e]
    rcases List.mem_cons.mp hy with rfl | hy
    · exact (foldl_max_ge r _).1
    · exact (foldl_max_ge r n).2 y hy
theorem maxI_some {ns : List Int} (h : ns ≠ []) : ∃ m, maxI ns = some m := by
  cases ns with
  | nil => exact absurd rfl h
  | cons n r => exact ⟨_, rfl⟩
theorem maxI_is {ns : List Int} {m : Int} (h1 : m ∈ ns) (h2 : ∀ y ∈ ns, y ≤ m) : maxI ns = some m := by
  obtain ⟨k, hk⟩ := maxI_some (ns := ns) (fun z => by rw [z] at h1; cases h1)
  have a := maxI_ge hk m h1
  have b := h2 k (maxI_mem hk)
  rw [hk, show k = m by omega]
theorem alike_ints (ns : List Int) : PySem.W.AlikeAll (intsD ns) := by
  refine ⟨fun x hx y hy => ?_, fun x hx => ?_⟩
  · obtain ⟨a, _, rfl⟩ := List.mem_map.mp hx
    obtain ⟨b, _, rfl⟩ := List.mem_map.mp hy
    rfl
  · obtain ⟨a, _, rfl⟩ := List.mem_map.mp hx
    exact fun z => by cases z
theorem depth_ints : ∀ ns : List Int, PyData.depthAll (intsD ns) = 0
  | [] => by simp [intsD, PyData.depthAll]
  | n :: ns => by
    have h := depth_ints ns
    show max (PyData.depth (.int n)) (PyData.depthAll (intsD ns)) = 0
    rw [h]
    simp [PyData.depth]
def rMxD (K : PySem.W.Frag) : List V → List V → Hp → VK → Prop := fun vs zs H Q => ∃ (a : Addr) (ns : List Int), vs = [V.ref a] ∧ zs = [.non] ∧ SqL K H a (ns.map V.int) ∧ Q (match maxI ns with | none => .non | some m => .int m) H
theorem c_maxD {X : Cx} (hc : X.calm = true) (hu : X.A.units + 64 < cLine) : CallRK X (.builtin "max") [Str.ofString "default"] (rMxD X.K) := by
  intro pins s σ H vs zs us ws Q I r rz h
  obtain ⟨a, ns, rfl, rfl, hs, q⟩ := h
  obtain rfl := Vals.ref1 r
  obtain ⟨w1, rfl, e1⟩ := vals1 rz
  obtain rfl : w1 = Value.none := e1
  obtain ⟨its, rv, hl, _⟩ := I.list hs
  obtain ⟨as, ra⟩ := Dp.readsAll I (intsD ns) _ its (dpAll_of_ints ns) rv
  show wpAny (model X.prog X.w) X.A (call (.builtin "max") [.ref a] [(Str.ofString "default", Value.none)]) (EP X pins σ Q) X.xe s
  refine PySem.W.max_list_default (I.ok.hd hc) hl.isList ra (alike_ints ns) (by rw [depth_ints]; omega) (fun hz h' tk hk => ?_) (fun y ys i v h' tk bs hz hv hr hk => ?_)
  · have e : ns = [] := by
      cases ns with
      | nil => rfl
      | cons n r => cases hz
    subst e
    exact ⟨.non, H, I.kept hk, rfl, q⟩
  · cases ns with
    | nil => cases hz
    | cons n r =>
      have e : (PyData.int n : PyData) = y ∧ intsD r = ys := by
        have hz' : PyData.int n :: intsD r = y :: ys := hz
        injection hz' with h1 h2
        exact ⟨h1, h2⟩
      obtain ⟨rfl, rfl⟩ := e
      rw [show PySem.W.maxD (.int n) (intsD r) = .int (r.foldl max n) from PySem.W.maxD_ints n r] at hr
      cases hr
      exact ⟨.int (r.foldl max n), H, I.kept hk, ⟨_, rfl⟩, q⟩
theorem c_max1 {X : Cx} (hc : X.calm = true) : CallR X (.builtin "max") (rMax X.K) := cr_max hc
theorem c_min1 {X : Cx} (hc : X.calm = true) : CallR X (.builtin "min") (rMin X.K) := cr_min hc
section
variable {Z : Zx} {ρ : List Sl} {ta te : TE} {ns : List Int} {d : Dt}
theorem d_maxD (h : EvV Z true ta ρ (intsD ns)) : EvD Z (tCKw (rMxD Z.K) (tCons ta tNil) (tCons (tC .non) tNil)) ρ (optD (maxI ns)) := fun F0 H0 F H σ e w Q q =>
  h F0 H0 F H σ e w _ fun p vs F1 H1 n1 s1 a1 => ⟨p, ns, rfl, rfl, by rw [← dpAll_ints a1]; exact s1, by
    cases hm : maxI ns with
    | none => rw [hm] at q; exact q _ F1 H1 n1 .non
    | some m => rw [hm] at q; exact q _ F1 H1 n1 (.int m)⟩
theorem d_max1 {m : Int} (h : EvV Z true ta ρ (intsD ns)) (hm : maxI ns = some m) : EvD Z (tCB (rMax Z.K) (tCons ta tNil)) ρ (.int m) := fun F0 H0 F H σ e w Q q =>
  h F0 H0 F H σ e w _ fun p vs F1 H1 n1 s1 a1 => ⟨p, ns, rfl, by rw [← dpAll_ints a1]; exact s1, List.length_pos_of_mem (maxI_mem hm), fun k h1 h2 => by
    have := maxI_is h1 h2
    rw [hm] at this
    rw [← Option.some.inj this]
    exact q _ F1 H1 n1 (.int m)⟩
theorem eqV_int (a b : Int) : eqV (.int a) (.int b) = decide (a = b) := by
  show (a == b) = _
  exact Bool.beq_eq_decide_eq a b
theorem flat_ints (ns : List Int) : (ns.map V.int).all flatV = true := by
  rw [List.all_map]
  exact List.all_eq_true.mpr fun _ _ => rfl
/-- xs.index(y) of ints: the first place -/
theorem d_index {y : Int} (h : EvV Z true ta ρ (intsD ns)) (hy : EvD Z te ρ (.int y)) (hm : y ∈ ns) : EvD Z (tBM Z.K "list" (rIndex Z.K) ta (tCons te tNil)) ρ (.int (ns.idxOf y : Nat)) := fun F0 H0 F H σ e w Q q =>
  h F0 H0 F H σ e w _ fun p vs F1 H1 n1 s1 a1 => by
    have ev := dpAll_ints a1
    subst ev
    refine ⟨Or.inl ⟨rfl, _, s1⟩, hy F0 H0 F1 H1 σ (e.step n1) w _ fun v F2 H2 n2 p2 => ?_⟩
    have hv := dp_int p2
    subst hv
    have hlt : ns.idxOf y < ns.length := List.idxOf_lt_length_of_mem hm
    refine ⟨p, _, .int y, ns.idxOf y, .int y, rfl, rfl, Evl.ex_l n2.h s1, rfl, flat_ints ns, ?_, by rw [eqV_int]; exact decide_eq_true rfl, fun m z' hlt2 hz => ?_, q _ F2 H2 (n1.trans n2) (.int _)⟩
    · rw [List.getElem?_map, List.getElem?_eq_getElem hlt, List.getElem_idxOf hlt]
      rfl
    · rw [List.getElem?_map] at hz
      have hml : m < ns.length := Nat.lt_trans hlt2 hlt
      rw [List.getElem?_eq_getElem hml] at hz
      have ez : V.int ns[m] = z' := Option.some.inj hz
      rw [← ez, eqV_int]
      refine decide_eq_false fun z => ?_
      have hn := List.not_of_lt_findIdx (p := (· == y)) (xs := ns) (i := m) hlt2
      rw [z] at hn
      simp at hn
end
section
variable {Z : Zx} {ρ : List Sl} {ta tb : TE} {ns : List Int}
theorem inV_ints (x : Int) : ∀ ns : List Int, inV (.int x) (ns.map V.int) = decide (x ∈ ns)
  | [] => rfl
  | n :: r => by
    have ih := inV_ints x r
    unfold inV at ih ⊢
    rw [List.map_cons, List.any_cons, ih]
    first | rw [eqV_int] | skip
    by_cases e : n = x
    · subst e; simp [eqV_int]
    · have e2 : ¬ x = n := fun z => e z.symm
      simp [eqV_int, e, e2, List.mem_cons]
theorem d_inI {k neg : Bool} {x : Int} (ha : EvD Z ta ρ (.int x)) (hb : EvV Z k tb ρ (intsD ns)) : EvD Z (tOp (rIn Z.K neg) ta tb) ρ (.bool (if neg then !decide (x ∈ ns) else decide (x ∈ ns))) := fun F0 H0 F H σ e w Q q =>
  ha F0 H0 F H σ e w _ fun v F1 H1 n1 p1 => hb F0 H0 F1 H1 σ (e.step n1) w _ fun p vs F2 H2 n2 s2 a2 => by
    have ev := dpAll_ints a2
    subst ev
    have hv := dp_int p1
    subst hv
    refine ⟨p, _, rfl, ?_, rfl, flat_ints ns, ?_⟩
    · cases k with
      | true => exact Or.inl s2
      | false => exact Or.inr s2
    · rw [inV_ints]
      exact q _ F2 H2 (n1.trans n2) (.bl _)
end
/-! ### sum of a list or a tuple -/
def rSumU (K : PySem.W.Frag) : List V → Hp → VK → Prop := fun vs H Q => rSum K vs H Q ∨ ∃ (a : Addr) (ns : List Int), vs = [V.ref a] ∧ SqT K H a (ns.map V.int) ∧ Q (.int ns.sum) H
theorem c_sumU {X : Cx} (hc : X.calm = true) : CallR X (.builtin "sum") (rSumU X.K) := by
  intro pins s σ H vs us Q I r h
  rcases h with h | ⟨a, ns, rfl, hs, q⟩
  · exact cr_sum hc pins s σ H vs us Q I r h
  · obtain ⟨its, rv, hl, _⟩ := I.tuple hs
    rw [Vals.ref1 r]
    obtain ⟨o, e, c, n, d⟩ := hl
    have hi := rv.ints
    have ht : s.heap.IsTuple a its.toArray := ⟨o, e, c, n, d⟩
    obtain ⟨xs, hx⟩ := hi.allInts.items
    have hn : numsOf (intItems xs).toList = ns := by rw [← hx]; exact hi.numsOf
    rw [nums_intItems] at hn
    rw [hx] at ht
    refine PySem.W.ktm_sumG (I.ok.hd hc) ht fun h' tk t' hk => ?_
    refine ⟨.int _, H, I.kept hk, ⟨_, rfl⟩, ?_⟩
    rw [preSum_eq, List.take_of_length_le (by simp), hn]
    exact q
section
variable {Z : Zx} {ρ : List Sl} {ta : TE} {ns : List Int}
theorem d_sum {k : Bool} (h : EvV Z k ta ρ (intsD ns)) : EvD Z (tCB (rSumU Z.K) (tCons ta tNil)) ρ (.int ns.sum) := fun F0 H0 F H σ e w Q q =>
  h F0 H0 F H σ e w _ fun p vs F1 H1 n1 s1 a1 => by
    have ev := dpAll_ints a1
    subst ev
    cases k with
    | true => exact Or.inl ⟨p, ns, rfl, s1, q _ F1 H1 n1 (.int _)⟩
    | false => exact Or.inr ⟨p, ns, rfl, s1, q _ F1 H1 n1 (.int _)⟩
end
end DL

set_option Elab.async false
set_option linter.all false
set_option maxRecDepth 100000
set_option maxHeartbeats 4000000
/-! DX: defs that raise, and what catches. -/
namespace DL
open PySem PySem.Spec PyProof.Rows L2
/-- the class that the name holds -/
def clsOf (mg : Str → Option Value) (x : Str) : Value := (mg x).getD .none
def spX {α : Type} (K : PySem.W.Frag) (mg : Str → Option Value) (args : α → List Dt) (ok : α → Prop) (f : α → Except Str Dt) : Sp := fun vs H Q E => ∃ F a, Evl.Ex F H ∧ DpAll K F vs (args a) ∧ ok a ∧
  match f a with
  | .ok d => ∀ v F' H', Nx F H F' H' → Dp K F' v d → Q v H'
  | .error x => ∀ F' H', Nx F H F' H' → E (clsOf mg x) none H'
/-- what an own class of errors must say to be raised -/
structure ErrC (K : PySem.W.Frag) (mg : Str → Option Value) (x : Str) : Prop where
  ex : ∃ C : Addr, mg x = some (.ref C) ∧ PySem.W.excIn K C [.type "ValueError", .type "Exception", .type "BaseException", .type "object"] "ValueError.__new__" = true ∧ PySem.W.keepIn K (.ref C) = true ∧
    PySem.W.subIn K (.ref C) (.type "BaseException") = some true ∧ PySem.W.typeIn K (.ref C) = some (.type "type")
def tRz (ta : TE) (c : Value) (E : XK) : TS := fun _ σ H => ta σ H fun _ H1 => E c none H1
theorem ps_rz {X : Cx} {x : Str} {e : Expr} {ta : TE} {E : XK} {p pos pos2 : Pos} {mg : Str → Option Value} (hc : X.calm = true) (tk : Takes X (fun cls d _ H => E cls d H)) (er : ErrC X.K X.mg x) (hmg : X.mg = mg) (hg : Gl X x) (he : PE X e ta)
    (hs : starEach [e] X.env = (false, eval e X.env) :: starEach [] X.env := by rfl) (hdb : (x == ("__debug__" : Str)) = false := by decide) : PS X (.Raise (some (.Call (.Name x p) [e] [] pos)) none pos2) (tRz ta (clsOf mg x) E) := by
  subst hmg
  obtain ⟨C, gC, qC, kC, b, t⟩ := er.ex
  have hh := ps_raise (pos := pos2) hc tk (SkE.pmk_own1 (p := p) (pos := pos) PySem.F.excBase_ValueError qC gC kC (raises_own b t) hg he hs hdb)
  have ec : clsOf X.mg x = .ref C := by unfold clsOf; rw [gC]; rfl
  rw [ec]
  exact hh
structure FnX1 (P : Program) (w : World) (K : PySem.W.Frag) (mg : Str → Option Value) (base : Heap) (k : Nat) (x : Str) (ps : List Str) (sp : Sp) : Prop where
  ex : ∃ f fd, FnOk P w K mg base (L2.CX P w) k f fd ps sp ∧ mg x = some (.ref f) ∧ PySem.W.keepIn K (.ref f) = true ∧ ∀ us : List Value, us.length = ps.length → bindArgs fd ⟨us, []⟩ = pure (ps.zip us)
section
variable {X : Cx} {k : Nat} {x : Str} {ps : List Str} {sp : Sp} {p pos : Pos} {e : Expr} {es : List Expr} {t : TA} {E : XK}
theorem pe_fnX (G : FnX1 X.prog X.w X.K X.mg X.base k x ps sp) (hr : Room k X.A) (hg : Gl X x) (hx : Passes (L2.CX X.prog X.w) X E)
    (ha : PA X (e :: es) t) (hdb : (x == ("__debug__" : Str)) = false := by decide) (he : starEach (e :: es) X.env = (false, eval e X.env) :: starEach es X.env := by rfl) (hpl : (backTo pos (starEach es X.env)).any (·.1) = false := by rfl) :
    PE X (.Call (.Name x p) (e :: es) [] pos) (tCall sp [] E t) := by
  obtain ⟨f, fd, F, hm, hk, hb⟩ := G.ex
  exact pe_call F hr hg hm hk (Binds.all hb) .nil hx ha hdb he hpl
theorem pe_fnS {Es : L2.St → XK} (G : FnX1 X.prog X.w X.K X.mg X.base k x ps sp) (hr : Room k X.A) (hg : Gl X x) (hx : ∀ σ, PassesAt (L2.CX X.prog X.w) X σ (Es σ))
    (ha : PA X (e :: es) t) (hdb : (x == ("__debug__" : Str)) = false := by decide) (he : starEach (e :: es) X.env = (false, eval e X.env) :: starEach es X.env := by rfl) (hpl : (backTo pos (starEach es X.env)).any (·.1) = false := by rfl) :
    PE X (.Call (.Name x p) (e :: es) [] pos) (tCallS sp Es t) := by
  obtain ⟨f, fd, F, hm, hk, hb⟩ := G.ex
  exact pe_callS F hr hg hm hk (Binds.all hb) hx ha hdb he hpl
end
section
variable {P : Program} {w : World} {K : PySem.W.Frag} {mg : Str → Option Value} {base : Heap}
def pxOf (mg : Str → Option Value) (r : Except Str Dt) : Value → Prop := fun c => ∃ x, r = .error x ∧ c = clsOf mg x
def toX (r : Except Str Dt) : Post := ⟨fun _ => r = .ok .none, fun d => r = .ok d, fun ds => r = .ok (.list ds), fun _ => False, fun _ => False⟩
theorem DefAt.X {x qual : Str} {st : Stmt} {N ps : List Str} {k : Nat} {α : Type} {args : α → List Dt} {ok : α → Prop} {g : α → Except Str Dt} (At : DefAt K mg x qual st ps) (S : FnScope N ps (defScope st)) (hn : ∀ a, (args a).length = ps.length)
    (hbody : ∀ (f : Addr) (cdv : Value) (A : Around) (outer : List PySem.Env) (s : Shared) (H : Hp) (E : XK), Room k (A.deeper (envOfC qual (defScope st) s.heap.objs.size f cdv)) →
      ∃ t, PSs (cxOf (L2.CX P w) P w K mg base N qual (defScope st) f cdv A outer s H E) (defBody st) t ∧ ∀ a, ok a → EvS ⟨K, E, pxOf mg (g a)⟩ t (slots0 N (args a)) (toX (g a))) : FnX1 P w K mg base (k + 1) x ps (spX K mg args ok g) := by
  obtain ⟨f, fd, Fu, hm, hb⟩ := At.ex
  refine ⟨f, fd, Fu.okX S (fun vs H Q E h => ?_) (fun cdv A outer s H vs Q E hr h => ?_), hm, Fu.kp, hb⟩
  · obtain ⟨F, a, _, da, _⟩ := h
    exact (dpAll_len da).trans (hn a)
  · obtain ⟨F, a, e, da, ho, q⟩ := h
    obtain ⟨t, ht, hev⟩ := hbody f cdv A outer s H E hr
    refine ⟨t, ht, hev a ho F H F H _ _ (env_start e da) (fun c F' H' hc n => ?_) ⟨fun F' H' σ ρ _ hd en => ?_, fun d v F' H' hd n p => ?_, fun ds p vs F' H' hd n h0 hF hp a => ?_, fun _ _ _ _ _ z => z.elim, fun _ _ _ _ _ z => z.elim⟩⟩
    · obtain ⟨x, hx, rfl⟩ := hc
      rw [hx] at q
      exact q F' H' n
    · rw [show g a = .ok .none from hd] at q
      exact q _ F' H' en.g .non
    · rw [show g a = .ok d from hd] at q
      exact q v F' H' n p
    · rw [show g _ = .ok (.list ds) from hd] at q
      exact q _ _ H' (n.shut h0 hF hp) (.lst (Or.inl (Or.inl upd_same)) (dpAll_ex (Evl.Ex.new hF) _ _ a))
end
section
variable {Z : Zx} {ρ : List Sl} {te ta tb : TE} {d : Dt} {P : Post} {mg : Str → Option Value}
theorem d_callX {α : Type} {args : α → List Dt} {ok : α → Prop} {f : α → Except Str Dt} {E : XK} {tr : TA} (a : α) (h : EvA Z tr ρ (args a)) (ho : ok a) (hf : f a = .ok d) : EvD Z (tCall (spX Z.K mg args ok f) [] E tr) ρ d := fun F0 H0 F H σ e w Q q =>
  h F0 H0 F H σ e w _ fun vs F1 H1 n1 a1 => ⟨F1, a, n1.i, by rw [List.append_nil]; exact a1, ho, by
    rw [hf]
    exact fun v F2 H2 n2 p2 => q v F2 H2 (n1.trans n2) p2⟩
theorem x_callX {α : Type} {args : α → List Dt} {ok : α → Prop} {f : α → Except Str Dt} {tr : TA} {x : Str} (a : α) (h : EvA Z tr ρ (args a)) (ho : ok a) (hf : f a = .error x) (hp : Z.px (clsOf mg x)) : EvX Z (tCall (spX Z.K mg args ok f) [] Z.E tr) ρ := fun F0 H0 F H σ e w Q =>
  h F0 H0 F H σ e w _ fun vs F1 H1 n1 a1 => ⟨F1, a, n1.i, by rw [List.append_nil]; exact a1, ho, by
    rw [hf]
    exact fun F2 H2 n2 => w _ F2 H2 hp ((e.g.trans n1).trans n2)⟩
/-- a text, whatever it says -/
def EvQ (Z : Zx) (te : TE) (ρ : List Sl) : Prop := ∀ F0 H0 F H σ, Env Z.K F0 H0 F H σ ρ → Wish Z F0 H0 → ∀ Q : VK, (∀ v F' H', Nx F H F' H' → Q v H') → te σ H Q
theorem EvD.q (h : EvD Z te ρ d) : EvQ Z te ρ := fun F0 H0 F H σ e w Q q => h F0 H0 F H σ e w Q fun v F' H' n _ => q v F' H' n
theorem s_rz {c : Value} (h : EvQ Z ta ρ) (hp : Z.px c) : EvS Z (tRz ta c Z.E) ρ P := fun F0 H0 F H σ D e w f =>
  h F0 H0 F H σ e w _ fun v F1 H1 n1 => w c F1 H1 hp (e.g.trans n1)
/-- parts of an f-string -/
inductive Parts (Z : Zx) (ρ : List Sl) : List TE → Prop where
  | nil : Parts Z ρ []
  | cons {t : TE} {ts : List TE} {y : Str} (h : EvD Z t ρ (.str y)) (hy : y.length ≤ 5000) (r : Parts Z ρ ts) : Parts Z ρ (t :: ts)
theorem str_app_len (a b : Str) : (a ++ b).length = a.length + b.length := Str.length_append a b
theorem joined_any {ts : List TE} (h : Parts Z ρ ts) : ∀ (acc : Str), acc.length + 5000 * ts.length ≤ 100000 → ∀ F0 H0 F H σ, Env Z.K F0 H0 F H σ ρ → Wish Z F0 H0 → ∀ Q : Str → Hp → Prop, (∀ out F' H', Nx F H F' H' → Q out H') → tJs ts acc σ H Q := by
  induction h with
  | nil => exact fun acc _ F0 H0 F H σ e w Q q => q acc F H (.refl e.g.i)
  | @cons t ts y h hy r ih =>
    intro acc hl F0 H0 F H σ e w Q q
    refine h F0 H0 F H σ e w _ fun v F1 H1 n1 p1 => ⟨y, dp_str p1, ?_, ih (acc ++ y) ?_ F0 H0 F1 H1 σ (e.step n1) w Q fun out F2 H2 n2 => q out F2 H2 (n1.trans n2)⟩
    · rw [str_app_len]
      refine Evl.sz_of ?_
      rw [List.length_cons] at hl
      omega
    · rw [str_app_len]
      rw [List.length_cons] at hl
      omega
theorem q_joined {ts : List TE} (h : Parts Z ρ ts) (hl : ts.length ≤ 10) : EvQ Z (fun σ H Q => tJs ts Str.empty σ H fun out H1 => Q (.str out) H1) ρ := fun F0 H0 F H σ e w Q q =>
  joined_any h Str.empty (by show 0 + _ ≤ _; omega) F0 H0 F H σ e w _ fun out F' H' n => q _ F' H' n
theorem d_fmtI {i : Int} (h : EvD Z te ρ (.int i)) (hi : i.natAbs.log2 < 1920) : EvD Z (tFmt te) ρ (.str (toString i)) := fun F0 H0 F H σ e w Q q =>
  h F0 H0 F H σ e w _ fun v F1 H1 n1 p1 => Or.inr ⟨i, dp_int p1, hi, q _ F1 H1 n1 (.str _)⟩
/-- a list or a tuple is taken apart -/
def gU (K : PySem.W.Frag) (n : Nat) (t : TGs) : TG := fun v σ H Q => gTup K n t v σ H Q ∨ gLst K n t v σ H Q
theorem pg_U {X : Cx} {es : List Expr} {k : Nat} {t : TGs} {n : Nat} {pos : Pos} {K : PySem.W.Frag} (hK : X.K = K) (hc : X.calm = true) (h : PGs X es t) (hn : (assignEach es X.env).length = n := by rfl) (hst : (assignEach es X.env).findIdx? (·.1) = none := by rfl) :
    PG X (.Tuple es k pos) (gU K n t) := by
  subst hK
  exact ⟨fun pins s σ H v u Q I r hw => hw.elim (fun z => (pg_tup hc h hn hst).run pins s σ H v u Q I r z) (fun z => (pg_lst hc h hn hst).run pins s σ H v u Q I r z)⟩
theorem g_U {k : Bool} {n : Nat} {gs : TGs} {ds : List Dt} {ρ1 : List Sl} (hl : ds.length = n) (h : EvGs Z gs ds ρ ρ1) : EvG Z (gU Z.K n gs) (sqD k ds) ρ ρ1 := fun F0 H0 F H σ v e p Q q => by
  cases k with
  | false => exact Or.inl (g_tup hl h F0 H0 F H σ v e p Q q)
  | true =>
    obtain ⟨a, vs, rfl, s, aa⟩ := dp_list p
    exact Or.inr ⟨a, vs, rfl, Evl.ex_l e.g.i s, (dpAll_len aa).trans hl, h F0 H0 F H σ vs e aa Q q⟩
end
/-! ### xs.count(y), flat items -/
def rCnt (K : PySem.W.Frag) : V → List V → Hp → VK → Prop := fun x xs H Q => ∃ (p : Addr) (ys : List V) (y : V), x = .ref p ∧ xs = [y] ∧ SqL K H p ys ∧ flatV y = true ∧ ys.all flatV = true ∧ Q (.int (ys.countP (fun z => eqV z y) : Nat)) H
theorem count_eqU {x : V} : ∀ {xs : List V} {us : List Value}, Vals xs us → xs.all flatV = true → us.countP (eqU x) = xs.countP fun y => eqV y x
  | _, _, .nil, _ => rfl
  | _, _, .cons r t, h => by
    rw [List.all_cons, Bool.and_eq_true] at h
    rw [List.countP_cons, List.countP_cons, count_eqU t h.2, eqU_of r h.1]
theorem mt_cnt {X : Cx} : MtR X "list.count" (rCnt X.K) := by
  intro pins s σ H x xs v us Q I rx rxs h
  obtain ⟨p, ys, y, rfl, rfl, hs, fy, fys, q⟩ := h
  cases rx
  obtain ⟨u, rfl, ru⟩ := rxs.one
  obtain ⟨its, rv, pl, hz⟩ := I.list hs
  obtain ⟨ob, n, ho, hc, hd, hdd⟩ := pl
  obtain ⟨oc, od, odt, osl⟩ := ob
  dsimp only at hc hd hdd
  subst hc hd hdd
  refine call_meets PySem.F.slot_list_count ⟨_, ho, rfl⟩ PySem.F.entry_list_count (PySem.F.args_list_count_2 _ _) (SeqAt.list_countAt p its.toArray n _ osl u (eqU y)) ⟨ho, fun z hz => mem_eqAt ru fy rv fys z (by simpa using hz), ?_⟩
  refine ⟨.int (ys.countP (fun z => eqV z y) : Nat), H, I.tok _, ⟨s.toks, ?_⟩, q⟩
  rw [← count_eqU rv fys]
/-! ### isinstance of what a suite holds -/
def rIsV (K : PySem.W.Frag) (a : Addr) (cls : Value) (d : Option Addr) : List V → Hp → VK → Prop := fun xs H Q => ∃ D, cls = .ref D ∧ d = none ∧ ExcC K D ∧ rIsE K D a xs H Q
theorem call_isV {X : Cx} {a : Addr} {oe : Obj} {cls : Value} {d : Option Addr} {pn : List (Addr × Obj)} {K : PySem.W.Frag} (hK : X.K = K) (hz : Zc cls d oe) (hf : ∃ vs, oe.data = .fields vs) : CallR (X.suite a ((a, oe) :: pn)) (.builtin "isinstance") (rIsV K a cls d) := by
  subst hK
  intro pins s σ H xs us Q I r h
  obtain ⟨D, rfl, rfl, C, h⟩ := h
  exact call_isE C hz hf pins s σ H xs us Q I r h
def rIsVT (K : PySem.W.Frag) (a : Addr) (cls : Value) (d : Option Addr) : List V → Hp → VK → Prop := fun xs H Q => ∃ D tp cs us b, cls = .ref D ∧ d = none ∧ ExcC K D ∧ xs = [.ref a, .ref tp] ∧ H tp = some (.tup cs) ∧ Paired ClsV cs us ∧ PySem.W.kitAny K (.ref D) us = some b ∧ Q (.bl b) H
theorem call_isVT {X : Cx} {a : Addr} {oe : Obj} {cls : Value} {d : Option Addr} {pn : List (Addr × Obj)} {K : PySem.W.Frag} (hK : X.K = K) (hz : Zc cls d oe) (hf : ∃ vs, oe.data = .fields vs) : CallR (X.suite a ((a, oe) :: pn)) (.builtin "isinstance") (rIsVT K a cls d) := by
  subst hK
  intro pins s σ H xs us Q I r h
  obtain ⟨D, tp, cs, ws, b, rfl, rfl, C, rfl, hT, k, e, q⟩ := h
  obtain ⟨u1, u2, rfl, r1, r2⟩ := vals2 r
  cases (show u1 = Value.ref a from r1)
  cases (show u2 = Value.ref tp from r2)
  obtain ⟨hget, _⟩ := I.pin (a, oe) (List.mem_append.mpr (.inl List.mem_cons_self))
  obtain ⟨vs, hv⟩ := hf
  have J : PySem.W.InstAt s.heap a oe D none := by
    obtain ⟨oc, od, oda, osl⟩ := oe
    obtain ⟨h1, h2⟩ := hz
    dsimp only at h1 h2 hv
    subst h1 h2 hv
    exact ⟨hget, rfl, rfl, trivial⟩
  obtain ⟨_, its, rv, o, h1, h2, n, h3⟩ := (show ObjOk X.prog X.w H s.heap tp (.tup cs) from I.hok tp _ hT)
  have e3 := ClsV.all k rv
  subst e3
  obtain ⟨oc, od, dt, sl⟩ := o
  simp only at h2 h3
  subst h2 h3
  exact PySem.W.kia_tup (PySem.W.handS_kitx_exc C.hg C.hk C.hs C.hd C.ha C.hn C.ht C.hm) I.kIn J h1 e (fun z => nomatch z) fun tk => ⟨.bl b, H, I.kept (t' := tk) fun _ _ z => z, rfl, q⟩
/-! ### try .. except .. as -/
def tTryA (tb : WX → TS) (K : PySem.W.Frag) (c : Value) (i : Nat) (ts : Addr → Value → Option Addr → TS) (Wout : WX) : TS := fun D σ H => tb (wAs K c i ts Wout D) D σ H
section
variable {Z : Zx} {ρ : List Sl} {te ta tb : TE} {d : Dt} {ds : List Dt} {P : Post} {mg : Str → Option Value} {c : Value}
/-- a reading that raises c, whatever wish W the clause has -/
def EvY (Z : Zx) (te : WX → TE) (ρ : List Sl) (c : Value) : Prop := ∀ F0 H0 F H σ, Env Z.K F0 H0 F H σ ρ → Wish Z F0 H0 → ∀ W : WX, (∀ F' H', Nx F H F' H' → W c none σ H') → ∀ Q : VK, te W σ H Q
def EvYS (Z : Zx) (ts : WX → TS) (ρ : List Sl) (c : Value) : Prop := ∀ F0 H0 F H σ D, Env Z.K F0 H0 F H σ ρ → Wish Z F0 H0 → ∀ W : WX, (∀ F' H', Nx F H F' H' → W c none σ H') → ts W D σ H
theorem y_call {α : Type} {args : α → List Dt} {ok : α → Prop} {f : α → Except Str Dt} {tr : TA} {x : Str} (a : α) (h : EvA Z tr ρ (args a)) (ho : ok a) (hf : f a = .error x) (hc : clsOf mg x = c) : EvY Z (fun W => tCallS (spX Z.K mg args ok f) (WE W) tr) ρ c := fun F0 H0 F H σ e w W k Q =>
  h F0 H0 F H σ e w _ fun vs F1 H1 n1 a1 => ⟨F1, a, n1.i, a1, ho, by
    rw [hf]
    exact fun F2 H2 n2 => by
      rw [hc]
      exact k F2 H2 (n1.trans n2)⟩
theorem d_callXS {α : Type} {args : α → List Dt} {ok : α → Prop} {f : α → Except Str Dt} {Es : L2.St → XK} {tr : TA} (a : α) (h : EvA Z tr ρ (args a)) (ho : ok a) (hf : f a = .ok d) : EvD Z (tCallS (spX Z.K mg args ok f) Es tr) ρ d := fun F0 H0 F H σ e w Q q =>
  h F0 H0 F H σ e w _ fun vs F1 H1 n1 a1 => ⟨F1, a, n1.i, a1, ho, by
    rw [hf]
    exact fun v F2 H2 n2 p2 => q v F2 H2 (n1.trans n2) p2⟩
theorem y_op1 {te : WX → TE} {r : R2} (h : EvY Z te ρ c) : EvY Z (fun W => tOp r (te W) tb) ρ c := fun F0 H0 F H σ e w W k Q => h F0 H0 F H σ e w W k _
theorem y_op2 {te : WX → TE} {r : R2} (ha : EvL Z ta ρ ds) (h : EvY Z te ρ c) : EvY Z (fun W => tOp r ta (te W)) ρ c := fun F0 H0 F H σ e w W k Q =>
  ha F0 H0 F H σ e w _ fun p vs F1 H1 n1 _ _ _ _ => h F0 H0 F1 H1 σ (e.step n1) w W (fun F2 H2 n2 => k F2 H2 (n1.trans n2)) _
theorem y_cb1 {te : WX → TE} {r : List V → Hp → VK → Prop} {tr : TA} (h : EvY Z te ρ c) : EvY Z (fun W => tCB r (tCons (te W) tr)) ρ c := fun F0 H0 F H σ e w W k Q => h F0 H0 F H σ e w W k _
theorem ys_ret {te : WX → TE} (h : EvY Z te ρ c) : EvYS Z (fun W => tRet (te W)) ρ c := fun F0 H0 F H σ D e w W k => h F0 H0 F H σ e w W k _
theorem s_tryOk {tb : WX → TS} {i : Nat} {ts : Addr → Value → Option Addr → TS} {Wout : WX} (h : ∀ W, EvS Z (tb W) ρ P) : EvS Z (tTryA tb Z.K c i ts Wout) ρ P := fun F0 H0 F H σ D e w f => h _ F0 H0 F H σ D e w f
theorem s_tryEx {tb : WX → TS} {i : Nat} {cE : Value} {ts : Addr → Value → Option Addr → TS} {Wout : WX} (h : EvYS Z tb ρ c) (hm : PySem.W.exmOne Z.K c cE = some true) (hs : ∀ a, EvS Z (ts a c none) (ρ.set i (.ref a)) { P with nx := fun _ => False, bk := fun _ => False, ct := fun _ => False }) : EvS Z (tTryA tb Z.K cE i ts Wout) ρ P := fun F0 H0 F H σ D e w f =>
  h F0 H0 F H σ D e w _ fun F1 H1 n1 => ⟨true, hm, fun _ a ha => hs a F0 H0 F1 H1 _ _ (e.step n1).setRef w ⟨fun _ _ _ _ _ z => z.elim, f.rt, f.rl, fun _ _ _ _ _ z => z.elim, fun _ _ _ _ _ z => z.elim⟩, fun z => nomatch z⟩
theorem Env.ref {K : PySem.W.Frag} {F0 H0 F H : Hp} {σ : L2.St} {i : Nat} {a : Addr} (E : Env K F0 H0 F H σ ρ) (h : ρ[i]? = some (.ref a)) : σ[i]? = some (some (.ref a)) := by
  obtain ⟨o, h1, rfl⟩ := E.sl i _ h
  exact h1
theorem d_isE {i : Nat} {a D : Addr} {cv : V} {C : Value} {b : Bool} (hi : ρ[i]? = some (.ref a)) (ec : ExcC Z.K D) (k : ClsV cv C) (hb : PySem.W.kitOne Z.K (.ref D) C = some b) : EvD Z (tCB (rIsV Z.K a (.ref D) none) (tCons (tVar i) (tCons (tC cv) tNil))) ρ (.bool b) := fun F0 H0 F H σ e w Q q =>
  ⟨_, e.ref hi, D, rfl, rfl, ec, cv, C, b, rfl, fun u r => k.eq r, hb, q _ F H (.refl e.g.i) (.bl b)⟩
theorem d_isE3 {i : Nat} {a D C1 C2 C3 : Addr} {b : Bool} (hi : ρ[i]? = some (.ref a)) (ec : ExcC Z.K D) (hb : PySem.W.kitAny Z.K (.ref D) [.ref C1, .ref C2, .ref C3] = some b) : EvD Z (tCB (rIsVT Z.K a (.ref D) none) (tCons (tVar i) (tCons (tTup (tCons (tC (.ref C1)) (tCons (tC (.ref C2)) (tCons (tC (.ref C3)) tNil)))) tNil))) ρ (.bool b) := fun F0 H0 F H σ e w Q q =>
  ⟨_, e.ref hi, Evl.sz_of (by show 3 ≤ _; omega), fun p hp => ⟨D, p, _, _, b, rfl, rfl, ec, rfl, upd_same, .cons (.own C1) (.cons (.own C2) (.cons (.own C3) .nil)), hb, q _ F _ (Nx.own e.g.i hp) (.bl b)⟩⟩
theorem dpAll_bools {K : PySem.W.Frag} {F : Hp} : ∀ {bs : List Bool} {vs : List V}, DpAll K F vs (bs.map .bool) → vs = bs.map V.bl
  | [], _, h => by cases h; rfl
  | n :: ns, _, h => by
    cases h with
    | cons a b => rw [dp_bl a, dpAll_bools b]; rfl
theorem flat_bools (bs : List Bool) : (bs.map V.bl).all flatV = true := by
  rw [List.all_map]
  exact List.all_eq_true.mpr fun _ _ => rfl
theorem eqV_bl {a b : Bool} : eqV (.bl a) (.bl b) = decide (a = b) := by cases a <;> cases b <;> rfl
theorem cnt_bools (y : Bool) : ∀ bs : List Bool, (bs.map V.bl).countP (fun z => eqV z (.bl y)) = bs.count y
  | [] => rfl
  | b :: r => by
    rw [List.map_cons, List.countP_cons, List.count_cons, cnt_bools y r, eqV_bl]
    by_cases e : b = y
    · rw [if_pos (decide_eq_true e), if_pos (by rw [e]; exact beq_self_eq_true _)]
    · rw [if_neg (by rw [decide_eq_false e]; exact Bool.false_ne_true), if_neg (by simpa using e)]
/-- xs.count(y) of truths -/
theorem d_cntB {y : Bool} {bs : List Bool} (ha : EvV Z true ta ρ (bs.map .bool)) : EvD Z (tBM Z.K "list" (rCnt Z.K) ta (tCons (tC (.bl y)) tNil)) ρ (.int ((bs.count y : Nat) : Int)) := fun F0 H0 F H σ e w Q q =>
  ha F0 H0 F H σ e w _ fun p vs F1 H1 n1 s1 a1 => by
    have ev := dpAll_bools a1
    subst ev
    refine ⟨Or.inl ⟨rfl, _, s1⟩, p, _, .bl y, rfl, rfl, Evl.ex_l (.refl _) s1, rfl, flat_bools bs, ?_⟩
    rw [cnt_bools]
    exact q _ F1 H1 n1 (.int _)
theorem d_idxB {y : Bool} {bs : List Bool} (ha : EvV Z true ta ρ (bs.map .bool)) (hm : y ∈ bs) : EvD Z (tBM Z.K "list" (rIndex Z.K) ta (tCons (tC (.bl y)) tNil)) ρ (.int ((bs.idxOf y : Nat) : Int)) := fun F0 H0 F H σ e w Q q =>
  ha F0 H0 F H σ e w _ fun p vs F1 H1 n1 s1 a1 => by
    have ev := dpAll_bools a1
    subst ev
    have hlt : bs.idxOf y < bs.length := List.idxOf_lt_length_of_mem hm
    refine ⟨Or.inl ⟨rfl, _, s1⟩, p, _, .bl y, bs.idxOf y, .bl y, rfl, rfl, Evl.ex_l (.refl _) s1, rfl, flat_bools bs, ?_, by rw [eqV_bl]; exact decide_eq_true rfl, fun m z' hlt2 hz => ?_, q _ F1 H1 n1 (.int _)⟩
    · rw [List.getElem?_map, List.getElem?_eq_getElem hlt, List.getElem_idxOf hlt]
      rfl
    · rw [List.getElem?_map] at hz
      have hml : m < bs.length := Nat.lt_trans hlt2 hlt
      rw [List.getElem?_eq_getElem hml] at hz
      have ez : V.bl bs[m] = z' := Option.some.inj hz
      rw [← ez, eqV_bl]
      refine decide_eq_false fun z => ?_
      have hn := List.not_of_lt_findIdx (p := (· == y)) (xs := bs) (i := m) hlt2
      rw [z] at hn
      simp at hn
end
section
variable {X : Cx} {x n : Str} {c : Value} {i : Nat} {body suite : List Stmt} {b₀ : Stmt} {np pos pos' : Pos} {tb : WX → TS} {ts : Addr → Value → Option Addr → TS} {Wout : WX} {K : PySem.W.Frag}
theorem ps_tryA (hK : X.K = K) (hs : X.stack = X.env :: X.outer) (hf : X.env.frame = some X.env.locals) (hN : X.N.Nodup) (hi : X.N[i]? = some n) (hln : X.env.kindOf n = some .local) (hc : Names X x c) (tk : Takes X Wout)
    (hb : ∀ (W : WX) (pn : List (Addr × Obj)) (xe : Value → Shared → Prop), Takes (X.tr pn xe) W → PassesOwn (model X.prog X.w) X.A X.env xe → PSs (X.tr pn xe) body (tb W))
    (hsu : ∀ (a : Addr) (oe : Obj) (cls : Value) (d : Option Addr) (pn : List (Addr × Obj)), Zc cls d oe → (∃ vs, oe.data = .fields vs) → PSs (X.suite a ((a, oe) :: pn)) (b₀ :: suite) (ts a cls d)) :
    PS X (.Try body [.ExceptHandler (some (.Name x np)) (some n) (b₀ :: suite) pos'] [] [] pos) (tTryA tb K c i ts Wout) := by
  subst hK
  exact ps_try_as hs hf hN hi hln hc tk hb hsu
variable {o e : Expr} {es : List Expr} {to : TE} {t : TA} {name : Str} {apos cpos : Pos} {T id : String} {r : V → List V → Hp → VK → Prop}
theorem pe_bmK (hK : X.K = K) (pa : PlainAttrs T) (slot : Slot T name id) (hty : typeOf (.builtin id) = pure (.type "method_descriptor")) (hm : MtR X id r) (ho : PE X o to) (ha : PA X (e :: es) t)
    (hbase : attributeBase o name X.env (eval o X.env) = eval o X.env := by rfl)
    (hfew : ((backTo cpos (starEach (e :: es) X.env)).all (fun x => !x.1) && (backToKw cpos (keywordEach [] X.env)).all (fun x => x.1.isSome)
      && decide ((e :: es).length + ([] : List Keyword).length + (if ([] : List Keyword).isEmpty then 0 else 1) < 30)) = true := by rfl)
    (hline : (apos.endLine == cpos.line) = true := by rfl) (hs : starEach (e :: es) X.env = (false, eval e X.env) :: starEach es X.env := by rfl) (hplain : (backTo cpos (starEach es X.env)).any (·.1) = false := by rfl) :
    PE X (.Call (.Attribute o name apos) (e :: es) [] cpos) (tBM K T r to t) := by
  subst hK
  exact pe_bm pa slot hty hm ho ha hbase hfew hline hs hplain
end
/-! ### a truth among numbers -/
def rAddBI : R2 := fun x y H Q => ∃ b i, x = .bl b ∧ y = .int i ∧ Q (.int ((if b = true then (1 : Int) else 0) + i)) H
theorem op_addBI {X : Cx} : OpR X (binaryOp .Add) rAddBI := by
  intro pins s σ H x y v u Q I rx ry h
  obtain ⟨b, i, rfl, rfl, q⟩ := h
  cases rx
  obtain ⟨t, rfl⟩ := ry
  exact PySem.IntBool.add_bool_int ⟨.int _, H, I.tok _, ⟨_, rfl⟩, q⟩
def rSubBI : R2 := fun x y H Q => ∃ b i, x = .bl b ∧ y = .int i ∧ Q (.int ((if b = true then (1 : Int) else 0) - i)) H
theorem op_subBI {X : Cx} : OpR X (binaryOp .Sub) rSubBI := by
  intro pins s σ H x y v u Q I rx ry h
  obtain ⟨b, i, rfl, rfl, q⟩ := h
  cases rx
  obtain ⟨t, rfl⟩ := ry
  exact PySem.IntBool.sub_bool_int ⟨.int _, H, I.tok _, ⟨_, rfl⟩, q⟩
def rAddX (K : PySem.W.Frag) : R2 := fun x y H Q => rAddU K x y H Q ∨ rAddBI x y H Q
theorem op_addX {X : Cx} : OpR X (binaryOp .Add) (rAddX X.K) := op_addU.or op_addBI
def rSubX : R2 := fun x y H Q => rI0 (fun i j => .int (i - j)) x y H Q ∨ rSubBI x y H Q
theorem op_subX {X : Cx} : OpR X (binaryOp .Sub) rSubX := op_sub.or op_subBI
section
variable {Z : Zx}
theorem r_addXI {i j : Int} : RD Z (rAddX Z.K) (.int i) (.int j) (.int (i + j)) := RD.l r_addI
theorem r_addXB {b : Bool} {j : Int} : RD Z (rAddX Z.K) (.bool b) (.int j) (.int ((if b = true then (1 : Int) else 0) + j)) := RD.rr fun F H v u e hv hu Q q => ⟨b, j, dp_bl hv, dp_int hu, q _ F H (.refl e) (.int _)⟩
theorem r_subXI {i j : Int} : RD Z rSubX (.int i) (.int j) (.int (i - j)) := RD.l r_subI
theorem r_subXB {b : Bool} {j : Int} : RD Z rSubX (.bool b) (.int j) (.int ((if b = true then (1 : Int) else 0) - j)) := RD.rr fun F H v u e hv hu Q q => ⟨b, j, dp_bl hv, dp_int hu, q _ F H (.refl e) (.int _)⟩
end
end DL

set_option Elab.async false
set_option linter.all false
set_option maxRecDepth 100000
set_option maxHeartbeats 4000000
set_option exponentiation.threshold 10000
/-! tactics of this file: walk_at "ev" goes through a reading by data; what it can't say stays -/
local macro_rules | `(tactic| walk_at "ev") => `(tactic| first
  | with_reducible exact DL.d_int | with_reducible exact DL.d_bl | with_reducible exact DL.d_non | with_reducible exact DL.d_str | with_reducible exact DL.ea_nil | with_reducible exact DL.o_none
  | ((with_reducible apply DL.d_var) <;> exact rfl)
  | ((with_reducible apply DL.w_var) <;> exact rfl)
  | ((with_reducible apply DL.ea_cons) <;> walk_at "ev")
  | ((with_reducible apply DL.o_some) <;> walk_at "ev")
  | ((with_reducible apply DL.d_ixC) <;> first | ((fail_if_success (with_reducible show (_ : Option _) = _)); walk_at "ev") | exact rfl)
  | ((with_reducible apply DL.d_ixI) <;> walk_at "ev")
  | ((with_reducible apply DL.d_ix) <;> walk_at "ev")
  | with_reducible exact DL.IsInts.of _
  | with_reducible exact DL.IsInts.nil
  | ((with_reducible apply DL.IsInts.cons) <;> walk_at "ev")
  | ((with_reducible apply DL.d_tup) <;> walk_at "ev")
  | ((with_reducible apply DL.d_len) <;> walk_at "ev")
  | ((with_reducible apply DL.d_isi) <;> walk_at "ev")
  | ((with_reducible apply DL.d_isiV) <;> walk_at "ev")
  | ((with_reducible apply DL.d_neg) <;> walk_at "ev")
  | ((with_reducible apply DL.d_abs) <;> walk_at "ev")
  | ((with_reducible apply DL.d_gcd) <;> walk_at "ev")
  | ((with_reducible apply DL.d_max2) <;> walk_at "ev")
  | ((with_reducible apply DL.d_min2) <;> walk_at "ev")
  | ((with_reducible apply DL.d_intI) <;> walk_at "ev")
  | ((with_reducible apply DL.d_intB) <;> walk_at "ev")
  | ((with_reducible apply DL.d_tuple) <;> walk_at "ev")
  | ((with_reducible apply DL.d_tupleT) <;> walk_at "ev")
  | ((with_reducible apply DL.d_maxD) <;> walk_at "ev")
  | ((with_reducible apply DL.d_if) <;> walk_at "ev")
  | ((with_reducible apply DL.d_index) <;> walk_at "ev")
  | ((with_reducible apply DL.d_not) <;> walk_at "ev")
  | ((with_reducible apply DL.d_and) <;> walk_at "ev")
  | ((with_reducible apply DL.d_or) <;> walk_at "ev")
  | ((with_reducible apply DL.d_slice) <;> walk_at "ev")
  | ((with_reducible apply DL.d_chain) <;> walk_at "ev")
  | walk_at "call"
  | ((with_reducible apply DL.d_op) <;> walk_at "ev")
  | ((with_reducible apply DL.l_lst) <;> walk_at "ev")
  | ((with_reducible apply DL.l_list) <;> walk_at "ev")
  | ((with_reducible apply DL.l_slice) <;> walk_at "ev")
  | ((with_reducible apply DL.l_cat) <;> walk_at "ev")
  | ((with_reducible apply DL.l_rep) <;> walk_at "ev")
  | ((with_reducible apply DL.t_not) <;> walk_at "ev")
  | ((with_reducible apply DL.t_and) <;> walk_at "ev")
  | ((with_reducible apply DL.t_or) <;> walk_at "ev")
  | ((with_reducible apply DL.t_T) <;> walk_at "ev")
  | ((with_reducible apply DL.t_B) <;> walk_at "ev")
  | ((with_reducible apply DL.t_tru) <;> walk_at "ev")
  | ((with_reducible apply DL.t_seq) <;> walk_at "ev")
  | ((with_reducible apply DL.EvW.v) <;> (with_reducible apply DL.w_var) <;> exact rfl)
  | ((with_reducible apply DL.EvL.v) <;> walk_at "ev")
  | ((with_reducible apply DL.EvD.sq) <;> walk_at "ev")
  | ((with_reducible apply DL.EvL.w) <;> walk_at "ev")
  | ((with_reducible apply DL.EvL.dt) <;> walk_at "ev")
  | ((with_reducible refine fun (_ : _ = _) => ?_); walk_at "ev")
  | walk_at "op"
  | walk_at "side")
local macro_rules | `(tactic| walk_at "op") => `(tactic| first
  | with_reducible exact DL.r_addI | with_reducible exact DL.r_subI | with_reducible exact DL.r_lt | with_reducible exact DL.r_le | with_reducible exact DL.r_gt | with_reducible exact DL.r_ge
  | exact DL.r_isN | exact DL.r_notN | with_reducible exact DL.r_isB | with_reducible exact DL.r_notB
  | with_reducible exact DL.r_eqI | with_reducible exact DL.r_neI | with_reducible exact DL.r_eqB | with_reducible exact DL.r_neB
  | ((with_reducible apply DL.r_mulI) <;> first | exact Or.inl (Or.inl (by omega)) | exact Or.inl (Or.inr (by omega)) | skip)
  | ((with_reducible apply DL.r_divI) <;> first | exact Or.inl (show 0 < _ ∧ _ < 1073741824 from ⟨by omega, by omega⟩) | exact Or.inl (show 0 < _ ∧ _ < 1073741824 from ⟨by simp only [DL.intsD_len]; omega, by simp only [DL.intsD_len]; omega⟩) | skip)
  | ((with_reducible apply DL.r_modI) <;> walk_at "side")
  | ((with_reducible apply DL.r_powI) <;> first | exact ⟨by omega, by omega, by omega⟩ | exact ⟨by decide, by decide, by decide⟩ | skip)
  | ((with_reducible apply DL.r_addT) <;> first | (simp only [DL.intsD_len, List.length_cons, List.length_nil, List.length_append]; omega) | skip)
  | ((with_reducible apply DL.r_repT) <;> walk_at "side")
  | ((with_reducible apply DL.r_eqD) <;> walk_at "side")
  | ((with_reducible apply DL.r_neD) <;> walk_at "side"))
local macro_rules | `(tactic| walk_at "side") => `(tactic| (
  (fail_if_success (with_reducible show DL.EvD _ _ _ _)); (fail_if_success (with_reducible show DL.EvV _ _ _ _ _)); (fail_if_success (with_reducible show DL.EvL _ _ _ _)); (fail_if_success (with_reducible show DL.EvT _ _ _ _)); (fail_if_success (with_reducible show DL.EvA _ _ _ _)); (fail_if_success (with_reducible show DL.EvW _ _ _ _)); (fail_if_success (with_reducible show DL.EvO _ _ _ _)); (fail_if_success (with_reducible show DL.IsInts _ _));
  first | exact DL.IsSq.l | exact DL.IsSq.t | exact DL.TruD.bl | exact DL.TruD.int | exact DL.TruD.lst | exact DL.TruD.tup | exact DL.TruD.non | exact rfl | omega | (simp only [DL.intsD_len, List.length_cons, List.length_nil, List.length_append]; omega) | (decide +kernel) | exact trivial | ((with_reducible show _ ∧ _); (with_reducible refine ⟨?_, ?_⟩) <;> walk_at "side") | skip))
namespace k12
open PySem PySem.Spec PyProof.Rows L2 DL
def topS (i : Nat) : Stmt := PySem.Challenge.pw_gradewish_k12_courses_refused.main.body.getD i (.Pass ⟨0, 0, 0, 0⟩)
-- KIND: D
-- CALL: {ns : List Int} {k : Int} | .list (intsD ns) ; .int k | (ns, k) | ns.length ≤ 63 ∧ 0 ≤ k | .int (cellAt ns k)
def cellAt (ns : List Int) (k : Int) : Int := if ns.length = 0 then k else ns.getD (k % (ns.length : Int)).toNat 0 + 3 * (k / (ns.length : Int))
abbrev sp_l_cell_at (K : PySem.W.Frag) : Sp := spD K (fun a : List Int × Int => [.list (intsD a.1), .int a.2]) (fun a => a.1.length ≤ 63 ∧ 0 ≤ a.2) (fun a => .int (cellAt a.1 a.2))

theorem c_l_cell_at {Z : Zx} {ρ : List Sl} {E : XK} {t0 t1 : TE} {ns : List Int} {k : Int} (h0 : EvD Z t0 ρ (.list (intsD ns))) (h1 : EvD Z t1 ρ (.int k)) (ok : ns.length ≤ 63 ∧ 0 ≤ k) : EvD Z (tCall (sp_l_cell_at Z.K) [] E (tCons t0 (tCons t1 tNil))) ρ (.int (cellAt ns k)) := DL.d_call (ns, k) (DL.ea_cons h0 (DL.ea_cons h1 DL.ea_nil)) ok
local macro_rules | `(tactic| walk_at "call") => `(tactic| ((with_reducible apply k12.c_l_cell_at) <;> walk_at "ev"))
-- KIND: L
-- CALL: {c m : Int} | .int c ; .int m | (c, m) | 0 ≤ m ∧ m ≤ 1000 | intsD (streamP c m)
def strN (c : Int) : Nat → Int
  | 0 => c % 2147483647 + 48271
  | i + 1 => (strN c i * strN c i + 48271 * strN c i + 7 * (i : Int) + 1) % 2147483647
theorem strN_lo (c : Int) : ∀ i, 0 ≤ strN c i ∧ strN c i < 2 ^ 32
  | 0 => by unfold strN; omega
  | i + 1 => by
    unfold strN
    constructor
    · exact Int.emod_nonneg _ (by decide)
    · exact Int.lt_trans (Int.emod_lt_of_pos _ (by decide)) (by decide)
def streamP (c m : Int) : List Int := (List.range m.toNat).map fun j => strN c (j + 2)
theorem streamP_len (c m : Int) : (streamP c m).length = m.toNat := by unfold streamP; rw [List.length_map, List.length_range]
theorem streamP_lo (c m : Int) : ∀ x ∈ streamP c m, 0 ≤ x ∧ x < 2 ^ 32 := fun x hx => by
  obtain ⟨j, _, rfl⟩ := List.mem_map.mp hx
  exact strN_lo c _
abbrev sp_l_stream (K : PySem.W.Frag) : Sp := spL K (fun a : Int × Int => [.int a.1, .int a.2]) (fun a => 0 ≤ a.2 ∧ a.2 ≤ 1000) (fun a => intsD (streamP a.1 a.2))

theorem c_l_stream {Z : Zx} {ρ : List Sl} {E : XK} {t0 t1 : TE} {c m : Int} (h0 : EvD Z t0 ρ (.int c)) (h1 : EvD Z t1 ρ (.int m)) (ok : 0 ≤ m ∧ m ≤ 1000) : EvL Z (tCall (sp_l_stream Z.K) [] E (tCons t0 (tCons t1 tNil))) ρ (intsD (streamP c m)) := DL.l_call (c, m) (DL.ea_cons h0 (DL.ea_cons h1 DL.ea_nil)) ok
local macro_rules | `(tactic| walk_at "call") => `(tactic| ((with_reducible apply k12.c_l_stream) <;> walk_at "ev"))
-- KIND: D
-- CALL: {xs : List Int} | .list (intsD xs) | xs | 16 ≤ xs.length | (taskBy xs).D
structure Task where
  w : Int
  most : Int
  cap : Int
  tries : List Int
abbrev Task.D (t : Task) : PyData := .tuple [.int t.w, .int t.most, .int t.cap, .tuple (intsD t.tries)]
structure Task.Ok (t : Task) : Prop where
  w0 : 1 ≤ t.w
  w1 : t.w ≤ 1000
  m0 : 1 ≤ t.most
  m1 : t.most ≤ 1000000
  c0 : 0 ≤ t.cap
  c1 : t.cap ≤ t.most
  l : t.tries.length ≤ 12
  t0 : ∀ x ∈ t.tries, 0 ≤ x ∧ x ≤ t.most
theorem getD_all {p : Int → Prop} {l : List Int} {i : Nat} (h : i < l.length) (hp : ∀ y ∈ l, p y) : p (l.getD i 0) := by
  rw [List.getD_eq_getElem?_getD, List.getElem?_eq_getElem h]
  exact hp _ (List.getElem_mem h)
def weightP (x : Int) : Int := if x / 5 % 5 = 0 then 1 + x / 25 % 1000 else 1 + x % 5
def mostP (x : Int) : Int := [1, 10, 100, 1 + x / 6 % 20, 1 + x / 6 % 1000000, 1000000].getD (x % 6).toNat 0
def capP (x m : Int) : Int := [m, 0, m / 2, x / 4 % (m + 1)].getD (x % 4).toNat 0
def manyP (x : Int) : Int := [0, 1, 1, 2, 3, 1, 0, 12, 11].getD (x % 9).toNat 0
def tryP (x m c : Int) : Int := [x / 5 % (m + 1), x / 5 % (m + 1), 0, m, c].getD (x % 5).toNat 0
theorem weightP_lo (x : Int) : 1 ≤ weightP x ∧ weightP x ≤ 1000 := by unfold weightP; split <;> omega
theorem mostP_lo (x : Int) : 1 ≤ mostP x ∧ mostP x ≤ 1000000 := by
  unfold mostP
  refine getD_all (p := fun m => 1 ≤ m ∧ m ≤ 1000000) (by simp only [List.length_cons, List.length_nil]; omega) fun y hy => ?_
  simp only [List.mem_cons, List.not_mem_nil, or_false] at hy
  rcases hy with rfl | rfl | rfl | rfl | rfl | rfl <;> omega
theorem capP_lo {x m : Int} (hm : 1 ≤ m) : 0 ≤ capP x m ∧ capP x m ≤ m := by
  unfold capP
  refine getD_all (p := fun c => 0 ≤ c ∧ c ≤ m) (by simp only [List.length_cons, List.length_nil]; omega) fun y hy => ?_
  have h1 := Int.emod_nonneg (x / 4) (show m + 1 ≠ 0 by omega)
  have h2 := Int.emod_lt_of_pos (x / 4) (show 0 < m + 1 by omega)
  simp only [List.mem_cons, List.not_mem_nil, or_false] at hy
  rcases hy with rfl | rfl | rfl | rfl <;> omega
theorem manyP_lo (x : Int) : 0 ≤ manyP x ∧ manyP x ≤ 12 := by
  unfold manyP
  refine getD_all (p := fun m => 0 ≤ m ∧ m ≤ 12) (by simp only [List.length_cons, List.length_nil]; omega) fun y hy => ?_
  simp only [List.mem_cons, List.not_mem_nil, or_false] at hy
  omega
theorem tryP_lo {x m c : Int} (hm : 1 ≤ m) (h0 : 0 ≤ c) (h1 : c ≤ m) : 0 ≤ tryP x m c ∧ tryP x m c ≤ m := by
  unfold tryP
  refine getD_all (p := fun c => 0 ≤ c ∧ c ≤ m) (by simp only [List.length_cons, List.length_nil]; omega) fun y hy => ?_
  have h1 := Int.emod_nonneg (x / 5) (show m + 1 ≠ 0 by omega)
  have h2 := Int.emod_lt_of_pos (x / 5) (show 0 < m + 1 by omega)
  simp only [List.mem_cons, List.not_mem_nil, or_false] at hy
  rcases hy with rfl | rfl | rfl | rfl | rfl <;> omega
def taskBy (xs : List Int) : Task where
  w := weightP (xs.getD 0 0)
  most := mostP (xs.getD 1 0)
  cap := capP (xs.getD 2 0) (mostP (xs.getD 1 0))
  tries := (List.range (manyP (xs.getD 3 0)).toNat).map fun j => tryP (xs.getD (4 + j) 0) (mostP (xs.getD 1 0)) (capP (xs.getD 2 0) (mostP (xs.getD 1 0)))
theorem taskBy_ok (xs : List Int) : (taskBy xs).Ok where
  w0 := (weightP_lo _).1
  w1 := (weightP_lo _).2
  m0 := (mostP_lo _).1
  m1 := (mostP_lo _).2
  c0 := (capP_lo (mostP_lo _).1).1
  c1 := (capP_lo (mostP_lo _).1).2
  l := by
    show (List.map _ _).length ≤ 12
    rw [List.length_map, List.length_range]
    have := manyP_lo (xs.getD 3 0)
    omega
  t0 := fun x hx => by
    obtain ⟨j, _, rfl⟩ := List.mem_map.mp hx
    exact tryP_lo (mostP_lo _).1 (capP_lo (mostP_lo _).1).1 (capP_lo (mostP_lo _).1).2
def gAt (t : Task) (i : Nat) : Int := if i = 0 then t.tries.getD i 0 else min (t.tries.getD i 0) t.cap
def givesP (t : Task) : List Int := (List.range t.tries.length).map (gAt t)
abbrev sp_l_task_by (K : PySem.W.Frag) : Sp := spD K (fun xs : List Int => [.list (intsD xs)]) (fun xs => 16 ≤ xs.length) (fun xs => (taskBy xs).D)

theorem c_l_task_by {Z : Zx} {ρ : List Sl} {E : XK} {t0 : TE} {xs : List Int} (h0 : EvD Z t0 ρ (.list (intsD xs))) (ok : 16 ≤ xs.length) : EvD Z (tCall (sp_l_task_by Z.K) [] E (tCons t0 tNil)) ρ ((taskBy xs).D) := DL.d_call xs (DL.ea_cons h0 DL.ea_nil) ok
local macro_rules | `(tactic| walk_at "call") => `(tactic| ((with_reducible apply k12.c_l_task_by) <;> walk_at "ev"))
-- KIND: D
-- CALL: {c m : Int} | .int c ; .int m | (c, m) | 0 ≤ m ∧ m ≤ 8 | (partBy c m).D
structure Part where
  w : Int
  worst : Int
  top : Int
  tasks : List Task
  extras : List Int
def tasksD (ts : List Task) : List PyData := ts.map Task.D
abbrev Part.D (p : Part) : PyData := .tuple [.int p.w, .int p.worst, .int p.top, .tuple (tasksD p.tasks), .tuple (intsD p.extras)]
structure Part.Ok (p : Part) : Prop where
  w0 : 1 ≤ p.w
  w1 : p.w ≤ 1000
  o0 : 0 ≤ p.worst
  o1 : p.worst ≤ 3
  t0 : 0 ≤ p.top
  t1 : p.top ≤ 1000
  tl : p.tasks.length ≤ 8
  ts : ∀ t ∈ p.tasks, t.Ok
  el : p.extras.length ≤ 12
  es : ∀ x ∈ p.extras, 0 ≤ x ∧ x ≤ 1000
def topP (x : Int) : Int := [0, 50, 1000, x / 4 % 1001].getD (x % 4).toNat 0
def exMod (x : Int) : Int := [1001, 30].getD (x / 8 % 2).toNat 0
def exMany (x : Int) : Int := [0, 0, 1, 1, 2, 3, 4, 12].getD (x % 8).toNat 0
theorem topP_lo (x : Int) : 0 ≤ topP x ∧ topP x ≤ 1000 := by
  unfold topP
  refine getD_all (p := fun m => 0 ≤ m ∧ m ≤ 1000) (by simp only [List.length_cons, List.length_nil]; omega) fun y hy => ?_
  simp only [List.mem_cons, List.not_mem_nil, or_false] at hy
  omega
theorem exMod_lo (x : Int) : 0 < exMod x ∧ exMod x ≤ 1001 := by
  unfold exMod
  refine getD_all (p := fun m => 0 < m ∧ m ≤ 1001) (by simp only [List.length_cons, List.length_nil]; omega) fun y hy => ?_
  simp only [List.mem_cons, List.not_mem_nil, or_false] at hy
  omega
theorem exMany_lo (x : Int) : 0 ≤ exMany x ∧ exMany x ≤ 12 := by
  unfold exMany
  refine getD_all (p := fun m => 0 ≤ m ∧ m ≤ 12) (by simp only [List.length_cons, List.length_nil]; omega) fun y hy => ?_
  simp only [List.mem_cons, List.not_mem_nil, or_false] at hy
  omega
def partOf (xs : List Int) (m : Int) : Part where
  w := weightP (xs.getD 0 0)
  worst := xs.getD 1 0 % 4
  top := topP (xs.getD 2 0)
  tasks := (List.range (xs.getD 3 0 % (m + 1)).toNat).map fun k => taskBy ((xs.drop (20 + 16 * k)).take 16)
  extras := (List.range (exMany (xs.getD 4 0)).toNat).map fun k => xs.getD (5 + k) 0 % exMod (xs.getD 4 0)
def partBy (c m : Int) : Part := partOf (streamP c (20 + 16 * m)) m
theorem partOf_ok {xs : List Int} {m : Int} (h0 : 0 ≤ m) (h1 : m ≤ 8) : (partOf xs m).Ok where
  w0 := (weightP_lo _).1
  w1 := (weightP_lo _).2
  o0 := by show 0 ≤ xs.getD 1 0 % 4; omega
  o1 := by show xs.getD 1 0 % 4 ≤ 3; omega
  t0 := (topP_lo _).1
  t1 := (topP_lo _).2
  tl := by
    show (List.map _ _).length ≤ 8
    rw [List.length_map, List.length_range]
    have h2 := Int.emod_lt_of_pos (xs.getD 3 0) (show 0 < m + 1 by omega)
    omega
  ts := fun t ht => by
    obtain ⟨k, _, rfl⟩ := List.mem_map.mp ht
    exact taskBy_ok _
  el := by
    show (List.map _ _).length ≤ 12
    rw [List.length_map, List.length_range]
    have := exMany_lo (xs.getD 4 0)
    omega
  es := fun x hx => by
    obtain ⟨k, _, rfl⟩ := List.mem_map.mp hx
    have h1 := exMod_lo (xs.getD 4 0)
    have h2 := Int.emod_nonneg (xs.getD (5 + k) 0) (show exMod (xs.getD 4 0) ≠ 0 by omega)
    have h3 := Int.emod_lt_of_pos (xs.getD (5 + k) 0) h1.1
    omega
theorem partBy_ok {c m : Int} (h0 : 0 ≤ m) (h1 : m ≤ 8) : (partBy c m).Ok := partOf_ok h0 h1
def exV (xs : List Int) (q : Int) : PyData → PyData
  | .int k => .int (xs.getD (5 + k).toNat 0 % q)
  | _ => .none
abbrev sp_l_part_by (K : PySem.W.Frag) : Sp := spD K (fun a : Int × Int => [.int a.1, .int a.2]) (fun a => 0 ≤ a.2 ∧ a.2 ≤ 8) (fun a => (partBy a.1 a.2).D)

theorem c_l_part_by {Z : Zx} {ρ : List Sl} {E : XK} {t0 t1 : TE} {c m : Int} (h0 : EvD Z t0 ρ (.int c)) (h1 : EvD Z t1 ρ (.int m)) (ok : 0 ≤ m ∧ m ≤ 8) : EvD Z (tCall (sp_l_part_by Z.K) [] E (tCons t0 (tCons t1 tNil))) ρ ((partBy c m).D) := DL.d_call (c, m) (DL.ea_cons h0 (DL.ea_cons h1 DL.ea_nil)) ok
local macro_rules | `(tactic| walk_at "call") => `(tactic| ((with_reducible apply k12.c_l_part_by) <;> walk_at "ev"))
-- KIND: L
-- CALL: {ns : List Int} {f m : Int} | .list (intsD ns) ; .int f ; .int m | (ns, f, m) | ns.length ≤ 63 ∧ 0 ≤ f ∧ f ≤ 100 ∧ 0 ≤ m ∧ m ≤ 8 | courseD (courseBy ns f m)
def courseD (ps : List Part) : List PyData := ps.map Part.D
def manyParts (ns : List Int) : Int := if cellAt ns 0 / 4 % 9 = 1 then 4 + cellAt ns 0 / 36 % 3 else cellAt ns 0 % 4
theorem manyParts_lo (ns : List Int) : 0 ≤ manyParts ns ∧ manyParts ns ≤ 6 := by unfold manyParts; split <;> omega
def courseBy (ns : List Int) (f m : Int) : List Part := (List.range (manyParts ns).toNat).map fun (k : Nat) => partBy (cellAt ns (f + (k : Int))) m
theorem courseBy_len (ns : List Int) (f m : Int) : (courseBy ns f m).length ≤ 6 := by
  unfold courseBy
  rw [List.length_map, List.length_range]
  have := manyParts_lo ns
  omega
theorem courseBy_ok {ns : List Int} {f m : Int} (h0 : 0 ≤ m) (h1 : m ≤ 8) : ∀ p ∈ courseBy ns f m, p.Ok := fun p hp => by
  obtain ⟨k, _, rfl⟩ := List.mem_map.mp hp
  exact partBy_ok h0 h1
def partV (ns : List Int) (f m : Int) : PyData → PyData
  | .int k => (partBy (cellAt ns (f + k)) m).D
  | _ => .none
abbrev sp_l_course_by (K : PySem.W.Frag) : Sp := spL K (fun a : List Int × Int × Int => [.list (intsD a.1), .int a.2.1, .int a.2.2]) (fun a => a.1.length ≤ 63 ∧ 0 ≤ a.2.1 ∧ a.2.1 ≤ 100 ∧ 0 ≤ a.2.2 ∧ a.2.2 ≤ 8) (fun a => courseD (courseBy a.1 a.2.1 a.2.2))

theorem c_l_course_by {Z : Zx} {ρ : List Sl} {E : XK} {t0 t1 t2 : TE} {ns : List Int} {f m : Int} (h0 : EvD Z t0 ρ (.list (intsD ns))) (h1 : EvD Z t1 ρ (.int f)) (h2 : EvD Z t2 ρ (.int m)) (ok : ns.length ≤ 63 ∧ 0 ≤ f ∧ f ≤ 100 ∧ 0 ≤ m ∧ m ≤ 8) : EvL Z (tCall (sp_l_course_by Z.K) [] E (tCons t0 (tCons t1 (tCons t2 tNil)))) ρ (courseD (courseBy ns f m)) := DL.l_call (ns, f, m) (DL.ea_cons h0 (DL.ea_cons h1 (DL.ea_cons h2 DL.ea_nil))) ok
local macro_rules | `(tactic| walk_at "call") => `(tactic| ((with_reducible apply k12.c_l_course_by) <;> walk_at "ev"))
/-! raw courses: numbers that may be any int or a truth -/
structure RTask where
  w : PyData
  most : PyData
  cap : PyData
  tries : List PyData
structure RPart where
  w : PyData
  worst : PyData
  top : PyData
  tasks : List RTask
  extras : List PyData
def RTask.L (k : Bool) (t : RTask) : List PyData := [t.w, t.most, t.cap, sqD k t.tries]
def RTask.D (k : Bool) (t : RTask) : PyData := sqD k (t.L k)
def RPart.L (k : Bool) (p : RPart) : List PyData := [p.w, p.worst, p.top, sqD k (p.tasks.map (RTask.D k)), sqD k p.extras]
def RPart.D (k : Bool) (p : RPart) : PyData := sqD k (p.L k)
inductive Num : PyData → Prop where
  | int (i : Int) : Num (.int i)
  | bool (b : Bool) : Num (.bool b)
structure RTask.Ok (t : RTask) : Prop where
  w : Num t.w
  most : Num t.most
  cap : Num t.cap
  tries : ∀ x ∈ t.tries, Num x
  l : t.tries.length ≤ 1000
structure RPart.Ok (p : RPart) : Prop where
  w : Num p.w
  worst : Num p.worst
  top : Num p.top
  tasks : ∀ t ∈ p.tasks, t.Ok
  extras : ∀ x ∈ p.extras, Num x
  tl : p.tasks.length ≤ 1000
  el : p.extras.length ≤ 1000
def withinP (d : PyData) (lo hi : Int) : Bool := match d with
  | .int i => decide (lo ≤ i) && decide (i ≤ hi)
  | _ => false
def intOf : PyData → Int
  | .int i => i
  | _ => 0
theorem within_int {d : PyData} {lo hi : Int} (h : withinP d lo hi = true) : d = .int (intOf d) ∧ lo ≤ intOf d ∧ intOf d ≤ hi := by
  cases d with
  | int i =>
    have h2 := Bool.and_eq_true_iff.mp h
    exact ⟨rfl, of_decide_eq_true h2.1, of_decide_eq_true h2.2⟩
  | _ => cases h
def errName : Nat → Str
  | 1 => "TooMany"
  | 2 => "BadWeight"
  | 3 => "BadWorst"
  | 4 => "BadTop"
  | 5 => "BadMost"
  | 6 => "BadCap"
  | 7 => "BadMark"
  | _ => "BadExtra"
def dueName : Nat → Str
  | 0 => "good"
  | 1 => "many"
  | 2 => "weight"
  | 3 => "worst"
  | 4 => "top"
  | 5 => "most"
  | 6 => "cap"
  | 7 => "mark"
  | _ => "extra"
def resX (n : Nat) (d : PyData) : Except Str PyData := if n = 0 then .ok d else .error (errName n)
theorem resX_0 (d : PyData) : resX 0 d = .ok d := rfl
theorem resX_e {n : Nat} (d : PyData) (h : n ≠ 0) : resX n d = .error (errName n) := if_neg h
def firstNZ : List Nat → Nat
  | [] => 0
  | n :: r => if n = 0 then firstNZ r else n
theorem firstNZ_snoc : ∀ (l : List Nat) (n : Nat), firstNZ l = 0 → firstNZ (l ++ [n]) = n
  | [], n, _ => by
    show (if n = 0 then 0 else n) = n
    split <;> omega
  | a :: r, n, h => by
    have h2 : (if a = 0 then firstNZ r else a) = 0 := h
    show (if a = 0 then firstNZ (r ++ [n]) else a) = n
    by_cases e : a = 0
    · rw [if_pos e] at h2 ⊢
      exact firstNZ_snoc r n h2
    · rw [if_neg e] at h2
      exact absurd h2 e
theorem firstNZ_mid : ∀ (l : List Nat) (i n : Nat), l[i]? = some n → firstNZ (l.take i) = 0 → n ≠ 0 → firstNZ l = n
  | [], _, _, h, _, _ => by simp at h
  | a :: r, 0, n, h, _, hn => by
    have e : a = n := by simpa using h
    subst e
    show (if a = 0 then firstNZ r else a) = a
    rw [if_neg hn]
  | a :: r, i + 1, n, h, h0, hn => by
    have h2 : (if a = 0 then firstNZ (r.take i) else a) = 0 := h0
    show (if a = 0 then firstNZ r else a) = n
    by_cases e : a = 0
    · rw [if_pos e] at h2 ⊢
      exact firstNZ_mid r i n (by simpa using h) h2 hn
    · rw [if_neg e] at h2
      exact absurd h2 e
theorem firstNZ_step {l : List Nat} {i : Nat} (h : l[i]? = some 0) (h0 : firstNZ (l.take i) = 0) : firstNZ (l.take (i + 1)) = 0 := by
  rw [List.take_add_one, h]
  show firstNZ (l.take i ++ [0]) = 0
  rw [firstNZ_snoc _ _ h0]
def dueTask (t : RTask) : Nat :=
  if withinP t.w 1 1000 = false then 2 else if withinP t.most 1 1000000 = false then 5 else if withinP t.cap 0 (intOf t.most) = false then 6 else if 12 < t.tries.length then 1 else
    if t.tries.all (fun x => withinP x 0 (intOf t.most)) = true then 0 else 7
def duePart (p : RPart) : Nat :=
  if withinP p.w 1 1000 = false then 2 else if withinP p.worst 0 3 = false then 3 else if withinP p.top 0 1000 = false then 4 else if 8 < p.tasks.length then 1 else
    if firstNZ (p.tasks.map dueTask) ≠ 0 then firstNZ (p.tasks.map dueTask) else if 12 < p.extras.length then 1 else if p.extras.all (fun x => withinP x 0 1000) = true then 0 else 8
def dueCourse (ps : List RPart) : Nat := if 6 < ps.length then 1 else firstNZ (ps.map duePart)
theorem all_take_step {l : List PyData} {p : PyData → Bool} {i : Nat} {d : PyData} (h : l[i]? = some d) (h0 : (l.take i).all p = true) (hd : p d = true) : (l.take (i + 1)).all p = true := by
  rw [List.take_add_one, h, List.all_append, h0]
  show (true && ([d] : List PyData).all p) = true
  rw [List.all_cons, hd]
  rfl
theorem all_not {l : List PyData} {p : PyData → Bool} {i : Nat} {d : PyData} (h : l[i]? = some d) (hd : p d = false) : l.all p = false := by
  rw [List.all_eq_false]
  exact ⟨d, List.mem_of_getElem? h, by rw [hd]; exact Bool.false_ne_true⟩
theorem dec_gt (n m : Nat) : decide (n < m) = decide ((n : Int) < (m : Nat)) := by
  by_cases q : n < m
  · rw [decide_eq_true q, decide_eq_true (by omega)]
  · rw [decide_eq_false q, decide_eq_false (by omega)]
theorem firstNZ_le {m : Nat} : ∀ {l : List Nat}, (∀ n ∈ l, n ≤ m) → firstNZ l ≤ m
  | [], _ => Nat.zero_le _
  | a :: r, h => by
    show (if a = 0 then firstNZ r else a) ≤ m
    by_cases e : a = 0
    · rw [if_pos e]
      exact firstNZ_le fun n hn => h n (List.mem_cons_of_mem _ hn)
    · rw [if_neg e]
      exact h a List.mem_cons_self
theorem dueTask_le (t : RTask) : dueTask t ≤ 8 := by
  unfold dueTask
  repeat' split
  all_goals decide
theorem duePart_le (t : RPart) : duePart t ≤ 8 := by
  have h : firstNZ (t.tasks.map dueTask) ≤ 8 := firstNZ_le fun n hn => by
    obtain ⟨x, _, rfl⟩ := List.mem_map.mp hn
    exact dueTask_le x
  unfold duePart
  repeat' split
  all_goals first | decide | exact h
theorem due_le (c : List RPart) : dueCourse c ≤ 8 := by
  unfold dueCourse
  split
  · decide
  · exact firstNZ_le fun n hn => by
      obtain ⟨x, _, rfl⟩ := List.mem_map.mp hn
      exact duePart_le x
theorem due_good : ∀ n, n ≤ 8 → PyData.eqv (.str (dueName n)) (.str "good") = decide (n = 0) := by
  intro n h
  match n, h with
  | 0, _ => decide +kernel
  | 1, _ => decide +kernel
  | 2, _ => decide +kernel
  | 3, _ => decide +kernel
  | 4, _ => decide +kernel
  | 5, _ => decide +kernel
  | 6, _ => decide +kernel
  | 7, _ => decide +kernel
  | 8, _ => decide +kernel
theorem sh_str {x : Str} (h : PyData.strOk x = true) : DL.sh (.str x) := by
  show SeqAt.shaped _ = true
  unfold SeqAt.shaped
  simp [PyData.canLay0, PyData.depth, h]
theorem due_ok : ∀ n, n ≤ 8 → PyData.strOk (dueName n) = true := by
  intro n h
  match n, h with
  | 0, _ => decide +kernel
  | 1, _ => decide +kernel
  | 2, _ => decide +kernel
  | 3, _ => decide +kernel
  | 4, _ => decide +kernel
  | 5, _ => decide +kernel
  | 6, _ => decide +kernel
  | 7, _ => decide +kernel
  | 8, _ => decide +kernel
theorem due_sh (n : Nat) (h : n ≤ 8) : DL.sh (.str (dueName n)) := sh_str (due_ok n h)
theorem good_sh : DL.sh (.str "good") := due_sh 0 (by decide)

-- KIND: D
-- NEED: raw
-- CALL: {d : PyData} {lo : Int} | d ; .int lo | (d, lo) | Num d | .bool (fromP d lo)
def fromP (d : PyData) (lo : Int) : Bool := match d with
  | .int i => decide (lo ≤ i)
  | _ => false
abbrev sp_is_from (K : PySem.W.Frag) : Sp := spD K (fun a : PyData × Int => [a.1, .int a.2]) (fun a => Num a.1) (fun a => .bool (fromP a.1 a.2))

theorem c_is_from {Z : Zx} {ρ : List Sl} {E : XK} {t0 t1 : TE} {d : PyData} {lo : Int} (h0 : EvD Z t0 ρ (d)) (h1 : EvD Z t1 ρ (.int lo)) (ok : Num d) : EvD Z (tCall (sp_is_from Z.K) [] E (tCons t0 (tCons t1 tNil))) ρ (.bool (fromP d lo)) := DL.d_call (d, lo) (DL.ea_cons h0 (DL.ea_cons h1 DL.ea_nil)) ok
local macro_rules | `(tactic| walk_at "call") => `(tactic| ((with_reducible apply k12.c_is_from) <;> walk_at "ev"))
-- KIND: D
-- NEED: raw
-- CALL: {d : PyData} {lo hi : Int} | d ; .int lo ; .int hi | (d, lo, hi) | Num d | .bool (withinP d lo hi)
abbrev sp_is_within (K : PySem.W.Frag) : Sp := spD K (fun a : PyData × Int × Int => [a.1, .int a.2.1, .int a.2.2]) (fun a => Num a.1) (fun a => .bool (withinP a.1 a.2.1 a.2.2))

theorem c_is_within {Z : Zx} {ρ : List Sl} {E : XK} {t0 t1 t2 : TE} {d : PyData} {lo hi : Int} (h0 : EvD Z t0 ρ (d)) (h1 : EvD Z t1 ρ (.int lo)) (h2 : EvD Z t2 ρ (.int hi)) (ok : Num d) : EvD Z (tCall (sp_is_within Z.K) [] E (tCons t0 (tCons t1 (tCons t2 tNil)))) ρ (.bool (withinP d lo hi)) := DL.d_call (d, lo, hi) (DL.ea_cons h0 (DL.ea_cons h1 (DL.ea_cons h2 DL.ea_nil))) ok
local macro_rules | `(tactic| walk_at "call") => `(tactic| ((with_reducible apply k12.c_is_within) <;> walk_at "ev"))
-- KIND: X
-- NEED: raw
def wgtDue (d : PyData) : Nat := if withinP d 1 1000 = false then 2 else 0
abbrev sp__check_weight (K : PySem.W.Frag) (mg : Str → Option Value) : Sp := spX K mg (fun d : PyData => [d]) (fun d => Num d) (fun d => resX (wgtDue d) .none)

-- KIND: X
-- NEED: raw
def extDue (es : List PyData) : Nat := if 12 < es.length then 1 else if es.all (fun x => withinP x 0 1000) = true then 0 else 8
abbrev sp__check_extras (K : PySem.W.Frag) (mg : Str → Option Value) : Sp := spX K mg (fun a : Bool × List PyData => [sqD a.1 a.2]) (fun a => (∀ x ∈ a.2, Num x) ∧ a.2.length ≤ 1000) (fun a => resX (extDue a.2) .none)

-- KIND: X
-- UNP
-- NEED: raw
abbrev sp__check_task (K : PySem.W.Frag) (mg : Str → Option Value) : Sp := spX K mg (fun a : Bool × RTask => [a.2.D a.1]) (fun a => a.2.Ok) (fun a => resX (dueTask a.2) .none)
theorem log_small {i : Int} (h0 : 0 ≤ i) (h : i ≤ 1000000) : i.natAbs.log2 < 1920 := by
  have h1 : i.natAbs < 2 ^ 20 := by omega
  have h2 := PySem.Flt.log2_lt_of (by decide) h1
  omega

-- KIND: X
-- UNP
-- NEED: raw
abbrev sp__check_part (K : PySem.W.Frag) (mg : Str → Option Value) : Sp := spX K mg (fun a : Bool × RPart => [a.2.D a.1]) (fun a => a.2.Ok) (fun a => resX (duePart a.2) .none)

-- KIND: X
-- NEED: raw
abbrev sp_checked (K : PySem.W.Frag) (mg : Str → Option Value) : Sp := spX K mg (fun a : Bool × Bool × List RPart => [sqD a.1 (a.2.2.map (RPart.D a.2.1))]) (fun a => (∀ p ∈ a.2.2, p.Ok) ∧ a.2.2.length ≤ 1000) (fun a => resX (dueCourse a.2.2) (.bool true))

-- KIND: D
-- NEED: raw
-- CALL: {k m : Bool} {c : List RPart} | sqD k (c.map (RPart.D m)) | (k, m, c) | (∀ p ∈ c, p.Ok) ∧ c.length ≤ 1000 | .str (dueName (dueCourse c))
-- HYP: (TF : ToldF K mg C_GradeError C_BadPlace C_BadWish C_BadStep)
structure ToldF (K : PySem.W.Frag) (mg : Str → Option Value) (G P1 P2 P3 : Addr) : Prop where
  cl : ∀ n, 1 ≤ n → n ≤ 8 → ∃ D, mg (errName n) = some (.ref D) ∧ ExcC K D ∧ PySem.W.exmOne K (.ref D) (.ref G) = some true ∧ PySem.W.kitOne K (.ref D) (.type "ValueError") = some true ∧ PySem.W.kitAny K (.ref D) [.ref P1, .ref P2, .ref P3] = some false
  kk : ∀ n m D C, 1 ≤ n → n ≤ 8 → 1 ≤ m → m ≤ 8 → mg (errName n) = some (.ref D) → mg (errName m) = some (.ref C) → PySem.W.kitOne K (.ref D) (.ref C) = some (decide (n = m))
def bs8 (n : Nat) : List Bool := [decide (n = 1), decide (n = 2), decide (n = 3), decide (n = 4), decide (n = 5), decide (n = 6), decide (n = 7), decide (n = 8)]
def dn8 : List PyData := [.str "many", .str "weight", .str "worst", .str "top", .str "most", .str "cap", .str "mark", .str "extra"]
theorem bs8_all : ∀ n : Fin 9, n.1 ≠ 0 → (bs8 n.1).count true = 1 ∧ (bs8 n.1).idxOf true = n.1 - 1 ∧ true ∈ bs8 n.1 := by decide
theorem dn8_all : ∀ n, 1 ≤ n → n ≤ 8 → dn8[n - 1]? = some (.str (dueName n)) := by
  intro n h1 h2
  match n, h1, h2 with
  | 1, _, _ => rfl
  | 2, _, _ => rfl
  | 3, _, _ => rfl
  | 4, _, _ => rfl
  | 5, _, _ => rfl
  | 6, _, _ => rfl
  | 7, _, _ => rfl
  | 8, _, _ => rfl
abbrev sp_l_told (K : PySem.W.Frag) : Sp := spD K (fun a : Bool × Bool × List RPart => [sqD a.1 (a.2.2.map (RPart.D a.2.1))]) (fun a => (∀ p ∈ a.2.2, p.Ok) ∧ a.2.2.length ≤ 1000) (fun a => .str (dueName (dueCourse a.2.2)))

theorem c_l_told {Z : Zx} {ρ : List Sl} {E : XK} {t0 : TE} {k m : Bool} {c : List RPart} (h0 : EvD Z t0 ρ (sqD k (c.map (RPart.D m)))) (ok : (∀ p ∈ c, p.Ok) ∧ c.length ≤ 1000) : EvD Z (tCall (sp_l_told Z.K) [] E (tCons t0 tNil)) ρ (.str (dueName (dueCourse c))) := DL.d_call (k, m, c) (DL.ea_cons h0 DL.ea_nil) ok
local macro_rules | `(tactic| walk_at "call") => `(tactic| ((with_reducible apply k12.c_l_told) <;> walk_at "ev"))
-- KIND: D
-- NEED: raw
-- CALL: {d : PyData} {lo hi : Int} | d ; .int lo ; .int hi | (d, lo, hi) | Num d | .bool (withinP d lo hi)
abbrev sp_l_within (K : PySem.W.Frag) : Sp := spD K (fun a : PyData × Int × Int => [a.1, .int a.2.1, .int a.2.2]) (fun a => Num a.1) (fun a => .bool (withinP a.1 a.2.1 a.2.2))

theorem c_l_within {Z : Zx} {ρ : List Sl} {E : XK} {t0 t1 t2 : TE} {d : PyData} {lo hi : Int} (h0 : EvD Z t0 ρ (d)) (h1 : EvD Z t1 ρ (.int lo)) (h2 : EvD Z t2 ρ (.int hi)) (ok : Num d) : EvD Z (tCall (sp_l_within Z.K) [] E (tCons t0 (tCons t1 (tCons t2 tNil)))) ρ (.bool (withinP d lo hi)) := DL.d_call (d, lo, hi) (DL.ea_cons h0 (DL.ea_cons h1 (DL.ea_cons h2 DL.ea_nil))) ok
local macro_rules | `(tactic| walk_at "call") => `(tactic| ((with_reducible apply k12.c_l_within) <;> walk_at "ev"))
-- KIND: D
-- NEED: raw
-- CALL: {t : RTask} | t.D false | t | t.Ok | .str (dueName (dueTask t))
abbrev sp_l_task_due (K : PySem.W.Frag) : Sp := spD K (fun t : RTask => [t.D false]) (fun t => t.Ok) (fun t => .str (dueName (dueTask t)))

theorem c_l_task_due {Z : Zx} {ρ : List Sl} {E : XK} {t0 : TE} {t : RTask} (h0 : EvD Z t0 ρ (t.D false)) (ok : t.Ok) : EvD Z (tCall (sp_l_task_due Z.K) [] E (tCons t0 tNil)) ρ (.str (dueName (dueTask t))) := DL.d_call t (DL.ea_cons h0 DL.ea_nil) ok
local macro_rules | `(tactic| walk_at "call") => `(tactic| ((with_reducible apply k12.c_l_task_due) <;> walk_at "ev"))
-- KIND: D
-- NEED: raw
-- CALL: {t : RPart} | t.D false | t | t.Ok | .str (dueName (duePart t))
abbrev sp_l_part_due (K : PySem.W.Frag) : Sp := spD K (fun t : RPart => [t.D false]) (fun t => t.Ok) (fun t => .str (dueName (duePart t)))

theorem c_l_part_due {Z : Zx} {ρ : List Sl} {E : XK} {t0 : TE} {t : RPart} (h0 : EvD Z t0 ρ (t.D false)) (ok : t.Ok) : EvD Z (tCall (sp_l_part_due Z.K) [] E (tCons t0 tNil)) ρ (.str (dueName (duePart t))) := DL.d_call t (DL.ea_cons h0 DL.ea_nil) ok
local macro_rules | `(tactic| walk_at "call") => `(tactic| ((with_reducible apply k12.c_l_part_due) <;> walk_at "ev"))
-- KIND: D
-- NEED: raw
-- CALL: {c : List RPart} | .list (c.map (RPart.D false)) | c | (∀ p ∈ c, p.Ok) ∧ c.length ≤ 1000 | .str (dueName (dueCourse c))
abbrev sp_l_due (K : PySem.W.Frag) : Sp := spD K (fun c : List RPart => [.list (c.map (RPart.D false))]) (fun c => (∀ p ∈ c, p.Ok) ∧ c.length ≤ 1000) (fun c => .str (dueName (dueCourse c)))

theorem c_l_due {Z : Zx} {ρ : List Sl} {E : XK} {t0 : TE} {c : List RPart} (h0 : EvD Z t0 ρ (.list (c.map (RPart.D false)))) (ok : (∀ p ∈ c, p.Ok) ∧ c.length ≤ 1000) : EvD Z (tCall (sp_l_due Z.K) [] E (tCons t0 tNil)) ρ (.str (dueName (dueCourse c))) := DL.d_call c (DL.ea_cons h0 DL.ea_nil) ok
local macro_rules | `(tactic| walk_at "call") => `(tactic| ((with_reducible apply k12.c_l_due) <;> walk_at "ev"))
-- KIND: D
-- NEED: raw
-- BOOLNUM
-- CALL: {d : PyData} {c : Int} | d ; .int c | (d, c) | Num d | worseP d c
def farP (c : Int) : Int := 1 + c / 16 % 3 * c / 48 % 1000000000
def numZ : PyData → Int
  | .int i => i
  | .bool b => if b = true then 1 else 0
  | _ => 0
def worseL (d : PyData) (c : Int) : List PyData := [.int 0, .int 1, .int (-(farP c)), .int (1000 + farP c), .int 1000, .int (3 + farP c), .int (1000000 + farP c), .int 1000000, .bool true, .bool false, .int (numZ d + farP c), .int (numZ d - farP c)]
def worseP (d : PyData) (c : Int) : PyData := (worseL d c).getD (c % 12).toNat .none
theorem get_getD {α : Type} {l : List α} {i : Nat} {x : α} (h : i < l.length) : l[i]? = some (l.getD i x) := by
  rw [List.getD_eq_getElem?_getD, List.getElem?_eq_getElem h]
  rfl
theorem getD_mem {α : Type} {l : List α} {i : Nat} {x : α} (h : i < l.length) : l.getD i x ∈ l := List.mem_of_getElem? (get_getD h)
theorem worse_get (d : PyData) (c : Int) : (worseL d c)[(c % 12).toNat]? = some (worseP d c) := get_getD (by show _ < 12; omega)
theorem worse_num (d : PyData) (c : Int) : Num (worseP d c) := by
  have h : worseP d c ∈ worseL d c := getD_mem (by show _ < 12; omega)
  generalize worseP d c = y at h
  unfold worseL at h
  simp only [List.mem_cons, List.not_mem_nil, or_false] at h
  rcases h with rfl | rfl | rfl | rfl | rfl | rfl | rfl | rfl | rfl | rfl | rfl | rfl
  all_goals first | exact .int _ | exact .bool _
theorem p9e : (10 : Int) ^ (9 : Int).toNat = 1000000000 := by decide
theorem p6e : (10 : Int) ^ (6 : Int).toNat = 1000000 := by decide
theorem mod12 (c : Int) : 0 ≤ c % 12 := by omega
abbrev sp_l_worse (K : PySem.W.Frag) : Sp := spD K (fun a : PyData × Int => [a.1, .int a.2]) (fun a => Num a.1) (fun a => worseP a.1 a.2)

theorem c_l_worse {Z : Zx} {ρ : List Sl} {E : XK} {t0 t1 : TE} {d : PyData} {c : Int} (h0 : EvD Z t0 ρ (d)) (h1 : EvD Z t1 ρ (.int c)) (ok : Num d) : EvD Z (tCall (sp_l_worse Z.K) [] E (tCons t0 (tCons t1 tNil))) ρ (worseP d c) := DL.d_call (d, c) (DL.ea_cons h0 (DL.ea_cons h1 DL.ea_nil)) ok
local macro_rules | `(tactic| walk_at "call") => `(tactic| ((with_reducible apply k12.c_l_worse) <;> walk_at "ev"))
-- KIND: D
-- NEED: raw
-- CALL: {t : RTask} {c : Int} | t.D false ; .int c | (t, c) | t.Ok | (taskCh t c).D false
def taskCh (t : RTask) (c : Int) : RTask :=
  if c % 4 = 3 then
    if 0 < t.tries.length then { t with tries := t.tries.set (c / 4 % (t.tries.length : Nat)).toNat (worseP (t.tries.getD (c / 4 % (t.tries.length : Nat)).toNat .none) (c / 4 / 12)) }
    else { t with tries := List.replicate (12 + c / 4 % 3).toNat (.int 0) }
  else if c % 4 = 0 then { t with w := worseP t.w (c / 4) } else if c % 4 = 1 then { t with most := worseP t.most (c / 4) } else { t with cap := worseP t.cap (c / 4) }
theorem set_num {l : List PyData} {i : Nat} {d : PyData} (h : ∀ x ∈ l, Num x) (hd : Num d) : ∀ x ∈ l.set i d, Num x := fun x hx => by
  rcases List.mem_or_eq_of_mem_set hx with h1 | rfl
  · exact h x h1
  · exact hd
theorem taskCh_ok {t : RTask} (h : t.Ok) (c : Int) : (taskCh t c).Ok := by
  unfold taskCh
  split
  · split
    · exact ⟨h.w, h.most, h.cap, set_num h.tries (worse_num _ _), by show (t.tries.set _ _).length ≤ 1000; rw [List.length_set]; exact h.l⟩
    · refine ⟨h.w, h.most, h.cap, fun x hx => ?_, ?_⟩
      · rw [List.eq_of_mem_replicate hx]
        exact .int 0
      · show (List.replicate _ _).length ≤ 1000
        rw [List.length_replicate]
        omega
  · split
    · exact ⟨worse_num _ _, h.most, h.cap, h.tries, h.l⟩
    · split
      · exact ⟨h.w, worse_num _ _, h.cap, h.tries, h.l⟩
      · exact ⟨h.w, h.most, worse_num _ _, h.tries, h.l⟩
theorem cut_set {l : List PyData} {p : Nat} {x : PyData} (h : p < l.length) : (DL.cutD l none (some (p : Int)) ++ [x]) ++ DL.cutD l (some ((p : Int) + 1)) none = l.set p x := by
  rw [show ((p : Int) + 1) = ((p + 1 : Nat) : Int) by omega, cutD_to, cutD_from, List.set_eq_take_append_cons_drop, if_pos h, List.append_assoc]
  rfl
theorem cut_lenT (l : List PyData) (p : Nat) : (DL.cutD l none (some (p : Int))).length ≤ l.length := by
  rw [cutD_to, List.length_take]
  omega
theorem cut_lenF (l : List PyData) (p : Nat) : (DL.cutD l (some ((p : Int) + 1)) none).length ≤ l.length := by
  rw [show ((p : Int) + 1) = ((p + 1 : Nat) : Int) by omega, cutD_from, List.length_drop]
  omega
theorem rep1 (n : Nat) (d : PyData) : (List.replicate n [d]).flatten = List.replicate n d := by
  induction n with
  | zero => rfl
  | succ n ih => rw [List.replicate_succ, List.flatten_cons, ih, List.replicate_succ]; rfl
abbrev sp_l_task_changed (K : PySem.W.Frag) : Sp := spD K (fun a : RTask × Int => [a.1.D false, .int a.2]) (fun a => a.1.Ok) (fun a => (taskCh a.1 a.2).D false)

theorem c_l_task_changed {Z : Zx} {ρ : List Sl} {E : XK} {t0 t1 : TE} {t : RTask} {c : Int} (h0 : EvD Z t0 ρ (t.D false)) (h1 : EvD Z t1 ρ (.int c)) (ok : t.Ok) : EvD Z (tCall (sp_l_task_changed Z.K) [] E (tCons t0 (tCons t1 tNil))) ρ ((taskCh t c).D false) := DL.d_call (t, c) (DL.ea_cons h0 (DL.ea_cons h1 DL.ea_nil)) ok
local macro_rules | `(tactic| walk_at "call") => `(tactic| ((with_reducible apply k12.c_l_task_changed) <;> walk_at "ev"))
-- KIND: D
-- NEED: raw
-- CALL: {t : RPart} {c : Int} | t.D false ; .int c | (t, c) | t.Ok | (partCh t c).D false
def worstL (c : Int) : List PyData := [.int (-1), .int 4, .int 3, .int 0, .bool true, .int (1000000000 + c)]
def worstC (c : Int) : PyData := (worstL c).getD (c % 6).toNat .none
theorem worst_get (c : Int) : (worstL c)[(c % 6).toNat]? = some (worstC c) := get_getD (by show _ < 6; omega)
theorem mod6 (c : Int) : 0 ≤ c % 6 := by omega
theorem worst_num (c : Int) : Num (worstC c) := by
  have h : worstC c ∈ worstL c := getD_mem (by show _ < 6; omega)
  generalize worstC c = y at h
  unfold worstL at h
  simp only [List.mem_cons, List.not_mem_nil, or_false] at h
  rcases h with rfl | rfl | rfl | rfl | rfl | rfl
  all_goals first | exact .int _ | exact .bool _
def noTask : RTask := ⟨.none, .none, .none, []⟩
def partCh (p : RPart) (c : Int) : RPart :=
  if c % 6 = 1 then { p with worst := worstC (c / 6) }
  else if c % 6 = 0 then { p with w := worseP p.w (c / 6) }
  else if c % 6 = 2 then { p with top := worseP p.top (c / 6) }
  else if c % 6 < 5 ∧ 0 < p.tasks.length then { p with tasks := p.tasks.set (c / 6 % (p.tasks.length : Nat)).toNat (taskCh (p.tasks.getD (c / 6 % (p.tasks.length : Nat)).toNat noTask) (c / 6 / 8)) }
  else if 0 < p.extras.length then { p with extras := p.extras.set (c / 6 % (p.extras.length : Nat)).toNat (worseP (p.extras.getD (c / 6 % (p.extras.length : Nat)).toNat .none) (c / 6 / 12)) }
  else if 0 < p.tasks.length then { p with tasks := ((List.replicate 9 p.tasks).flatten).take (8 + c / 6 % 3).toNat }
  else { p with extras := List.replicate (12 + c / 6 % 3).toNat (.int 5) }
theorem rep_map {α β : Type} (f : α → β) (n : Nat) (l : List α) : (List.replicate n (l.map f)).flatten = ((List.replicate n l).flatten).map f := by
  induction n with
  | zero => rfl
  | succ n ih => rw [List.replicate_succ, List.flatten_cons, ih, List.replicate_succ, List.flatten_cons, List.map_append]
theorem rep_mem {α : Type} {x : α} {n : Nat} {l : List α} (h : x ∈ (List.replicate n l).flatten) : x ∈ l := by
  obtain ⟨m, hm, hx⟩ := List.mem_flatten.mp h
  rw [List.eq_of_mem_replicate hm] at hx
  exact hx
theorem partCh_ok {p : RPart} (h : p.Ok) (c : Int) : (partCh p c).Ok := by
  unfold partCh
  split
  · exact ⟨h.w, worst_num _, h.top, h.tasks, h.extras, h.tl, h.el⟩
  split
  · exact ⟨worse_num _ _, h.worst, h.top, h.tasks, h.extras, h.tl, h.el⟩
  split
  · exact ⟨h.w, h.worst, worse_num _ _, h.tasks, h.extras, h.tl, h.el⟩
  split
  · rename_i q
    refine ⟨h.w, h.worst, h.top, fun x hx => ?_, h.extras, by show (p.tasks.set _ _).length ≤ 1000; rw [List.length_set]; exact h.tl, h.el⟩
    rcases List.mem_or_eq_of_mem_set hx with h1 | rfl
    · exact h.tasks x h1
    · refine taskCh_ok (h.tasks _ (getD_mem ?_)) _
      have := Int.emod_lt_of_pos (c / 6) (show (0 : Int) < ((p.tasks.length : Nat) : Int) by omega)
      omega
  split
  · exact ⟨h.w, h.worst, h.top, h.tasks, set_num h.extras (worse_num _ _), h.tl, by show (p.extras.set _ _).length ≤ 1000; rw [List.length_set]; exact h.el⟩
  split
  · refine ⟨h.w, h.worst, h.top, fun x hx => h.tasks x (rep_mem (List.mem_of_mem_take hx)), h.extras, ?_, h.el⟩
    show (List.take _ _).length ≤ 1000
    rw [List.length_take]
    omega
  · refine ⟨h.w, h.worst, h.top, h.tasks, fun x hx => ?_, h.tl, ?_⟩
    · rw [List.eq_of_mem_replicate hx]
      exact .int 5
    · show (List.replicate _ _).length ≤ 1000
      rw [List.length_replicate]
      omega
theorem p9f : (10 : Int) ^ (9 : Int).toNat = 1000000000 := by decide
theorem emod_nat (c : Int) (n : Nat) (h : 0 < n) : ∃ p : Nat, c % (n : Int) = (p : Int) ∧ p < n := by
  have h1 := Int.emod_nonneg c (show ((n : Nat) : Int) ≠ 0 by omega)
  have h2 := Int.emod_lt_of_pos c (show (0 : Int) < ((n : Nat) : Int) by omega)
  exact ⟨(c % (n : Int)).toNat, by omega, by omega⟩
theorem dec_pos (n : Nat) : decide ((0 : Int) < (n : Nat)) = decide (0 < n) := (dec_gt 0 n).symm
abbrev sp_l_part_changed (K : PySem.W.Frag) : Sp := spD K (fun a : RPart × Int => [a.1.D false, .int a.2]) (fun a => a.1.Ok) (fun a => (partCh a.1 a.2).D false)

theorem c_l_part_changed {Z : Zx} {ρ : List Sl} {E : XK} {t0 t1 : TE} {t : RPart} {c : Int} (h0 : EvD Z t0 ρ (t.D false)) (h1 : EvD Z t1 ρ (.int c)) (ok : t.Ok) : EvD Z (tCall (sp_l_part_changed Z.K) [] E (tCons t0 (tCons t1 tNil))) ρ ((partCh t c).D false) := DL.d_call (t, c) (DL.ea_cons h0 (DL.ea_cons h1 DL.ea_nil)) ok
local macro_rules | `(tactic| walk_at "call") => `(tactic| ((with_reducible apply k12.c_l_part_changed) <;> walk_at "ev"))
-- KIND: L
-- NEED: raw
-- CALL: {t : RPart} | t.D false | t | t.tasks.length ≤ 1000 | t.L true
def unD : PyData → PyData
  | .tuple [a, b, c, .tuple d] => .list [a, b, c, .list d]
  | _ => .none
abbrev sp_l_listed (K : PySem.W.Frag) : Sp := spL K (fun t : RPart => [t.D false]) (fun t => t.tasks.length ≤ 1000) (fun t => t.L true)

theorem c_l_listed {Z : Zx} {ρ : List Sl} {E : XK} {t0 : TE} {t : RPart} (h0 : EvD Z t0 ρ (t.D false)) (ok : t.tasks.length ≤ 1000) : EvL Z (tCall (sp_l_listed Z.K) [] E (tCons t0 tNil)) ρ (t.L true) := DL.l_call t (DL.ea_cons h0 DL.ea_nil) ok
local macro_rules | `(tactic| walk_at "call") => `(tactic| ((with_reducible apply k12.c_l_listed) <;> walk_at "ev"))
-- KIND: D
abbrev sp_law (K : PySem.W.Frag) : Sp := DL.spLaw K
def toRT (t : Task) : RTask := ⟨.int t.w, .int t.most, .int t.cap, intsD t.tries⟩
def toRP (p : Part) : RPart := ⟨.int p.w, .int p.worst, .int p.top, p.tasks.map toRT, intsD p.extras⟩
theorem num_ints (ns : List Int) : ∀ x ∈ intsD ns, Num x := fun x hx => by
  obtain ⟨i, _, rfl⟩ := List.mem_map.mp hx
  exact .int i
theorem toRT_ok {t : Task} (h : t.Ok) : (toRT t).Ok := ⟨.int _, .int _, .int _, num_ints _, by show (intsD t.tries).length ≤ 1000; rw [intsD_len]; have := h.l; omega⟩
theorem toRP_ok {p : Part} (h : p.Ok) : (toRP p).Ok := by
  refine ⟨.int _, .int _, .int _, fun x hx => ?_, num_ints _, ?_, ?_⟩
  · obtain ⟨t, ht, rfl⟩ := List.mem_map.mp hx
    exact toRT_ok (h.ts t ht)
  · show (p.tasks.map toRT).length ≤ 1000
    rw [List.length_map]
    have := h.tl
    omega
  · show (intsD p.extras).length ≤ 1000
    rw [intsD_len]
    have := h.el
    omega
theorem toRP_D (p : Part) : (toRP p).D false = p.D := by
  show PyData.tuple [.int p.w, .int p.worst, .int p.top, .tuple ((p.tasks.map toRT).map (RTask.D false)), .tuple (intsD p.extras)] = .tuple [.int p.w, .int p.worst, .int p.top, .tuple (tasksD p.tasks), .tuple (intsD p.extras)]
  rw [List.map_map]
  rfl
theorem course_D (l : List Part) : courseD l = (l.map toRP).map (RPart.D false) := by
  rw [List.map_map]
  refine List.map_congr_left fun p _ => ?_
  exact (toRP_D p).symm
/-- what == may ask about -/
def LayN (n : Nat) (d : PyData) : Prop := d.canLay0 = true ∧ d.depth ≤ n
theorem lay_all {n : Nat} : ∀ {xs : List PyData}, (∀ x ∈ xs, LayN n x) → PyData.canLayAll0 xs = true ∧ PyData.depthAll xs ≤ n
  | [], _ => ⟨rfl, Nat.zero_le _⟩
  | x :: xs, h => by
    have h1 := h x List.mem_cons_self
    have h2 := lay_all (xs := xs) fun y hy => h y (List.mem_cons_of_mem _ hy)
    constructor
    · simp [PyData.canLayAll0, h1.1, h2.1]
    · simp only [PyData.depthAll]
      exact Nat.max_le.mpr ⟨h1.2, h2.2⟩
theorem lay_sq {n : Nat} {k : Bool} {xs : List PyData} (h : ∀ x ∈ xs, LayN n x) : LayN (n + 1) (sqD k xs) := by
  have h2 := lay_all h
  cases k with
  | true =>
    show LayN (n + 1) (.list xs)
    constructor
    · simp [PyData.canLay0, h2.1]
    · simp only [PyData.depth]
      omega
  | false =>
    show LayN (n + 1) (.tuple xs)
    constructor
    · simp [PyData.canLay0, h2.1]
    · simp only [PyData.depth]
      omega
theorem lay_num {d : PyData} (h : Num d) : LayN 0 d := by
  cases h with
  | int i => exact ⟨by simp [PyData.canLay0], by simp [PyData.depth]⟩
  | bool i => exact ⟨by simp [PyData.canLay0], by simp [PyData.depth]⟩
theorem lay_up {n m : Nat} {d : PyData} (h : LayN n d) (hm : n ≤ m) : LayN m d := ⟨h.1, Nat.le_trans h.2 hm⟩
theorem lay_task {t : RTask} (h : t.Ok) (k : Bool) : LayN 2 (t.D k) := lay_sq fun x hx => by
  have hx : x ∈ [t.w, t.most, t.cap, sqD k t.tries] := hx
  simp only [List.mem_cons, List.not_mem_nil, or_false] at hx
  rcases hx with rfl | rfl | rfl | rfl
  · exact lay_up (lay_num h.w) (by decide)
  · exact lay_up (lay_num h.most) (by decide)
  · exact lay_up (lay_num h.cap) (by decide)
  · exact lay_sq fun x hx => lay_num (h.tries x hx)
theorem lay_part {t : RPart} (h : t.Ok) (k : Bool) : LayN 4 (t.D k) := lay_sq fun x hx => by
  have hx : x ∈ [t.w, t.worst, t.top, sqD k (t.tasks.map (RTask.D k)), sqD k t.extras] := hx
  simp only [List.mem_cons, List.not_mem_nil, or_false] at hx
  rcases hx with rfl | rfl | rfl | rfl | rfl
  · exact lay_up (lay_num h.w) (by decide)
  · exact lay_up (lay_num h.worst) (by decide)
  · exact lay_up (lay_num h.top) (by decide)
  · refine lay_sq fun x hx => ?_
    obtain ⟨y, hy, rfl⟩ := List.mem_map.mp hx
    exact lay_task (h.tasks y hy) k
  · exact lay_up (lay_sq (n := 0) fun x hx => lay_num (h.extras x hx)) (by decide)
theorem lay_course {c : List RPart} (h : ∀ p ∈ c, p.Ok) : LayN 5 (.list (c.map (RPart.D false))) := lay_sq (k := true) fun x hx => by
  obtain ⟨y, hy, rfl⟩ := List.mem_map.mp hx
  exact lay_part (h y hy) false
theorem sh_course {c : List RPart} (h : ∀ p ∈ c, p.Ok) : DL.sh (.list (c.map (RPart.D false))) := by
  show SeqAt.shaped _ = true
  unfold SeqAt.shaped
  have q := lay_course h
  rw [q.1, decide_eq_true (Nat.le_trans q.2 (by decide))]
  rfl
theorem eqv_course {c : List RPart} (h : ∀ p ∈ c, p.Ok) : PyData.eqv (.list (c.map (RPart.D false))) (.list (c.map (RPart.D false))) = true := PySem.SeqAt.eqv_refl _ (lay_course h).1
theorem eqv_str (x : Str) : PyData.eqv (.str x) (.str x) = true := by simp [PyData.eqv]
def unDP : PyData → PyData
  | .tuple [a, b, c, .tuple d, .tuple e] => .list [a, b, c, .list (d.map unD), .list e]
  | _ => .none
theorem unDP_eq (p : RPart) : unDP (p.D false) = p.D true := by
  show PyData.list [p.w, p.worst, p.top, .list ((p.tasks.map (RTask.D false)).map unD), .list p.extras] = .list [p.w, p.worst, p.top, .list (p.tasks.map (RTask.D true)), .list p.extras]
  rw [List.map_map]
  rfl
def CourseOk (c : List RPart) : Prop := (∀ p ∈ c, p.Ok) ∧ c.length ≤ 8
theorem handed_get (e : Int) (L : List PyData) : ∃ k, [PyData.list L, PyData.tuple L][(e % 2).toNat]? = some (sqD k L) := by
  have h : e % 2 = 0 ∨ e % 2 = 1 := by omega
  rcases h with h | h
  · rw [h]
    exact ⟨true, rfl⟩
  · rw [h]
    exact ⟨false, rfl⟩
theorem mod2 (c : Int) : 0 ≤ c % 2 := by omega
def noPart : RPart := ⟨.none, .none, .none, [], []⟩

section
variable {P : Program} {w : World} {K : PySem.W.Frag} {mg : Str → Option Value} {base : Heap}
abbrev s_l_cell_at : Stmt := topS 31
theorem sc_l_cell_at : FnScope ["_law_script", "_law_k"] ["_law_script", "_law_k"] (defScope s_l_cell_at) := ⟨rfl, rfl, rfl, by decide +kernel, rfl, by decide +kernel, by decide +kernel⟩
theorem ok_l_cell_at (At : DefAt K mg "_law_cell_at" "_law_cell_at" s_l_cell_at ["_law_script", "_law_k"]) (m_len : mg "len" = none) : Fn1 P w K mg base 1 "_law_cell_at" ["_law_script", "_law_k"] (sp_l_cell_at K) := by
  have nd := sc_l_cell_at.nd
  refine At.D sc_l_cell_at (fun _ => rfl) (fun f cdv A outer s H E hr => ⟨_, (pss_cons (ps_if (pt_cmpR (op_eqD hr.units : OpR _ _ (rEqD K)) (pe_callB (c_len : CallR _ _ (DL.rLen K)) (by rfl) m_len PySem.boot_len (pa_cons (pv 0) pa_nil)) pe_int (nomark _)) (pss_one (ps_ret (pv 1))) pss_nil)
      (pss_one (ps_ret (pe_op (op_addU : OpR _ _ (rAddU K)) (pe_ix (ix_U : IxR _ (rIxU K)) (pv 0) (pe_op op_mod (pv 1) (pe_callB (c_len : CallR _ _ (DL.rLen K)) (by rfl) m_len PySem.boot_len (pa_cons (pv 0) pa_nil))) (fun _ _ => rfl)) (pe_op (op_mulU : OpR _ _ (rMulU K)) pe_int (pe_op op_divU (pv 1) (pe_callB (c_len : CallR _ _ (DL.rLen K)) (by rfl) m_len PySem.boot_len (pa_cons (pv 0) pa_nil)))))))), fun a ha => ?_⟩)
  try dsimp only [cxOf]
  show EvS (Z0 K) _ [Sl.dat _, Sl.dat _] _
  obtain ⟨ns, k⟩ := a
  obtain ⟨hl, hk⟩ := ha
  try dsimp only at *
  apply DL.s_ifRet
  · walk_at "ev"
  · intro hb
    apply DL.s_ret
    · walk_at "ev"
    · have e := of_decide_eq_true hb
      rw [intsD_len] at e
      show PyData.int _ = _
      rw [cellAt, if_pos (by omega)]
  · intro hb
    have e := of_decide_eq_false hb
    rw [intsD_len] at e
    have h1 : 0 ≤ k % (ns.length : Int) := Int.emod_nonneg _ (by omega)
    have h2 : k % (ns.length : Int) < ns.length := Int.emod_lt_of_pos _ (by omega)
    apply DL.s_ret
    · walk_at "ev"
    · show PyData.int _ = PyData.int _
      rw [cellAt, if_neg (by omega)]
      simp only [intsD_len]

abbrev s_l_stream : Stmt := topS 32
theorem sc_l_stream : FnScope ["_law_cell", "_law_many", "_law_found", "_law_number", "_law_k"] ["_law_cell", "_law_many"] (defScope s_l_stream) := ⟨rfl, rfl, rfl, by decide +kernel, rfl, by decide +kernel, by decide +kernel⟩
theorem ok_l_stream (At : DefAt K mg "_law_stream" "_law_stream" s_l_stream ["_law_cell", "_law_many"]) (m_range : mg "range" = none) : Fn1 P w K mg base 1 "_law_stream" ["_law_cell", "_law_many"] (sp_l_stream K) := by
  have nd := sc_l_stream.nd
  refine At.L sc_l_stream (fun _ => rfl) (fun f cdv A outer s H E hr => ⟨_, (pss_cons (ps_asg (pe_lst pa_nil) (pg_name (i := 2) nd rfl (by first | exact Or.inl rfl | exact Or.inr rfl)))
      (pss_cons (ps_asg (pe_op (op_addU : OpR _ _ (rAddU K)) (pe_op op_mod (pv 0) pe_int) pe_int) (pg_name (i := 3) nd rfl (by first | exact Or.inl rfl | exact Or.inr rfl)))
      (pss_cons (ps_for PassesOwn.never rfl (pi_range1 (by rfl) m_range (pa_cons (pe_op (op_addU : OpR _ _ (rAddU K)) (pv 1) pe_int) pa_nil)) (pg_name (i := 4) nd rfl (by first | exact Or.inl rfl | exact Or.inr rfl)) (pss_cons (ps_asg (pe_op op_mod (pe_op (op_addU : OpR _ _ (rAddU K)) (pe_op (op_addU : OpR _ _ (rAddU K)) (pe_op (op_addU : OpR _ _ (rAddU K)) (pe_op (op_mulU : OpR _ _ (rMulU K)) (pv 3) (pv 3)) (pe_op (op_mulU : OpR _ _ (rMulU K)) pe_int (pv 3))) (pe_op (op_mulU : OpR _ _ (rMulU K)) pe_int (pv 4))) pe_int) pe_int) (pg_name (i := 3) nd rfl (by first | exact Or.inl rfl | exact Or.inr rfl)))
      (pss_one (ps_expr (pe_bm PySem.F.plainAttrs_list PySem.F.slot_list_append PySem.F.type_list_append mt_append (pv 2) (pa_cons (pv 3) pa_nil))))))
      (pss_one (ps_ret (pe_slice (sl_U : SlR _ (rSlU K)) (pv 2) (po_some pe_int) po_none)))))), fun a ha => ?_⟩)
  try dsimp only [cxOf]
  show EvS (Z0 K) _ [Sl.dat _, Sl.dat _, Sl.any, Sl.any, Sl.any] _
  obtain ⟨c, m⟩ := a
  obtain ⟨h0, h1⟩ := ha
  try dsimp only at *
  apply DL.s_seq
  · apply DL.s_asgL
    · walk_at "ev"
    · exact rfl
  apply DL.s_seq
  · apply DL.s_asg
    · walk_at "ev"
    · exact DL.g_name
    · exact rfl
  refine DL.s_cut (fun ρ => ∃ x y, ρ = [Sl.dat (.int c), Sl.dat (.int m), Sl.own ((List.range (m + 1).toNat).map fun j => .int (strN c (j + 1))), x, y]) ?_ ?_
  · apply DL.s_for (I := fun i ρ => ∃ y, ρ = [Sl.dat (.int c), Sl.dat (.int m), Sl.own ((List.range i).map fun j => .int (strN c (j + 1))), Sl.dat (.int (strN c i)), y])
    · apply DL.i_rng1
      · walk_at "ev"
      · omega
    · exact ⟨_, rfl⟩
    · rintro i d ρ hd ⟨y, rfl⟩
      obtain ⟨hi, rfl⟩ := rangeD_get hd
      refine ⟨_, DL.g_name, ?_⟩
      simp only [Int.zero_add]
      have b := strN_lo c i
      have hi2 : (i : Int) < m + 1 := by omega
      apply DL.s_seq
      · apply DL.s_asg
        · walk_at "ev"
        · exact DL.g_name
        · exact rfl
      apply DL.s_app
      · exact rfl
      · walk_at "ev"
      · simp; omega
      · refine ⟨Sl.dat (.int (i : Int)), ?_⟩
        simp only [List.set_cons_zero, List.set_cons_succ, List.range_succ, List.map_append]
        rfl
    · rintro ρ ⟨y, rfl⟩
      refine ⟨Sl.dat (.int (strN c (m + 1).toNat)), y, ?_⟩
      rw [rangeD_len]
  · rintro ρ ⟨x, y, rfl⟩
    apply DL.s_retL
    · walk_at "ev"
    · show _ = intsD (streamP c m)
      have e : (m + 1).toNat = m.toNat + 1 := by omega
      have c1 := cutD_from ((List.range (m + 1).toNat).map fun j => PyData.int (strN c (j + 1))) 1
      refine Eq.trans c1 ?_
      unfold streamP intsD
      rw [e, List.map_map, List.range_succ_eq_map, List.map_cons, List.drop_succ_cons, List.drop_zero, List.map_map]
      rfl

abbrev s_l_task_by : Stmt := topS 33
theorem sc_l_task_by : FnScope ["_law_xs", "_law_weight", "_law_most", "_law_cap", "_law_many", "_law_tries", "_law_k"] ["_law_xs"] (defScope s_l_task_by) := ⟨rfl, rfl, rfl, by decide +kernel, rfl, by decide +kernel, by decide +kernel⟩
theorem ok_l_task_by (At : DefAt K mg "_law_task_by" "_law_task_by" s_l_task_by ["_law_xs"]) (m_range : mg "range" = none) (m_tuple : mg "tuple" = none) : Fn1 P w K mg base 1 "_law_task_by" ["_law_xs"] (sp_l_task_by K) := by
  have nd := sc_l_task_by.nd
  refine At.D sc_l_task_by (fun _ => rfl) (fun f cdv A outer s H E hr => ⟨_, (pss_cons (ps_asg (pe_op (op_addU : OpR _ _ (rAddU K)) pe_int (pe_op op_mod (pe_ix (ix_U : IxR _ (rIxU K)) (pv 0) pe_int (fun _ _ => rfl)) pe_int)) (pg_name (i := 1) nd rfl (by first | exact Or.inl rfl | exact Or.inr rfl)))
      (pss_cons (ps_if (pt_cmpR (op_eqD hr.units : OpR _ _ (rEqD K)) (pe_op op_mod (pe_op op_divU (pe_ix (ix_U : IxR _ (rIxU K)) (pv 0) pe_int (fun _ _ => rfl)) pe_int) pe_int) pe_int (nomark _)) (pss_one (ps_asg (pe_op (op_addU : OpR _ _ (rAddU K)) pe_int (pe_op op_mod (pe_op op_divU (pe_ix (ix_U : IxR _ (rIxU K)) (pv 0) pe_int (fun _ _ => rfl)) pe_int) pe_int)) (pg_name (i := 1) nd rfl (by first | exact Or.inl rfl | exact Or.inr rfl)))) pss_nil)
      (pss_cons (ps_asg (pe_ix (ix_U : IxR _ (rIxU K)) (pe_lst (pa_cons pe_int (pa_cons pe_int (pa_cons pe_int (pa_cons (pe_op (op_addU : OpR _ _ (rAddU K)) pe_int (pe_op op_mod (pe_op op_divU (pe_ix (ix_U : IxR _ (rIxU K)) (pv 0) pe_int (fun _ _ => rfl)) pe_int) pe_int)) (pa_cons (pe_op (op_addU : OpR _ _ (rAddU K)) pe_int (pe_op op_mod (pe_op op_divU (pe_ix (ix_U : IxR _ (rIxU K)) (pv 0) pe_int (fun _ _ => rfl)) pe_int) (pe_op op_pow pe_int pe_int))) (pa_cons (pe_op op_pow pe_int pe_int) pa_nil))))))) (pe_op op_mod (pe_ix (ix_U : IxR _ (rIxU K)) (pv 0) pe_int (fun _ _ => rfl)) pe_int) (fun _ _ => rfl)) (pg_name (i := 2) nd rfl (by first | exact Or.inl rfl | exact Or.inr rfl)))
      (pss_cons (ps_asg (pe_ix (ix_U : IxR _ (rIxU K)) (pe_lst (pa_cons (pv 2) (pa_cons pe_int (pa_cons (pe_op op_divU (pv 2) pe_int) (pa_cons (pe_op op_mod (pe_op op_divU (pe_ix (ix_U : IxR _ (rIxU K)) (pv 0) pe_int (fun _ _ => rfl)) pe_int) (pe_op (op_addU : OpR _ _ (rAddU K)) (pv 2) pe_int)) pa_nil))))) (pe_op op_mod (pe_ix (ix_U : IxR _ (rIxU K)) (pv 0) pe_int (fun _ _ => rfl)) pe_int) (fun _ _ => rfl)) (pg_name (i := 3) nd rfl (by first | exact Or.inl rfl | exact Or.inr rfl)))
      (pss_cons (ps_asg (pe_ix (ix_U : IxR _ (rIxU K)) (pe_lst (pa_cons pe_int (pa_cons pe_int (pa_cons pe_int (pa_cons pe_int (pa_cons pe_int (pa_cons pe_int (pa_cons pe_int (pa_cons pe_int (pa_cons pe_int pa_nil)))))))))) (pe_op op_mod (pe_ix (ix_U : IxR _ (rIxU K)) (pv 0) pe_int (fun _ _ => rfl)) pe_int) (fun _ _ => rfl)) (pg_name (i := 4) nd rfl (by first | exact Or.inl rfl | exact Or.inr rfl)))
      (pss_cons (ps_asg (pe_lst pa_nil) (pg_name (i := 5) nd rfl (by first | exact Or.inl rfl | exact Or.inr rfl)))
      (pss_cons (ps_for PassesOwn.never rfl (pi_range1 (by rfl) m_range (pa_cons (pv 4) pa_nil)) (pg_name (i := 6) nd rfl (by first | exact Or.inl rfl | exact Or.inr rfl)) (pss_one (ps_expr (pe_bm PySem.F.plainAttrs_list PySem.F.slot_list_append PySem.F.type_list_append mt_append (pv 5) (pa_cons (pe_ix (ix_U : IxR _ (rIxU K)) (pe_lst (pa_cons (pe_op op_mod (pe_op op_divU (pe_ix (ix_U : IxR _ (rIxU K)) (pv 0) (pe_op (op_addU : OpR _ _ (rAddU K)) pe_int (pv 6)) (fun _ _ => rfl)) pe_int) (pe_op (op_addU : OpR _ _ (rAddU K)) (pv 2) pe_int)) (pa_cons (pe_op op_mod (pe_op op_divU (pe_ix (ix_U : IxR _ (rIxU K)) (pv 0) (pe_op (op_addU : OpR _ _ (rAddU K)) pe_int (pv 6)) (fun _ _ => rfl)) pe_int) (pe_op (op_addU : OpR _ _ (rAddU K)) (pv 2) pe_int)) (pa_cons pe_int (pa_cons (pv 2) (pa_cons (pv 3) pa_nil)))))) (pe_op op_mod (pe_ix (ix_U : IxR _ (rIxU K)) (pv 0) (pe_op (op_addU : OpR _ _ (rAddU K)) pe_int (pv 6)) (fun _ _ => rfl)) pe_int) (fun _ _ => rfl)) pa_nil)))))
      (pss_one (ps_ret (pe_tup (pa_cons (pv 1) (pa_cons (pv 2) (pa_cons (pv 3) (pa_cons (pe_callTy (c_tuple : CallR _ _ (rTpl K)) (by rfl) m_tuple (by decide +kernel) (pa_cons (pv 5) pa_nil)) pa_nil)))))))))))))), fun a ha => ?_⟩)
  try dsimp only [cxOf]
  show EvS (Z0 K) _ [Sl.dat _, Sl.any, Sl.any, Sl.any, Sl.any, Sl.any, Sl.any] _
  rename List Int => xs
  have hl : 16 ≤ xs.length := ha
  have w0 := weightP_lo (xs.getD 0 0)
  have m0 := mostP_lo (xs.getD 1 0)
  have c0 := capP_lo (x := xs.getD 2 0) m0.1
  have n0 := manyP_lo (xs.getD 3 0)
  apply DL.s_seq
  · apply DL.s_asg
    · walk_at "ev"
    · exact DL.g_name
    · exact rfl
  apply DL.s_ifAsg (x := .int (weightP (xs.getD 0 0)))
  · walk_at "ev"
  · intro hb
    apply DL.EvD.is
    · walk_at "ev"
    · have e : xs.getD 0 0 / 5 % 5 = 0 := of_decide_eq_true hb
      show PyData.int _ = PyData.int _
      unfold weightP
      rw [if_pos e]
      rfl
  · intro hb
    have e : ¬ xs.getD 0 0 / 5 % 5 = 0 := of_decide_eq_false hb
    unfold weightP
    rw [if_neg e]
    rfl
  have p6 : (10 : Int) ^ (6 : Int).toNat = 1000000 := by decide
  apply DL.s_seq (ρ1 := [Sl.dat (.list (intsD xs)), Sl.dat (.int (weightP (xs.getD 0 0))), Sl.dat (.int (mostP (xs.getD 1 0))), .any, .any, .any, .any])
  · apply DL.s_asg
    · walk_at "ev"
    · exact DL.g_name
    · show _ = _
      rw [p6]
      rfl
  generalize hm : mostP (xs.getD 1 0) = m at *
  apply DL.s_seq (ρ1 := [Sl.dat (.list (intsD xs)), Sl.dat (.int (weightP (xs.getD 0 0))), Sl.dat (.int m), Sl.dat (.int (capP (xs.getD 2 0) m)), .any, .any, .any])
  · apply DL.s_asg
    · walk_at "ev"
    · exact DL.g_name
    · exact rfl
  generalize hc : capP (xs.getD 2 0) m = c at *
  apply DL.s_seq (ρ1 := [Sl.dat (.list (intsD xs)), Sl.dat (.int (weightP (xs.getD 0 0))), Sl.dat (.int m), Sl.dat (.int c), Sl.dat (.int (manyP (xs.getD 3 0))), .any, .any])
  · apply DL.s_asg
    · walk_at "ev"
    · exact DL.g_name
    · exact rfl
  generalize hn : manyP (xs.getD 3 0) = n at *
  apply DL.s_seq
  · apply DL.s_asgL
    · walk_at "ev"
    · exact rfl
  refine DL.s_cut (fun ρ => ∃ y, ρ = [Sl.dat (.list (intsD xs)), Sl.dat (.int (weightP (xs.getD 0 0))), Sl.dat (.int m), Sl.dat (.int c), Sl.dat (.int n), Sl.own ((List.range n.toNat).map fun j => .int (tryP (xs.getD (4 + j) 0) m c)), y]) ?_ ?_
  · apply DL.s_for (I := fun i ρ => ∃ y, ρ = [Sl.dat (.list (intsD xs)), Sl.dat (.int (weightP (xs.getD 0 0))), Sl.dat (.int m), Sl.dat (.int c), Sl.dat (.int n), Sl.own ((List.range i).map fun j => .int (tryP (xs.getD (4 + j) 0) m c)), y])
    · apply DL.i_rng1
      · walk_at "ev"
      · omega
    · exact ⟨_, rfl⟩
    · rintro i d ρ hd ⟨y, rfl⟩
      obtain ⟨hi, rfl⟩ := rangeD_get hd
      refine ⟨_, DL.g_name, ?_⟩
      simp only [Int.zero_add]
      have e4 : (4 + (i : Int)).toNat = 4 + i := by omega
      apply DL.s_app
      · exact rfl
      · walk_at "ev"
      · simp; omega
      · refine ⟨Sl.dat (.int (i : Int)), ?_⟩
        simp only [List.set_cons_zero, List.set_cons_succ, List.range_succ, List.map_append, e4]
        rfl
    · rintro ρ ⟨y, rfl⟩
      refine ⟨y, ?_⟩
      rw [rangeD_len]
  · rintro ρ ⟨y, rfl⟩
    apply DL.s_ret
    · walk_at "ev"
    · show _ = (taskBy xs).D
      unfold taskBy Task.D intsD
      rw [List.map_map, hm, hc, hn]
      rfl

abbrev s_l_part_by : Stmt := topS 34
theorem sc_l_part_by : FnScope ["_law_cell", "_law_most_tasks", "_law_xs", "_law_weight", "_law_top", "_law_tasks", "_law_k", "_law_extras"] ["_law_cell", "_law_most_tasks"] (defScope s_l_part_by) := ⟨rfl, rfl, rfl, by decide +kernel, rfl, by decide +kernel, by decide +kernel⟩
theorem ok_l_part_by (At : DefAt K mg "_law_part_by" "_law_part_by" s_l_part_by ["_law_cell", "_law_most_tasks"]) (G_l_stream : Fn1 P w K mg base 1 "_law_stream" ["_law_cell", "_law_many"] (sp_l_stream K)) (G_l_task_by : Fn1 P w K mg base 1 "_law_task_by" ["_law_xs"] (sp_l_task_by K)) (m_range : mg "range" = none) (m_tuple : mg "tuple" = none) : Fn1 P w K mg base 2 "_law_part_by" ["_law_cell", "_law_most_tasks"] (sp_l_part_by K) := by
  have nd := sc_l_part_by.nd
  refine At.D sc_l_part_by (fun _ => rfl) (fun f cdv A outer s H E hr => ⟨_, (pss_cons (ps_asg (pe_fn G_l_stream (hr.mono (by decide)) (by rfl) (pa_cons (pv 0) (pa_cons (pe_op (op_addU : OpR _ _ (rAddU K)) pe_int (pe_op (op_mulU : OpR _ _ (rMulU K)) pe_int (pv 1))) pa_nil))) (pg_name (i := 2) nd rfl (by first | exact Or.inl rfl | exact Or.inr rfl)))
      (pss_cons (ps_asg (pe_op (op_addU : OpR _ _ (rAddU K)) pe_int (pe_op op_mod (pe_ix (ix_U : IxR _ (rIxU K)) (pv 2) pe_int (fun _ _ => rfl)) pe_int)) (pg_name (i := 3) nd rfl (by first | exact Or.inl rfl | exact Or.inr rfl)))
      (pss_cons (ps_if (pt_cmpR (op_eqD hr.units : OpR _ _ (rEqD K)) (pe_op op_mod (pe_op op_divU (pe_ix (ix_U : IxR _ (rIxU K)) (pv 2) pe_int (fun _ _ => rfl)) pe_int) pe_int) pe_int (nomark _)) (pss_one (ps_asg (pe_op (op_addU : OpR _ _ (rAddU K)) pe_int (pe_op op_mod (pe_op op_divU (pe_ix (ix_U : IxR _ (rIxU K)) (pv 2) pe_int (fun _ _ => rfl)) pe_int) pe_int)) (pg_name (i := 3) nd rfl (by first | exact Or.inl rfl | exact Or.inr rfl)))) pss_nil)
      (pss_cons (ps_asg (pe_ix (ix_U : IxR _ (rIxU K)) (pe_lst (pa_cons pe_int (pa_cons pe_int (pa_cons pe_int (pa_cons (pe_op op_mod (pe_op op_divU (pe_ix (ix_U : IxR _ (rIxU K)) (pv 2) pe_int (fun _ _ => rfl)) pe_int) pe_int) pa_nil))))) (pe_op op_mod (pe_ix (ix_U : IxR _ (rIxU K)) (pv 2) pe_int (fun _ _ => rfl)) pe_int) (fun _ _ => rfl)) (pg_name (i := 4) nd rfl (by first | exact Or.inl rfl | exact Or.inr rfl)))
      (pss_cons (ps_asg (pe_lst pa_nil) (pg_name (i := 5) nd rfl (by first | exact Or.inl rfl | exact Or.inr rfl)))
      (pss_cons (ps_for PassesOwn.never rfl (pi_range1 (by rfl) m_range (pa_cons (pe_op op_mod (pe_ix (ix_U : IxR _ (rIxU K)) (pv 2) pe_int (fun _ _ => rfl)) (pe_op (op_addU : OpR _ _ (rAddU K)) (pv 1) pe_int)) pa_nil)) (pg_name (i := 6) nd rfl (by first | exact Or.inl rfl | exact Or.inr rfl)) (pss_one (ps_expr (pe_bm PySem.F.plainAttrs_list PySem.F.slot_list_append PySem.F.type_list_append mt_append (pv 5) (pa_cons (pe_fn G_l_task_by (hr.mono (by decide)) (by rfl) (pa_cons (pe_slice (sl_U : SlR _ (rSlU K)) (pv 2) (po_some (pe_op (op_addU : OpR _ _ (rAddU K)) pe_int (pe_op (op_mulU : OpR _ _ (rMulU K)) pe_int (pv 6)))) (po_some (pe_op (op_addU : OpR _ _ (rAddU K)) pe_int (pe_op (op_mulU : OpR _ _ (rMulU K)) pe_int (pv 6))))) pa_nil)) pa_nil)))))
      (pss_cons (ps_setLc (i := 7) (own := [("_law_k", 6)]) (g := gName 6) (tt := tYes) (by rfl) nd rfl rfl (sw_true rfl rfl rfl (by decide +kernel)) (pi_range1 (by rfl) m_range (pa_cons (pe_ix (ix_U : IxR _ (rIxU K)) (pe_lst (pa_cons pe_int (pa_cons pe_int (pa_cons pe_int (pa_cons pe_int (pa_cons pe_int (pa_cons pe_int (pa_cons pe_int (pa_cons pe_int pa_nil))))))))) (pe_op op_mod (pe_ix (ix_U : IxR _ (rIxU K)) (pv 2) pe_int (fun _ _ => rfl)) pe_int) (fun _ _ => rfl)) pa_nil)) (blkOk_by (own := [("_law_k", 6)]) (N := ["_law_cell", "_law_most_tasks", "_law_xs", "_law_weight", "_law_top", "_law_tasks", "_law_k", "_law_extras"]) (sc := defScope s_l_part_by) (by decide +kernel)) (fun _ _ _ _ _ => (pg_name (i := 6) nd rfl (by first | exact Or.inl rfl | exact Or.inr rfl))) (fun _ _ _ _ _ => pts_nil) (fun _ _ _ _ _ => (pe_op op_mod (pe_ix (ix_U : IxR _ (rIxU K)) (pv 2) (pe_op (op_addU : OpR _ _ (rAddU K)) pe_int (pv 6)) (fun _ _ => rfl)) (pe_ix (ix_U : IxR _ (rIxU K)) (pe_lst (pa_cons pe_int (pa_cons pe_int pa_nil))) (pe_op op_mod (pe_op op_divU (pe_ix (ix_U : IxR _ (rIxU K)) (pv 2) pe_int (fun _ _ => rfl)) pe_int) pe_int) (fun _ _ => rfl)))))
      (pss_one (ps_ret (pe_tup (pa_cons (pv 3) (pa_cons (pe_op op_mod (pe_ix (ix_U : IxR _ (rIxU K)) (pv 2) pe_int (fun _ _ => rfl)) pe_int) (pa_cons (pv 4) (pa_cons (pe_callTy (c_tuple : CallR _ _ (rTpl K)) (by rfl) m_tuple (by decide +kernel) (pa_cons (pv 5) pa_nil)) (pa_cons (pe_callTy (c_tuple : CallR _ _ (rTpl K)) (by rfl) m_tuple (by decide +kernel) (pa_cons (pv 7) pa_nil)) pa_nil))))))))))))))), fun a ha => ?_⟩)
  try dsimp only [cxOf]
  show EvS (Z0 K) _ [Sl.dat _, Sl.dat _, Sl.any, Sl.any, Sl.any, Sl.any, Sl.any, Sl.any] _
  obtain ⟨c, m⟩ := a
  obtain ⟨h0, h1⟩ := ha
  dsimp only at h0 h1
  have lx := streamP_len c (20 + 16 * m)
  have lo := streamP_lo c (20 + 16 * m)
  show EvS (Z0 K) _ _ (toD (partOf (streamP c (20 + 16 * m)) m).D)
  apply DL.s_seq (ρ1 := [Sl.dat (.int c), Sl.dat (.int m), Sl.dat (.list (intsD (streamP c (20 + 16 * m)))), .any, .any, .any, .any, .any])
  · apply DL.s_asg
    · apply DL.EvL.dt
      walk_at "call"
    · exact DL.g_name
    · exact rfl
  generalize streamP c (20 + 16 * m) = xs at *
  have hx : (20 : Int) ≤ xs.length := by omega
  apply DL.s_seq
  · apply DL.s_asg
    · walk_at "ev"
    · exact DL.g_name
    · exact rfl
  apply DL.s_ifAsg (x := .int (weightP (xs.getD 0 0)))
  · walk_at "ev"
  · intro hb
    apply DL.EvD.is
    · walk_at "ev"
    · have e : xs.getD 0 0 / 5 % 5 = 0 := of_decide_eq_true hb
      show PyData.int _ = PyData.int _
      unfold weightP
      rw [if_pos e]
      rfl
  · intro hb
    have e : ¬ xs.getD 0 0 / 5 % 5 = 0 := of_decide_eq_false hb
    unfold weightP
    rw [if_neg e]
    rfl
  apply DL.s_seq (ρ1 := [Sl.dat (.int c), Sl.dat (.int m), Sl.dat (.list (intsD xs)), Sl.dat (.int (weightP (xs.getD 0 0))), Sl.dat (.int (topP (xs.getD 2 0))), .any, .any, .any])
  · apply DL.s_asg
    · walk_at "ev"
    · exact DL.g_name
    · exact rfl
  apply DL.s_seq
  · apply DL.s_asgL
    · walk_at "ev"
    · exact rfl
  have r0 := Int.emod_nonneg (xs.getD 3 0) (show m + 1 ≠ 0 by omega)
  have r1 := Int.emod_lt_of_pos (xs.getD 3 0) (show 0 < m + 1 by omega)
  refine DL.s_cut (fun ρ => ∃ y, ρ = [Sl.dat (.int c), Sl.dat (.int m), Sl.dat (.list (intsD xs)), Sl.dat (.int (weightP (xs.getD 0 0))), Sl.dat (.int (topP (xs.getD 2 0))), Sl.own (tasksD (partOf xs m).tasks), y, .any]) ?_ ?_
  · apply DL.s_for (I := fun i ρ => ∃ y, ρ = [Sl.dat (.int c), Sl.dat (.int m), Sl.dat (.list (intsD xs)), Sl.dat (.int (weightP (xs.getD 0 0))), Sl.dat (.int (topP (xs.getD 2 0))), Sl.own ((List.range i).map fun k => (taskBy ((xs.drop (20 + 16 * k)).take 16)).D), y, .any])
    · apply DL.i_rng1
      · walk_at "ev"
      · show xs.getD 3 0 % (m + 1) ≤ 100000 ∧ -100000 ≤ xs.getD 3 0 % (m + 1)
        omega
    · exact ⟨_, rfl⟩
    · rintro i d ρ hd ⟨y, rfl⟩
      obtain ⟨hi, rfl⟩ := rangeD_get hd
      refine ⟨_, DL.g_name, ?_⟩
      simp only [Int.zero_add]
      have hi2 : (i : Int) < xs.getD 3 0 % (m + 1) := by
        have : i < (xs.getD 3 0 % (m + 1)).toNat := hi
        omega
      have ec : DL.cutD (intsD xs) (some (20 + 16 * (i : Int))) (some (36 + 16 * (i : Int))) = intsD ((xs.drop (20 + 16 * i)).take 16) := by
        have h := cutD_mid (intsD xs) (20 + 16 * i) (36 + 16 * i)
        rw [show (36 + 16 * i) - (20 + 16 * i) = 16 by omega] at h
        rw [show (20 : Int) + 16 * (i : Int) = ((20 + 16 * i : Nat) : Int) by omega, show (36 : Int) + 16 * (i : Int) = ((36 + 16 * i : Nat) : Int) by omega, h]
        unfold intsD
        rw [List.map_take, List.map_drop]
      apply DL.s_app
      · exact rfl
      · apply c_l_task_by (xs := (xs.drop (20 + 16 * i)).take 16)
        · apply DL.EvD.is
          · apply DL.EvL.dt
            walk_at "ev"
          · exact congrArg _ ec
        · rw [List.length_take, List.length_drop]
          omega
      · simp; omega
      · refine ⟨Sl.dat (.int (i : Int)), ?_⟩
        simp only [List.set_cons_zero, List.set_cons_succ, List.range_succ, List.map_append]
        rfl
    · rintro ρ ⟨y, rfl⟩
      refine ⟨y, ?_⟩
      rw [rangeD_len]
      show _ = [_, _, _, _, _, Sl.own (tasksD (List.map _ _)), _, _]
      unfold tasksD
      rw [List.map_map]
      rfl
  rintro ρ ⟨y, rfl⟩
  have m0 := exMany_lo (xs.getD 4 0)
  have q0 := exMod_lo (xs.getD 4 0)
  apply DL.s_seq (ρ1 := [Sl.dat (.int c), Sl.dat (.int m), Sl.dat (.list (intsD xs)), Sl.dat (.int (weightP (xs.getD 0 0))), Sl.dat (.int (topP (xs.getD 2 0))), Sl.own (tasksD (partOf xs m).tasks), y, Sl.own (intsD (partOf xs m).extras)])
  · apply DL.s_asgL (ds := intsD (partOf xs m).extras)
    · have hk : keptD (rangeD 0 (exMany (xs.getD 4 0)).toNat) (fun _ => true) (exV xs (exMod (xs.getD 4 0))) = intsD (partOf xs m).extras := by
        unfold keptD rangeD intsD
        rw [List.filter_eq_self.mpr (fun _ _ => rfl), List.map_map]
        show _ = List.map _ (List.map _ _)
        rw [List.map_map]
        refine List.map_congr_left fun i _ => ?_
        show PyData.int (xs.getD (5 + (0 + (i : Int))).toNat 0 % exMod (xs.getD 4 0)) = PyData.int (xs.getD (5 + i) 0 % exMod (xs.getD 4 0))
        rw [show (5 + (0 + (i : Int))).toNat = 5 + i by omega]
      rw [← hk]
      refine DL.l_lc _ _ (DL.i_rng1 (n := exMany (xs.getD 4 0)) (DL.ea_cons (DL.EvD.is (x := .int ([0, 0, 1, 1, 2, 3, 4, 12].getD (xs.getD (Int.toNat 4) 0 % 8).toNat 0)) (by walk_at "ev") rfl) DL.ea_nil) (by omega)) ?_ ?_
      · rw [rangeD_len]; omega
      · intro i d hd
        obtain ⟨hi, rfl⟩ := rangeD_get hd
        refine ⟨_, DL.gw_name, DL.t_yes, fun _ => ?_⟩
        have hi2 : i < (exMany (xs.getD 4 0)).toNat := hi
        apply DL.EvD.is
        · walk_at "ev"
          exact q0.1
        · show PyData.int _ = PyData.int _
          rfl
    · exact rfl
  apply DL.s_ret
  · walk_at "ev"
  · show _ = (partOf xs m).D
    rfl

abbrev s_l_course_by : Stmt := topS 35
theorem sc_l_course_by : FnScope ["_law_script", "_law_first", "_law_most_tasks", "_law_many", "_law_k"] ["_law_script", "_law_first", "_law_most_tasks"] (defScope s_l_course_by) := ⟨rfl, rfl, rfl, by decide +kernel, rfl, by decide +kernel, by decide +kernel⟩
theorem ok_l_course_by (At : DefAt K mg "_law_course_by" "_law_course_by" s_l_course_by ["_law_script", "_law_first", "_law_most_tasks"]) (G_l_cell_at : Fn1 P w K mg base 1 "_law_cell_at" ["_law_script", "_law_k"] (sp_l_cell_at K)) (G_l_part_by : Fn1 P w K mg base 2 "_law_part_by" ["_law_cell", "_law_most_tasks"] (sp_l_part_by K)) (m_range : mg "range" = none) : Fn1 P w K mg base 3 "_law_course_by" ["_law_script", "_law_first", "_law_most_tasks"] (sp_l_course_by K) := by
  have nd := sc_l_course_by.nd
  refine At.L sc_l_course_by (fun _ => rfl) (fun f cdv A outer s H E hr => ⟨_, (pss_cons (ps_asg (pe_op op_mod (pe_fn G_l_cell_at (hr.mono (by decide)) (by rfl) (pa_cons (pv 0) (pa_cons pe_int pa_nil))) pe_int) (pg_name (i := 3) nd rfl (by first | exact Or.inl rfl | exact Or.inr rfl)))
      (pss_cons (ps_if (pt_cmpR (op_eqD hr.units : OpR _ _ (rEqD K)) (pe_op op_mod (pe_op op_divU (pe_fn G_l_cell_at (hr.mono (by decide)) (by rfl) (pa_cons (pv 0) (pa_cons pe_int pa_nil))) pe_int) pe_int) pe_int (nomark _)) (pss_one (ps_asg (pe_op (op_addU : OpR _ _ (rAddU K)) pe_int (pe_op op_mod (pe_op op_divU (pe_fn G_l_cell_at (hr.mono (by decide)) (by rfl) (pa_cons (pv 0) (pa_cons pe_int pa_nil))) pe_int) pe_int)) (pg_name (i := 3) nd rfl (by first | exact Or.inl rfl | exact Or.inr rfl)))) pss_nil)
      (pss_one (ps_ret (pe_lc (own := [("_law_k", 4)]) (g := gName 4) (tt := tYes) (by rfl) nd (pi_range1 (by rfl) m_range (pa_cons (pv 3) pa_nil)) (blkOk_by (own := [("_law_k", 4)]) (N := ["_law_script", "_law_first", "_law_most_tasks", "_law_many", "_law_k"]) (sc := defScope s_l_course_by) (by decide +kernel)) (fun _ _ _ _ _ => (pg_name (i := 4) nd rfl (by first | exact Or.inl rfl | exact Or.inr rfl))) (fun _ _ _ _ _ => pts_nil) (fun _ _ _ _ _ => (pe_fn G_l_part_by (hr.mono (by decide)) (by rfl) (pa_cons (pe_fn G_l_cell_at (hr.mono (by decide)) (by rfl) (pa_cons (pv 0) (pa_cons (pe_op (op_addU : OpR _ _ (rAddU K)) (pv 1) (pv 4)) pa_nil))) (pa_cons (pv 2) pa_nil))))))))), fun a ha => ?_⟩)
  try dsimp only [cxOf]
  show EvS (Z0 K) _ [Sl.dat _, Sl.dat _, Sl.dat _, Sl.any, Sl.any] _
  obtain ⟨ns, f, m⟩ := a
  obtain ⟨hl, f0, f1, m0, m1⟩ := ha
  dsimp only at hl f0 f1 m0 m1
  have c0 := manyParts_lo ns
  apply DL.s_seq
  · apply DL.s_asg
    · walk_at "ev"
    · exact DL.g_name
    · exact rfl
  apply DL.s_ifAsg (x := .int (manyParts ns))
  · walk_at "ev"
  · intro hb
    have e : cellAt ns 0 / 4 % 9 = 1 := of_decide_eq_true hb
    apply DL.EvD.is
    · walk_at "ev"
    · show PyData.int _ = PyData.int _
      rw [manyParts, if_pos e]
  · intro hb
    have e : ¬ cellAt ns 0 / 4 % 9 = 1 := of_decide_eq_false hb
    rw [manyParts, if_neg e]
    rfl
  apply DL.s_retL (ds := courseD (courseBy ns f m))
  · have hk : keptD (rangeD 0 (manyParts ns).toNat) (fun _ => true) (partV ns f m) = courseD (courseBy ns f m) := by
      unfold keptD rangeD courseD courseBy
      rw [List.filter_eq_self.mpr (fun _ _ => rfl), List.map_map, List.map_map]
      refine List.map_congr_left fun i _ => ?_
      show (partBy (cellAt ns (f + (0 + (i : Int)))) m).D = (partBy (cellAt ns (f + (i : Int))) m).D
      rw [Int.zero_add]
    rw [← hk]
    refine DL.l_lc _ _ (DL.i_rng1 (n := manyParts ns) (by walk_at "ev") (by omega)) ?_ ?_
    · rw [rangeD_len]; omega
    · intro i d hd
      obtain ⟨hi, rfl⟩ := rangeD_get hd
      refine ⟨_, DL.gw_name, DL.t_yes, fun _ => ?_⟩
      apply DL.EvD.is
      · walk_at "ev"
      · exact rfl
  · exact rfl

abbrev s_is_from : Stmt := topS 29
theorem sc_is_from : FnScope ["number", "least"] ["number", "least"] (defScope s_is_from) := ⟨rfl, rfl, rfl, by decide +kernel, rfl, by decide +kernel, by decide +kernel⟩
theorem ok_is_from (At : DefAt K mg "is_from" "is_from" s_is_from ["number", "least"]) (m_isinstance : mg "isinstance" = none) (m_bool : mg "bool" = none) (m_int : mg "int" = none) : Fn1 P w K mg base 1 "is_from" ["number", "least"] (sp_is_from K) := by
  have nd := sc_is_from.nd
  refine At.D sc_is_from (fun _ => rfl) (fun f cdv A outer s H E hr => ⟨_, (pss_cons (ps_if (PW.pt (pw_or (pt_truK (K := K) rfl (pe_callB (call_isi : CallR _ _ (rIsi K)) (by rfl) m_isinstance (by decide +kernel) (pa_cons (pv 0) (pa_cons (pe_bltn (v := .ty "bool") (u := .type "bool") (by rfl) m_bool (by decide +kernel) rfl) pa_nil)))) (pw_or1 (pt_not (pt_truK (K := K) rfl (pe_callB (call_isi : CallR _ _ (rIsi K)) (by rfl) m_isinstance (by decide +kernel) (pa_cons (pv 0) (pa_cons (pe_bltn (v := .ty "int") (u := .type "int") (by rfl) m_int (by decide +kernel) rfl) pa_nil)))))))) (pss_one (ps_ret pe_bl)) pss_nil)
      (pss_one (ps_ret (pe_cmpR op_ge (pv 0) (pv 1) (nomark _))))), fun a ha => ?_⟩)
  try dsimp only [cxOf]
  show EvS (Z0 K) _ [Sl.dat _, Sl.dat _] _
  obtain ⟨d, lo⟩ := a
  have hn : Num d := ha
  show EvS _ _ [Sl.dat d, .dat (.int lo)] (toD (.bool (fromP d lo)))
  cases hn with
  | int i =>
    apply DL.s_ifRet (b := false)
    · refine DL.EvT.is (a := false || !true) (DL.t_or (by walk_at "ev") (fun _ => DL.t_not (by walk_at "ev"))) rfl
    · intro h; cases h
    · intro _
      apply DL.s_ret
      · exact DL.d_op (DL.d_var rfl) (DL.d_var rfl) DL.r_ge
      · exact rfl
  | bool b =>
    apply DL.s_ifRet (b := true)
    · refine DL.EvT.is (a := true || false) (DL.t_or (by walk_at "ev") (fun h => by cases h)) rfl
    · intro _
      apply DL.s_ret
      · walk_at "ev"
      · exact rfl
    · intro h; cases h

abbrev s_is_within : Stmt := topS 28
theorem sc_is_within : FnScope ["number", "least", "most"] ["number", "least", "most"] (defScope s_is_within) := ⟨rfl, rfl, rfl, by decide +kernel, rfl, by decide +kernel, by decide +kernel⟩
theorem ok_is_within (At : DefAt K mg "is_within" "is_within" s_is_within ["number", "least", "most"]) (G_is_from : Fn1 P w K mg base 1 "is_from" ["number", "least"] (sp_is_from K)) : Fn1 P w K mg base 2 "is_within" ["number", "least", "most"] (sp_is_within K) := by
  have nd := sc_is_within.nd
  refine At.D sc_is_within (fun _ => rfl) (fun f cdv A outer s H E hr => ⟨_, (pss_one (ps_ret (pe_and (pe_fn G_is_from (hr.mono (by decide)) (by rfl) (pa_cons (pv 0) (pa_cons (pv 1) pa_nil))) (pe_one (pe_cmpR op_le (pv 0) (pv 2) (nomark _)))))), fun a ha => ?_⟩)
  try dsimp only [cxOf]
  show EvS (Z0 K) _ [Sl.dat _, Sl.dat _, Sl.dat _] _
  obtain ⟨d, lo, hi⟩ := a
  have hn : Num d := ha
  show EvS _ _ [Sl.dat d, .dat (.int lo), .dat (.int hi)] (toD (.bool (withinP d lo hi)))
  cases hn with
  | int i =>
    apply DL.s_ret
    · apply DL.d_and (a := fromP (.int i) lo) (b := decide (i ≤ hi))
      · exact c_is_from (d := .int i) (lo := lo) (DL.d_var rfl) (DL.d_var rfl) (.int i)
      · intro _
        exact DL.d_op (DL.d_var rfl) (DL.d_var rfl) DL.r_le
    · exact rfl
  | bool b =>
    apply DL.s_ret
    · apply DL.d_and (a := fromP (.bool b) lo) (b := false)
      · exact c_is_from (d := .bool b) (lo := lo) (DL.d_var rfl) (DL.d_var rfl) (.bool b)
      · intro h; cases h
    · exact rfl

abbrev s__check_weight : Stmt := topS 27
theorem sc__check_weight : FnScope ["weight"] ["weight"] (defScope s__check_weight) := ⟨rfl, rfl, rfl, by decide +kernel, rfl, by decide +kernel, by decide +kernel⟩
theorem ok__check_weight (At : DefAt K mg "_check_weight" "_check_weight" s__check_weight ["weight"]) (G_is_within : Fn1 P w K mg base 2 "is_within" ["number", "least", "most"] (sp_is_within K)) (mc_MOST_WEIGHT : ∃ t : Tok, mg "MOST_WEIGHT" = some (.int 1000 t)) (er_BadWeight : ErrC K mg "BadWeight") : FnX1 P w K mg base 3 "_check_weight" ["weight"] (sp__check_weight K mg) := by
  have nd := sc__check_weight.nd
  obtain ⟨_, mc_MOST_WEIGHT⟩ := mc_MOST_WEIGHT
  refine At.X sc__check_weight (fun _ => rfl) (fun f cdv A outer s H E hr => ⟨_, (pss_one (ps_if (pt_not (pt_truK (K := K) rfl (pe_fn G_is_within (hr.mono (by decide)) (by rfl) (pa_cons (pv 0) (pa_cons pe_int (pa_cons (pe_glob (v := .int 1000) (by rfl) mc_MOST_WEIGHT ⟨_, rfl⟩) pa_nil)))))) (pss_one (ps_rz (E := E) (mg := mg) rfl (takes_of rfl rfl rfl rfl) er_BadWeight rfl (by rfl) (pe_joined (PJ.cons pe_str (PJ.cons (pe_fmt (pe_glob (v := .int 1000) (by rfl) mc_MOST_WEIGHT ⟨_, rfl⟩)) PJ.nil))))) pss_nil)), fun a ha => ?_⟩)
  try dsimp only [cxOf]
  show EvS _ _ [Sl.dat _] _
  rename PyData => d
  have hn : Num d := ha
  apply DL.s_if
  · apply DL.t_not
    apply DL.t_bl
    apply c_is_within
    · walk_at "ev"
    · walk_at "ev"
    · walk_at "ev"
    · exact hn
  · intro hb
    have e : withinP d 1 1000 = false := by simpa using hb
    apply DL.s_rz
    · apply DL.q_joined
      · exact .cons DL.d_str (by decide) (.cons (DL.d_fmtI DL.d_int (by decide)) (by decide) .nil)
      · decide
    · refine ⟨"BadWeight", ?_, rfl⟩
      show resX (wgtDue d) .none = _
      unfold wgtDue
      rw [if_pos e]
      rfl
  · intro hb
    have e : ¬ withinP d 1 1000 = false := by simpa using hb
    apply DL.s_next
    show resX (wgtDue d) .none = _
    unfold wgtDue
    rw [if_neg e]
    rfl

abbrev s__check_extras : Stmt := topS 26
theorem sc__check_extras : FnScope ["extras", "extra"] ["extras"] (defScope s__check_extras) := ⟨rfl, rfl, rfl, by decide +kernel, rfl, by decide +kernel, by decide +kernel⟩
theorem ok__check_extras (At : DefAt K mg "_check_extras" "_check_extras" s__check_extras ["extras"]) (G_is_within : Fn1 P w K mg base 2 "is_within" ["number", "least", "most"] (sp_is_within K)) (mc_MOST_EXTRAS : ∃ t : Tok, mg "MOST_EXTRAS" = some (.int 12 t)) (m_len : mg "len" = none) (er_TooMany : ErrC K mg "TooMany") (mc_MOST_EXTRA : ∃ t : Tok, mg "MOST_EXTRA" = some (.int 1000 t)) (er_BadExtra : ErrC K mg "BadExtra") : FnX1 P w K mg base 3 "_check_extras" ["extras"] (sp__check_extras K mg) := by
  have nd := sc__check_extras.nd
  obtain ⟨_, mc_MOST_EXTRAS⟩ := mc_MOST_EXTRAS
  obtain ⟨_, mc_MOST_EXTRA⟩ := mc_MOST_EXTRA
  refine At.X sc__check_extras (fun _ => rfl) (fun f cdv A outer s H E hr => ⟨_, (pss_cons (ps_if (pt_cmpR op_gt (pe_callB (c_len : CallR _ _ (DL.rLen K)) (by rfl) m_len PySem.boot_len (pa_cons (pv 0) pa_nil)) (pe_glob (v := .int 12) (by rfl) mc_MOST_EXTRAS ⟨_, rfl⟩) (nomark _)) (pss_one (ps_rz (E := E) (mg := mg) rfl (takes_of rfl rfl rfl rfl) er_TooMany rfl (by rfl) (pe_joined (PJ.cons pe_str (PJ.cons (pe_fmt (pe_glob (v := .int 12) (by rfl) mc_MOST_EXTRAS ⟨_, rfl⟩)) (PJ.cons pe_str PJ.nil)))))) pss_nil)
      (pss_one (ps_for (passes_of rfl) rfl (pi_U (pv 0)) (pg_name (i := 1) nd rfl (by first | exact Or.inl rfl | exact Or.inr rfl)) (pss_one (ps_if (pt_not (pt_truK (K := K) rfl (pe_fn G_is_within (hr.mono (by decide)) (by rfl) (pa_cons (pv 1) (pa_cons pe_int (pa_cons (pe_glob (v := .int 1000) (by rfl) mc_MOST_EXTRA ⟨_, rfl⟩) pa_nil)))))) (pss_one (ps_rz (E := E) (mg := mg) rfl (takes_of rfl rfl rfl rfl) er_BadExtra rfl (by rfl) (pe_joined (PJ.cons pe_str (PJ.cons (pe_fmt (pe_glob (v := .int 1000) (by rfl) mc_MOST_EXTRA ⟨_, rfl⟩)) PJ.nil))))) pss_nil))))), fun a ha => ?_⟩)
  try dsimp only [cxOf]
  show EvS _ _ [Sl.dat _, Sl.any] _
  obtain ⟨k, es⟩ := a
  obtain ⟨hn, hl⟩ := ha
  dsimp only at hn hl ⊢
  apply DL.s_ifRet (b := decide (12 < es.length))
  · apply DL.t_T
    apply DL.d_op
    · apply DL.d_len
      refine (DL.EvD.vk (k := k) (ds := es) ?_)
      walk_at "ev"
    · walk_at "ev"
    · rw [show decide (12 < es.length) = decide ((12 : Int) < (es.length : Nat)) from dec_gt 12 _]
      exact DL.r_gt
  · intro hb
    have e := of_decide_eq_true hb
    apply DL.s_rz
    · apply DL.q_joined
      · exact .cons DL.d_str (by decide) (.cons (DL.d_fmtI DL.d_int (by decide)) (by decide) (.cons DL.d_str (by decide) .nil))
      · decide
    · refine ⟨"TooMany", ?_, rfl⟩
      unfold extDue
      rw [if_pos e]
      rfl
  intro hb
  have e := of_decide_eq_false hb
  apply DL.s_for (I := fun i ρ => ∃ y, ρ = [Sl.dat (sqD k es), y] ∧ (es.take i).all (fun x => withinP x 0 1000) = true)
  · apply DL.i_seq (k := k)
    walk_at "ev"
  · exact ⟨_, rfl, rfl⟩
  · rintro i d ρ hd ⟨y, rfl, h0⟩
    refine ⟨_, DL.g_name, ?_⟩
    apply DL.s_if
    · apply DL.t_not
      apply DL.t_bl
      apply c_is_within
      · walk_at "ev"
      · walk_at "ev"
      · walk_at "ev"
      · exact hn d (List.mem_of_getElem? hd)
    · intro hb
      have e2 : withinP d 0 1000 = false := by simpa using hb
      apply DL.s_rz
      · apply DL.q_joined
        · exact .cons DL.d_str (by decide) (.cons (DL.d_fmtI DL.d_int (by decide)) (by decide) .nil)
        · decide
      · refine ⟨"BadExtra", ?_, rfl⟩
        unfold extDue
        rw [if_neg e, all_not hd e2]
        rfl
    · intro hb
      have e2 : withinP d 0 1000 = true := by simpa using hb
      apply DL.s_next
      exact ⟨_, rfl, all_take_step hd h0 e2⟩
  · rintro ρ ⟨y, rfl, h0⟩
    rw [List.take_length] at h0
    show resX (extDue es) .none = _
    unfold extDue
    rw [if_neg e, if_pos h0]
    rfl

abbrev s__check_task : Stmt := topS 25
theorem sc__check_task : FnScope ["task", "weight", "most", "cap", "tries", "points"] ["task"] (defScope s__check_task) := ⟨rfl, rfl, rfl, by decide +kernel, rfl, by decide +kernel, by decide +kernel⟩
theorem ok__check_task (At : DefAt K mg "_check_task" "_check_task" s__check_task ["task"]) (G__check_weight : FnX1 P w K mg base 3 "_check_weight" ["weight"] (sp__check_weight K mg)) (G_is_within : Fn1 P w K mg base 2 "is_within" ["number", "least", "most"] (sp_is_within K)) (mc_MOST_TRIES : ∃ t : Tok, mg "MOST_TRIES" = some (.int 12 t)) (mc_MOST_POINTS : ∃ t : Tok, mg "MOST_POINTS" = some (.int 1000000 t)) (er_BadMost : ErrC K mg "BadMost") (er_BadCap : ErrC K mg "BadCap") (m_len : mg "len" = none) (er_TooMany : ErrC K mg "TooMany") (er_BadMark : ErrC K mg "BadMark") : FnX1 P w K mg base 4 "_check_task" ["task"] (sp__check_task K mg) := by
  have nd := sc__check_task.nd
  obtain ⟨_, mc_MOST_TRIES⟩ := mc_MOST_TRIES
  obtain ⟨_, mc_MOST_POINTS⟩ := mc_MOST_POINTS
  refine At.X sc__check_task (fun _ => rfl) (fun f cdv A outer s H E hr => ⟨_, (pss_cons (ps_asg (pv 0) (pg_U (K := K) rfl rfl (pgs_cons (pg_name (i := 1) nd rfl (by first | exact Or.inl rfl | exact Or.inr rfl)) (pgs_cons (pg_name (i := 2) nd rfl (by first | exact Or.inl rfl | exact Or.inr rfl)) (pgs_cons (pg_name (i := 3) nd rfl (by first | exact Or.inl rfl | exact Or.inr rfl)) (pgs_cons (pg_name (i := 4) nd rfl (by first | exact Or.inl rfl | exact Or.inr rfl)) pgs_nil))))))
      (pss_cons (ps_expr (pe_fnX G__check_weight (hr.mono (by decide)) (by rfl) (passes_call (takes_of rfl rfl rfl rfl) (fun _ _ _ _ h => h)) (pa_cons (pv 1) pa_nil)))
      (pss_cons (ps_if (pt_not (pt_truK (K := K) rfl (pe_fn G_is_within (hr.mono (by decide)) (by rfl) (pa_cons (pv 2) (pa_cons pe_int (pa_cons (pe_glob (v := .int 1000000) (by rfl) mc_MOST_POINTS ⟨_, rfl⟩) pa_nil)))))) (pss_one (ps_rz (E := E) (mg := mg) rfl (takes_of rfl rfl rfl rfl) er_BadMost rfl (by rfl) (pe_joined (PJ.cons pe_str (PJ.cons (pe_fmt (pe_glob (v := .int 1000000) (by rfl) mc_MOST_POINTS ⟨_, rfl⟩)) PJ.nil))))) pss_nil)
      (pss_cons (ps_if (pt_not (pt_truK (K := K) rfl (pe_fn G_is_within (hr.mono (by decide)) (by rfl) (pa_cons (pv 3) (pa_cons pe_int (pa_cons (pv 2) pa_nil)))))) (pss_one (ps_rz (E := E) (mg := mg) rfl (takes_of rfl rfl rfl rfl) er_BadCap rfl (by rfl) (pe_joined (PJ.cons pe_str (PJ.cons (pe_fmt (pv 2)) PJ.nil))))) pss_nil)
      (pss_cons (ps_if (pt_cmpR op_gt (pe_callB (c_len : CallR _ _ (DL.rLen K)) (by rfl) m_len PySem.boot_len (pa_cons (pv 4) pa_nil)) (pe_glob (v := .int 12) (by rfl) mc_MOST_TRIES ⟨_, rfl⟩) (nomark _)) (pss_one (ps_rz (E := E) (mg := mg) rfl (takes_of rfl rfl rfl rfl) er_TooMany rfl (by rfl) (pe_joined (PJ.cons pe_str (PJ.cons (pe_fmt (pe_glob (v := .int 12) (by rfl) mc_MOST_TRIES ⟨_, rfl⟩)) (PJ.cons pe_str PJ.nil)))))) pss_nil)
      (pss_one (ps_for (passes_of rfl) rfl (pi_U (pv 4)) (pg_name (i := 5) nd rfl (by first | exact Or.inl rfl | exact Or.inr rfl)) (pss_one (ps_if (pt_not (pt_truK (K := K) rfl (pe_fn G_is_within (hr.mono (by decide)) (by rfl) (pa_cons (pv 5) (pa_cons pe_int (pa_cons (pv 2) pa_nil)))))) (pss_one (ps_rz (E := E) (mg := mg) rfl (takes_of rfl rfl rfl rfl) er_BadMark rfl (by rfl) (pe_joined (PJ.cons pe_str (PJ.cons (pe_fmt (pv 2)) PJ.nil))))) pss_nil))))))))), fun a ha => ?_⟩)
  try dsimp only [cxOf]
  show EvS _ _ [Sl.dat _, Sl.any, Sl.any, Sl.any, Sl.any, Sl.any] _
  obtain ⟨k, t⟩ := a
  have ok : t.Ok := ha
  dsimp only
  apply DL.s_seq (ρ1 := [Sl.dat (t.D k), Sl.dat t.w, Sl.dat t.most, Sl.dat t.cap, Sl.dat (sqD k t.tries), .any])
  · apply DL.s_asg (d := sqD k (t.L k))
    · walk_at "ev"
    · apply DL.g_U
      · rfl
      · exact DL.gs_cons DL.g_name (DL.gs_cons DL.g_name (DL.gs_cons DL.g_name (DL.gs_cons DL.g_name DL.gs_nil)))
    · exact rfl
  by_cases ew : withinP t.w 1 1000 = false
  · apply DL.s_cut (fun _ => False) _ (fun _ z => z.elim)
    apply DL.s_raise
    refine DL.x_callX (x := "BadWeight") t.w ?_ ok.w ?_ ⟨"BadWeight", ?_, rfl⟩
    · walk_at "ev"
    · unfold wgtDue
      rw [if_pos ew]
      rfl
    · unfold dueTask
      rw [if_pos ew]
      rfl
  apply DL.s_seq
  · apply DL.s_drop
    · refine DL.d_callX (d := .none) t.w ?_ ok.w ?_
      · walk_at "ev"
      · unfold wgtDue
        rw [if_neg ew]
        rfl
    · exact rfl
  apply DL.s_ifRet
  · apply DL.t_not
    apply DL.t_bl
    apply c_is_within
    · walk_at "ev"
    · walk_at "ev"
    · walk_at "ev"
    · exact ok.most
  · intro hb
    have e2 : withinP t.most 1 1000000 = false := by simpa using hb
    apply DL.s_rz
    · apply DL.q_joined
      · exact .cons DL.d_str (by decide) (.cons (DL.d_fmtI DL.d_int (by decide)) (by decide) .nil)
      · decide
    · refine ⟨"BadMost", ?_, rfl⟩
      unfold dueTask
      rw [if_neg ew, if_pos e2]
      rfl
  intro hb
  have e2 : withinP t.most 1 1000000 = true := by simpa using hb
  have n2 : ¬ withinP t.most 1 1000000 = false := by rw [e2]; decide
  obtain ⟨em, m0, m1⟩ := within_int e2
  have elog := log_small (i := intOf t.most) (by omega) m1
  rw [em]
  apply DL.s_ifRet
  · apply DL.t_not
    apply DL.t_bl
    apply c_is_within (hi := intOf t.most)
    · walk_at "ev"
    · walk_at "ev"
    · walk_at "ev"
    · exact ok.cap
  · intro hb
    have e3 : withinP t.cap 0 (intOf t.most) = false := by simpa using hb
    apply DL.s_rz
    · apply DL.q_joined
      · exact .cons DL.d_str (by decide) (.cons (DL.d_fmtI (DL.d_var rfl) elog) (Nat.le_trans (PyProof.Rows.int_text_len_1921 elog) (by decide)) .nil)
      · decide
    · refine ⟨"BadCap", ?_, rfl⟩
      unfold dueTask
      rw [if_neg ew, if_neg n2, if_pos e3]
      rfl
  intro hb
  have e3 : ¬ withinP t.cap 0 (intOf t.most) = false := by simpa using hb
  apply DL.s_ifRet (b := decide (12 < t.tries.length))
  · apply DL.t_T
    apply DL.d_op
    · apply DL.d_len
      refine (DL.EvD.vk (k := k) (ds := t.tries) ?_)
      walk_at "ev"
    · walk_at "ev"
    · rw [show decide (12 < t.tries.length) = decide ((12 : Int) < (t.tries.length : Nat)) from dec_gt 12 _]
      exact DL.r_gt
  · intro hb
    have e4 := of_decide_eq_true hb
    apply DL.s_rz
    · apply DL.q_joined
      · exact .cons DL.d_str (by decide) (.cons (DL.d_fmtI DL.d_int (by decide)) (by decide) (.cons DL.d_str (by decide) .nil))
      · decide
    · refine ⟨"TooMany", ?_, rfl⟩
      unfold dueTask
      rw [if_neg ew, if_neg n2, if_neg e3, if_pos e4]
      rfl
  intro hb
  have e4 := of_decide_eq_false hb
  apply DL.s_for (I := fun i ρ => ∃ y, ρ = [Sl.dat (t.D k), Sl.dat t.w, Sl.dat (.int (intOf t.most)), Sl.dat t.cap, Sl.dat (sqD k t.tries), y] ∧ (t.tries.take i).all (fun x => withinP x 0 (intOf t.most)) = true)
  · apply DL.i_seq (k := k)
    walk_at "ev"
  · exact ⟨_, rfl, rfl⟩
  · rintro i d ρ hd ⟨y, rfl, h0⟩
    refine ⟨_, DL.g_name, ?_⟩
    apply DL.s_if
    · apply DL.t_not
      apply DL.t_bl
      apply c_is_within (hi := intOf t.most)
      · walk_at "ev"
      · walk_at "ev"
      · walk_at "ev"
      · exact ok.tries d (List.mem_of_getElem? hd)
    · intro hb
      have e5 : withinP d 0 (intOf t.most) = false := by simpa using hb
      apply DL.s_rz
      · apply DL.q_joined
        · exact .cons DL.d_str (by decide) (.cons (DL.d_fmtI (DL.d_var rfl) elog) (Nat.le_trans (PyProof.Rows.int_text_len_1921 elog) (by decide)) .nil)
        · decide
      · refine ⟨"BadMark", ?_, rfl⟩
        unfold dueTask
        rw [if_neg ew, if_neg n2, if_neg e3, if_neg e4, all_not hd e5]
        rfl
    · intro hb
      have e5 : withinP d 0 (intOf t.most) = true := by simpa using hb
      apply DL.s_next
      exact ⟨_, rfl, all_take_step hd h0 e5⟩
  · rintro ρ ⟨y, rfl, h0⟩
    rw [List.take_length] at h0
    show resX (dueTask t) .none = _
    unfold dueTask
    rw [if_neg ew, if_neg n2, if_neg e3, if_neg e4, if_pos h0]
    rfl

abbrev s__check_part : Stmt := topS 24
theorem sc__check_part : FnScope ["part", "weight", "worst", "top", "tasks", "extras", "task"] ["part"] (defScope s__check_part) := ⟨rfl, rfl, rfl, by decide +kernel, rfl, by decide +kernel, by decide +kernel⟩
theorem ok__check_part (At : DefAt K mg "_check_part" "_check_part" s__check_part ["part"]) (G__check_weight : FnX1 P w K mg base 3 "_check_weight" ["weight"] (sp__check_weight K mg)) (G__check_extras : FnX1 P w K mg base 3 "_check_extras" ["extras"] (sp__check_extras K mg)) (G_is_within : Fn1 P w K mg base 2 "is_within" ["number", "least", "most"] (sp_is_within K)) (G__check_task : FnX1 P w K mg base 4 "_check_task" ["task"] (sp__check_task K mg)) (mc_MOST_TASKS : ∃ t : Tok, mg "MOST_TASKS" = some (.int 8 t)) (mc_MOST_WORST : ∃ t : Tok, mg "MOST_WORST" = some (.int 3 t)) (er_BadWorst : ErrC K mg "BadWorst") (mc_MOST_TOP : ∃ t : Tok, mg "MOST_TOP" = some (.int 1000 t)) (er_BadTop : ErrC K mg "BadTop") (m_len : mg "len" = none) (er_TooMany : ErrC K mg "TooMany") : FnX1 P w K mg base 5 "_check_part" ["part"] (sp__check_part K mg) := by
  have nd := sc__check_part.nd
  obtain ⟨_, mc_MOST_TASKS⟩ := mc_MOST_TASKS
  obtain ⟨_, mc_MOST_WORST⟩ := mc_MOST_WORST
  obtain ⟨_, mc_MOST_TOP⟩ := mc_MOST_TOP
  refine At.X sc__check_part (fun _ => rfl) (fun f cdv A outer s H E hr => ⟨_, (pss_cons (ps_asg (pv 0) (pg_U (K := K) rfl rfl (pgs_cons (pg_name (i := 1) nd rfl (by first | exact Or.inl rfl | exact Or.inr rfl)) (pgs_cons (pg_name (i := 2) nd rfl (by first | exact Or.inl rfl | exact Or.inr rfl)) (pgs_cons (pg_name (i := 3) nd rfl (by first | exact Or.inl rfl | exact Or.inr rfl)) (pgs_cons (pg_name (i := 4) nd rfl (by first | exact Or.inl rfl | exact Or.inr rfl)) (pgs_cons (pg_name (i := 5) nd rfl (by first | exact Or.inl rfl | exact Or.inr rfl)) pgs_nil)))))))
      (pss_cons (ps_expr (pe_fnX G__check_weight (hr.mono (by decide)) (by rfl) (passes_call (takes_of rfl rfl rfl rfl) (fun _ _ _ _ h => h)) (pa_cons (pv 1) pa_nil)))
      (pss_cons (ps_if (pt_not (pt_truK (K := K) rfl (pe_fn G_is_within (hr.mono (by decide)) (by rfl) (pa_cons (pv 2) (pa_cons pe_int (pa_cons (pe_glob (v := .int 3) (by rfl) mc_MOST_WORST ⟨_, rfl⟩) pa_nil)))))) (pss_one (ps_rz (E := E) (mg := mg) rfl (takes_of rfl rfl rfl rfl) er_BadWorst rfl (by rfl) (pe_joined (PJ.cons pe_str (PJ.cons (pe_fmt (pe_glob (v := .int 3) (by rfl) mc_MOST_WORST ⟨_, rfl⟩)) PJ.nil))))) pss_nil)
      (pss_cons (ps_if (pt_not (pt_truK (K := K) rfl (pe_fn G_is_within (hr.mono (by decide)) (by rfl) (pa_cons (pv 3) (pa_cons pe_int (pa_cons (pe_glob (v := .int 1000) (by rfl) mc_MOST_TOP ⟨_, rfl⟩) pa_nil)))))) (pss_one (ps_rz (E := E) (mg := mg) rfl (takes_of rfl rfl rfl rfl) er_BadTop rfl (by rfl) (pe_joined (PJ.cons pe_str (PJ.cons (pe_fmt (pe_glob (v := .int 1000) (by rfl) mc_MOST_TOP ⟨_, rfl⟩)) PJ.nil))))) pss_nil)
      (pss_cons (ps_if (pt_cmpR op_gt (pe_callB (c_len : CallR _ _ (DL.rLen K)) (by rfl) m_len PySem.boot_len (pa_cons (pv 4) pa_nil)) (pe_glob (v := .int 8) (by rfl) mc_MOST_TASKS ⟨_, rfl⟩) (nomark _)) (pss_one (ps_rz (E := E) (mg := mg) rfl (takes_of rfl rfl rfl rfl) er_TooMany rfl (by rfl) (pe_joined (PJ.cons pe_str (PJ.cons (pe_fmt (pe_glob (v := .int 8) (by rfl) mc_MOST_TASKS ⟨_, rfl⟩)) (PJ.cons pe_str PJ.nil)))))) pss_nil)
      (pss_cons (ps_for (passes_of rfl) rfl (pi_U (pv 4)) (pg_name (i := 6) nd rfl (by first | exact Or.inl rfl | exact Or.inr rfl)) (pss_one (ps_expr (pe_fnX G__check_task (hr.mono (by decide)) (by rfl) (passes_call (takes_of rfl rfl rfl rfl) (fun _ _ _ _ h => h)) (pa_cons (pv 6) pa_nil)))))
      (pss_one (ps_expr (pe_fnX G__check_extras (hr.mono (by decide)) (by rfl) (passes_call (takes_of rfl rfl rfl rfl) (fun _ _ _ _ h => h)) (pa_cons (pv 5) pa_nil)))))))))), fun a ha => ?_⟩)
  try dsimp only [cxOf]
  show EvS _ _ [Sl.dat _, Sl.any, Sl.any, Sl.any, Sl.any, Sl.any, Sl.any] _
  obtain ⟨k, t⟩ := a
  have ok : t.Ok := ha
  dsimp only
  apply DL.s_seq (ρ1 := [Sl.dat (t.D k), Sl.dat t.w, Sl.dat t.worst, Sl.dat t.top, Sl.dat (sqD k (t.tasks.map (RTask.D k))), Sl.dat (sqD k t.extras), .any])
  · apply DL.s_asg (d := sqD k (t.L k))
    · walk_at "ev"
    · apply DL.g_U
      · rfl
      · exact DL.gs_cons DL.g_name (DL.gs_cons DL.g_name (DL.gs_cons DL.g_name (DL.gs_cons DL.g_name (DL.gs_cons DL.g_name DL.gs_nil))))
    · exact rfl
  by_cases ew : withinP t.w 1 1000 = false
  · apply DL.s_cut (fun _ => False) _ (fun _ z => z.elim)
    apply DL.s_raise
    refine DL.x_callX (x := "BadWeight") t.w ?_ ok.w ?_ ⟨"BadWeight", ?_, rfl⟩
    · walk_at "ev"
    · unfold wgtDue
      rw [if_pos ew]
      rfl
    · unfold duePart
      rw [if_pos ew]
      rfl
  apply DL.s_seq
  · apply DL.s_drop
    · refine DL.d_callX (d := .none) t.w ?_ ok.w ?_
      · walk_at "ev"
      · unfold wgtDue
        rw [if_neg ew]
        rfl
    · exact rfl
  apply DL.s_ifRet
  · apply DL.t_not
    apply DL.t_bl
    apply c_is_within
    · walk_at "ev"
    · walk_at "ev"
    · walk_at "ev"
    · exact ok.worst
  · intro hb
    have e2 : withinP t.worst 0 3 = false := by simpa using hb
    apply DL.s_rz
    · apply DL.q_joined
      · exact .cons DL.d_str (by decide) (.cons (DL.d_fmtI DL.d_int (by decide)) (by decide) .nil)
      · decide
    · refine ⟨"BadWorst", ?_, rfl⟩
      unfold duePart
      rw [if_neg ew, if_pos e2]
      rfl
  intro hb
  have n2 : ¬ withinP t.worst 0 3 = false := by simpa using hb
  apply DL.s_ifRet
  · apply DL.t_not
    apply DL.t_bl
    apply c_is_within
    · walk_at "ev"
    · walk_at "ev"
    · walk_at "ev"
    · exact ok.top
  · intro hb
    have e3 : withinP t.top 0 1000 = false := by simpa using hb
    apply DL.s_rz
    · apply DL.q_joined
      · exact .cons DL.d_str (by decide) (.cons (DL.d_fmtI DL.d_int (by decide)) (by decide) .nil)
      · decide
    · refine ⟨"BadTop", ?_, rfl⟩
      unfold duePart
      rw [if_neg ew, if_neg n2, if_pos e3]
      rfl
  intro hb
  have n3 : ¬ withinP t.top 0 1000 = false := by simpa using hb
  apply DL.s_ifRet (b := decide (8 < t.tasks.length))
  · apply DL.t_T
    apply DL.d_op
    · apply DL.d_len
      refine (DL.EvD.vk (k := k) (ds := t.tasks.map (RTask.D k)) ?_)
      walk_at "ev"
    · walk_at "ev"
    · rw [show decide (8 < t.tasks.length) = decide ((8 : Int) < ((t.tasks.map (RTask.D k)).length : Nat)) by rw [List.length_map]; exact dec_gt 8 _]
      exact DL.r_gt
  · intro hb
    have e4 := of_decide_eq_true hb
    apply DL.s_rz
    · apply DL.q_joined
      · exact .cons DL.d_str (by decide) (.cons (DL.d_fmtI DL.d_int (by decide)) (by decide) (.cons DL.d_str (by decide) .nil))
      · decide
    · refine ⟨"TooMany", ?_, rfl⟩
      unfold duePart
      rw [if_neg ew, if_neg n2, if_neg n3, if_pos e4]
      rfl
  intro hb
  have e4 := of_decide_eq_false hb
  apply DL.s_cut (fun ρ => ∃ y, ρ = [Sl.dat (t.D k), Sl.dat t.w, Sl.dat t.worst, Sl.dat t.top, Sl.dat (sqD k (t.tasks.map (RTask.D k))), Sl.dat (sqD k t.extras), y] ∧ firstNZ (t.tasks.map dueTask) = 0)
  · apply DL.s_for (I := fun i ρ => ∃ y, ρ = [Sl.dat (t.D k), Sl.dat t.w, Sl.dat t.worst, Sl.dat t.top, Sl.dat (sqD k (t.tasks.map (RTask.D k))), Sl.dat (sqD k t.extras), y] ∧ firstNZ ((t.tasks.map dueTask).take i) = 0)
    · apply DL.i_seq (k := k)
      walk_at "ev"
    · exact ⟨_, rfl, rfl⟩
    · rintro i d ρ hd ⟨y, rfl, h0⟩
      refine ⟨_, DL.g_name, ?_⟩
      obtain ⟨r, hr, rfl⟩ : ∃ r, t.tasks[i]? = some r ∧ RTask.D k r = d := by
        rw [List.getElem?_map] at hd
        cases q : t.tasks[i]? with
        | none => rw [q] at hd; cases hd
        | some r => rw [q] at hd; exact ⟨r, rfl, Option.some.inj hd⟩
      have hrok := ok.tasks r (List.mem_of_getElem? hr)
      have hm : (t.tasks.map dueTask)[i]? = some (dueTask r) := by rw [List.getElem?_map, hr]; rfl
      by_cases e0 : dueTask r = 0
      · apply DL.s_drop
        · refine DL.d_callX (d := .none) (k, r) ?_ hrok ?_
          · walk_at "ev"
          · show resX (dueTask r) .none = _
            rw [e0]
            rfl
        · refine ⟨_, rfl, firstNZ_step ?_ h0⟩
          rw [hm, e0]
      · apply DL.s_raise
        refine DL.x_callX (x := errName (dueTask r)) (k, r) ?_ hrok ?_ ⟨errName (dueTask r), ?_, rfl⟩
        · walk_at "ev"
        · exact resX_e _ e0
        · have q := firstNZ_mid _ _ _ hm h0 e0
          show resX (duePart t) .none = _
          have q2 : duePart t = dueTask r := by
            unfold duePart
            rw [if_neg ew, if_neg n2, if_neg n3, if_neg e4, q, if_pos e0]
          rw [q2]
          exact resX_e _ e0
    · rintro ρ ⟨y, rfl, h0⟩
      rw [List.take_of_length_le (by rw [List.length_map, List.length_map]; exact Nat.le_refl _)] at h0
      exact ⟨y, rfl, h0⟩
  rintro ρ ⟨y, rfl, h0⟩
  have n5 : ¬ firstNZ (t.tasks.map dueTask) ≠ 0 := fun z => z h0
  by_cases ex : extDue t.extras = 0
  · apply DL.s_drop
    · refine DL.d_callX (d := .none) (k, t.extras) ?_ ⟨ok.extras, ok.el⟩ ?_
      · walk_at "ev"
      · show resX (extDue t.extras) .none = _
        rw [ex]
        rfl
    · show resX (duePart t) .none = _
      have q2 : duePart t = extDue t.extras := by
        unfold duePart
        rw [if_neg ew, if_neg n2, if_neg n3, if_neg e4, if_neg n5]
        rfl
      rw [q2, ex]
      rfl
  · apply DL.s_raise
    refine DL.x_callX (x := errName (extDue t.extras)) (k, t.extras) ?_ ⟨ok.extras, ok.el⟩ ?_ ⟨errName (extDue t.extras), ?_, rfl⟩
    · walk_at "ev"
    · exact resX_e _ ex
    · have q2 : duePart t = extDue t.extras := by
        unfold duePart
        rw [if_neg ew, if_neg n2, if_neg n3, if_neg e4, if_neg n5]
        rfl
      rw [q2]
      exact resX_e _ ex

abbrev s_checked : Stmt := topS 23
theorem sc_checked : FnScope ["course", "part"] ["course"] (defScope s_checked) := ⟨rfl, rfl, rfl, by decide +kernel, rfl, by decide +kernel, by decide +kernel⟩
theorem ok_checked (At : DefAt K mg "checked" "checked" s_checked ["course"]) (G__check_part : FnX1 P w K mg base 5 "_check_part" ["part"] (sp__check_part K mg)) (mc_MOST_PARTS : ∃ t : Tok, mg "MOST_PARTS" = some (.int 6 t)) (m_len : mg "len" = none) (er_TooMany : ErrC K mg "TooMany") : FnX1 P w K mg base 6 "checked" ["course"] (sp_checked K mg) := by
  have nd := sc_checked.nd
  obtain ⟨_, mc_MOST_PARTS⟩ := mc_MOST_PARTS
  refine At.X sc_checked (fun _ => rfl) (fun f cdv A outer s H E hr => ⟨_, (pss_cons (ps_if (pt_cmpR op_gt (pe_callB (c_len : CallR _ _ (DL.rLen K)) (by rfl) m_len PySem.boot_len (pa_cons (pv 0) pa_nil)) (pe_glob (v := .int 6) (by rfl) mc_MOST_PARTS ⟨_, rfl⟩) (nomark _)) (pss_one (ps_rz (E := E) (mg := mg) rfl (takes_of rfl rfl rfl rfl) er_TooMany rfl (by rfl) (pe_joined (PJ.cons pe_str (PJ.cons (pe_fmt (pe_glob (v := .int 6) (by rfl) mc_MOST_PARTS ⟨_, rfl⟩)) (PJ.cons pe_str PJ.nil)))))) pss_nil)
      (pss_cons (ps_for (passes_of rfl) rfl (pi_U (pv 0)) (pg_name (i := 1) nd rfl (by first | exact Or.inl rfl | exact Or.inr rfl)) (pss_one (ps_expr (pe_fnX G__check_part (hr.mono (by decide)) (by rfl) (passes_call (takes_of rfl rfl rfl rfl) (fun _ _ _ _ h => h)) (pa_cons (pv 1) pa_nil)))))
      (pss_one (ps_ret pe_bl)))), fun a ha => ?_⟩)
  try dsimp only [cxOf]
  show EvS _ _ [Sl.dat _, Sl.any] _
  obtain ⟨k, m, c⟩ := a
  obtain ⟨ok, hl⟩ := ha
  dsimp only at ok hl ⊢
  apply DL.s_ifRet (b := decide (6 < c.length))
  · apply DL.t_T
    apply DL.d_op
    · apply DL.d_len
      refine (DL.EvD.vk (k := k) (ds := c.map (RPart.D m)) ?_)
      walk_at "ev"
    · walk_at "ev"
    · rw [show decide (6 < c.length) = decide ((6 : Int) < ((c.map (RPart.D m)).length : Nat)) by rw [List.length_map]; exact dec_gt 6 _]
      exact DL.r_gt
  · intro hb
    have e4 := of_decide_eq_true hb
    apply DL.s_rz
    · apply DL.q_joined
      · exact .cons DL.d_str (by decide) (.cons (DL.d_fmtI DL.d_int (by decide)) (by decide) (.cons DL.d_str (by decide) .nil))
      · decide
    · refine ⟨"TooMany", ?_, rfl⟩
      unfold dueCourse
      rw [if_pos e4]
      rfl
  intro hb
  have e4 := of_decide_eq_false hb
  apply DL.s_cut (fun ρ => ∃ y, ρ = [Sl.dat (sqD k (c.map (RPart.D m))), y] ∧ firstNZ (c.map duePart) = 0)
  · apply DL.s_for (I := fun i ρ => ∃ y, ρ = [Sl.dat (sqD k (c.map (RPart.D m))), y] ∧ firstNZ ((c.map duePart).take i) = 0)
    · apply DL.i_seq (k := k)
      walk_at "ev"
    · exact ⟨_, rfl, rfl⟩
    · rintro i d ρ hd ⟨y, rfl, h0⟩
      refine ⟨_, DL.g_name, ?_⟩
      obtain ⟨r, hr, rfl⟩ : ∃ r, c[i]? = some r ∧ RPart.D m r = d := by
        rw [List.getElem?_map] at hd
        cases q : c[i]? with
        | none => rw [q] at hd; cases hd
        | some r => rw [q] at hd; exact ⟨r, rfl, Option.some.inj hd⟩
      have hrok := ok r (List.mem_of_getElem? hr)
      have hm : (c.map duePart)[i]? = some (duePart r) := by rw [List.getElem?_map, hr]; rfl
      by_cases e0 : duePart r = 0
      · apply DL.s_drop
        · refine DL.d_callX (d := .none) (m, r) ?_ hrok ?_
          · walk_at "ev"
          · show resX (duePart r) .none = _
            rw [e0]
            rfl
        · refine ⟨_, rfl, firstNZ_step ?_ h0⟩
          rw [hm, e0]
      · apply DL.s_raise
        refine DL.x_callX (x := errName (duePart r)) (m, r) ?_ hrok ?_ ⟨errName (duePart r), ?_, rfl⟩
        · walk_at "ev"
        · exact resX_e _ e0
        · have q := firstNZ_mid _ _ _ hm h0 e0
          show resX (dueCourse c) _ = _
          have q2 : dueCourse c = duePart r := by
            unfold dueCourse
            rw [if_neg e4, q]
          rw [q2]
          exact resX_e _ e0
    · rintro ρ ⟨y, rfl, h0⟩
      rw [List.take_of_length_le (by rw [List.length_map, List.length_map]; exact Nat.le_refl _)] at h0
      exact ⟨y, rfl, h0⟩
  rintro ρ ⟨y, rfl, h0⟩
  apply DL.s_ret
  · walk_at "ev"
  · show resX (dueCourse c) (.bool true) = _
    unfold dueCourse
    rw [if_neg e4, h0]
    rfl

abbrev s_l_told : Stmt := topS 43
theorem sc_l_told : FnScope ["_law_course", "e", "_law_some"] ["_law_course"] (defScope s_l_told) := ⟨rfl, rfl, rfl, by decide +kernel, rfl, by decide +kernel, by decide +kernel⟩
theorem ok_l_told (At : DefAt K mg "_law_told" "_law_told" s_l_told ["_law_course"]) (G_checked : FnX1 P w K mg base 6 "checked" ["course"] (sp_checked K mg)) {C_GradeError : Addr} (g_GradeError : mg "GradeError" = some (.ref C_GradeError)) (m_int : mg "int" = none) (m_isinstance : mg "isinstance" = none) {C_TooMany : Addr} (g_TooMany : mg "TooMany" = some (.ref C_TooMany)) {C_BadWeight : Addr} (g_BadWeight : mg "BadWeight" = some (.ref C_BadWeight)) {C_BadWorst : Addr} (g_BadWorst : mg "BadWorst" = some (.ref C_BadWorst)) {C_BadTop : Addr} (g_BadTop : mg "BadTop" = some (.ref C_BadTop)) {C_BadMost : Addr} (g_BadMost : mg "BadMost" = some (.ref C_BadMost)) {C_BadCap : Addr} (g_BadCap : mg "BadCap" = some (.ref C_BadCap)) {C_BadMark : Addr} (g_BadMark : mg "BadMark" = some (.ref C_BadMark)) {C_BadExtra : Addr} (g_BadExtra : mg "BadExtra" = some (.ref C_BadExtra)) {C_BadPlace : Addr} (g_BadPlace : mg "BadPlace" = some (.ref C_BadPlace)) {C_BadWish : Addr} (g_BadWish : mg "BadWish" = some (.ref C_BadWish)) {C_BadStep : Addr} (g_BadStep : mg "BadStep" = some (.ref C_BadStep)) (m_ValueError : mg "ValueError" = none) (TF : ToldF K mg C_GradeError C_BadPlace C_BadWish C_BadStep) : Fn1 P w K mg base 7 "_law_told" ["_law_course"] (sp_l_told K) := by
  have nd := sc_l_told.nd
  refine At.D sc_l_told (fun _ => rfl) (fun f cdv A outer s H E hr => ⟨_, (pss_one (ps_tryA (K := K) rfl (i := 1) rfl rfl nd rfl rfl ⟨by rfl, by decide, .inl g_GradeError⟩ takes0 (fun W pn xe tk _ => (pss_one (ps_ret (pe_ix (ix_U : IxR _ (rIxU K)) (pe_lst (pa_cons pe_str (pa_cons pe_str pa_nil))) (pe_callTy c_int (by rfl) m_int (by decide +kernel) (pa_cons (pe_cmpR op_notU (pe_fnS G_checked (hr.mono (by decide)) (by rfl) (fun σ => passAt tk σ) (pa_cons (pv 0) pa_nil)) pe_bl (nomark _)) pa_nil)) (fun _ _ => rfl))))) (fun a oe cls d pn hz hf => (pss_cons (ps_asg (pe_lst (pa_cons (pe_callB (call_isV (K := K) rfl hz hf) (by rfl) m_isinstance (by decide +kernel) (pa_cons (pv 1) (pa_cons (pe_glob (v := .ref C_TooMany) (by rfl) g_TooMany rfl) pa_nil))) (pa_cons (pe_callB (call_isV (K := K) rfl hz hf) (by rfl) m_isinstance (by decide +kernel) (pa_cons (pv 1) (pa_cons (pe_glob (v := .ref C_BadWeight) (by rfl) g_BadWeight rfl) pa_nil))) (pa_cons (pe_callB (call_isV (K := K) rfl hz hf) (by rfl) m_isinstance (by decide +kernel) (pa_cons (pv 1) (pa_cons (pe_glob (v := .ref C_BadWorst) (by rfl) g_BadWorst rfl) pa_nil))) (pa_cons (pe_callB (call_isV (K := K) rfl hz hf) (by rfl) m_isinstance (by decide +kernel) (pa_cons (pv 1) (pa_cons (pe_glob (v := .ref C_BadTop) (by rfl) g_BadTop rfl) pa_nil))) pa_nil))))) (pg_name (i := 2) nd rfl (by first | exact Or.inl rfl | exact Or.inr rfl)))
      (pss_cons (ps_asg (pe_op (op_addU : OpR _ _ (rAddU K)) (pv 2) (pe_lst (pa_cons (pe_callB (call_isV (K := K) rfl hz hf) (by rfl) m_isinstance (by decide +kernel) (pa_cons (pv 1) (pa_cons (pe_glob (v := .ref C_BadMost) (by rfl) g_BadMost rfl) pa_nil))) (pa_cons (pe_callB (call_isV (K := K) rfl hz hf) (by rfl) m_isinstance (by decide +kernel) (pa_cons (pv 1) (pa_cons (pe_glob (v := .ref C_BadCap) (by rfl) g_BadCap rfl) pa_nil))) (pa_cons (pe_callB (call_isV (K := K) rfl hz hf) (by rfl) m_isinstance (by decide +kernel) (pa_cons (pv 1) (pa_cons (pe_glob (v := .ref C_BadMark) (by rfl) g_BadMark rfl) pa_nil))) (pa_cons (pe_callB (call_isV (K := K) rfl hz hf) (by rfl) m_isinstance (by decide +kernel) (pa_cons (pv 1) (pa_cons (pe_glob (v := .ref C_BadExtra) (by rfl) g_BadExtra rfl) pa_nil))) pa_nil)))))) (pg_name (i := 2) nd rfl (by first | exact Or.inl rfl | exact Or.inr rfl)))
      (pss_cons (ps_if (PW.pt (pw_or (pt_truK (K := K) rfl (pe_callB (call_isVT (K := K) rfl hz hf) (by rfl) m_isinstance (by decide +kernel) (pa_cons (pv 1) (pa_cons (pe_tup (pa_cons (pe_glob (v := .ref C_BadPlace) (by rfl) g_BadPlace rfl) (pa_cons (pe_glob (v := .ref C_BadWish) (by rfl) g_BadWish rfl) (pa_cons (pe_glob (v := .ref C_BadStep) (by rfl) g_BadStep rfl) pa_nil)))) pa_nil)))) (pw_or (pt_not (pt_truK (K := K) rfl (pe_callB (call_isV (K := K) rfl hz hf) (by rfl) m_isinstance (by decide +kernel) (pa_cons (pv 1) (pa_cons (pe_bltn (v := .ty "ValueError") (u := .type "ValueError") (by rfl) m_ValueError (by decide +kernel) rfl) pa_nil))))) (pw_or1 (pt_cmpR (op_neD hr.units : OpR _ _ (rNeD K)) (pe_bmK (K := K) rfl PySem.F.plainAttrs_list PySem.F.slot_list_count PySem.F.type_list_count (mt_cnt : MtR _ _ (rCnt K)) (pv 2) (pa_cons pe_bl pa_nil)) pe_int (nomark _)))))) (pss_one (ps_ret pe_str)) pss_nil)
      (pss_one (ps_ret (pe_ix (ix_U : IxR _ (rIxU K)) (pe_lst (pa_cons pe_str (pa_cons pe_str (pa_cons pe_str (pa_cons pe_str (pa_cons pe_str (pa_cons pe_str (pa_cons pe_str (pa_cons pe_str pa_nil))))))))) (pe_bmK (K := K) rfl PySem.F.plainAttrs_list PySem.F.slot_list_index PySem.F.type_list_index (mt_index : MtR _ _ (rIndex K)) (pv 2) (pa_cons pe_bl pa_nil)) (fun _ _ => rfl)))))))))), fun a ha => ?_⟩)
  try dsimp only [cxOf]
  show EvS (Z0 K) _ [Sl.dat _, Sl.any, Sl.any] _
  obtain ⟨k, m, c⟩ := a
  obtain ⟨ok, hl⟩ := ha
  dsimp only at ok hl ⊢
  by_cases e0 : dueCourse c = 0
  · apply DL.s_tryOk
    intro W
    apply DL.s_ret
    · apply DL.d_ix (k := true) (i := 0) (ds := [.str "good", .str "no truth"])
      · walk_at "ev"
      · refine DL.EvD.is (DL.d_intB (b := !decide (true = true)) ?_) rfl
        apply DL.d_op
        · exact DL.d_callXS (k, m, c) (by walk_at "ev") ⟨ok, hl⟩ (by show resX (dueCourse c) (.bool true) = _; rw [e0]; rfl)
        · walk_at "ev"
        · exact DL.r_notB
      · decide
      · rfl
    · show _ = PyData.str (dueName (dueCourse c))
      rw [e0]
      rfl
  have e8 := due_le c
  generalize hn : dueCourse c = n at e0 e8
  have n1 : 1 ≤ n := by omega
  obtain ⟨D, gD, ecD, exD, kvD, kaD⟩ := TF.cl n n1 e8
  have hk : ∀ m C, 1 ≤ m → m ≤ 8 → mg (errName m) = some (.ref C) → PySem.W.kitOne K (.ref D) (.ref C) = some (decide (n = m)) := fun m C h1 h2 h3 => TF.kk n m D C n1 e8 h1 h2 gD h3
  obtain ⟨q1, q2, q3⟩ := bs8_all ⟨n, by omega⟩ e0
  dsimp only at q1 q2 q3
  apply DL.s_tryEx (c := .ref D)
  · apply DL.ys_ret
    apply DL.y_op2 (ds := [.str "good", .str "no truth"])
    · walk_at "ev"
    · apply DL.y_cb1
      apply DL.y_op1
      refine DL.y_call (x := errName n) (k, m, c) (by walk_at "ev") ⟨ok, hl⟩ ?_ ?_
      · show resX (dueCourse c) (.bool true) = _
        rw [hn]
        exact resX_e _ e0
      · unfold clsOf
        rw [gD]
        rfl
  · exact exD
  intro a
  apply DL.s_seq (ρ1 := [Sl.dat (sqD k (c.map (RPart.D m))), Sl.ref a, Sl.own (([decide (n = 1), decide (n = 2), decide (n = 3), decide (n = 4)] : List Bool).map PyData.bool)])
  · apply DL.s_asgL
    · apply DL.l_lst
      · exact DL.ea_cons (DL.d_isE rfl ecD (.own _) (hk 1 _ (by decide) (by decide) g_TooMany)) (DL.ea_cons (DL.d_isE rfl ecD (.own _) (hk 2 _ (by decide) (by decide) g_BadWeight)) (DL.ea_cons (DL.d_isE rfl ecD (.own _) (hk 3 _ (by decide) (by decide) g_BadWorst)) (DL.ea_cons (DL.d_isE rfl ecD (.own _) (hk 4 _ (by decide) (by decide) g_BadTop)) DL.ea_nil)))
      · show _ ≤ (100000 : Nat)
        simp only [List.length_cons, List.length_nil, List.length_map]
        omega
    · exact rfl
  apply DL.s_seq (ρ1 := [Sl.dat (sqD k (c.map (RPart.D m))), Sl.ref a, Sl.own ((bs8 n).map PyData.bool)])
  · apply DL.s_asgL
    · apply DL.l_cat
      · walk_at "ev"
      · apply DL.EvL.w
        apply DL.l_lst
        · exact DL.ea_cons (DL.d_isE rfl ecD (.own _) (hk 5 _ (by decide) (by decide) g_BadMost)) (DL.ea_cons (DL.d_isE rfl ecD (.own _) (hk 6 _ (by decide) (by decide) g_BadCap)) (DL.ea_cons (DL.d_isE rfl ecD (.own _) (hk 7 _ (by decide) (by decide) g_BadMark)) (DL.ea_cons (DL.d_isE rfl ecD (.own _) (hk 8 _ (by decide) (by decide) g_BadExtra)) DL.ea_nil)))
        · show _ ≤ (100000 : Nat)
          simp only [List.length_cons, List.length_nil, List.length_map]
          omega
      · show _ ≤ (100000 : Nat)
        simp only [List.length_cons, List.length_nil, List.length_map]
        omega
    · exact rfl
  apply DL.s_ifRet (b := false)
  · refine DL.EvT.is (DL.t_or (a := false) (b := false || false) (DL.t_bl (DL.d_isE3 rfl ecD kaD)) fun _ => DL.t_or (a := !true) (b := false) (DL.t_not (DL.t_bl (DL.d_isE rfl ecD (.ty _) kvD))) fun _ => ?_) rfl
    refine DL.EvT.is (b := !decide ((1 : Int) = 1)) ?_ rfl
    apply DL.t_T
    apply DL.d_op
    · refine DL.d_cntB (bs := bs8 n) ?_
      walk_at "ev"
    · walk_at "ev"
    · rw [q1]
      exact DL.r_neI
  · intro h; cases h
  intro _
  apply DL.s_ret (d := .str (dueName n))
  · apply DL.d_ix (k := true) (i := ((n - 1 : Nat) : Int)) (ds := dn8)
    · walk_at "ev"
    · rw [← q2]
      refine DL.d_idxB (bs := bs8 n) ?_ q3
      walk_at "ev"
    · omega
    · rw [Int.toNat_natCast]
      exact dn8_all n n1 e8
  · exact rfl

abbrev s_l_within : Stmt := topS 36
theorem sc_l_within : FnScope ["_law_thing", "_law_low", "_law_high"] ["_law_thing", "_law_low", "_law_high"] (defScope s_l_within) := ⟨rfl, rfl, rfl, by decide +kernel, rfl, by decide +kernel, by decide +kernel⟩
theorem ok_l_within (At : DefAt K mg "_law_within" "_law_within" s_l_within ["_law_thing", "_law_low", "_law_high"]) (m_isinstance : mg "isinstance" = none) (m_int : mg "int" = none) (m_bool : mg "bool" = none) : Fn1 P w K mg base 1 "_law_within" ["_law_thing", "_law_low", "_law_high"] (sp_l_within K) := by
  have nd := sc_l_within.nd
  refine At.D sc_l_within (fun _ => rfl) (fun f cdv A outer s H E hr => ⟨_, (pss_one (ps_ret (pe_and (pe_callB (call_isi : CallR _ _ (rIsi K)) (by rfl) m_isinstance (by decide +kernel) (pa_cons (pv 0) (pa_cons (pe_bltn (v := .ty "int") (u := .type "int") (by rfl) m_int (by decide +kernel) rfl) pa_nil))) (pe_and (pe_not (pe_callB (call_isi : CallR _ _ (rIsi K)) (by rfl) m_isinstance (by decide +kernel) (pa_cons (pv 0) (pa_cons (pe_bltn (v := .ty "bool") (u := .type "bool") (by rfl) m_bool (by decide +kernel) rfl) pa_nil)))) (pe_one (pe_chain op_le op_le (pv 1) (pv 0) (pv 2))))))), fun a ha => ?_⟩)
  try dsimp only [cxOf]
  show EvS (Z0 K) _ [Sl.dat _, Sl.dat _, Sl.dat _] _
  obtain ⟨d, lo, hi⟩ := a
  cases (show Num d from ha) with
  | int i =>
    apply DL.s_ret
    · walk_at "ev"
    · exact rfl
  | bool b =>
    apply DL.s_ret
    · exact DL.d_and (b := false) (by walk_at "ev") fun _ => DL.d_and (a := !true) (b := false) (by walk_at "ev") fun h => by cases h
    · exact rfl

abbrev s_l_task_due : Stmt := topS 37
theorem sc_l_task_due : FnScope ["_law_task", "_law_points"] ["_law_task"] (defScope s_l_task_due) := ⟨rfl, rfl, rfl, by decide +kernel, rfl, by decide +kernel, by decide +kernel⟩
theorem ok_l_task_due (At : DefAt K mg "_law_task_due" "_law_task_due" s_l_task_due ["_law_task"]) (G_l_within : Fn1 P w K mg base 1 "_law_within" ["_law_thing", "_law_low", "_law_high"] (sp_l_within K)) (m_len : mg "len" = none) : Fn1 P w K mg base 2 "_law_task_due" ["_law_task"] (sp_l_task_due K) := by
  have nd := sc_l_task_due.nd
  refine At.D sc_l_task_due (fun _ => rfl) (fun f cdv A outer s H E hr => ⟨_, (pss_cons (ps_if (pt_not (pt_truK (K := K) rfl (pe_fn G_l_within (hr.mono (by decide)) (by rfl) (pa_cons (pe_ix (ix_U : IxR _ (rIxU K)) (pv 0) pe_int (fun _ _ => rfl)) (pa_cons pe_int (pa_cons pe_int pa_nil)))))) (pss_one (ps_ret pe_str)) pss_nil)
      (pss_cons (ps_if (pt_not (pt_truK (K := K) rfl (pe_fn G_l_within (hr.mono (by decide)) (by rfl) (pa_cons (pe_ix (ix_U : IxR _ (rIxU K)) (pv 0) pe_int (fun _ _ => rfl)) (pa_cons pe_int (pa_cons pe_int pa_nil)))))) (pss_one (ps_ret pe_str)) pss_nil)
      (pss_cons (ps_if (pt_not (pt_truK (K := K) rfl (pe_fn G_l_within (hr.mono (by decide)) (by rfl) (pa_cons (pe_ix (ix_U : IxR _ (rIxU K)) (pv 0) pe_int (fun _ _ => rfl)) (pa_cons pe_int (pa_cons (pe_ix (ix_U : IxR _ (rIxU K)) (pv 0) pe_int (fun _ _ => rfl)) pa_nil)))))) (pss_one (ps_ret pe_str)) pss_nil)
      (pss_cons (ps_if (pt_cmpR op_gt (pe_callB (c_len : CallR _ _ (DL.rLen K)) (by rfl) m_len PySem.boot_len (pa_cons (pe_ix (ix_U : IxR _ (rIxU K)) (pv 0) pe_int (fun _ _ => rfl)) pa_nil)) pe_int (nomark _)) (pss_one (ps_ret pe_str)) pss_nil)
      (pss_cons (ps_for PassesOwn.never rfl (pi_U (pe_ix (ix_U : IxR _ (rIxU K)) (pv 0) pe_int (fun _ _ => rfl))) (pg_name (i := 1) nd rfl (by first | exact Or.inl rfl | exact Or.inr rfl)) (pss_one (ps_if (pt_not (pt_truK (K := K) rfl (pe_fn G_l_within (hr.mono (by decide)) (by rfl) (pa_cons (pv 1) (pa_cons pe_int (pa_cons (pe_ix (ix_U : IxR _ (rIxU K)) (pv 0) pe_int (fun _ _ => rfl)) pa_nil)))))) (pss_one (ps_ret pe_str)) pss_nil)))
      (pss_one (ps_ret pe_str))))))), fun a ha => ?_⟩)
  try dsimp only [cxOf]
  show EvS (Z0 K) _ [Sl.dat _, Sl.any] _
  rename RTask => t
  have ok : t.Ok := ha
  show EvS _ _ [Sl.dat (.tuple [t.w, t.most, t.cap, .tuple t.tries]), .any] _
  apply DL.s_ifRet (b := !withinP t.w 1 1000)
  · apply DL.t_not
    apply DL.t_bl
    apply c_l_within (d := t.w)
    · walk_at "ev"
    · walk_at "ev"
    · walk_at "ev"
    · exact ok.w
  · intro hb
    have e : withinP t.w 1 1000 = false := by simpa using hb
    apply DL.s_ret DL.d_str
    show _ = PyData.str (dueName (dueTask t))
    rw [show dueTask t = 2 by unfold dueTask; rw [if_pos e]]
    rfl
  intro hb
  have n1 : ¬ withinP t.w 1 1000 = false := by simpa using hb
  apply DL.s_ifRet (b := !withinP t.most 1 1000000)
  · apply DL.t_not
    apply DL.t_bl
    apply c_l_within (d := t.most)
    · walk_at "ev"
    · walk_at "ev"
    · walk_at "ev"
    · exact ok.most
  · intro hb
    have e : withinP t.most 1 1000000 = false := by simpa using hb
    apply DL.s_ret DL.d_str
    show _ = PyData.str (dueName (dueTask t))
    rw [show dueTask t = 5 by unfold dueTask; rw [if_neg n1, if_pos e]]
    rfl
  intro hb
  have e2 : withinP t.most 1 1000000 = true := by simpa using hb
  have n2 : ¬ withinP t.most 1 1000000 = false := by rw [e2]; decide
  obtain ⟨em, m0, m1⟩ := within_int e2
  rw [em]
  apply DL.s_ifRet (b := !withinP t.cap 0 (intOf t.most))
  · apply DL.t_not
    apply DL.t_bl
    apply c_l_within (d := t.cap) (hi := intOf t.most)
    · walk_at "ev"
    · walk_at "ev"
    · walk_at "ev"
    · exact ok.cap
  · intro hb
    have e : withinP t.cap 0 (intOf t.most) = false := by simpa using hb
    apply DL.s_ret DL.d_str
    show _ = PyData.str (dueName (dueTask t))
    rw [show dueTask t = 6 by unfold dueTask; rw [if_neg n1, if_neg n2, if_pos e]]
    rfl
  intro hb
  have n3 : ¬ withinP t.cap 0 (intOf t.most) = false := by simpa using hb
  apply DL.s_ifRet (b := decide (12 < t.tries.length))
  · apply DL.t_T
    apply DL.d_op
    · apply DL.d_len
      refine (DL.EvD.vk (k := false) (ds := t.tries) ?_)
      show EvD _ _ _ (.tuple t.tries)
      walk_at "ev"
    · walk_at "ev"
    · rw [show decide (12 < t.tries.length) = decide ((12 : Int) < (t.tries.length : Nat)) from dec_gt 12 _]
      exact DL.r_gt
  · intro hb
    have e := of_decide_eq_true hb
    apply DL.s_ret DL.d_str
    show _ = PyData.str (dueName (dueTask t))
    rw [show dueTask t = 1 by unfold dueTask; rw [if_neg n1, if_neg n2, if_neg n3, if_pos e]]
    rfl
  intro hb
  have n4 := of_decide_eq_false hb
  apply DL.s_cut (fun ρ => t.tries.all (fun x => withinP x 0 (intOf t.most)) = true)
  · apply DL.s_for (I := fun i ρ => ∃ y, ρ = [Sl.dat (.tuple [t.w, .int (intOf t.most), t.cap, .tuple t.tries]), y] ∧ (t.tries.take i).all (fun x => withinP x 0 (intOf t.most)) = true)
    · apply DL.i_seq (k := false) (ds := t.tries)
      show EvD _ _ _ (.tuple t.tries)
      walk_at "ev"
    · exact ⟨_, rfl, rfl⟩
    · rintro i d ρ hd ⟨y, rfl, h0⟩
      refine ⟨_, DL.g_name, ?_⟩
      apply DL.s_if (b := !withinP d 0 (intOf t.most))
      · apply DL.t_not
        apply DL.t_bl
        apply c_l_within (d := d) (hi := intOf t.most)
        · walk_at "ev"
        · walk_at "ev"
        · walk_at "ev"
        · exact ok.tries d (List.mem_of_getElem? hd)
      · intro hb
        have e : withinP d 0 (intOf t.most) = false := by simpa using hb
        apply DL.s_ret DL.d_str
        show _ = PyData.str (dueName (dueTask t))
        rw [show dueTask t = 7 by unfold dueTask; rw [if_neg n1, if_neg n2, if_neg n3, if_neg n4, all_not hd e]; rfl]
        rfl
      · intro hb
        have e5 : withinP d 0 (intOf t.most) = true := by simpa using hb
        apply DL.s_next
        exact ⟨_, rfl, all_take_step hd h0 e5⟩
    · rintro ρ ⟨y, rfl, h0⟩
      rw [List.take_length] at h0
      exact h0
  intro ρ h0
  apply DL.s_ret DL.d_str
  show _ = PyData.str (dueName (dueTask t))
  rw [show dueTask t = 0 by unfold dueTask; rw [if_neg n1, if_neg n2, if_neg n3, if_neg n4, if_pos h0]]
  rfl

abbrev s_l_part_due : Stmt := topS 38
theorem sc_l_part_due : FnScope ["_law_part", "_law_task", "_law_extra"] ["_law_part"] (defScope s_l_part_due) := ⟨rfl, rfl, rfl, by decide +kernel, rfl, by decide +kernel, by decide +kernel⟩
theorem ok_l_part_due (At : DefAt K mg "_law_part_due" "_law_part_due" s_l_part_due ["_law_part"]) (G_l_within : Fn1 P w K mg base 1 "_law_within" ["_law_thing", "_law_low", "_law_high"] (sp_l_within K)) (G_l_task_due : Fn1 P w K mg base 2 "_law_task_due" ["_law_task"] (sp_l_task_due K)) (m_len : mg "len" = none) : Fn1 P w K mg base 3 "_law_part_due" ["_law_part"] (sp_l_part_due K) := by
  have nd := sc_l_part_due.nd
  refine At.D sc_l_part_due (fun _ => rfl) (fun f cdv A outer s H E hr => ⟨_, (pss_cons (ps_if (pt_not (pt_truK (K := K) rfl (pe_fn G_l_within (hr.mono (by decide)) (by rfl) (pa_cons (pe_ix (ix_U : IxR _ (rIxU K)) (pv 0) pe_int (fun _ _ => rfl)) (pa_cons pe_int (pa_cons pe_int pa_nil)))))) (pss_one (ps_ret pe_str)) pss_nil)
      (pss_cons (ps_if (pt_not (pt_truK (K := K) rfl (pe_fn G_l_within (hr.mono (by decide)) (by rfl) (pa_cons (pe_ix (ix_U : IxR _ (rIxU K)) (pv 0) pe_int (fun _ _ => rfl)) (pa_cons pe_int (pa_cons pe_int pa_nil)))))) (pss_one (ps_ret pe_str)) pss_nil)
      (pss_cons (ps_if (pt_not (pt_truK (K := K) rfl (pe_fn G_l_within (hr.mono (by decide)) (by rfl) (pa_cons (pe_ix (ix_U : IxR _ (rIxU K)) (pv 0) pe_int (fun _ _ => rfl)) (pa_cons pe_int (pa_cons pe_int pa_nil)))))) (pss_one (ps_ret pe_str)) pss_nil)
      (pss_cons (ps_if (pt_cmpR op_gt (pe_callB (c_len : CallR _ _ (DL.rLen K)) (by rfl) m_len PySem.boot_len (pa_cons (pe_ix (ix_U : IxR _ (rIxU K)) (pv 0) pe_int (fun _ _ => rfl)) pa_nil)) pe_int (nomark _)) (pss_one (ps_ret pe_str)) pss_nil)
      (pss_cons (ps_for PassesOwn.never rfl (pi_U (pe_ix (ix_U : IxR _ (rIxU K)) (pv 0) pe_int (fun _ _ => rfl))) (pg_name (i := 1) nd rfl (by first | exact Or.inl rfl | exact Or.inr rfl)) (pss_one (ps_if (pt_cmpR (op_neD hr.units : OpR _ _ (rNeD K)) (pe_fn G_l_task_due (hr.mono (by decide)) (by rfl) (pa_cons (pv 1) pa_nil)) pe_str (nomark _)) (pss_one (ps_ret (pe_fn G_l_task_due (hr.mono (by decide)) (by rfl) (pa_cons (pv 1) pa_nil)))) pss_nil)))
      (pss_cons (ps_if (pt_cmpR op_gt (pe_callB (c_len : CallR _ _ (DL.rLen K)) (by rfl) m_len PySem.boot_len (pa_cons (pe_ix (ix_U : IxR _ (rIxU K)) (pv 0) pe_int (fun _ _ => rfl)) pa_nil)) pe_int (nomark _)) (pss_one (ps_ret pe_str)) pss_nil)
      (pss_cons (ps_for PassesOwn.never rfl (pi_U (pe_ix (ix_U : IxR _ (rIxU K)) (pv 0) pe_int (fun _ _ => rfl))) (pg_name (i := 2) nd rfl (by first | exact Or.inl rfl | exact Or.inr rfl)) (pss_one (ps_if (pt_not (pt_truK (K := K) rfl (pe_fn G_l_within (hr.mono (by decide)) (by rfl) (pa_cons (pv 2) (pa_cons pe_int (pa_cons pe_int pa_nil)))))) (pss_one (ps_ret pe_str)) pss_nil)))
      (pss_one (ps_ret pe_str))))))))), fun a ha => ?_⟩)
  try dsimp only [cxOf]
  show EvS (Z0 K) _ [Sl.dat _, Sl.any, Sl.any] _
  rename RPart => t
  have ok : t.Ok := ha
  show EvS _ _ [Sl.dat (.tuple [t.w, t.worst, t.top, .tuple (t.tasks.map (RTask.D false)), .tuple t.extras]), .any, .any] _
  apply DL.s_ifRet (b := !withinP t.w 1 1000)
  · apply DL.t_not
    apply DL.t_bl
    apply c_l_within (d := t.w)
    · walk_at "ev"
    · walk_at "ev"
    · walk_at "ev"
    · exact ok.w
  · intro hb
    have e : withinP t.w 1 1000 = false := by simpa using hb
    apply DL.s_ret DL.d_str
    show _ = PyData.str (dueName (duePart t))
    rw [show duePart t = 2 by unfold duePart; rw [if_pos e]]
    rfl
  intro hb
  have n1 : ¬ withinP t.w 1 1000 = false := by simpa using hb
  apply DL.s_ifRet (b := !withinP t.worst 0 3)
  · apply DL.t_not
    apply DL.t_bl
    apply c_l_within (d := t.worst)
    · walk_at "ev"
    · walk_at "ev"
    · walk_at "ev"
    · exact ok.worst
  · intro hb
    have e : withinP t.worst 0 3 = false := by simpa using hb
    apply DL.s_ret DL.d_str
    show _ = PyData.str (dueName (duePart t))
    rw [show duePart t = 3 by unfold duePart; rw [if_neg n1, if_pos e]]
    rfl
  intro hb
  have n2 : ¬ withinP t.worst 0 3 = false := by simpa using hb
  apply DL.s_ifRet (b := !withinP t.top 0 1000)
  · apply DL.t_not
    apply DL.t_bl
    apply c_l_within (d := t.top)
    · walk_at "ev"
    · walk_at "ev"
    · walk_at "ev"
    · exact ok.top
  · intro hb
    have e : withinP t.top 0 1000 = false := by simpa using hb
    apply DL.s_ret DL.d_str
    show _ = PyData.str (dueName (duePart t))
    rw [show duePart t = 4 by unfold duePart; rw [if_neg n1, if_neg n2, if_pos e]]
    rfl
  intro hb
  have n3 : ¬ withinP t.top 0 1000 = false := by simpa using hb
  apply DL.s_ifRet (b := decide (8 < t.tasks.length))
  · apply DL.t_T
    apply DL.d_op
    · apply DL.d_len
      refine (DL.EvD.vk (k := false) (ds := t.tasks.map (RTask.D false)) ?_)
      show EvD _ _ _ (.tuple (t.tasks.map (RTask.D false)))
      walk_at "ev"
    · walk_at "ev"
    · rw [show decide (8 < t.tasks.length) = decide ((8 : Int) < ((t.tasks.map (RTask.D false)).length : Nat)) by rw [List.length_map]; exact dec_gt 8 _]
      exact DL.r_gt
  · intro hb
    have e := of_decide_eq_true hb
    apply DL.s_ret DL.d_str
    show _ = PyData.str (dueName (duePart t))
    rw [show duePart t = 1 by unfold duePart; rw [if_neg n1, if_neg n2, if_neg n3, if_pos e]]
    rfl
  intro hb
  have n4 := of_decide_eq_false hb
  apply DL.s_cut (fun ρ => ∃ y, ρ = [Sl.dat (.tuple [t.w, t.worst, t.top, .tuple (t.tasks.map (RTask.D false)), .tuple t.extras]), y, .any] ∧ firstNZ (t.tasks.map dueTask) = 0)
  · apply DL.s_for (I := fun i ρ => ∃ y, ρ = [Sl.dat (.tuple [t.w, t.worst, t.top, .tuple (t.tasks.map (RTask.D false)), .tuple t.extras]), y, .any] ∧ firstNZ ((t.tasks.map dueTask).take i) = 0)
    · apply DL.i_seq (k := false) (ds := t.tasks.map (RTask.D false))
      show EvD _ _ _ (.tuple (t.tasks.map (RTask.D false)))
      walk_at "ev"
    · exact ⟨_, rfl, rfl⟩
    · rintro i d ρ hd ⟨y, rfl, h0⟩
      refine ⟨_, DL.g_name, ?_⟩
      obtain ⟨r, hr, rfl⟩ : ∃ r, t.tasks[i]? = some r ∧ RTask.D false r = d := by
        rw [List.getElem?_map] at hd
        cases q : t.tasks[i]? with
        | none => rw [q] at hd; cases hd
        | some r => rw [q] at hd; exact ⟨r, rfl, Option.some.inj hd⟩
      have hrok := ok.tasks r (List.mem_of_getElem? hr)
      have hm : (t.tasks.map dueTask)[i]? = some (dueTask r) := by rw [List.getElem?_map, hr]; rfl
      apply DL.s_if (b := !decide (dueTask r = 0))
      · apply DL.t_T
        apply DL.d_op
        · apply c_l_task_due (t := r)
          · walk_at "ev"
          · exact hrok
        · exact DL.d_str
        · rw [← due_good _ (dueTask_le r)]
          exact DL.r_neD (due_sh _ (by first | exact dueTask_le _ | exact duePart_le _)) good_sh
      · intro hb
        have e0 : dueTask r ≠ 0 := by simpa using hb
        apply DL.s_ret
        · apply c_l_task_due (t := r)
          · walk_at "ev"
          · exact hrok
        · have q := firstNZ_mid _ _ _ hm h0 e0
          show _ = PyData.str (dueName (duePart t))
          rw [show duePart t = dueTask r by unfold duePart; rw [if_neg n1, if_neg n2, if_neg n3, if_neg n4, q, if_pos e0]]
      · intro hb
        have e0 : dueTask r = 0 := by simpa using hb
        apply DL.s_next
        refine ⟨_, rfl, firstNZ_step ?_ h0⟩
        rw [hm, e0]
    · rintro ρ ⟨y, rfl, h0⟩
      rw [List.take_of_length_le (by rw [List.length_map, List.length_map]; exact Nat.le_refl _)] at h0
      exact ⟨y, rfl, h0⟩
  rintro ρ ⟨y, rfl, h0⟩
  have n5 : ¬ firstNZ (t.tasks.map dueTask) ≠ 0 := fun z => z h0
  apply DL.s_ifRet (b := decide (12 < t.extras.length))
  · apply DL.t_T
    apply DL.d_op
    · apply DL.d_len
      refine (DL.EvD.vk (k := false) (ds := t.extras) ?_)
      show EvD _ _ _ (.tuple t.extras)
      walk_at "ev"
    · walk_at "ev"
    · rw [show decide (12 < t.extras.length) = decide ((12 : Int) < (t.extras.length : Nat)) from dec_gt 12 _]
      exact DL.r_gt
  · intro hb
    have e := of_decide_eq_true hb
    apply DL.s_ret DL.d_str
    show _ = PyData.str (dueName (duePart t))
    rw [show duePart t = 1 by unfold duePart; rw [if_neg n1, if_neg n2, if_neg n3, if_neg n4, if_neg n5, if_pos e]]
    rfl
  intro hb
  have n6 := of_decide_eq_false hb
  apply DL.s_cut (fun ρ => t.extras.all (fun x => withinP x 0 1000) = true)
  · apply DL.s_for (I := fun i ρ => ∃ z, ρ = [Sl.dat (.tuple [t.w, t.worst, t.top, .tuple (t.tasks.map (RTask.D false)), .tuple t.extras]), y, z] ∧ (t.extras.take i).all (fun x => withinP x 0 1000) = true)
    · apply DL.i_seq (k := false) (ds := t.extras)
      show EvD _ _ _ (.tuple t.extras)
      walk_at "ev"
    · exact ⟨_, rfl, rfl⟩
    · rintro i d ρ hd ⟨z, rfl, h1⟩
      refine ⟨_, DL.g_name, ?_⟩
      apply DL.s_if (b := !withinP d 0 1000)
      · apply DL.t_not
        apply DL.t_bl
        apply c_l_within (d := d)
        · walk_at "ev"
        · walk_at "ev"
        · walk_at "ev"
        · exact ok.extras d (List.mem_of_getElem? hd)
      · intro hb
        have e : withinP d 0 1000 = false := by simpa using hb
        apply DL.s_ret DL.d_str
        show _ = PyData.str (dueName (duePart t))
        rw [show duePart t = 8 by unfold duePart; rw [if_neg n1, if_neg n2, if_neg n3, if_neg n4, if_neg n5, if_neg n6, all_not hd e]; rfl]
        rfl
      · intro hb
        have e5 : withinP d 0 1000 = true := by simpa using hb
        apply DL.s_next
        exact ⟨_, rfl, all_take_step hd h1 e5⟩
    · rintro ρ ⟨z, rfl, h1⟩
      rw [List.take_length] at h1
      exact h1
  intro ρ h1
  apply DL.s_ret DL.d_str
  show _ = PyData.str (dueName (duePart t))
  rw [show duePart t = 0 by unfold duePart; rw [if_neg n1, if_neg n2, if_neg n3, if_neg n4, if_neg n5, if_neg n6, if_pos h1]]
  rfl

abbrev s_l_due : Stmt := topS 39
theorem sc_l_due : FnScope ["_law_course", "_law_part"] ["_law_course"] (defScope s_l_due) := ⟨rfl, rfl, rfl, by decide +kernel, rfl, by decide +kernel, by decide +kernel⟩
theorem ok_l_due (At : DefAt K mg "_law_due" "_law_due" s_l_due ["_law_course"]) (G_l_part_due : Fn1 P w K mg base 3 "_law_part_due" ["_law_part"] (sp_l_part_due K)) (m_len : mg "len" = none) : Fn1 P w K mg base 4 "_law_due" ["_law_course"] (sp_l_due K) := by
  have nd := sc_l_due.nd
  refine At.D sc_l_due (fun _ => rfl) (fun f cdv A outer s H E hr => ⟨_, (pss_cons (ps_if (pt_cmpR op_gt (pe_callB (c_len : CallR _ _ (DL.rLen K)) (by rfl) m_len PySem.boot_len (pa_cons (pv 0) pa_nil)) pe_int (nomark _)) (pss_one (ps_ret pe_str)) pss_nil)
      (pss_cons (ps_for PassesOwn.never rfl (pi_U (pv 0)) (pg_name (i := 1) nd rfl (by first | exact Or.inl rfl | exact Or.inr rfl)) (pss_one (ps_if (pt_cmpR (op_neD hr.units : OpR _ _ (rNeD K)) (pe_fn G_l_part_due (hr.mono (by decide)) (by rfl) (pa_cons (pv 1) pa_nil)) pe_str (nomark _)) (pss_one (ps_ret (pe_fn G_l_part_due (hr.mono (by decide)) (by rfl) (pa_cons (pv 1) pa_nil)))) pss_nil)))
      (pss_one (ps_ret pe_str)))), fun a ha => ?_⟩)
  try dsimp only [cxOf]
  show EvS (Z0 K) _ [Sl.dat _, Sl.any] _
  rename List RPart => c
  obtain ⟨ok, hl⟩ := ha
  apply DL.s_ifRet (b := decide (6 < c.length))
  · apply DL.t_T
    apply DL.d_op
    · apply DL.d_len
      refine (DL.EvD.vk (k := true) (ds := c.map (RPart.D false)) ?_)
      show EvD _ _ _ (.list (c.map (RPart.D false)))
      walk_at "ev"
    · walk_at "ev"
    · rw [show decide (6 < c.length) = decide ((6 : Int) < ((c.map (RPart.D false)).length : Nat)) by rw [List.length_map]; exact dec_gt 6 _]
      exact DL.r_gt
  · intro hb
    have e := of_decide_eq_true hb
    apply DL.s_ret DL.d_str
    show _ = PyData.str (dueName (dueCourse c))
    rw [show dueCourse c = 1 by unfold dueCourse; rw [if_pos e]]
    rfl
  intro hb
  have n4 := of_decide_eq_false hb
  apply DL.s_cut (fun ρ => firstNZ (c.map duePart) = 0)
  · apply DL.s_for (I := fun i ρ => ∃ y, ρ = [Sl.dat (.list (c.map (RPart.D false))), y] ∧ firstNZ ((c.map duePart).take i) = 0)
    · apply DL.i_seq (k := true) (ds := c.map (RPart.D false))
      show EvD _ _ _ (.list (c.map (RPart.D false)))
      walk_at "ev"
    · exact ⟨_, rfl, rfl⟩
    · rintro i d ρ hd ⟨y, rfl, h0⟩
      refine ⟨_, DL.g_name, ?_⟩
      obtain ⟨r, hr, rfl⟩ : ∃ r, c[i]? = some r ∧ RPart.D false r = d := by
        rw [List.getElem?_map] at hd
        cases q : c[i]? with
        | none => rw [q] at hd; cases hd
        | some r => rw [q] at hd; exact ⟨r, rfl, Option.some.inj hd⟩
      have hrok := ok r (List.mem_of_getElem? hr)
      have hm : (c.map duePart)[i]? = some (duePart r) := by rw [List.getElem?_map, hr]; rfl
      apply DL.s_if (b := !decide (duePart r = 0))
      · apply DL.t_T
        apply DL.d_op
        · apply c_l_part_due (t := r)
          · walk_at "ev"
          · exact hrok
        · exact DL.d_str
        · rw [← due_good _ (duePart_le r)]
          exact DL.r_neD (due_sh _ (by first | exact dueTask_le _ | exact duePart_le _)) good_sh
      · intro hb
        have e0 : duePart r ≠ 0 := by simpa using hb
        apply DL.s_ret
        · apply c_l_part_due (t := r)
          · walk_at "ev"
          · exact hrok
        · have q := firstNZ_mid _ _ _ hm h0 e0
          show _ = PyData.str (dueName (dueCourse c))
          rw [show dueCourse c = duePart r by unfold dueCourse; rw [if_neg n4, q]]
      · intro hb
        have e0 : duePart r = 0 := by simpa using hb
        apply DL.s_next
        refine ⟨_, rfl, firstNZ_step ?_ h0⟩
        rw [hm, e0]
    · rintro ρ ⟨y, rfl, h0⟩
      rw [List.take_of_length_le (by rw [List.length_map, List.length_map]; exact Nat.le_refl _)] at h0
      exact h0
  intro ρ h0
  apply DL.s_ret DL.d_str
  show _ = PyData.str (dueName (dueCourse c))
  rw [show dueCourse c = 0 by unfold dueCourse; rw [if_neg n4, h0]]
  rfl

abbrev s_l_worse : Stmt := topS 40
theorem sc_l_worse : FnScope ["_law_number", "_law_cell", "_law_far", "_law_some"] ["_law_number", "_law_cell"] (defScope s_l_worse) := ⟨rfl, rfl, rfl, by decide +kernel, rfl, by decide +kernel, by decide +kernel⟩
theorem ok_l_worse (At : DefAt K mg "_law_worse" "_law_worse" s_l_worse ["_law_number", "_law_cell"]) : Fn1 P w K mg base 1 "_law_worse" ["_law_number", "_law_cell"] (sp_l_worse K) := by
  have nd := sc_l_worse.nd
  refine At.D sc_l_worse (fun _ => rfl) (fun f cdv A outer s H E hr => ⟨_, (pss_cons (ps_asg (pe_op (op_addX : OpR _ _ (rAddX K)) pe_int (pe_op op_mod (pe_op op_divU (pe_op (op_mulU : OpR _ _ (rMulU K)) (pe_op op_mod (pe_op op_divU (pv 1) pe_int) pe_int) (pv 1)) pe_int) (pe_op op_pow pe_int pe_int))) (pg_name (i := 2) nd rfl (by first | exact Or.inl rfl | exact Or.inr rfl)))
      (pss_cons (ps_asg (pe_lst (pa_cons pe_int (pa_cons pe_int (pa_cons (pe_un un_neg (pv 2)) (pa_cons (pe_op (op_addX : OpR _ _ (rAddX K)) pe_int (pv 2)) (pa_cons pe_int (pa_cons (pe_op (op_addX : OpR _ _ (rAddX K)) pe_int (pv 2)) (pa_cons (pe_op (op_addX : OpR _ _ (rAddX K)) (pe_op op_pow pe_int pe_int) (pv 2)) (pa_cons (pe_op op_pow pe_int pe_int) (pa_cons pe_bl (pa_cons pe_bl (pa_cons (pe_op (op_addX : OpR _ _ (rAddX K)) (pv 0) (pv 2)) (pa_cons (pe_op op_subX (pv 0) (pv 2)) pa_nil))))))))))))) (pg_name (i := 3) nd rfl (by first | exact Or.inl rfl | exact Or.inr rfl)))
      (pss_one (ps_ret (pe_ix (ix_U : IxR _ (rIxU K)) (pv 3) (pe_op op_mod (pv 1) pe_int) (fun _ _ => rfl)))))), fun a ha => ?_⟩)
  try dsimp only [cxOf]
  show EvS (Z0 K) _ [Sl.dat _, Sl.dat _, Sl.any, Sl.any] _
  obtain ⟨d, c⟩ := a
  have hn : Num d := ha
  apply DL.s_seq (ρ1 := [Sl.dat d, Sl.dat (.int c), Sl.dat (.int (farP c)), .any])
  · apply DL.s_asg (d := .int (farP c))
    · refine DL.EvD.is (DL.d_op DL.d_int (y := .int (c / 16 % 3 * c / 48 % (10 : Int) ^ (9 : Int).toNat)) (by walk_at "ev") DL.r_addXI) ?_
      rw [p9e]
      rfl
    · exact DL.g_name
    · exact rfl
  apply DL.s_seq (ρ1 := [Sl.dat d, Sl.dat (.int c), Sl.dat (.int (farP c)), .own (worseL d c)])
  · apply DL.s_asgL
    · refine DL.l_lst (ds := worseL d c) ?_ (by show 12 ≤ 100000; decide)
      have e6 : EvD (Z0 K) (tOp (rI CPow fun i j => .int (i ^ j.toNat)) (tC (.int 10)) (tC (.int 6))) [Sl.dat d, Sl.dat (.int c), Sl.dat (.int (farP c)), .any] (.int 1000000) := by
        refine DL.EvD.is (DL.d_op DL.d_int DL.d_int (DL.r_powI ⟨by decide, by decide, by decide⟩)) ?_
        rw [p6e]
      refine DL.ea_cons (by walk_at "ev") (DL.ea_cons (by walk_at "ev") (DL.ea_cons (by walk_at "ev") (DL.ea_cons (DL.d_op DL.d_int (by walk_at "ev") DL.r_addXI) (DL.ea_cons (by walk_at "ev") (DL.ea_cons (DL.d_op DL.d_int (by walk_at "ev") DL.r_addXI)
        (DL.ea_cons (DL.d_op e6 (by walk_at "ev") DL.r_addXI) (DL.ea_cons e6 (DL.ea_cons (by walk_at "ev") (DL.ea_cons (by walk_at "ev") (DL.ea_cons ?_ (DL.ea_cons ?_ DL.ea_nil)))))))))))
      · cases hn with
        | int i => exact DL.d_op (by walk_at "ev") (by walk_at "ev") DL.r_addXI
        | bool b => exact DL.d_op (by walk_at "ev") (by walk_at "ev") DL.r_addXB
      · cases hn with
        | int i => exact DL.d_op (by walk_at "ev") (by walk_at "ev") DL.r_subXI
        | bool b => exact DL.d_op (by walk_at "ev") (by walk_at "ev") DL.r_subXB
    · exact rfl
  apply DL.s_ret
  · apply DL.d_ix (k := true) (i := c % 12) (ds := worseL d c)
    · walk_at "ev"
    · walk_at "ev"
    · exact mod12 c
    · exact worse_get d c
  · exact rfl

abbrev s_l_task_changed : Stmt := topS 41
theorem sc_l_task_changed : FnScope ["_law_task", "_law_cell", "_law_at", "_law_rest", "_law_place", "_law_worse_here"] ["_law_task", "_law_cell"] (defScope s_l_task_changed) := ⟨rfl, rfl, rfl, by decide +kernel, rfl, by decide +kernel, by decide +kernel⟩
theorem ok_l_task_changed (At : DefAt K mg "_law_task_changed" "_law_task_changed" s_l_task_changed ["_law_task", "_law_cell"]) (G_l_worse : Fn1 P w K mg base 1 "_law_worse" ["_law_number", "_law_cell"] (sp_l_worse K)) (m_len : mg "len" = none) : Fn1 P w K mg base 2 "_law_task_changed" ["_law_task", "_law_cell"] (sp_l_task_changed K) := by
  have nd := sc_l_task_changed.nd
  refine At.D sc_l_task_changed (fun _ => rfl) (fun f cdv A outer s H E hr => ⟨_, (pss_cons (ps_asg (pe_op op_mod (pv 1) pe_int) (pg_name (i := 2) nd rfl (by first | exact Or.inl rfl | exact Or.inr rfl)))
      (pss_cons (ps_asg (pe_op op_divU (pv 1) pe_int) (pg_name (i := 3) nd rfl (by first | exact Or.inl rfl | exact Or.inr rfl)))
      (pss_cons (ps_if (PW.pt (pw_and (pt_cmpR (op_eqD hr.units : OpR _ _ (rEqD K)) (pv 2) pe_int (nomark _)) (pw_and1 (pt_cmpR op_gt (pe_callB (c_len : CallR _ _ (DL.rLen K)) (by rfl) m_len PySem.boot_len (pa_cons (pe_ix (ix_U : IxR _ (rIxU K)) (pv 0) pe_int (fun _ _ => rfl)) pa_nil)) pe_int (nomark _))))) (pss_cons (ps_asg (pe_op op_mod (pv 3) (pe_callB (c_len : CallR _ _ (DL.rLen K)) (by rfl) m_len PySem.boot_len (pa_cons (pe_ix (ix_U : IxR _ (rIxU K)) (pv 0) pe_int (fun _ _ => rfl)) pa_nil))) (pg_name (i := 4) nd rfl (by first | exact Or.inl rfl | exact Or.inr rfl)))
      (pss_cons (ps_asg (pe_fn G_l_worse (hr.mono (by decide)) (by rfl) (pa_cons (pe_ix (ix_U : IxR _ (rIxU K)) (pe_ix (ix_U : IxR _ (rIxU K)) (pv 0) pe_int (fun _ _ => rfl)) (pv 4) (fun _ _ => rfl)) (pa_cons (pe_op op_divU (pv 3) pe_int) pa_nil))) (pg_name (i := 5) nd rfl (by first | exact Or.inl rfl | exact Or.inr rfl)))
      (pss_one (ps_ret (pe_op (op_addU : OpR _ _ (rAddU K)) (pe_slice (sl_U : SlR _ (rSlU K)) (pv 0) po_none (po_some pe_int)) (pe_tup (pa_cons (pe_op (op_addU : OpR _ _ (rAddU K)) (pe_op (op_addU : OpR _ _ (rAddU K)) (pe_slice (sl_U : SlR _ (rSlU K)) (pe_ix (ix_U : IxR _ (rIxU K)) (pv 0) pe_int (fun _ _ => rfl)) po_none (po_some (pv 4))) (pe_tup (pa_cons (pv 5) pa_nil))) (pe_slice (sl_U : SlR _ (rSlU K)) (pe_ix (ix_U : IxR _ (rIxU K)) (pv 0) pe_int (fun _ _ => rfl)) (po_some (pe_op (op_addU : OpR _ _ (rAddU K)) (pv 4) pe_int)) po_none)) pa_nil))))))) pss_nil)
      (pss_cons (ps_if (pt_cmpR (op_eqD hr.units : OpR _ _ (rEqD K)) (pv 2) pe_int (nomark _)) (pss_one (ps_ret (pe_op (op_addU : OpR _ _ (rAddU K)) (pe_slice (sl_U : SlR _ (rSlU K)) (pv 0) po_none (po_some pe_int)) (pe_tup (pa_cons (pe_op (op_mulU : OpR _ _ (rMulU K)) (pe_tup (pa_cons pe_int pa_nil)) (pe_op (op_addU : OpR _ _ (rAddU K)) pe_int (pe_op op_mod (pv 3) pe_int))) pa_nil))))) pss_nil)
      (pss_one (ps_ret (pe_op (op_addU : OpR _ _ (rAddU K)) (pe_op (op_addU : OpR _ _ (rAddU K)) (pe_slice (sl_U : SlR _ (rSlU K)) (pv 0) po_none (po_some (pv 2))) (pe_tup (pa_cons (pe_fn G_l_worse (hr.mono (by decide)) (by rfl) (pa_cons (pe_ix (ix_U : IxR _ (rIxU K)) (pv 0) (pv 2) (fun _ _ => rfl)) (pa_cons (pv 3) pa_nil))) pa_nil))) (pe_slice (sl_U : SlR _ (rSlU K)) (pv 0) (po_some (pe_op (op_addU : OpR _ _ (rAddU K)) (pv 2) pe_int)) po_none)))))))), fun a ha => ?_⟩)
  try dsimp only [cxOf]
  show EvS (Z0 K) _ [Sl.dat _, Sl.dat _, Sl.any, Sl.any, Sl.any, Sl.any] _
  obtain ⟨t, c⟩ := a
  have ok : t.Ok := ha
  obtain ⟨w, most, cap, tries⟩ := t
  obtain ⟨ow, om, oc, ot, ol⟩ := ok
  dsimp only at ow om oc ot ol
  show EvS _ _ [Sl.dat (.tuple [w, most, cap, .tuple tries]), .dat (.int c), .any, .any, .any, .any] (toD ((taskCh ⟨w, most, cap, tries⟩ c).D false))
  apply DL.s_seq (ρ1 := [Sl.dat (.tuple [w, most, cap, .tuple tries]), .dat (.int c), .dat (.int (c % 4)), .any, .any, .any])
  · apply DL.s_asg
    · walk_at "ev"
    · exact DL.g_name
    · exact rfl
  apply DL.s_seq (ρ1 := [Sl.dat (.tuple [w, most, cap, .tuple tries]), .dat (.int c), .dat (.int (c % 4)), .dat (.int (c / 4)), .any, .any])
  · apply DL.s_asg
    · walk_at "ev"
    · exact DL.g_name
    · exact rfl
  have e0 : decide ((0 : Int) < (tries.length : Nat)) = decide (0 < tries.length) := by
    by_cases q : 0 < tries.length
    · rw [decide_eq_true q, decide_eq_true (by omega)]
    · rw [decide_eq_false q, decide_eq_false (by omega)]
  apply DL.s_ifRet (b := decide (c % 4 = 3) && decide (0 < tries.length))
  · rw [← e0]
    walk_at "ev"
  · intro hb
    obtain ⟨h1, h2⟩ := Bool.and_eq_true_iff.mp hb
    have h1 : c % 4 = 3 := of_decide_eq_true h1
    have h2 : 0 < tries.length := of_decide_eq_true h2
    obtain ⟨p, hp⟩ : ∃ p : Nat, c / 4 % (tries.length : Nat) = (p : Int) := ⟨(c / 4 % (tries.length : Nat)).toNat, by have := Int.emod_nonneg (c / 4) (show ((tries.length : Nat) : Int) ≠ 0 by omega); omega⟩
    have hpl : p < tries.length := by
      have := Int.emod_lt_of_pos (c / 4) (show (0 : Int) < ((tries.length : Nat) : Int) by omega)
      omega
    apply DL.s_seq (ρ1 := [Sl.dat (.tuple [w, most, cap, .tuple tries]), .dat (.int c), .dat (.int (c % 4)), .dat (.int (c / 4)), .dat (.int p), .any])
    · apply DL.s_asg (d := .int p)
      · rw [← hp]
        walk_at "ev"
      · exact DL.g_name
      · exact rfl
    apply DL.s_seq (ρ1 := [Sl.dat (.tuple [w, most, cap, .tuple tries]), .dat (.int c), .dat (.int (c % 4)), .dat (.int (c / 4)), .dat (.int p), .dat (worseP (tries.getD p .none) (c / 4 / 12))])
    · apply DL.s_asg
      · apply c_l_worse (d := tries.getD p .none) (c := c / 4 / 12)
        · apply DL.d_ix (k := false) (i := (p : Int)) (ds := tries)
          · refine (DL.EvD.vk (k := false) (ds := tries) ?_)
            show EvD _ _ _ (.tuple tries)
            walk_at "ev"
          · walk_at "ev"
          · omega
          · rw [Int.toNat_natCast]
            exact get_getD hpl
        · walk_at "ev"
        · exact ot _ (getD_mem hpl)
      · exact DL.g_name
      · exact rfl
    have hx1 := cut_lenT tries p
    have hx2 := cut_lenF tries p
    apply DL.s_ret (d := .tuple [w, most, cap, .tuple (tries.set p (worseP (tries.getD p .none) (c / 4 / 12)))])
    · rw [← cut_set hpl]
      refine DL.EvD.is (x := .tuple (DL.cutD [w, most, cap, .tuple tries] none (some 3) ++ [.tuple ((DL.cutD tries none (some (p : Int)) ++ [worseP (tries.getD p .none) (c / 4 / 12)]) ++ DL.cutD tries (some ((p : Int) + 1)) none)])) ?_ rfl
      walk_at "ev"
      all_goals (simp only [List.length_append, List.length_cons, List.length_nil]; first | omega | (show 3 + _ ≤ _; omega) | skip)
    · show _ = (taskCh ⟨w, most, cap, tries⟩ c).D false
      unfold taskCh
      dsimp only
      rw [if_pos h1, if_pos h2, hp, Int.toNat_natCast]
      rfl
  intro hb
  apply DL.s_ifRet (b := decide (c % 4 = 3))
  · walk_at "ev"
  · intro hb2
    have h1 : c % 4 = 3 := of_decide_eq_true hb2
    have h2 : ¬ 0 < tries.length := by
      intro z
      rw [decide_eq_true h1, decide_eq_true z] at hb
      cases hb
    apply DL.s_ret (d := .tuple [w, most, cap, .tuple (List.replicate (12 + c / 4 % 3).toNat (.int 0))])
    · refine DL.EvD.is (x := .tuple (DL.cutD [w, most, cap, .tuple tries] none (some 3) ++ [.tuple (List.replicate (12 + c / 4 % 3).toNat [PyData.int 0]).flatten])) ?_ (by rw [rep1]; rfl)
      walk_at "ev"
      all_goals first | omega | (intro z; cases z) | (show 3 + _ ≤ _; simp only [List.length_cons, List.length_nil]; omega) | skip
    · show _ = (taskCh ⟨w, most, cap, tries⟩ c).D false
      unfold taskCh
      dsimp only
      rw [if_pos h1, if_neg h2]
      rfl
  intro hb2
  have h1 : ¬ c % 4 = 3 := of_decide_eq_false hb2
  have h3 : c % 4 = 0 ∨ c % 4 = 1 ∨ c % 4 = 2 := by omega
  obtain ⟨i, x, hi, hx, hn, hc, e⟩ : ∃ (i : Nat) (x : PyData), i < 3 ∧ [w, most, cap, .tuple tries][i]? = some x ∧ Num x ∧ c % 4 = (i : Int) ∧ (taskCh ⟨w, most, cap, tries⟩ c).D false = .tuple ([w, most, cap, .tuple tries].set i (worseP x (c / 4))) := by
    rcases h3 with h | h | h
    · refine ⟨0, w, by decide, rfl, ow, h, ?_⟩
      unfold taskCh
      dsimp only
      rw [if_neg h1, if_pos h]
      rfl
    · refine ⟨1, most, by decide, rfl, om, h, ?_⟩
      unfold taskCh
      dsimp only
      rw [if_neg h1, if_neg (by omega), if_pos h]
      rfl
    · refine ⟨2, cap, by decide, rfl, oc, h, ?_⟩
      unfold taskCh
      dsimp only
      rw [if_neg h1, if_neg (by omega), if_neg (by omega)]
      rfl
  rw [e]
  rw [hc]
  apply DL.s_ret (d := .tuple ([w, most, cap, .tuple tries].set i (worseP x (c / 4))))
  · rw [← cut_set (p := i) (by show _ < 4; omega)]
    apply DL.d_op
    · apply DL.d_op
      · walk_at "ev"
      · apply DL.d_tup
        · apply DL.ea_cons
          · apply c_l_worse (d := x) (c := c / 4)
            · apply DL.d_ix (k := false) (i := (i : Int)) (ds := [w, most, cap, .tuple tries])
              · walk_at "ev"
              · walk_at "ev"
              · omega
              · rw [Int.toNat_natCast]
                exact hx
            · walk_at "ev"
            · exact hn
          · exact DL.ea_nil
        · show 1 ≤ 100000
          decide
      · refine DL.r_addT ?_
        have := cut_lenT [w, most, cap, .tuple tries] i
        simp only [List.length_cons, List.length_nil] at this ⊢
        omega
    · walk_at "ev"
    · refine DL.r_addT ?_
      have := cut_lenT [w, most, cap, .tuple tries] i
      have := cut_lenF [w, most, cap, .tuple tries] i
      simp only [List.length_append, List.length_cons, List.length_nil] at *
      omega
  · exact rfl

abbrev s_l_part_changed : Stmt := topS 42
theorem sc_l_part_changed : FnScope ["_law_part", "_law_cell", "_law_at", "_law_rest", "_law_place", "_law_task", "_law_worse_here"] ["_law_part", "_law_cell"] (defScope s_l_part_changed) := ⟨rfl, rfl, rfl, by decide +kernel, rfl, by decide +kernel, by decide +kernel⟩
theorem ok_l_part_changed (At : DefAt K mg "_law_part_changed" "_law_part_changed" s_l_part_changed ["_law_part", "_law_cell"]) (G_l_task_changed : Fn1 P w K mg base 2 "_law_task_changed" ["_law_task", "_law_cell"] (sp_l_task_changed K)) (G_l_worse : Fn1 P w K mg base 1 "_law_worse" ["_law_number", "_law_cell"] (sp_l_worse K)) (m_len : mg "len" = none) : Fn1 P w K mg base 3 "_law_part_changed" ["_law_part", "_law_cell"] (sp_l_part_changed K) := by
  have nd := sc_l_part_changed.nd
  refine At.D sc_l_part_changed (fun _ => rfl) (fun f cdv A outer s H E hr => ⟨_, (pss_cons (ps_asg (pe_op op_mod (pv 1) pe_int) (pg_name (i := 2) nd rfl (by first | exact Or.inl rfl | exact Or.inr rfl)))
      (pss_cons (ps_asg (pe_op op_divU (pv 1) pe_int) (pg_name (i := 3) nd rfl (by first | exact Or.inl rfl | exact Or.inr rfl)))
      (pss_cons (ps_if (pt_cmpR (op_eqD hr.units : OpR _ _ (rEqD K)) (pv 2) pe_int (nomark _)) (pss_one (ps_ret (pe_op (op_addU : OpR _ _ (rAddU K)) (pe_op (op_addU : OpR _ _ (rAddU K)) (pe_slice (sl_U : SlR _ (rSlU K)) (pv 0) po_none (po_some pe_int)) (pe_tup (pa_cons (pe_ix (ix_U : IxR _ (rIxU K)) (pe_lst (pa_cons (pe_un un_neg pe_int) (pa_cons pe_int (pa_cons pe_int (pa_cons pe_int (pa_cons pe_bl (pa_cons (pe_op (op_addU : OpR _ _ (rAddU K)) (pe_op op_pow pe_int pe_int) (pv 3)) pa_nil))))))) (pe_op op_mod (pv 3) pe_int) (fun _ _ => rfl)) pa_nil))) (pe_slice (sl_U : SlR _ (rSlU K)) (pv 0) (po_some pe_int) po_none)))) pss_nil)
      (pss_cons (ps_if (pt_cmpR op_lt (pv 2) pe_int (nomark _)) (pss_one (ps_ret (pe_op (op_addU : OpR _ _ (rAddU K)) (pe_op (op_addU : OpR _ _ (rAddU K)) (pe_slice (sl_U : SlR _ (rSlU K)) (pv 0) po_none (po_some (pv 2))) (pe_tup (pa_cons (pe_fn G_l_worse (hr.mono (by decide)) (by rfl) (pa_cons (pe_ix (ix_U : IxR _ (rIxU K)) (pv 0) (pv 2) (fun _ _ => rfl)) (pa_cons (pv 3) pa_nil))) pa_nil))) (pe_slice (sl_U : SlR _ (rSlU K)) (pv 0) (po_some (pe_op (op_addU : OpR _ _ (rAddU K)) (pv 2) pe_int)) po_none)))) pss_nil)
      (pss_cons (ps_if (PW.pt (pw_and (pt_cmpR op_lt (pv 2) pe_int (nomark _)) (pw_and1 (pt_cmpR op_gt (pe_callB (c_len : CallR _ _ (DL.rLen K)) (by rfl) m_len PySem.boot_len (pa_cons (pe_ix (ix_U : IxR _ (rIxU K)) (pv 0) pe_int (fun _ _ => rfl)) pa_nil)) pe_int (nomark _))))) (pss_cons (ps_asg (pe_op op_mod (pv 3) (pe_callB (c_len : CallR _ _ (DL.rLen K)) (by rfl) m_len PySem.boot_len (pa_cons (pe_ix (ix_U : IxR _ (rIxU K)) (pv 0) pe_int (fun _ _ => rfl)) pa_nil))) (pg_name (i := 4) nd rfl (by first | exact Or.inl rfl | exact Or.inr rfl)))
      (pss_cons (ps_asg (pe_fn G_l_task_changed (hr.mono (by decide)) (by rfl) (pa_cons (pe_ix (ix_U : IxR _ (rIxU K)) (pe_ix (ix_U : IxR _ (rIxU K)) (pv 0) pe_int (fun _ _ => rfl)) (pv 4) (fun _ _ => rfl)) (pa_cons (pe_op op_divU (pv 3) pe_int) pa_nil))) (pg_name (i := 5) nd rfl (by first | exact Or.inl rfl | exact Or.inr rfl)))
      (pss_one (ps_ret (pe_op (op_addU : OpR _ _ (rAddU K)) (pe_slice (sl_U : SlR _ (rSlU K)) (pv 0) po_none (po_some pe_int)) (pe_tup (pa_cons (pe_op (op_addU : OpR _ _ (rAddU K)) (pe_op (op_addU : OpR _ _ (rAddU K)) (pe_slice (sl_U : SlR _ (rSlU K)) (pe_ix (ix_U : IxR _ (rIxU K)) (pv 0) pe_int (fun _ _ => rfl)) po_none (po_some (pv 4))) (pe_tup (pa_cons (pv 5) pa_nil))) (pe_slice (sl_U : SlR _ (rSlU K)) (pe_ix (ix_U : IxR _ (rIxU K)) (pv 0) pe_int (fun _ _ => rfl)) (po_some (pe_op (op_addU : OpR _ _ (rAddU K)) (pv 4) pe_int)) po_none)) (pa_cons (pe_ix (ix_U : IxR _ (rIxU K)) (pv 0) pe_int (fun _ _ => rfl)) pa_nil)))))))) pss_nil)
      (pss_cons (ps_if (pt_cmpR op_gt (pe_callB (c_len : CallR _ _ (DL.rLen K)) (by rfl) m_len PySem.boot_len (pa_cons (pe_ix (ix_U : IxR _ (rIxU K)) (pv 0) pe_int (fun _ _ => rfl)) pa_nil)) pe_int (nomark _)) (pss_cons (ps_asg (pe_op op_mod (pv 3) (pe_callB (c_len : CallR _ _ (DL.rLen K)) (by rfl) m_len PySem.boot_len (pa_cons (pe_ix (ix_U : IxR _ (rIxU K)) (pv 0) pe_int (fun _ _ => rfl)) pa_nil))) (pg_name (i := 4) nd rfl (by first | exact Or.inl rfl | exact Or.inr rfl)))
      (pss_cons (ps_asg (pe_fn G_l_worse (hr.mono (by decide)) (by rfl) (pa_cons (pe_ix (ix_U : IxR _ (rIxU K)) (pe_ix (ix_U : IxR _ (rIxU K)) (pv 0) pe_int (fun _ _ => rfl)) (pv 4) (fun _ _ => rfl)) (pa_cons (pe_op op_divU (pv 3) pe_int) pa_nil))) (pg_name (i := 6) nd rfl (by first | exact Or.inl rfl | exact Or.inr rfl)))
      (pss_one (ps_ret (pe_op (op_addU : OpR _ _ (rAddU K)) (pe_slice (sl_U : SlR _ (rSlU K)) (pv 0) po_none (po_some pe_int)) (pe_tup (pa_cons (pe_op (op_addU : OpR _ _ (rAddU K)) (pe_op (op_addU : OpR _ _ (rAddU K)) (pe_slice (sl_U : SlR _ (rSlU K)) (pe_ix (ix_U : IxR _ (rIxU K)) (pv 0) pe_int (fun _ _ => rfl)) po_none (po_some (pv 4))) (pe_tup (pa_cons (pv 6) pa_nil))) (pe_slice (sl_U : SlR _ (rSlU K)) (pe_ix (ix_U : IxR _ (rIxU K)) (pv 0) pe_int (fun _ _ => rfl)) (po_some (pe_op (op_addU : OpR _ _ (rAddU K)) (pv 4) pe_int)) po_none)) pa_nil))))))) pss_nil)
      (pss_cons (ps_if (pt_cmpR op_gt (pe_callB (c_len : CallR _ _ (DL.rLen K)) (by rfl) m_len PySem.boot_len (pa_cons (pe_ix (ix_U : IxR _ (rIxU K)) (pv 0) pe_int (fun _ _ => rfl)) pa_nil)) pe_int (nomark _)) (pss_one (ps_ret (pe_op (op_addU : OpR _ _ (rAddU K)) (pe_slice (sl_U : SlR _ (rSlU K)) (pv 0) po_none (po_some pe_int)) (pe_tup (pa_cons (pe_slice (sl_U : SlR _ (rSlU K)) (pe_op (op_mulU : OpR _ _ (rMulU K)) (pe_ix (ix_U : IxR _ (rIxU K)) (pv 0) pe_int (fun _ _ => rfl)) pe_int) po_none (po_some (pe_op (op_addU : OpR _ _ (rAddU K)) pe_int (pe_op op_mod (pv 3) pe_int)))) (pa_cons (pe_ix (ix_U : IxR _ (rIxU K)) (pv 0) pe_int (fun _ _ => rfl)) pa_nil)))))) pss_nil)
      (pss_one (ps_ret (pe_op (op_addU : OpR _ _ (rAddU K)) (pe_slice (sl_U : SlR _ (rSlU K)) (pv 0) po_none (po_some pe_int)) (pe_tup (pa_cons (pe_op (op_mulU : OpR _ _ (rMulU K)) (pe_tup (pa_cons pe_int pa_nil)) (pe_op (op_addU : OpR _ _ (rAddU K)) pe_int (pe_op op_mod (pv 3) pe_int))) pa_nil)))))))))))), fun a ha => ?_⟩)
  try dsimp only [cxOf]
  show EvS (Z0 K) _ [Sl.dat _, Sl.dat _, Sl.any, Sl.any, Sl.any, Sl.any, Sl.any] _
  obtain ⟨t, c⟩ := a
  have ok : t.Ok := ha
  obtain ⟨w, worst, top, tasks, extras⟩ := t
  obtain ⟨ow, oo, ot, oT, oE, lT, lE⟩ := ok
  dsimp only at ow oo ot oT oE lT lE
  generalize hTs : tasks.map (RTask.D false) = Ts
  have lTs : Ts.length = tasks.length := by rw [← hTs, List.length_map]
  show EvS _ _ [Sl.dat (.tuple [w, worst, top, .tuple (tasks.map (RTask.D false)), .tuple extras]), .dat (.int c), .any, .any, .any, .any, .any] (toD ((partCh ⟨w, worst, top, tasks, extras⟩ c).D false))
  rw [hTs]
  apply DL.s_seq (ρ1 := [Sl.dat (.tuple [w, worst, top, .tuple Ts, .tuple extras]), .dat (.int c), .dat (.int (c % 6)), .any, .any, .any, .any])
  · apply DL.s_asg
    · walk_at "ev"
    · exact DL.g_name
    · exact rfl
  apply DL.s_seq (ρ1 := [Sl.dat (.tuple [w, worst, top, .tuple Ts, .tuple extras]), .dat (.int c), .dat (.int (c % 6)), .dat (.int (c / 6)), .any, .any, .any])
  · apply DL.s_asg
    · walk_at "ev"
    · exact DL.g_name
    · exact rfl
  apply DL.s_ifRet (b := decide (c % 6 = 1))
  · walk_at "ev"
  · intro hb
    have h1 : c % 6 = 1 := of_decide_eq_true hb
    apply DL.s_ret (d := .tuple [w, worstC (c / 6), top, .tuple Ts, .tuple extras])
    · refine DL.EvD.is (x := .tuple ((DL.cutD [w, worst, top, .tuple Ts, .tuple extras] none (some 1) ++ [worstC (c / 6)]) ++ DL.cutD [w, worst, top, .tuple Ts, .tuple extras] (some 2) none)) ?_ rfl
      refine DL.d_op (DL.d_op (by walk_at "ev") (DL.d_tup (DL.ea_cons ?_ DL.ea_nil) (by show 1 ≤ 100000; decide)) (DL.r_addT (by show 1 + 1 ≤ 100000; decide))) (by walk_at "ev") (DL.r_addT (by show 2 + 3 ≤ 100000; decide))
      apply DL.d_ix (k := true) (i := c / 6 % 6) (ds := worstL (c / 6))
      · refine DL.EvL.v (DL.l_lst (ds := worstL (c / 6)) ?_ (by show 6 ≤ 100000; decide))
        refine DL.ea_cons (by walk_at "ev") (DL.ea_cons (by walk_at "ev") (DL.ea_cons (by walk_at "ev") (DL.ea_cons (by walk_at "ev") (DL.ea_cons (by walk_at "ev") (DL.ea_cons (DL.d_op (x := .int 1000000000) ?_ (by walk_at "ev") DL.r_addI) DL.ea_nil)))))
        refine DL.EvD.is (DL.d_op DL.d_int DL.d_int (DL.r_powI ⟨by decide, by decide, by decide⟩)) ?_
        rw [p9f]
      · walk_at "ev"
      · exact mod6 _
      · exact worst_get _
    · show _ = (partCh ⟨w, worst, top, tasks, extras⟩ c).D false
      unfold partCh
      dsimp only
      rw [if_pos h1, ← hTs]
      rfl
  intro hb
  have n1 : ¬ c % 6 = 1 := of_decide_eq_false hb
  apply DL.s_ifRet (b := decide (c % 6 < 3))
  · walk_at "ev"
  · intro hb2
    have h3 : c % 6 < 3 := of_decide_eq_true hb2
    obtain ⟨i, x, hi, hx, hn, hc, e⟩ : ∃ (i : Nat) (x : PyData), i < 3 ∧ [w, worst, top, .tuple Ts, .tuple extras][i]? = some x ∧ Num x ∧ c % 6 = (i : Int) ∧ (partCh ⟨w, worst, top, tasks, extras⟩ c).D false = .tuple ([w, worst, top, .tuple Ts, .tuple extras].set i (worseP x (c / 6))) := by
      have h4 : c % 6 = 0 ∨ c % 6 = 2 := by omega
      rcases h4 with h | h
      · refine ⟨0, w, by decide, rfl, ow, h, ?_⟩
        unfold partCh
        dsimp only
        rw [if_neg n1, if_pos h, ← hTs]
        rfl
      · refine ⟨2, top, by decide, rfl, ot, h, ?_⟩
        unfold partCh
        dsimp only
        rw [if_neg n1, if_neg (by omega), if_pos h, ← hTs]
        rfl
    rw [e]
    rw [hc]
    apply DL.s_ret (d := .tuple ([w, worst, top, .tuple Ts, .tuple extras].set i (worseP x (c / 6))))
    · rw [← cut_set (p := i) (by show _ < 5; omega)]
      have q1 := cut_lenT [w, worst, top, .tuple Ts, .tuple extras] i
      have q2 := cut_lenF [w, worst, top, .tuple Ts, .tuple extras] i
      apply DL.d_op
      · apply DL.d_op
        · walk_at "ev"
        · apply DL.d_tup
          · apply DL.ea_cons
            · apply c_l_worse (d := x) (c := c / 6)
              · apply DL.d_ix (k := false) (i := (i : Int)) (ds := [w, worst, top, .tuple Ts, .tuple extras])
                · walk_at "ev"
                · walk_at "ev"
                · omega
                · rw [Int.toNat_natCast]
                  exact hx
              · walk_at "ev"
              · exact hn
            · exact DL.ea_nil
          · show 1 ≤ 100000
            decide
        · refine DL.r_addT ?_
          simp only [List.length_cons, List.length_nil] at q1 ⊢
          omega
      · walk_at "ev"
      · refine DL.r_addT ?_
        simp only [List.length_append, List.length_cons, List.length_nil] at q1 q2 ⊢
        omega
    · exact rfl
  intro hb2
  have n3 : ¬ c % 6 < 3 := of_decide_eq_false hb2
  apply DL.s_ifRet (b := decide (c % 6 < 5) && decide (0 < tasks.length))
  · rw [← dec_pos, ← lTs]
    walk_at "ev"
  · intro hb3
    obtain ⟨h5, h6⟩ := Bool.and_eq_true_iff.mp hb3
    have h5 : c % 6 < 5 := of_decide_eq_true h5
    have h6 : 0 < tasks.length := of_decide_eq_true h6
    obtain ⟨p, hp, hpl⟩ := emod_nat (c / 6) tasks.length h6
    have gT : Ts[p]? = some ((tasks.getD p noTask).D false) := by
      rw [← hTs, List.getElem?_map, get_getD (x := noTask) hpl]
      rfl
    apply DL.s_seq (ρ1 := [Sl.dat (.tuple [w, worst, top, .tuple Ts, .tuple extras]), .dat (.int c), .dat (.int (c % 6)), .dat (.int (c / 6)), .dat (.int p), .any, .any])
    · apply DL.s_asg (d := .int p)
      · rw [← hp, ← lTs]
        walk_at "ev"
      · exact DL.g_name
      · exact rfl
    apply DL.s_seq (ρ1 := [Sl.dat (.tuple [w, worst, top, .tuple Ts, .tuple extras]), .dat (.int c), .dat (.int (c % 6)), .dat (.int (c / 6)), .dat (.int p), .dat ((taskCh (tasks.getD p noTask) (c / 6 / 8)).D false), .any])
    · apply DL.s_asg
      · apply c_l_task_changed (t := tasks.getD p noTask) (c := c / 6 / 8)
        · apply DL.d_ix (k := false) (i := (p : Int)) (ds := Ts)
          · refine (DL.EvD.vk (k := false) (ds := Ts) ?_)
            show EvD _ _ _ (.tuple Ts)
            walk_at "ev"
          · walk_at "ev"
          · omega
          · rw [Int.toNat_natCast]
            exact gT
        · walk_at "ev"
        · exact oT _ (getD_mem hpl)
      · exact DL.g_name
      · exact rfl
    have q1 := cut_lenT Ts p
    have q2 := cut_lenF Ts p
    apply DL.s_ret (d := .tuple [w, worst, top, .tuple (Ts.set p ((taskCh (tasks.getD p noTask) (c / 6 / 8)).D false)), .tuple extras])
    · rw [← cut_set (by rw [lTs]; exact hpl)]
      refine DL.EvD.is (x := .tuple (DL.cutD [w, worst, top, .tuple Ts, .tuple extras] none (some 3) ++ [.tuple ((DL.cutD Ts none (some (p : Int)) ++ [(taskCh (tasks.getD p noTask) (c / 6 / 8)).D false]) ++ DL.cutD Ts (some ((p : Int) + 1)) none), .tuple extras])) ?_ rfl
      walk_at "ev"
      all_goals (simp only [List.length_append, List.length_cons, List.length_nil]; first | omega | (show 3 + _ ≤ _; omega) | skip)
    · show _ = (partCh ⟨w, worst, top, tasks, extras⟩ c).D false
      unfold partCh
      dsimp only
      rw [if_neg n1, if_neg (by omega), if_neg (by omega), if_pos ⟨h5, h6⟩, hp, Int.toNat_natCast, ← hTs, ← List.map_set]
      rfl
  intro hb3
  have n5 : ¬ (c % 6 < 5 ∧ 0 < tasks.length) := by
    rintro ⟨z1, z2⟩
    rw [decide_eq_true z1, decide_eq_true z2] at hb3
    cases hb3
  apply DL.s_ifRet (b := decide (0 < extras.length))
  · rw [← dec_pos]
    walk_at "ev"
  · intro hb4
    have h6 : 0 < extras.length := of_decide_eq_true hb4
    obtain ⟨p, hp, hpl⟩ := emod_nat (c / 6) extras.length h6
    apply DL.s_seq (ρ1 := [Sl.dat (.tuple [w, worst, top, .tuple Ts, .tuple extras]), .dat (.int c), .dat (.int (c % 6)), .dat (.int (c / 6)), .dat (.int p), .any, .any])
    · apply DL.s_asg (d := .int p)
      · rw [← hp]
        walk_at "ev"
      · exact DL.g_name
      · exact rfl
    apply DL.s_seq (ρ1 := [Sl.dat (.tuple [w, worst, top, .tuple Ts, .tuple extras]), .dat (.int c), .dat (.int (c % 6)), .dat (.int (c / 6)), .dat (.int p), .any, .dat (worseP (extras.getD p .none) (c / 6 / 12))])
    · apply DL.s_asg
      · apply c_l_worse (d := extras.getD p .none) (c := c / 6 / 12)
        · apply DL.d_ix (k := false) (i := (p : Int)) (ds := extras)
          · refine (DL.EvD.vk (k := false) (ds := extras) ?_)
            show EvD _ _ _ (.tuple extras)
            walk_at "ev"
          · walk_at "ev"
          · omega
          · rw [Int.toNat_natCast]
            exact get_getD hpl
        · walk_at "ev"
        · exact oE _ (getD_mem hpl)
      · exact DL.g_name
      · exact rfl
    have q1 := cut_lenT extras p
    have q2 := cut_lenF extras p
    apply DL.s_ret (d := .tuple [w, worst, top, .tuple Ts, .tuple (extras.set p (worseP (extras.getD p .none) (c / 6 / 12)))])
    · rw [← cut_set hpl]
      refine DL.EvD.is (x := .tuple (DL.cutD [w, worst, top, .tuple Ts, .tuple extras] none (some 4) ++ [.tuple ((DL.cutD extras none (some (p : Int)) ++ [worseP (extras.getD p .none) (c / 6 / 12)]) ++ DL.cutD extras (some ((p : Int) + 1)) none)])) ?_ rfl
      walk_at "ev"
      all_goals (simp only [List.length_append, List.length_cons, List.length_nil]; first | omega | (show 4 + _ ≤ _; omega) | skip)
    · show _ = (partCh ⟨w, worst, top, tasks, extras⟩ c).D false
      unfold partCh
      dsimp only
      rw [if_neg n1, if_neg (by omega), if_neg (by omega), if_neg n5, if_pos h6, hp, Int.toNat_natCast, ← hTs]
      rfl
  intro hb4
  have n6 : ¬ 0 < extras.length := of_decide_eq_false hb4
  apply DL.s_ifRet (b := decide (0 < tasks.length))
  · rw [← dec_pos, ← lTs]
    walk_at "ev"
  · intro hb5
    have h7 : 0 < tasks.length := of_decide_eq_true hb5
    have e8 : (8 + c / 6 % 3 : Int) = ((8 + c / 6 % 3).toNat : Int) := by omega
    apply DL.s_ret (d := .tuple [w, worst, top, .tuple (((List.replicate 9 Ts).flatten).take (8 + c / 6 % 3).toNat), .tuple extras])
    · refine DL.EvD.is (x := .tuple (DL.cutD [w, worst, top, .tuple Ts, .tuple extras] none (some 3) ++ [.tuple (DL.cutD (List.replicate (9 : Int).toNat Ts).flatten none (some (8 + c / 6 % 3))), .tuple extras])) ?_ (by rw [e8, cutD_to, Int.toNat_natCast]; rfl)
      walk_at "ev"
      all_goals first | omega | (intro z; rw [z] at lTs; simp only [List.length_nil] at lTs; omega) | (show 3 + 2 ≤ _; decide) | skip
    · show _ = (partCh ⟨w, worst, top, tasks, extras⟩ c).D false
      unfold partCh
      dsimp only
      rw [if_neg n1, if_neg (by omega), if_neg (by omega), if_neg n5, if_neg n6, if_pos h7, ← hTs, rep_map, ← List.map_take]
      rfl
  intro hb5
  have n7 : ¬ 0 < tasks.length := of_decide_eq_false hb5
  apply DL.s_ret (d := .tuple [w, worst, top, .tuple Ts, .tuple (List.replicate (12 + c / 6 % 3).toNat (.int 5))])
  · refine DL.EvD.is (x := .tuple (DL.cutD [w, worst, top, .tuple Ts, .tuple extras] none (some 4) ++ [.tuple (List.replicate (12 + c / 6 % 3).toNat [PyData.int 5]).flatten])) ?_ (by rw [rep1]; rfl)
    walk_at "ev"
    all_goals first | omega | (intro z; cases z) | (show 4 + 1 ≤ _; decide) | skip
  · show _ = (partCh ⟨w, worst, top, tasks, extras⟩ c).D false
    unfold partCh
    dsimp only
    rw [if_neg n1, if_neg (by omega), if_neg (by omega), if_neg n5, if_neg n6, if_neg n7, ← hTs]
    rfl

abbrev s_l_listed : Stmt := topS 44
theorem sc_l_listed : FnScope ["_law_part", "_law_tasks", "_law_task"] ["_law_part"] (defScope s_l_listed) := ⟨rfl, rfl, rfl, by decide +kernel, rfl, by decide +kernel, by decide +kernel⟩
theorem ok_l_listed (At : DefAt K mg "_law_listed" "_law_listed" s_l_listed ["_law_part"]) (m_list : mg "list" = none) : Fn1 P w K mg base 1 "_law_listed" ["_law_part"] (sp_l_listed K) := by
  have nd := sc_l_listed.nd
  refine At.L sc_l_listed (fun _ => rfl) (fun f cdv A outer s H E hr => ⟨_, (pss_cons (ps_setLc (i := 1) (own := [("_law_task", 2)]) (g := gName 2) (tt := tYes) (by rfl) nd rfl rfl (sw_true rfl rfl rfl (by decide +kernel)) (pi_U (pe_ix (ix_U : IxR _ (rIxU K)) (pv 0) pe_int (fun _ _ => rfl))) (blkOk_by (own := [("_law_task", 2)]) (N := ["_law_part", "_law_tasks", "_law_task"]) (sc := defScope s_l_listed) (by decide +kernel)) (fun _ _ _ _ _ => (pg_name (i := 2) nd rfl (by first | exact Or.inl rfl | exact Or.inr rfl))) (fun _ _ _ _ _ => pts_nil) (fun _ _ _ _ _ => (pe_lst (pa_cons (pe_ix (ix_U : IxR _ (rIxU K)) (pv 2) pe_int (fun _ _ => rfl)) (pa_cons (pe_ix (ix_U : IxR _ (rIxU K)) (pv 2) pe_int (fun _ _ => rfl)) (pa_cons (pe_ix (ix_U : IxR _ (rIxU K)) (pv 2) pe_int (fun _ _ => rfl)) (pa_cons (pe_callTy (c_list : CallR _ _ (rLst K)) (by rfl) m_list (by decide +kernel) (pa_cons (pe_ix (ix_U : IxR _ (rIxU K)) (pv 2) pe_int (fun _ _ => rfl)) pa_nil)) pa_nil)))))))
      (pss_one (ps_ret (pe_lst (pa_cons (pe_ix (ix_U : IxR _ (rIxU K)) (pv 0) pe_int (fun _ _ => rfl)) (pa_cons (pe_ix (ix_U : IxR _ (rIxU K)) (pv 0) pe_int (fun _ _ => rfl)) (pa_cons (pe_ix (ix_U : IxR _ (rIxU K)) (pv 0) pe_int (fun _ _ => rfl)) (pa_cons (pv 1) (pa_cons (pe_callTy (c_list : CallR _ _ (rLst K)) (by rfl) m_list (by decide +kernel) (pa_cons (pe_ix (ix_U : IxR _ (rIxU K)) (pv 0) pe_int (fun _ _ => rfl)) pa_nil)) pa_nil))))))))), fun a ha => ?_⟩)
  try dsimp only [cxOf]
  show EvS (Z0 K) _ [Sl.dat _, Sl.any, Sl.any] _
  rename RPart => t
  have hl : t.tasks.length ≤ 1000 := ha
  obtain ⟨w, worst, top, tasks, extras⟩ := t
  dsimp only at hl
  show EvS _ _ [Sl.dat (.tuple [w, worst, top, .tuple (tasks.map (RTask.D false)), .tuple extras]), .any, .any] _
  have hk : keptD (tasks.map (RTask.D false)) (fun _ => true) unD = tasks.map (RTask.D true) := by
    unfold keptD
    rw [List.filter_eq_self.mpr (fun _ _ => rfl), List.map_map]
    rfl
  apply DL.s_seq (ρ1 := [Sl.dat (.tuple [w, worst, top, .tuple (tasks.map (RTask.D false)), .tuple extras]), .own (tasks.map (RTask.D true)), .any])
  · apply DL.s_asgL (ds := tasks.map (RTask.D true))
    · rw [← hk]
      refine DL.l_lc _ _ (DL.i_seq (k := false) (ds := tasks.map (RTask.D false)) ?_) ?_ ?_
      · show EvD _ _ _ (.tuple (tasks.map (RTask.D false)))
        walk_at "ev"
      · rw [List.length_map]
        omega
      · intro i d hd
        obtain ⟨r, hr, rfl⟩ : ∃ r, tasks[i]? = some r ∧ RTask.D false r = d := by
          rw [List.getElem?_map] at hd
          cases q : tasks[i]? with
          | none => rw [q] at hd; cases hd
          | some r => rw [q] at hd; exact ⟨r, rfl, Option.some.inj hd⟩
        refine ⟨_, DL.gw_name, DL.t_yes, fun _ => ?_⟩
        show EvD _ _ [_, _, Sl.dat (.tuple [r.w, r.most, r.cap, .tuple r.tries])] (.list [r.w, r.most, r.cap, .list r.tries])
        walk_at "ev"
    · exact rfl
  refine DL.s_shut (i := 1) (ds := tasks.map (RTask.D true)) rfl ?_
  apply DL.s_retL (ds := (RPart.mk w worst top tasks extras).L true)
  · show EvL _ _ [Sl.dat (.tuple [w, worst, top, .tuple (tasks.map (RTask.D false)), .tuple extras]), .dat (.list (tasks.map (RTask.D true))), .any] [w, worst, top, .list (tasks.map (RTask.D true)), .list extras]
    walk_at "ev"
  · exact rfl

abbrev s_law : Stmt := topS 45
theorem sc_law : FnScope ["_law_script", "_law_course", "_law_k", "_law_handed", "_law_cell", "_law_at", "_law_part"] ["_law_script"] (defScope s_law) := ⟨rfl, rfl, rfl, by decide +kernel, rfl, by decide +kernel, by decide +kernel⟩
theorem ok_law (At : DefAt K mg "law" "law" s_law ["_law_script"]) (G_l_course_by : Fn1 P w K mg base 3 "_law_course_by" ["_law_script", "_law_first", "_law_most_tasks"] (sp_l_course_by K)) (G_l_told : Fn1 P w K mg base 7 "_law_told" ["_law_course"] (sp_l_told K)) (G_l_due : Fn1 P w K mg base 4 "_law_due" ["_law_course"] (sp_l_due K)) (G_l_cell_at : Fn1 P w K mg base 1 "_law_cell_at" ["_law_script", "_law_k"] (sp_l_cell_at K)) (G_l_stream : Fn1 P w K mg base 1 "_law_stream" ["_law_cell", "_law_many"] (sp_l_stream K)) (G_l_part_changed : Fn1 P w K mg base 3 "_law_part_changed" ["_law_part", "_law_cell"] (sp_l_part_changed K)) (G_l_listed : Fn1 P w K mg base 1 "_law_listed" ["_law_part"] (sp_l_listed K)) (m_range : mg "range" = none) (m_len : mg "len" = none) (m_list : mg "list" = none) (m_tuple : mg "tuple" = none) : Fn1 P w K mg base 8 "law" ["_law_script"] (sp_law K) := by
  have nd := sc_law.nd
  refine At.D sc_law (fun _ => rfl) (fun f cdv A outer s H E hr => ⟨_, (pss_cons (ps_asg (pe_fn G_l_course_by (hr.mono (by decide)) (by rfl) (pa_cons (pv 0) (pa_cons pe_int (pa_cons pe_int pa_nil)))) (pg_name (i := 1) nd rfl (by first | exact Or.inl rfl | exact Or.inr rfl)))
      (pss_cons (ps_if (PW.pt (pw_and (pt_cmpR op_gt (pe_callB (c_len : CallR _ _ (DL.rLen K)) (by rfl) m_len PySem.boot_len (pa_cons (pv 1) pa_nil)) pe_int (nomark _)) (pw_and1 (pt_cmpR (op_eqD hr.units : OpR _ _ (rEqD K)) (pe_op op_mod (pe_fn G_l_cell_at (hr.mono (by decide)) (by rfl) (pa_cons (pv 0) (pa_cons pe_int pa_nil))) pe_int) pe_int (nomark _))))) (pss_one (ps_asg (pe_slice (sl_U : SlR _ (rSlU K)) (pe_op (op_mulU : OpR _ _ (rMulU K)) (pv 1) pe_int) po_none (po_some (pe_op (op_addU : OpR _ _ (rAddU K)) pe_int (pe_op op_mod (pe_op op_divU (pe_fn G_l_cell_at (hr.mono (by decide)) (by rfl) (pa_cons (pv 0) (pa_cons pe_int pa_nil))) pe_int) pe_int)))) (pg_name (i := 1) nd rfl (by first | exact Or.inl rfl | exact Or.inr rfl)))) pss_nil)
      (pss_cons (ps_for PassesOwn.never rfl (pi_range1 (by rfl) m_range (pa_cons (pe_op op_mod (pe_fn G_l_cell_at (hr.mono (by decide)) (by rfl) (pa_cons (pv 0) (pa_cons pe_int pa_nil))) pe_int) pa_nil)) (pg_name (i := 2) nd rfl (by first | exact Or.inl rfl | exact Or.inr rfl)) (pss_cons (ps_asg (pe_ix (ix_U : IxR _ (rIxU K)) (pe_fn G_l_stream (hr.mono (by decide)) (by rfl) (pa_cons (pe_fn G_l_cell_at (hr.mono (by decide)) (by rfl) (pa_cons (pv 0) (pa_cons (pe_op (op_addU : OpR _ _ (rAddU K)) pe_int (pv 2)) pa_nil))) (pa_cons pe_int pa_nil))) pe_int (fun _ _ => rfl)) (pg_name (i := 4) nd rfl (by first | exact Or.inl rfl | exact Or.inr rfl)))
      (pss_one (ps_if (pt_cmpR op_gt (pe_callB (c_len : CallR _ _ (DL.rLen K)) (by rfl) m_len PySem.boot_len (pa_cons (pv 1) pa_nil)) pe_int (nomark _)) (pss_cons (ps_asg (pe_op op_mod (pv 4) (pe_callB (c_len : CallR _ _ (DL.rLen K)) (by rfl) m_len PySem.boot_len (pa_cons (pv 1) pa_nil))) (pg_name (i := 5) nd rfl (by first | exact Or.inl rfl | exact Or.inr rfl)))
      (pss_one (ps_asg (pe_fn G_l_part_changed (hr.mono (by decide)) (by rfl) (pa_cons (pe_ix (ix_U : IxR _ (rIxU K)) (pv 1) (pv 5) (fun _ _ => rfl)) (pa_cons (pe_op op_divU (pv 4) pe_int) pa_nil))) (pg_sub (pv 1) (pv 5) set_list)))) pss_nil))))
      (pss_cons (ps_asg (pe_ix (ix_U : IxR _ (rIxU K)) (pe_lst (pa_cons (pe_callTy (c_list : CallR _ _ (rLst K)) (by rfl) m_list (by decide +kernel) (pa_cons (pv 1) pa_nil)) (pa_cons (pe_callTy (c_tuple : CallR _ _ (rTpl K)) (by rfl) m_tuple (by decide +kernel) (pa_cons (pv 1) pa_nil)) pa_nil))) (pe_op op_mod (pe_fn G_l_cell_at (hr.mono (by decide)) (by rfl) (pa_cons (pv 0) (pa_cons pe_int pa_nil))) pe_int) (fun _ _ => rfl)) (pg_name (i := 3) nd rfl (by first | exact Or.inl rfl | exact Or.inr rfl)))
      (pss_cons (ps_if (PW.pt (pw_or (pt_cmpR (op_neD hr.units : OpR _ _ (rNeD K)) (pe_fn G_l_told (hr.mono (by decide)) (by rfl) (pa_cons (pv 3) pa_nil)) (pe_fn G_l_due (hr.mono (by decide)) (by rfl) (pa_cons (pv 1) pa_nil)) (nomark _)) (pw_or1 (pt_cmpR (op_neD hr.units : OpR _ _ (rNeD K)) (pe_callTy (c_list : CallR _ _ (rLst K)) (by rfl) m_list (by decide +kernel) (pa_cons (pv 3) pa_nil)) (pv 1) (nomark _))))) (pss_one (ps_ret pe_bl)) pss_nil)
      (pss_one (ps_ret (pe_cmpR (op_eqD hr.units : OpR _ _ (rEqD K)) (pe_fn G_l_told (hr.mono (by decide)) (by rfl) (pa_cons (pe_lc (own := [("_law_part", 6)]) (g := gName 6) (tt := tYes) (by rfl) nd (pi_U (pv 1)) (blkOk_by (own := [("_law_part", 6)]) (N := ["_law_script", "_law_course", "_law_k", "_law_handed", "_law_cell", "_law_at", "_law_part"]) (sc := defScope s_law) (by decide +kernel)) (fun _ _ _ _ _ => (pg_name (i := 6) nd rfl (by first | exact Or.inl rfl | exact Or.inr rfl))) (fun _ _ _ _ _ => pts_nil) (fun _ _ _ _ _ => (pe_fn G_l_listed (hr.mono (by decide)) (by rfl) (pa_cons (pv 6) pa_nil)))) pa_nil)) (pe_fn G_l_due (hr.mono (by decide)) (by rfl) (pa_cons (pv 1) pa_nil)) (nomark _))))))))), fun a ha => ?_⟩)
  try dsimp only [cxOf]
  show EvS (Z0 K) _ [Sl.dat _, Sl.any, Sl.any, Sl.any, Sl.any, Sl.any, Sl.any] _
  rename List Int => ns
  have hl : ns.length ≤ 63 := ha
  show EvS _ _ [Sl.dat (.list (intsD ns)), .any, .any, .any, .any, .any, .any] _
  apply DL.s_seq (ρ1 := [Sl.dat (.list (intsD ns)), .own (((courseBy ns 2 5).map toRP).map (RPart.D false)), .any, .any, .any, .any, .any])
  · apply DL.s_asgL (ds := ((courseBy ns 2 5).map toRP).map (RPart.D false))
    · rw [← course_D]
      apply c_l_course_by (ns := ns) (f := 2) (m := 5)
      · walk_at "ev"
      · walk_at "ev"
      · walk_at "ev"
      · exact ⟨hl, by decide, by decide, by decide, by decide⟩
    · exact rfl
  have hc0 : CourseOk ((courseBy ns 2 5).map toRP) := by
    constructor
    · intro p hp
      obtain ⟨q, hq, rfl⟩ := List.mem_map.mp hp
      exact toRP_ok (courseBy_ok (by decide) (by decide) q hq)
    · rw [List.length_map]
      have := courseBy_len ns 2 5
      omega
  generalize (courseBy ns 2 5).map toRP = c0 at hc0 ⊢
  apply DL.s_cut (fun ρ => ∃ c, CourseOk c ∧ ρ = [Sl.dat (.list (intsD ns)), .own (c.map (RPart.D false)), .any, .any, .any, .any, .any])
  · apply DL.s_if (b := decide ((0 : Int) < ((c0.map (RPart.D false)).length : Nat)) && decide (cellAt ns 1 % 9 = 0))
    · walk_at "ev"
      all_goals exact ⟨hl, by decide⟩
    · intro _
      have e5 : (5 + cellAt ns 1 / 9 % 4 : Int) = ((5 + cellAt ns 1 / 9 % 4).toNat : Int) := by omega
      apply DL.s_asgL (ds := ((List.replicate 8 c0).flatten.take (5 + cellAt ns 1 / 9 % 4).toNat).map (RPart.D false))
      · rw [List.map_take, ← rep_map, ← cutD_to, ← e5]
        refine DL.l_slice (ds := (List.replicate (8 : Int).toNat (c0.map (RPart.D false))).flatten) (DL.EvL.v (DL.l_rep (DL.w_var rfl) DL.d_int (by decide) ?_ (by decide))) DL.o_none (DL.o_some ?_)
        · have := hc0.2
          rw [List.length_map, show (8 : Int).toNat = 8 from rfl]
          omega
        · walk_at "ev"
          all_goals exact ⟨hl, by decide⟩
      · refine ⟨_, ⟨fun p hp => hc0.1 p (rep_mem (List.mem_of_mem_take hp)), ?_⟩, rfl⟩
        rw [List.length_take]
        omega
    · intro _
      apply DL.s_next
      exact ⟨c0, hc0, rfl⟩
  rintro ρ ⟨c1, hc1, rfl⟩
  apply DL.s_cut (fun ρ => ∃ c y2 y4 y5, CourseOk c ∧ ρ = [Sl.dat (.list (intsD ns)), .own (c.map (RPart.D false)), y2, .any, y4, y5, .any])
  · apply DL.s_for (I := fun i ρ => ∃ c y2 y4 y5, CourseOk c ∧ ρ = [Sl.dat (.list (intsD ns)), .own (c.map (RPart.D false)), y2, .any, y4, y5, .any])
    · refine DL.i_rng1 (n := cellAt ns 1 % 4) ?_ (by omega)
      walk_at "ev"
      all_goals exact ⟨hl, by decide⟩
    · exact ⟨c1, _, _, _, hc1, rfl⟩
    · rintro i d ρ hd ⟨c, y2, y4, y5, hc, rfl⟩
      obtain ⟨hi, rfl⟩ := rangeD_get hd
      refine ⟨_, DL.g_name, ?_⟩
      simp only [Int.zero_add]
      have l1 := streamP_len (cellAt ns (8 + (i : Int))) 1
      apply DL.s_seq (ρ1 := [Sl.dat (.list (intsD ns)), .own (c.map (RPart.D false)), .dat (.int (i : Int)), .any, .dat (.int ((streamP (cellAt ns (8 + (i : Int))) 1).getD 0 0)), y5, .any])
      · apply DL.s_asg
        · apply DL.d_ix (k := true) (i := 0) (ds := intsD (streamP (cellAt ns (8 + (i : Int))) 1))
          · apply DL.EvL.v
            apply c_l_stream (c := cellAt ns (8 + (i : Int))) (m := 1)
            · walk_at "ev"
              all_goals exact ⟨hl, by omega⟩
            · walk_at "ev"
            · exact ⟨by decide, by decide⟩
          · exact DL.d_int
          · decide
          · exact intsD_get (i := 0) (by rw [l1]; decide)
        · exact DL.g_name
        · exact rfl
      generalize (streamP (cellAt ns (8 + (i : Int))) 1).getD 0 0 = x
      apply DL.s_if (b := decide (0 < c.length))
      · rw [← dec_pos, show c.length = (c.map (RPart.D false)).length by rw [List.length_map]]
        walk_at "ev"
      · intro hb
        have h0 : 0 < c.length := of_decide_eq_true hb
        obtain ⟨p, hp, hpl⟩ := emod_nat x c.length h0
        apply DL.s_seq (ρ1 := [Sl.dat (.list (intsD ns)), .own (c.map (RPart.D false)), .dat (.int (i : Int)), .any, .dat (.int x), .dat (.int (p : Int)), .any])
        · apply DL.s_asg (d := .int (p : Int))
          · rw [← hp, show c.length = (c.map (RPart.D false)).length by rw [List.length_map]]
            walk_at "ev"
            rw [List.length_map]
            omega
          · exact DL.g_name
          · exact rfl
        refine DL.s_setI (i := 1) (j := (p : Int)) (ds := c.map (RPart.D false)) (d := (partCh (c.getD p noPart) (x / 7)).D false) rfl ?_ ?_ (by omega) (by rw [List.length_map]; omega) ?_
        · apply c_l_part_changed (t := c.getD p noPart) (c := x / 7)
          · apply DL.d_ix (k := true) (i := (p : Int)) (ds := c.map (RPart.D false))
            · exact DL.EvW.v (DL.w_var rfl)
            · walk_at "ev"
            · omega
            · rw [Int.toNat_natCast, List.getElem?_map, get_getD (x := noPart) hpl]
              rfl
          · walk_at "ev"
          · exact hc.1 _ (getD_mem hpl)
        · walk_at "ev"
        · refine ⟨c.set p (partCh (c.getD p noPart) (x / 7)), .dat (.int (i : Int)), .dat (.int x), .dat (.int (p : Int)), ⟨fun q hq => ?_, ?_⟩, ?_⟩
          · rcases List.mem_or_eq_of_mem_set hq with h1 | rfl
            · exact hc.1 q h1
            · exact partCh_ok (hc.1 _ (getD_mem hpl)) _
          · rw [List.length_set]
            exact hc.2
          · rw [List.map_set, Int.toNat_natCast]
            rfl
      · intro _
        apply DL.s_next
        exact ⟨c, _, _, _, hc, rfl⟩
    · rintro ρ ⟨c, y2, y4, y5, hc, rfl⟩
      exact ⟨c, y2, y4, y5, hc, rfl⟩
  rintro ρ ⟨c, y2, y4, y5, hc, rfl⟩
  refine DL.s_shut (i := 1) (ds := c.map (RPart.D false)) rfl ?_
  show EvS _ _ [Sl.dat (.list (intsD ns)), .dat (.list (c.map (RPart.D false))), y2, .any, y4, y5, .any] _
  have hok : (∀ p ∈ c, p.Ok) ∧ c.length ≤ 1000 := ⟨hc.1, by have := hc.2; omega⟩
  obtain ⟨k, hk⟩ := handed_get (cellAt ns 12) (c.map (RPart.D false))
  apply DL.s_seq (ρ1 := [Sl.dat (.list (intsD ns)), .dat (.list (c.map (RPart.D false))), y2, .dat (sqD k (c.map (RPart.D false))), y4, y5, .any])
  · apply DL.s_asg
    · apply DL.d_ix (k := true) (i := cellAt ns 12 % 2) (ds := [.list (c.map (RPart.D false)), .tuple (c.map (RPart.D false))])
      · walk_at "ev"
      · walk_at "ev"
        all_goals exact ⟨hl, by decide⟩
      · exact mod2 _
      · exact hk
    · exact DL.g_name
    · exact rfl
  apply DL.s_ifRet (b := false)
  · refine DL.EvT.is (DL.t_or (a := !true) (b := !true) ?_ fun _ => ?_) rfl
    · rw [← eqv_str (dueName (dueCourse c))]
      refine DL.t_T (DL.d_op (c_l_told (k := k) (m := false) (c := c) (DL.d_var rfl) hok) (c_l_due (c := c) (DL.d_var rfl) hok) (DL.r_neD (due_sh _ (due_le c)) (due_sh _ (due_le c))))
    · rw [← eqv_course hc.1]
      refine DL.t_T (DL.d_op (DL.EvL.dt (DL.l_list (k := k) (DL.EvD.vk (DL.d_var rfl)))) (DL.d_var rfl) (DL.r_neD (sh_course hc.1) (sh_course hc.1)))
  · intro h; cases h
  intro _
  apply DL.s_ret (d := .bool true)
  · rw [← eqv_str (dueName (dueCourse c))]
    refine DL.d_op (c_l_told (k := true) (m := true) (c := c) ?_ hok) (c_l_due (c := c) (DL.d_var rfl) hok) (DL.r_eqD (due_sh _ (due_le c)) (due_sh _ (due_le c)))
    have hkd : keptD (c.map (RPart.D false)) (fun _ => true) unDP = c.map (RPart.D true) := by
      unfold keptD
      rw [List.filter_eq_self.mpr (fun _ _ => rfl), List.map_map]
      exact List.map_congr_left fun p _ => unDP_eq p
    show EvD _ _ _ (.list (c.map (RPart.D true)))
    rw [← hkd]
    refine DL.EvL.dt (DL.l_lc _ _ (DL.i_seq (k := true) (ds := c.map (RPart.D false)) (DL.d_var rfl)) ?_ ?_)
    · rw [List.length_map]
      have := hc.2
      omega
    · intro i d hd
      obtain ⟨r, hr, rfl⟩ : ∃ r, c[i]? = some r ∧ RPart.D false r = d := by
        rw [List.getElem?_map] at hd
        cases q : c[i]? with
        | none => rw [q] at hd; cases hd
        | some r => rw [q] at hd; exact ⟨r, rfl, Option.some.inj hd⟩
      refine ⟨_, DL.gw_name, DL.t_yes, fun _ => ?_⟩
      rw [unDP_eq]
      show EvD _ _ _ (.list (r.L true))
      apply DL.EvL.dt
      apply c_l_listed (t := r)
      · walk_at "ev"
      · exact (hc.1 r (List.mem_of_getElem? hr)).tl
  · exact rfl
end
theorem all_mk {l : PySem.W.OpenLaw} {w : World} {K : PySem.W.Frag} {h : Heap} {mg : Str → Option Value} {fa : Addr} {f0 : Addr} {od0 an0 : Option Addr} {sl0 : Array (Option Value)} {oc0 kV0 dc0 pm0 cd0 ct0 : Value} {f1 : Addr} {od1 an1 : Option Addr} {sl1 : Array (Option Value)} {oc1 kV1 dc1 pm1 cd1 ct1 : Value} {f2 : Addr} {od2 an2 : Option Addr} {sl2 : Array (Option Value)} {oc2 kV2 dc2 pm2 cd2 ct2 : Value} {f3 : Addr} {od3 an3 : Option Addr} {sl3 : Array (Option Value)} {oc3 kV3 dc3 pm3 cd3 ct3 : Value} {f4 : Addr} {od4 an4 : Option Addr} {sl4 : Array (Option Value)} {oc4 kV4 dc4 pm4 cd4 ct4 : Value} {f5 : Addr} {od5 an5 : Option Addr} {sl5 : Array (Option Value)} {oc5 kV5 dc5 pm5 cd5 ct5 : Value} {f6 : Addr} {od6 an6 : Option Addr} {sl6 : Array (Option Value)} {oc6 kV6 dc6 pm6 cd6 ct6 : Value} {f7 : Addr} {od7 an7 : Option Addr} {sl7 : Array (Option Value)} {oc7 kV7 dc7 pm7 cd7 ct7 : Value} {f8 : Addr} {od8 an8 : Option Addr} {sl8 : Array (Option Value)} {oc8 kV8 dc8 pm8 cd8 ct8 : Value} {f9 : Addr} {od9 an9 : Option Addr} {sl9 : Array (Option Value)} {oc9 kV9 dc9 pm9 cd9 ct9 : Value} {f10 : Addr} {od10 an10 : Option Addr} {sl10 : Array (Option Value)} {oc10 kV10 dc10 pm10 cd10 ct10 : Value} {f11 : Addr} {od11 an11 : Option Addr} {sl11 : Array (Option Value)} {oc11 kV11 dc11 pm11 cd11 ct11 : Value} {f12 : Addr} {od12 an12 : Option Addr} {sl12 : Array (Option Value)} {oc12 kV12 dc12 pm12 cd12 ct12 : Value} {f13 : Addr} {od13 an13 : Option Addr} {sl13 : Array (Option Value)} {oc13 kV13 dc13 pm13 cd13 ct13 : Value} {f14 : Addr} {od14 an14 : Option Addr} {sl14 : Array (Option Value)} {oc14 kV14 dc14 pm14 cd14 ct14 : Value} {f15 : Addr} {od15 an15 : Option Addr} {sl15 : Array (Option Value)} {oc15 kV15 dc15 pm15 cd15 ct15 : Value} {f16 : Addr} {od16 an16 : Option Addr} {sl16 : Array (Option Value)} {oc16 kV16 dc16 pm16 cd16 ct16 : Value} {f17 : Addr} {od17 an17 : Option Addr} {sl17 : Array (Option Value)} {oc17 kV17 dc17 pm17 cd17 ct17 : Value} {f18 : Addr} {od18 an18 : Option Addr} {sl18 : Array (Option Value)} {oc18 kV18 dc18 pm18 cd18 ct18 : Value} {f19 : Addr} {od19 an19 : Option Addr} {sl19 : Array (Option Value)} {oc19 kV19 dc19 pm19 cd19 ct19 : Value} {f20 : Addr} {od20 an20 : Option Addr} {sl20 : Array (Option Value)} {oc20 kV20 dc20 pm20 cd20 ct20 : Value} {f21 : Addr} {od21 an21 : Option Addr} {sl21 : Array (Option Value)} {oc21 kV21 dc21 pm21 cd21 ct21 : Value} {C_BadWeight : Addr} {C_TooMany : Addr} {C_BadExtra : Addr} {C_BadMost : Addr} {C_BadCap : Addr} {C_BadMark : Addr} {C_BadWorst : Addr} {C_BadTop : Addr} {C_GradeError : Addr} {C_BadPlace : Addr} {C_BadWish : Addr} {C_BadStep : Addr} {t_MOST_WEIGHT : Tok} {t_MOST_EXTRAS : Tok} {t_MOST_EXTRA : Tok} {t_MOST_TRIES : Tok} {t_MOST_POINTS : Tok} {t_MOST_TASKS : Tok} {t_MOST_WORST : Tok} {t_MOST_TOP : Tok} {t_MOST_PARTS : Tok} (X : K.In h) (G : h.Ns mainGlobals mg) (hfa : mg "law" = some (.ref fa))
    (a0 : PySem.W.nsIn K mainGlobals "_law_cell_at" = some (some (.ref f0))) (l0 : K.lookup f0 = some ⟨oc0, od0, .func (PySem.W.fnOf "_law_cell_at" "_law_cell_at" (defArgs s_l_cell_at) (defBody s_l_cell_at) (defScope s_l_cell_at) .none kV0 dc0 pm0 an0 cd0 ct0), sl0⟩) (c0 : PySem.W.codeIn K cd0 "_law_cell_at" = true) (k0 : PySem.W.keepIn K (.ref f0) = true)
    (a1 : PySem.W.nsIn K mainGlobals "_law_stream" = some (some (.ref f1))) (l1 : K.lookup f1 = some ⟨oc1, od1, .func (PySem.W.fnOf "_law_stream" "_law_stream" (defArgs s_l_stream) (defBody s_l_stream) (defScope s_l_stream) .none kV1 dc1 pm1 an1 cd1 ct1), sl1⟩) (c1 : PySem.W.codeIn K cd1 "_law_stream" = true) (k1 : PySem.W.keepIn K (.ref f1) = true)
    (a2 : PySem.W.nsIn K mainGlobals "_law_task_by" = some (some (.ref f2))) (l2 : K.lookup f2 = some ⟨oc2, od2, .func (PySem.W.fnOf "_law_task_by" "_law_task_by" (defArgs s_l_task_by) (defBody s_l_task_by) (defScope s_l_task_by) .none kV2 dc2 pm2 an2 cd2 ct2), sl2⟩) (c2 : PySem.W.codeIn K cd2 "_law_task_by" = true) (k2 : PySem.W.keepIn K (.ref f2) = true)
    (a3 : PySem.W.nsIn K mainGlobals "_law_part_by" = some (some (.ref f3))) (l3 : K.lookup f3 = some ⟨oc3, od3, .func (PySem.W.fnOf "_law_part_by" "_law_part_by" (defArgs s_l_part_by) (defBody s_l_part_by) (defScope s_l_part_by) .none kV3 dc3 pm3 an3 cd3 ct3), sl3⟩) (c3 : PySem.W.codeIn K cd3 "_law_part_by" = true) (k3 : PySem.W.keepIn K (.ref f3) = true)
    (a4 : PySem.W.nsIn K mainGlobals "_law_course_by" = some (some (.ref f4))) (l4 : K.lookup f4 = some ⟨oc4, od4, .func (PySem.W.fnOf "_law_course_by" "_law_course_by" (defArgs s_l_course_by) (defBody s_l_course_by) (defScope s_l_course_by) .none kV4 dc4 pm4 an4 cd4 ct4), sl4⟩) (c4 : PySem.W.codeIn K cd4 "_law_course_by" = true) (k4 : PySem.W.keepIn K (.ref f4) = true)
    (a5 : PySem.W.nsIn K mainGlobals "is_from" = some (some (.ref f5))) (l5 : K.lookup f5 = some ⟨oc5, od5, .func (PySem.W.fnOf "is_from" "is_from" (defArgs s_is_from) (defBody s_is_from) (defScope s_is_from) .none kV5 dc5 pm5 an5 cd5 ct5), sl5⟩) (c5 : PySem.W.codeIn K cd5 "is_from" = true) (k5 : PySem.W.keepIn K (.ref f5) = true)
    (a6 : PySem.W.nsIn K mainGlobals "is_within" = some (some (.ref f6))) (l6 : K.lookup f6 = some ⟨oc6, od6, .func (PySem.W.fnOf "is_within" "is_within" (defArgs s_is_within) (defBody s_is_within) (defScope s_is_within) .none kV6 dc6 pm6 an6 cd6 ct6), sl6⟩) (c6 : PySem.W.codeIn K cd6 "is_within" = true) (k6 : PySem.W.keepIn K (.ref f6) = true)
    (a7 : PySem.W.nsIn K mainGlobals "_check_weight" = some (some (.ref f7))) (l7 : K.lookup f7 = some ⟨oc7, od7, .func (PySem.W.fnOf "_check_weight" "_check_weight" (defArgs s__check_weight) (defBody s__check_weight) (defScope s__check_weight) .none kV7 dc7 pm7 an7 cd7 ct7), sl7⟩) (c7 : PySem.W.codeIn K cd7 "_check_weight" = true) (k7 : PySem.W.keepIn K (.ref f7) = true)
    (a8 : PySem.W.nsIn K mainGlobals "_check_extras" = some (some (.ref f8))) (l8 : K.lookup f8 = some ⟨oc8, od8, .func (PySem.W.fnOf "_check_extras" "_check_extras" (defArgs s__check_extras) (defBody s__check_extras) (defScope s__check_extras) .none kV8 dc8 pm8 an8 cd8 ct8), sl8⟩) (c8 : PySem.W.codeIn K cd8 "_check_extras" = true) (k8 : PySem.W.keepIn K (.ref f8) = true)
    (a9 : PySem.W.nsIn K mainGlobals "_check_task" = some (some (.ref f9))) (l9 : K.lookup f9 = some ⟨oc9, od9, .func (PySem.W.fnOf "_check_task" "_check_task" (defArgs s__check_task) (defBody s__check_task) (defScope s__check_task) .none kV9 dc9 pm9 an9 cd9 ct9), sl9⟩) (c9 : PySem.W.codeIn K cd9 "_check_task" = true) (k9 : PySem.W.keepIn K (.ref f9) = true)
    (a10 : PySem.W.nsIn K mainGlobals "_check_part" = some (some (.ref f10))) (l10 : K.lookup f10 = some ⟨oc10, od10, .func (PySem.W.fnOf "_check_part" "_check_part" (defArgs s__check_part) (defBody s__check_part) (defScope s__check_part) .none kV10 dc10 pm10 an10 cd10 ct10), sl10⟩) (c10 : PySem.W.codeIn K cd10 "_check_part" = true) (k10 : PySem.W.keepIn K (.ref f10) = true)
    (a11 : PySem.W.nsIn K mainGlobals "checked" = some (some (.ref f11))) (l11 : K.lookup f11 = some ⟨oc11, od11, .func (PySem.W.fnOf "checked" "checked" (defArgs s_checked) (defBody s_checked) (defScope s_checked) .none kV11 dc11 pm11 an11 cd11 ct11), sl11⟩) (c11 : PySem.W.codeIn K cd11 "checked" = true) (k11 : PySem.W.keepIn K (.ref f11) = true)
    (a12 : PySem.W.nsIn K mainGlobals "_law_told" = some (some (.ref f12))) (l12 : K.lookup f12 = some ⟨oc12, od12, .func (PySem.W.fnOf "_law_told" "_law_told" (defArgs s_l_told) (defBody s_l_told) (defScope s_l_told) .none kV12 dc12 pm12 an12 cd12 ct12), sl12⟩) (c12 : PySem.W.codeIn K cd12 "_law_told" = true) (k12 : PySem.W.keepIn K (.ref f12) = true)
    (a13 : PySem.W.nsIn K mainGlobals "_law_within" = some (some (.ref f13))) (l13 : K.lookup f13 = some ⟨oc13, od13, .func (PySem.W.fnOf "_law_within" "_law_within" (defArgs s_l_within) (defBody s_l_within) (defScope s_l_within) .none kV13 dc13 pm13 an13 cd13 ct13), sl13⟩) (c13 : PySem.W.codeIn K cd13 "_law_within" = true) (k13 : PySem.W.keepIn K (.ref f13) = true)
    (a14 : PySem.W.nsIn K mainGlobals "_law_task_due" = some (some (.ref f14))) (l14 : K.lookup f14 = some ⟨oc14, od14, .func (PySem.W.fnOf "_law_task_due" "_law_task_due" (defArgs s_l_task_due) (defBody s_l_task_due) (defScope s_l_task_due) .none kV14 dc14 pm14 an14 cd14 ct14), sl14⟩) (c14 : PySem.W.codeIn K cd14 "_law_task_due" = true) (k14 : PySem.W.keepIn K (.ref f14) = true)
    (a15 : PySem.W.nsIn K mainGlobals "_law_part_due" = some (some (.ref f15))) (l15 : K.lookup f15 = some ⟨oc15, od15, .func (PySem.W.fnOf "_law_part_due" "_law_part_due" (defArgs s_l_part_due) (defBody s_l_part_due) (defScope s_l_part_due) .none kV15 dc15 pm15 an15 cd15 ct15), sl15⟩) (c15 : PySem.W.codeIn K cd15 "_law_part_due" = true) (k15 : PySem.W.keepIn K (.ref f15) = true)
    (a16 : PySem.W.nsIn K mainGlobals "_law_due" = some (some (.ref f16))) (l16 : K.lookup f16 = some ⟨oc16, od16, .func (PySem.W.fnOf "_law_due" "_law_due" (defArgs s_l_due) (defBody s_l_due) (defScope s_l_due) .none kV16 dc16 pm16 an16 cd16 ct16), sl16⟩) (c16 : PySem.W.codeIn K cd16 "_law_due" = true) (k16 : PySem.W.keepIn K (.ref f16) = true)
    (a17 : PySem.W.nsIn K mainGlobals "_law_worse" = some (some (.ref f17))) (l17 : K.lookup f17 = some ⟨oc17, od17, .func (PySem.W.fnOf "_law_worse" "_law_worse" (defArgs s_l_worse) (defBody s_l_worse) (defScope s_l_worse) .none kV17 dc17 pm17 an17 cd17 ct17), sl17⟩) (c17 : PySem.W.codeIn K cd17 "_law_worse" = true) (k17 : PySem.W.keepIn K (.ref f17) = true)
    (a18 : PySem.W.nsIn K mainGlobals "_law_task_changed" = some (some (.ref f18))) (l18 : K.lookup f18 = some ⟨oc18, od18, .func (PySem.W.fnOf "_law_task_changed" "_law_task_changed" (defArgs s_l_task_changed) (defBody s_l_task_changed) (defScope s_l_task_changed) .none kV18 dc18 pm18 an18 cd18 ct18), sl18⟩) (c18 : PySem.W.codeIn K cd18 "_law_task_changed" = true) (k18 : PySem.W.keepIn K (.ref f18) = true)
    (a19 : PySem.W.nsIn K mainGlobals "_law_part_changed" = some (some (.ref f19))) (l19 : K.lookup f19 = some ⟨oc19, od19, .func (PySem.W.fnOf "_law_part_changed" "_law_part_changed" (defArgs s_l_part_changed) (defBody s_l_part_changed) (defScope s_l_part_changed) .none kV19 dc19 pm19 an19 cd19 ct19), sl19⟩) (c19 : PySem.W.codeIn K cd19 "_law_part_changed" = true) (k19 : PySem.W.keepIn K (.ref f19) = true)
    (a20 : PySem.W.nsIn K mainGlobals "_law_listed" = some (some (.ref f20))) (l20 : K.lookup f20 = some ⟨oc20, od20, .func (PySem.W.fnOf "_law_listed" "_law_listed" (defArgs s_l_listed) (defBody s_l_listed) (defScope s_l_listed) .none kV20 dc20 pm20 an20 cd20 ct20), sl20⟩) (c20 : PySem.W.codeIn K cd20 "_law_listed" = true) (k20 : PySem.W.keepIn K (.ref f20) = true)
    (a21 : PySem.W.nsIn K mainGlobals "law" = some (some (.ref f21))) (l21 : K.lookup f21 = some ⟨oc21, od21, .func (PySem.W.fnOf "law" "law" (defArgs s_law) (defBody s_law) (defScope s_law) .none kV21 dc21 pm21 an21 cd21 ct21), sl21⟩) (c21 : PySem.W.codeIn K cd21 "law" = true) (k21 : PySem.W.keepIn K (.ref f21) = true)
    (z_len : PySem.W.nsIn K mainGlobals "len" = some none)
    (z_range : PySem.W.nsIn K mainGlobals "range" = some none)
    (z_tuple : PySem.W.nsIn K mainGlobals "tuple" = some none)
    (z_isinstance : PySem.W.nsIn K mainGlobals "isinstance" = some none)
    (z_bool : PySem.W.nsIn K mainGlobals "bool" = some none)
    (z_int : PySem.W.nsIn K mainGlobals "int" = some none)
    (z_ValueError : PySem.W.nsIn K mainGlobals "ValueError" = some none)
    (z_list : PySem.W.nsIn K mainGlobals "list" = some none)
    (z_MOST_WEIGHT : PySem.W.nsIn K mainGlobals "MOST_WEIGHT" = some (some (.int 1000 t_MOST_WEIGHT)))
    (z_MOST_EXTRAS : PySem.W.nsIn K mainGlobals "MOST_EXTRAS" = some (some (.int 12 t_MOST_EXTRAS)))
    (z_MOST_EXTRA : PySem.W.nsIn K mainGlobals "MOST_EXTRA" = some (some (.int 1000 t_MOST_EXTRA)))
    (z_MOST_TRIES : PySem.W.nsIn K mainGlobals "MOST_TRIES" = some (some (.int 12 t_MOST_TRIES)))
    (z_MOST_POINTS : PySem.W.nsIn K mainGlobals "MOST_POINTS" = some (some (.int 1000000 t_MOST_POINTS)))
    (z_MOST_TASKS : PySem.W.nsIn K mainGlobals "MOST_TASKS" = some (some (.int 8 t_MOST_TASKS)))
    (z_MOST_WORST : PySem.W.nsIn K mainGlobals "MOST_WORST" = some (some (.int 3 t_MOST_WORST)))
    (z_MOST_TOP : PySem.W.nsIn K mainGlobals "MOST_TOP" = some (some (.int 1000 t_MOST_TOP)))
    (z_MOST_PARTS : PySem.W.nsIn K mainGlobals "MOST_PARTS" = some (some (.int 6 t_MOST_PARTS)))
    (z_BadWeight : PySem.W.nsIn K mainGlobals "BadWeight" = some (some (.ref C_BadWeight)))
    (z_TooMany : PySem.W.nsIn K mainGlobals "TooMany" = some (some (.ref C_TooMany)))
    (z_BadExtra : PySem.W.nsIn K mainGlobals "BadExtra" = some (some (.ref C_BadExtra)))
    (z_BadMost : PySem.W.nsIn K mainGlobals "BadMost" = some (some (.ref C_BadMost)))
    (z_BadCap : PySem.W.nsIn K mainGlobals "BadCap" = some (some (.ref C_BadCap)))
    (z_BadMark : PySem.W.nsIn K mainGlobals "BadMark" = some (some (.ref C_BadMark)))
    (z_BadWorst : PySem.W.nsIn K mainGlobals "BadWorst" = some (some (.ref C_BadWorst)))
    (z_BadTop : PySem.W.nsIn K mainGlobals "BadTop" = some (some (.ref C_BadTop)))
    (z_GradeError : PySem.W.nsIn K mainGlobals "GradeError" = some (some (.ref C_GradeError)))
    (z_BadPlace : PySem.W.nsIn K mainGlobals "BadPlace" = some (some (.ref C_BadPlace)))
    (z_BadWish : PySem.W.nsIn K mainGlobals "BadWish" = some (some (.ref C_BadWish)))
    (z_BadStep : PySem.W.nsIn K mainGlobals "BadStep" = some (some (.ref C_BadStep)))
    (x_BadWeight : PySem.W.excIn K C_BadWeight [.type "ValueError", .type "Exception", .type "BaseException", .type "object"] "ValueError.__new__" = true)
    (p_BadWeight : PySem.W.keepIn K (.ref C_BadWeight) = true)
    (s_BadWeight : PySem.W.subIn K (.ref C_BadWeight) (.type "BaseException") = some true)
    (y_BadWeight : PySem.W.typeIn K (.ref C_BadWeight) = some (.type "type"))
    (x_TooMany : PySem.W.excIn K C_TooMany [.type "ValueError", .type "Exception", .type "BaseException", .type "object"] "ValueError.__new__" = true)
    (p_TooMany : PySem.W.keepIn K (.ref C_TooMany) = true)
    (s_TooMany : PySem.W.subIn K (.ref C_TooMany) (.type "BaseException") = some true)
    (y_TooMany : PySem.W.typeIn K (.ref C_TooMany) = some (.type "type"))
    (x_BadExtra : PySem.W.excIn K C_BadExtra [.type "ValueError", .type "Exception", .type "BaseException", .type "object"] "ValueError.__new__" = true)
    (p_BadExtra : PySem.W.keepIn K (.ref C_BadExtra) = true)
    (s_BadExtra : PySem.W.subIn K (.ref C_BadExtra) (.type "BaseException") = some true)
    (y_BadExtra : PySem.W.typeIn K (.ref C_BadExtra) = some (.type "type"))
    (x_BadMost : PySem.W.excIn K C_BadMost [.type "ValueError", .type "Exception", .type "BaseException", .type "object"] "ValueError.__new__" = true)
    (p_BadMost : PySem.W.keepIn K (.ref C_BadMost) = true)
    (s_BadMost : PySem.W.subIn K (.ref C_BadMost) (.type "BaseException") = some true)
    (y_BadMost : PySem.W.typeIn K (.ref C_BadMost) = some (.type "type"))
    (x_BadCap : PySem.W.excIn K C_BadCap [.type "ValueError", .type "Exception", .type "BaseException", .type "object"] "ValueError.__new__" = true)
    (p_BadCap : PySem.W.keepIn K (.ref C_BadCap) = true)
    (s_BadCap : PySem.W.subIn K (.ref C_BadCap) (.type "BaseException") = some true)
    (y_BadCap : PySem.W.typeIn K (.ref C_BadCap) = some (.type "type"))
    (x_BadMark : PySem.W.excIn K C_BadMark [.type "ValueError", .type "Exception", .type "BaseException", .type "object"] "ValueError.__new__" = true)
    (p_BadMark : PySem.W.keepIn K (.ref C_BadMark) = true)
    (s_BadMark : PySem.W.subIn K (.ref C_BadMark) (.type "BaseException") = some true)
    (y_BadMark : PySem.W.typeIn K (.ref C_BadMark) = some (.type "type"))
    (x_BadWorst : PySem.W.excIn K C_BadWorst [.type "ValueError", .type "Exception", .type "BaseException", .type "object"] "ValueError.__new__" = true)
    (p_BadWorst : PySem.W.keepIn K (.ref C_BadWorst) = true)
    (s_BadWorst : PySem.W.subIn K (.ref C_BadWorst) (.type "BaseException") = some true)
    (y_BadWorst : PySem.W.typeIn K (.ref C_BadWorst) = some (.type "type"))
    (x_BadTop : PySem.W.excIn K C_BadTop [.type "ValueError", .type "Exception", .type "BaseException", .type "object"] "ValueError.__new__" = true)
    (p_BadTop : PySem.W.keepIn K (.ref C_BadTop) = true)
    (s_BadTop : PySem.W.subIn K (.ref C_BadTop) (.type "BaseException") = some true)
    (y_BadTop : PySem.W.typeIn K (.ref C_BadTop) = some (.type "type"))
    (ug_TooMany : PySem.W.findIn K (.ref C_TooMany) "__getattribute__" = some (some (.builtin "BaseException.__getattribute__")))
    (uk_TooMany : PySem.W.findIn K (.ref C_TooMany) "__getattr__" = some none)
    (ud_TooMany : PySem.W.hasDictIn K C_TooMany = true)
    (ua_TooMany : PySem.W.findIn K (.ref C_TooMany) "__class__" = some (some (.builtin "object.__class__")))
    (um_TooMany : PySem.W.mroIn K C_TooMany (.type "object") = some true)
    (us_TooMany : PySem.W.subIn K (.ref C_TooMany) (.ref C_GradeError) = some true)
    (uv_TooMany : PySem.W.kitOne K (.ref C_TooMany) (.type "ValueError") = some true)
    (un_TooMany : PySem.W.kitAny K (.ref C_TooMany) [.ref C_BadPlace, .ref C_BadWish, .ref C_BadStep] = some false)
    (kk_TooMany_TooMany : PySem.W.kitOne K (.ref C_TooMany) (.ref C_TooMany) = some true)
    (kk_TooMany_BadWeight : PySem.W.kitOne K (.ref C_TooMany) (.ref C_BadWeight) = some false)
    (kk_TooMany_BadWorst : PySem.W.kitOne K (.ref C_TooMany) (.ref C_BadWorst) = some false)
    (kk_TooMany_BadTop : PySem.W.kitOne K (.ref C_TooMany) (.ref C_BadTop) = some false)
    (kk_TooMany_BadMost : PySem.W.kitOne K (.ref C_TooMany) (.ref C_BadMost) = some false)
    (kk_TooMany_BadCap : PySem.W.kitOne K (.ref C_TooMany) (.ref C_BadCap) = some false)
    (kk_TooMany_BadMark : PySem.W.kitOne K (.ref C_TooMany) (.ref C_BadMark) = some false)
    (kk_TooMany_BadExtra : PySem.W.kitOne K (.ref C_TooMany) (.ref C_BadExtra) = some false)
    (ug_BadWeight : PySem.W.findIn K (.ref C_BadWeight) "__getattribute__" = some (some (.builtin "BaseException.__getattribute__")))
    (uk_BadWeight : PySem.W.findIn K (.ref C_BadWeight) "__getattr__" = some none)
    (ud_BadWeight : PySem.W.hasDictIn K C_BadWeight = true)
    (ua_BadWeight : PySem.W.findIn K (.ref C_BadWeight) "__class__" = some (some (.builtin "object.__class__")))
    (um_BadWeight : PySem.W.mroIn K C_BadWeight (.type "object") = some true)
    (us_BadWeight : PySem.W.subIn K (.ref C_BadWeight) (.ref C_GradeError) = some true)
    (uv_BadWeight : PySem.W.kitOne K (.ref C_BadWeight) (.type "ValueError") = some true)
    (un_BadWeight : PySem.W.kitAny K (.ref C_BadWeight) [.ref C_BadPlace, .ref C_BadWish, .ref C_BadStep] = some false)
    (kk_BadWeight_TooMany : PySem.W.kitOne K (.ref C_BadWeight) (.ref C_TooMany) = some false)
    (kk_BadWeight_BadWeight : PySem.W.kitOne K (.ref C_BadWeight) (.ref C_BadWeight) = some true)
    (kk_BadWeight_BadWorst : PySem.W.kitOne K (.ref C_BadWeight) (.ref C_BadWorst) = some false)
    (kk_BadWeight_BadTop : PySem.W.kitOne K (.ref C_BadWeight) (.ref C_BadTop) = some false)
    (kk_BadWeight_BadMost : PySem.W.kitOne K (.ref C_BadWeight) (.ref C_BadMost) = some false)
    (kk_BadWeight_BadCap : PySem.W.kitOne K (.ref C_BadWeight) (.ref C_BadCap) = some false)
    (kk_BadWeight_BadMark : PySem.W.kitOne K (.ref C_BadWeight) (.ref C_BadMark) = some false)
    (kk_BadWeight_BadExtra : PySem.W.kitOne K (.ref C_BadWeight) (.ref C_BadExtra) = some false)
    (ug_BadWorst : PySem.W.findIn K (.ref C_BadWorst) "__getattribute__" = some (some (.builtin "BaseException.__getattribute__")))
    (uk_BadWorst : PySem.W.findIn K (.ref C_BadWorst) "__getattr__" = some none)
    (ud_BadWorst : PySem.W.hasDictIn K C_BadWorst = true)
    (ua_BadWorst : PySem.W.findIn K (.ref C_BadWorst) "__class__" = some (some (.builtin "object.__class__")))
    (um_BadWorst : PySem.W.mroIn K C_BadWorst (.type "object") = some true)
    (us_BadWorst : PySem.W.subIn K (.ref C_BadWorst) (.ref C_GradeError) = some true)
    (uv_BadWorst : PySem.W.kitOne K (.ref C_BadWorst) (.type "ValueError") = some true)
    (un_BadWorst : PySem.W.kitAny K (.ref C_BadWorst) [.ref C_BadPlace, .ref C_BadWish, .ref C_BadStep] = some false)
    (kk_BadWorst_TooMany : PySem.W.kitOne K (.ref C_BadWorst) (.ref C_TooMany) = some false)
    (kk_BadWorst_BadWeight : PySem.W.kitOne K (.ref C_BadWorst) (.ref C_BadWeight) = some false)
    (kk_BadWorst_BadWorst : PySem.W.kitOne K (.ref C_BadWorst) (.ref C_BadWorst) = some true)
    (kk_BadWorst_BadTop : PySem.W.kitOne K (.ref C_BadWorst) (.ref C_BadTop) = some false)
    (kk_BadWorst_BadMost : PySem.W.kitOne K (.ref C_BadWorst) (.ref C_BadMost) = some false)
    (kk_BadWorst_BadCap : PySem.W.kitOne K (.ref C_BadWorst) (.ref C_BadCap) = some false)
    (kk_BadWorst_BadMark : PySem.W.kitOne K (.ref C_BadWorst) (.ref C_BadMark) = some false)
    (kk_BadWorst_BadExtra : PySem.W.kitOne K (.ref C_BadWorst) (.ref C_BadExtra) = some false)
    (ug_BadTop : PySem.W.findIn K (.ref C_BadTop) "__getattribute__" = some (some (.builtin "BaseException.__getattribute__")))
    (uk_BadTop : PySem.W.findIn K (.ref C_BadTop) "__getattr__" = some none)
    (ud_BadTop : PySem.W.hasDictIn K C_BadTop = true)
    (ua_BadTop : PySem.W.findIn K (.ref C_BadTop) "__class__" = some (some (.builtin "object.__class__")))
    (um_BadTop : PySem.W.mroIn K C_BadTop (.type "object") = some true)
    (us_BadTop : PySem.W.subIn K (.ref C_BadTop) (.ref C_GradeError) = some true)
    (uv_BadTop : PySem.W.kitOne K (.ref C_BadTop) (.type "ValueError") = some true)
    (un_BadTop : PySem.W.kitAny K (.ref C_BadTop) [.ref C_BadPlace, .ref C_BadWish, .ref C_BadStep] = some false)
    (kk_BadTop_TooMany : PySem.W.kitOne K (.ref C_BadTop) (.ref C_TooMany) = some false)
    (kk_BadTop_BadWeight : PySem.W.kitOne K (.ref C_BadTop) (.ref C_BadWeight) = some false)
    (kk_BadTop_BadWorst : PySem.W.kitOne K (.ref C_BadTop) (.ref C_BadWorst) = some false)
    (kk_BadTop_BadTop : PySem.W.kitOne K (.ref C_BadTop) (.ref C_BadTop) = some true)
    (kk_BadTop_BadMost : PySem.W.kitOne K (.ref C_BadTop) (.ref C_BadMost) = some false)
    (kk_BadTop_BadCap : PySem.W.kitOne K (.ref C_BadTop) (.ref C_BadCap) = some false)
    (kk_BadTop_BadMark : PySem.W.kitOne K (.ref C_BadTop) (.ref C_BadMark) = some false)
    (kk_BadTop_BadExtra : PySem.W.kitOne K (.ref C_BadTop) (.ref C_BadExtra) = some false)
    (ug_BadMost : PySem.W.findIn K (.ref C_BadMost) "__getattribute__" = some (some (.builtin "BaseException.__getattribute__")))
    (uk_BadMost : PySem.W.findIn K (.ref C_BadMost) "__getattr__" = some none)
    (ud_BadMost : PySem.W.hasDictIn K C_BadMost = true)
    (ua_BadMost : PySem.W.findIn K (.ref C_BadMost) "__class__" = some (some (.builtin "object.__class__")))
    (um_BadMost : PySem.W.mroIn K C_BadMost (.type "object") = some true)
    (us_BadMost : PySem.W.subIn K (.ref C_BadMost) (.ref C_GradeError) = some true)
    (uv_BadMost : PySem.W.kitOne K (.ref C_BadMost) (.type "ValueError") = some true)
    (un_BadMost : PySem.W.kitAny K (.ref C_BadMost) [.ref C_BadPlace, .ref C_BadWish, .ref C_BadStep] = some false)
    (kk_BadMost_TooMany : PySem.W.kitOne K (.ref C_BadMost) (.ref C_TooMany) = some false)
    (kk_BadMost_BadWeight : PySem.W.kitOne K (.ref C_BadMost) (.ref C_BadWeight) = some false)
    (kk_BadMost_BadWorst : PySem.W.kitOne K (.ref C_BadMost) (.ref C_BadWorst) = some false)
    (kk_BadMost_BadTop : PySem.W.kitOne K (.ref C_BadMost) (.ref C_BadTop) = some false)
    (kk_BadMost_BadMost : PySem.W.kitOne K (.ref C_BadMost) (.ref C_BadMost) = some true)
    (kk_BadMost_BadCap : PySem.W.kitOne K (.ref C_BadMost) (.ref C_BadCap) = some false)
    (kk_BadMost_BadMark : PySem.W.kitOne K (.ref C_BadMost) (.ref C_BadMark) = some false)
    (kk_BadMost_BadExtra : PySem.W.kitOne K (.ref C_BadMost) (.ref C_BadExtra) = some false)
    (ug_BadCap : PySem.W.findIn K (.ref C_BadCap) "__getattribute__" = some (some (.builtin "BaseException.__getattribute__")))
    (uk_BadCap : PySem.W.findIn K (.ref C_BadCap) "__getattr__" = some none)
    (ud_BadCap : PySem.W.hasDictIn K C_BadCap = true)
    (ua_BadCap : PySem.W.findIn K (.ref C_BadCap) "__class__" = some (some (.builtin "object.__class__")))
    (um_BadCap : PySem.W.mroIn K C_BadCap (.type "object") = some true)
    (us_BadCap : PySem.W.subIn K (.ref C_BadCap) (.ref C_GradeError) = some true)
    (uv_BadCap : PySem.W.kitOne K (.ref C_BadCap) (.type "ValueError") = some true)
    (un_BadCap : PySem.W.kitAny K (.ref C_BadCap) [.ref C_BadPlace, .ref C_BadWish, .ref C_BadStep] = some false)
    (kk_BadCap_TooMany : PySem.W.kitOne K (.ref C_BadCap) (.ref C_TooMany) = some false)
    (kk_BadCap_BadWeight : PySem.W.kitOne K (.ref C_BadCap) (.ref C_BadWeight) = some false)
    (kk_BadCap_BadWorst : PySem.W.kitOne K (.ref C_BadCap) (.ref C_BadWorst) = some false)
    (kk_BadCap_BadTop : PySem.W.kitOne K (.ref C_BadCap) (.ref C_BadTop) = some false)
    (kk_BadCap_BadMost : PySem.W.kitOne K (.ref C_BadCap) (.ref C_BadMost) = some false)
    (kk_BadCap_BadCap : PySem.W.kitOne K (.ref C_BadCap) (.ref C_BadCap) = some true)
    (kk_BadCap_BadMark : PySem.W.kitOne K (.ref C_BadCap) (.ref C_BadMark) = some false)
    (kk_BadCap_BadExtra : PySem.W.kitOne K (.ref C_BadCap) (.ref C_BadExtra) = some false)
    (ug_BadMark : PySem.W.findIn K (.ref C_BadMark) "__getattribute__" = some (some (.builtin "BaseException.__getattribute__")))
    (uk_BadMark : PySem.W.findIn K (.ref C_BadMark) "__getattr__" = some none)
    (ud_BadMark : PySem.W.hasDictIn K C_BadMark = true)
    (ua_BadMark : PySem.W.findIn K (.ref C_BadMark) "__class__" = some (some (.builtin "object.__class__")))
    (um_BadMark : PySem.W.mroIn K C_BadMark (.type "object") = some true)
    (us_BadMark : PySem.W.subIn K (.ref C_BadMark) (.ref C_GradeError) = some true)
    (uv_BadMark : PySem.W.kitOne K (.ref C_BadMark) (.type "ValueError") = some true)
    (un_BadMark : PySem.W.kitAny K (.ref C_BadMark) [.ref C_BadPlace, .ref C_BadWish, .ref C_BadStep] = some false)
    (kk_BadMark_TooMany : PySem.W.kitOne K (.ref C_BadMark) (.ref C_TooMany) = some false)
    (kk_BadMark_BadWeight : PySem.W.kitOne K (.ref C_BadMark) (.ref C_BadWeight) = some false)
    (kk_BadMark_BadWorst : PySem.W.kitOne K (.ref C_BadMark) (.ref C_BadWorst) = some false)
    (kk_BadMark_BadTop : PySem.W.kitOne K (.ref C_BadMark) (.ref C_BadTop) = some false)
    (kk_BadMark_BadMost : PySem.W.kitOne K (.ref C_BadMark) (.ref C_BadMost) = some false)
    (kk_BadMark_BadCap : PySem.W.kitOne K (.ref C_BadMark) (.ref C_BadCap) = some false)
    (kk_BadMark_BadMark : PySem.W.kitOne K (.ref C_BadMark) (.ref C_BadMark) = some true)
    (kk_BadMark_BadExtra : PySem.W.kitOne K (.ref C_BadMark) (.ref C_BadExtra) = some false)
    (ug_BadExtra : PySem.W.findIn K (.ref C_BadExtra) "__getattribute__" = some (some (.builtin "BaseException.__getattribute__")))
    (uk_BadExtra : PySem.W.findIn K (.ref C_BadExtra) "__getattr__" = some none)
    (ud_BadExtra : PySem.W.hasDictIn K C_BadExtra = true)
    (ua_BadExtra : PySem.W.findIn K (.ref C_BadExtra) "__class__" = some (some (.builtin "object.__class__")))
    (um_BadExtra : PySem.W.mroIn K C_BadExtra (.type "object") = some true)
    (us_BadExtra : PySem.W.subIn K (.ref C_BadExtra) (.ref C_GradeError) = some true)
    (uv_BadExtra : PySem.W.kitOne K (.ref C_BadExtra) (.type "ValueError") = some true)
    (un_BadExtra : PySem.W.kitAny K (.ref C_BadExtra) [.ref C_BadPlace, .ref C_BadWish, .ref C_BadStep] = some false)
    (kk_BadExtra_TooMany : PySem.W.kitOne K (.ref C_BadExtra) (.ref C_TooMany) = some false)
    (kk_BadExtra_BadWeight : PySem.W.kitOne K (.ref C_BadExtra) (.ref C_BadWeight) = some false)
    (kk_BadExtra_BadWorst : PySem.W.kitOne K (.ref C_BadExtra) (.ref C_BadWorst) = some false)
    (kk_BadExtra_BadTop : PySem.W.kitOne K (.ref C_BadExtra) (.ref C_BadTop) = some false)
    (kk_BadExtra_BadMost : PySem.W.kitOne K (.ref C_BadExtra) (.ref C_BadMost) = some false)
    (kk_BadExtra_BadCap : PySem.W.kitOne K (.ref C_BadExtra) (.ref C_BadCap) = some false)
    (kk_BadExtra_BadMark : PySem.W.kitOne K (.ref C_BadExtra) (.ref C_BadMark) = some false)
    (kk_BadExtra_BadExtra : PySem.W.kitOne K (.ref C_BadExtra) (.ref C_BadExtra) = some true)
    (vn : PySem.W.specialIn K (.builtin "object.__class__") "__get__" = some (some (.builtin "getset_descriptor.__get__")))
    (vt : PySem.W.takesIn K (.builtin "object.__class__") = some true)
    (gs : PySem.W.subIn K (.ref C_GradeError) (.type "BaseException") = some true)
    (gd : PySem.W.hasDictIn K C_GradeError = true)
    (gt : PySem.W.typeIn K (.ref C_GradeError) = some (.type "type"))
    : ∃ fd : FuncData, (∀ (s : Shared) (v : Value), BindsTo s fd ⟨[v], []⟩ [("_law_script", v)]) ∧ ∀ base : Heap, K.In base → base.Ns mainGlobals mg → FnOk l.prog w K mg base CX0 8 fa fd ["_law_script"] (DL.spLaw K) := by
  have m_len := PySem.W.mg_none_of X G z_len
  have m_range := PySem.W.mg_none_of X G z_range
  have m_tuple := PySem.W.mg_none_of X G z_tuple
  have m_isinstance := PySem.W.mg_none_of X G z_isinstance
  have m_bool := PySem.W.mg_none_of X G z_bool
  have m_int := PySem.W.mg_none_of X G z_int
  have m_ValueError := PySem.W.mg_none_of X G z_ValueError
  have m_list := PySem.W.mg_none_of X G z_list
  have m_MOST_WEIGHT := PySem.W.mg_of X G z_MOST_WEIGHT
  have m_MOST_EXTRAS := PySem.W.mg_of X G z_MOST_EXTRAS
  have m_MOST_EXTRA := PySem.W.mg_of X G z_MOST_EXTRA
  have m_MOST_TRIES := PySem.W.mg_of X G z_MOST_TRIES
  have m_MOST_POINTS := PySem.W.mg_of X G z_MOST_POINTS
  have m_MOST_TASKS := PySem.W.mg_of X G z_MOST_TASKS
  have m_MOST_WORST := PySem.W.mg_of X G z_MOST_WORST
  have m_MOST_TOP := PySem.W.mg_of X G z_MOST_TOP
  have m_MOST_PARTS := PySem.W.mg_of X G z_MOST_PARTS
  have m_BadWeight := PySem.W.mg_of X G z_BadWeight
  have m_TooMany := PySem.W.mg_of X G z_TooMany
  have m_BadExtra := PySem.W.mg_of X G z_BadExtra
  have m_BadMost := PySem.W.mg_of X G z_BadMost
  have m_BadCap := PySem.W.mg_of X G z_BadCap
  have m_BadMark := PySem.W.mg_of X G z_BadMark
  have m_BadWorst := PySem.W.mg_of X G z_BadWorst
  have m_BadTop := PySem.W.mg_of X G z_BadTop
  have m_GradeError := PySem.W.mg_of X G z_GradeError
  have m_BadPlace := PySem.W.mg_of X G z_BadPlace
  have m_BadWish := PySem.W.mg_of X G z_BadWish
  have m_BadStep := PySem.W.mg_of X G z_BadStep
  have er_BadWeight : ErrC K mg "BadWeight" := ⟨C_BadWeight, m_BadWeight, x_BadWeight, p_BadWeight, s_BadWeight, y_BadWeight⟩
  have er_TooMany : ErrC K mg "TooMany" := ⟨C_TooMany, m_TooMany, x_TooMany, p_TooMany, s_TooMany, y_TooMany⟩
  have er_BadExtra : ErrC K mg "BadExtra" := ⟨C_BadExtra, m_BadExtra, x_BadExtra, p_BadExtra, s_BadExtra, y_BadExtra⟩
  have er_BadMost : ErrC K mg "BadMost" := ⟨C_BadMost, m_BadMost, x_BadMost, p_BadMost, s_BadMost, y_BadMost⟩
  have er_BadCap : ErrC K mg "BadCap" := ⟨C_BadCap, m_BadCap, x_BadCap, p_BadCap, s_BadCap, y_BadCap⟩
  have er_BadMark : ErrC K mg "BadMark" := ⟨C_BadMark, m_BadMark, x_BadMark, p_BadMark, s_BadMark, y_BadMark⟩
  have er_BadWorst : ErrC K mg "BadWorst" := ⟨C_BadWorst, m_BadWorst, x_BadWorst, p_BadWorst, s_BadWorst, y_BadWorst⟩
  have er_BadTop : ErrC K mg "BadTop" := ⟨C_BadTop, m_BadTop, x_BadTop, p_BadTop, s_BadTop, y_BadTop⟩
  have TF : ToldF K mg C_GradeError C_BadPlace C_BadWish C_BadStep := by
    refine ⟨fun n a1 a2 => ?_, fun n m D C a1 a2 b1 b2 gD gC => ?_⟩
    · match n, a1, a2 with
      | 1, _, _ => exact ⟨C_TooMany, m_TooMany, ⟨ug_TooMany, uk_TooMany, s_TooMany, ud_TooMany, ua_TooMany, vn, vt, um_TooMany⟩, PySem.W.exm_ref gs gd gt us_TooMany, uv_TooMany, un_TooMany⟩
      | 2, _, _ => exact ⟨C_BadWeight, m_BadWeight, ⟨ug_BadWeight, uk_BadWeight, s_BadWeight, ud_BadWeight, ua_BadWeight, vn, vt, um_BadWeight⟩, PySem.W.exm_ref gs gd gt us_BadWeight, uv_BadWeight, un_BadWeight⟩
      | 3, _, _ => exact ⟨C_BadWorst, m_BadWorst, ⟨ug_BadWorst, uk_BadWorst, s_BadWorst, ud_BadWorst, ua_BadWorst, vn, vt, um_BadWorst⟩, PySem.W.exm_ref gs gd gt us_BadWorst, uv_BadWorst, un_BadWorst⟩
      | 4, _, _ => exact ⟨C_BadTop, m_BadTop, ⟨ug_BadTop, uk_BadTop, s_BadTop, ud_BadTop, ua_BadTop, vn, vt, um_BadTop⟩, PySem.W.exm_ref gs gd gt us_BadTop, uv_BadTop, un_BadTop⟩
      | 5, _, _ => exact ⟨C_BadMost, m_BadMost, ⟨ug_BadMost, uk_BadMost, s_BadMost, ud_BadMost, ua_BadMost, vn, vt, um_BadMost⟩, PySem.W.exm_ref gs gd gt us_BadMost, uv_BadMost, un_BadMost⟩
      | 6, _, _ => exact ⟨C_BadCap, m_BadCap, ⟨ug_BadCap, uk_BadCap, s_BadCap, ud_BadCap, ua_BadCap, vn, vt, um_BadCap⟩, PySem.W.exm_ref gs gd gt us_BadCap, uv_BadCap, un_BadCap⟩
      | 7, _, _ => exact ⟨C_BadMark, m_BadMark, ⟨ug_BadMark, uk_BadMark, s_BadMark, ud_BadMark, ua_BadMark, vn, vt, um_BadMark⟩, PySem.W.exm_ref gs gd gt us_BadMark, uv_BadMark, un_BadMark⟩
      | 8, _, _ => exact ⟨C_BadExtra, m_BadExtra, ⟨ug_BadExtra, uk_BadExtra, s_BadExtra, ud_BadExtra, ua_BadExtra, vn, vt, um_BadExtra⟩, PySem.W.exm_ref gs gd gt us_BadExtra, uv_BadExtra, un_BadExtra⟩
    · match n, a1, a2 with
      | 1, _, _ =>
        cases (show Value.ref C_TooMany = .ref D from Option.some.inj (m_TooMany.symm.trans gD))
        match m, b1, b2 with
        | 1, _, _ =>
          cases (show Value.ref C_TooMany = .ref C from Option.some.inj (m_TooMany.symm.trans gC))
          exact kk_TooMany_TooMany
        | 2, _, _ =>
          cases (show Value.ref C_BadWeight = .ref C from Option.some.inj (m_BadWeight.symm.trans gC))
          exact kk_TooMany_BadWeight
        | 3, _, _ =>
          cases (show Value.ref C_BadWorst = .ref C from Option.some.inj (m_BadWorst.symm.trans gC))
          exact kk_TooMany_BadWorst
        | 4, _, _ =>
          cases (show Value.ref C_BadTop = .ref C from Option.some.inj (m_BadTop.symm.trans gC))
          exact kk_TooMany_BadTop
        | 5, _, _ =>
          cases (show Value.ref C_BadMost = .ref C from Option.some.inj (m_BadMost.symm.trans gC))
          exact kk_TooMany_BadMost
        | 6, _, _ =>
          cases (show Value.ref C_BadCap = .ref C from Option.some.inj (m_BadCap.symm.trans gC))
          exact kk_TooMany_BadCap
        | 7, _, _ =>
          cases (show Value.ref C_BadMark = .ref C from Option.some.inj (m_BadMark.symm.trans gC))
          exact kk_TooMany_BadMark
        | 8, _, _ =>
          cases (show Value.ref C_BadExtra = .ref C from Option.some.inj (m_BadExtra.symm.trans gC))
          exact kk_TooMany_BadExtra
      | 2, _, _ =>
        cases (show Value.ref C_BadWeight = .ref D from Option.some.inj (m_BadWeight.symm.trans gD))
        match m, b1, b2 with
        | 1, _, _ =>
          cases (show Value.ref C_TooMany = .ref C from Option.some.inj (m_TooMany.symm.trans gC))
          exact kk_BadWeight_TooMany
        | 2, _, _ =>
          cases (show Value.ref C_BadWeight = .ref C from Option.some.inj (m_BadWeight.symm.trans gC))
          exact kk_BadWeight_BadWeight
        | 3, _, _ =>
          cases (show Value.ref C_BadWorst = .ref C from Option.some.inj (m_BadWorst.symm.trans gC))
          exact kk_BadWeight_BadWorst
        | 4, _, _ =>
          cases (show Value.ref C_BadTop = .ref C from Option.some.inj (m_BadTop.symm.trans gC))
          exact kk_BadWeight_BadTop
        | 5, _, _ =>
          cases (show Value.ref C_BadMost = .ref C from Option.some.inj (m_BadMost.symm.trans gC))
          exact kk_BadWeight_BadMost
        | 6, _, _ =>
          cases (show Value.ref C_BadCap = .ref C from Option.some.inj (m_BadCap.symm.trans gC))
          exact kk_BadWeight_BadCap
        | 7, _, _ =>
          cases (show Value.ref C_BadMark = .ref C from Option.some.inj (m_BadMark.symm.trans gC))
          exact kk_BadWeight_BadMark
        | 8, _, _ =>
          cases (show Value.ref C_BadExtra = .ref C from Option.some.inj (m_BadExtra.symm.trans gC))
          exact kk_BadWeight_BadExtra
      | 3, _, _ =>
        cases (show Value.ref C_BadWorst = .ref D from Option.some.inj (m_BadWorst.symm.trans gD))
        match m, b1, b2 with
        | 1, _, _ =>
          cases (show Value.ref C_TooMany = .ref C from Option.some.inj (m_TooMany.symm.trans gC))
          exact kk_BadWorst_TooMany
        | 2, _, _ =>
          cases (show Value.ref C_BadWeight = .ref C from Option.some.inj (m_BadWeight.symm.trans gC))
          exact kk_BadWorst_BadWeight
        | 3, _, _ =>
          cases (show Value.ref C_BadWorst = .ref C from Option.some.inj (m_BadWorst.symm.trans gC))
          exact kk_BadWorst_BadWorst
        | 4, _, _ =>
          cases (show Value.ref C_BadTop = .ref C from Option.some.inj (m_BadTop.symm.trans gC))
          exact kk_BadWorst_BadTop
        | 5, _, _ =>
          cases (show Value.ref C_BadMost = .ref C from Option.some.inj (m_BadMost.symm.trans gC))
          exact kk_BadWorst_BadMost
        | 6, _, _ =>
          cases (show Value.ref C_BadCap = .ref C from Option.some.inj (m_BadCap.symm.trans gC))
          exact kk_BadWorst_BadCap
        | 7, _, _ =>
          cases (show Value.ref C_BadMark = .ref C from Option.some.inj (m_BadMark.symm.trans gC))
          exact kk_BadWorst_BadMark
        | 8, _, _ =>
          cases (show Value.ref C_BadExtra = .ref C from Option.some.inj (m_BadExtra.symm.trans gC))
          exact kk_BadWorst_BadExtra
      | 4, _, _ =>
        cases (show Value.ref C_BadTop = .ref D from Option.some.inj (m_BadTop.symm.trans gD))
        match m, b1, b2 with
        | 1, _, _ =>
          cases (show Value.ref C_TooMany = .ref C from Option.some.inj (m_TooMany.symm.trans gC))
          exact kk_BadTop_TooMany
        | 2, _, _ =>
          cases (show Value.ref C_BadWeight = .ref C from Option.some.inj (m_BadWeight.symm.trans gC))
          exact kk_BadTop_BadWeight
        | 3, _, _ =>
          cases (show Value.ref C_BadWorst = .ref C from Option.some.inj (m_BadWorst.symm.trans gC))
          exact kk_BadTop_BadWorst
        | 4, _, _ =>
          cases (show Value.ref C_BadTop = .ref C from Option.some.inj (m_BadTop.symm.trans gC))
          exact kk_BadTop_BadTop
        | 5, _, _ =>
          cases (show Value.ref C_BadMost = .ref C from Option.some.inj (m_BadMost.symm.trans gC))
          exact kk_BadTop_BadMost
        | 6, _, _ =>
          cases (show Value.ref C_BadCap = .ref C from Option.some.inj (m_BadCap.symm.trans gC))
          exact kk_BadTop_BadCap
        | 7, _, _ =>
          cases (show Value.ref C_BadMark = .ref C from Option.some.inj (m_BadMark.symm.trans gC))
          exact kk_BadTop_BadMark
        | 8, _, _ =>
          cases (show Value.ref C_BadExtra = .ref C from Option.some.inj (m_BadExtra.symm.trans gC))
          exact kk_BadTop_BadExtra
      | 5, _, _ =>
        cases (show Value.ref C_BadMost = .ref D from Option.some.inj (m_BadMost.symm.trans gD))
        match m, b1, b2 with
        | 1, _, _ =>
          cases (show Value.ref C_TooMany = .ref C from Option.some.inj (m_TooMany.symm.trans gC))
          exact kk_BadMost_TooMany
        | 2, _, _ =>
          cases (show Value.ref C_BadWeight = .ref C from Option.some.inj (m_BadWeight.symm.trans gC))
          exact kk_BadMost_BadWeight
        | 3, _, _ =>
          cases (show Value.ref C_BadWorst = .ref C from Option.some.inj (m_BadWorst.symm.trans gC))
          exact kk_BadMost_BadWorst
        | 4, _, _ =>
          cases (show Value.ref C_BadTop = .ref C from Option.some.inj (m_BadTop.symm.trans gC))
          exact kk_BadMost_BadTop
        | 5, _, _ =>
          cases (show Value.ref C_BadMost = .ref C from Option.some.inj (m_BadMost.symm.trans gC))
          exact kk_BadMost_BadMost
        | 6, _, _ =>
          cases (show Value.ref C_BadCap = .ref C from Option.some.inj (m_BadCap.symm.trans gC))
          exact kk_BadMost_BadCap
        | 7, _, _ =>
          cases (show Value.ref C_BadMark = .ref C from Option.some.inj (m_BadMark.symm.trans gC))
          exact kk_BadMost_BadMark
        | 8, _, _ =>
          cases (show Value.ref C_BadExtra = .ref C from Option.some.inj (m_BadExtra.symm.trans gC))
          exact kk_BadMost_BadExtra
      | 6, _, _ =>
        cases (show Value.ref C_BadCap = .ref D from Option.some.inj (m_BadCap.symm.trans gD))
        match m, b1, b2 with
        | 1, _, _ =>
          cases (show Value.ref C_TooMany = .ref C from Option.some.inj (m_TooMany.symm.trans gC))
          exact kk_BadCap_TooMany
        | 2, _, _ =>
          cases (show Value.ref C_BadWeight = .ref C from Option.some.inj (m_BadWeight.symm.trans gC))
          exact kk_BadCap_BadWeight
        | 3, _, _ =>
          cases (show Value.ref C_BadWorst = .ref C from Option.some.inj (m_BadWorst.symm.trans gC))
          exact kk_BadCap_BadWorst
        | 4, _, _ =>
          cases (show Value.ref C_BadTop = .ref C from Option.some.inj (m_BadTop.symm.trans gC))
          exact kk_BadCap_BadTop
        | 5, _, _ =>
          cases (show Value.ref C_BadMost = .ref C from Option.some.inj (m_BadMost.symm.trans gC))
          exact kk_BadCap_BadMost
        | 6, _, _ =>
          cases (show Value.ref C_BadCap = .ref C from Option.some.inj (m_BadCap.symm.trans gC))
          exact kk_BadCap_BadCap
        | 7, _, _ =>
          cases (show Value.ref C_BadMark = .ref C from Option.some.inj (m_BadMark.symm.trans gC))
          exact kk_BadCap_BadMark
        | 8, _, _ =>
          cases (show Value.ref C_BadExtra = .ref C from Option.some.inj (m_BadExtra.symm.trans gC))
          exact kk_BadCap_BadExtra
      | 7, _, _ =>
        cases (show Value.ref C_BadMark = .ref D from Option.some.inj (m_BadMark.symm.trans gD))
        match m, b1, b2 with
        | 1, _, _ =>
          cases (show Value.ref C_TooMany = .ref C from Option.some.inj (m_TooMany.symm.trans gC))
          exact kk_BadMark_TooMany
        | 2, _, _ =>
          cases (show Value.ref C_BadWeight = .ref C from Option.some.inj (m_BadWeight.symm.trans gC))
          exact kk_BadMark_BadWeight
        | 3, _, _ =>
          cases (show Value.ref C_BadWorst = .ref C from Option.some.inj (m_BadWorst.symm.trans gC))
          exact kk_BadMark_BadWorst
        | 4, _, _ =>
          cases (show Value.ref C_BadTop = .ref C from Option.some.inj (m_BadTop.symm.trans gC))
          exact kk_BadMark_BadTop
        | 5, _, _ =>
          cases (show Value.ref C_BadMost = .ref C from Option.some.inj (m_BadMost.symm.trans gC))
          exact kk_BadMark_BadMost
        | 6, _, _ =>
          cases (show Value.ref C_BadCap = .ref C from Option.some.inj (m_BadCap.symm.trans gC))
          exact kk_BadMark_BadCap
        | 7, _, _ =>
          cases (show Value.ref C_BadMark = .ref C from Option.some.inj (m_BadMark.symm.trans gC))
          exact kk_BadMark_BadMark
        | 8, _, _ =>
          cases (show Value.ref C_BadExtra = .ref C from Option.some.inj (m_BadExtra.symm.trans gC))
          exact kk_BadMark_BadExtra
      | 8, _, _ =>
        cases (show Value.ref C_BadExtra = .ref D from Option.some.inj (m_BadExtra.symm.trans gD))
        match m, b1, b2 with
        | 1, _, _ =>
          cases (show Value.ref C_TooMany = .ref C from Option.some.inj (m_TooMany.symm.trans gC))
          exact kk_BadExtra_TooMany
        | 2, _, _ =>
          cases (show Value.ref C_BadWeight = .ref C from Option.some.inj (m_BadWeight.symm.trans gC))
          exact kk_BadExtra_BadWeight
        | 3, _, _ =>
          cases (show Value.ref C_BadWorst = .ref C from Option.some.inj (m_BadWorst.symm.trans gC))
          exact kk_BadExtra_BadWorst
        | 4, _, _ =>
          cases (show Value.ref C_BadTop = .ref C from Option.some.inj (m_BadTop.symm.trans gC))
          exact kk_BadExtra_BadTop
        | 5, _, _ =>
          cases (show Value.ref C_BadMost = .ref C from Option.some.inj (m_BadMost.symm.trans gC))
          exact kk_BadExtra_BadMost
        | 6, _, _ =>
          cases (show Value.ref C_BadCap = .ref C from Option.some.inj (m_BadCap.symm.trans gC))
          exact kk_BadExtra_BadCap
        | 7, _, _ =>
          cases (show Value.ref C_BadMark = .ref C from Option.some.inj (m_BadMark.symm.trans gC))
          exact kk_BadExtra_BadMark
        | 8, _, _ =>
          cases (show Value.ref C_BadExtra = .ref C from Option.some.inj (m_BadExtra.symm.trans gC))
          exact kk_BadExtra_BadExtra
  have D_l_cell_at : DefAt K mg "_law_cell_at" "_law_cell_at" s_l_cell_at ["_law_script", "_law_k"] := def1 X G (fun _ _ _ _ _ _ us hl => match us, hl with | [_, _], _ => rfl) a0 l0 c0 k0
  have D_l_stream : DefAt K mg "_law_stream" "_law_stream" s_l_stream ["_law_cell", "_law_many"] := def1 X G (fun _ _ _ _ _ _ us hl => match us, hl with | [_, _], _ => rfl) a1 l1 c1 k1
  have D_l_task_by : DefAt K mg "_law_task_by" "_law_task_by" s_l_task_by ["_law_xs"] := def1 X G (fun _ _ _ _ _ _ us hl => match us, hl with | [_], _ => rfl) a2 l2 c2 k2
  have D_l_part_by : DefAt K mg "_law_part_by" "_law_part_by" s_l_part_by ["_law_cell", "_law_most_tasks"] := def1 X G (fun _ _ _ _ _ _ us hl => match us, hl with | [_, _], _ => rfl) a3 l3 c3 k3
  have D_l_course_by : DefAt K mg "_law_course_by" "_law_course_by" s_l_course_by ["_law_script", "_law_first", "_law_most_tasks"] := def1 X G (fun _ _ _ _ _ _ us hl => match us, hl with | [_, _, _], _ => rfl) a4 l4 c4 k4
  have D_is_from : DefAt K mg "is_from" "is_from" s_is_from ["number", "least"] := def1 X G (fun _ _ _ _ _ _ us hl => match us, hl with | [_, _], _ => rfl) a5 l5 c5 k5
  have D_is_within : DefAt K mg "is_within" "is_within" s_is_within ["number", "least", "most"] := def1 X G (fun _ _ _ _ _ _ us hl => match us, hl with | [_, _, _], _ => rfl) a6 l6 c6 k6
  have D__check_weight : DefAt K mg "_check_weight" "_check_weight" s__check_weight ["weight"] := def1 X G (fun _ _ _ _ _ _ us hl => match us, hl with | [_], _ => rfl) a7 l7 c7 k7
  have D__check_extras : DefAt K mg "_check_extras" "_check_extras" s__check_extras ["extras"] := def1 X G (fun _ _ _ _ _ _ us hl => match us, hl with | [_], _ => rfl) a8 l8 c8 k8
  have D__check_task : DefAt K mg "_check_task" "_check_task" s__check_task ["task"] := def1 X G (fun _ _ _ _ _ _ us hl => match us, hl with | [_], _ => rfl) a9 l9 c9 k9
  have D__check_part : DefAt K mg "_check_part" "_check_part" s__check_part ["part"] := def1 X G (fun _ _ _ _ _ _ us hl => match us, hl with | [_], _ => rfl) a10 l10 c10 k10
  have D_checked : DefAt K mg "checked" "checked" s_checked ["course"] := def1 X G (fun _ _ _ _ _ _ us hl => match us, hl with | [_], _ => rfl) a11 l11 c11 k11
  have D_l_told : DefAt K mg "_law_told" "_law_told" s_l_told ["_law_course"] := def1 X G (fun _ _ _ _ _ _ us hl => match us, hl with | [_], _ => rfl) a12 l12 c12 k12
  have D_l_within : DefAt K mg "_law_within" "_law_within" s_l_within ["_law_thing", "_law_low", "_law_high"] := def1 X G (fun _ _ _ _ _ _ us hl => match us, hl with | [_, _, _], _ => rfl) a13 l13 c13 k13
  have D_l_task_due : DefAt K mg "_law_task_due" "_law_task_due" s_l_task_due ["_law_task"] := def1 X G (fun _ _ _ _ _ _ us hl => match us, hl with | [_], _ => rfl) a14 l14 c14 k14
  have D_l_part_due : DefAt K mg "_law_part_due" "_law_part_due" s_l_part_due ["_law_part"] := def1 X G (fun _ _ _ _ _ _ us hl => match us, hl with | [_], _ => rfl) a15 l15 c15 k15
  have D_l_due : DefAt K mg "_law_due" "_law_due" s_l_due ["_law_course"] := def1 X G (fun _ _ _ _ _ _ us hl => match us, hl with | [_], _ => rfl) a16 l16 c16 k16
  have D_l_worse : DefAt K mg "_law_worse" "_law_worse" s_l_worse ["_law_number", "_law_cell"] := def1 X G (fun _ _ _ _ _ _ us hl => match us, hl with | [_, _], _ => rfl) a17 l17 c17 k17
  have D_l_task_changed : DefAt K mg "_law_task_changed" "_law_task_changed" s_l_task_changed ["_law_task", "_law_cell"] := def1 X G (fun _ _ _ _ _ _ us hl => match us, hl with | [_, _], _ => rfl) a18 l18 c18 k18
  have D_l_part_changed : DefAt K mg "_law_part_changed" "_law_part_changed" s_l_part_changed ["_law_part", "_law_cell"] := def1 X G (fun _ _ _ _ _ _ us hl => match us, hl with | [_, _], _ => rfl) a19 l19 c19 k19
  have D_l_listed : DefAt K mg "_law_listed" "_law_listed" s_l_listed ["_law_part"] := def1 X G (fun _ _ _ _ _ _ us hl => match us, hl with | [_], _ => rfl) a20 l20 c20 k20
  have D_law : DefAt K mg "law" "law" s_law ["_law_script"] := def1 X G (fun _ _ _ _ _ _ us hl => match us, hl with | [_], _ => rfl) a21 l21 c21 k21
  refine DL.fn_law D_law hfa fun base => ?_
  have G_l_cell_at := ok_l_cell_at (P := l.prog) (w := w) (K := K) (mg := mg) (base := base) D_l_cell_at m_len
  have G_l_stream := ok_l_stream (P := l.prog) (w := w) (K := K) (mg := mg) (base := base) D_l_stream m_range
  have G_l_task_by := ok_l_task_by (P := l.prog) (w := w) (K := K) (mg := mg) (base := base) D_l_task_by m_range m_tuple
  have G_l_part_by := ok_l_part_by (P := l.prog) (w := w) (K := K) (mg := mg) (base := base) D_l_part_by G_l_stream G_l_task_by m_range m_tuple
  have G_l_course_by := ok_l_course_by (P := l.prog) (w := w) (K := K) (mg := mg) (base := base) D_l_course_by G_l_cell_at G_l_part_by m_range
  have G_is_from := ok_is_from (P := l.prog) (w := w) (K := K) (mg := mg) (base := base) D_is_from m_isinstance m_bool m_int
  have G_is_within := ok_is_within (P := l.prog) (w := w) (K := K) (mg := mg) (base := base) D_is_within G_is_from
  have G__check_weight := ok__check_weight (P := l.prog) (w := w) (K := K) (mg := mg) (base := base) D__check_weight G_is_within ⟨_, m_MOST_WEIGHT⟩ er_BadWeight
  have G__check_extras := ok__check_extras (P := l.prog) (w := w) (K := K) (mg := mg) (base := base) D__check_extras G_is_within ⟨_, m_MOST_EXTRAS⟩ m_len er_TooMany ⟨_, m_MOST_EXTRA⟩ er_BadExtra
  have G__check_task := ok__check_task (P := l.prog) (w := w) (K := K) (mg := mg) (base := base) D__check_task G__check_weight G_is_within ⟨_, m_MOST_TRIES⟩ ⟨_, m_MOST_POINTS⟩ er_BadMost er_BadCap m_len er_TooMany er_BadMark
  have G__check_part := ok__check_part (P := l.prog) (w := w) (K := K) (mg := mg) (base := base) D__check_part G__check_weight G__check_extras G_is_within G__check_task ⟨_, m_MOST_TASKS⟩ ⟨_, m_MOST_WORST⟩ er_BadWorst ⟨_, m_MOST_TOP⟩ er_BadTop m_len er_TooMany
  have G_checked := ok_checked (P := l.prog) (w := w) (K := K) (mg := mg) (base := base) D_checked G__check_part ⟨_, m_MOST_PARTS⟩ m_len er_TooMany
  have G_l_told := ok_l_told (P := l.prog) (w := w) (K := K) (mg := mg) (base := base) D_l_told G_checked m_GradeError m_int m_isinstance m_TooMany m_BadWeight m_BadWorst m_BadTop m_BadMost m_BadCap m_BadMark m_BadExtra m_BadPlace m_BadWish m_BadStep m_ValueError TF
  have G_l_within := ok_l_within (P := l.prog) (w := w) (K := K) (mg := mg) (base := base) D_l_within m_isinstance m_int m_bool
  have G_l_task_due := ok_l_task_due (P := l.prog) (w := w) (K := K) (mg := mg) (base := base) D_l_task_due G_l_within m_len
  have G_l_part_due := ok_l_part_due (P := l.prog) (w := w) (K := K) (mg := mg) (base := base) D_l_part_due G_l_within G_l_task_due m_len
  have G_l_due := ok_l_due (P := l.prog) (w := w) (K := K) (mg := mg) (base := base) D_l_due G_l_part_due m_len
  have G_l_worse := ok_l_worse (P := l.prog) (w := w) (K := K) (mg := mg) (base := base) D_l_worse
  have G_l_task_changed := ok_l_task_changed (P := l.prog) (w := w) (K := K) (mg := mg) (base := base) D_l_task_changed G_l_worse m_len
  have G_l_part_changed := ok_l_part_changed (P := l.prog) (w := w) (K := K) (mg := mg) (base := base) D_l_part_changed G_l_task_changed G_l_worse m_len
  have G_l_listed := ok_l_listed (P := l.prog) (w := w) (K := K) (mg := mg) (base := base) D_l_listed m_list
  have G_law := ok_law (P := l.prog) (w := w) (K := K) (mg := mg) (base := base) D_law G_l_course_by G_l_told G_l_due G_l_cell_at G_l_stream G_l_part_changed G_l_listed m_range m_len m_list m_tuple
  exact G_law
end k12
open PySem PySem.W PyProof.Rows
set_option maxHeartbeats 0 in
theorem PySem.Challenge.cw_gradewish_k12_courses_refused_holds : PySem.Challenge.rw_gradewish_k12_courses_refused.Holds := by
  w_on; o_law; k_head; (case hw => w_witness2)
  k_fill
  refine L2.walk_of (l := PySem.Challenge.rw_gradewish_k12_courses_refused) (n := 63) (k := 8) (x := "_law_script") (CX := fun _ => L2.CX0) (sp := fun w => DL.spLaw _) rfl (by decide) rfl ⟨rfl, by decide, by decide⟩ (fun w h Y => PySem.W.kIn_of Y) ?F (fun _ _ a ns hl _ hS => DL.law_hsp hl hS) (fun _ _ _ _ _ h => h)
  case F =>
    intro w mg fa h KX G hmg
    refine' k12.all_mk KX G hmg ?a0 ?l0 ?c0 ?k0 ?a1 ?l1 ?c1 ?k1 ?a2 ?l2 ?c2 ?k2 ?a3 ?l3 ?c3 ?k3 ?a4 ?l4 ?c4 ?k4 ?a5 ?l5 ?c5 ?k5 ?a6 ?l6 ?c6 ?k6 ?a7 ?l7 ?c7 ?k7 ?a8 ?l8 ?c8 ?k8 ?a9 ?l9 ?c9 ?k9 ?a10 ?l10 ?c10 ?k10 ?a11 ?l11 ?c11 ?k11 ?a12 ?l12 ?c12 ?k12 ?a13 ?l13 ?c13 ?k13 ?a14 ?l14 ?c14 ?k14 ?a15 ?l15 ?c15 ?k15 ?a16 ?l16 ?c16 ?k16 ?a17 ?l17 ?c17 ?k17 ?a18 ?l18 ?c18 ?k18 ?a19 ?l19 ?c19 ?k19 ?a20 ?l20 ?c20 ?k20 ?a21 ?l21 ?c21 ?k21 ?z_len ?z_range ?z_tuple ?z_isinstance ?z_bool ?z_int ?z_ValueError ?z_list ?z_MOST_WEIGHT ?z_MOST_EXTRAS ?z_MOST_EXTRA ?z_MOST_TRIES ?z_MOST_POINTS ?z_MOST_TASKS ?z_MOST_WORST ?z_MOST_TOP ?z_MOST_PARTS ?z_BadWeight ?z_TooMany ?z_BadExtra ?z_BadMost ?z_BadCap ?z_BadMark ?z_BadWorst ?z_BadTop ?z_GradeError ?z_BadPlace ?z_BadWish ?z_BadStep ?x_BadWeight ?p_BadWeight ?s_BadWeight ?y_BadWeight ?x_TooMany ?p_TooMany ?s_TooMany ?y_TooMany ?x_BadExtra ?p_BadExtra ?s_BadExtra ?y_BadExtra ?x_BadMost ?p_BadMost ?s_BadMost ?y_BadMost ?x_BadCap ?p_BadCap ?s_BadCap ?y_BadCap ?x_BadMark ?p_BadMark ?s_BadMark ?y_BadMark ?x_BadWorst ?p_BadWorst ?s_BadWorst ?y_BadWorst ?x_BadTop ?p_BadTop ?s_BadTop ?y_BadTop ?ug_TooMany ?uk_TooMany ?ud_TooMany ?ua_TooMany ?um_TooMany ?us_TooMany ?uv_TooMany ?un_TooMany ?kk_TooMany_TooMany ?kk_TooMany_BadWeight ?kk_TooMany_BadWorst ?kk_TooMany_BadTop ?kk_TooMany_BadMost ?kk_TooMany_BadCap ?kk_TooMany_BadMark ?kk_TooMany_BadExtra ?ug_BadWeight ?uk_BadWeight ?ud_BadWeight ?ua_BadWeight ?um_BadWeight ?us_BadWeight ?uv_BadWeight ?un_BadWeight ?kk_BadWeight_TooMany ?kk_BadWeight_BadWeight ?kk_BadWeight_BadWorst ?kk_BadWeight_BadTop ?kk_BadWeight_BadMost ?kk_BadWeight_BadCap ?kk_BadWeight_BadMark ?kk_BadWeight_BadExtra ?ug_BadWorst ?uk_BadWorst ?ud_BadWorst ?ua_BadWorst ?um_BadWorst ?us_BadWorst ?uv_BadWorst ?un_BadWorst ?kk_BadWorst_TooMany ?kk_BadWorst_BadWeight ?kk_BadWorst_BadWorst ?kk_BadWorst_BadTop ?kk_BadWorst_BadMost ?kk_BadWorst_BadCap ?kk_BadWorst_BadMark ?kk_BadWorst_BadExtra ?ug_BadTop ?uk_BadTop ?ud_BadTop ?ua_BadTop ?um_BadTop ?us_BadTop ?uv_BadTop ?un_BadTop ?kk_BadTop_TooMany ?kk_BadTop_BadWeight ?kk_BadTop_BadWorst ?kk_BadTop_BadTop ?kk_BadTop_BadMost ?kk_BadTop_BadCap ?kk_BadTop_BadMark ?kk_BadTop_BadExtra ?ug_BadMost ?uk_BadMost ?ud_BadMost ?ua_BadMost ?um_BadMost ?us_BadMost ?uv_BadMost ?un_BadMost ?kk_BadMost_TooMany ?kk_BadMost_BadWeight ?kk_BadMost_BadWorst ?kk_BadMost_BadTop ?kk_BadMost_BadMost ?kk_BadMost_BadCap ?kk_BadMost_BadMark ?kk_BadMost_BadExtra ?ug_BadCap ?uk_BadCap ?ud_BadCap ?ua_BadCap ?um_BadCap ?us_BadCap ?uv_BadCap ?un_BadCap ?kk_BadCap_TooMany ?kk_BadCap_BadWeight ?kk_BadCap_BadWorst ?kk_BadCap_BadTop ?kk_BadCap_BadMost ?kk_BadCap_BadCap ?kk_BadCap_BadMark ?kk_BadCap_BadExtra ?ug_BadMark ?uk_BadMark ?ud_BadMark ?ua_BadMark ?um_BadMark ?us_BadMark ?uv_BadMark ?un_BadMark ?kk_BadMark_TooMany ?kk_BadMark_BadWeight ?kk_BadMark_BadWorst ?kk_BadMark_BadTop ?kk_BadMark_BadMost ?kk_BadMark_BadCap ?kk_BadMark_BadMark ?kk_BadMark_BadExtra ?ug_BadExtra ?uk_BadExtra ?ud_BadExtra ?ua_BadExtra ?um_BadExtra ?us_BadExtra ?uv_BadExtra ?un_BadExtra ?kk_BadExtra_TooMany ?kk_BadExtra_BadWeight ?kk_BadExtra_BadWorst ?kk_BadExtra_BadTop ?kk_BadExtra_BadMost ?kk_BadExtra_BadCap ?kk_BadExtra_BadMark ?kk_BadExtra_BadExtra ?vn ?vt ?gs ?gd ?gt
    (case a0 => k_is); (case l0 => k_is); (case c0 => k_is); (case k0 => k_is); (case a1 => k_is); (case l1 => k_is); (case c1 => k_is); (case k1 => k_is); (case a2 => k_is); (case l2 => k_is); (case c2 => k_is); (case k2 => k_is); (case a3 => k_is); (case l3 => k_is); (case c3 => k_is); (case k3 => k_is); (case a4 => k_is); (case l4 => k_is); (case c4 => k_is); (case k4 => k_is); (case a5 => k_is); (case l5 => k_is); (case c5 => k_is); (case k5 => k_is); (case a6 => k_is); (case l6 => k_is); (case c6 => k_is); (case k6 => k_is); (case a7 => k_is); (case l7 => k_is); (case c7 => k_is); (case k7 => k_is); (case a8 => k_is); (case l8 => k_is); (case c8 => k_is); (case k8 => k_is); (case a9 => k_is); (case l9 => k_is); (case c9 => k_is); (case k9 => k_is); (case a10 => k_is); (case l10 => k_is); (case c10 => k_is); (case k10 => k_is); (case a11 => k_is); (case l11 => k_is); (case c11 => k_is); (case k11 => k_is); (case a12 => k_is); (case l12 => k_is); (case c12 => k_is); (case k12 => k_is); (case a13 => k_is); (case l13 => k_is); (case c13 => k_is); (case k13 => k_is); (case a14 => k_is); (case l14 => k_is); (case c14 => k_is); (case k14 => k_is); (case a15 => k_is); (case l15 => k_is); (case c15 => k_is); (case k15 => k_is); (case a16 => k_is); (case l16 => k_is); (case c16 => k_is); (case k16 => k_is); (case a17 => k_is); (case l17 => k_is); (case c17 => k_is); (case k17 => k_is); (case a18 => k_is); (case l18 => k_is); (case c18 => k_is); (case k18 => k_is); (case a19 => k_is); (case l19 => k_is); (case c19 => k_is); (case k19 => k_is); (case a20 => k_is); (case l20 => k_is); (case c20 => k_is); (case k20 => k_is); (case a21 => k_is); (case l21 => k_is); (case c21 => k_is); (case k21 => k_is); (case z_len => k_is); (case z_range => k_is); (case z_tuple => k_is); (case z_isinstance => k_is); (case z_bool => k_is); (case z_int => k_is); (case z_ValueError => k_is); (case z_list => k_is); (case z_MOST_WEIGHT => k_is); (case z_MOST_EXTRAS => k_is); (case z_MOST_EXTRA => k_is); (case z_MOST_TRIES => k_is); (case z_MOST_POINTS => k_is); (case z_MOST_TASKS => k_is); (case z_MOST_WORST => k_is); (case z_MOST_TOP => k_is); (case z_MOST_PARTS => k_is); (case z_BadWeight => k_is); (case z_TooMany => k_is); (case z_BadExtra => k_is); (case z_BadMost => k_is); (case z_BadCap => k_is); (case z_BadMark => k_is); (case z_BadWorst => k_is); (case z_BadTop => k_is); (case z_GradeError => k_is); (case z_BadPlace => k_is); (case z_BadWish => k_is); (case z_BadStep => k_is); (case x_BadWeight => k_exc); (case p_BadWeight => k_is); (case s_BadWeight => k_is); (case y_BadWeight => k_is); (case x_TooMany => k_exc); (case p_TooMany => k_is); (case s_TooMany => k_is); (case y_TooMany => k_is); (case x_BadExtra => k_exc); (case p_BadExtra => k_is); (case s_BadExtra => k_is); (case y_BadExtra => k_is); (case x_BadMost => k_exc); (case p_BadMost => k_is); (case s_BadMost => k_is); (case y_BadMost => k_is); (case x_BadCap => k_exc); (case p_BadCap => k_is); (case s_BadCap => k_is); (case y_BadCap => k_is); (case x_BadMark => k_exc); (case p_BadMark => k_is); (case s_BadMark => k_is); (case y_BadMark => k_is); (case x_BadWorst => k_exc); (case p_BadWorst => k_is); (case s_BadWorst => k_is); (case y_BadWorst => k_is); (case x_BadTop => k_exc); (case p_BadTop => k_is); (case s_BadTop => k_is); (case y_BadTop => k_is); (case ug_TooMany => k_is); (case uk_TooMany => k_is); (case ud_TooMany => k_is); (case ua_TooMany => k_is); (case um_TooMany => k_is); (case us_TooMany => k_is); (case uv_TooMany => kit_is); (case un_TooMany => kit_is); (case kk_TooMany_TooMany => kit_is); (case kk_TooMany_BadWeight => kit_is); (case kk_TooMany_BadWorst => kit_is); (case kk_TooMany_BadTop => kit_is); (case kk_TooMany_BadMost => kit_is); (case kk_TooMany_BadCap => kit_is); (case kk_TooMany_BadMark => kit_is); (case kk_TooMany_BadExtra => kit_is); (case ug_BadWeight => k_is); (case uk_BadWeight => k_is); (case ud_BadWeight => k_is); (case ua_BadWeight => k_is); (case um_BadWeight => k_is); (case us_BadWeight => k_is); (case uv_BadWeight => kit_is); (case un_BadWeight => kit_is); (case kk_BadWeight_TooMany => kit_is); (case kk_BadWeight_BadWeight => kit_is); (case kk_BadWeight_BadWorst => kit_is); (case kk_BadWeight_BadTop => kit_is); (case kk_BadWeight_BadMost => kit_is); (case kk_BadWeight_BadCap => kit_is); (case kk_BadWeight_BadMark => kit_is); (case kk_BadWeight_BadExtra => kit_is); (case ug_BadWorst => k_is); (case uk_BadWorst => k_is); (case ud_BadWorst => k_is); (case ua_BadWorst => k_is); (case um_BadWorst => k_is); (case us_BadWorst => k_is); (case uv_BadWorst => kit_is); (case un_BadWorst => kit_is); (case kk_BadWorst_TooMany => kit_is); (case kk_BadWorst_BadWeight => kit_is); (case kk_BadWorst_BadWorst => kit_is); (case kk_BadWorst_BadTop => kit_is); (case kk_BadWorst_BadMost => kit_is); (case kk_BadWorst_BadCap => kit_is); (case kk_BadWorst_BadMark => kit_is); (case kk_BadWorst_BadExtra => kit_is); (case ug_BadTop => k_is); (case uk_BadTop => k_is); (case ud_BadTop => k_is); (case ua_BadTop => k_is); (case um_BadTop => k_is); (case us_BadTop => k_is); (case uv_BadTop => kit_is); (case un_BadTop => kit_is); (case kk_BadTop_TooMany => kit_is); (case kk_BadTop_BadWeight => kit_is); (case kk_BadTop_BadWorst => kit_is); (case kk_BadTop_BadTop => kit_is); (case kk_BadTop_BadMost => kit_is); (case kk_BadTop_BadCap => kit_is); (case kk_BadTop_BadMark => kit_is); (case kk_BadTop_BadExtra => kit_is); (case ug_BadMost => k_is); (case uk_BadMost => k_is); (case ud_BadMost => k_is); (case ua_BadMost => k_is); (case um_BadMost => k_is); (case us_BadMost => k_is); (case uv_BadMost => kit_is); (case un_BadMost => kit_is); (case kk_BadMost_TooMany => kit_is); (case kk_BadMost_BadWeight => kit_is); (case kk_BadMost_BadWorst => kit_is); (case kk_BadMost_BadTop => kit_is); (case kk_BadMost_BadMost => kit_is); (case kk_BadMost_BadCap => kit_is); (case kk_BadMost_BadMark => kit_is); (case kk_BadMost_BadExtra => kit_is); (case ug_BadCap => k_is); (case uk_BadCap => k_is); (case ud_BadCap => k_is); (case ua_BadCap => k_is); (case um_BadCap => k_is); (case us_BadCap => k_is); (case uv_BadCap => kit_is); (case un_BadCap => kit_is); (case kk_BadCap_TooMany => kit_is); (case kk_BadCap_BadWeight => kit_is); (case kk_BadCap_BadWorst => kit_is); (case kk_BadCap_BadTop => kit_is); (case kk_BadCap_BadMost => kit_is); (case kk_BadCap_BadCap => kit_is); (case kk_BadCap_BadMark => kit_is); (case kk_BadCap_BadExtra => kit_is); (case ug_BadMark => k_is); (case uk_BadMark => k_is); (case ud_BadMark => k_is); (case ua_BadMark => k_is); (case um_BadMark => k_is); (case us_BadMark => k_is); (case uv_BadMark => kit_is); (case un_BadMark => kit_is); (case kk_BadMark_TooMany => kit_is); (case kk_BadMark_BadWeight => kit_is); (case kk_BadMark_BadWorst => kit_is); (case kk_BadMark_BadTop => kit_is); (case kk_BadMark_BadMost => kit_is); (case kk_BadMark_BadCap => kit_is); (case kk_BadMark_BadMark => kit_is); (case kk_BadMark_BadExtra => kit_is); (case ug_BadExtra => k_is); (case uk_BadExtra => k_is); (case ud_BadExtra => k_is); (case ua_BadExtra => k_is); (case um_BadExtra => k_is); (case us_BadExtra => k_is); (case uv_BadExtra => kit_is); (case un_BadExtra => kit_is); (case kk_BadExtra_TooMany => kit_is); (case kk_BadExtra_BadWeight => kit_is); (case kk_BadExtra_BadWorst => kit_is); (case kk_BadExtra_BadTop => kit_is); (case kk_BadExtra_BadMost => kit_is); (case kk_BadExtra_BadCap => kit_is); (case kk_BadExtra_BadMark => kit_is); (case kk_BadExtra_BadExtra => kit_is); (case vn => k_is); (case vt => k_is); (case gs => k_is); (case gd => k_is); (case gt => k_is)
