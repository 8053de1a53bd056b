import PyProof.Rows.All
import Wide.All
import OpenK.AllK
import Wide.FinOn
import HandS.ForMost
import HandS.Evl
import HandS.Gcd
import HandS.IsInst
import HandS.Wide
import HandS.Style
import HandS.TupAny
import HandS.TupMul
import KE.KTupSum
import HandS.SortKw
import HandS.SetFor
import KE.DataMinMax
import KE.GoesEnum
import PySem.Challenge.RW_gradewish_k02_marks
set_option Elab.async false
set_option linter.all false
set_option maxRecDepth 100000
set_option maxHeartbeats 2000000
/-! DL: a layer over readings that speaks of data (PyData) alone: no heap, no addresses. -/
namespace DL
open PySem L2

abbrev Dt := PyData

/-! ### data stays -/
mutual
theorem dp_ex {K : PySem.W.Frag} {F G : Hp} (e : Evl.Ex F G) : ∀ (d : Dt) (v : V), Dp K F v d → Dp K G v d
  | .none, _, h => by cases h; exact .non
  | .bool _, _, h => by cases h; exact .bl _
  | .int _, _, h => by cases h; exact .int _
  | .str _, _, h => by cases h; exact .str _
  | .list ds, _, h => by
    cases h with
    | lst s a => exact .lst (Evl.ex_l e s) (dpAll_ex e ds _ a)
  | .tuple ds, _, h => by
    cases h with
    | tup s a => exact .tup (Evl.ex_t e s) (dpAll_ex e ds _ a)
  | .dict _, _, h => by cases h
theorem dpAll_ex {K : PySem.W.Frag} {F G : Hp} (e : Evl.Ex F G) : ∀ (ds : List Dt) (vs : List V), DpAll K F vs ds → DpAll K G vs ds
  | [], _, h => by cases h; exact .nil
  | d :: ds, _, h => by
    cases h with
    | cons a b => exact .cons (dp_ex e d _ a) (dpAll_ex e ds _ b)
end
theorem dpAll_len {K : PySem.W.Frag} {F : Hp} : ∀ {vs : List V} {ds : List Dt}, DpAll K F vs ds → vs.length = ds.length
  | _, _, .nil => rfl
  | _, _, .cons _ b => by rw [List.length_cons, List.length_cons, dpAll_len b]
theorem dpAll_get {K : PySem.W.Frag} {F : Hp} : ∀ {ds : List Dt} {vs : List V} {i : Nat} {d : Dt}, DpAll K F vs ds → ds[i]? = some d → ∃ v, vs[i]? = some v ∧ Dp K F v d
  | [], _, _, _, _, h => by simp at h
  | x :: xs, _, 0, d, .cons a _, h => ⟨_, rfl, by
    have e : x = d := by simpa using h
    rw [← e]; exact a⟩
  | x :: xs, _, i + 1, d, .cons _ b, h => by
    obtain ⟨v, h1, h2⟩ := dpAll_get b (i := i) (d := d) (by simpa using h)
    exact ⟨v, by simpa using h1, h2⟩
theorem dpAll_get' {K : PySem.W.Frag} {F : Hp} : ∀ {ds : List Dt} {vs : List V} {i : Nat} {v : V}, DpAll K F vs ds → vs[i]? = some v → ∃ d, ds[i]? = some d ∧ Dp K F v d
  | _, _, _, _, .nil, h => by simp at h
  | _, _, 0, v, .cons (d := d) a _, h => ⟨d, rfl, by
    have e := Option.some.inj (show some _ = some v from by simpa using h)
    rw [← e]; exact a⟩
  | _, _, i + 1, v, .cons _ b, h => by
    obtain ⟨d, h1, h2⟩ := dpAll_get' b (i := i) (v := v) (by simpa using h)
    exact ⟨d, by simpa using h1, h2⟩
theorem dpAll_app {K : PySem.W.Frag} {F : Hp} : ∀ {xs ys : List V} {ds es : List Dt}, DpAll K F xs ds → DpAll K F ys es → DpAll K F (xs ++ ys) (ds ++ es)
  | _, _, _, _, .nil, h => h
  | _, _, _, _, .cons a b, h => .cons a (dpAll_app b h)
theorem dpAll_drop {K : PySem.W.Frag} {F : Hp} : ∀ (n : Nat) {xs : List V} {ds : List Dt}, DpAll K F xs ds → DpAll K F (xs.drop n) (ds.drop n)
  | 0, _, _, h => h
  | _ + 1, _, _, .nil => .nil
  | n + 1, _, _, .cons _ b => dpAll_drop n b
theorem dpAll_take {K : PySem.W.Frag} {F : Hp} : ∀ (n : Nat) {xs : List V} {ds : List Dt}, DpAll K F xs ds → DpAll K F (xs.take n) (ds.take n)
  | 0, _, _, _ => .nil
  | _ + 1, _, _, .nil => .nil
  | n + 1, _, _, .cons a b => .cons a (dpAll_take n b)
theorem dpAll_set {K : PySem.W.Frag} {F : Hp} {v : V} {d : Dt} (h : Dp K F v d) : ∀ (n : Nat) {xs : List V} {ds : List Dt}, DpAll K F xs ds → DpAll K F (xs.set n v) (ds.set n d)
  | _, _, _, .nil => .nil
  | 0, _, _, .cons _ b => .cons h b
  | n + 1, _, _, .cons a b => .cons a (dpAll_set h n b)
theorem dpAll_rep {K : PySem.W.Frag} {F : Hp} {xs : List V} {ds : List Dt} (h : DpAll K F xs ds) : ∀ n : Nat, DpAll K F (List.replicate n xs).flatten (List.replicate n ds).flatten
  | 0 => .nil
  | n + 1 => by
    rw [List.replicate_succ, List.replicate_succ, List.flatten_cons, List.flatten_cons]
    exact dpAll_app h (dpAll_rep h n)
/-- flat data: the value hangs on the data alone -/
def flat : Dt → Option V
  | .none => some .non
  | .bool b => some (.bl b)
  | .int i => some (.int i)
  | .str x => some (.str x)
  | _ => Option.none
theorem dp_flat {K : PySem.W.Frag} {F : Hp} {d : Dt} {v w : V} (h : Dp K F v d) (f : flat d = some w) : v = w := by
  cases h <;> (unfold flat at f; first | exact Option.some.inj f | cases f)
theorem dp_int {K : PySem.W.Frag} {F : Hp} {i : Int} {v : V} (h : Dp K F v (.int i)) : v = .int i := dp_flat h rfl
theorem dp_bl {K : PySem.W.Frag} {F : Hp} {i : Bool} {v : V} (h : Dp K F v (.bool i)) : v = .bl i := dp_flat h rfl
theorem dp_non {K : PySem.W.Frag} {F : Hp} {v : V} (h : Dp K F v .none) : v = .non := dp_flat h rfl
theorem dp_str {K : PySem.W.Frag} {F : Hp} {i : Str} {v : V} (h : Dp K F v (.str i)) : v = .str i := dp_flat h rfl
theorem dp_list {K : PySem.W.Frag} {F : Hp} {ds : List Dt} {v : V} (h : Dp K F v (.list ds)) : ∃ p vs, v = .ref p ∧ SqL K F p vs ∧ DpAll K F vs ds := by
  cases h with
  | lst s a => exact ⟨_, _, rfl, s, a⟩
theorem dp_tup {K : PySem.W.Frag} {F : Hp} {ds : List Dt} {v : V} (h : Dp K F v (.tuple ds)) : ∃ p vs, v = .ref p ∧ SqT K F p vs ∧ DpAll K F vs ds := by
  cases h with
  | tup s a => exact ⟨_, _, rfl, s, a⟩
/-- intsD -/
def intsD (ns : List Int) : List Dt := ns.map .int
theorem dpAll_ints {K : PySem.W.Frag} {F : Hp} : ∀ {ns : List Int} {vs : List V}, DpAll K F vs (intsD ns) → vs = ns.map V.int
  | [], _, h => by cases h; rfl
  | n :: ns, _, h => by
    cases h with
    | cons a b => rw [dp_int a, dpAll_ints b]; rfl
theorem dpAll_of_ints {K : PySem.W.Frag} {F : Hp} : ∀ (ns : List Int), DpAll K F (ns.map V.int) (intsD ns)
  | [] => .nil
  | n :: ns => .cons (.int n) (dpAll_of_ints ns)

/-! ### the step from (F, H) to (F', H'): F what never changes, H all that is tracked -/
structure Nx (F H F' H' : Hp) : Prop where
  f : Evl.Ex F F'
  h : Evl.Ex H H'
  i : Evl.Ex F' H'
  o : ∀ p, H p ≠ none → F p = none → F' p = none
theorem Nx.refl {F H : Hp} (i : Evl.Ex F H) : Nx F H F H := ⟨.refl _, .refl _, i, fun _ _ h => h⟩
theorem ex_some {F G : Hp} (e : Evl.Ex F G) {p : Addr} (h : F p ≠ none) : G p ≠ none := by
  cases q : F p with
  | none => exact absurd q h
  | some o => rw [e p o q]; exact fun z => nomatch z
theorem Nx.trans {F H F1 H1 F2 H2 : Hp} (a : Nx F H F1 H1) (b : Nx F1 H1 F2 H2) : Nx F H F2 H2 :=
  ⟨a.f.trans b.f, a.h.trans b.h, b.i, fun p hp fp => b.o p (ex_some a.h hp) (a.o p hp fp)⟩
/-- a new object, laid in both -/
theorem upd_ex {F H : Hp} {p : Addr} {o : HO} (e : Evl.Ex F H) : Evl.Ex (upd F p o) (upd H p o) := fun a u h => by
  by_cases q : a = p
  · subst q; rw [upd_same] at h ⊢; exact h
  · rw [upd_ne q] at h ⊢; exact e a u h
theorem none_back {F H : Hp} (e : Evl.Ex F H) {p : Addr} (h : H p = none) : F p = none := Evl.fresh_back e h
theorem Nx.both {F H : Hp} (i : Evl.Ex F H) {p : Addr} {o : HO} (h : H p = none) : Nx F H (upd F p o) (upd H p o) :=
  ⟨Evl.Ex.new (none_back i h), Evl.Ex.new h, upd_ex i, fun q hq fq => by
    have ne : q ≠ p := fun e => by subst e; exact hq h
    rw [upd_ne ne]; exact fq⟩
/-- .. in H alone: an own one -/
theorem Nx.own {F H : Hp} (i : Evl.Ex F H) {p : Addr} {o : HO} (h : H p = none) : Nx F H F (upd H p o) :=
  ⟨.refl _, Evl.Ex.new h, i.trans (Evl.Ex.new h), fun q hq fq => fq⟩
/-- an own object is shut: from now on it never changes -/
theorem ex_shut {F H : Hp} {p : Addr} {o : HO} (i : Evl.Ex F H) (h : H p = some o) : Evl.Ex (upd F p o) H := fun a u e => by
  by_cases q : a = p
  · subst q; rw [upd_same] at e; rw [h]; exact e
  · rw [upd_ne q] at e; exact i a u e
/-- new behind F0 H0, own in F H: shut -/
theorem Nx.shut {F0 H0 F H : Hp} (n : Nx F0 H0 F H) {p : Addr} {o : HO} (h0 : H0 p = none) (hF : F p = none) (h : H p = some o) : Nx F0 H0 (upd F p o) H :=
  ⟨n.f.trans (Evl.Ex.new hF), n.h, ex_shut n.i h, fun q hq fq => by
    have ne : q ≠ p := fun e => by subst e; exact hq h0
    rw [upd_ne ne]; exact n.o q hq fq⟩

/-! ### slots -/
inductive Sl where
  | any
  | dat (d : Dt)
  | own (ds : List Dt)
  | ref (a : Addr)
def SlOk (K : PySem.W.Frag) (H0 F H : Hp) : Option V → Sl → Prop
  | _, .any => True
  | o, .dat d => ∃ v, o = some v ∧ Dp K F v d
  | o, .own ds => ∃ p vs, o = some (.ref p) ∧ H0 p = none ∧ F p = none ∧ H p = some (.lst vs) ∧ DpAll K F vs ds
  | o, .ref a => o = some (.ref a)
structure Env (K : PySem.W.Frag) (F0 H0 F H : Hp) (σ : L2.St) (ρ : List Sl) : Prop where
  g : Nx F0 H0 F H
  len : σ.length = ρ.length
  sl : ∀ (i : Nat) (x : Sl), ρ[i]? = some x → ∃ o, σ[i]? = some o ∧ SlOk K H0 F H o x
  ap : ∀ (i j : Nat) (ds es : List Dt) (p : Addr), ρ[i]? = some (.own ds) → ρ[j]? = some (.own es) → σ[i]? = some (some (.ref p)) → σ[j]? = some (some (.ref p)) → i = j
theorem SlOk.step {K : PySem.W.Frag} {H0 F H F' H' : Hp} (n : Nx F H F' H') : ∀ {o : Option V} {x : Sl}, SlOk K H0 F H o x → SlOk K H0 F' H' o x
  | _, .any, _ => True.intro
  | _, .dat d, h => by
    obtain ⟨v, e, q⟩ := h
    exact ⟨v, e, dp_ex n.f _ _ q⟩
  | _, .ref _, h => h
  | _, .own ds, h => by
    obtain ⟨p, vs, e, h0, hF, hH, q⟩ := h
    exact ⟨p, vs, e, h0, n.o p (by rw [hH]; exact fun z => nomatch z) hF, n.h p _ hH, dpAll_ex n.f _ _ q⟩
section
variable {K : PySem.W.Frag} {F0 H0 F H F' H' : Hp} {σ : L2.St} {ρ : List Sl}
theorem Env.step (E : Env K F0 H0 F H σ ρ) (n : Nx F H F' H') : Env K F0 H0 F' H' σ ρ :=
  ⟨E.g.trans n, E.len, fun i x h => by
    obtain ⟨o, h1, h2⟩ := E.sl i x h
    exact ⟨o, h1, h2.step n⟩, E.ap⟩
theorem Env.dat (E : Env K F0 H0 F H σ ρ) {i : Nat} {d : Dt} (h : ρ[i]? = some (.dat d)) : ∃ v, σ[i]? = some (some v) ∧ Dp K F v d := by
  obtain ⟨o, h1, v, rfl, h2⟩ := E.sl i _ h
  exact ⟨v, h1, h2⟩
theorem Env.own (E : Env K F0 H0 F H σ ρ) {i : Nat} {ds : List Dt} (h : ρ[i]? = some (.own ds)) : ∃ p vs, σ[i]? = some (some (.ref p)) ∧ H0 p = none ∧ F p = none ∧ H p = some (.lst vs) ∧ DpAll K F vs ds := by
  obtain ⟨o, h1, p, vs, rfl, h2⟩ := E.sl i _ h
  exact ⟨p, vs, h1, h2⟩
theorem get_set {α : Type} {l : List α} {i j : Nat} {x y : α} (h : (l.set i x)[j]? = some y) : (j = i ∧ y = x ∧ i < l.length) ∨ (j ≠ i ∧ l[j]? = some y) := by
  rw [List.getElem?_set] at h
  by_cases e : i = j
  · subst e
    rw [if_pos rfl] at h
    by_cases q : i < l.length
    · rw [if_pos q] at h
      exact Or.inl ⟨rfl, (Option.some.inj h).symm, q⟩
    · rw [if_neg q] at h; cases h
  · rw [if_neg e] at h
    exact Or.inr ⟨fun z => e z.symm, h⟩
theorem Env.set {i : Nat} {v : V} {d : Dt} (E : Env K F0 H0 F H σ ρ) (h : Dp K F v d) : Env K F0 H0 F H (σ.set i (some v)) (ρ.set i (.dat d)) :=
  ⟨E.g, by rw [List.length_set, List.length_set]; exact E.len, fun j x hx => by
    rcases get_set hx with ⟨rfl, rfl, hl⟩ | ⟨ne, hx⟩
    · exact ⟨some v, by rw [List.getElem?_set, if_pos rfl, if_pos (by rw [E.len]; exact hl)], v, rfl, h⟩
    · obtain ⟨o, h1, h2⟩ := E.sl j x hx
      exact ⟨o, by rw [List.getElem?_set, if_neg (fun z => ne z.symm)]; exact h1, h2⟩, fun a b ds es p ha hb sa sb => by
    rcases get_set ha with ⟨_, z, _⟩ | ⟨na, ha⟩
    · cases z
    · rcases get_set hb with ⟨_, z, _⟩ | ⟨nb, hb⟩
      · cases z
      · rw [List.getElem?_set, if_neg (fun z => na z.symm)] at sa
        rw [List.getElem?_set, if_neg (fun z => nb z.symm)] at sb
        exact E.ap a b ds es p ha hb sa sb⟩
theorem Env.setAny {i : Nat} {o : Option V} (E : Env K F0 H0 F H σ ρ) : Env K F0 H0 F H (σ.set i o) (ρ.set i .any) :=
  ⟨E.g, by rw [List.length_set, List.length_set]; exact E.len, fun j x hx => by
    rcases get_set hx with ⟨rfl, rfl, hl⟩ | ⟨ne, hx⟩
    · exact ⟨o, by rw [List.getElem?_set, if_pos rfl, if_pos (by rw [E.len]; exact hl)], True.intro⟩
    · obtain ⟨o, h1, h2⟩ := E.sl j x hx
      exact ⟨o, by rw [List.getElem?_set, if_neg (fun z => ne z.symm)]; exact h1, h2⟩, fun a b ds es p ha hb sa sb => by
    rcases get_set ha with ⟨_, z, _⟩ | ⟨na, ha⟩
    · cases z
    · rcases get_set hb with ⟨_, z, _⟩ | ⟨nb, hb⟩
      · cases z
      · rw [List.getElem?_set, if_neg (fun z => na z.symm)] at sa
        rw [List.getElem?_set, if_neg (fun z => nb z.symm)] at sb
        exact E.ap a b ds es p ha hb sa sb⟩
theorem Env.setRef {i : Nat} {a : Addr} (E : Env K F0 H0 F H σ ρ) : Env K F0 H0 F H (σ.set i (some (.ref a))) (ρ.set i (.ref a)) :=
  ⟨E.g, by rw [List.length_set, List.length_set]; exact E.len, fun j x hx => by
    rcases get_set hx with ⟨rfl, rfl, hl⟩ | ⟨ne, hx⟩
    · exact ⟨_, by rw [List.getElem?_set, if_pos rfl, if_pos (by rw [E.len]; exact hl)], rfl⟩
    · obtain ⟨o, h1, h2⟩ := E.sl j x hx
      exact ⟨o, by rw [List.getElem?_set, if_neg (fun z => ne z.symm)]; exact h1, h2⟩, fun a b ds es p ha hb sa sb => by
    rcases get_set ha with ⟨_, z, _⟩ | ⟨na, ha⟩
    · cases z
    · rcases get_set hb with ⟨_, z, _⟩ | ⟨nb, hb⟩
      · cases z
      · rw [List.getElem?_set, if_neg (fun z => na z.symm)] at sa
        rw [List.getElem?_set, if_neg (fun z => nb z.symm)] at sb
        exact E.ap a b ds es p ha hb sa sb⟩
/-- a new own list goes to a slot -/
theorem Env.setOwn {i : Nat} {p : Addr} {vs : List V} {ds : List Dt} {F1 H1 : Hp} (E : Env K F0 H0 F1 H1 σ ρ) (n : Nx F1 H1 F H) (hn : H1 p = none) (hF : F p = none) (hH : H p = some (.lst vs)) (h : DpAll K F vs ds) : Env K F0 H0 F H (σ.set i (some (.ref p))) (ρ.set i (.own ds)) := by
  have E2 := E.step n
  have h0 : H0 p = none := none_back E.g.h hn
  have apart : ∀ (a : Nat) (es : List Dt), ρ[a]? = some (.own es) → σ[a]? = some (some (.ref p)) → False := fun a es ha sa => by
    obtain ⟨q, ws, h1, _, _, h2, _⟩ := E.own ha
    rw [sa] at h1
    have e := Option.some.inj (Option.some.inj h1)
    cases e
    rw [hn] at h2
    cases h2
  refine ⟨E2.g, by rw [List.length_set, List.length_set]; exact E2.len, fun j x hx => ?_, fun a b ds es q ha hb sa sb => ?_⟩
  · rcases get_set hx with ⟨rfl, rfl, hl⟩ | ⟨ne, hx⟩
    · exact ⟨some (.ref p), by rw [List.getElem?_set, if_pos rfl, if_pos (by rw [E.len]; exact hl)], p, vs, rfl, h0, hF, hH, h⟩
    · obtain ⟨o, h1, h2⟩ := E2.sl j x hx
      exact ⟨o, by rw [List.getElem?_set, if_neg (fun z => ne z.symm)]; exact h1, h2⟩
  · rcases get_set ha with ⟨ea, _, la⟩ | ⟨na, ha⟩
    · rcases get_set hb with ⟨eb, _, _⟩ | ⟨nb, hb⟩
      · rw [ea, eb]
      · rw [ea, List.getElem?_set, if_pos rfl, if_pos (by rw [E.len]; exact la)] at sa
        rw [List.getElem?_set, if_neg (fun z => nb z.symm)] at sb
        have e := V.ref.inj (Option.some.inj (Option.some.inj sa))
        rw [← e] at sb
        exact (apart b _ hb sb).elim
    · rcases get_set hb with ⟨eb, _, lb⟩ | ⟨nb, hb⟩
      · rw [eb, List.getElem?_set, if_pos rfl, if_pos (by rw [E.len]; exact lb)] at sb
        rw [List.getElem?_set, if_neg (fun z => na z.symm)] at sa
        have e := V.ref.inj (Option.some.inj (Option.some.inj sb))
        rw [← e] at sa
        exact (apart a _ ha sa).elim
      · rw [List.getElem?_set, if_neg (fun z => na z.symm)] at sa
        rw [List.getElem?_set, if_neg (fun z => nb z.symm)] at sb
        exact E.ap a b _ _ q ha hb sa sb
/-- an own list changes -/
theorem Env.mut {i : Nat} {p : Addr} {ws : List V} {ds es : List Dt} (E : Env K F0 H0 F H σ ρ) (hi : ρ[i]? = some (.own ds)) (hp : σ[i]? = some (some (.ref p))) (h : DpAll K F ws es) : Env K F0 H0 F (upd H p (.lst ws)) σ (ρ.set i (.own es)) := by
  obtain ⟨q, vs, h1, h0, hF, hH, _⟩ := E.own hi
  rw [hp] at h1
  have e := V.ref.inj (Option.some.inj (Option.some.inj h1))
  subst e
  refine ⟨⟨E.g.f, Evl.Ex.mut E.g.h h0, Evl.Ex.mut E.g.i hF, fun q hq fq => E.g.o q hq fq⟩, by rw [List.length_set]; exact E.len, fun j x hx => ?_, fun a b ds es q ha hb sa sb => ?_⟩
  · rcases get_set hx with ⟨rfl, rfl, hl⟩ | ⟨ne, hx⟩
    · exact ⟨_, hp, p, ws, rfl, h0, hF, upd_same, h⟩
    · obtain ⟨o, h1, h2⟩ := E.sl j x hx
      refine ⟨o, h1, ?_⟩
      cases x with
      | any => exact True.intro
      | ref a => exact h2
      | dat d => exact h2
      | own fs =>
        obtain ⟨r, us, e, g0, gF, gH, gA⟩ := h2
        refine ⟨r, us, e, g0, gF, ?_, gA⟩
        subst e
        rw [upd_ne (fun z => ne (E.ap j i _ _ p hx hi (by rw [h1, z]) hp))]
        exact gH
  · rcases get_set ha with ⟨ea, _, _⟩ | ⟨na, ha2⟩
    · rcases get_set hb with ⟨eb, _, _⟩ | ⟨nb, hb2⟩
      · rw [ea, eb]
      · exact ea.trans (E.ap i b _ _ q hi hb2 (by rw [← ea]; exact sa) sb)
    · rcases get_set hb with ⟨eb, _, _⟩ | ⟨nb, hb2⟩
      · exact (E.ap a i _ _ q ha2 hi sa (by rw [← eb]; exact sb)).trans eb.symm
      · exact E.ap a b _ _ q ha2 hb2 sa sb
/-- an own list is shut -/
theorem Env.shut {i : Nat} {ds : List Dt} (E : Env K F0 H0 F H σ ρ) (hi : ρ[i]? = some (.own ds)) : ∃ F', Env K F0 H0 F' H σ (ρ.set i (.dat (.list ds))) := by
  obtain ⟨p, vs, hp, h0, hF, hH, hA⟩ := E.own hi
  have n2 : Evl.Ex F (upd F p (.lst vs)) := Evl.Ex.new hF
  refine ⟨upd F p (.lst vs), E.g.shut h0 hF hH, by rw [List.length_set]; exact E.len, fun j x hx => ?_, fun a b ds es q ha hb sa sb => ?_⟩
  · rcases get_set hx with ⟨rfl, rfl, hl⟩ | ⟨ne, hx⟩
    · exact ⟨_, hp, .ref p, rfl, .lst (Or.inl (Or.inl upd_same)) (dpAll_ex n2 _ _ hA)⟩
    · obtain ⟨o, h1, h2⟩ := E.sl j x hx
      refine ⟨o, h1, ?_⟩
      cases x with
      | any => exact True.intro
      | ref a => exact h2
      | dat d =>
        obtain ⟨v, e, q⟩ := h2
        exact ⟨v, e, dp_ex n2 _ _ q⟩
      | own fs =>
        obtain ⟨r, us, e, g0, gF, gH, gA⟩ := h2
        subst e
        refine ⟨r, us, rfl, g0, ?_, gH, dpAll_ex n2 _ _ gA⟩
        rw [upd_ne (fun z => ne (E.ap j i _ _ p hx hi (by rw [h1, z]) hp))]
        exact gF
  · rcases get_set ha with ⟨_, z, _⟩ | ⟨na, ha⟩
    · cases z
    · rcases get_set hb with ⟨_, z, _⟩ | ⟨nb, hb⟩
      · cases z
      · exact E.ap a b ds es q ha hb sa sb
/-- less is known -/
inductive Weak : List Sl → List Sl → Prop where
  | nil : Weak [] []
  | same {x : Sl} {r r' : List Sl} : Weak r r' → Weak (x :: r) (x :: r')
  | any {x : Sl} {r r' : List Sl} : Weak r r' → Weak (x :: r) (.any :: r')
theorem Weak.len : ∀ {a b : List Sl}, Weak a b → a.length = b.length
  | _, _, .nil => rfl
  | _, _, .same h => by rw [List.length_cons, List.length_cons, h.len]
  | _, _, .any h => by rw [List.length_cons, List.length_cons, h.len]
theorem Weak.get : ∀ {a b : List Sl}, Weak a b → ∀ (i : Nat) (x : Sl), b[i]? = some x → x = .any ∨ a[i]? = some x
  | _, _, .nil, i, x, h => by simp at h
  | _, _, .same _, 0, x, h => Or.inr h
  | _, _, .any _, 0, x, h => Or.inl (Option.some.inj h).symm
  | _, _, .same w, i + 1, x, h => by simpa using w.get i x (by simpa using h)
  | _, _, .any w, i + 1, x, h => by simpa using w.get i x (by simpa using h)
theorem Weak.refl : ∀ a : List Sl, Weak a a
  | [] => .nil
  | _ :: r => .same (Weak.refl r)
theorem Env.weak {ρ' : List Sl} (E : Env K F0 H0 F H σ ρ) (w : Weak ρ ρ') : Env K F0 H0 F H σ ρ' :=
  ⟨E.g, E.len.trans w.len, fun i x h => by
    rcases w.get i x h with rfl | h
    · have hl : i < ρ.length := by rw [w.len]; exact (List.getElem?_eq_some_iff.mp h).1
      exact ⟨σ[i]'(by rw [E.len]; exact hl), List.getElem?_eq_getElem _, True.intro⟩
    · exact E.sl i x h, fun i j ds es p hi hj si sj => by
    rcases w.get i _ hi with z | hi
    · cases z
    · rcases w.get j _ hj with z | hj
      · cases z
      · exact E.ap i j ds es p hi hj si sj⟩
end
end DL

set_option Elab.async false
set_option linter.all false
set_option maxRecDepth 100000
set_option maxHeartbeats 2000000
/-! DR: rules over data. -/
namespace DL
open PySem L2
structure Zx where
  K : PySem.W.Frag
  E : XK
  px : Value → Prop
def Wish (Z : Zx) (F0 H0 : Hp) : Prop := ∀ c F' H', Z.px c → Nx F0 H0 F' H' → Z.E c Option.none H'
def SqX (K : PySem.W.Frag) (k : Bool) (H : Hp) (p : Addr) (vs : List V) : Prop := if k = true then SqL K H p vs else SqT K H p vs
theorem sqx_ex {K : PySem.W.Frag} {k : Bool} {H H' : Hp} {p : Addr} {vs : List V} (e : Evl.Ex H H') (h : SqX K k H p vs) : SqX K k H' p vs := by
  unfold SqX at h ⊢
  cases k with
  | true => exact Evl.ex_l e h
  | false => exact Evl.ex_t e h
def sqD (k : Bool) (ds : List Dt) : Dt := if k = true then .list ds else .tuple ds
theorem sqx_dp {K : PySem.W.Frag} {k : Bool} {H : Hp} {p : Addr} {vs : List V} {ds : List Dt} (h : SqX K k H p vs) (a : DpAll K H vs ds) : Dp K H (.ref p) (sqD k ds) := by
  cases k with
  | true => exact .lst h a
  | false => exact .tup h a
theorem dp_sqx {K : PySem.W.Frag} {k : Bool} {H : Hp} {v : V} {ds : List Dt} (h : Dp K H v (sqD k ds)) : ∃ p vs, v = .ref p ∧ SqX K k H p vs ∧ DpAll K H vs ds := by
  cases k with
  | true => exact dp_list h
  | false => exact dp_tup h
theorem sqx_or {K : PySem.W.Frag} {k : Bool} {H : Hp} {p : Addr} {vs : List V} (h : SqX K k H p vs) : SqL K H p vs ∨ SqT K H p vs := by
  cases k with
  | true => exact Or.inl h
  | false => exact Or.inr h

/-! ### what evaluates to what -/
def EvD (Z : Zx) (te : TE) (ρ : List Sl) (d : Dt) : Prop := ∀ F0 H0 F H σ, Env Z.K F0 H0 F H σ ρ → Wish Z F0 H0 → ∀ Q : VK, (∀ v F' H', Nx F H F' H' → Dp Z.K F' v d → Q v H') → te σ H Q
/-- a list or tuple that is read -/
def EvV (Z : Zx) (k : Bool) (te : TE) (ρ : List Sl) (ds : List Dt) : Prop := ∀ F0 H0 F H σ, Env Z.K F0 H0 F H σ ρ → Wish Z F0 H0 → ∀ Q : VK, (∀ p vs F' H', Nx F H F' H' → SqX Z.K k H' p vs → DpAll Z.K F' vs ds → Q (.ref p) H') → te σ H Q
/-- a list that stands by itself -/
def EvW (Z : Zx) (te : TE) (ρ : List Sl) (ds : List Dt) : Prop := ∀ F0 H0 F H σ, Env Z.K F0 H0 F H σ ρ → Wish Z F0 H0 → ∀ Q : VK, (∀ p vs F' H', Nx F H F' H' → H' p = some (.lst vs) → DpAll Z.K F' vs ds → Q (.ref p) H') → te σ H Q
/-- a new list -/
def EvL (Z : Zx) (te : TE) (ρ : List Sl) (ds : List Dt) : Prop := ∀ F0 H0 F H σ, Env Z.K F0 H0 F H σ ρ → Wish Z F0 H0 → ∀ Q : VK, (∀ p vs F' H', Nx F H F' H' → H p = none → F' p = none → H' p = some (.lst vs) → DpAll Z.K F' vs ds → Q (.ref p) H') → te σ H Q
def EvT (Z : Zx) (tt : TT) (ρ : List Sl) (b : Bool) : Prop := ∀ F0 H0 F H σ, Env Z.K F0 H0 F H σ ρ → Wish Z F0 H0 → ∀ Q : Bool → Hp → Prop, (∀ F' H', Nx F H F' H' → Q b H') → tt σ H Q
def EvA (Z : Zx) (ta : TA) (ρ : List Sl) (ds : List Dt) : Prop := ∀ F0 H0 F H σ, Env Z.K F0 H0 F H σ ρ → Wish Z F0 H0 → ∀ Q : List V → Hp → Prop, (∀ vs F' H', Nx F H F' H' → DpAll Z.K F' vs ds → Q vs H') → ta σ H Q
def EvO (Z : Zx) (to : TO) (ρ : List Sl) (o : Option Int) : Prop := ∀ F0 H0 F H σ, Env Z.K F0 H0 F H σ ρ → Wish Z F0 H0 → ∀ Q : Option Int → Hp → Prop, (∀ F' H', Nx F H F' H' → Q o H') → to σ H Q
/-- it gives no value: it raises -/
def EvX (Z : Zx) (te : TE) (ρ : List Sl) : Prop := ∀ F0 H0 F H σ, Env Z.K F0 H0 F H σ ρ → Wish Z F0 H0 → ∀ Q : VK, te σ H Q
/-- a two-place operation on values -/
def RD (Z : Zx) (r : R2) (x y z : Dt) : Prop := ∀ F H v u, Evl.Ex F H → Dp Z.K F v x → Dp Z.K F u y → ∀ Q : VK, (∀ w F' H', Nx F H F' H' → Dp Z.K F' w z → Q w H') → r v u H Q

section
variable {Z : Zx} {ρ : List Sl} {te ta tb tc : TE} {t u : TT} {r : R2} {x y z d : Dt} {ds es : List Dt}
theorem EvL.w (h : EvL Z te ρ ds) : EvW Z te ρ ds := fun F0 H0 F H σ e w Q q => h F0 H0 F H σ e w Q fun p vs F' H' n _ _ hp a => q p vs F' H' n hp a
theorem EvW.v (h : EvW Z te ρ ds) : EvV Z true te ρ ds := fun F0 H0 F H σ e w Q q => h F0 H0 F H σ e w Q fun p vs F' H' n hp a => q p vs F' H' n (Or.inl (Or.inl hp)) a
theorem EvL.v (h : EvL Z te ρ ds) : EvV Z true te ρ ds := h.w.v
theorem EvL.dt (h : EvL Z te ρ ds) : EvD Z te ρ (.list ds) := fun F0 H0 F H σ e w Q q => h F0 H0 F H σ e w Q fun p vs F' H' n hn hF hp a =>
  q (.ref p) _ H' (n.shut hn hF hp) (.lst (Or.inl (Or.inl upd_same)) (dpAll_ex (Evl.Ex.new hF) _ _ a))
theorem EvD.vk {k : Bool} (h : EvD Z te ρ (sqD k ds)) : EvV Z k te ρ ds := fun F0 H0 F H σ e w Q q => h F0 H0 F H σ e w Q fun v F' H' n a => by
  obtain ⟨p, vs, rfl, s, b⟩ := dp_sqx a
  exact q p vs F' H' n (sqx_ex n.i s) b
theorem EvD.v (h : EvD Z te ρ (.list ds)) : EvV Z true te ρ ds := EvD.vk (k := true) h
theorem EvD.tp (h : EvD Z te ρ (.tuple ds)) : EvV Z false te ρ ds := EvD.vk (k := false) h
inductive IsSq : Dt → Bool → List Dt → Prop where
  | l {ds : List Dt} : IsSq (.list ds) true ds
  | t {ds : List Dt} : IsSq (.tuple ds) false ds
theorem EvD.sq {k : Bool} (h : EvD Z te ρ d) (s : IsSq d k ds) : EvV Z k te ρ ds := by
  cases s with
  | l => exact h.v
  | t => exact h.tp
theorem EvD.is (h : EvD Z te ρ x) (e : x = y) : EvD Z te ρ y := e ▸ h
theorem EvT.is {a b : Bool} (h : EvT Z t ρ a) (e : a = b) : EvT Z t ρ b := e ▸ h

theorem d_var {i : Nat} (h : ρ[i]? = some (.dat d)) : EvD Z (tVar i) ρ d := fun F0 H0 F H σ e w Q q => by
  obtain ⟨v, h1, h2⟩ := e.dat h
  exact ⟨v, h1, q v F H (.refl e.g.i) h2⟩
theorem w_var {i : Nat} (h : ρ[i]? = some (.own ds)) : EvW Z (tVar i) ρ ds := fun F0 H0 F H σ e w Q q => by
  obtain ⟨p, vs, h1, _, _, h2, h3⟩ := e.own h
  exact ⟨.ref p, h1, q p vs F H (.refl e.g.i) h2 h3⟩
theorem d_int {i : Int} : EvD Z (tC (.int i)) ρ (.int i) := fun F0 H0 F H σ e w Q q => q _ F H (.refl e.g.i) (.int i)
theorem d_bl {b : Bool} : EvD Z (tC (.bl b)) ρ (.bool b) := fun F0 H0 F H σ e w Q q => q _ F H (.refl e.g.i) (.bl b)
theorem d_non : EvD Z (tC .non) ρ .none := fun F0 H0 F H σ e w Q q => q _ F H (.refl e.g.i) .non
theorem d_str {s : Str} : EvD Z (tC (.str s)) ρ (.str s) := fun F0 H0 F H σ e w Q q => q _ F H (.refl e.g.i) (.str s)
theorem d_op (ha : EvD Z ta ρ x) (hb : EvD Z tb ρ y) (hr : RD Z r x y z) : EvD Z (tOp r ta tb) ρ z := fun F0 H0 F H σ e w Q q =>
  ha F0 H0 F H σ e w _ fun v F1 H1 n1 p1 => hb F0 H0 F1 H1 σ (e.step n1) w _ fun u F2 H2 n2 p2 =>
    hr F2 H2 v u n2.i (dp_ex n2.f _ _ p1) p2 Q fun c F3 H3 n3 p3 => q c F3 H3 ((n1.trans n2).trans n3) p3
theorem d_un {f : V → Hp → VK → Prop} {i : Int} {g : Int → V} {j : Int} (ha : EvD Z ta ρ (.int i)) (hg : g i = .int j) : EvD Z (tUn (rU g) ta) ρ (.int j) := fun F0 H0 F H σ e w Q q =>
  ha F0 H0 F H σ e w _ fun v F1 H1 n1 p1 => ⟨i, dp_int p1, by rw [hg]; exact q _ F1 H1 n1 (.int j)⟩
theorem d_neg {i : Int} (ha : EvD Z ta ρ (.int i)) : EvD Z (tUn (rU fun i => .int (-i)) ta) ρ (.int (-i)) := d_un (f := fun _ _ _ => True) ha rfl
theorem ea_nil : EvA Z tNil ρ [] := fun F0 H0 F H σ e w Q q => q [] F H (.refl e.g.i) .nil
theorem ea_cons {tr : TA} (h : EvD Z te ρ d) (hr : EvA Z tr ρ ds) : EvA Z (tCons te tr) ρ (d :: ds) := fun F0 H0 F H σ e w Q q =>
  h F0 H0 F H σ e w _ fun v F1 H1 n1 p1 => hr F0 H0 F1 H1 σ (e.step n1) w _ fun vs F2 H2 n2 p2 => q _ F2 H2 (n1.trans n2) (.cons (dp_ex n2.f _ _ p1) p2)
theorem d_tup {tr : TA} (h : EvA Z tr ρ ds) (hl : ds.length ≤ 100000) : EvD Z (tTup tr) ρ (.tuple ds) := fun F0 H0 F H σ e w Q q =>
  h F0 H0 F H σ e w _ fun vs F1 H1 n1 p1 => ⟨Evl.sz_of (by rw [dpAll_len p1]; exact hl), fun p hp =>
    q (.ref p) _ _ (n1.trans (Nx.both n1.i hp)) (.tup (Or.inl (Or.inl upd_same)) (dpAll_ex (Evl.Ex.new (none_back n1.i hp)) _ _ p1))⟩
theorem l_lst {tr : TA} (h : EvA Z tr ρ ds) (hl : ds.length ≤ 100000) : EvL Z (tLst tr) ρ ds := fun F0 H0 F H σ e w Q q =>
  h F0 H0 F H σ e w _ fun vs F1 H1 n1 p1 => ⟨Evl.sz_of (by rw [dpAll_len p1]; exact hl), fun p hp =>
    q p vs F1 _ (n1.trans (Nx.own n1.i hp)) (none_back n1.h hp) (none_back n1.i hp) upd_same p1⟩

/-! ### operators -/
def rAddU (K : PySem.W.Frag) : R2 := fun x y H Q => rI0 (fun i j => .int (i + j)) x y H Q ∨ (rCat x y H Q ∨ rCatA K x y H Q)
theorem op_addU {X : Cx} : OpR X (binaryOp .Add) (rAddU X.K) := op_add.or (op_cat.or op_catA)
def rMulU (K : PySem.W.Frag) : R2 := fun x y H Q => rI CMul (fun i j => .int (i * j)) x y H Q ∨ (rI CMulW (fun i j => .int (i * j)) x y H Q ∨ (rRep x y H Q ∨ rRepT K x y H Q))
theorem op_mulU {X : Cx} : OpR X (binaryOp .Mult) (rMulU X.K) := op_mul.or (op_mulW.or (op_rep.or op_repT))
def rDivU : R2 := fun x y H Q => rI CDiv (fun i j => .int (i / j)) x y H Q ∨ rI CDivW (fun i j => .int (i / j)) x y H Q
theorem op_divU {X : Cx} : OpR X (binaryOp .FloorDiv) rDivU := op_fdiv.or op_fdivW
def rEqU (K : PySem.W.Frag) : R2 := rEqD K
theorem RD.int0 {g : Int → Int → Int} {i j : Int} : RD Z (rI0 fun i j => .int (g i j)) (.int i) (.int j) (.int (g i j)) := fun F H v u e hv hu Q q => ⟨i, j, dp_int hv, dp_int hu, q _ F H (.refl e) (.int _)⟩
theorem RD.bl0 {g : Int → Int → Bool} {i j : Int} : RD Z (rI0 fun i j => .bl (g i j)) (.int i) (.int j) (.bool (g i j)) := fun F H v u e hv hu Q q => ⟨i, j, dp_int hv, dp_int hu, q _ F H (.refl e) (.bl _)⟩
theorem RD.intC {C : Int → Int → Prop} {g : Int → Int → Int} {i j : Int} (h : C i j) : RD Z (rI C fun i j => .int (g i j)) (.int i) (.int j) (.int (g i j)) := fun F H v u e hv hu Q q => ⟨i, j, dp_int hv, dp_int hu, h, q _ F H (.refl e) (.int _)⟩
theorem RD.l {r' : R2} (h : RD Z r x y z) : RD Z (fun a b H Q => r a b H Q ∨ r' a b H Q) x y z := fun F H v u e hv hu Q q => Or.inl (h F H v u e hv hu Q q)
theorem RD.rr {r' : R2} (h : RD Z r x y z) : RD Z (fun a b H Q => r' a b H Q ∨ r a b H Q) x y z := fun F H v u e hv hu Q q => Or.inr (h F H v u e hv hu Q q)
theorem r_addI {i j : Int} : RD Z (rAddU Z.K) (.int i) (.int j) (.int (i + j)) := RD.l RD.int0
theorem r_subI {i j : Int} : RD Z (rI0 fun i j => .int (i - j)) (.int i) (.int j) (.int (i - j)) := RD.int0
theorem r_mulI {i j : Int} (h : CMul i j ∨ CMulW i j) : RD Z (rMulU Z.K) (.int i) (.int j) (.int (i * j)) := by
  rcases h with h | h
  · exact RD.l (RD.intC h)
  · exact RD.rr (RD.l (RD.intC h))
theorem r_divI {i j : Int} (h : CDiv i j ∨ CDivW i j) : RD Z rDivU (.int i) (.int j) (.int (i / j)) := by
  rcases h with h | h
  · exact RD.l (RD.intC h)
  · exact RD.rr (RD.intC h)
theorem r_modI {i j : Int} (h : 0 < j) : RD Z (rI (fun _ j => 0 < j) fun i j => .int (i % j)) (.int i) (.int j) (.int (i % j)) := RD.intC h
theorem r_powI {i j : Int} (h : CPow i j) : RD Z (rI CPow fun i j => .int (i ^ j.toNat)) (.int i) (.int j) (.int (i ^ j.toNat)) := RD.intC h
theorem r_addT {xs ys : List Dt} (h : xs.length + ys.length ≤ 100000) : RD Z (rAddU Z.K) (.tuple xs) (.tuple ys) (.tuple (xs ++ ys)) := RD.rr (RD.rr fun F H v u e hv hu Q q => by
  obtain ⟨a, vs, rfl, sa, aa⟩ := dp_tup hv
  obtain ⟨b, us, rfl, sb, ab⟩ := dp_tup hu
  refine ⟨a, b, vs, us, rfl, rfl, Evl.ex_t e sa, Evl.ex_t e sb, Evl.sz_of (by rw [dpAll_len aa, dpAll_len ab]; exact h), fun hz => ?_, fun _ hz => ?_, fun _ _ p hp => ?_⟩
  · subst hz; cases aa; exact q _ F H (.refl e) (.tup sb ab)
  · subst hz; cases ab; rw [List.append_nil] at q; exact q _ F H (.refl e) (.tup sa aa)
  · exact q _ _ _ (Nx.both e hp) (.tup (Or.inl (Or.inl upd_same)) (dpAll_ex (Evl.Ex.new (none_back e hp)) _ _ (dpAll_app aa ab))))
theorem r_repT {xs : List Dt} {k : Int} (h0 : xs ≠ []) (h1 : 2 ≤ k) (h2 : k ≤ 1000) (h3 : xs.length ≤ 1000) : RD Z (rMulU Z.K) (.tuple xs) (.int k) (.tuple (List.replicate k.toNat xs).flatten) := RD.rr (RD.rr (RD.rr fun F H v u e hv hu Q q => by
  obtain ⟨a, vs, rfl, sa, aa⟩ := dp_tup hv
  refine ⟨a, k, vs, rfl, dp_int hu, Evl.ex_t e sa, fun z => h0 (by subst z; cases aa; rfl), h1, h2, by rw [dpAll_len aa]; exact h3, fun p hp => ?_⟩
  exact q _ _ _ (Nx.both e hp) (.tup (Or.inl (Or.inl upd_same)) (dpAll_ex (Evl.Ex.new (none_back e hp)) _ _ (dpAll_rep aa _)))))
/-- xs + ys, lists that stand by themselves -/
theorem l_cat (ha : EvW Z ta ρ ds) (hb : EvW Z tb ρ es) (h : ds.length + es.length ≤ 100000) : EvL Z (tOp (rAddU Z.K) ta tb) ρ (ds ++ es) := fun F0 H0 F H σ e w Q q =>
  ha F0 H0 F H σ e w _ fun p vs F1 H1 n1 h1 a1 => hb F0 H0 F1 H1 σ (e.step n1) w _ fun p2 us F2 H2 n2 h2 a2 =>
    Or.inr (Or.inl ⟨p, p2, vs, us, rfl, rfl, n2.h p _ h1, h2, Evl.sz_of (by rw [dpAll_len a1, dpAll_len a2]; exact h), fun l hl => by
      exact q l _ F2 _ ((n1.trans n2).trans (Nx.own n2.i hl)) (none_back (n1.trans n2).h hl) (none_back n2.i hl) upd_same (dpAll_app (dpAll_ex n2.f _ _ a1) a2)⟩)
theorem l_rep {k : Int} (ha : EvW Z ta ρ ds) (hb : EvD Z tb ρ (.int k)) (h0 : 0 ≤ k) (h : ds.length * k.toNat ≤ 100000) (h1 : k ≤ 100000) : EvL Z (tOp (rMulU Z.K) ta tb) ρ (List.replicate k.toNat ds).flatten := fun F0 H0 F H σ e w Q q =>
  ha F0 H0 F H σ e w _ fun p vs F1 H1 n1 h1' a1 => hb F0 H0 F1 H1 σ (e.step n1) w _ fun v F2 H2 n2 p2 =>
    Or.inr (Or.inr (Or.inl ⟨p, k, vs, rfl, dp_int p2, n2.h p _ h1', by omega, by omega, Evl.sz_of (by rw [dpAll_len a1]; exact h), fun l hl => by
      have g := q l _ F2 _ ((n1.trans n2).trans (Nx.own (o := .lst (List.replicate k.toNat vs).flatten) n2.i hl)) (none_back (n1.trans n2).h hl) (none_back n2.i hl) upd_same (dpAll_rep (dpAll_ex n2.f _ _ a1) k.toNat)
      exact g⟩))
/-- == of data -/
def sh (d : Dt) : Prop := SeqAt.shaped d = true
theorem r_eqD (h1 : sh x) (h2 : sh y) : RD Z (rEqD Z.K) x y (.bool (PyData.eqv x y)) := fun F H v u e hv hu Q q => ⟨x, y, dp_ex e _ _ hv, dp_ex e _ _ hu, h1, h2, q _ F H (.refl e) (.bl _)⟩
theorem r_neD (h1 : sh x) (h2 : sh y) : RD Z (rNeD Z.K) x y (.bool (!PyData.eqv x y)) := fun F H v u e hv hu Q q => ⟨x, y, dp_ex e _ _ hv, dp_ex e _ _ hu, h1, h2, q _ F H (.refl e) (.bl _)⟩
theorem r_eqI {i j : Int} : RD Z (rEqD Z.K) (.int i) (.int j) (.bool (decide (i = j))) := by
  have h := r_eqD (Z := Z) (x := .int i) (y := .int j) rfl rfl
  simp only [PyData.eqv, Bool.beq_eq_decide_eq] at h
  exact h
theorem r_neI {i j : Int} : RD Z (rNeD Z.K) (.int i) (.int j) (.bool (!decide (i = j))) := by
  have h := r_neD (Z := Z) (x := .int i) (y := .int j) rfl rfl
  simp only [PyData.eqv, Bool.beq_eq_decide_eq] at h
  exact h
theorem r_eqB {i j : Bool} : RD Z (rEqD Z.K) (.bool i) (.bool j) (.bool (i == j)) := by
  have h := r_eqD (Z := Z) (x := .bool i) (y := .bool j) rfl rfl
  simp only [PyData.eqv] at h
  exact h
theorem r_neB {i j : Bool} : RD Z (rNeD Z.K) (.bool i) (.bool j) (.bool (!(i == j))) := by
  have h := r_neD (Z := Z) (x := .bool i) (y := .bool j) rfl rfl
  simp only [PyData.eqv] at h
  exact h
/-- == where one side is an own list -/
theorem d_eqV {k l : Bool} (ha : EvV Z k ta ρ ds) (hb : EvV Z l tb ρ es) (h1 : sh (sqD k ds)) (h2 : sh (sqD l es)) : EvD Z (tOp (rEqD Z.K) ta tb) ρ (.bool (PyData.eqv (sqD k ds) (sqD l es))) := fun F0 H0 F H σ e w Q q =>
  ha F0 H0 F H σ e w _ fun p vs F1 H1 n1 s1 a1 => hb F0 H0 F1 H1 σ (e.step n1) w _ fun p2 us F2 H2 n2 s2 a2 =>
    ⟨_, _, sqx_dp (sqx_ex n2.h s1) (dpAll_ex n2.i _ _ (dpAll_ex n2.f _ _ a1)), sqx_dp s2 (dpAll_ex n2.i _ _ a2), h1, h2, q _ F2 H2 (n1.trans n2) (.bl _)⟩
theorem d_neV {k l : Bool} (ha : EvV Z k ta ρ ds) (hb : EvV Z l tb ρ es) (h1 : sh (sqD k ds)) (h2 : sh (sqD l es)) : EvD Z (tOp (rNeD Z.K) ta tb) ρ (.bool (!PyData.eqv (sqD k ds) (sqD l es))) := fun F0 H0 F H σ e w Q q =>
  ha F0 H0 F H σ e w _ fun p vs F1 H1 n1 s1 a1 => hb F0 H0 F1 H1 σ (e.step n1) w _ fun p2 us F2 H2 n2 s2 a2 =>
    ⟨_, _, sqx_dp (sqx_ex n2.h s1) (dpAll_ex n2.i _ _ (dpAll_ex n2.f _ _ a1)), sqx_dp s2 (dpAll_ex n2.i _ _ a2), h1, h2, q _ F2 H2 (n1.trans n2) (.bl _)⟩
theorem r_lt {i j : Int} : RD Z (rI0 fun i j => .bl (decide (i < j))) (.int i) (.int j) (.bool (decide (i < j))) := RD.bl0
theorem r_le {i j : Int} : RD Z (rI0 fun i j => .bl (decide (i ≤ j))) (.int i) (.int j) (.bool (decide (i ≤ j))) := RD.bl0
theorem r_gt {i j : Int} : RD Z (rI0 fun i j => .bl (decide (j < i))) (.int i) (.int j) (.bool (decide (j < i))) := RD.bl0
theorem r_ge {i j : Int} : RD Z (rI0 fun i j => .bl (decide (j ≤ i))) (.int i) (.int j) (.bool (decide (j ≤ i))) := RD.bl0
/-- is None, is True -/
def isN : Dt → Bool
  | .none => true
  | _ => false
theorem dp_isN {K : PySem.W.Frag} {F : Hp} {v : V} {d : Dt} (h : Dp K F v d) : decide (v = .non) = isN d := by
  cases h <;> first | rfl | exact decide_eq_false (fun z => nomatch z)
def rIsU : R2 := fun x y H Q => (y = .non ∧ Q (.bl (decide (x = .non))) H) ∨ rIsB x y H Q
def rNotU : R2 := fun x y H Q => (y = .non ∧ Q (.bl (!decide (x = .non))) H) ∨ rNotB x y H Q
theorem op_isU {X : Cx} : OpR X (compareOp .Is) rIsU := op_isN.or op_isBl
theorem op_notU {X : Cx} : OpR X (compareOp .IsNot) rNotU := op_notN.or op_notBl
theorem r_isN : RD Z rIsU x .none (.bool (isN x)) := fun F H v u e hv hu Q q => Or.inl ⟨dp_non hu, by rw [dp_isN hv]; exact q _ F H (.refl e) (.bl _)⟩
theorem r_notN : RD Z rNotU x .none (.bool (!isN x)) := fun F H v u e hv hu Q q => Or.inl ⟨dp_non hu, by rw [dp_isN hv]; exact q _ F H (.refl e) (.bl _)⟩
theorem r_isB {a b : Bool} : RD Z rIsU (.bool a) (.bool b) (.bool (decide (a = b))) := fun F H v u e hv hu Q q => Or.inr ⟨a, b, dp_bl hv, dp_bl hu, q _ F H (.refl e) (.bl _)⟩
theorem r_notB {a b : Bool} : RD Z rNotU (.bool a) (.bool b) (.bool (!decide (a = b))) := fun F H v u e hv hu Q q => Or.inr ⟨a, b, dp_bl hv, dp_bl hu, q _ F H (.refl e) (.bl _)⟩

/-! ### items, slices -/
def rIxU (K : PySem.W.Frag) : R2 := fun x y H Q => rIxL K x y H Q ∨ rIxT K x y H Q
theorem ix_U {X : Cx} : IxR X (rIxU X.K) := ix_list.or ix_tup
theorem at_nat {xs : List V} {i : Int} {v : V} (h0 : 0 ≤ i) (h : xs[i.toNat]? = some v) : atI xs i = some v := at_of (j := i.toNat) (by omega) h
theorem d_ix {k : Bool} {i : Int} (ha : EvV Z k ta ρ ds) (hb : EvD Z tb ρ (.int i)) (h0 : 0 ≤ i) (h : ds[i.toNat]? = some d) : EvD Z (tOp (rIxU Z.K) ta tb) ρ d := fun F0 H0 F H σ e w Q q =>
  ha F0 H0 F H σ e w _ fun p vs F1 H1 n1 s1 a1 => hb F0 H0 F1 H1 σ (e.step n1) w _ fun v F2 H2 n2 p2 => by
    obtain ⟨c, h1, h2⟩ := dpAll_get (dpAll_ex n2.f _ _ a1) h
    have hv := dp_int p2
    cases k with
    | true => exact Or.inl ⟨p, vs, i, c, rfl, hv, Evl.ex_l n2.h s1, at_nat h0 h1, q c F2 H2 (n1.trans n2) h2⟩
    | false => exact Or.inr ⟨p, vs, i, c, rfl, hv, Evl.ex_t n2.h s1, at_nat h0 h1, q c F2 H2 (n1.trans n2) h2⟩
/-- from behind -/
theorem d_ixN {k : Bool} {i : Int} (ha : EvV Z k ta ρ ds) (hb : EvD Z tb ρ (.int i)) (h0 : i < 0) (h1' : -(ds.length : Int) ≤ i) (h : ds[(i + ds.length).toNat]? = some d) : EvD Z (tOp (rIxU Z.K) ta tb) ρ d := fun F0 H0 F H σ e w Q q =>
  ha F0 H0 F H σ e w _ fun p vs F1 H1 n1 s1 a1 => hb F0 H0 F1 H1 σ (e.step n1) w _ fun v F2 H2 n2 p2 => by
    obtain ⟨c, h1, h2⟩ := dpAll_get (dpAll_ex n2.f _ _ a1) h
    have hv := dp_int p2
    have hl := dpAll_len a1
    have hat : atI vs i = some c := by
      unfold atI ixN
      rw [if_neg (by omega), hl, if_pos h1']
      exact h1
    cases k with
    | true => exact Or.inl ⟨p, vs, i, c, rfl, hv, Evl.ex_l n2.h s1, hat, q c F2 H2 (n1.trans n2) h2⟩
    | false => exact Or.inr ⟨p, vs, i, c, rfl, hv, Evl.ex_t n2.h s1, hat, q c F2 H2 (n1.trans n2) h2⟩
theorem o_none : EvO Z tNoPart ρ Option.none := fun F0 H0 F H σ e w Q q => q F H (.refl e.g.i)
theorem o_some {i : Int} (h : EvD Z te ρ (.int i)) : EvO Z (tPart te) ρ (some i) := fun F0 H0 F H σ e w Q q => h F0 H0 F H σ e w _ fun v F1 H1 n1 p1 => ⟨i, dp_int p1, q F1 H1 n1⟩
def cutD (xs : List Dt) (lo hi : Option Int) : List Dt := (xs.drop (HT.sIx xs.length 0 lo)).take (HT.sIx xs.length xs.length hi - HT.sIx xs.length 0 lo)
end
end DL

set_option Elab.async false
set_option linter.all false
set_option maxRecDepth 100000
set_option maxHeartbeats 2000000
/-! DS: slices, calls, tests, statements, loops over data. -/
namespace DL
open PySem L2
section
variable {Z : Zx} {ρ : List Sl} {te ta tb tc : TE} {t u : TT} {r : R2} {x y z d : Dt} {ds es : List Dt}

/-! ### slices -/
def rSlU (K : PySem.W.Frag) : V → Option Int → Option Int → Hp → VK → Prop := fun x lo hi H Q => rSlL K x lo hi H Q ∨ rSlA K x lo hi H Q
theorem sl_U {X : Cx} : SlR X (rSlU X.K) := sl_list.or sl_tupA
theorem cut_all {K : PySem.W.Frag} {F : Hp} {vs : List V} (a : DpAll K F vs ds) (lo hi : Option Int) : DpAll K F (cutV vs lo hi) (cutD ds lo hi) := by
  unfold cutV cutD
  rw [dpAll_len a]
  exact dpAll_take _ (dpAll_drop _ a)
theorem l_slice {tl th : TO} {lo hi : Option Int} (h : EvV Z true te ρ ds) (hl : EvO Z tl ρ lo) (hh : EvO Z th ρ hi) : EvL Z (tSl (rSlU Z.K) te tl th) ρ (cutD ds lo hi) := fun F0 H0 F H σ e w Q q =>
  h F0 H0 F H σ e w _ fun p vs F1 H1 n1 s1 a1 => hl F0 H0 F1 H1 σ (e.step n1) w _ fun F2 H2 n2 => hh F0 H0 F2 H2 σ ((e.step n1).step n2) w _ fun F3 H3 n3 =>
    Or.inl ⟨p, vs, rfl, Evl.ex_l (n2.trans n3).h s1, fun l hl => q l _ F3 _ (((n1.trans n2).trans n3).trans (Nx.own n3.i hl)) (none_back ((n1.trans n2).trans n3).h hl) (none_back n3.i hl) upd_same (cut_all (dpAll_ex (n2.trans n3).f _ _ a1) lo hi)⟩
theorem d_slice {tl th : TO} {lo hi : Option Int} (h : EvD Z te ρ (.tuple ds)) (hl : EvO Z tl ρ lo) (hh : EvO Z th ρ hi) : EvD Z (tSl (rSlU Z.K) te tl th) ρ (.tuple (cutD ds lo hi)) := fun F0 H0 F H σ e w Q q =>
  h F0 H0 F H σ e w _ fun v F1 H1 n1 p1 => hl F0 H0 F1 H1 σ (e.step n1) w _ fun F2 H2 n2 => hh F0 H0 F2 H2 σ ((e.step n1).step n2) w _ fun F3 H3 n3 => by
    obtain ⟨p, vs, rfl, s1, a1⟩ := dp_tup p1
    have aa := dpAll_ex (n2.trans n3).f _ _ a1
    have ss := Evl.ex_t (n2.trans n3).f s1
    refine Or.inr ⟨p, vs, rfl, Evl.ex_t n3.i ss, fun hw => ?_, fun _ l hl => ?_⟩
    · have ec : cutD ds lo hi = ds := by
        unfold cutD
        rw [← dpAll_len aa, hw.1, hw.2, List.drop_zero, Nat.sub_zero, dpAll_len aa, List.take_length]
      rw [ec] at q
      exact q _ F3 H3 ((n1.trans n2).trans n3) (.tup ss aa)
    · exact q _ _ _ (((n1.trans n2).trans n3).trans (Nx.both n3.i hl)) (.tup (Or.inl (Or.inl upd_same)) (dpAll_ex (Evl.Ex.new (none_back n3.i hl)) _ _ (cut_all aa lo hi)))

/-! ### calls of built-ins -/
def rLen (K : PySem.W.Frag) : List V → Hp → VK → Prop := fun xs H Q => ∃ p ys, xs = [.ref p] ∧ (SqL K H p ys ∨ SqT K H p ys) ∧ Q (.int ys.length) H
theorem c_len {X : Cx} : CallR X (.builtin "len") (rLen X.K) := call_len_seq
theorem d_len {k : Bool} (h : EvV Z k ta ρ ds) : EvD Z (tCB (rLen Z.K) (tCons ta tNil)) ρ (.int (ds.length : Nat)) := fun F0 H0 F H σ e w Q q =>
  h F0 H0 F H σ e w _ fun p vs F1 H1 n1 s1 a1 => ⟨p, vs, rfl, sqx_or s1, by rw [dpAll_len a1]; exact q _ F1 H1 n1 (.int _)⟩
def rLst (K : PySem.W.Frag) : List V → Hp → VK → Prop := fun xs H Q => ∃ p ys, xs = [.ref p] ∧ (SqL K H p ys ∨ SqT K H p ys) ∧ ∀ l, H l = none → Q (.ref l) (upd H l (.lst ys))
theorem c_list {X : Cx} : CallR X (.type "list") (rLst X.K) := call_list_of
theorem l_list {k : Bool} (h : EvV Z k ta ρ ds) : EvL Z (tCB (rLst Z.K) (tCons ta tNil)) ρ ds := fun F0 H0 F H σ e w Q q =>
  h F0 H0 F H σ e w _ fun p vs F1 H1 n1 s1 a1 => ⟨p, vs, rfl, sqx_or s1, fun l hl => q l vs F1 _ (n1.trans (Nx.own n1.i hl)) (none_back n1.h hl) (none_back n1.i hl) upd_same a1⟩
def rTpl (K : PySem.W.Frag) : List V → Hp → VK → Prop := fun xs H Q => ∃ p ys, xs = [.ref p] ∧ ((SqL K H p ys ∧ ∀ l, H l = none → Q (.ref l) (upd H l (.tup ys))) ∨ (SqT K H p ys ∧ Q (.ref p) H))
theorem c_tuple {X : Cx} : CallR X (.type "tuple") (rTpl X.K) := call_tuple_of
theorem d_tuple (h : EvV Z true ta ρ ds) : EvD Z (tCB (rTpl Z.K) (tCons ta tNil)) ρ (.tuple ds) := fun F0 H0 F H σ e w Q q =>
  h F0 H0 F H σ e w _ fun p vs F1 H1 n1 s1 a1 => ⟨p, vs, rfl, Or.inl ⟨s1, fun l hl => q _ _ _ (n1.trans (Nx.both n1.i hl)) (.tup (Or.inl (Or.inl upd_same)) (dpAll_ex (Evl.Ex.new (none_back n1.i hl)) _ _ a1))⟩⟩
theorem d_tupleT (h : EvD Z ta ρ (.tuple ds)) : EvD Z (tCB (rTpl Z.K) (tCons ta tNil)) ρ (.tuple ds) := fun F0 H0 F H σ e w Q q =>
  h F0 H0 F H σ e w _ fun v F1 H1 n1 p1 => by
    obtain ⟨p, vs, rfl, s1, a1⟩ := dp_tup p1
    exact ⟨p, vs, rfl, Or.inr ⟨Evl.ex_t n1.i s1, q _ F1 H1 n1 (.tup s1 a1)⟩⟩
def rAbs : List V → Hp → VK → Prop := fun xs H Q => ∃ i, xs = [.int i] ∧ Q (.int (if i < 0 then -i else i)) H
theorem c_abs {X : Cx} : CallR X (.builtin "abs") rAbs := call_abs
def rMax2 : List V → Hp → VK → Prop := fun xs H Q => ∃ i j, xs = [.int i, .int j] ∧ Q (.int (if j > i then j else i)) H
theorem c_max2 {X : Cx} (hc : X.calm = true) : CallR X (.builtin "max") rMax2 := call_max2 hc
def rMin2 : List V → Hp → VK → Prop := fun xs H Q => ∃ i j, xs = [.int i, .int j] ∧ Q (.int (if j < i then j else i)) H
theorem c_min2 {X : Cx} (hc : X.calm = true) : CallR X (.builtin "min") rMin2 := call_min2 hc
def rInt1 : List V → Hp → VK → Prop := fun xs H Q => (∃ i, xs = [.int i] ∧ Q (.int i) H) ∨ ∃ k, xs = [.bl k] ∧ Q (.int (if k then 1 else 0)) H
theorem c_int {X : Cx} : CallR X (.type "int") rInt1 := call_int1
/-- a call that gives a flat value, by data -/
theorem d_cb {f : List V → Hp → VK → Prop} {tr : TA} {v : V} (h : EvA Z tr ρ ds) (hv : flat d = some v) (hf : ∀ F H vs Q, Evl.Ex F H → DpAll Z.K F vs ds → Q v H → f vs H Q) : EvD Z (tCB f tr) ρ d := fun F0 H0 F H σ e w Q q =>
  h F0 H0 F H σ e w _ fun vs F1 H1 n1 a1 => hf F1 H1 vs Q n1.i a1 (q v F1 H1 n1 (by
    cases d <;> (unfold flat at hv; first | (cases hv; constructor) | cases hv)))
theorem all1 {K : PySem.W.Frag} {F : Hp} {vs : List V} {v : V} (a : DpAll K F vs [x]) (f : flat x = some v) : vs = [v] := by
  cases a with
  | cons a b => cases b; rw [dp_flat a f]
theorem all2 {K : PySem.W.Frag} {F : Hp} {vs : List V} {v w : V} (a : DpAll K F vs [x, y]) (f : flat x = some v) (g : flat y = some w) : vs = [v, w] := by
  cases a with
  | cons a b => cases b with
    | cons b c => cases c; rw [dp_flat a f, dp_flat b g]
theorem d_abs {i : Int} (h : EvD Z ta ρ (.int i)) : EvD Z (tCB rAbs (tCons ta tNil)) ρ (.int (if i < 0 then -i else i)) :=
  d_cb (ea_cons h ea_nil) rfl fun F H vs Q _ a q => ⟨i, all1 a rfl, q⟩
theorem d_max2 {i j : Int} (h : EvD Z ta ρ (.int i)) (g : EvD Z tb ρ (.int j)) : EvD Z (tCB rMax2 (tCons ta (tCons tb tNil))) ρ (.int (max i j)) :=
  d_cb (ea_cons h (ea_cons g ea_nil)) rfl fun F H vs Q _ a q => ⟨i, j, all2 a rfl rfl, by
    rw [show (if j > i then j else i) = max i j by omega]; exact q⟩
theorem d_min2 {i j : Int} (h : EvD Z ta ρ (.int i)) (g : EvD Z tb ρ (.int j)) : EvD Z (tCB rMin2 (tCons ta (tCons tb tNil))) ρ (.int (min i j)) :=
  d_cb (ea_cons h (ea_cons g ea_nil)) rfl fun F H vs Q _ a q => ⟨i, j, all2 a rfl rfl, by
    rw [show (if j < i then j else i) = min i j by omega]; exact q⟩
theorem d_intI {i : Int} (h : EvD Z ta ρ (.int i)) : EvD Z (tCB rInt1 (tCons ta tNil)) ρ (.int i) :=
  d_cb (ea_cons h ea_nil) rfl fun F H vs Q _ a q => Or.inl ⟨i, all1 a rfl, q⟩
theorem d_intB {b : Bool} (h : EvD Z ta ρ (.bool b)) : EvD Z (tCB rInt1 (tCons ta tNil)) ρ (.int (if b then 1 else 0)) :=
  d_cb (ea_cons h ea_nil) rfl fun F H vs Q _ a q => Or.inr ⟨b, all1 a rfl, q⟩
theorem d_gcd {i j : Int} (h : EvD Z ta ρ (.int i)) (g : EvD Z tb ρ (.int j)) : EvD Z (tCB rGcd (tCons ta (tCons tb tNil))) ρ (.int ((Nat.gcd i.natAbs j.natAbs : Nat) : Int)) :=
  d_cb (ea_cons h (ea_cons g ea_nil)) rfl fun F H vs Q _ a q => ⟨i, j, all2 a rfl rfl, q⟩
/-- isinstance -/
def kindD : Dt → String
  | .none => "NoneType"
  | .bool _ => "bool"
  | .int _ => "int"
  | .str _ => "str"
  | .list _ => "list"
  | .tuple _ => "tuple"
  | .dict _ => "dict"
theorem ty_of {K : PySem.W.Frag} {H : Hp} {v : V} (h : Dp K H v d) : TyX K H v (.type (kindD d)) := by
  cases h with
  | non => exact .base .non
  | bl b => exact .base (.bl b)
  | int i => exact .base (.int i)
  | str s => exact .base (.str s)
  | lst s a =>
    rcases s with (g | ⟨o, g⟩) | ⟨o, its, n, g, c, _⟩
    · exact .base (.lst g)
    · exact .base (.frz g)
    · exact .kList g c
  | tup s a =>
    rcases s with (g | ⟨o, g⟩) | ⟨o, its, n, g, c, _⟩
    · exact .base (.tup g)
    · exact .fTuple g
    · exact .kTuple g c
theorem d_isi {T : String} {b : Bool} (h : EvD Z ta ρ d) (hb : kitB (kindD d) T = some b) : EvD Z (tCB (rIsi Z.K) (tCons ta (tCons (tC (.ty T)) tNil))) ρ (.bool b) := fun F0 H0 F H σ e w Q q =>
  h F0 H0 F H σ e w _ fun v F1 H1 n1 p1 => ⟨v, .ty T, _, _, b, rfl, .ty T, ty_of (dp_ex n1.i _ _ p1), kit_ty hb, q _ F1 H1 n1 (.bl b)⟩
theorem d_isiV {k : Bool} {T : String} {b : Bool} (h : EvV Z k ta ρ ds) (hb : kitB (if k then "list" else "tuple") T = some b) : EvD Z (tCB (rIsi Z.K) (tCons ta (tCons (tC (.ty T)) tNil))) ρ (.bool b) := fun F0 H0 F H σ e w Q q =>
  h F0 H0 F H σ e w _ fun p vs F1 H1 n1 s1 a1 => ⟨.ref p, .ty T, _, _, b, rfl, .ty T, ty_of (sqx_dp s1 (dpAll_ex n1.i _ _ a1)), kit_ty (by cases k <;> exact hb), q _ F1 H1 n1 (.bl b)⟩

/-! ### tests -/
def tTru (K : PySem.W.Frag) (ta : TE) : TT := fun σ H Q => ta σ H fun x H' => ∃ k, TruV K x H' k ∧ Q k H'
theorem pt_tru {X : Cx} {a : Expr} (ha : PE X a ta) (he : ∀ whole, isTrue a X.env whole = (do let v ← whole; standAt a.pos; holding [v] (truthy v)) := by intro _; rfl) : PT X a (tTru X.K ta) := pt_truth ha he
theorem pt_truK {X : Cx} {K : PySem.W.Frag} (hK : X.K = K) {a : Expr} (ha : PE X a ta) (he : ∀ whole, isTrue a X.env whole = (do let v ← whole; standAt a.pos; holding [v] (truthy v)) := by intro _; rfl) : PT X a (tTru K ta) := by
  subst hK
  exact pt_tru ha he
theorem all_empty {K : PySem.W.Frag} {F : Hp} {vs : List V} {ds : List Dt} (a : DpAll K F vs ds) : vs.isEmpty = ds.isEmpty := by cases a <;> rfl
/-- a datum's truth -/
inductive TruD : Dt → Bool → Prop where
  | non : TruD .none false
  | bl {b : Bool} : TruD (.bool b) b
  | int {i : Int} : TruD (.int i) (i != 0)
  | lst {ds : List Dt} : TruD (.list ds) (!ds.isEmpty)
  | tup {ds : List Dt} : TruD (.tuple ds) (!ds.isEmpty)
theorem t_tru {b : Bool} (h : EvD Z ta ρ d) (k : TruD d b) : EvT Z (tTru Z.K ta) ρ b := fun F0 H0 F H σ e w Q q =>
  h F0 H0 F H σ e w _ fun v F1 H1 n1 p1 => by
    cases k with
    | non => rw [dp_non p1]; exact ⟨_, rfl, q F1 H1 n1⟩
    | bl => rw [dp_bl p1]; exact ⟨_, rfl, q F1 H1 n1⟩
    | int => rw [dp_int p1]; exact ⟨_, rfl, q F1 H1 n1⟩
    | lst =>
      obtain ⟨p, vs, rfl, s, a⟩ := dp_list p1
      exact ⟨_, Or.inl ⟨vs, Evl.ex_l n1.i s, rfl⟩, by rw [all_empty a]; exact q F1 H1 n1⟩
    | tup =>
      obtain ⟨p, vs, rfl, s, a⟩ := dp_tup p1
      exact ⟨_, Or.inr (Or.inl ⟨vs, Evl.ex_t n1.i s, rfl⟩), by rw [all_empty a]; exact q F1 H1 n1⟩
theorem t_bl {b : Bool} (h : EvD Z ta ρ (.bool b)) : EvT Z (tTru Z.K ta) ρ b := fun F0 H0 F H σ e w Q q =>
  h F0 H0 F H σ e w _ fun v F1 H1 n1 p1 => by rw [dp_bl p1]; exact ⟨b, rfl, q F1 H1 n1⟩
theorem t_int {i : Int} (h : EvD Z ta ρ (.int i)) : EvT Z (tTru Z.K ta) ρ (i != 0) := fun F0 H0 F H σ e w Q q =>
  h F0 H0 F H σ e w _ fun v F1 H1 n1 p1 => by rw [dp_int p1]; exact ⟨_, rfl, q F1 H1 n1⟩
theorem t_seq {k : Bool} (h : EvV Z k ta ρ ds) : EvT Z (tTru Z.K ta) ρ (!ds.isEmpty) := fun F0 H0 F H σ e w Q q =>
  h F0 H0 F H σ e w _ fun p vs F1 H1 n1 s1 a1 => by
    have ee : vs.isEmpty = ds.isEmpty := by cases a1 <;> rfl
    rcases sqx_or s1 with s | s
    · exact ⟨!ds.isEmpty, Or.inl ⟨vs, s, by rw [ee]⟩, q F1 H1 n1⟩
    · exact ⟨!ds.isEmpty, Or.inr (Or.inl ⟨vs, s, by rw [ee]⟩), q F1 H1 n1⟩
theorem t_B {b : Bool} (h : EvD Z ta ρ (.bool b)) : EvT Z (tB ta) ρ b := fun F0 H0 F H σ e w Q q =>
  h F0 H0 F H σ e w _ fun v F1 H1 n1 p1 => ⟨b, dp_bl p1, q F1 H1 n1⟩
theorem t_T {b : Bool} (h : EvD Z ta ρ (.bool b)) : EvT Z (tTest ta) ρ b := fun F0 H0 F H σ e w Q q =>
  h F0 H0 F H σ e w _ fun v F1 H1 n1 p1 => ⟨b, dp_bl p1, q F1 H1 n1⟩
theorem t_not {a : Bool} (h : EvT Z t ρ a) : EvT Z (tNot t) ρ (!a) := fun F0 H0 F H σ e w Q q => h F0 H0 F H σ e w _ fun F1 H1 n1 => q F1 H1 n1
theorem t_and {a b : Bool} (h : EvT Z t ρ a) (g : a = true → EvT Z u ρ b) : EvT Z (tAnd t u) ρ (a && b) := fun F0 H0 F H σ e w Q q => h F0 H0 F H σ e w _ fun F1 H1 n1 => by
  cases a with
  | true => exact iteT (g rfl F0 H0 F1 H1 σ (e.step n1) w _ fun F2 H2 n2 => q F2 H2 (n1.trans n2))
  | false => exact iteF (q F1 H1 n1)
theorem t_or {a b : Bool} (h : EvT Z t ρ a) (g : a = false → EvT Z u ρ b) : EvT Z (tOr t u) ρ (a || b) := fun F0 H0 F H σ e w Q q => h F0 H0 F H σ e w _ fun F1 H1 n1 => by
  cases a with
  | true => exact iteT (q F1 H1 n1)
  | false => exact iteF (g rfl F0 H0 F1 H1 σ (e.step n1) w _ fun F2 H2 n2 => q F2 H2 (n1.trans n2))
theorem d_not {a : Bool} (h : EvD Z ta ρ (.bool a)) : EvD Z (tNotV ta) ρ (.bool (!a)) := fun F0 H0 F H σ e w Q q =>
  h F0 H0 F H σ e w _ fun v F1 H1 n1 p1 => ⟨a, dp_bl p1, q _ F1 H1 n1 (.bl _)⟩
theorem d_and {a b : Bool} (h : EvD Z ta ρ (.bool a)) (g : a = true → EvD Z tb ρ (.bool b)) : EvD Z (tAndV ta tb) ρ (.bool (a && b)) := fun F0 H0 F H σ e w Q q =>
  h F0 H0 F H σ e w _ fun v F1 H1 n1 p1 => ⟨a, dp_bl p1, by
    cases a with
    | true => exact iteT (g rfl F0 H0 F1 H1 σ (e.step n1) w _ fun v F2 H2 n2 p2 => q v F2 H2 (n1.trans n2) p2)
    | false => exact iteF (q _ F1 H1 n1 (.bl _))⟩
theorem d_or {a b : Bool} (h : EvD Z ta ρ (.bool a)) (g : a = false → EvD Z tb ρ (.bool b)) : EvD Z (tOrV ta tb) ρ (.bool (a || b)) := fun F0 H0 F H σ e w Q q =>
  h F0 H0 F H σ e w _ fun v F1 H1 n1 p1 => ⟨a, dp_bl p1, by
    cases a with
    | true => exact iteT (q _ F1 H1 n1 (.bl _))
    | false => exact iteF (g rfl F0 H0 F1 H1 σ (e.step n1) w _ fun v F2 H2 n2 p2 => q v F2 H2 (n1.trans n2) p2)⟩
theorem d_if {b : Bool} (h : EvT Z t ρ b) (h1 : b = true → EvD Z ta ρ x) (h2 : b = false → EvD Z tb ρ y) : EvD Z (tIf t ta tb) ρ (if b = true then x else y) := fun F0 H0 F H σ e w Q q =>
  h F0 H0 F H σ e w _ fun F1 H1 n1 => by
    cases b with
    | true => exact iteT (h1 rfl F0 H0 F1 H1 σ (e.step n1) w _ fun v F2 H2 n2 p2 => q v F2 H2 (n1.trans n2) p2)
    | false => exact iteF (h2 rfl F0 H0 F1 H1 σ (e.step n1) w _ fun v F2 H2 n2 p2 => q v F2 H2 (n1.trans n2) p2)
theorem d_chain {r r' : R2} {a b : Bool} (ha : EvD Z ta ρ x) (hb : EvD Z tb ρ y) (hr : RD Z r x y (.bool a)) (hc : a = true → EvD Z tc ρ z) (hr' : a = true → RD Z r' y z (.bool b)) : EvD Z (tChain r r' ta tb tc) ρ (.bool (a && b)) := fun F0 H0 F H σ e w Q q =>
  ha F0 H0 F H σ e w _ fun v F1 H1 n1 p1 => hb F0 H0 F1 H1 σ (e.step n1) w _ fun u F2 H2 n2 p2 => hr F2 H2 v u n2.i (dp_ex n2.f _ _ p1) p2 _ fun k F3 H3 n3 p3 => by
    have hk := dp_bl p3
    subst hk
    refine ⟨a, rfl, ?_⟩
    cases a with
    | true => exact iteT (hc rfl F0 H0 F3 H3 σ (e.step ((n1.trans n2).trans n3)) w _ fun c F4 H4 n4 p4 => hr' rfl F4 H4 u c n4.i (dp_ex (n3.trans n4).f _ _ p2) p4 Q fun k2 F5 H5 n5 p5 => q k2 F5 H5 ((((n1.trans n2).trans n3).trans n4).trans n5) p5)
    | false => exact iteF (q _ F3 H3 ((n1.trans n2).trans n3) (.bl _))

/-! ### the calls of own defs -/
/-- a promise: from the data of the arguments to the datum that comes -/
def spD {α : Type} (K : PySem.W.Frag) (args : α → List Dt) (ok : α → Prop) (f : α → Dt) : Sp := fun vs H Q _ => ∃ F a, Evl.Ex F H ∧ DpAll K F vs (args a) ∧ ok a ∧ ∀ v F' H', Nx F H F' H' → Dp K F' v (f a) → Q v H'
/-- .. a new list -/
def spL {α : Type} (K : PySem.W.Frag) (args : α → List Dt) (ok : α → Prop) (f : α → List Dt) : Sp := fun vs H Q _ => ∃ F a, Evl.Ex F H ∧ DpAll K F vs (args a) ∧ ok a ∧ ∀ p vs F' H', Nx F H F' H' → H p = none → F' p = none → H' p = some (.lst vs) → DpAll K F' vs (f a) → Q (.ref p) H'
theorem d_call {α : Type} {args : α → List Dt} {ok : α → Prop} {f : α → Dt} {E : XK} {tr : TA} (a : α) (h : EvA Z tr ρ (args a)) (ho : ok a) : EvD Z (tCall (spD Z.K args ok f) [] E tr) ρ (f a) := fun F0 H0 F H σ e w Q q =>
  h F0 H0 F H σ e w _ fun vs F1 H1 n1 a1 => ⟨F1, a, n1.i, by rw [List.append_nil]; exact a1, ho, fun v F2 H2 n2 p2 => q v F2 H2 (n1.trans n2) p2⟩
theorem l_call {α : Type} {args : α → List Dt} {ok : α → Prop} {f : α → List Dt} {E : XK} {tr : TA} (a : α) (h : EvA Z tr ρ (args a)) (ho : ok a) : EvL Z (tCall (spL Z.K args ok f) [] E tr) ρ (f a) := fun F0 H0 F H σ e w Q q =>
  h F0 H0 F H σ e w _ fun vs F1 H1 n1 a1 => ⟨F1, a, n1.i, by rw [List.append_nil]; exact a1, ho, fun p us F2 H2 n2 hn hF hp a2 => q p us F2 H2 (n1.trans n2) (none_back n1.h hn) hF hp a2⟩
/-- one argument an own list that is shut for the call alone: what comes is flat -/
theorem d_callW {α : Type} {args : α → List Dt} {ok : α → Prop} {f : α → Dt} {E : XK} {v : V} (a : α) (h : EvW Z ta ρ ds) (he : args a = [.list ds]) (ho : ok a) (hv : flat (f a) = some v) : EvD Z (tCall (spD Z.K args ok f) [] E (tCons ta tNil)) ρ (f a) := fun F0 H0 F H σ e w Q q =>
  h F0 H0 F H σ e w _ fun p vs F1 H1 n1 hp a1 => by
    by_cases hF : ∃ o, F1 p = some o
    · obtain ⟨o, ho'⟩ := hF
      have hpo := n1.i p o ho'
      rw [hp] at hpo
      rw [← Option.some.inj hpo] at ho'
      refine ⟨F1, a, n1.i, ?_, ho, fun u F2 H2 n2 p2 => q u F2 H2 (n1.trans n2) p2⟩
      rw [he]
      exact .cons (.lst (Or.inl (Or.inl ho')) a1) .nil
    · have hF : F1 p = none := by
        cases hq : F1 p with
        | none => rfl
        | some o => exact absurd ⟨o, hq⟩ hF
      refine ⟨upd F1 p (.lst vs), a, ex_shut n1.i hp, ?_, ho, fun u F2 H2 n2 p2 => ?_⟩
      · rw [he]
        exact .cons (.lst (Or.inl (Or.inl upd_same)) (dpAll_ex (Evl.Ex.new hF) _ _ a1)) .nil
      · have hu := dp_flat p2 hv
        subst hu
        refine q _ F1 H2 ⟨n1.f, n1.h.trans n2.h, n1.i.trans n2.h, n1.o⟩ ?_
        generalize f a = z at hv
        cases z <;> (unfold flat at hv; first | (cases hv; constructor) | cases hv)
end
end DL

set_option Elab.async false
set_option linter.all false
set_option maxRecDepth 100000
set_option maxHeartbeats 2000000
/-! DT: statements and loops over data; a def's promise. -/
namespace DL
open PySem PySem.Spec PyProof.Rows L2
structure Post where
  nx : List Sl → Prop
  rt : Dt → Prop
  rl : List Dt → Prop
  bk : List Sl → Prop
  ct : List Sl → Prop
structure Fits (Z : Zx) (F0 H0 F : Hp) (D : Ends) (P : Post) : Prop where
  nx : ∀ F' H' σ ρ, Evl.Ex F F' → P.nx ρ → Env Z.K F0 H0 F' H' σ ρ → D.nx σ H'
  rt : ∀ d v F' H', P.rt d → Nx F0 H0 F' H' → Dp Z.K F' v d → D.rt v H'
  rl : ∀ ds p vs F' H', P.rl ds → Nx F0 H0 F' H' → H0 p = none → F' p = none → H' p = some (.lst vs) → DpAll Z.K F' vs ds → D.rt (.ref p) H'
  bk : ∀ F' H' σ ρ, Evl.Ex F F' → P.bk ρ → Env Z.K F0 H0 F' H' σ ρ → D.bk σ H'
  ct : ∀ F' H' σ ρ, Evl.Ex F F' → P.ct ρ → Env Z.K F0 H0 F' H' σ ρ → D.ct σ H'
def EvS (Z : Zx) (t : TS) (ρ : List Sl) (P : Post) : Prop := ∀ F0 H0 F H σ D, Env Z.K F0 H0 F H σ ρ → Wish Z F0 H0 → Fits Z F0 H0 F D P → t D σ H
theorem Fits.step {Z : Zx} {F0 H0 F F1 : Hp} {D : Ends} {P : Post} (f : Fits Z F0 H0 F D P) (e : Evl.Ex F F1) : Fits Z F0 H0 F1 D P :=
  ⟨fun F' H' σ ρ x => f.nx F' H' σ ρ (e.trans x), f.rt, f.rl, fun F' H' σ ρ x => f.bk F' H' σ ρ (e.trans x), fun F' H' σ ρ x => f.ct F' H' σ ρ (e.trans x)⟩
section
variable {Z : Zx} {ρ ρ1 ρ2 : List Sl} {te ta tb tc : TE} {t u : TT} {r : R2} {x y z d : Dt} {ds es : List Dt} {P : Post} {ts tu tw : TS}
theorem s_next (h : P.nx ρ) : EvS Z tNext ρ P := fun F0 H0 F H σ D e w f => f.nx F H σ ρ (.refl _) h e
theorem s_break (h : P.bk ρ) : EvS Z tBreak ρ P := fun F0 H0 F H σ D e w f => f.bk F H σ ρ (.refl _) h e
theorem s_cont (h : P.ct ρ) : EvS Z tCont ρ P := fun F0 H0 F H σ D e w f => f.ct F H σ ρ (.refl _) h e
/-- a statement, then the rest: what stands between is said once -/
theorem s_cut (M : List Sl → Prop) (h1 : EvS Z ts ρ { P with nx := M }) (h2 : ∀ ρ1, M ρ1 → EvS Z tu ρ1 P) : EvS Z (tSeq ts tu) ρ P := fun F0 H0 F H σ D e w f =>
  h1 F0 H0 F H σ _ e w ⟨fun F' H' σ' ρ' x m e' => h2 ρ' m F0 H0 F' H' σ' D e' w (f.step x), f.rt, f.rl, f.bk, f.ct⟩
/-- one way behind it -/
theorem s_seq (h1 : EvS Z ts ρ { P with nx := fun ρ' => ρ' = ρ1 }) (h2 : EvS Z tu ρ1 P) : EvS Z (tSeq ts tu) ρ P := s_cut _ h1 fun _ e => by
  subst e
  exact h2
theorem s_imp {P' : Post} (h : EvS Z ts ρ P') (i1 : ∀ ρ, P'.nx ρ → P.nx ρ) (i2 : ∀ d, P'.rt d → P.rt d) (i3 : ∀ d, P'.rl d → P.rl d) (i4 : ∀ ρ, P'.bk ρ → P.bk ρ) (i5 : ∀ ρ, P'.ct ρ → P.ct ρ) : EvS Z ts ρ P := fun F0 H0 F H σ D e w f =>
  h F0 H0 F H σ D e w ⟨fun F' H' σ' ρ' x m => f.nx F' H' σ' ρ' x (i1 _ m), fun d v F' H' m => f.rt d v F' H' (i2 _ m), fun d v vs F' H' m => f.rl d v vs F' H' (i3 _ m), fun F' H' σ' ρ' x m => f.bk F' H' σ' ρ' x (i4 _ m), fun F' H' σ' ρ' x m => f.ct F' H' σ' ρ' x (i5 _ m)⟩
/-- what is known may be less -/
theorem s_weak (w : Weak ρ ρ1) (h : EvS Z ts ρ1 P) : EvS Z ts ρ P := fun F0 H0 F H σ D e w' f => h F0 H0 F H σ D (e.weak w) w' f
theorem s_shut {i : Nat} (hi : ρ[i]? = some (.own ds)) (h : EvS Z ts (ρ.set i (.dat (.list ds))) P) : EvS Z ts ρ P := fun F0 H0 F H σ D e w f => by
  obtain ⟨p, vs, hp, h0, hF, hH, hA⟩ := e.own hi
  have n2 : Evl.Ex F (upd F p (.lst vs)) := Evl.Ex.new hF
  obtain ⟨F', e'⟩ : ∃ F', F' = upd F p (.lst vs) ∧ Env Z.K F0 H0 F' H σ (ρ.set i (.dat (.list ds))) := by
    refine ⟨_, rfl, e.g.shut h0 hF hH, by rw [List.length_set]; exact e.len, fun j x hx => ?_, fun a b ds es q ha hb sa sb => ?_⟩
    · rcases get_set hx with ⟨rfl, rfl, hl⟩ | ⟨ne, hx⟩
      · exact ⟨_, hp, .ref p, rfl, .lst (Or.inl (Or.inl upd_same)) (dpAll_ex n2 _ _ hA)⟩
      · obtain ⟨o, h1, h2⟩ := e.sl j x hx
        refine ⟨o, h1, ?_⟩
        cases x with
        | any => exact True.intro
        | ref a => exact h2
        | dat d =>
          obtain ⟨v, e, q⟩ := h2
          exact ⟨v, e, dp_ex n2 _ _ q⟩
        | own fs =>
          obtain ⟨r, us, e2, g0, gF, gH, gA⟩ := h2
          subst e2
          refine ⟨r, us, rfl, g0, ?_, gH, dpAll_ex n2 _ _ gA⟩
          rw [upd_ne (fun z => ne (e.ap j i _ _ p hx hi (by rw [h1, z]) hp))]
          exact gF
    · rcases get_set ha with ⟨_, z, _⟩ | ⟨na, ha⟩
      · cases z
      · rcases get_set hb with ⟨_, z, _⟩ | ⟨nb, hb⟩
        · cases z
        · exact e.ap a b ds es q ha hb sa sb
  obtain ⟨rfl, e'⟩ := e'
  exact h F0 H0 _ H σ D e' w (f.step n2)
/-! ### targets -/
def EvG (Z : Zx) (g : TG) (d : Dt) (ρ ρ' : List Sl) : Prop := ∀ F0 H0 F H σ v, Env Z.K F0 H0 F H σ ρ → Dp Z.K F v d → ∀ Q : L2.St → Hp → Prop, (∀ σ', Env Z.K F0 H0 F H σ' ρ' → Q σ' H) → g v σ H Q
def EvGs (Z : Zx) (g : TGs) (ds : List Dt) (ρ ρ' : List Sl) : Prop := ∀ F0 H0 F H σ vs, Env Z.K F0 H0 F H σ ρ → DpAll Z.K F vs ds → ∀ Q : L2.St → Hp → Prop, (∀ σ', Env Z.K F0 H0 F H σ' ρ' → Q σ' H) → g vs σ H Q
theorem g_name {i : Nat} : EvG Z (gName i) d ρ (ρ.set i (.dat d)) := fun F0 H0 F H σ v e p Q q => q _ (e.set p)
theorem gs_nil : EvGs Z gNil [] ρ ρ := fun F0 H0 F H σ vs e p Q q => by cases p; exact ⟨rfl, q σ e⟩
theorem gs_cons {g : TG} {gs : TGs} (h : EvG Z g d ρ ρ1) (hs : EvGs Z gs ds ρ1 ρ2) : EvGs Z (gCons g gs) (d :: ds) ρ ρ2 := fun F0 H0 F H σ vs e p Q q => by
  cases p with
  | cons a b => exact ⟨_, _, rfl, h F0 H0 F H σ _ e a _ fun σ' e' => hs F0 H0 F H σ' _ e' b Q q⟩
theorem g_tup {n : Nat} {gs : TGs} (hl : ds.length = n) (h : EvGs Z gs ds ρ ρ1) : EvG Z (gTup Z.K n gs) (.tuple ds) ρ ρ1 := fun F0 H0 F H σ v e p Q q => by
  obtain ⟨a, vs, rfl, s, aa⟩ := dp_tup p
  exact ⟨a, vs, rfl, Evl.ex_t e.g.i s, (dpAll_len aa).trans hl, h F0 H0 F H σ vs e aa Q q⟩
/-! ### assignments, return -/
theorem s_asg {g : TG} (h : EvD Z te ρ d) (hg : EvG Z g d ρ ρ1) (k : P.nx ρ1) : EvS Z (tAsg te g) ρ P := fun F0 H0 F H σ D e w f =>
  h F0 H0 F H σ e w _ fun v F1 H1 n1 p1 => hg F0 H0 F1 H1 σ v (e.step n1) p1 _ fun σ' e' => f.nx F1 H1 σ' ρ1 n1.f k e'
theorem s_asgL {i : Nat} (h : EvL Z te ρ ds) (k : P.nx (ρ.set i (.own ds))) : EvS Z (tAsg te (gName i)) ρ P := fun F0 H0 F H σ D e w f =>
  h F0 H0 F H σ e w _ fun p vs F1 H1 n1 hn hF hp a1 => f.nx F1 H1 _ _ n1.f k (e.setOwn n1 hn hF hp a1)
theorem s_par {i j : Nat} {tr : TA} (h : EvA Z tr ρ [x, y]) (k : P.nx ((ρ.set i (.dat x)).set j (.dat y))) : EvS Z (tPar i j tr) ρ P := fun F0 H0 F H σ D e w f =>
  h F0 H0 F H σ e w _ fun vs F1 H1 n1 a1 => by
    cases a1 with
    | cons a b => cases b with
      | cons b c =>
        cases c
        exact ⟨_, _, rfl, f.nx F1 H1 _ _ n1.f k (((e.step n1).set a).set b)⟩
theorem s_aug {i : Nat} {g : Int → Int → Int} {a b : Int} (hx : ρ[i]? = some (.dat (.int a))) (h : EvD Z te ρ (.int b)) (k : P.nx (ρ.set i (.dat (.int (g a b))))) : EvS Z (tAug i te (ipI g)) ρ P := fun F0 H0 F H σ D e w f => by
  obtain ⟨v, h1, h2⟩ := e.dat hx
  exact ⟨v, h1, h F0 H0 F H σ e w _ fun u F1 H1 n1 p1 => ⟨a, b, dp_int h2, dp_int p1, f.nx F1 H1 _ _ n1.f k ((e.step n1).set (.int _))⟩⟩
theorem s_ret (h : EvD Z te ρ d) (k : P.rt d) : EvS Z (tRet te) ρ P := fun F0 H0 F H σ D e w f =>
  h F0 H0 F H σ e w _ fun v F1 H1 n1 p1 => f.rt d v F1 H1 k (e.g.trans n1) p1
theorem s_retL (h : EvL Z te ρ ds) (k : P.rl ds) : EvS Z (tRet te) ρ P := fun F0 H0 F H σ D e w f =>
  h F0 H0 F H σ e w _ fun p vs F1 H1 n1 hn hF hp a1 => f.rl ds p vs F1 H1 k (e.g.trans n1) (none_back e.g.h hn) hF hp a1
/-- return xs, xs an own list -/
theorem s_retO {i : Nat} (h : ρ[i]? = some (.own ds)) (k : P.rl ds) : EvS Z (tRet (tVar i)) ρ P := fun F0 H0 F H σ D e w f => by
  obtain ⟨p, vs, h1, h0, hF, hp, a⟩ := e.own h
  exact ⟨.ref p, h1, f.rl ds p vs F H k e.g h0 hF hp a⟩
theorem s_retN (k : P.rt .none) : EvS Z tRetN ρ P := fun F0 H0 F H σ D e w f => f.rt .none .non F H k e.g .non
theorem s_drop (h : EvD Z te ρ d) (k : P.nx ρ) : EvS Z (tDrop te) ρ P := fun F0 H0 F H σ D e w f =>
  h F0 H0 F H σ e w _ fun v F1 H1 n1 p1 => f.nx F1 H1 σ ρ n1.f k (e.step n1)
theorem s_raise (h : EvX Z te ρ) : EvS Z (tDrop te) ρ P := fun F0 H0 F H σ D e w f => h F0 H0 F H σ e w _
theorem s_retX (h : EvX Z te ρ) : EvS Z (tRet te) ρ P := fun F0 H0 F H σ D e w f => h F0 H0 F H σ e w _
theorem s_asgX {g : TG} (h : EvX Z te ρ) : EvS Z (tAsg te g) ρ P := fun F0 H0 F H σ D e w f => h F0 H0 F H σ e w _
/-- xs.append(e), xs an own list -/
theorem s_app {i : Nat} (hi : ρ[i]? = some (.own ds)) (h : EvD Z te ρ d) (hz : ds.length < 100000) (k : P.nx (ρ.set i (.own (ds ++ [d])))) : EvS Z (tDrop (tBM Z.K "list" rAppend (tVar i) (tCons te tNil))) ρ P := fun F0 H0 F H σ D e w f => by
  obtain ⟨p, vs, h1, h0, hF, hp, a⟩ := e.own hi
  refine ⟨.ref p, h1, Or.inl ⟨rfl, vs, Or.inl (Or.inl hp)⟩, h F0 H0 F H σ e w _ fun v F1 H1 n1 p1 => ?_⟩
  have e1 := e.step n1
  exact ⟨p, vs, v, rfl, rfl, n1.h p _ hp, Evl.sz_lt (by rw [dpAll_len a]; exact hz), f.nx F1 _ σ _ n1.f k (e1.mut hi h1 (dpAll_app (dpAll_ex n1.f _ _ a) (.cons p1 .nil)))⟩
/-- xs[j] = e, xs an own list -/
theorem s_setI {i : Nat} {j : Int} (hi : ρ[i]? = some (.own ds)) (h : EvD Z te ρ d) (hj : EvD Z tb ρ (.int j)) (h0 : 0 ≤ j) (h1 : j.toNat < ds.length) (k : P.nx (ρ.set i (.own (ds.set j.toNat d)))) : EvS Z (tAsg te (gSub (tVar i) tb rSetL)) ρ P := fun F0 H0 F H σ D e w f =>
  h F0 H0 F H σ e w _ fun v F1 H1 n1 p1 => by
    have e1 := e.step n1
    obtain ⟨p, vs, g1, g0, hF, hp, a⟩ := e1.own hi
    refine ⟨.ref p, g1, hj F0 H0 F1 H1 σ e1 w _ fun u F2 H2 n2 p2 => ?_⟩
    exact ⟨p, vs, j, j.toNat, rfl, dp_int p2, n2.h p _ hp, by
      have := Evl.ixN_nat (n := vs.length) (j := j.toNat) (by rw [dpAll_len a]; exact h1)
      rw [show ((j.toNat : Nat) : Int) = j by omega] at this
      exact this, f.nx F2 _ σ _ (n1.trans n2).f k ((e1.step n2).mut hi g1 (dpAll_set (dp_ex n2.f _ _ p1) _ (dpAll_ex n2.f _ _ a)))⟩
theorem s_clear {i : Nat} (hi : ρ[i]? = some (.own ds)) (k : P.nx (ρ.set i (.own []))) : EvS Z (tDrop (tBM0 Z.K "list" rClear (tVar i))) ρ P := fun F0 H0 F H σ D e w f => by
  obtain ⟨p, vs, h1, h0, hF, hp, a⟩ := e.own hi
  exact ⟨.ref p, h1, Or.inl ⟨rfl, vs, Or.inl (Or.inl hp)⟩, p, vs, rfl, rfl, hp, f.nx F _ σ _ (.refl _) k (e.mut hi h1 .nil)⟩

/-! ### if -/
theorem s_if {b : Bool} (h : EvT Z t ρ b) (h1 : b = true → EvS Z tu ρ P) (h2 : b = false → EvS Z tw ρ P) : EvS Z (tIfS t tu tw) ρ P := fun F0 H0 F H σ D e w f =>
  h F0 H0 F H σ e w _ fun F1 H1 n1 => by
    cases b with
    | true => exact iteT (h1 rfl F0 H0 F1 H1 σ D (e.step n1) w (f.step n1.f))
    | false => exact iteF (h2 rfl F0 H0 F1 H1 σ D (e.step n1) w (f.step n1.f))
/-- an if, then the rest; the rest is shown on both ways -/
theorem s_if2 {b : Bool} (h : EvT Z t ρ b) (h1 : b = true → EvS Z (tSeq tu ts) ρ P) (h2 : b = false → EvS Z (tSeq tw ts) ρ P) : EvS Z (tSeq (tIfS t tu tw) ts) ρ P := fun F0 H0 F H σ D e w f =>
  h F0 H0 F H σ e w _ fun F1 H1 n1 => by
    cases b with
    | true => exact iteT (h1 rfl F0 H0 F1 H1 σ D (e.step n1) w (f.step n1.f))
    | false => exact iteF (h2 rfl F0 H0 F1 H1 σ D (e.step n1) w (f.step n1.f))
theorem s_nil2 (h : EvS Z ts ρ P) : EvS Z (tSeq tNext ts) ρ P := h
/-- if c: return .. -/
theorem s_ifRet {b : Bool} (h : EvT Z t ρ b) (h1 : b = true → EvS Z tu ρ { P with nx := fun _ => False }) (h2 : b = false → EvS Z ts ρ P) : EvS Z (tSeq (tIfS t tu tNext) ts) ρ P := s_if2 h (fun hb => s_cut (fun _ => False) (h1 hb) fun _ z => z.elim) h2
/-- if c: x = e -/
theorem s_ifAsg {b : Bool} {i : Nat} (h : EvT Z t ρ b) (h1 : b = true → EvD Z te ρ x) (h2 : b = false → ρ.set i (.dat x) = ρ) (k : EvS Z ts (ρ.set i (.dat x)) P) : EvS Z (tSeq (tIfS t (tAsg te (gName i)) tNext) ts) ρ P :=
  s_if2 h (fun hb => s_seq (s_asg (h1 hb) g_name rfl) k) (fun hb => s_nil2 (by
    rw [h2 hb] at k
    exact k))

/-! ### what a loop goes over -/
structure Yields (K : PySem.W.Frag) (J : It) (F : Hp) (ds : List Dt) : Prop where
  go : ∀ F' H' i, Evl.Ex F F' → Evl.Ex F' H' → i < ds.length → J.go i H'
  stop : ∀ F' H', Evl.Ex F F' → Evl.Ex F' H' → J.stop ds.length H'
  yld : ∀ F' H' i x H3 d, Evl.Ex F F' → Evl.Ex F' H' → J.yld i H' x H3 → ds[i]? = some d → ∃ F3, Nx F' H' F3 H3 ∧ Dp K F3 x d
def EvI (Z : Zx) (wi : TI) (ρ : List Sl) (ds : List Dt) : Prop := ∀ F0 H0 F H σ, Env Z.K F0 H0 F H σ ρ → Wish Z F0 H0 → ∀ R : It → Hp → Prop, (∀ J F' H', Nx F H F' H' → Yields Z.K J F' ds → R J H') → wi σ H R
def rangeD (lo : Int) (n : Nat) : List Dt := (List.range n).map fun i => .int (lo + (i : Nat))
theorem rangeD_len {lo : Int} {n : Nat} : (rangeD lo n).length = n := by unfold rangeD; rw [List.length_map, List.length_range]
theorem rangeD_get {lo : Int} {n i : Nat} {d : Dt} (e : (rangeD lo n)[i]? = some d) : i < n ∧ d = .int (lo + (i : Nat)) := by
  unfold rangeD at e
  rw [List.getElem?_map] at e
  by_cases h : i < n
  · rw [List.getElem?_range h] at e
    exact ⟨h, (Option.some.inj e).symm⟩
  · rw [List.getElem?_eq_none (by rw [List.length_range]; omega)] at e
    cases e
theorem yields_range {K : PySem.W.Frag} {F : Hp} {lo : Int} {n : Nat} : Yields K (Itr lo n) F (rangeD lo n) where
  go := fun F' H' i _ _ h => by rw [rangeD_len] at h; exact h
  stop := fun F' H' _ _ => by rw [rangeD_len]; exact Nat.le_refl _
  yld := fun F' H' i x H3 d _ e y hd => by
    obtain ⟨e1, e2⟩ := y
    subst e1 e2
    rw [(rangeD_get hd).2]
    exact ⟨F', .refl e, .int _⟩
theorem i_rng1 {tr : TA} {n : Int} (h : EvA Z tr ρ [.int n]) (hn : n ≤ 100000 ∧ -100000 ≤ n) : EvI Z (iRng1 tr) ρ (rangeD 0 n.toNat) := fun F0 H0 F H σ e w R q =>
  h F0 H0 F H σ e w _ fun vs F1 H1 n1 a1 => ⟨n, all1 a1 rfl, by omega, by omega, q _ F1 H1 n1 yields_range⟩
theorem i_rng2 {tr : TA} {m n : Int} (h : EvA Z tr ρ [.int m, .int n]) (hn : n ≤ 100000 ∧ -100000 ≤ n) (hm : m ≤ 100000 ∧ -100000 ≤ m) : EvI Z (iRng2 tr) ρ (rangeD m (n - m).toNat) := fun F0 H0 F H σ e w R q =>
  h F0 H0 F H σ e w _ fun vs F1 H1 n1 a1 => ⟨m, n, all2 a1 rfl rfl, by omega, q _ F1 H1 n1 yields_range⟩
theorem sql_one {K : PySem.W.Frag} {H : Hp} {p : Addr} {xs : List V} (h : SqL K H p xs) {F' H' : Hp} (e : Evl.Ex H H') : SqL K H' p xs := Evl.ex_l e h
theorem yields_list {K : PySem.W.Frag} {F : Hp} {p : Addr} {vs : List V} (s : SqL K F p vs) (a : DpAll K F vs ds) : Yields K (Itl K p) F ds where
  go := fun F' H' i e1 e2 h => by
    have hl := dpAll_len a
    exact ⟨vs, vs[i]'(by omega), Evl.ex_l (e1.trans e2) s, List.getElem?_eq_getElem _⟩
  stop := fun F' H' e1 e2 => ⟨vs, Evl.ex_l (e1.trans e2) s, by rw [dpAll_len a]; exact Nat.le_refl _⟩
  yld := fun F' H' i x H3 d e1 e2 y hd => by
    obtain ⟨q1, q2⟩ := y
    subst q1
    obtain ⟨v, h1, h2⟩ := dpAll_get a hd
    have := q2 vs (Evl.ex_l (e1.trans e2) s)
    rw [h1] at this
    rw [← Option.some.inj this]
    exact ⟨F', .refl e2, dp_ex e1 _ _ h2⟩
theorem yields_tup {K : PySem.W.Frag} {F : Hp} {p : Addr} {vs : List V} (s : SqT K F p vs) (a : DpAll K F vs ds) : Yields K (Itt K p) F ds where
  go := fun F' H' i e1 e2 h => by
    have hl := dpAll_len a
    exact ⟨vs, vs[i]'(by omega), Evl.ex_t (e1.trans e2) s, List.getElem?_eq_getElem _⟩
  stop := fun F' H' e1 e2 => ⟨vs, Evl.ex_t (e1.trans e2) s, by rw [dpAll_len a]; exact Nat.le_refl _⟩
  yld := fun F' H' i x H3 d e1 e2 y hd => by
    obtain ⟨q1, q2⟩ := y
    subst q1
    obtain ⟨v, h1, h2⟩ := dpAll_get a hd
    have := q2 vs (Evl.ex_t (e1.trans e2) s)
    rw [h1] at this
    rw [← Option.some.inj this]
    exact ⟨F', .refl e2, dp_ex e1 _ _ h2⟩
def iU (K : PySem.W.Frag) (tl : TE) : TI := fun σ H R => tl σ H fun x H1 => (∃ a, x = .ref a ∧ (∃ xs, SqL K H1 a xs) ∧ R (Itl K a) H1) ∨ (∃ a, x = .ref a ∧ (∃ xs, SqT K H1 a xs) ∧ R (Itt K a) H1)
theorem i_seq {k : Bool} (h : EvD Z te ρ (sqD k ds)) : EvI Z (iU Z.K te) ρ ds := fun F0 H0 F H σ e w R q =>
  h F0 H0 F H σ e w _ fun v F1 H1 n1 p1 => by
    cases k with
    | true =>
      obtain ⟨p, vs, rfl, s, a⟩ := dp_list p1
      exact Or.inl ⟨p, rfl, ⟨vs, Evl.ex_l n1.i s⟩, q _ F1 H1 n1 (yields_list s a)⟩
    | false =>
      obtain ⟨p, vs, rfl, s, a⟩ := dp_tup p1
      exact Or.inr ⟨p, rfl, ⟨vs, Evl.ex_t n1.i s⟩, q _ F1 H1 n1 (yields_tup s a)⟩
theorem pi_U {X : Cx} {tg l : Expr} {tl : TE} (hl : PE X l tl) : PI X tg l (iU X.K tl) := by
  refine ⟨fun pins s σ H R I h => ?_⟩
  refine thn (hl.run pins s σ H _ I h) fun v s1 ⟨x, H1, I1, r1, q1⟩ => ?_
  rcases q1 with ⟨a, e, ⟨xs, hq⟩, q⟩ | ⟨a, e, ⟨xs, hq⟩, q⟩
  · subst e
    cases r1
    obtain ⟨its, rv, p, hz⟩ := I1.list hq
    refine wpAny_pyIter_list p.isList ?_
    refine ⟨s1.heap.objs.size, [s1.heap.objs.size], _, _, H1, rfl, I1.kept (t' := s1.toks) fun b o e => Heap.get?_push_of_some _ e, turn_list a _, ⟨_, Heap.get?_push_size _ rfl, rfl, rfl⟩, fun b hb => ?_, q⟩
    have e : b = s1.heap.objs.size := by simpa using hb
    subst e
    exact I1.fpOk (Nat.le_refl _) (I1.hok.fresh (Nat.le_refl _))
  · subst e
    cases r1
    obtain ⟨its, rv, p, hz⟩ := I1.tuple hq
    refine wpAny_pyIter_tuple (show s1.heap.IsTuple a its.toArray from p) ?_
    refine ⟨s1.heap.objs.size, [s1.heap.objs.size], _, _, H1, rfl, I1.kept (t' := s1.toks) fun b o e => Heap.get?_push_of_some _ e, turn_tuple a _, ⟨_, Heap.get?_push_size _ rfl, rfl, rfl⟩, fun b hb => ?_, q⟩
    have e : b = s1.heap.objs.size := by simpa using hb
    subst e
    exact I1.fpOk (Nat.le_refl _) (I1.hok.fresh (Nat.le_refl _))

/-! ### for -/
theorem s_for {wi : TI} {g : TG} (h : EvI Z wi ρ ds) (I : Nat → List Sl → Prop) (h0 : I 0 ρ)
    (hs : ∀ i d ρ', ds[i]? = some d → I i ρ' → ∃ ρ2, EvG Z g d ρ' ρ2 ∧ EvS Z ts ρ2 { P with nx := I (i + 1), ct := I (i + 1), bk := P.nx }) (hd : ∀ ρ', I ds.length ρ' → P.nx ρ') : EvS Z (tFor wi g ts) ρ P := fun F0 H0 F H σ D e w f =>
  h F0 H0 F H σ e w _ fun J F1 H1 n1 y => by
    refine ⟨fun i m σ' H' => m = ds.length - i ∧ i ≤ ds.length ∧ ∃ F' ρ', Evl.Ex F1 F' ∧ Env Z.K F0 H0 F' H' σ' ρ' ∧ I i ρ', ⟨ds.length, by simp, Nat.zero_le _, F1, ρ, .refl _, e.step n1, h0⟩, ?_⟩
    rintro i m σ' H' ⟨rfl, hi, F', ρ', e1, en, p⟩
    by_cases hlt : i < ds.length
    · refine .inr ⟨y.go F' H' i e1 en.g.i hlt, fun σ2 H2 => i + 1 ≤ ds.length ∧ ∃ F' ρ', Evl.Ex F1 F' ∧ Env Z.K F0 H0 F' H2 σ2 ρ' ∧ I (i + 1) ρ', fun σ2 H2 hN => ⟨ds.length - (i + 1), by omega, rfl, hN⟩, fun x H3 hy => ?_⟩
      obtain ⟨F3, n3, p3⟩ := y.yld F' H' i x H3 ds[i] e1 en.g.i hy (List.getElem?_eq_getElem hlt)
      obtain ⟨ρ2, hg, hb⟩ := hs i ds[i] ρ' (List.getElem?_eq_getElem hlt) p
      have e3 := en.step n3
      refine hg F0 H0 F3 H3 σ' x e3 p3 _ fun σ4 e4 => hb F0 H0 F3 H3 σ4 _ e4 w ⟨fun F5 H5 σ5 ρ5 x5 m5 e5 => ⟨hlt, F5, ρ5, (e1.trans n3.f).trans x5, e5, m5⟩, f.rt, f.rl, fun F5 H5 σ5 ρ5 x5 m5 e5 => f.nx F5 H5 σ5 ρ5 (((n1.f.trans e1).trans n3.f).trans x5) m5 e5, fun F5 H5 σ5 ρ5 x5 m5 e5 => ⟨hlt, F5, ρ5, (e1.trans n3.f).trans x5, e5, m5⟩⟩
    · have ei : i = ds.length := by omega
      subst ei
      exact .inl ⟨y.stop F' H' e1 en.g.i, f.nx F' H' σ' ρ' (n1.f.trans e1) (hd ρ' p) en⟩
/-- while, by a word and a number that falls -/
theorem s_while (I : Nat → List Sl → Prop) (m0 : Nat) (h0 : I m0 ρ)
    (hs : ∀ m ρ', I m ρ' → ∃ b, EvT Z t ρ' b ∧ (b = true → EvS Z ts ρ' { P with nx := fun ρ2 => ∃ m', m' < m ∧ I m' ρ2, ct := fun ρ2 => ∃ m', m' < m ∧ I m' ρ2, bk := P.nx }) ∧ (b = false → P.nx ρ')) : EvS Z (tWhile t ts) ρ P := fun F0 H0 F H σ D e w f => by
  refine ⟨fun m σ' H' => ∃ F' ρ', Evl.Ex F F' ∧ Env Z.K F0 H0 F' H' σ' ρ' ∧ I m ρ', ⟨m0, F, ρ, .refl _, e, h0⟩, ?_⟩
  rintro m σ' H' ⟨F', ρ', e1, en, p⟩
  obtain ⟨b, ht, h1, h2⟩ := hs m ρ' p
  refine ht F0 H0 F' H' σ' en w _ fun F2 H2 n2 => ?_
  have e2 := en.step n2
  cases b with
  | true =>
    refine iteT ⟨fun σ3 H3 => ∃ m', m' < m ∧ ∃ F' ρ', Evl.Ex F F' ∧ Env Z.K F0 H0 F' H3 σ3 ρ' ∧ I m' ρ', fun σ3 H3 hN => hN, h1 rfl F0 H0 F2 H2 σ' _ e2 w ⟨fun F5 H5 σ5 ρ5 x5 m5 e5 => ?_, f.rt, f.rl, fun F5 H5 σ5 ρ5 x5 m5 e5 => f.nx F5 H5 σ5 ρ5 ((e1.trans n2.f).trans x5) m5 e5, fun F5 H5 σ5 ρ5 x5 m5 e5 => ?_⟩⟩
    · obtain ⟨m', hm, i5⟩ := m5
      exact ⟨m', hm, F5, ρ5, (e1.trans n2.f).trans x5, e5, i5⟩
    · obtain ⟨m', hm, i5⟩ := m5
      exact ⟨m', hm, F5, ρ5, (e1.trans n2.f).trans x5, e5, i5⟩
  | false => exact iteF (f.nx F2 H2 σ' ρ' (e1.trans n2.f) (h2 rfl) e2)
/-! ### comprehensions -/
/-- what is kept: of each datum, whether, and what -/
def keptD (ds : List Dt) (f : Dt → Bool) (v : Dt → Dt) : List Dt := (ds.filter f).map v
theorem kept_take {ds : List Dt} {f : Dt → Bool} {v : Dt → Dt} {i : Nat} {d : Dt} (h : ds[i]? = some d) : keptD (ds.take (i + 1)) f v = keptD (ds.take i) f v ++ (if f d = true then [v d] else []) := by
  unfold keptD
  rw [List.take_add_one, h, List.filter_append, List.map_append]
  show _ ++ ((List.filter f [d]).map v) = _
  by_cases hf : f d = true
  · rw [List.filter_cons_of_pos hf, if_pos hf]; rfl
  · rw [List.filter_cons_of_neg hf, if_neg hf]; rfl
theorem kept_len (ds : List Dt) (f : Dt → Bool) (v : Dt → Dt) : (keptD ds f v).length ≤ ds.length := by
  unfold keptD
  rw [List.length_map]
  exact List.length_filter_le _ _
/-- the slots of a comprehension's own names are forgotten -/
theorem env_wipe {K : PySem.W.Frag} {F0 H0 F H : Hp} {σ : L2.St} : ∀ {ns : List Nat} {ρ : List Sl}, Env K F0 H0 F H σ ρ → Env K F0 H0 F H (wipe σ ns) (ns.foldr (fun n r => r.set n .any) ρ)
  | [], _, e => e
  | n :: ns, ρ, e => (env_wipe (ns := ns) e).setAny
/-- a target within a comprehension: only its own slots are touched -/
def EvGw (Z : Zx) (g : TG) (ns : List Nat) (d : Dt) (ρ ρ' : List Sl) : Prop := ∀ F0 H0 F H σ v, Env Z.K F0 H0 F H (wipe σ ns) ρ → Dp Z.K F v d → ∀ Q : L2.St → Hp → Prop, (∀ σ', wipe σ' ns = wipe σ ns → Env Z.K F0 H0 F H σ' ρ' → Q σ' H) → g v (wipe σ ns) H Q
theorem gw_name {i : Nat} : EvGw Z (gName i) [i] d ρ (ρ.set i (.dat d)) := fun F0 H0 F H σ v e p Q q => q _ (by
  show (((σ.set i none).set i (some v)).set i none) = σ.set i none
  rw [List.set_set, List.set_set]) (e.set p)
theorem gw_tup2 {i j : Nat} (hij : i ≠ j) : EvGw Z (gTup Z.K 2 (gCons (gName i) (gCons (gName j) gNil))) [i, j] (.tuple [x, y]) ρ ((ρ.set i (.dat x)).set j (.dat y)) := fun F0 H0 F H σ v e p Q q => by
  obtain ⟨a, vs, rfl, s, aa⟩ := dp_tup p
  cases aa with
  | cons a1 b1 => cases b1 with
    | cons a2 c =>
      cases c
      refine ⟨a, _, rfl, Evl.ex_t e.g.i s, rfl, _, _, rfl, _, _, rfl, rfl, q _ ?_ ((e.set a1).set a2)⟩
      show ((((((σ.set j none).set i none).set i _).set j _).set j none).set i none) = ((σ.set j none).set i none)
      apply List.ext_getElem?; intro n; simp only [List.getElem?_set, List.length_set]; repeat' split <;> simp_all
theorem l_lc {wi : TI} {g : TG} {tt : TT} {ns : List Nat} (f : Dt → Bool) (v : Dt → Dt) (h : EvI Z wi ρ ds) (hz : ds.length ≤ 50000)
    (hs : ∀ (i : Nat) (d : Dt), ds[i]? = some d → ∃ ρ2, EvGw Z g ns d (ns.foldr (fun n r => r.set n .any) ρ) ρ2 ∧ EvT Z tt ρ2 (f d) ∧ (f d = true → EvD Z te ρ2 (v d))) : EvL Z (tLc wi g tt te ns) ρ (keptD ds f v) := fun F0 H0 F H σ e w Q q =>
  h F0 H0 F H σ e w _ fun J F1 H1 n1 y => fun C hC => by
    have e1 := e.step n1
    refine ⟨fun i m H' => m = ds.length - i ∧ i ≤ ds.length ∧ ∃ F' vs, Nx F1 H1 F' H' ∧ F' C = none ∧ H' C = some (.lst vs) ∧ DpAll Z.K F' vs (keptD (ds.take i) f v), ⟨ds.length, by simp, Nat.zero_le _, F1, [], Nx.own n1.i hC, none_back n1.i hC, upd_same, by
      rw [List.take_zero]; exact .nil⟩, ?_⟩
    rintro i m H' ⟨rfl, hi, F', vs, n2, hF, hH, ha⟩
    by_cases hlt : i < ds.length
    · refine .inr ⟨y.go F' H' i n2.f n2.i hlt, fun H2 => i + 1 ≤ ds.length ∧ ∃ F' vs, Nx F1 H1 F' H2 ∧ F' C = none ∧ H2 C = some (.lst vs) ∧ DpAll Z.K F' vs (keptD (ds.take (i + 1)) f v), fun H2 hN => ⟨ds.length - (i + 1), by omega, rfl, hN⟩, fun x H3 hy => ?_⟩
      obtain ⟨F3, n3, p3⟩ := y.yld F' H' i x H3 ds[i] n2.f n2.i hy (List.getElem?_eq_getElem hlt)
      obtain ⟨ρ2, hg, ht, hv⟩ := hs i ds[i] (List.getElem?_eq_getElem hlt)
      have hC3 : F3 C = none := n3.o C (by rw [hH]; exact fun z => nomatch z) hF
      have hH3 := n3.h C _ hH
      refine hg F0 H0 F3 H3 σ x (env_wipe ((e1.step n2).step n3)) p3 _ fun σ4 hw4 e4 => ⟨hw4, ht F0 H0 F3 H3 σ4 e4 w _ fun F4 H4 n4 => ?_⟩
      have hC4 : F4 C = none := n4.o C (by rw [hH3]; exact fun z => nomatch z) hC3
      have hH4 := n4.h C _ hH3
      have n24 := (n2.trans n3).trans n4
      have ek := kept_take (f := f) (v := v) (List.getElem?_eq_getElem hlt)
      cases hf : f ds[i] with
      | true =>
        refine iteT (hv hf F0 H0 F4 H4 σ4 (e4.step n4) w _ fun u F5 H5 n5 p5 => ?_)
        have hC5 : F5 C = none := n5.o C (by rw [hH4]; exact fun z => nomatch z) hC4
        have hH5 := n5.h C _ hH4
        have n25 := n24.trans n5
        refine ⟨vs, hH5, Evl.sz_lt ?_, hlt, F5, vs ++ [u], ⟨n25.f, Evl.Ex.mut n25.h hC, Evl.Ex.mut n25.i hC5, n25.o⟩, hC5, upd_same, ?_⟩
        · rw [dpAll_len ha]
          have h1 := kept_len (ds.take i) f v
          rw [List.length_take] at h1
          omega
        · rw [ek, if_pos hf]
          exact dpAll_app (dpAll_ex ((n3.f.trans n4.f).trans n5.f) _ _ ha) (.cons p5 .nil)
      | false =>
        refine iteF ⟨hlt, F4, vs, n24, hC4, hH4, ?_⟩
        rw [ek, if_neg (by rw [hf]; exact Bool.false_ne_true), List.append_nil]
        exact dpAll_ex (n3.f.trans n4.f) _ _ ha
    · have ei : i = ds.length := by omega
      subst ei
      refine .inl ⟨y.stop F' H' n2.f n2.i, ?_⟩
      rw [List.take_length] at ha
      exact q C vs F' H' (n1.trans n2) (none_back n1.h hC) hF hH ha
end

/-! ### a def -/
section
variable {P : Program} {w : World} {K : PySem.W.Frag} {mg : Str → Option Value} {base : Heap}
def slots0 (N : List Str) (ds : List Dt) : List Sl := ds.map Sl.dat ++ List.replicate (N.length - ds.length) Sl.any
theorem env_start {N : List Str} {F H : Hp} {vs : List V} {ds : List Dt} (e : Evl.Ex F H) (a : DpAll K F vs ds) : Env K F H F H (L2.start N vs) (slots0 N ds) := by
  have hl := dpAll_len a
  refine ⟨.refl e, ?_, fun i x h => ?_, fun i j ds' es p hi => ?_⟩
  · unfold L2.start slots0
    rw [List.length_append, List.length_append, List.length_map, List.length_map, List.length_replicate, List.length_replicate, hl]
  · unfold L2.start slots0 at *
    by_cases hi : i < ds.length
    · rw [List.getElem?_append_left (by rw [List.length_map]; exact hi), List.getElem?_map, List.getElem?_eq_getElem hi] at h
      have hx : Sl.dat ds[i] = x := Option.some.inj h
      obtain ⟨v, h1, h2⟩ := dpAll_get a (List.getElem?_eq_getElem hi)
      refine ⟨some v, ?_, ?_⟩
      · rw [List.getElem?_append_left (by rw [List.length_map, hl]; exact hi), List.getElem?_map, h1]
        rfl
      · rw [← hx]
        exact ⟨v, rfl, h2⟩
    · rw [List.getElem?_append_right (by rw [List.length_map]; omega), List.length_map, List.getElem?_replicate] at h
      by_cases hj : i - ds.length < N.length - ds.length
      · rw [if_pos hj] at h
        have hx : Sl.any = x := Option.some.inj h
        refine ⟨none, ?_, by rw [← hx]; exact True.intro⟩
        rw [List.getElem?_append_right (by rw [List.length_map, hl]; omega), List.length_map, List.getElem?_replicate, hl, if_pos hj]
      · rw [if_neg hj] at h
        cases h
  · unfold slots0 at hi
    by_cases h : i < ds.length
    · rw [List.getElem?_append_left (by rw [List.length_map]; exact h), List.getElem?_map, List.getElem?_eq_getElem h] at hi
      cases hi
    · rw [List.getElem?_append_right (by rw [List.length_map]; omega), List.length_map, List.getElem?_replicate] at hi
      split at hi <;> cases hi
abbrev Z0 (K : PySem.W.Frag) : Zx := ⟨K, fun _ _ _ => False, fun _ => False⟩
theorem wish0 {F0 H0 : Hp} : Wish (Z0 K) F0 H0 := fun _ _ _ h => h.elim
/-- what a def's body is to reach: the datum d comes -/
def toD (d : Dt) : Post := ⟨fun _ => d = .none, fun x => x = d, fun ds => d = .list ds, fun _ => False, fun _ => False⟩
def toL (es : List Dt) : Post := ⟨fun _ => False, fun _ => False, fun ds => ds = es, fun _ => False, fun _ => False⟩
theorem fn_D {α : Type} {x qual : Str} {st : Stmt} {f : Addr} {fd : FuncData} {N ps : List Str} {k : Nat} {args : α → List Dt} {ok : α → Prop} {g : α → Dt} (Fu : Fun K x qual st f fd) (S : FnScope N ps (defScope st)) (hn : ∀ a, (args a).length = ps.length)
    (hbody : ∀ (cdv : Value) (A : Around) (outer : List PySem.Env) (s : Shared) (H : Hp) (E : XK), Room k (A.deeper (envOfC qual (defScope st) s.heap.objs.size f cdv)) →
      ∃ t, PSs (cxOf CX0 P w K mg base N qual (defScope st) f cdv A outer s H E).nox (defBody st) t ∧ ∀ a, ok a → EvS (Z0 K) t (slots0 N (args a)) (toD (g a))) : FnOk P w K mg base CX0 (k + 1) f fd ps (spD K args ok g) := by
  refine Fu.ok S (fun vs H Q E h => ?_) (fun cdv A outer s H vs Q E hr h => ?_)
  · obtain ⟨F, a, _, da, _⟩ := h
    exact (dpAll_len da).trans (hn a)
  · obtain ⟨F, a, e, da, ho, q⟩ := h
    obtain ⟨t, ht, hev⟩ := hbody cdv A outer s H E hr
    refine ⟨t, ht, hev a ho F H F H _ _ (env_start e da) wish0 ⟨fun F' H' σ ρ _ hd en => ?_, fun d v F' H' hd n p => ?_, fun ds p vs F' H' hd n h0 hF hp a => ?_, fun _ _ _ _ _ z => z.elim, fun _ _ _ _ _ z => z.elim⟩⟩
    · exact q _ F' H' en.g (by rw [show g a = .none from hd]; exact .non)
    · exact q v F' H' n (by rw [← show d = g a from hd]; exact p)
    · exact q _ _ H' (n.shut h0 hF hp) (by
        rw [show g _ = .list ds from hd]
        exact .lst (Or.inl (Or.inl upd_same)) (dpAll_ex (Evl.Ex.new hF) _ _ a))
theorem fn_L {α : Type} {x qual : Str} {st : Stmt} {f : Addr} {fd : FuncData} {N ps : List Str} {k : Nat} {args : α → List Dt} {ok : α → Prop} {g : α → List Dt} (Fu : Fun K x qual st f fd) (S : FnScope N ps (defScope st)) (hn : ∀ a, (args a).length = ps.length)
    (hbody : ∀ (cdv : Value) (A : Around) (outer : List PySem.Env) (s : Shared) (H : Hp) (E : XK), Room k (A.deeper (envOfC qual (defScope st) s.heap.objs.size f cdv)) →
      ∃ t, PSs (cxOf CX0 P w K mg base N qual (defScope st) f cdv A outer s H E).nox (defBody st) t ∧ ∀ a, ok a → EvS (Z0 K) t (slots0 N (args a)) (toL (g a))) : FnOk P w K mg base CX0 (k + 1) f fd ps (spL K args ok g) := by
  refine Fu.ok S (fun vs H Q E h => ?_) (fun cdv A outer s H vs Q E hr h => ?_)
  · obtain ⟨F, a, _, da, _⟩ := h
    exact (dpAll_len da).trans (hn a)
  · obtain ⟨F, a, e, da, ho, q⟩ := h
    obtain ⟨t, ht, hev⟩ := hbody cdv A outer s H E hr
    refine ⟨t, ht, hev a ho F H F H _ _ (env_start e da) wish0 ⟨fun F' H' σ ρ _ hd en => hd.elim, fun d v F' H' hd n p => hd.elim, fun ds p vs F' H' hd n h0 hF hp a => ?_, fun _ _ _ _ _ z => z.elim, fun _ _ _ _ _ z => z.elim⟩⟩
    exact q p vs F' H' n h0 hF hp (by rw [← show ds = g _ from hd]; exact a)
end
end DL

set_option Elab.async false
set_option linter.all false
set_option maxRecDepth 100000
set_option maxHeartbeats 2000000
/-! DU: a def of the text by its name; the end. -/
namespace DL
open PySem PySem.Spec PyProof.Rows L2
section
variable {P : Program} {w : World} {K : PySem.W.Frag} {mg : Str → Option Value} {base : Heap}
/-- the def that the name holds keeps the promise -/
structure Fn1 (P : Program) (w : World) (K : PySem.W.Frag) (mg : Str → Option Value) (base : Heap) (k : Nat) (x : Str) (ps : List Str) (sp : Sp) : Prop where
  ex : ∃ f fd, FnOk P w K mg base CX0 k f fd ps sp ∧ mg x = some (.ref f) ∧ PySem.W.keepIn K (.ref f) = true ∧ (∃ (oc : Value) (od : Option Addr) (osl : Array (Option Value)), K.lookup f = some ⟨oc, od, .func fd, osl⟩) ∧ ∀ us : List Value, us.length = ps.length → bindArgs fd ⟨us, []⟩ = pure (ps.zip us)
theorem pe_fn {X : Cx} {k : Nat} {x : Str} {ps : List Str} {sp : Sp} {p pos : Pos} {e : Expr} {es : List Expr} {t : TA} (G : Fn1 X.prog X.w X.K X.mg X.base k x ps sp) (hr : Room k X.A) (hg : Gl X x)
    (ha : PA X (e :: es) t) (hdb : (x == ("__debug__" : Str)) = false := by decide) (he : starEach (e :: es) X.env = (false, eval e X.env) :: starEach es X.env := by rfl) (hpl : (backTo pos (starEach es X.env)).any (·.1) = false := by rfl) :
    PE X (.Call (.Name x p) (e :: es) [] pos) (tCall sp [] E0 t) := by
  obtain ⟨f, fd, F, hm, hk, _, hb⟩ := G.ex
  exact pe_call F hr hg hm hk (Binds.all hb) .nil pass0 ha hdb he hpl
theorem fn1 {k : Nat} {x qual : Str} {st : Stmt} {f : Addr} {fd : FuncData} {ps : List Str} {sp : Sp} (Fu : Fun K x qual st f fd) (hm : mg x = some (.ref f)) (hb : ∀ us : List Value, us.length = ps.length → bindArgs fd ⟨us, []⟩ = pure (ps.zip us)) (F : FnOk P w K mg base CX0 k f fd ps sp) : Fn1 P w K mg base k x ps sp :=
  ⟨f, fd, F, hm, Fu.kp, by obtain ⟨oc, od, _, _, _, _, _, _, osl, _, h, _⟩ := Fu.ex; exact ⟨oc, od, osl, h⟩, hb⟩
/-- a def as it stands behind the top -/
structure DefAt (K : PySem.W.Frag) (mg : Str → Option Value) (x qual : Str) (st : Stmt) (ps : List Str) : Prop where
  ex : ∃ f fd, Fun K x qual st f fd ∧ mg x = some (.ref f) ∧ ∀ us : List Value, us.length = ps.length → bindArgs fd ⟨us, []⟩ = pure (ps.zip us)
theorem def1 {h : Heap} (X : K.In h) (G : h.Ns mainGlobals mg) {x qual : Str} {st : Stmt} {f : Addr} {oc : Value} {od an : Option Addr} {osl : Array (Option Value)} {kV doc pm cdv ct : Value} {ps : List Str}
    (hb : ∀ (kV doc pm : Value) (an : Option Addr) (cdv ct : Value) (us : List Value), us.length = ps.length → bindArgs (PySem.W.fnOf x qual (defArgs st) (defBody st) (defScope st) .none kV doc pm an cdv ct) ⟨us, []⟩ = pure (ps.zip us))
    (a : PySem.W.nsIn K mainGlobals x = some (some (.ref f))) (l : K.lookup f = some ⟨oc, od, .func (PySem.W.fnOf x qual (defArgs st) (defBody st) (defScope st) .none kV doc pm an cdv ct), osl⟩)
    (c : PySem.W.codeIn K cdv qual = true) (k : PySem.W.keepIn K (.ref f) = true) : DefAt K mg x qual st ps := by
  have Fu := fun_mk (st := st) l c k
  exact ⟨f, _, Fu, PySem.W.mg_of X G a, hb _ _ _ _ _ _⟩
theorem DefAt.D {x qual : Str} {st : Stmt} {N ps : List Str} {k : Nat} {α : Type} {args : α → List Dt} {ok : α → Prop} {g : α → Dt} (At : DefAt K mg x qual st ps) (S : FnScope N ps (defScope st)) (hn : ∀ a, (args a).length = ps.length)
    (hbody : ∀ (f : Addr) (cdv : Value) (A : Around) (outer : List PySem.Env) (s : Shared) (H : Hp) (E : XK), Room k (A.deeper (envOfC qual (defScope st) s.heap.objs.size f cdv)) →
      ∃ t, PSs (cxOf CX0 P w K mg base N qual (defScope st) f cdv A outer s H E).nox (defBody st) t ∧ ∀ a, ok a → EvS (Z0 K) t (slots0 N (args a)) (toD (g a))) : Fn1 P w K mg base (k + 1) x ps (spD K args ok g) := by
  obtain ⟨f, fd, Fu, hm, hb⟩ := At.ex
  exact fn1 Fu hm hb (fn_D Fu S hn (hbody f))
theorem DefAt.L {x qual : Str} {st : Stmt} {N ps : List Str} {k : Nat} {α : Type} {args : α → List Dt} {ok : α → Prop} {g : α → List Dt} (At : DefAt K mg x qual st ps) (S : FnScope N ps (defScope st)) (hn : ∀ a, (args a).length = ps.length)
    (hbody : ∀ (f : Addr) (cdv : Value) (A : Around) (outer : List PySem.Env) (s : Shared) (H : Hp) (E : XK), Room k (A.deeper (envOfC qual (defScope st) s.heap.objs.size f cdv)) →
      ∃ t, PSs (cxOf CX0 P w K mg base N qual (defScope st) f cdv A outer s H E).nox (defBody st) t ∧ ∀ a, ok a → EvS (Z0 K) t (slots0 N (args a)) (toL (g a))) : Fn1 P w K mg base (k + 1) x ps (spL K args ok g) := by
  obtain ⟨f, fd, Fu, hm, hb⟩ := At.ex
  exact fn1 Fu hm hb (fn_L Fu S hn (hbody f))
/-- nothing is promised: where a recursion begins -/
theorem DefAt.bot {x qual : Str} {st : Stmt} {N ps : List Str} {sp : Sp} (At : DefAt K mg x qual st ps) (S : FnScope N ps (defScope st)) (hno : ∀ vs H Q E, sp vs H Q E → False) : Fn1 P w K mg base (0 + 1) x ps sp := by
  obtain ⟨f, fd, Fu, hm, hb⟩ := At.ex
  exact fn1 Fu hm hb (Fu.ok S (fun vs H Q E h => (hno vs H Q E h).elim) fun cdv A outer s H vs Q E hr h => (hno vs H Q E h).elim)
/-- one list of ints, no condition, True: a law's promise -/
def spLaw (K : PySem.W.Frag) : Sp := spD K (fun ns : List Int => [.list (intsD ns)]) (fun ns => ns.length ≤ 63) (fun _ => .bool true)
theorem law_hsp {K : PySem.W.Frag} {H : Hp} {a : Addr} {ns : List Int} (hl : ns.length ≤ 63) (hS : SqL K H a (ns.map V.int)) : spLaw K [.ref a] H (fun v _ => v = .bl true) fun _ _ _ => False :=
  ⟨H, ns, .refl _, .cons (.lst hS (dpAll_of_ints ns)) .nil, hl, fun v F' H' _ p => dp_bl p⟩
theorem fn_law {x : Str} {fa : Addr} {k : Nat} {y qual : Str} {st : Stmt} (At : DefAt K mg x qual st [y]) (hm : mg x = some (.ref fa)) (G : ∀ base : Heap, Fn1 P w K mg base k x [y] (spLaw K)) :
    ∃ fd : FuncData, (∀ (s : Shared) (u : Value), BindsTo s fd ⟨[u], []⟩ [(y, u)]) ∧ ∀ base : Heap, K.In base → base.Ns mainGlobals mg → FnOk P w K mg base CX0 k fa fd [y] (spLaw K) := by
  obtain ⟨f, fd, Fu, hm1, hb1⟩ := At.ex
  obtain ⟨oc, od, _, _, _, _, _, _, osl, _, h1, _⟩ := Fu.ex
  rw [hm] at hm1
  cases hm1
  refine ⟨fd, fun s u => .of_eq (hb1 [u] rfl), fun base _ _ => ?_⟩
  obtain ⟨f, fd2, F, hm2, hk, ⟨oc2, od2, osl2, h2⟩, hb⟩ := (G base).ex
  rw [hm] at hm2
  cases hm2
  rw [h1] at h2
  cases h2
  exact F
end
end DL

set_option Elab.async false
set_option linter.all false
set_option maxRecDepth 100000
/-! DV: plain facts of data. -/
namespace DL
open PySem L2
theorem intsD_len (ns : List Int) : (intsD ns).length = ns.length := List.length_map ..
theorem intsD_get {ns : List Int} {i : Nat} (h : i < ns.length) : (intsD ns)[i]? = some (.int (ns.getD i 0)) := by
  unfold intsD
  rw [List.getElem?_map, List.getElem?_eq_getElem h, List.getD_eq_getElem?_getD, List.getElem?_eq_getElem h]
  rfl
theorem intsD_app (xs ys : List Int) : intsD (xs ++ ys) = intsD xs ++ intsD ys := List.map_append
theorem eqv_intsD : ∀ xs ys : List Int, PyData.eqvAll (intsD xs) (intsD ys) = decide (xs = ys)
  | [], [] => by simp [intsD, PyData.eqvAll]
  | [], _ :: _ => by simp [intsD, PyData.eqvAll]
  | _ :: _, [] => by simp [intsD, PyData.eqvAll]
  | x :: xs, y :: ys => by
    have h := eqv_intsD xs ys
    show (PyData.eqv (.int x) (.int y) && PyData.eqvAll (intsD xs) (intsD ys)) = _
    rw [h]
    simp only [PyData.eqv]
    by_cases e : x = y
    · subst e; simp
    · simp [e]
/-- a list of ints, as data -/
inductive IsInts : List Dt → List Int → Prop where
  | of (ns : List Int) : IsInts (intsD ns) ns
  | nil : IsInts [] []
  | cons {d : List Dt} {n : Int} {ns : List Int} : IsInts d ns → IsInts (.int n :: d) (n :: ns)
theorem IsInts.eq : ∀ {ds : List Dt} {ns : List Int}, IsInts ds ns → ds = intsD ns
  | _, _, .of _ => rfl
  | _, _, .nil => rfl
  | _, _, .cons h => by rw [h.eq]; rfl
section
variable {Z : Zx} {ρ : List Sl} {ta tb : TE} {ds : List Dt} {ns : List Int} {d : Dt}
theorem d_ixC {k : Bool} {i : Int} (ha : EvV Z k ta ρ ds) (h0 : 0 ≤ i) (h : ds[i.toNat]? = some d) : EvD Z (tOp (rIxU Z.K) ta (tC (.int i))) ρ d := d_ix ha d_int h0 h
theorem d_ixI {k : Bool} {i : Int} (ha : EvV Z k ta ρ ds) (hb : EvD Z tb ρ (.int i)) (hi : IsInts ds ns) (h0 : 0 ≤ i) (h : i.toNat < ns.length) : EvD Z (tOp (rIxU Z.K) ta tb) ρ (.int (ns.getD i.toNat 0)) := d_ix ha hb h0 (by
  rw [hi.eq]
  exact intsD_get h)
end
theorem t_yes {Z : Zx} {ρ : List Sl} : EvT Z tYes ρ true := fun F0 H0 F H σ e w Q q => q F H (.refl e.g.i)
theorem sh_ints : ∀ ns : List Int, PyData.canLayAll0 (intsD ns) = true ∧ PyData.depthAll (intsD ns) = 0
  | [] => by simp [intsD, PyData.canLayAll0, PyData.depthAll]
  | n :: ns => by
    obtain ⟨h1, h2⟩ := sh_ints ns
    constructor
    · show (PyData.canLay0 (.int n) && PyData.canLayAll0 (intsD ns)) = true
      rw [h1]
      simp [PyData.canLay0]
    · show max (PyData.depth (.int n)) (PyData.depthAll (intsD ns)) = 0
      rw [h2]
      simp [PyData.depth]
theorem sh_list (ns : List Int) : DL.sh (.list (intsD ns)) := by
  show SeqAt.shaped _ = true
  unfold SeqAt.shaped
  have h := sh_ints ns
  simp [PyData.canLay0, PyData.depth, h.1, h.2]
theorem sh_tup (ns : List Int) : DL.sh (.tuple (intsD ns)) := by
  show SeqAt.shaped _ = true
  unfold SeqAt.shaped
  have h := sh_ints ns
  simp [PyData.canLay0, PyData.depth, h.1, h.2]
theorem eqv_list (xs ys : List Int) : PyData.eqv (.list (intsD xs)) (.list (intsD ys)) = decide (xs = ys) := by
  rw [← eqv_intsD]
  simp [PyData.eqv]
theorem eqv_tup (xs ys : List Int) : PyData.eqv (.tuple (intsD xs)) (.tuple (intsD ys)) = decide (xs = ys) := by
  rw [← eqv_intsD]
  simp [PyData.eqv]
theorem intsD_get' {ns : List Int} {i : Nat} {d : Dt} (h : (intsD ns)[i]? = some d) : ∃ x, ns[i]? = some x ∧ d = .int x := by
  unfold intsD at h
  rw [List.getElem?_map] at h
  cases q : ns[i]? with
  | none => rw [q] at h; cases h
  | some x => rw [q] at h; exact ⟨x, rfl, (Option.some.inj h).symm⟩
theorem keptD_none (ds : List Dt) (v : Dt → Dt) : keptD ds (fun _ => false) v = [] := by
  unfold keptD
  rw [List.filter_eq_nil_iff.mpr (fun _ _ => Bool.false_ne_true)]
  rfl
theorem cutD_from (ds : List Dt) (n : Nat) : DL.cutD ds (some (n : Int)) none = ds.drop n := by
  unfold DL.cutD
  rw [HT.sIx_nat, HT.sIx_none]
  rcases Nat.le_total n ds.length with h | h
  · rw [Nat.min_eq_left h, List.take_of_length_le (by rw [List.length_drop]; omega)]
  · rw [Nat.min_eq_right h, Nat.sub_self, List.take_zero, List.drop_of_length_le h]
theorem cutD_to (ds : List Dt) (n : Nat) : DL.cutD ds none (some (n : Int)) = ds.take n := by
  unfold DL.cutD
  rw [HT.sIx_nat, HT.sIx_none, List.drop_zero, Nat.sub_zero]
  rcases Nat.le_total n ds.length with h | h
  · rw [Nat.min_eq_left h]
  · rw [Nat.min_eq_right h, List.take_length, List.take_of_length_le h]
theorem cutD_mid (ds : List Dt) (a b : Nat) : DL.cutD ds (some (a : Int)) (some (b : Int)) = (ds.drop a).take (b - a) := by
  unfold DL.cutD
  rw [HT.sIx_nat, HT.sIx_nat]
  rcases Nat.le_total a ds.length with h | h
  · rw [Nat.min_eq_left h]
    rcases Nat.le_total b ds.length with h2 | h2
    · rw [Nat.min_eq_left h2]
    · rw [Nat.min_eq_right h2, List.take_of_length_le (by rw [List.length_drop]; omega), List.take_of_length_le (by rw [List.length_drop]; omega)]
  · rw [Nat.min_eq_right h, List.drop_of_length_le (Nat.le_refl _), List.drop_of_length_le h, List.take_nil, List.take_nil]
/-- data that == takes: no dict, not deep -/
def Lay (n : Nat) (d : PyData) : Prop := d.canLay0 = true ∧ d.depth ≤ n
theorem Lay.sh {n : Nat} {d : PyData} (h : Lay n d) (hn : n ≤ 64) : DL.sh d := by
  show SeqAt.shaped d = true
  unfold SeqAt.shaped
  rw [h.1, decide_eq_true (Nat.le_trans h.2 hn)]
  rfl
theorem Lay.mono {n m : Nat} {d : PyData} (h : Lay n d) (hn : n ≤ m) : Lay m d := ⟨h.1, Nat.le_trans h.2 hn⟩
end DL

set_option Elab.async false
set_option linter.all false
set_option maxRecDepth 100000
set_option maxHeartbeats 4000000
/-! DW: enumerate over a tuple; max of a list, with and without a default; xs.index. -/
namespace DL
open PySem PySem.Spec PyProof.Rows L2
/-! ### enumerate(t), t a tuple -/
abbrev enumObj (it : Addr) : Obj := { cls := .type "enumerate", data := .fields #[.none, .bool false, .ref it, rawInt 0, .none, .none] }
set_option maxHeartbeats 1000000 in
theorem enum_new_tup (t : Addr) (items : Array Value) :
    Meets (Builtin.«enumerate.__new__» ⟨[.type "enumerate", .ref t], []⟩) (fun _ R s => s.heap.IsTuple t items ∧
      R (.ok (.ret (.ref (s.heap.objs.size + 1)))) { s with heap := (s.heap.push { cls := .type "tuple_iterator", data := .fields #[.ref t, .int 0 0] }).push (enumObj s.heap.objs.size) }) :=
  .of_wp fun prog w A R s h => by
    obtain ⟨hp, g, d, tk, os⟩ := s
    obtain ⟨hT, h⟩ := h
    have sub := sub_enumerate
    have hz : (hp.push { cls := .type "tuple_iterator", data := .fields #[.ref t, .int 0 0] }).objs.size = hp.objs.size + 1 := Heap.size_push ..
    rw [← hz] at h
    have it : ∀ {A' : Around} {E Q : Value → Shared → Prop}, Q (.ref hp.objs.size) ⟨hp.push { cls := .type "tuple_iterator", data := .fields #[.ref t, .int 0 0] }, g, d, tk, os⟩ →
        wpAny (model prog w) A' (pyIter (.ref t)) Q E ⟨hp, g, d, tk, os⟩ := fun q => wpAny_pyIter_tuple hT q
    wp_walk using it
    refine wpAny_stack_any fun _ => wpAny_pure ?_
    split
    · rename_i c _ _ _ _ _
      cases (c == Value.type "enumerate") <;>
        (wp_walk using it
         exact ⟨_, rfl, h⟩)
    · wp_walk using it
      exact ⟨_, rfl, h⟩
theorem enum_call_tup {prog : Program} {w : World} {A : Around} {E : Value → Shared → Prop} {s : Shared} {t : Addr} {items : Array Value} {Q : Value → Shared → Prop} (hT : s.heap.IsTuple t items)
    (h : ∀ h', IsEnum h' (s.heap.objs.size + 1) s.heap.objs.size 0 .none → h'.IsTupleIter s.heap.objs.size t 0 → (∀ b o, s.heap.get? b = some o → h'.get? b = some o) → Q (.ref (s.heap.objs.size + 1)) { s with heap := h' }) :
    wpAny (model prog w) A (call (.type "enumerate") [.ref t]) Q E s := by
  refine callType_new F.called_enumerate (by decide) (F.typeCall_enumerate_1 _) (F.newCall_enumerate_1 _) (fun obj => F.args_object_init_2 obj _) F.entry_enumerate_new (enum_new_tup t items) ⟨hT, ?_⟩
  have hz : (s.heap.push { cls := .type "tuple_iterator", data := .fields #[.ref t, .int 0 0] }).objs.size = s.heap.objs.size + 1 := Heap.size_push ..
  have he := Heap.get?_push_size (s.heap.push { cls := .type "tuple_iterator", data := .fields #[.ref t, .int 0 0] }) (o := { cls := .type "enumerate", data := .fields #[.none, .bool false, .ref s.heap.objs.size, rawInt 0, .none, .none] }) rfl
  rw [hz] at he
  exact ⟨⟨_, he, rfl⟩, h _ he ⟨{ cls := .type "tuple_iterator", data := .fields #[.ref t, .int 0 0] }, Heap.get?_push_of_some _ (Heap.get?_push_size s.heap rfl), rfl, rfl⟩ fun b o x => Heap.get?_push_of_some _ (Heap.get?_push_of_some _ x)⟩
/-- (i, the i-th item), each a new tuple -/
def ItE (K : PySem.W.Frag) (a : Addr) : It where
  go := fun i H => ∃ (xs : List V) (x : V), SqT K H a xs ∧ xs[i]? = some x
  yld := fun i H v H' => ∃ T x, v = .ref T ∧ H T = none ∧ H' = upd H T (.tup [.int (i : Nat), x]) ∧ ∀ xs, SqT K H a xs → xs[i]? = some x
  stop := fun i H => ∃ xs : List V, SqT K H a xs ∧ xs.length = i
theorem turn_E {P : Program} {w : World} {K : PySem.W.Frag} {elts : List Expr} {kk : Nat} {tpos : Pos} (a e it : Addr) :
    Turn P w K (.Tuple elts kk tpos) (ItE K a) [e, it] e (fun i h => (∃ old, IsEnum h e it ((i : Nat) : Int) old) ∧ h.IsTupleIter it a i ∧ e ≠ it) where
  mem := by simp
  obj := fun i h st b hb => by
    obtain ⟨⟨old, he⟩, ⟨o, ho, _, hd⟩, _⟩ := st
    rcases (show b = e ∨ b = it by simpa using hb) with rfl | rfl
    · exact ⟨_, he, fun v q => nomatch q⟩
    · exact ⟨o, ho, fun v q => by rw [hd] at q; cases q⟩
  keep := fun i h h' st k => ⟨let ⟨old, he⟩ := st.1; ⟨old, k e (by simp) _ he⟩, st.2.1.at fun o q => k it (by simp) o q, st.2.2⟩
  item := by
    intro X hP hw hK hc i pins s σ H E I hf st hg
    subst hP hw hK
    obtain ⟨⟨old, he⟩, hit, hne⟩ := st
    obtain ⟨xs, x, hq, hx⟩ := hg
    obtain ⟨its, rv, p, hz⟩ := I.tuple hq
    have pT : s.heap.IsTuple a its.toArray := p
    obtain ⟨u, hu, ru⟩ := rv.get hx
    have hel : e < s.heap.objs.size := Heap.lt_size he
    have hil : it < s.heap.objs.size := by obtain ⟨_, q, _⟩ := hit; exact Heap.lt_size q
    have nai : a ≠ it := fun z => by
      obtain ⟨o1, h1, c1, _⟩ := hit
      obtain ⟨o2, h2, c2, _⟩ := pT
      rw [z, h1] at h2
      cases h2
      rw [c1] at c2
      simp at c2
    have nae : e ≠ a := fun z => by
      obtain ⟨o2, h2, c2, _⟩ := pT
      rw [← z, show s.heap.get? e = _ from he] at h2
      cases h2
      simp at c2
    have hlt : i < its.toArray.size := by
      have := (List.getElem?_eq_some_iff.mp hu).1
      simpa using this
    refine wpAny_pyNext_enum_itemD (Draws.tuple (A := X.A.in1) (I.ok.hd hc) it a nai its.toArray) he ⟨hit, pT⟩ hlt hne (by simp [hne, nae]) fun y h' tk hy ho hS hT hsz hk => ?_
    have ey : y = u := by
      have h1 : its[i]? = some y := by simpa using hy
      rw [hu] at h1
      exact (Option.some.inj h1).symm
    subst ey
    refine ⟨_, rfl, wpAny_letOwnedTupleGo_enum (s := { s with heap := h', toks := tk + 1 }) ho fun h'' he' sb => ?_⟩
    have hT2 : h''.get? s.heap.objs.size = some { cls := .type "tuple", data := .seq #[.int i tk, y] } := (sb.2 _ (Nat.ne_of_gt hel)).trans hT
    have ok2 : ObjOk X.prog X.w (upd H s.heap.objs.size (.tup [.int (i : Nat), x])) h'' s.heap.objs.size (.tup [.int (i : Nat), x]) :=
      ⟨by show 2 ≤ sizeLine; decide, [.int i tk, y], .cons ⟨_, rfl⟩ (.cons ru .nil), _, hT2, rfl, _, rfl⟩
    have far : ∀ b ob, b ∉ [e, it] → s.heap.get? b = some ob → h''.get? b = some ob := fun b ob hb q => by
      have n1 : b ≠ e := fun z => hb (by simp [z])
      have n2 : b ≠ it := fun z => hb (by simp [z])
      exact (sb.2 b n1).trans (hk b ob n1 n2 q)
    have I1 := I.turnedNew (t' := tk + 1) far hf (Nat.le_refl _) ok2
    refine ⟨.ref s.heap.objs.size, _, I1, rfl, ⟨_, x, rfl, I.hok.fresh (Nat.le_refl _), rfl, fun ys hy2 => by rw [I.tuple_inj hy2 hq]; exact hx⟩, ⟨⟨y, by rw [show ((i + 1 : Nat) : Int) = (i : Int) + 1 by omega]; exact he'⟩, hS.1.at fun o q => (sb.2 it (Ne.symm hne)).trans q, hne⟩, fun b hb => ?_⟩
    have hb' : b < s.heap.objs.size := by
      rcases (show b = e ∨ b = it by simpa using hb) with z | z
      · rw [z]; exact hel
      · rw [z]; exact hil
    rw [upd_ne (Nat.ne_of_lt hb')]
    exact (hf b hb).1
  done := by
    intro X hP hw hK hc i pins s σ H E I hf st hg
    subst hP hw hK
    obtain ⟨⟨old, he⟩, hit, hne⟩ := st
    obtain ⟨xs, hq, hx⟩ := hg
    obtain ⟨its, rv, p, hz⟩ := I.tuple hq
    have pT : s.heap.IsTuple a its.toArray := p
    obtain ⟨f0, f1, f2, f3, f4, f5⟩ := hf it (by simp)
    have nai : a ≠ it := fun z => by
      obtain ⟨o1, h1, c1, _⟩ := hit
      obtain ⟨o2, h2, c2, _⟩ := pT
      rw [z, h1] at h2
      cases h2
      rw [c1] at c2
      simp at c2
    have hl := rv.length
    have h3 : its.toArray.size = i := by simp; omega
    refine wpAny_pyNext_enum_endD (Draws.tuple (A := X.A.in1) (I.ok.hd hc) it a nai its.toArray) he (by rw [h3]; exact ⟨hit, pT⟩) fun h' eb => ⟨rfl, I.turned (t' := s.toks) eb f0 f1 f3 f4 f5⟩
  self := fun A i s Q E st h => by
    obtain ⟨⟨_, he⟩, _⟩ := st
    exact wpAny_pyIter_enum he h
def iEnT (K : PySem.W.Frag) (ta : TA) : TI := fun σ H R => ta σ H fun vs H1 => ∃ a xs, vs = [.ref a] ∧ SqT K H1 a xs ∧ R (ItE K a) H1
theorem pi_enT {X : Cx} {e : Expr} {ta : TA} {p pos tpos : Pos} {elts : List Expr} {kk : Nat} (hg : Gl X "enumerate") (hm : X.mg "enumerate" = none) (ha : PA X [e] ta) (hs : starEach [e] X.env = [(false, eval e X.env)] := by rfl) :
    PI X (.Tuple elts kk tpos) (.Call (.Name "enumerate" p) [e] [] pos) (iEnT X.K ta) := by
  refine ⟨fun pins s σ H R I h => Call_ (ld_blt I hg hm boot_enumerate (PyProof.Rows.callWith_type1 (thn (ha.run pos pins s σ H _ I h) ?_) hs rfl))⟩
  rintro us s1 ⟨vs, H1, I1, r1, a, xs, rfl, hq, q⟩
  obtain rfl := Vals.ref1 r1
  obtain ⟨its, rv, p', hz⟩ := I1.tuple hq
  refine enum_call_tup (show s1.heap.IsTuple a its.toArray from p') fun h' he hit hk => wpAny_pyIter_enum he ?_
  have I2 := I1.kept (h' := h') (t' := s1.toks) hk
  refine ⟨s1.heap.objs.size + 1, [s1.heap.objs.size + 1, s1.heap.objs.size], _, _, H1, rfl, I2, turn_E a _ _, ⟨⟨_, he⟩, hit, Nat.succ_ne_self _⟩, fun b hb => ?_, q⟩
  have hle : s1.heap.objs.size ≤ b := by
    rcases (show b = s1.heap.objs.size + 1 ∨ b = s1.heap.objs.size by simpa using hb) with z | z
    · rw [z]; exact Nat.le_add_right _ _
    · rw [z]; exact Nat.le_refl _
  exact I1.fpOk hle (I1.hok.fresh hle)
/-- what enumerate gives -/
def enumD (ds : List Dt) : List Dt := (List.range ds.length).map fun i => .tuple [.int (i : Nat), ds.getD i .none]
theorem enumD_len (ds : List Dt) : (enumD ds).length = ds.length := by unfold enumD; rw [List.length_map, List.length_range]
theorem enumD_get {ds : List Dt} {i : Nat} {d : Dt} (h : (enumD ds)[i]? = some d) : ∃ x, ds[i]? = some x ∧ d = .tuple [.int (i : Nat), x] := by
  have hl : i < ds.length := by rw [← enumD_len]; exact (List.getElem?_eq_some_iff.mp h).1
  unfold enumD at h
  rw [List.getElem?_map, List.getElem?_range hl] at h
  refine ⟨ds[i], List.getElem?_eq_getElem hl, ?_⟩
  rw [← Option.some.inj h]
  show PyData.tuple [PyData.int (i : Nat), ds.getD i PyData.none] = _
  rw [List.getD_eq_getElem?_getD, List.getElem?_eq_getElem hl]
  rfl
section
variable {Z : Zx} {ρ : List Sl} {ta te : TE} {ds : List Dt} {d : Dt}
theorem i_enT (h : EvD Z ta ρ (.tuple ds)) : EvI Z (iEnT Z.K (tCons ta tNil)) ρ (enumD ds) := fun F0 H0 F H σ e w R q =>
  h F0 H0 F H σ e w _ fun v F1 H1 n1 p1 => by
    obtain ⟨p, vs, rfl, s, a⟩ := dp_tup p1
    have hl := dpAll_len a
    refine ⟨p, vs, rfl, Evl.ex_t n1.i s, q _ F1 H1 n1 ⟨fun F' H' i e1 e2 h => ?_, fun F' H' e1 e2 => ⟨vs, Evl.ex_t (e1.trans e2) s, by rw [enumD_len]; exact hl⟩, fun F' H' i x H3 d e1 e2 y hd => ?_⟩⟩
    · rw [enumD_len] at h
      exact ⟨vs, vs[i]'(by omega), Evl.ex_t (e1.trans e2) s, List.getElem?_eq_getElem _⟩
    · obtain ⟨T, x', rfl, hT, rfl, hx⟩ := y
      obtain ⟨c, hc, rfl⟩ := enumD_get hd
      obtain ⟨v, h1, h2⟩ := dpAll_get a hc
      have hv := hx vs (Evl.ex_t (e1.trans e2) s)
      rw [h1] at hv
      rw [← Option.some.inj hv]
      exact ⟨_, Nx.both e2 hT, .tup (Or.inl (Or.inl upd_same)) (.cons (.int _) (.cons (dp_ex (e1.trans (Evl.Ex.new (none_back e2 hT))) _ _ h2) .nil))⟩
end

/-! ### max(xs, default=d), max(xs), xs.index(y) -/
def optD : Option Int → Dt
  | none => .none
  | some i => .int i
def maxI : List Int → Option Int
  | [] => none
  | n :: r => some (r.foldl max n)
theorem foldl_max_ge : ∀ (r : List Int) (n : Int), n ≤ r.foldl max n ∧ ∀ y ∈ r, y ≤ r.foldl max n
  | [], n => ⟨Int.le_refl _, fun y h => by cases h⟩
  | a :: r, n => by
    obtain ⟨h1, h2⟩ := foldl_max_ge r (max n a)
    refine ⟨by rw [List.foldl_cons]; omega, fun y hy => ?_⟩
    rw [List.foldl_cons]
    rcases List.mem_cons.mp hy with rfl | hy
    · omega
    · exact h2 y hy
theorem foldl_max_mem : ∀ (r : List Int) (n : Int), r.foldl max n = n ∨ r.foldl max n ∈ r
  | [], n => Or.inl rfl
  | a :: r, n => by
    rw [List.foldl_cons]
    rcases foldl_max_mem r (max n a) with h | h
    · rcases Int.le_total n a with q | q
      · right
        rw [h, Int.max_eq_right q]
        exact List.mem_cons_self
      · left
        rw [h, Int.max_eq_left q]
    · exact Or.inr (List.mem_cons_of_mem _ h)
theorem maxI_mem {ns : List Int} {m : Int} (h : maxI ns = some m) : m ∈ ns := by
  cases ns with
  | nil => cases h
  | cons n r =>
    have e : r.foldl max n = m := Option.some.inj h
    rcases foldl_max_mem r n with q | q
    · rw [← e, q]; exact List.mem_cons_self
    · rw [← e]; exact List.mem_cons_of_mem _ q
theorem maxI_ge {ns : List Int} {m : Int} (h : maxI ns = some m) : ∀ y ∈ ns, y ≤ m := by
  cases ns with
  | nil => cases h
  | cons n r =>
    have e : r.foldl max n = m := Option.some.inj h
    intro y hy
    rw [← e]
    rcases List.mem_cons.mp hy with rfl | hy
    · exact (foldl_max_ge r _).1
    · exact (foldl_max_ge r n).2 y hy
theorem maxI_some {ns : List Int} (h : ns ≠ []) : ∃ m, maxI ns = some m := by
  cases ns with
  | nil => exact absurd rfl h
  | cons n r => exact ⟨_, rfl⟩
theorem maxI_is {ns : List Int} {m : Int} (h1 : m ∈ ns) (h2 : ∀ y ∈ ns, y ≤ m) : maxI ns = some m := by
  obtain ⟨k, hk⟩ := maxI_some (ns := ns) (fun z => by rw [z] at h1; cases h1)
  have a := maxI_ge hk m h1
  have b := h2 k (maxI_mem hk)
  rw [hk, show k = m by omega]
theorem alike_ints (ns : List Int) : PySem.W.AlikeAll (intsD ns) := by
  refine ⟨fun x hx y hy => ?_, fun x hx => ?_⟩
  · obtain ⟨a, _, rfl⟩ := List.mem_map.mp hx
    obtain ⟨b, _, rfl⟩ := List.mem_map.mp hy
    rfl
  · obtain ⟨a, _, rfl⟩ := List.mem_map.mp hx
    exact fun z => by cases z
theorem depth_ints : ∀ ns : List Int, PyData.depthAll (intsD ns) = 0
  | [] => by simp [intsD, PyData.depthAll]
  | n :: ns => by
    have h := depth_ints ns
    show max (PyData.depth (.int n)) (PyData.depthAll (intsD ns)) = 0
    rw [h]
    simp [PyData.depth]
def rMxD (K : PySem.W.Frag) : List V → List V → Hp → VK → Prop := fun vs zs H Q => ∃ (a : Addr) (ns : List Int), vs = [V.ref a] ∧ zs = [.non] ∧ SqL K H a (ns.map V.int) ∧ Q (match maxI ns with | none => .non | some m => .int m) H
theorem c_maxD {X : Cx} (hc : X.calm = true) (hu : X.A.units + 64 < cLine) : CallRK X (.builtin "max") [Str.ofString "default"] (rMxD X.K) := by
  intro pins s σ H vs zs us ws Q I r rz h
  obtain ⟨a, ns, rfl, rfl, hs, q⟩ := h
  obtain rfl := Vals.ref1 r
  obtain ⟨w1, rfl, e1⟩ := vals1 rz
  obtain rfl : w1 = Value.none := e1
  obtain ⟨its, rv, hl, _⟩ := I.list hs
  obtain ⟨as, ra⟩ := Dp.readsAll I (intsD ns) _ its (dpAll_of_ints ns) rv
  show wpAny (model X.prog X.w) X.A (call (.builtin "max") [.ref a] [(Str.ofString "default", Value.none)]) (EP X pins σ Q) X.xe s
  refine PySem.W.max_list_default (I.ok.hd hc) hl.isList ra (alike_ints ns) (by rw [depth_ints]; omega) (fun hz h' tk hk => ?_) (fun y ys i v h' tk bs hz hv hr hk => ?_)
  · have e : ns = [] := by
      cases ns with
      | nil => rfl
      | cons n r => cases hz
    subst e
    exact ⟨.non, H, I.kept hk, rfl, q⟩
  · cases ns with
    | nil => cases hz
    | cons n r =>
      have e : (PyData.int n : PyData) = y ∧ intsD r = ys := by
        have hz' : PyData.int n :: intsD r = y :: ys := hz
        injection hz' with h1 h2
        exact ⟨h1, h2⟩
      obtain ⟨rfl, rfl⟩ := e
      rw [show PySem.W.maxD (.int n) (intsD r) = .int (r.foldl max n) from PySem.W.maxD_ints n r] at hr
      cases hr
      exact ⟨.int (r.foldl max n), H, I.kept hk, ⟨_, rfl⟩, q⟩
theorem c_max1 {X : Cx} (hc : X.calm = true) : CallR X (.builtin "max") (rMax X.K) := cr_max hc
theorem c_min1 {X : Cx} (hc : X.calm = true) : CallR X (.builtin "min") (rMin X.K) := cr_min hc
section
variable {Z : Zx} {ρ : List Sl} {ta te : TE} {ns : List Int} {d : Dt}
theorem d_maxD (h : EvV Z true ta ρ (intsD ns)) : EvD Z (tCKw (rMxD Z.K) (tCons ta tNil) (tCons (tC .non) tNil)) ρ (optD (maxI ns)) := fun F0 H0 F H σ e w Q q =>
  h F0 H0 F H σ e w _ fun p vs F1 H1 n1 s1 a1 => ⟨p, ns, rfl, rfl, by rw [← dpAll_ints a1]; exact s1, by
    cases hm : maxI ns with
    | none => rw [hm] at q; exact q _ F1 H1 n1 .non
    | some m => rw [hm] at q; exact q _ F1 H1 n1 (.int m)⟩
theorem d_max1 {m : Int} (h : EvV Z true ta ρ (intsD ns)) (hm : maxI ns = some m) : EvD Z (tCB (rMax Z.K) (tCons ta tNil)) ρ (.int m) := fun F0 H0 F H σ e w Q q =>
  h F0 H0 F H σ e w _ fun p vs F1 H1 n1 s1 a1 => ⟨p, ns, rfl, by rw [← dpAll_ints a1]; exact s1, List.length_pos_of_mem (maxI_mem hm), fun k h1 h2 => by
    have := maxI_is h1 h2
    rw [hm] at this
    rw [← Option.some.inj this]
    exact q _ F1 H1 n1 (.int m)⟩
theorem eqV_int (a b : Int) : eqV (.int a) (.int b) = decide (a = b) := by
  show (a == b) = _
  exact Bool.beq_eq_decide_eq a b
theorem flat_ints (ns : List Int) : (ns.map V.int).all flatV = true := by
  rw [List.all_map]
  exact List.all_eq_true.mpr fun _ _ => rfl
/-- xs.index(y) of ints: the first place -/
theorem d_index {y : Int} (h : EvV Z true ta ρ (intsD ns)) (hy : EvD Z te ρ (.int y)) (hm : y ∈ ns) : EvD Z (tBM Z.K "list" (rIndex Z.K) ta (tCons te tNil)) ρ (.int (ns.idxOf y : Nat)) := fun F0 H0 F H σ e w Q q =>
  h F0 H0 F H σ e w _ fun p vs F1 H1 n1 s1 a1 => by
    have ev := dpAll_ints a1
    subst ev
    refine ⟨Or.inl ⟨rfl, _, s1⟩, hy F0 H0 F1 H1 σ (e.step n1) w _ fun v F2 H2 n2 p2 => ?_⟩
    have hv := dp_int p2
    subst hv
    have hlt : ns.idxOf y < ns.length := List.idxOf_lt_length_of_mem hm
    refine ⟨p, _, .int y, ns.idxOf y, .int y, rfl, rfl, Evl.ex_l n2.h s1, rfl, flat_ints ns, ?_, by rw [eqV_int]; exact decide_eq_true rfl, fun m z' hlt2 hz => ?_, q _ F2 H2 (n1.trans n2) (.int _)⟩
    · rw [List.getElem?_map, List.getElem?_eq_getElem hlt, List.getElem_idxOf hlt]
      rfl
    · rw [List.getElem?_map] at hz
      have hml : m < ns.length := Nat.lt_trans hlt2 hlt
      rw [List.getElem?_eq_getElem hml] at hz
      have ez : V.int ns[m] = z' := Option.some.inj hz
      rw [← ez, eqV_int]
      refine decide_eq_false fun z => ?_
      have hn := List.not_of_lt_findIdx (p := (· == y)) (xs := ns) (i := m) hlt2
      rw [z] at hn
      simp at hn
end
section
variable {Z : Zx} {ρ : List Sl} {ta tb : TE} {ns : List Int}
theorem inV_ints (x : Int) : ∀ ns : List Int, inV (.int x) (ns.map V.int) = decide (x ∈ ns)
  | [] => rfl
  | n :: r => by
    have ih := inV_ints x r
    unfold inV at ih ⊢
    rw [List.map_cons, List.any_cons, ih]
    first | rw [eqV_int] | skip
    by_cases e : n = x
    · subst e; simp [eqV_int]
    · have e2 : ¬ x = n := fun z => e z.symm
      simp [eqV_int, e, e2, List.mem_cons]
theorem d_inI {k neg : Bool} {x : Int} (ha : EvD Z ta ρ (.int x)) (hb : EvV Z k tb ρ (intsD ns)) : EvD Z (tOp (rIn Z.K neg) ta tb) ρ (.bool (if neg then !decide (x ∈ ns) else decide (x ∈ ns))) := fun F0 H0 F H σ e w Q q =>
  ha F0 H0 F H σ e w _ fun v F1 H1 n1 p1 => hb F0 H0 F1 H1 σ (e.step n1) w _ fun p vs F2 H2 n2 s2 a2 => by
    have ev := dpAll_ints a2
    subst ev
    have hv := dp_int p1
    subst hv
    refine ⟨p, _, rfl, ?_, rfl, flat_ints ns, ?_⟩
    · cases k with
      | true => exact Or.inl s2
      | false => exact Or.inr s2
    · rw [inV_ints]
      exact q _ F2 H2 (n1.trans n2) (.bl _)
end
/-! ### sum of a list or a tuple -/
def rSumU (K : PySem.W.Frag) : List V → Hp → VK → Prop := fun vs H Q => rSum K vs H Q ∨ ∃ (a : Addr) (ns : List Int), vs = [V.ref a] ∧ SqT K H a (ns.map V.int) ∧ Q (.int ns.sum) H
theorem c_sumU {X : Cx} (hc : X.calm = true) : CallR X (.builtin "sum") (rSumU X.K) := by
  intro pins s σ H vs us Q I r h
  rcases h with h | ⟨a, ns, rfl, hs, q⟩
  · exact cr_sum hc pins s σ H vs us Q I r h
  · obtain ⟨its, rv, hl, _⟩ := I.tuple hs
    rw [Vals.ref1 r]
    obtain ⟨o, e, c, n, d⟩ := hl
    have hi := rv.ints
    have ht : s.heap.IsTuple a its.toArray := ⟨o, e, c, n, d⟩
    obtain ⟨xs, hx⟩ := hi.allInts.items
    have hn : numsOf (intItems xs).toList = ns := by rw [← hx]; exact hi.numsOf
    rw [nums_intItems] at hn
    rw [hx] at ht
    refine PySem.W.ktm_sumG (I.ok.hd hc) ht fun h' tk t' hk => ?_
    refine ⟨.int _, H, I.kept hk, ⟨_, rfl⟩, ?_⟩
    rw [preSum_eq, List.take_of_length_le (by simp), hn]
    exact q
section
variable {Z : Zx} {ρ : List Sl} {ta : TE} {ns : List Int}
theorem d_sum {k : Bool} (h : EvV Z k ta ρ (intsD ns)) : EvD Z (tCB (rSumU Z.K) (tCons ta tNil)) ρ (.int ns.sum) := fun F0 H0 F H σ e w Q q =>
  h F0 H0 F H σ e w _ fun p vs F1 H1 n1 s1 a1 => by
    have ev := dpAll_ints a1
    subst ev
    cases k with
    | true => exact Or.inl ⟨p, ns, rfl, s1, q _ F1 H1 n1 (.int _)⟩
    | false => exact Or.inr ⟨p, ns, rfl, s1, q _ F1 H1 n1 (.int _)⟩
end
end DL

set_option Elab.async false
set_option linter.all false
set_option maxRecDepth 100000
set_option maxHeartbeats 4000000
set_option exponentiation.threshold 10000
/-! tactics of this file: walk_at "ev" goes through a reading by data; what it can't say stays -/
local macro_rules | `(tactic| walk_at "ev") => `(tactic| first
  | with_reducible exact DL.d_int | with_reducible exact DL.d_bl | with_reducible exact DL.d_non | with_reducible exact DL.d_str | with_reducible exact DL.ea_nil | with_reducible exact DL.o_none
  | ((with_reducible apply DL.d_var) <;> exact rfl)
  | ((with_reducible apply DL.w_var) <;> exact rfl)
  | ((with_reducible apply DL.ea_cons) <;> walk_at "ev")
  | ((with_reducible apply DL.o_some) <;> walk_at "ev")
  | ((with_reducible apply DL.d_ixC) <;> first | ((fail_if_success (with_reducible show (_ : Option _) = _)); walk_at "ev") | exact rfl)
  | ((with_reducible apply DL.d_ixI) <;> walk_at "ev")
  | ((with_reducible apply DL.d_ix) <;> walk_at "ev")
  | with_reducible exact DL.IsInts.of _
  | with_reducible exact DL.IsInts.nil
  | ((with_reducible apply DL.IsInts.cons) <;> walk_at "ev")
  | ((with_reducible apply DL.d_tup) <;> walk_at "ev")
  | ((with_reducible apply DL.d_len) <;> walk_at "ev")
  | ((with_reducible apply DL.d_isi) <;> walk_at "ev")
  | ((with_reducible apply DL.d_isiV) <;> walk_at "ev")
  | ((with_reducible apply DL.d_neg) <;> walk_at "ev")
  | ((with_reducible apply DL.d_abs) <;> walk_at "ev")
  | ((with_reducible apply DL.d_gcd) <;> walk_at "ev")
  | ((with_reducible apply DL.d_max2) <;> walk_at "ev")
  | ((with_reducible apply DL.d_min2) <;> walk_at "ev")
  | ((with_reducible apply DL.d_intI) <;> walk_at "ev")
  | ((with_reducible apply DL.d_intB) <;> walk_at "ev")
  | ((with_reducible apply DL.d_tuple) <;> walk_at "ev")
  | ((with_reducible apply DL.d_tupleT) <;> walk_at "ev")
  | ((with_reducible apply DL.d_maxD) <;> walk_at "ev")
  | ((with_reducible apply DL.d_if) <;> walk_at "ev")
  | ((with_reducible apply DL.d_index) <;> walk_at "ev")
  | ((with_reducible apply DL.d_not) <;> walk_at "ev")
  | ((with_reducible apply DL.d_and) <;> walk_at "ev")
  | ((with_reducible apply DL.d_or) <;> walk_at "ev")
  | ((with_reducible apply DL.d_slice) <;> walk_at "ev")
  | ((with_reducible apply DL.d_chain) <;> walk_at "ev")
  | walk_at "call"
  | ((with_reducible apply DL.d_op) <;> walk_at "ev")
  | ((with_reducible apply DL.l_lst) <;> walk_at "ev")
  | ((with_reducible apply DL.l_list) <;> walk_at "ev")
  | ((with_reducible apply DL.l_slice) <;> walk_at "ev")
  | ((with_reducible apply DL.l_cat) <;> walk_at "ev")
  | ((with_reducible apply DL.l_rep) <;> walk_at "ev")
  | ((with_reducible apply DL.t_not) <;> walk_at "ev")
  | ((with_reducible apply DL.t_and) <;> walk_at "ev")
  | ((with_reducible apply DL.t_or) <;> walk_at "ev")
  | ((with_reducible apply DL.t_T) <;> walk_at "ev")
  | ((with_reducible apply DL.t_B) <;> walk_at "ev")
  | ((with_reducible apply DL.t_tru) <;> walk_at "ev")
  | ((with_reducible apply DL.t_seq) <;> walk_at "ev")
  | ((with_reducible apply DL.EvW.v) <;> (with_reducible apply DL.w_var) <;> exact rfl)
  | ((with_reducible apply DL.EvL.v) <;> walk_at "ev")
  | ((with_reducible apply DL.EvD.sq) <;> walk_at "ev")
  | ((with_reducible apply DL.EvL.w) <;> walk_at "ev")
  | ((with_reducible apply DL.EvL.dt) <;> walk_at "ev")
  | ((with_reducible refine fun (_ : _ = _) => ?_); walk_at "ev")
  | walk_at "op"
  | walk_at "side")
local macro_rules | `(tactic| walk_at "op") => `(tactic| first
  | with_reducible exact DL.r_addI | with_reducible exact DL.r_subI | with_reducible exact DL.r_lt | with_reducible exact DL.r_le | with_reducible exact DL.r_gt | with_reducible exact DL.r_ge
  | exact DL.r_isN | exact DL.r_notN | with_reducible exact DL.r_isB | with_reducible exact DL.r_notB
  | with_reducible exact DL.r_eqI | with_reducible exact DL.r_neI | with_reducible exact DL.r_eqB | with_reducible exact DL.r_neB
  | ((with_reducible apply DL.r_mulI) <;> first | exact Or.inl (Or.inl (by omega)) | exact Or.inl (Or.inr (by omega)) | skip)
  | ((with_reducible apply DL.r_divI) <;> first | exact Or.inl (show 0 < _ ∧ _ < 1073741824 from ⟨by omega, by omega⟩) | exact Or.inl (show 0 < _ ∧ _ < 1073741824 from ⟨by simp only [DL.intsD_len]; omega, by simp only [DL.intsD_len]; omega⟩) | skip)
  | ((with_reducible apply DL.r_modI) <;> walk_at "side")
  | ((with_reducible apply DL.r_powI) <;> first | exact ⟨by omega, by omega, by omega⟩ | exact ⟨by decide, by decide, by decide⟩ | skip)
  | ((with_reducible apply DL.r_addT) <;> first | (simp only [DL.intsD_len, List.length_cons, List.length_nil, List.length_append]; omega) | skip)
  | ((with_reducible apply DL.r_repT) <;> walk_at "side")
  | ((with_reducible apply DL.r_eqD) <;> walk_at "side")
  | ((with_reducible apply DL.r_neD) <;> walk_at "side"))
local macro_rules | `(tactic| walk_at "side") => `(tactic| (
  (fail_if_success (with_reducible show DL.EvD _ _ _ _)); (fail_if_success (with_reducible show DL.EvV _ _ _ _ _)); (fail_if_success (with_reducible show DL.EvL _ _ _ _)); (fail_if_success (with_reducible show DL.EvT _ _ _ _)); (fail_if_success (with_reducible show DL.EvA _ _ _ _)); (fail_if_success (with_reducible show DL.EvW _ _ _ _)); (fail_if_success (with_reducible show DL.EvO _ _ _ _)); (fail_if_success (with_reducible show DL.IsInts _ _));
  first | exact DL.IsSq.l | exact DL.IsSq.t | exact DL.TruD.bl | exact DL.TruD.int | exact DL.TruD.lst | exact DL.TruD.tup | exact DL.TruD.non | exact rfl | omega | (simp only [DL.intsD_len, List.length_cons, List.length_nil, List.length_append]; omega) | (decide +kernel) | exact trivial | ((with_reducible show _ ∧ _); (with_reducible refine ⟨?_, ?_⟩) <;> walk_at "side") | skip))
namespace k02
open PySem PySem.Spec PyProof.Rows L2 DL
def topS (i : Nat) : Stmt := PySem.Challenge.pw_gradewish_k02_marks.main.body.getD i (.Pass ⟨0, 0, 0, 0⟩)
-- KIND: D
-- CALL: {xs : List Int} | .list (intsD xs) | xs | 16 ≤ xs.length | (taskBy xs).D
structure Task where
  w : Int
  most : Int
  cap : Int
  tries : List Int
abbrev Task.D (t : Task) : PyData := .tuple [.int t.w, .int t.most, .int t.cap, .tuple (intsD t.tries)]
structure Task.Ok (t : Task) : Prop where
  w0 : 1 ≤ t.w
  w1 : t.w ≤ 1000
  m0 : 1 ≤ t.most
  m1 : t.most ≤ 1000000
  c0 : 0 ≤ t.cap
  c1 : t.cap ≤ t.most
  l : t.tries.length ≤ 12
  t0 : ∀ x ∈ t.tries, 0 ≤ x ∧ x ≤ t.most
theorem getD_all {p : Int → Prop} {l : List Int} {i : Nat} (h : i < l.length) (hp : ∀ y ∈ l, p y) : p (l.getD i 0) := by
  rw [List.getD_eq_getElem?_getD, List.getElem?_eq_getElem h]
  exact hp _ (List.getElem_mem h)
def weightP (x : Int) : Int := if x / 5 % 5 = 0 then 1 + x / 25 % 1000 else 1 + x % 5
def mostP (x : Int) : Int := [1, 10, 100, 1 + x / 6 % 20, 1 + x / 6 % 1000000, 1000000].getD (x % 6).toNat 0
def capP (x m : Int) : Int := [m, 0, m / 2, x / 4 % (m + 1)].getD (x % 4).toNat 0
def manyP (x : Int) : Int := [0, 1, 1, 2, 3, 1, 0, 12, 11].getD (x % 9).toNat 0
def tryP (x m c : Int) : Int := [x / 5 % (m + 1), x / 5 % (m + 1), 0, m, c].getD (x % 5).toNat 0
theorem weightP_lo (x : Int) : 1 ≤ weightP x ∧ weightP x ≤ 1000 := by unfold weightP; split <;> omega
theorem mostP_lo (x : Int) : 1 ≤ mostP x ∧ mostP x ≤ 1000000 := by
  unfold mostP
  refine getD_all (p := fun m => 1 ≤ m ∧ m ≤ 1000000) (by simp only [List.length_cons, List.length_nil]; omega) fun y hy => ?_
  simp only [List.mem_cons, List.not_mem_nil, or_false] at hy
  rcases hy with rfl | rfl | rfl | rfl | rfl | rfl <;> omega
theorem capP_lo {x m : Int} (hm : 1 ≤ m) : 0 ≤ capP x m ∧ capP x m ≤ m := by
  unfold capP
  refine getD_all (p := fun c => 0 ≤ c ∧ c ≤ m) (by simp only [List.length_cons, List.length_nil]; omega) fun y hy => ?_
  have h1 := Int.emod_nonneg (x / 4) (show m + 1 ≠ 0 by omega)
  have h2 := Int.emod_lt_of_pos (x / 4) (show 0 < m + 1 by omega)
  simp only [List.mem_cons, List.not_mem_nil, or_false] at hy
  rcases hy with rfl | rfl | rfl | rfl <;> omega
theorem manyP_lo (x : Int) : 0 ≤ manyP x ∧ manyP x ≤ 12 := by
  unfold manyP
  refine getD_all (p := fun m => 0 ≤ m ∧ m ≤ 12) (by simp only [List.length_cons, List.length_nil]; omega) fun y hy => ?_
  simp only [List.mem_cons, List.not_mem_nil, or_false] at hy
  omega
theorem tryP_lo {x m c : Int} (hm : 1 ≤ m) (h0 : 0 ≤ c) (h1 : c ≤ m) : 0 ≤ tryP x m c ∧ tryP x m c ≤ m := by
  unfold tryP
  refine getD_all (p := fun c => 0 ≤ c ∧ c ≤ m) (by simp only [List.length_cons, List.length_nil]; omega) fun y hy => ?_
  have h1 := Int.emod_nonneg (x / 5) (show m + 1 ≠ 0 by omega)
  have h2 := Int.emod_lt_of_pos (x / 5) (show 0 < m + 1 by omega)
  simp only [List.mem_cons, List.not_mem_nil, or_false] at hy
  rcases hy with rfl | rfl | rfl | rfl | rfl <;> omega
def taskBy (xs : List Int) : Task where
  w := weightP (xs.getD 0 0)
  most := mostP (xs.getD 1 0)
  cap := capP (xs.getD 2 0) (mostP (xs.getD 1 0))
  tries := (List.range (manyP (xs.getD 3 0)).toNat).map fun j => tryP (xs.getD (4 + j) 0) (mostP (xs.getD 1 0)) (capP (xs.getD 2 0) (mostP (xs.getD 1 0)))
theorem taskBy_ok (xs : List Int) : (taskBy xs).Ok where
  w0 := (weightP_lo _).1
  w1 := (weightP_lo _).2
  m0 := (mostP_lo _).1
  m1 := (mostP_lo _).2
  c0 := (capP_lo (mostP_lo _).1).1
  c1 := (capP_lo (mostP_lo _).1).2
  l := by
    show (List.map _ _).length ≤ 12
    rw [List.length_map, List.length_range]
    have := manyP_lo (xs.getD 3 0)
    omega
  t0 := fun x hx => by
    obtain ⟨j, _, rfl⟩ := List.mem_map.mp hx
    exact tryP_lo (mostP_lo _).1 (capP_lo (mostP_lo _).1).1 (capP_lo (mostP_lo _).1).2
def gAt (t : Task) (i : Nat) : Int := if i = 0 then t.tries.getD i 0 else min (t.tries.getD i 0) t.cap
def givesP (t : Task) : List Int := (List.range t.tries.length).map (gAt t)
abbrev sp_l_task_by (K : PySem.W.Frag) : Sp := spD K (fun xs : List Int => [.list (intsD xs)]) (fun xs => 16 ≤ xs.length) (fun xs => (taskBy xs).D)

theorem c_l_task_by {Z : Zx} {ρ : List Sl} {E : XK} {t0 : TE} {xs : List Int} (h0 : EvD Z t0 ρ (.list (intsD xs))) (ok : 16 ≤ xs.length) : EvD Z (tCall (sp_l_task_by Z.K) [] E (tCons t0 tNil)) ρ ((taskBy xs).D) := DL.d_call xs (DL.ea_cons h0 DL.ea_nil) ok
local macro_rules | `(tactic| walk_at "call") => `(tactic| ((with_reducible apply k02.c_l_task_by) <;> walk_at "ev"))
-- KIND: L
-- CALL: {t : Task} | t.D | t | t.Ok | intsD (givesP t)
abbrev sp_l_gives (K : PySem.W.Frag) : Sp := spL K (fun t : Task => [t.D]) (fun t => t.Ok) (fun t => intsD (givesP t))

theorem c_l_gives {Z : Zx} {ρ : List Sl} {E : XK} {t0 : TE} {t : Task} (h0 : EvD Z t0 ρ (t.D)) (ok : t.Ok) : EvL Z (tCall (sp_l_gives Z.K) [] E (tCons t0 tNil)) ρ (intsD (givesP t)) := DL.l_call t (DL.ea_cons h0 DL.ea_nil) ok
local macro_rules | `(tactic| walk_at "call") => `(tactic| ((with_reducible apply k02.c_l_gives) <;> walk_at "ev"))
-- KIND: L
-- CALL: {t : Task} | t.D | t | t.Ok | intsD (givesP t)
def givesV (c : Int) : PyData → PyData
  | .tuple [.int i, .int x] => .int (if i = 0 then x else min x c)
  | _ => .none
abbrev sp_gives (K : PySem.W.Frag) : Sp := spL K (fun t : Task => [t.D]) (fun t => t.Ok) (fun t => intsD (givesP t))

theorem c_gives {Z : Zx} {ρ : List Sl} {E : XK} {t0 : TE} {t : Task} (h0 : EvD Z t0 ρ (t.D)) (ok : t.Ok) : EvL Z (tCall (sp_gives Z.K) [] E (tCons t0 tNil)) ρ (intsD (givesP t)) := DL.l_call t (DL.ea_cons h0 DL.ea_nil) ok
local macro_rules | `(tactic| walk_at "call") => `(tactic| ((with_reducible apply k02.c_gives) <;> walk_at "ev"))
-- KIND: D
-- CALL: {t : Task} | t.D | t | t.Ok | optD (maxI (givesP t))
abbrev sp_mark (K : PySem.W.Frag) : Sp := spD K (fun t : Task => [t.D]) (fun t => t.Ok) (fun t => optD (maxI (givesP t)))

theorem c_mark {Z : Zx} {ρ : List Sl} {E : XK} {t0 : TE} {t : Task} (h0 : EvD Z t0 ρ (t.D)) (ok : t.Ok) : EvD Z (tCall (sp_mark Z.K) [] E (tCons t0 tNil)) ρ (optD (maxI (givesP t))) := DL.d_call t (DL.ea_cons h0 DL.ea_nil) ok
local macro_rules | `(tactic| walk_at "call") => `(tactic| ((with_reducible apply k02.c_mark) <;> walk_at "ev"))
-- KIND: L
-- CALL: {c m : Int} | .int c ; .int m | (c, m) | 0 ≤ m ∧ m ≤ 1000 | intsD (streamP c m)
def strN (c : Int) : Nat → Int
  | 0 => c % 2147483647 + 48271
  | i + 1 => (strN c i * strN c i + 48271 * strN c i + 7 * (i : Int) + 1) % 2147483647
theorem strN_lo (c : Int) : ∀ i, 0 ≤ strN c i ∧ strN c i < 2 ^ 32
  | 0 => by unfold strN; omega
  | i + 1 => by
    unfold strN
    constructor
    · exact Int.emod_nonneg _ (by decide)
    · exact Int.lt_trans (Int.emod_lt_of_pos _ (by decide)) (by decide)
def streamP (c m : Int) : List Int := (List.range m.toNat).map fun j => strN c (j + 2)
theorem streamP_len (c m : Int) : (streamP c m).length = m.toNat := by unfold streamP; rw [List.length_map, List.length_range]
theorem streamP_lo (c m : Int) : ∀ x ∈ streamP c m, 0 ≤ x ∧ x < 2 ^ 32 := fun x hx => by
  obtain ⟨j, _, rfl⟩ := List.mem_map.mp hx
  exact strN_lo c _
abbrev sp_l_stream (K : PySem.W.Frag) : Sp := spL K (fun a : Int × Int => [.int a.1, .int a.2]) (fun a => 0 ≤ a.2 ∧ a.2 ≤ 1000) (fun a => intsD (streamP a.1 a.2))

theorem c_l_stream {Z : Zx} {ρ : List Sl} {E : XK} {t0 t1 : TE} {c m : Int} (h0 : EvD Z t0 ρ (.int c)) (h1 : EvD Z t1 ρ (.int m)) (ok : 0 ≤ m ∧ m ≤ 1000) : EvL Z (tCall (sp_l_stream Z.K) [] E (tCons t0 (tCons t1 tNil))) ρ (intsD (streamP c m)) := DL.l_call (c, m) (DL.ea_cons h0 (DL.ea_cons h1 DL.ea_nil)) ok
local macro_rules | `(tactic| walk_at "call") => `(tactic| ((with_reducible apply k02.c_l_stream) <;> walk_at "ev"))
-- KIND: D
-- CALL: {ns : List Int} {k : Int} | .list (intsD ns) ; .int k | (ns, k) | ns.length ≤ 63 ∧ 0 ≤ k | .int (cellAt ns k)
def cellAt (ns : List Int) (k : Int) : Int := if ns.length = 0 then k else ns.getD (k % (ns.length : Int)).toNat 0 + 3 * (k / (ns.length : Int))
abbrev sp_l_cell_at (K : PySem.W.Frag) : Sp := spD K (fun a : List Int × Int => [.list (intsD a.1), .int a.2]) (fun a => a.1.length ≤ 63 ∧ 0 ≤ a.2) (fun a => .int (cellAt a.1 a.2))

theorem c_l_cell_at {Z : Zx} {ρ : List Sl} {E : XK} {t0 t1 : TE} {ns : List Int} {k : Int} (h0 : EvD Z t0 ρ (.list (intsD ns))) (h1 : EvD Z t1 ρ (.int k)) (ok : ns.length ≤ 63 ∧ 0 ≤ k) : EvD Z (tCall (sp_l_cell_at Z.K) [] E (tCons t0 (tCons t1 tNil))) ρ (.int (cellAt ns k)) := DL.d_call (ns, k) (DL.ea_cons h0 (DL.ea_cons h1 DL.ea_nil)) ok
local macro_rules | `(tactic| walk_at "call") => `(tactic| ((with_reducible apply k02.c_l_cell_at) <;> walk_at "ev"))
-- KIND: D
-- CALL: {a : Int} | .int a | a | True | .bool true
abbrev sp_l_whole (K : PySem.W.Frag) : Sp := spD K (fun a : Int => [.int a]) (fun _ => True) (fun a => .bool true)

theorem c_l_whole {Z : Zx} {ρ : List Sl} {E : XK} {t0 : TE} {a : Int} (h0 : EvD Z t0 ρ (.int a)) (ok : True) : EvD Z (tCall (sp_l_whole Z.K) [] E (tCons t0 tNil)) ρ (.bool true) := DL.d_call a (DL.ea_cons h0 DL.ea_nil) ok
local macro_rules | `(tactic| walk_at "call") => `(tactic| ((with_reducible apply k02.c_l_whole) <;> walk_at "ev"))
-- KIND: D
-- CALL: {t : Task} | t.D | t | t.Ok | optD (maxI (givesP t))
theorem maxI_snoc (l : List Int) (x : Int) : maxI (l ++ [x]) = some (match maxI l with | none => x | some m => max m x) := by
  cases l with
  | nil => rfl
  | cons n r =>
    show some ((r ++ [x]).foldl max n) = _
    rw [List.foldl_append]
    rfl
abbrev sp_l_mark (K : PySem.W.Frag) : Sp := spD K (fun t : Task => [t.D]) (fun t => t.Ok) (fun t => optD (maxI (givesP t)))

theorem c_l_mark {Z : Zx} {ρ : List Sl} {E : XK} {t0 : TE} {t : Task} (h0 : EvD Z t0 ρ (t.D)) (ok : t.Ok) : EvD Z (tCall (sp_l_mark Z.K) [] E (tCons t0 tNil)) ρ (optD (maxI (givesP t))) := DL.d_call t (DL.ea_cons h0 DL.ea_nil) ok
local macro_rules | `(tactic| walk_at "call") => `(tactic| ((with_reducible apply k02.c_l_mark) <;> walk_at "ev"))
-- KIND: D
-- CALL: {t : Task} | t.D | t | t.Ok | chosenP t
def chosenP (t : Task) : PyData := match maxI (givesP t) with
  | none => .none
  | some m => .int ((givesP t).idxOf m : Nat)
abbrev sp_chosen (K : PySem.W.Frag) : Sp := spD K (fun t : Task => [t.D]) (fun t => t.Ok) (fun t => chosenP t)

theorem c_chosen {Z : Zx} {ρ : List Sl} {E : XK} {t0 : TE} {t : Task} (h0 : EvD Z t0 ρ (t.D)) (ok : t.Ok) : EvD Z (tCall (sp_chosen Z.K) [] E (tCons t0 tNil)) ρ (chosenP t) := DL.d_call t (DL.ea_cons h0 DL.ea_nil) ok
local macro_rules | `(tactic| walk_at "call") => `(tactic| ((with_reducible apply k02.c_chosen) <;> walk_at "ev"))
-- KIND: D
abbrev sp_law (K : PySem.W.Frag) : Sp := DL.spLaw K
def addTry (t : Task) (x : Int) : Task := { t with tries := t.tries ++ [x] }
theorem addTry_ok {t : Task} {x : Int} (h : t.Ok) (hl : t.tries.length ≤ 11) (h0 : 0 ≤ x) (h1 : x ≤ t.most) : (addTry t x).Ok where
  w0 := h.w0
  w1 := h.w1
  m0 := h.m0
  m1 := h.m1
  c0 := h.c0
  c1 := h.c1
  l := by
    show (t.tries ++ [x]).length ≤ 12
    rw [List.length_append]
    show t.tries.length + 1 ≤ 12
    omega
  t0 := fun y hy => by
    rcases List.mem_append.mp hy with hy | hy
    · exact h.t0 y hy
    · rw [List.mem_singleton.mp hy]
      exact ⟨h0, h1⟩
theorem gives_add {t : Task} {x : Int} (hn : t.tries ≠ []) : givesP (addTry t x) = givesP t ++ [min x t.cap] := by
  unfold givesP addTry
  rw [List.length_append]
  show (List.range (t.tries.length + 1)).map _ = _
  rw [List.range_succ, List.map_append]
  have hp : 0 < t.tries.length := List.length_pos_iff.mpr hn
  congr 1
  · refine List.map_congr_left fun i hi => ?_
    have hlt := List.mem_range.mp hi
    unfold gAt
    show (if i = 0 then (t.tries ++ [x]).getD i 0 else min ((t.tries ++ [x]).getD i 0) t.cap) = _
    rw [List.getD_eq_getElem?_getD, List.getElem?_append_left hlt, ← List.getD_eq_getElem?_getD]
  · show [gAt _ _] = _
    unfold gAt
    show [if t.tries.length = 0 then (t.tries ++ [x]).getD t.tries.length 0 else min ((t.tries ++ [x]).getD t.tries.length 0) t.cap] = _
    rw [if_neg (by omega), List.getD_eq_getElem?_getD, List.getElem?_append_right (Nat.le_refl _), Nat.sub_self]
    rfl

section
variable {P : Program} {w : World} {K : PySem.W.Frag} {mg : Str → Option Value} {base : Heap}
abbrev s_l_task_by : Stmt := topS 8
theorem sc_l_task_by : FnScope ["_law_xs", "_law_weight", "_law_most", "_law_cap", "_law_many", "_law_tries", "_law_k"] ["_law_xs"] (defScope s_l_task_by) := ⟨rfl, rfl, rfl, by decide +kernel, rfl, by decide +kernel, by decide +kernel⟩
theorem ok_l_task_by (At : DefAt K mg "_law_task_by" "_law_task_by" s_l_task_by ["_law_xs"]) (m_range : mg "range" = none) (m_tuple : mg "tuple" = none) : Fn1 P w K mg base 1 "_law_task_by" ["_law_xs"] (sp_l_task_by K) := by
  have nd := sc_l_task_by.nd
  refine At.D sc_l_task_by (fun _ => rfl) (fun f cdv A outer s H E hr => ⟨_, (pss_cons (ps_asg (pe_op (op_addU : OpR _ _ (rAddU K)) pe_int (pe_op op_mod (pe_ix (ix_U : IxR _ (rIxU K)) (pv 0) pe_int (fun _ _ => rfl)) pe_int)) (pg_name (i := 1) nd rfl (by first | exact Or.inl rfl | exact Or.inr rfl)))
      (pss_cons (ps_if (pt_cmpR (op_eqD hr.units : OpR _ _ (rEqD K)) (pe_op op_mod (pe_op op_divU (pe_ix (ix_U : IxR _ (rIxU K)) (pv 0) pe_int (fun _ _ => rfl)) pe_int) pe_int) pe_int (nomark _)) (pss_one (ps_asg (pe_op (op_addU : OpR _ _ (rAddU K)) pe_int (pe_op op_mod (pe_op op_divU (pe_ix (ix_U : IxR _ (rIxU K)) (pv 0) pe_int (fun _ _ => rfl)) pe_int) pe_int)) (pg_name (i := 1) nd rfl (by first | exact Or.inl rfl | exact Or.inr rfl)))) pss_nil)
      (pss_cons (ps_asg (pe_ix (ix_U : IxR _ (rIxU K)) (pe_lst (pa_cons pe_int (pa_cons pe_int (pa_cons pe_int (pa_cons (pe_op (op_addU : OpR _ _ (rAddU K)) pe_int (pe_op op_mod (pe_op op_divU (pe_ix (ix_U : IxR _ (rIxU K)) (pv 0) pe_int (fun _ _ => rfl)) pe_int) pe_int)) (pa_cons (pe_op (op_addU : OpR _ _ (rAddU K)) pe_int (pe_op op_mod (pe_op op_divU (pe_ix (ix_U : IxR _ (rIxU K)) (pv 0) pe_int (fun _ _ => rfl)) pe_int) (pe_op op_pow pe_int pe_int))) (pa_cons (pe_op op_pow pe_int pe_int) pa_nil))))))) (pe_op op_mod (pe_ix (ix_U : IxR _ (rIxU K)) (pv 0) pe_int (fun _ _ => rfl)) pe_int) (fun _ _ => rfl)) (pg_name (i := 2) nd rfl (by first | exact Or.inl rfl | exact Or.inr rfl)))
      (pss_cons (ps_asg (pe_ix (ix_U : IxR _ (rIxU K)) (pe_lst (pa_cons (pv 2) (pa_cons pe_int (pa_cons (pe_op op_divU (pv 2) pe_int) (pa_cons (pe_op op_mod (pe_op op_divU (pe_ix (ix_U : IxR _ (rIxU K)) (pv 0) pe_int (fun _ _ => rfl)) pe_int) (pe_op (op_addU : OpR _ _ (rAddU K)) (pv 2) pe_int)) pa_nil))))) (pe_op op_mod (pe_ix (ix_U : IxR _ (rIxU K)) (pv 0) pe_int (fun _ _ => rfl)) pe_int) (fun _ _ => rfl)) (pg_name (i := 3) nd rfl (by first | exact Or.inl rfl | exact Or.inr rfl)))
      (pss_cons (ps_asg (pe_ix (ix_U : IxR _ (rIxU K)) (pe_lst (pa_cons pe_int (pa_cons pe_int (pa_cons pe_int (pa_cons pe_int (pa_cons pe_int (pa_cons pe_int (pa_cons pe_int (pa_cons pe_int (pa_cons pe_int pa_nil)))))))))) (pe_op op_mod (pe_ix (ix_U : IxR _ (rIxU K)) (pv 0) pe_int (fun _ _ => rfl)) pe_int) (fun _ _ => rfl)) (pg_name (i := 4) nd rfl (by first | exact Or.inl rfl | exact Or.inr rfl)))
      (pss_cons (ps_asg (pe_lst pa_nil) (pg_name (i := 5) nd rfl (by first | exact Or.inl rfl | exact Or.inr rfl)))
      (pss_cons (ps_for PassesOwn.never rfl (pi_range1 (by rfl) m_range (pa_cons (pv 4) pa_nil)) (pg_name (i := 6) nd rfl (by first | exact Or.inl rfl | exact Or.inr rfl)) (pss_one (ps_expr (pe_bm PySem.F.plainAttrs_list PySem.F.slot_list_append PySem.F.type_list_append mt_append (pv 5) (pa_cons (pe_ix (ix_U : IxR _ (rIxU K)) (pe_lst (pa_cons (pe_op op_mod (pe_op op_divU (pe_ix (ix_U : IxR _ (rIxU K)) (pv 0) (pe_op (op_addU : OpR _ _ (rAddU K)) pe_int (pv 6)) (fun _ _ => rfl)) pe_int) (pe_op (op_addU : OpR _ _ (rAddU K)) (pv 2) pe_int)) (pa_cons (pe_op op_mod (pe_op op_divU (pe_ix (ix_U : IxR _ (rIxU K)) (pv 0) (pe_op (op_addU : OpR _ _ (rAddU K)) pe_int (pv 6)) (fun _ _ => rfl)) pe_int) (pe_op (op_addU : OpR _ _ (rAddU K)) (pv 2) pe_int)) (pa_cons pe_int (pa_cons (pv 2) (pa_cons (pv 3) pa_nil)))))) (pe_op op_mod (pe_ix (ix_U : IxR _ (rIxU K)) (pv 0) (pe_op (op_addU : OpR _ _ (rAddU K)) pe_int (pv 6)) (fun _ _ => rfl)) pe_int) (fun _ _ => rfl)) pa_nil)))))
      (pss_one (ps_ret (pe_tup (pa_cons (pv 1) (pa_cons (pv 2) (pa_cons (pv 3) (pa_cons (pe_callTy (c_tuple : CallR _ _ (rTpl K)) (by rfl) m_tuple (by decide +kernel) (pa_cons (pv 5) pa_nil)) pa_nil)))))))))))))), fun a ha => ?_⟩)
  try dsimp only [cxOf]
  show EvS (Z0 K) _ [Sl.dat _, Sl.any, Sl.any, Sl.any, Sl.any, Sl.any, Sl.any] _
  rename List Int => xs
  have hl : 16 ≤ xs.length := ha
  have w0 := weightP_lo (xs.getD 0 0)
  have m0 := mostP_lo (xs.getD 1 0)
  have c0 := capP_lo (x := xs.getD 2 0) m0.1
  have n0 := manyP_lo (xs.getD 3 0)
  apply DL.s_seq
  · apply DL.s_asg
    · walk_at "ev"
    · exact DL.g_name
    · exact rfl
  apply DL.s_ifAsg (x := .int (weightP (xs.getD 0 0)))
  · walk_at "ev"
  · intro hb
    apply DL.EvD.is
    · walk_at "ev"
    · have e : xs.getD 0 0 / 5 % 5 = 0 := of_decide_eq_true hb
      show PyData.int _ = PyData.int _
      unfold weightP
      rw [if_pos e]
      rfl
  · intro hb
    have e : ¬ xs.getD 0 0 / 5 % 5 = 0 := of_decide_eq_false hb
    unfold weightP
    rw [if_neg e]
    rfl
  have p6 : (10 : Int) ^ (6 : Int).toNat = 1000000 := by decide
  apply DL.s_seq (ρ1 := [Sl.dat (.list (intsD xs)), Sl.dat (.int (weightP (xs.getD 0 0))), Sl.dat (.int (mostP (xs.getD 1 0))), .any, .any, .any, .any])
  · apply DL.s_asg
    · walk_at "ev"
    · exact DL.g_name
    · show _ = _
      rw [p6]
      rfl
  generalize hm : mostP (xs.getD 1 0) = m at *
  apply DL.s_seq (ρ1 := [Sl.dat (.list (intsD xs)), Sl.dat (.int (weightP (xs.getD 0 0))), Sl.dat (.int m), Sl.dat (.int (capP (xs.getD 2 0) m)), .any, .any, .any])
  · apply DL.s_asg
    · walk_at "ev"
    · exact DL.g_name
    · exact rfl
  generalize hc : capP (xs.getD 2 0) m = c at *
  apply DL.s_seq (ρ1 := [Sl.dat (.list (intsD xs)), Sl.dat (.int (weightP (xs.getD 0 0))), Sl.dat (.int m), Sl.dat (.int c), Sl.dat (.int (manyP (xs.getD 3 0))), .any, .any])
  · apply DL.s_asg
    · walk_at "ev"
    · exact DL.g_name
    · exact rfl
  generalize hn : manyP (xs.getD 3 0) = n at *
  apply DL.s_seq
  · apply DL.s_asgL
    · walk_at "ev"
    · exact rfl
  refine DL.s_cut (fun ρ => ∃ y, ρ = [Sl.dat (.list (intsD xs)), Sl.dat (.int (weightP (xs.getD 0 0))), Sl.dat (.int m), Sl.dat (.int c), Sl.dat (.int n), Sl.own ((List.range n.toNat).map fun j => .int (tryP (xs.getD (4 + j) 0) m c)), y]) ?_ ?_
  · apply DL.s_for (I := fun i ρ => ∃ y, ρ = [Sl.dat (.list (intsD xs)), Sl.dat (.int (weightP (xs.getD 0 0))), Sl.dat (.int m), Sl.dat (.int c), Sl.dat (.int n), Sl.own ((List.range i).map fun j => .int (tryP (xs.getD (4 + j) 0) m c)), y])
    · apply DL.i_rng1
      · walk_at "ev"
      · omega
    · exact ⟨_, rfl⟩
    · rintro i d ρ hd ⟨y, rfl⟩
      obtain ⟨hi, rfl⟩ := rangeD_get hd
      refine ⟨_, DL.g_name, ?_⟩
      simp only [Int.zero_add]
      have e4 : (4 + (i : Int)).toNat = 4 + i := by omega
      apply DL.s_app
      · exact rfl
      · walk_at "ev"
      · simp; omega
      · refine ⟨Sl.dat (.int (i : Int)), ?_⟩
        simp only [List.set_cons_zero, List.set_cons_succ, List.range_succ, List.map_append, e4]
        rfl
    · rintro ρ ⟨y, rfl⟩
      refine ⟨y, ?_⟩
      rw [rangeD_len]
  · rintro ρ ⟨y, rfl⟩
    apply DL.s_ret
    · walk_at "ev"
    · show _ = (taskBy xs).D
      unfold taskBy Task.D intsD
      rw [List.map_map, hm, hc, hn]
      rfl

abbrev s_l_gives : Stmt := topS 10
theorem sc_l_gives : FnScope ["_law_task", "_law_found", "_law_k"] ["_law_task"] (defScope s_l_gives) := ⟨rfl, rfl, rfl, by decide +kernel, rfl, by decide +kernel, by decide +kernel⟩
theorem ok_l_gives (At : DefAt K mg "_law_gives" "_law_gives" s_l_gives ["_law_task"]) (m_range : mg "range" = none) (m_len : mg "len" = none) : Fn1 P w K mg base 1 "_law_gives" ["_law_task"] (sp_l_gives K) := by
  have nd := sc_l_gives.nd
  refine At.L sc_l_gives (fun _ => rfl) (fun f cdv A outer s H E hr => ⟨_, (pss_cons (ps_asg (pe_lst pa_nil) (pg_name (i := 1) nd rfl (by first | exact Or.inl rfl | exact Or.inr rfl)))
      (pss_cons (ps_for PassesOwn.never rfl (pi_range1 (by rfl) m_range (pa_cons (pe_callB (c_len : CallR _ _ (DL.rLen K)) (by rfl) m_len PySem.boot_len (pa_cons (pe_ix (ix_U : IxR _ (rIxU K)) (pv 0) pe_int (fun _ _ => rfl)) pa_nil)) pa_nil)) (pg_name (i := 2) nd rfl (by first | exact Or.inl rfl | exact Or.inr rfl)) (pss_one (ps_if (PW.pt (pw_or (pt_cmpR (op_eqD hr.units : OpR _ _ (rEqD K)) (pv 2) pe_int (nomark _)) (pw_or1 (pt_cmpR op_lt (pe_ix (ix_U : IxR _ (rIxU K)) (pe_ix (ix_U : IxR _ (rIxU K)) (pv 0) pe_int (fun _ _ => rfl)) (pv 2) (fun _ _ => rfl)) (pe_ix (ix_U : IxR _ (rIxU K)) (pv 0) pe_int (fun _ _ => rfl)) (nomark _))))) (pss_one (ps_expr (pe_bm PySem.F.plainAttrs_list PySem.F.slot_list_append PySem.F.type_list_append mt_append (pv 1) (pa_cons (pe_ix (ix_U : IxR _ (rIxU K)) (pe_ix (ix_U : IxR _ (rIxU K)) (pv 0) pe_int (fun _ _ => rfl)) (pv 2) (fun _ _ => rfl)) pa_nil)))) (pss_one (ps_expr (pe_bm PySem.F.plainAttrs_list PySem.F.slot_list_append PySem.F.type_list_append mt_append (pv 1) (pa_cons (pe_ix (ix_U : IxR _ (rIxU K)) (pv 0) pe_int (fun _ _ => rfl)) pa_nil)))))))
      (pss_one (ps_ret (pv 1))))), fun a ha => ?_⟩)
  try dsimp only [cxOf]
  show EvS (Z0 K) _ [Sl.dat _, Sl.any, Sl.any] _
  rename Task => t
  have hl := ha.l
  apply DL.s_seq
  · apply DL.s_asgL
    · walk_at "ev"
    · exact rfl
  refine DL.s_cut (fun ρ => ∃ y, ρ = [Sl.dat t.D, Sl.own (intsD (givesP t)), y]) ?_ ?_
  · apply DL.s_for (I := fun i ρ => ∃ y, ρ = [Sl.dat t.D, Sl.own ((List.range i).map fun j => .int (gAt t j)), y])
    · apply DL.i_rng1
      · walk_at "ev"
      · rw [intsD_len]; omega
    · exact ⟨_, rfl⟩
    · rintro i d ρ hd ⟨y, rfl⟩
      obtain ⟨hi, rfl⟩ := rangeD_get hd
      refine ⟨_, DL.g_name, ?_⟩
      simp only [Int.zero_add]
      rw [intsD_len] at hi
      have hi2 : i < t.tries.length := by omega
      apply DL.s_if
      · walk_at "ev"
      · intro hb
        apply DL.s_app
        · exact rfl
        · walk_at "ev"
        · simp; omega
        · refine ⟨Sl.dat (.int (i : Int)), ?_⟩
          simp only [List.set_cons_zero, List.set_cons_succ, List.range_succ, List.map_append]
          have e : gAt t i = t.tries.getD (i : Int).toNat 0 := by
            unfold gAt
            by_cases h : i = 0
            · rw [if_pos h]; rfl
            · have h2 : t.tries.getD (i : Int).toNat 0 < t.cap := by
                have hh : decide ((i : Int) = 0) = false := decide_eq_false (by omega)
                rw [hh] at hb
                exact of_decide_eq_true hb
              rw [if_neg h]
              exact Int.min_eq_left (Int.le_of_lt h2)
          rw [← e]
          rfl
      · intro hb
        apply DL.s_app
        · exact rfl
        · walk_at "ev"
        · simp; omega
        · refine ⟨Sl.dat (.int (i : Int)), ?_⟩
          simp only [List.set_cons_zero, List.set_cons_succ, List.range_succ, List.map_append]
          have hb2 := Bool.or_eq_false_iff.mp hb
          have h1 : ¬ (i : Int) = 0 := of_decide_eq_false hb2.1
          have h2 : ¬ t.tries.getD (i : Int).toNat 0 < t.cap := of_decide_eq_false hb2.2
          have e : gAt t i = t.cap := by
            unfold gAt
            rw [if_neg (by omega)]
            exact Int.min_eq_right (Int.not_lt.mp h2)
          rw [← e]
          rfl
    · rintro ρ ⟨y, rfl⟩
      refine ⟨y, ?_⟩
      rw [rangeD_len, intsD_len]
      show _ = [_, Sl.own (intsD (givesP t)), _]
      unfold givesP
      rw [intsD, List.map_map]
      rfl
  · rintro ρ ⟨y, rfl⟩
    apply DL.s_retO (i := 1)
    · exact rfl
    · exact rfl

abbrev s_gives : Stmt := topS 1
theorem sc_gives : FnScope ["task", "cap", "tries", "at", "points"] ["task"] (defScope s_gives) := ⟨rfl, rfl, rfl, by decide +kernel, rfl, by decide +kernel, by decide +kernel⟩
theorem ok_gives (At : DefAt K mg "gives" "gives" s_gives ["task"]) (m_min : mg "min" = none) (m_enumerate : mg "enumerate" = none) : Fn1 P w K mg base 1 "gives" ["task"] (sp_gives K) := by
  have nd := sc_gives.nd
  refine At.L sc_gives (fun _ => rfl) (fun f cdv A outer s H E hr => ⟨_, (pss_cons (ps_asg (pe_slice (sl_U : SlR _ (rSlU K)) (pv 0) (po_some pe_int) po_none) (pg_tup (by rfl) (pgs_cons (pg_name (i := 1) nd rfl (by first | exact Or.inl rfl | exact Or.inr rfl)) (pgs_cons (pg_name (i := 2) nd rfl (by first | exact Or.inl rfl | exact Or.inr rfl)) pgs_nil))))
      (pss_one (ps_ret (pe_lc (own := [("at", 3), ("points", 4)]) (g := gTup K 2 (gCons (gName 3) (gCons (gName 4) gNil))) (tt := tYes) (by rfl) nd (pi_enT (by rfl) m_enumerate (pa_cons (pv 2) pa_nil)) (blkOk_by (own := [("at", 3), ("points", 4)]) (N := ["task", "cap", "tries", "at", "points"]) (sc := defScope s_gives) (by decide +kernel)) (fun _ _ _ _ _ => (pg_tup (by rfl) (pgs_cons (pg_name (i := 3) nd rfl (by first | exact Or.inl rfl | exact Or.inr rfl)) (pgs_cons (pg_name (i := 4) nd rfl (by first | exact Or.inl rfl | exact Or.inr rfl)) pgs_nil)))) (fun _ _ _ _ _ => pts_nil) (fun _ _ _ _ _ => (pe_ifExp (pt_cmpR (op_eqD hr.units : OpR _ _ (rEqD K)) (pv 3) pe_int (nomark _)) (pv 4) (pe_callB (c_min2 rfl) (by rfl) m_min (by decide +kernel) (pa_cons (pv 4) (pa_cons (pv 1) pa_nil))))))))), fun a ha => ?_⟩)
  try dsimp only [cxOf]
  show EvS (Z0 K) _ [Sl.dat _, Sl.any, Sl.any, Sl.any, Sl.any] _
  rename Task => t
  have e3 : DL.cutD [.int t.w, .int t.most, .int t.cap, .tuple (intsD t.tries)] (some (2 : Int)) none = [.int t.cap, .tuple (intsD t.tries)] := cutD_from _ 2
  apply DL.s_seq (ρ1 := [Sl.dat t.D, Sl.dat (.int t.cap), Sl.dat (.tuple (intsD t.tries)), .any, .any])
  · apply DL.s_asg (d := .tuple [.int t.cap, .tuple (intsD t.tries)])
    · apply DL.EvD.is
      · walk_at "ev"
      · exact congrArg _ e3
    · apply DL.g_tup
      · rfl
      · apply DL.gs_cons
        · exact DL.g_name
        · apply DL.gs_cons
          · exact DL.g_name
          · exact DL.gs_nil
    · exact rfl
  apply DL.s_retL
  · refine DL.l_lc (fun _ => true) (givesV t.cap) (DL.i_enT (ds := intsD t.tries) (by walk_at "ev")) ?_ ?_
    · rw [enumD_len, intsD_len]
      have := ha.l
      omega
    · intro i d hd
      obtain ⟨x, hx, rfl⟩ := enumD_get hd
      have hlt : i < t.tries.length := by
        have := (List.getElem?_eq_some_iff.mp hx).1
        rw [intsD_len] at this
        exact this
      rw [intsD_get hlt] at hx
      obtain rfl := Option.some.inj hx
      refine ⟨_, DL.gw_tup2 (by decide), DL.t_yes, fun _ => ?_⟩
      apply DL.EvD.is
      · walk_at "ev"
      · show _ = PyData.int _
        by_cases h : (i : Int) = 0
        · rw [if_pos (decide_eq_true h), if_pos h]
        · rw [if_neg (by rw [decide_eq_false h]; decide), if_neg h]
  · show _ = intsD (givesP t)
    unfold keptD givesP enumD intsD
    rw [List.filter_eq_self.mpr (fun _ _ => rfl), List.map_map, List.map_map, List.length_map]
    refine List.map_congr_left fun i hi => ?_
    have hlt := List.mem_range.mp hi
    show givesV t.cap (.tuple [.int i, (intsD t.tries).getD i .none]) = .int (gAt t i)
    rw [List.getD_eq_getElem?_getD, intsD_get hlt]
    show PyData.int _ = PyData.int _
    unfold gAt
    by_cases h : i = 0
    · subst h; rfl
    · rw [if_neg h, if_neg (by omega)]

abbrev s_mark : Stmt := topS 2
theorem sc_mark : FnScope ["task"] ["task"] (defScope s_mark) := ⟨rfl, rfl, rfl, by decide +kernel, rfl, by decide +kernel, by decide +kernel⟩
theorem ok_mark (At : DefAt K mg "mark" "mark" s_mark ["task"]) (G_gives : Fn1 P w K mg base 1 "gives" ["task"] (sp_gives K)) (m_max : mg "max" = none) : Fn1 P w K mg base 2 "mark" ["task"] (sp_mark K) := by
  have nd := sc_mark.nd
  refine At.D sc_mark (fun _ => rfl) (fun f cdv A outer s H E hr => ⟨_, (pss_one (ps_ret (pe_callBK (c_maxD rfl hr.units) (by rfl) m_max (by decide +kernel) (pa_cons (pe_fn G_gives (hr.mono (by decide)) (by rfl) (pa_cons (pv 0) pa_nil)) pa_nil) (pk_cons pe_non pk_nil)))), fun a ha => ?_⟩)
  try dsimp only [cxOf]
  show EvS (Z0 K) _ [Sl.dat _] _
  apply DL.s_ret
  · apply DL.d_maxD
    apply DL.EvL.v
    apply c_gives
    · walk_at "ev"
    · exact ha
  · exact rfl

abbrev s_l_stream : Stmt := topS 6
theorem sc_l_stream : FnScope ["_law_cell", "_law_many", "_law_found", "_law_number", "_law_k"] ["_law_cell", "_law_many"] (defScope s_l_stream) := ⟨rfl, rfl, rfl, by decide +kernel, rfl, by decide +kernel, by decide +kernel⟩
theorem ok_l_stream (At : DefAt K mg "_law_stream" "_law_stream" s_l_stream ["_law_cell", "_law_many"]) (m_range : mg "range" = none) : Fn1 P w K mg base 1 "_law_stream" ["_law_cell", "_law_many"] (sp_l_stream K) := by
  have nd := sc_l_stream.nd
  refine At.L sc_l_stream (fun _ => rfl) (fun f cdv A outer s H E hr => ⟨_, (pss_cons (ps_asg (pe_lst pa_nil) (pg_name (i := 2) nd rfl (by first | exact Or.inl rfl | exact Or.inr rfl)))
      (pss_cons (ps_asg (pe_op (op_addU : OpR _ _ (rAddU K)) (pe_op op_mod (pv 0) pe_int) pe_int) (pg_name (i := 3) nd rfl (by first | exact Or.inl rfl | exact Or.inr rfl)))
      (pss_cons (ps_for PassesOwn.never rfl (pi_range1 (by rfl) m_range (pa_cons (pe_op (op_addU : OpR _ _ (rAddU K)) (pv 1) pe_int) pa_nil)) (pg_name (i := 4) nd rfl (by first | exact Or.inl rfl | exact Or.inr rfl)) (pss_cons (ps_asg (pe_op op_mod (pe_op (op_addU : OpR _ _ (rAddU K)) (pe_op (op_addU : OpR _ _ (rAddU K)) (pe_op (op_addU : OpR _ _ (rAddU K)) (pe_op (op_mulU : OpR _ _ (rMulU K)) (pv 3) (pv 3)) (pe_op (op_mulU : OpR _ _ (rMulU K)) pe_int (pv 3))) (pe_op (op_mulU : OpR _ _ (rMulU K)) pe_int (pv 4))) pe_int) pe_int) (pg_name (i := 3) nd rfl (by first | exact Or.inl rfl | exact Or.inr rfl)))
      (pss_one (ps_expr (pe_bm PySem.F.plainAttrs_list PySem.F.slot_list_append PySem.F.type_list_append mt_append (pv 2) (pa_cons (pv 3) pa_nil))))))
      (pss_one (ps_ret (pe_slice (sl_U : SlR _ (rSlU K)) (pv 2) (po_some pe_int) po_none)))))), fun a ha => ?_⟩)
  try dsimp only [cxOf]
  show EvS (Z0 K) _ [Sl.dat _, Sl.dat _, Sl.any, Sl.any, Sl.any] _
  obtain ⟨c, m⟩ := a
  obtain ⟨h0, h1⟩ := ha
  try dsimp only at *
  apply DL.s_seq
  · apply DL.s_asgL
    · walk_at "ev"
    · exact rfl
  apply DL.s_seq
  · apply DL.s_asg
    · walk_at "ev"
    · exact DL.g_name
    · exact rfl
  refine DL.s_cut (fun ρ => ∃ x y, ρ = [Sl.dat (.int c), Sl.dat (.int m), Sl.own ((List.range (m + 1).toNat).map fun j => .int (strN c (j + 1))), x, y]) ?_ ?_
  · apply DL.s_for (I := fun i ρ => ∃ y, ρ = [Sl.dat (.int c), Sl.dat (.int m), Sl.own ((List.range i).map fun j => .int (strN c (j + 1))), Sl.dat (.int (strN c i)), y])
    · apply DL.i_rng1
      · walk_at "ev"
      · omega
    · exact ⟨_, rfl⟩
    · rintro i d ρ hd ⟨y, rfl⟩
      obtain ⟨hi, rfl⟩ := rangeD_get hd
      refine ⟨_, DL.g_name, ?_⟩
      simp only [Int.zero_add]
      have b := strN_lo c i
      have hi2 : (i : Int) < m + 1 := by omega
      apply DL.s_seq
      · apply DL.s_asg
        · walk_at "ev"
        · exact DL.g_name
        · exact rfl
      apply DL.s_app
      · exact rfl
      · walk_at "ev"
      · simp; omega
      · refine ⟨Sl.dat (.int (i : Int)), ?_⟩
        simp only [List.set_cons_zero, List.set_cons_succ, List.range_succ, List.map_append]
        rfl
    · rintro ρ ⟨y, rfl⟩
      refine ⟨Sl.dat (.int (strN c (m + 1).toNat)), y, ?_⟩
      rw [rangeD_len]
  · rintro ρ ⟨x, y, rfl⟩
    apply DL.s_retL
    · walk_at "ev"
    · show _ = intsD (streamP c m)
      have e : (m + 1).toNat = m.toNat + 1 := by omega
      have c1 := cutD_from ((List.range (m + 1).toNat).map fun j => PyData.int (strN c (j + 1))) 1
      refine Eq.trans c1 ?_
      unfold streamP intsD
      rw [e, List.map_map, List.range_succ_eq_map, List.map_cons, List.drop_succ_cons, List.drop_zero, List.map_map]
      rfl

abbrev s_l_cell_at : Stmt := topS 5
theorem sc_l_cell_at : FnScope ["_law_script", "_law_k"] ["_law_script", "_law_k"] (defScope s_l_cell_at) := ⟨rfl, rfl, rfl, by decide +kernel, rfl, by decide +kernel, by decide +kernel⟩
theorem ok_l_cell_at (At : DefAt K mg "_law_cell_at" "_law_cell_at" s_l_cell_at ["_law_script", "_law_k"]) (m_len : mg "len" = none) : Fn1 P w K mg base 1 "_law_cell_at" ["_law_script", "_law_k"] (sp_l_cell_at K) := by
  have nd := sc_l_cell_at.nd
  refine At.D sc_l_cell_at (fun _ => rfl) (fun f cdv A outer s H E hr => ⟨_, (pss_cons (ps_if (pt_cmpR (op_eqD hr.units : OpR _ _ (rEqD K)) (pe_callB (c_len : CallR _ _ (DL.rLen K)) (by rfl) m_len PySem.boot_len (pa_cons (pv 0) pa_nil)) pe_int (nomark _)) (pss_one (ps_ret (pv 1))) pss_nil)
      (pss_one (ps_ret (pe_op (op_addU : OpR _ _ (rAddU K)) (pe_ix (ix_U : IxR _ (rIxU K)) (pv 0) (pe_op op_mod (pv 1) (pe_callB (c_len : CallR _ _ (DL.rLen K)) (by rfl) m_len PySem.boot_len (pa_cons (pv 0) pa_nil))) (fun _ _ => rfl)) (pe_op (op_mulU : OpR _ _ (rMulU K)) pe_int (pe_op op_divU (pv 1) (pe_callB (c_len : CallR _ _ (DL.rLen K)) (by rfl) m_len PySem.boot_len (pa_cons (pv 0) pa_nil)))))))), fun a ha => ?_⟩)
  try dsimp only [cxOf]
  show EvS (Z0 K) _ [Sl.dat _, Sl.dat _] _
  obtain ⟨ns, k⟩ := a
  obtain ⟨hl, hk⟩ := ha
  try dsimp only at *
  apply DL.s_ifRet
  · walk_at "ev"
  · intro hb
    apply DL.s_ret
    · walk_at "ev"
    · have e := of_decide_eq_true hb
      rw [intsD_len] at e
      show PyData.int _ = _
      rw [cellAt, if_pos (by omega)]
  · intro hb
    have e := of_decide_eq_false hb
    rw [intsD_len] at e
    have h1 : 0 ≤ k % (ns.length : Int) := Int.emod_nonneg _ (by omega)
    have h2 : k % (ns.length : Int) < ns.length := Int.emod_lt_of_pos _ (by omega)
    apply DL.s_ret
    · walk_at "ev"
    · show PyData.int _ = PyData.int _
      rw [cellAt, if_neg (by omega)]
      simp only [intsD_len]

abbrev s_l_whole : Stmt := topS 7
theorem sc_l_whole : FnScope ["_law_found"] ["_law_found"] (defScope s_l_whole) := ⟨rfl, rfl, rfl, by decide +kernel, rfl, by decide +kernel, by decide +kernel⟩
theorem ok_l_whole (At : DefAt K mg "_law_whole" "_law_whole" s_l_whole ["_law_found"]) (m_isinstance : mg "isinstance" = none) (m_int : mg "int" = none) (m_bool : mg "bool" = none) : Fn1 P w K mg base 1 "_law_whole" ["_law_found"] (sp_l_whole K) := by
  have nd := sc_l_whole.nd
  refine At.D sc_l_whole (fun _ => rfl) (fun f cdv A outer s H E hr => ⟨_, (pss_one (ps_ret (pe_and (pe_callB (call_isi : CallR _ _ (rIsi K)) (by rfl) m_isinstance (by decide +kernel) (pa_cons (pv 0) (pa_cons (pe_bltn (v := .ty "int") (u := .type "int") (by rfl) m_int (by decide +kernel) rfl) pa_nil))) (pe_one (pe_not (pe_callB (call_isi : CallR _ _ (rIsi K)) (by rfl) m_isinstance (by decide +kernel) (pa_cons (pv 0) (pa_cons (pe_bltn (v := .ty "bool") (u := .type "bool") (by rfl) m_bool (by decide +kernel) rfl) pa_nil)))))))), fun a ha => ?_⟩)
  try dsimp only [cxOf]
  show EvS (Z0 K) _ [Sl.dat _] _
  apply DL.s_ret
  · walk_at "ev"
  · exact rfl

abbrev s_l_mark : Stmt := topS 9
theorem sc_l_mark : FnScope ["_law_task", "_law_best", "_law_k", "_law_points"] ["_law_task"] (defScope s_l_mark) := ⟨rfl, rfl, rfl, by decide +kernel, rfl, by decide +kernel, by decide +kernel⟩
theorem ok_l_mark (At : DefAt K mg "_law_mark" "_law_mark" s_l_mark ["_law_task"]) (m_range : mg "range" = none) (m_len : mg "len" = none) : Fn1 P w K mg base 1 "_law_mark" ["_law_task"] (sp_l_mark K) := by
  have nd := sc_l_mark.nd
  refine At.D sc_l_mark (fun _ => rfl) (fun f cdv A outer s H E hr => ⟨_, (pss_cons (ps_asg pe_non (pg_name (i := 1) nd rfl (by first | exact Or.inl rfl | exact Or.inr rfl)))
      (pss_cons (ps_for PassesOwn.never rfl (pi_range1 (by rfl) m_range (pa_cons (pe_callB (c_len : CallR _ _ (DL.rLen K)) (by rfl) m_len PySem.boot_len (pa_cons (pe_ix (ix_U : IxR _ (rIxU K)) (pv 0) pe_int (fun _ _ => rfl)) pa_nil)) pa_nil)) (pg_name (i := 2) nd rfl (by first | exact Or.inl rfl | exact Or.inr rfl)) (pss_cons (ps_asg (pe_ix (ix_U : IxR _ (rIxU K)) (pe_ix (ix_U : IxR _ (rIxU K)) (pv 0) pe_int (fun _ _ => rfl)) (pv 2) (fun _ _ => rfl)) (pg_name (i := 3) nd rfl (by first | exact Or.inl rfl | exact Or.inr rfl)))
      (pss_cons (ps_if (PW.pt (pw_and (pt_cmpR op_gt (pv 2) pe_int (nomark _)) (pw_and1 (pt_cmpR op_gt (pv 3) (pe_ix (ix_U : IxR _ (rIxU K)) (pv 0) pe_int (fun _ _ => rfl)) (nomark _))))) (pss_one (ps_asg (pe_ix (ix_U : IxR _ (rIxU K)) (pv 0) pe_int (fun _ _ => rfl)) (pg_name (i := 3) nd rfl (by first | exact Or.inl rfl | exact Or.inr rfl)))) pss_nil)
      (pss_one (ps_if (PW.pt (pw_or (pt_cmpR op_isU (pv 1) pe_non (nomark _)) (pw_or1 (pt_cmpR op_gt (pv 3) (pv 1) (nomark _))))) (pss_one (ps_asg (pv 3) (pg_name (i := 1) nd rfl (by first | exact Or.inl rfl | exact Or.inr rfl)))) pss_nil)))))
      (pss_one (ps_ret (pv 1))))), fun a ha => ?_⟩)
  try dsimp only [cxOf]
  show EvS (Z0 K) _ [Sl.dat _, Sl.any, Sl.any, Sl.any] _
  rename Task => t
  have hl := ha.l
  apply DL.s_seq
  · apply DL.s_asg
    · walk_at "ev"
    · exact DL.g_name
    · exact rfl
  refine DL.s_cut (fun ρ => ∃ y z, ρ = [Sl.dat t.D, Sl.dat (optD (maxI (givesP t))), y, z]) ?_ ?_
  · apply DL.s_for (I := fun i ρ => ∃ y z, ρ = [Sl.dat t.D, Sl.dat (optD (maxI ((List.range i).map (gAt t)))), y, z])
    · apply DL.i_rng1
      · walk_at "ev"
      · rw [intsD_len]; omega
    · exact ⟨_, _, rfl⟩
    · rintro i d ρ hd ⟨y, z, rfl⟩
      obtain ⟨hi, rfl⟩ := rangeD_get hd
      refine ⟨_, DL.g_name, ?_⟩
      simp only [Int.zero_add]
      rw [intsD_len] at hi
      have hi2 : i < t.tries.length := by omega
      apply DL.s_seq
      · apply DL.s_asg
        · walk_at "ev"
        · exact DL.g_name
        · exact rfl
      apply DL.s_ifAsg (x := .int (gAt t i))
      · walk_at "ev"
      · intro hb
        have hb2 := Bool.and_eq_true_iff.mp hb
        have h1 : (0 : Int) < (i : Int) := of_decide_eq_true hb2.1
        have h2 : t.cap < t.tries.getD (i : Int).toNat 0 := of_decide_eq_true hb2.2
        apply DL.EvD.is
        · walk_at "ev"
        · show PyData.int _ = PyData.int _
          unfold gAt
          rw [if_neg (by omega)]
          exact congrArg _ (Int.min_eq_right (Int.le_of_lt h2)).symm
      · intro hb
        have e : gAt t i = t.tries.getD (i : Int).toNat 0 := by
          unfold gAt
          by_cases h : i = 0
          · rw [if_pos h]; rfl
          · rw [if_neg h]
            have h1 : decide ((0 : Int) < (i : Int)) = true := decide_eq_true (by omega)
            rw [h1] at hb
            have h2 : ¬ t.cap < t.tries.getD (i : Int).toNat 0 := of_decide_eq_false hb
            exact Int.min_eq_left (Int.not_lt.mp h2)
        rw [e]
        rfl
      have es := maxI_snoc ((List.range i).map (gAt t)) (gAt t i)
      have er : (List.range (i + 1)).map (gAt t) = (List.range i).map (gAt t) ++ [gAt t i] := by rw [List.range_succ, List.map_append]; rfl
      cases hm : maxI ((List.range i).map (gAt t)) with
      | none =>
        rw [hm] at es
        dsimp only [optD]
        refine DL.s_if (DL.EvT.is (a := true || false) (DL.t_or (by walk_at "ev") (fun h => by cases h)) rfl) ?_ ?_
        · intro _
          apply DL.s_asg
          · walk_at "ev"
          · exact DL.g_name
          · refine ⟨Sl.dat (.int (i : Int)), Sl.dat (.int (gAt t i)), ?_⟩
            rw [er, es]
            rfl
        · intro h
          cases h
      | some m =>
        rw [hm] at es
        dsimp only [optD]
        apply DL.s_if
        · walk_at "ev"
        · intro hb
          have h2 : m < gAt t i := of_decide_eq_true hb
          apply DL.s_asg
          · walk_at "ev"
          · exact DL.g_name
          · refine ⟨Sl.dat (.int (i : Int)), Sl.dat (.int (gAt t i)), ?_⟩
            rw [er, es]
            show _ = [_, Sl.dat (.int (max m (gAt t i))), _, _]
            rw [Int.max_eq_right (Int.le_of_lt h2)]
            rfl
        · intro hb
          have h2 : ¬ m < gAt t i := of_decide_eq_false hb
          apply DL.s_next
          refine ⟨Sl.dat (.int (i : Int)), Sl.dat (.int (gAt t i)), ?_⟩
          rw [er, es]
          show _ = [_, Sl.dat (.int (max m (gAt t i))), _, _]
          rw [Int.max_eq_left (Int.not_lt.mp h2)]
          rfl
    · rintro ρ ⟨y, z, rfl⟩
      refine ⟨y, z, ?_⟩
      rw [rangeD_len, intsD_len]
      rfl
  · rintro ρ ⟨y, z, rfl⟩
    apply DL.s_ret
    · walk_at "ev"
    · exact rfl

abbrev s_chosen : Stmt := topS 3
theorem sc_chosen : FnScope ["task", "given"] ["task"] (defScope s_chosen) := ⟨rfl, rfl, rfl, by decide +kernel, rfl, by decide +kernel, by decide +kernel⟩
theorem ok_chosen (At : DefAt K mg "chosen" "chosen" s_chosen ["task"]) (G_gives : Fn1 P w K mg base 1 "gives" ["task"] (sp_gives K)) (m_max : mg "max" = none) : Fn1 P w K mg base 2 "chosen" ["task"] (sp_chosen K) := by
  have nd := sc_chosen.nd
  refine At.D sc_chosen (fun _ => rfl) (fun f cdv A outer s H E hr => ⟨_, (pss_cons (ps_asg (pe_fn G_gives (hr.mono (by decide)) (by rfl) (pa_cons (pv 0) pa_nil)) (pg_name (i := 1) nd rfl (by first | exact Or.inl rfl | exact Or.inr rfl)))
      (pss_cons (ps_if (pt_not (pt_truK (K := K) rfl (pv 1))) (pss_one (ps_ret pe_non)) pss_nil)
      (pss_one (ps_ret (pe_bm PySem.F.plainAttrs_list PySem.F.slot_list_index PySem.F.type_list_index mt_index (pv 1) (pa_cons (pe_callB (c_max1 rfl : CallR _ _ (rMax K)) (by rfl) m_max (by decide +kernel) (pa_cons (pv 1) pa_nil)) pa_nil)))))), fun a ha => ?_⟩)
  try dsimp only [cxOf]
  show EvS (Z0 K) _ [Sl.dat _, Sl.any] _
  rename Task => t
  apply DL.s_seq
  · apply DL.s_asg
    · apply DL.EvL.dt
      apply c_gives
      · walk_at "ev"
      · exact ha
    · exact DL.g_name
    · exact rfl
  cases hm : maxI (givesP t) with
  | none =>
    have e : givesP t = [] := by
      cases h : givesP t with
      | nil => rfl
      | cons n r => rw [h] at hm; cases hm
    apply DL.s_ifRet
    · walk_at "ev"
    · intro _
      apply DL.s_ret
      · walk_at "ev"
      · show _ = chosenP t
        unfold chosenP
        rw [hm]
    · intro h
      rw [e] at h
      cases h
  | some m =>
    have hmem := maxI_mem hm
    apply DL.s_ifRet
    · walk_at "ev"
    · intro h
      cases h2 : givesP t with
      | nil => rw [h2] at hmem; cases hmem
      | cons n r => rw [h2] at h; cases h
    · intro _
      apply DL.s_ret
      · apply DL.d_index
        · walk_at "ev"
        · apply DL.d_max1
          · walk_at "ev"
          · exact hm
        · exact hmem
      · show _ = chosenP t
        unfold chosenP
        rw [hm]

abbrev s_law : Stmt := topS 11
theorem sc_law : FnScope ["_law_script", "_law_task", "_law_due", "_law_found", "_law_best", "_law_more", "_law_after", "_law_points"] ["_law_script"] (defScope s_law) := ⟨rfl, rfl, rfl, by decide +kernel, rfl, by decide +kernel, by decide +kernel⟩
theorem ok_law (At : DefAt K mg "law" "law" s_law ["_law_script"]) (G_l_task_by : Fn1 P w K mg base 1 "_law_task_by" ["_law_xs"] (sp_l_task_by K)) (G_l_gives : Fn1 P w K mg base 1 "_law_gives" ["_law_task"] (sp_l_gives K)) (G_gives : Fn1 P w K mg base 1 "gives" ["task"] (sp_gives K)) (G_mark : Fn1 P w K mg base 2 "mark" ["task"] (sp_mark K)) (G_l_stream : Fn1 P w K mg base 1 "_law_stream" ["_law_cell", "_law_many"] (sp_l_stream K)) (G_l_cell_at : Fn1 P w K mg base 1 "_law_cell_at" ["_law_script", "_law_k"] (sp_l_cell_at K)) (G_l_whole : Fn1 P w K mg base 1 "_law_whole" ["_law_found"] (sp_l_whole K)) (G_l_mark : Fn1 P w K mg base 1 "_law_mark" ["_law_task"] (sp_l_mark K)) (G_chosen : Fn1 P w K mg base 2 "chosen" ["task"] (sp_chosen K)) (m_len : mg "len" = none) (m_max : mg "max" = none) (m_isinstance : mg "isinstance" = none) (m_list : mg "list" = none) (m_min : mg "min" = none) : Fn1 P w K mg base 3 "law" ["_law_script"] (sp_law K) := by
  have nd := sc_law.nd
  refine At.D sc_law (fun _ => rfl) (fun f cdv A outer s H E hr => ⟨_, (pss_cons (ps_asg (pe_fn G_l_task_by (hr.mono (by decide)) (by rfl) (pa_cons (pe_fn G_l_stream (hr.mono (by decide)) (by rfl) (pa_cons (pe_fn G_l_cell_at (hr.mono (by decide)) (by rfl) (pa_cons (pv 0) (pa_cons pe_int pa_nil))) (pa_cons pe_int pa_nil))) pa_nil)) (pg_name (i := 1) nd rfl (by first | exact Or.inl rfl | exact Or.inr rfl)))
      (pss_cons (ps_asg (pe_fn G_l_gives (hr.mono (by decide)) (by rfl) (pa_cons (pv 1) pa_nil)) (pg_name (i := 2) nd rfl (by first | exact Or.inl rfl | exact Or.inr rfl)))
      (pss_cons (ps_asg (pe_fn G_gives (hr.mono (by decide)) (by rfl) (pa_cons (pv 1) pa_nil)) (pg_name (i := 3) nd rfl (by first | exact Or.inl rfl | exact Or.inr rfl)))
      (pss_cons (ps_if (PW.pt (pw_or (pt_not (pt_truK (K := K) rfl (pe_callB (call_isi : CallR _ _ (rIsi K)) (by rfl) m_isinstance (by decide +kernel) (pa_cons (pv 3) (pa_cons (pe_bltn (v := .ty "list") (u := .type "list") (by rfl) m_list (by decide +kernel) rfl) pa_nil))))) (pw_or (pt_cmpR (op_neD hr.units : OpR _ _ (rNeD K)) (pv 3) (pv 2) (nomark _)) (pw_or1 (pt_cmpR (op_neD hr.units : OpR _ _ (rNeD K)) (pe_lc (own := [("_law_points", 7)]) (g := gName 7) (by rfl) nd (pi_U (pv 3)) (blkOk_by (own := [("_law_points", 7)]) (N := ["_law_script", "_law_task", "_law_due", "_law_found", "_law_best", "_law_more", "_law_after", "_law_points"]) (sc := defScope s_law) (by decide +kernel)) (fun _ _ _ _ _ => (pg_name (i := 7) nd rfl (by first | exact Or.inl rfl | exact Or.inr rfl))) (fun _ _ _ _ _ => (pts_one (pt_not (pt_truK (K := K) rfl (pe_fn G_l_whole (hr.mono (by decide)) (by rfl) (pa_cons (pv 7) pa_nil)))))) (fun _ _ _ _ _ => (pv 7))) (pe_lst pa_nil) (nomark _)))))) (pss_one (ps_ret pe_bl)) pss_nil)
      (pss_cons (ps_if (pt_cmpR (op_eqD hr.units : OpR _ _ (rEqD K)) (pv 2) (pe_lst pa_nil) (nomark _)) (pss_one (ps_ret (pe_and (pe_cmpR op_isU (pe_fn G_mark (hr.mono (by decide)) (by rfl) (pa_cons (pv 1) pa_nil)) pe_non (nomark _)) (pe_one (pe_cmpR op_isU (pe_fn G_chosen (hr.mono (by decide)) (by rfl) (pa_cons (pv 1) pa_nil)) pe_non (nomark _)))))) pss_nil)
      (pss_cons (ps_asg (pe_fn G_mark (hr.mono (by decide)) (by rfl) (pa_cons (pv 1) pa_nil)) (pg_name (i := 4) nd rfl (by first | exact Or.inl rfl | exact Or.inr rfl)))
      (pss_cons (ps_if (PW.pt (pw_or (pt_not (pt_truK (K := K) rfl (pe_fn G_l_whole (hr.mono (by decide)) (by rfl) (pa_cons (pv 4) pa_nil)))) (pw_or1 (pt_cmpR (op_neD hr.units : OpR _ _ (rNeD K)) (pv 4) (pe_fn G_l_mark (hr.mono (by decide)) (by rfl) (pa_cons (pv 1) pa_nil)) (nomark _))))) (pss_one (ps_ret pe_bl)) pss_nil)
      (pss_cons (ps_if (PW.pt (pw_or (pt_not (pt_truK (K := K) rfl (pe_fn G_l_whole (hr.mono (by decide)) (by rfl) (pa_cons (pe_fn G_chosen (hr.mono (by decide)) (by rfl) (pa_cons (pv 1) pa_nil)) pa_nil)))) (pw_or1 (pt_cmpR (op_neD hr.units : OpR _ _ (rNeD K)) (pe_bm PySem.F.plainAttrs_list PySem.F.slot_list_index PySem.F.type_list_index mt_index (pv 2) (pa_cons (pv 4) pa_nil)) (pe_fn G_chosen (hr.mono (by decide)) (by rfl) (pa_cons (pv 1) pa_nil)) (nomark _))))) (pss_one (ps_ret pe_bl)) pss_nil)
      (pss_cons (ps_if (pt_cmpR (op_eqD hr.units : OpR _ _ (rEqD K)) (pe_callB (c_len : CallR _ _ (DL.rLen K)) (by rfl) m_len PySem.boot_len (pa_cons (pe_ix (ix_U : IxR _ (rIxU K)) (pv 1) pe_int (fun _ _ => rfl)) pa_nil)) pe_int (nomark _)) (pss_one (ps_ret pe_bl)) pss_nil)
      (pss_cons (ps_asg (pe_op op_mod (pe_fn G_l_cell_at (hr.mono (by decide)) (by rfl) (pa_cons (pv 0) (pa_cons pe_int pa_nil))) (pe_op (op_addU : OpR _ _ (rAddU K)) (pe_ix (ix_U : IxR _ (rIxU K)) (pv 1) pe_int (fun _ _ => rfl)) pe_int)) (pg_name (i := 5) nd rfl (by first | exact Or.inl rfl | exact Or.inr rfl)))
      (pss_cons (ps_asg (pe_fn G_mark (hr.mono (by decide)) (by rfl) (pa_cons (pe_tup (pa_cons (pe_ix (ix_U : IxR _ (rIxU K)) (pv 1) pe_int (fun _ _ => rfl)) (pa_cons (pe_ix (ix_U : IxR _ (rIxU K)) (pv 1) pe_int (fun _ _ => rfl)) (pa_cons (pe_ix (ix_U : IxR _ (rIxU K)) (pv 1) pe_int (fun _ _ => rfl)) (pa_cons (pe_op (op_addU : OpR _ _ (rAddU K)) (pe_ix (ix_U : IxR _ (rIxU K)) (pv 1) pe_int (fun _ _ => rfl)) (pe_tup (pa_cons (pv 5) pa_nil))) pa_nil))))) pa_nil)) (pg_name (i := 6) nd rfl (by first | exact Or.inl rfl | exact Or.inr rfl)))
      (pss_one (ps_ret (pe_cmpR (op_eqD hr.units : OpR _ _ (rEqD K)) (pv 6) (pe_callB (c_max2 rfl) (by rfl) m_max (by decide +kernel) (pa_cons (pv 4) (pa_cons (pe_callB (c_min2 rfl) (by rfl) m_min (by decide +kernel) (pa_cons (pv 5) (pa_cons (pe_ix (ix_U : IxR _ (rIxU K)) (pv 1) pe_int (fun _ _ => rfl)) pa_nil))) pa_nil))) (nomark _))))))))))))))), fun a ha => ?_⟩)
  try dsimp only [cxOf]
  show EvS (Z0 K) _ [Sl.dat _, Sl.any, Sl.any, Sl.any, Sl.any, Sl.any, Sl.any, Sl.any] _
  rename List Int => ns
  have hl : ns.length ≤ 63 := ha
  have l16 := streamP_len (cellAt ns 0) 16
  have hok := taskBy_ok (streamP (cellAt ns 0) 16)
  apply DL.s_seq (ρ1 := [Sl.dat (.list (intsD ns)), Sl.dat (taskBy (streamP (cellAt ns 0) 16)).D, .any, .any, .any, .any, .any, .any])
  · apply DL.s_asg
    · apply c_l_task_by
      · walk_at "ev"
      · rw [l16]; decide
    · exact DL.g_name
    · exact rfl
  generalize taskBy (streamP (cellAt ns 0) 16) = t at *
  apply DL.s_seq (ρ1 := [Sl.dat (.list (intsD ns)), Sl.dat t.D, Sl.dat (.list (intsD (givesP t))), .any, .any, .any, .any, .any])
  · apply DL.s_asg
    · apply DL.EvL.dt
      apply c_l_gives (t := t)
      · walk_at "ev"
      · exact hok
    · exact DL.g_name
    · exact rfl
  apply DL.s_seq (ρ1 := [Sl.dat (.list (intsD ns)), Sl.dat t.D, Sl.dat (.list (intsD (givesP t))), Sl.dat (.list (intsD (givesP t))), .any, .any, .any, .any])
  · apply DL.s_asg
    · apply DL.EvL.dt
      apply c_gives (t := t)
      · walk_at "ev"
      · exact hok
    · exact DL.g_name
    · exact rfl
  apply DL.s_ifRet (b := false)
  · refine DL.EvT.is (a := !true || (false || false)) (DL.t_or (DL.t_not (by walk_at "ev")) (fun _ => DL.t_or ?_ (fun _ => ?_))) rfl
    · refine DL.EvT.is (DL.t_T (DL.d_op (by walk_at "ev") (by walk_at "ev") (DL.r_neD (sh_list (givesP t)) (sh_list (givesP t))))) ?_
      rw [eqv_list]
      simp
    · refine DL.EvT.is (DL.t_T (DL.d_op (x := .list []) (DL.EvD.is (DL.EvL.dt (DL.l_lc (ds := intsD (givesP t)) (fun _ => false) id (DL.i_seq (k := true) (by walk_at "ev")) ?_ ?_)) (by rw [keptD_none])) (by walk_at "ev") (DL.r_neD (y := .list []) (sh_list []) (sh_list [])))) (by decide)
      · have h := hok.l
        unfold givesP
        rw [intsD_len, List.length_map, List.length_range]
        omega
      · intro i d hd
        obtain ⟨x, _, rfl⟩ := intsD_get' hd
        refine ⟨_, DL.gw_name, ?_, fun h => by cases h⟩
        refine DL.EvT.is (a := !true) (DL.t_not ?_) rfl
        walk_at "ev"
  · intro h; cases h
  intro _
  apply DL.s_ifRet (b := decide (givesP t = []))
  · refine DL.EvT.is (DL.t_T (DL.d_op (y := .list []) (by walk_at "ev") (by walk_at "ev") (DL.r_eqD (sh_list (givesP t)) (sh_list [])))) ?_
    exact eqv_list (givesP t) []
  · intro hb
    have e : maxI (givesP t) = none := by rw [of_decide_eq_true hb]; rfl
    apply DL.s_ret
    · apply DL.d_and
      · apply DL.d_op
        · apply c_mark (t := t)
          · walk_at "ev"
          · exact hok
        · walk_at "ev"
        · exact DL.r_isN
      · intro _
        apply DL.d_op
        · apply c_chosen (t := t)
          · walk_at "ev"
          · exact hok
        · walk_at "ev"
        · exact DL.r_isN
    · show PyData.bool _ = PyData.bool _
      unfold chosenP
      rw [e]
      rfl
  intro hb
  have hne : givesP t ≠ [] := of_decide_eq_false hb
  obtain ⟨m, hm⟩ := maxI_some hne
  have hmem := maxI_mem hm
  have hch : chosenP t = .int ((givesP t).idxOf m : Nat) := by unfold chosenP; rw [hm]
  have hmk : optD (maxI (givesP t)) = .int m := by rw [hm]; rfl
  apply DL.s_seq (ρ1 := [Sl.dat (.list (intsD ns)), Sl.dat t.D, Sl.dat (.list (intsD (givesP t))), Sl.dat (.list (intsD (givesP t))), Sl.dat (.int m), .any, .any, .any])
  · apply DL.s_asg
    · refine DL.EvD.is (c_mark (t := t) ?_ hok) hmk
      walk_at "ev"
    · exact DL.g_name
    · exact rfl
  apply DL.s_ifRet (b := false)
  · refine DL.EvT.is (a := !true || false) (DL.t_or (DL.t_not (by walk_at "ev")) (fun _ => ?_)) rfl
    refine DL.EvT.is (DL.t_T (DL.d_op (by walk_at "ev") (DL.EvD.is (c_l_mark (t := t) (by walk_at "ev") hok) hmk) DL.r_neI)) ?_
    simp
  · intro h; cases h
  intro _
  apply DL.s_ifRet (b := false)
  · refine DL.EvT.is (a := !true || false) (DL.t_or (DL.t_not (DL.t_tru (c_l_whole (DL.EvD.is (c_chosen (t := t) (by walk_at "ev") hok) hch) trivial) DL.TruD.bl)) (fun _ => ?_)) rfl
    refine DL.EvT.is (DL.t_T (DL.d_op (DL.d_index (ns := givesP t) (by walk_at "ev") (by walk_at "ev") hmem) (DL.EvD.is (c_chosen (t := t) (by walk_at "ev") hok) hch) DL.r_neI)) ?_
    simp
  · intro h; cases h
  intro _
  apply DL.s_ifRet
  · walk_at "ev"
  · intro _
    apply DL.s_ret
    · walk_at "ev"
    · exact rfl
  intro h12
  have hl12 : t.tries.length ≤ 11 := by
    have h1 := of_decide_eq_false h12
    rw [intsD_len] at h1
    have h2 := hok.l
    omega
  have hm0 := hok.m0
  have x0 := Int.emod_nonneg (cellAt ns 1) (show t.most + 1 ≠ 0 by omega)
  have x1 := Int.emod_lt_of_pos (cellAt ns 1) (show 0 < t.most + 1 by omega)
  apply DL.s_seq (ρ1 := [Sl.dat (.list (intsD ns)), Sl.dat t.D, Sl.dat (.list (intsD (givesP t))), Sl.dat (.list (intsD (givesP t))), Sl.dat (.int m), Sl.dat (.int (cellAt ns 1 % (t.most + 1))), .any, .any])
  · apply DL.s_asg
    · walk_at "ev"
    · exact DL.g_name
    · exact rfl
  generalize cellAt ns 1 % (t.most + 1) = x at *
  have hok2 := addTry_ok hok hl12 x0 (show x ≤ t.most by omega)
  have htr : t.tries ≠ [] := fun z => hne (by unfold givesP; rw [z]; rfl)
  have hmx : optD (maxI (givesP (addTry t x))) = .int (max m (min x t.cap)) := by
    rw [gives_add htr, maxI_snoc, hm]
    rfl
  apply DL.s_seq (ρ1 := [Sl.dat (.list (intsD ns)), Sl.dat t.D, Sl.dat (.list (intsD (givesP t))), Sl.dat (.list (intsD (givesP t))), Sl.dat (.int m), Sl.dat (.int x), Sl.dat (.int (max m (min x t.cap))), .any])
  · apply DL.s_asg
    · refine DL.EvD.is (c_mark (t := addTry t x) (DL.EvD.is (x := .tuple [.int t.w, .int t.most, .int t.cap, .tuple (intsD t.tries ++ [.int x])]) ?_ ?_) hok2) hmx
      · walk_at "ev"
        all_goals trace_state
      · show _ = PyData.tuple [.int t.w, .int t.most, .int t.cap, .tuple (intsD (t.tries ++ [x]))]
        rw [intsD_app]
        rfl
    · exact DL.g_name
    · exact rfl
  apply DL.s_ret
  · walk_at "ev"
  · show PyData.bool _ = PyData.bool _
    simp
end
theorem all_mk {l : PySem.W.OpenLaw} {w : World} {K : PySem.W.Frag} {h : Heap} {mg : Str → Option Value} {fa : Addr} {f0 : Addr} {od0 an0 : Option Addr} {sl0 : Array (Option Value)} {oc0 kV0 dc0 pm0 cd0 ct0 : Value} {f1 : Addr} {od1 an1 : Option Addr} {sl1 : Array (Option Value)} {oc1 kV1 dc1 pm1 cd1 ct1 : Value} {f2 : Addr} {od2 an2 : Option Addr} {sl2 : Array (Option Value)} {oc2 kV2 dc2 pm2 cd2 ct2 : Value} {f3 : Addr} {od3 an3 : Option Addr} {sl3 : Array (Option Value)} {oc3 kV3 dc3 pm3 cd3 ct3 : Value} {f4 : Addr} {od4 an4 : Option Addr} {sl4 : Array (Option Value)} {oc4 kV4 dc4 pm4 cd4 ct4 : Value} {f5 : Addr} {od5 an5 : Option Addr} {sl5 : Array (Option Value)} {oc5 kV5 dc5 pm5 cd5 ct5 : Value} {f6 : Addr} {od6 an6 : Option Addr} {sl6 : Array (Option Value)} {oc6 kV6 dc6 pm6 cd6 ct6 : Value} {f7 : Addr} {od7 an7 : Option Addr} {sl7 : Array (Option Value)} {oc7 kV7 dc7 pm7 cd7 ct7 : Value} {f8 : Addr} {od8 an8 : Option Addr} {sl8 : Array (Option Value)} {oc8 kV8 dc8 pm8 cd8 ct8 : Value} {f9 : Addr} {od9 an9 : Option Addr} {sl9 : Array (Option Value)} {oc9 kV9 dc9 pm9 cd9 ct9 : Value}   (X : K.In h) (G : h.Ns mainGlobals mg) (hfa : mg "law" = some (.ref fa))
    (a0 : PySem.W.nsIn K mainGlobals "_law_task_by" = some (some (.ref f0))) (l0 : K.lookup f0 = some ⟨oc0, od0, .func (PySem.W.fnOf "_law_task_by" "_law_task_by" (defArgs s_l_task_by) (defBody s_l_task_by) (defScope s_l_task_by) .none kV0 dc0 pm0 an0 cd0 ct0), sl0⟩) (c0 : PySem.W.codeIn K cd0 "_law_task_by" = true) (k0 : PySem.W.keepIn K (.ref f0) = true)
    (a1 : PySem.W.nsIn K mainGlobals "_law_gives" = some (some (.ref f1))) (l1 : K.lookup f1 = some ⟨oc1, od1, .func (PySem.W.fnOf "_law_gives" "_law_gives" (defArgs s_l_gives) (defBody s_l_gives) (defScope s_l_gives) .none kV1 dc1 pm1 an1 cd1 ct1), sl1⟩) (c1 : PySem.W.codeIn K cd1 "_law_gives" = true) (k1 : PySem.W.keepIn K (.ref f1) = true)
    (a2 : PySem.W.nsIn K mainGlobals "gives" = some (some (.ref f2))) (l2 : K.lookup f2 = some ⟨oc2, od2, .func (PySem.W.fnOf "gives" "gives" (defArgs s_gives) (defBody s_gives) (defScope s_gives) .none kV2 dc2 pm2 an2 cd2 ct2), sl2⟩) (c2 : PySem.W.codeIn K cd2 "gives" = true) (k2 : PySem.W.keepIn K (.ref f2) = true)
    (a3 : PySem.W.nsIn K mainGlobals "mark" = some (some (.ref f3))) (l3 : K.lookup f3 = some ⟨oc3, od3, .func (PySem.W.fnOf "mark" "mark" (defArgs s_mark) (defBody s_mark) (defScope s_mark) .none kV3 dc3 pm3 an3 cd3 ct3), sl3⟩) (c3 : PySem.W.codeIn K cd3 "mark" = true) (k3 : PySem.W.keepIn K (.ref f3) = true)
    (a4 : PySem.W.nsIn K mainGlobals "_law_stream" = some (some (.ref f4))) (l4 : K.lookup f4 = some ⟨oc4, od4, .func (PySem.W.fnOf "_law_stream" "_law_stream" (defArgs s_l_stream) (defBody s_l_stream) (defScope s_l_stream) .none kV4 dc4 pm4 an4 cd4 ct4), sl4⟩) (c4 : PySem.W.codeIn K cd4 "_law_stream" = true) (k4 : PySem.W.keepIn K (.ref f4) = true)
    (a5 : PySem.W.nsIn K mainGlobals "_law_cell_at" = some (some (.ref f5))) (l5 : K.lookup f5 = some ⟨oc5, od5, .func (PySem.W.fnOf "_law_cell_at" "_law_cell_at" (defArgs s_l_cell_at) (defBody s_l_cell_at) (defScope s_l_cell_at) .none kV5 dc5 pm5 an5 cd5 ct5), sl5⟩) (c5 : PySem.W.codeIn K cd5 "_law_cell_at" = true) (k5 : PySem.W.keepIn K (.ref f5) = true)
    (a6 : PySem.W.nsIn K mainGlobals "_law_whole" = some (some (.ref f6))) (l6 : K.lookup f6 = some ⟨oc6, od6, .func (PySem.W.fnOf "_law_whole" "_law_whole" (defArgs s_l_whole) (defBody s_l_whole) (defScope s_l_whole) .none kV6 dc6 pm6 an6 cd6 ct6), sl6⟩) (c6 : PySem.W.codeIn K cd6 "_law_whole" = true) (k6 : PySem.W.keepIn K (.ref f6) = true)
    (a7 : PySem.W.nsIn K mainGlobals "_law_mark" = some (some (.ref f7))) (l7 : K.lookup f7 = some ⟨oc7, od7, .func (PySem.W.fnOf "_law_mark" "_law_mark" (defArgs s_l_mark) (defBody s_l_mark) (defScope s_l_mark) .none kV7 dc7 pm7 an7 cd7 ct7), sl7⟩) (c7 : PySem.W.codeIn K cd7 "_law_mark" = true) (k7 : PySem.W.keepIn K (.ref f7) = true)
    (a8 : PySem.W.nsIn K mainGlobals "chosen" = some (some (.ref f8))) (l8 : K.lookup f8 = some ⟨oc8, od8, .func (PySem.W.fnOf "chosen" "chosen" (defArgs s_chosen) (defBody s_chosen) (defScope s_chosen) .none kV8 dc8 pm8 an8 cd8 ct8), sl8⟩) (c8 : PySem.W.codeIn K cd8 "chosen" = true) (k8 : PySem.W.keepIn K (.ref f8) = true)
    (a9 : PySem.W.nsIn K mainGlobals "law" = some (some (.ref f9))) (l9 : K.lookup f9 = some ⟨oc9, od9, .func (PySem.W.fnOf "law" "law" (defArgs s_law) (defBody s_law) (defScope s_law) .none kV9 dc9 pm9 an9 cd9 ct9), sl9⟩) (c9 : PySem.W.codeIn K cd9 "law" = true) (k9 : PySem.W.keepIn K (.ref f9) = true)
    (z_range : PySem.W.nsIn K mainGlobals "range" = some none)
    (z_tuple : PySem.W.nsIn K mainGlobals "tuple" = some none)
    (z_len : PySem.W.nsIn K mainGlobals "len" = some none)
    (z_min : PySem.W.nsIn K mainGlobals "min" = some none)
    (z_enumerate : PySem.W.nsIn K mainGlobals "enumerate" = some none)
    (z_max : PySem.W.nsIn K mainGlobals "max" = some none)
    (z_isinstance : PySem.W.nsIn K mainGlobals "isinstance" = some none)
    (z_int : PySem.W.nsIn K mainGlobals "int" = some none)
    (z_bool : PySem.W.nsIn K mainGlobals "bool" = some none)
    (z_list : PySem.W.nsIn K mainGlobals "list" = some none)
    : ∃ fd : FuncData, (∀ (s : Shared) (v : Value), BindsTo s fd ⟨[v], []⟩ [("_law_script", v)]) ∧ ∀ base : Heap, K.In base → base.Ns mainGlobals mg → FnOk l.prog w K mg base CX0 3 fa fd ["_law_script"] (DL.spLaw K) := by
  have m_range := PySem.W.mg_none_of X G z_range
  have m_tuple := PySem.W.mg_none_of X G z_tuple
  have m_len := PySem.W.mg_none_of X G z_len
  have m_min := PySem.W.mg_none_of X G z_min
  have m_enumerate := PySem.W.mg_none_of X G z_enumerate
  have m_max := PySem.W.mg_none_of X G z_max
  have m_isinstance := PySem.W.mg_none_of X G z_isinstance
  have m_int := PySem.W.mg_none_of X G z_int
  have m_bool := PySem.W.mg_none_of X G z_bool
  have m_list := PySem.W.mg_none_of X G z_list
  have D_l_task_by : DefAt K mg "_law_task_by" "_law_task_by" s_l_task_by ["_law_xs"] := def1 X G (fun _ _ _ _ _ _ us hl => match us, hl with | [_], _ => rfl) a0 l0 c0 k0
  have D_l_gives : DefAt K mg "_law_gives" "_law_gives" s_l_gives ["_law_task"] := def1 X G (fun _ _ _ _ _ _ us hl => match us, hl with | [_], _ => rfl) a1 l1 c1 k1
  have D_gives : DefAt K mg "gives" "gives" s_gives ["task"] := def1 X G (fun _ _ _ _ _ _ us hl => match us, hl with | [_], _ => rfl) a2 l2 c2 k2
  have D_mark : DefAt K mg "mark" "mark" s_mark ["task"] := def1 X G (fun _ _ _ _ _ _ us hl => match us, hl with | [_], _ => rfl) a3 l3 c3 k3
  have D_l_stream : DefAt K mg "_law_stream" "_law_stream" s_l_stream ["_law_cell", "_law_many"] := def1 X G (fun _ _ _ _ _ _ us hl => match us, hl with | [_, _], _ => rfl) a4 l4 c4 k4
  have D_l_cell_at : DefAt K mg "_law_cell_at" "_law_cell_at" s_l_cell_at ["_law_script", "_law_k"] := def1 X G (fun _ _ _ _ _ _ us hl => match us, hl with | [_, _], _ => rfl) a5 l5 c5 k5
  have D_l_whole : DefAt K mg "_law_whole" "_law_whole" s_l_whole ["_law_found"] := def1 X G (fun _ _ _ _ _ _ us hl => match us, hl with | [_], _ => rfl) a6 l6 c6 k6
  have D_l_mark : DefAt K mg "_law_mark" "_law_mark" s_l_mark ["_law_task"] := def1 X G (fun _ _ _ _ _ _ us hl => match us, hl with | [_], _ => rfl) a7 l7 c7 k7
  have D_chosen : DefAt K mg "chosen" "chosen" s_chosen ["task"] := def1 X G (fun _ _ _ _ _ _ us hl => match us, hl with | [_], _ => rfl) a8 l8 c8 k8
  have D_law : DefAt K mg "law" "law" s_law ["_law_script"] := def1 X G (fun _ _ _ _ _ _ us hl => match us, hl with | [_], _ => rfl) a9 l9 c9 k9
  refine DL.fn_law D_law hfa fun base => ?_
  have G_l_task_by := ok_l_task_by (P := l.prog) (w := w) (K := K) (mg := mg) (base := base) D_l_task_by m_range m_tuple
  have G_l_gives := ok_l_gives (P := l.prog) (w := w) (K := K) (mg := mg) (base := base) D_l_gives m_range m_len
  have G_gives := ok_gives (P := l.prog) (w := w) (K := K) (mg := mg) (base := base) D_gives m_min m_enumerate
  have G_mark := ok_mark (P := l.prog) (w := w) (K := K) (mg := mg) (base := base) D_mark G_gives m_max
  have G_l_stream := ok_l_stream (P := l.prog) (w := w) (K := K) (mg := mg) (base := base) D_l_stream m_range
  have G_l_cell_at := ok_l_cell_at (P := l.prog) (w := w) (K := K) (mg := mg) (base := base) D_l_cell_at m_len
  have G_l_whole := ok_l_whole (P := l.prog) (w := w) (K := K) (mg := mg) (base := base) D_l_whole m_isinstance m_int m_bool
  have G_l_mark := ok_l_mark (P := l.prog) (w := w) (K := K) (mg := mg) (base := base) D_l_mark m_range m_len
  have G_chosen := ok_chosen (P := l.prog) (w := w) (K := K) (mg := mg) (base := base) D_chosen G_gives m_max
  have G_law := ok_law (P := l.prog) (w := w) (K := K) (mg := mg) (base := base) D_law G_l_task_by G_l_gives G_gives G_mark G_l_stream G_l_cell_at G_l_whole G_l_mark G_chosen m_len m_max m_isinstance m_list m_min
  exact G_law
end k02
open PySem PySem.W PyProof.Rows
set_option maxHeartbeats 0 in
theorem PySem.Challenge.cw_gradewish_k02_marks_holds : PySem.Challenge.rw_gradewish_k02_marks.Holds := by
  w_on; o_law; k_head; (case hw => w_witness2)
  k_fill
  refine L2.walk_of (l := PySem.Challenge.rw_gradewish_k02_marks) (n := 63) (k := 3) (x := "_law_script") (CX := fun _ => L2.CX0) (sp := fun w => DL.spLaw _) rfl (by decide) rfl ⟨rfl, by decide, by decide⟩ (fun w h Y => PySem.W.kIn_of Y) ?F (fun _ _ a ns hl _ hS => DL.law_hsp hl hS) (fun _ _ _ _ _ h => h)
  case F =>
    intro w mg fa h KX G hmg
    refine' k02.all_mk KX G hmg ?a0 ?l0 ?c0 ?k0 ?a1 ?l1 ?c1 ?k1 ?a2 ?l2 ?c2 ?k2 ?a3 ?l3 ?c3 ?k3 ?a4 ?l4 ?c4 ?k4 ?a5 ?l5 ?c5 ?k5 ?a6 ?l6 ?c6 ?k6 ?a7 ?l7 ?c7 ?k7 ?a8 ?l8 ?c8 ?k8 ?a9 ?l9 ?c9 ?k9 ?z_range ?z_tuple ?z_len ?z_min ?z_enumerate ?z_max ?z_isinstance ?z_int ?z_bool ?z_list
    (case a0 => k_is); (case l0 => k_is); (case c0 => k_is); (case k0 => k_is); (case a1 => k_is); (case l1 => k_is); (case c1 => k_is); (case k1 => k_is); (case a2 => k_is); (case l2 => k_is); (case c2 => k_is); (case k2 => k_is); (case a3 => k_is); (case l3 => k_is); (case c3 => k_is); (case k3 => k_is); (case a4 => k_is); (case l4 => k_is); (case c4 => k_is); (case k4 => k_is); (case a5 => k_is); (case l5 => k_is); (case c5 => k_is); (case k5 => k_is); (case a6 => k_is); (case l6 => k_is); (case c6 => k_is); (case k6 => k_is); (case a7 => k_is); (case l7 => k_is); (case c7 => k_is); (case k7 => k_is); (case a8 => k_is); (case l8 => k_is); (case c8 => k_is); (case k8 => k_is); (case a9 => k_is); (case l9 => k_is); (case c9 => k_is); (case k9 => k_is); (case z_range => k_is); (case z_tuple => k_is); (case z_len => k_is); (case z_min => k_is); (case z_enumerate => k_is); (case z_max => k_is); (case z_isinstance => k_is); (case z_int => k_is); (case z_bool => k_is); (case z_list => k_is)
