import PyProof.Rows.All
import Wide.All
import OpenK.AllK
import Wide.FinOn
import HandS.ForMost
import HandS.IsInst
import HandS.Conv
import HandS.Star
import HandS.Flow
import HandS.Style
import PySem.Challenge.RW_skyframes_k02_frames
set_option Elab.async false
set_option linter.all false
set_option maxRecDepth 100000
set_option maxHeartbeats 4000000
/-! Heaps: tuples stay, what is not named stays; data made of tuples; fields by their places. -/
namespace Sky
open PySem PySem.Spec PyProof.Rows L2

/-- all but what stands at M is as it was -/
def Keep (M : List Addr) (H H' : Hp) : Prop := ∀ b o, b ∉ M → H b = some o → H' b = some o
/-- tuples stay -/
def TSm (H H' : Hp) : Prop := ∀ a xs, H a = some (.tup xs) → H' a = some (.tup xs)
theorem Keep.refl (M : List Addr) (H : Hp) : Keep M H H := fun _ _ _ h => h
theorem Keep.trans {M : List Addr} {H H1 H2 : Hp} (a : Keep M H H1) (b : Keep M H1 H2) : Keep M H H2 := fun c o n h => b c o n (a c o n h)
theorem Keep.of_same {M : List Addr} {H H' : Hp} (a : Same H H') : Keep M H H' := fun c o _ h => a c o h
theorem Keep.mono {M N : List Addr} {H H' : Hp} (a : Keep M H H') (h : ∀ m, m ∈ M → m ∈ N) : Keep N H H' := fun c o n q => a c o (fun z => n (h c z)) q
theorem Keep.same {M : List Addr} {S H H' : Hp} (k : Keep M H H') (s : Same S H) (h : ∀ m ∈ M, S m = none) : Same S H' := fun b o e => by
  refine k b o (fun hb => ?_) (s b o e)
  rw [h b hb] at e
  cases e
theorem Keep.nil {H H' : Hp} (k : Keep [] H H') : Same H H' := fun b o e => k b o (by simp) e
theorem keep_upd {M : List Addr} {H H' : Hp} {a : Addr} {o : HO} (k : Keep M H H') (h : a ∈ M) : Keep M H (upd H' a o) := fun b u n e => by
  rw [upd_ne (show b ≠ a from fun z => n (by rw [z]; exact h))]
  exact k b u n e
theorem keep_new {M : List Addr} {H H' : Hp} {a : Addr} {o : HO} (k : Keep M H H') (h : H a = none) : Keep M H (upd H' a o) := fun b u n e => by
  rw [upd_ne (ne_of_none e h)]
  exact k b u n e
/-- a new object, fresh in the heap just ahead of it -/
theorem keep_new' {M : List Addr} {H H' : Hp} {a : Addr} {o : HO} (k : Keep M H H') (h : H' a = none) : Keep M H (upd H' a o) := fun b u n e => by
  rw [upd_ne (ne_of_none (k b u n e) h)]
  exact k b u n e
/-- a changed object that was fresh at the start -/
theorem keep_mut {M : List Addr} {H H' : Hp} {a : Addr} {o : HO} (k : Keep M H H') (h : H a = none) : Keep M H (upd H' a o) := keep_new k h
theorem same_new {H H' : Hp} {a : Addr} {o : HO} (k : Same H H') (h : H' a = none) : Same H (upd H' a o) := fun b u e => by
  rw [upd_ne (ne_of_none (k b u e) h)]
  exact k b u e
theorem same_mut {H H' : Hp} {a : Addr} {o : HO} (k : Same H H') (h : H a = none) : Same H (upd H' a o) := fun b u e => by
  rw [upd_ne (ne_of_none e h)]
  exact k b u e
theorem TSm.refl (H : Hp) : TSm H H := fun _ _ h => h
theorem TSm.trans {H H1 H2 : Hp} (a : TSm H H1) (b : TSm H1 H2) : TSm H H2 := fun c o h => b c o (a c o h)
theorem TSm.of_same {H H' : Hp} (a : Same H H') : TSm H H' := fun c o h => a c _ h
/-- no tuple -/
def NoT (H : Hp) (a : Addr) : Prop := ∀ xs, H a ≠ some (.tup xs)
theorem NoT.none {H : Hp} {a : Addr} (h : H a = none) : NoT H a := fun xs e => by
  rw [h] at e
  cases e
theorem NoT.lst {H : Hp} {a : Addr} {xs : List V} (h : H a = some (.lst xs)) : NoT H a := fun ys e => by
  rw [h] at e
  cases e
theorem NoT.dK {H : Hp} {a : Addr} {xs : List (Key × V)} (h : H a = some (.dK xs)) : NoT H a := fun ys e => by
  rw [h] at e
  cases e
theorem NoT.dT {H : Hp} {a : Addr} {xs : List (List Key × V)} (h : H a = some (.dT xs)) : NoT H a := fun ys e => by
  rw [h] at e
  cases e
theorem NoT.ins {H : Hp} {a C dx : Addr} {fs : List (Str × V)} (h : H a = some (.ins C dx fs)) : NoT H a := fun ys e => by
  rw [h] at e
  cases e
theorem ts_upd {H H' : Hp} {a : Addr} {o : HO} (k : TSm H H') (h : NoT H' a) : TSm H (upd H' a o) := fun b u e => by
  have q := k b u e
  rw [upd_ne (show b ≠ a from fun z => h u (by rw [← z]; exact q))]
  exact q
theorem Keep.ts {M : List Addr} {H H' : Hp} (k : Keep M H H') (h : ∀ m ∈ M, NoT H m) : TSm H H' := fun a xs e => k a _ (fun z => h a z xs e) e
/-- an address that is there is not a new one -/
theorem ne_new {H : Hp} {a b : Addr} {o : HO} (h : H a = some o) (h' : H b = none) : a ≠ b := ne_of_none h h'

/-! ### data made of tuples -/
mutual
inductive TD (H : Hp) : V → PyData → Prop
  | non : TD H .non .none
  | bl (b : Bool) : TD H (.bl b) (.bool b)
  | int (i : Int) : TD H (.int i) (.int i)
  | str (x : Str) : TD H (.str x) (.str x)
  | tup {a : Addr} {xs : List V} {ds : List PyData} : H a = some (.tup xs) → TDs H xs ds → TD H (.ref a) (.tuple ds)
inductive TDs (H : Hp) : List V → List PyData → Prop
  | nil : TDs H [] []
  | cons {v : V} {vs : List V} {d : PyData} {ds : List PyData} : TD H v d → TDs H vs ds → TDs H (v :: vs) (d :: ds)
end
mutual
theorem TD.mono {H H' : Hp} (k : TSm H H') : ∀ {d : PyData} {v : V}, TD H v d → TD H' v d
  | _, _, .non => .non
  | _, _, .bl b => .bl b
  | _, _, .int i => .int i
  | _, _, .str x => .str x
  | _, _, .tup h t => .tup (k _ _ h) (TDs.mono k t)
theorem TDs.mono {H H' : Hp} (k : TSm H H') : ∀ {ds : List PyData} {vs : List V}, TDs H vs ds → TDs H' vs ds
  | _, _, .nil => .nil
  | _, _, .cons h t => .cons (TD.mono k h) (TDs.mono k t)
end
mutual
theorem TD.dp {K : PySem.W.Frag} {H : Hp} : ∀ {d : PyData} {v : V}, TD H v d → Dp K H v d
  | _, _, .non => .non
  | _, _, .bl b => .bl b
  | _, _, .int i => .int i
  | _, _, .str x => .str x
  | _, _, .tup h t => .tup (SqT.of h) (TDs.dp t)
theorem TDs.dp {K : PySem.W.Frag} {H : Hp} : ∀ {ds : List PyData} {vs : List V}, TDs H vs ds → DpAll K H vs ds
  | _, _, .nil => .nil
  | _, _, .cons h t => .cons (TD.dp h) (TDs.dp t)
end
theorem TDs.length {H : Hp} : ∀ {vs : List V} {ds : List PyData}, TDs H vs ds → vs.length = ds.length
  | _, _, .nil => rfl
  | _, _, .cons _ t => by simp [TDs.length t]
theorem TDs.app {H : Hp} : ∀ {vs us : List V} {ds es : List PyData}, TDs H vs ds → TDs H us es → TDs H (vs ++ us) (ds ++ es)
  | _, _, _, _, .nil, s => s
  | _, _, _, _, .cons h t, s => .cons h (TDs.app t s)
theorem TDs.get {H : Hp} : ∀ {vs : List V} {ds : List PyData} {i : Nat} {v : V}, TDs H vs ds → vs[i]? = some v → ∃ d, ds[i]? = some d ∧ TD H v d
  | _, _, _, _, .nil, e => by simp at e
  | _, _, 0, _, .cons h _, e => by simp at e; subst e; exact ⟨_, rfl, h⟩
  | _, _, i + 1, _, .cons _ t, e => by
    obtain ⟨d, h1, h2⟩ := TDs.get (i := i) t (by simpa using e)
    exact ⟨d, by simpa using h1, h2⟩
theorem TDs.getD {H : Hp} : ∀ {vs : List V} {ds : List PyData} {i : Nat} {d : PyData}, TDs H vs ds → ds[i]? = some d → ∃ v, vs[i]? = some v ∧ TD H v d
  | _, _, _, _, .nil, e => by simp at e
  | _, _, 0, _, .cons h _, e => by simp at e; subst e; exact ⟨_, rfl, h⟩
  | _, _, i + 1, _, .cons _ t, e => by
    obtain ⟨d, h1, h2⟩ := TDs.getD (i := i) t (by simpa using e)
    exact ⟨d, by simpa using h1, h2⟩
theorem TDs.ints {H : Hp} : ∀ (ns : List Int), TDs H (ns.map V.int) (ns.map PyData.int)
  | [] => .nil
  | n :: r => .cons (.int n) (TDs.ints r)
theorem TDs.one {H : Hp} {v : V} {d : PyData} (h : TD H v d) : TDs H [v] [d] := .cons h .nil
theorem TDs.of_ints {H : Hp} : ∀ {ns : List Int} {vs : List V}, TDs H vs (ns.map PyData.int) → vs = ns.map V.int
  | [], _, .nil => rfl
  | n :: r, _, .cons h t => by
    cases h
    rw [TDs.of_ints t]
    rfl
/-- an int's | None's data -/
def optD : Option Nat → PyData
  | none => .none
  | some n => .int n
def optV : Option Nat → V
  | none => .non
  | some n => .int n
theorem TD.opt {H : Hp} : ∀ o : Option Nat, TD H (optV o) (optD o)
  | none => .non
  | some n => .int n
/-- a telling's data -/
abbrev tlD (t : List Int) : PyData := .tuple (t.map PyData.int)
theorem TD.tl {H : Hp} {a : Addr} {t : List Int} (h : H a = some (.tup (t.map V.int))) : TD H (.ref a) (tlD t) := .tup h (TDs.ints t)
theorem TD.of_tl {H : Hp} {v : V} {t : List Int} (h : TD H v (tlD t)) : ∃ a, v = .ref a ∧ H a = some (.tup (t.map V.int)) := by
  cases h with
  | tup h t =>
    have e := TDs.of_ints t
    subst e
    exact ⟨_, rfl, h⟩

mutual
theorem dp_same {K : PySem.W.Frag} {H H' : Hp} (k : Same H H') : ∀ {d : PyData} {v : V}, Dp K H v d → Dp K H' v d
  | _, _, .non => .non
  | _, _, .bl b => .bl b
  | _, _, .int i => .int i
  | _, _, .str x => .str x
  | _, _, .lst h t => .lst (k.seq h) (dps_same k t)
  | _, _, .tup h t => .tup (by
      rcases h with (h | ⟨o, h⟩) | h
      · exact .inl (.inl (k _ _ h))
      · exact .inl (.inr ⟨o, k _ _ h⟩)
      · exact .inr h) (dps_same k t)
theorem dps_same {K : PySem.W.Frag} {H H' : Hp} (k : Same H H') : ∀ {ds : List PyData} {vs : List V}, DpAll K H vs ds → DpAll K H' vs ds
  | _, _, .nil => .nil
  | _, _, .cons h t => .cons (dp_same k h) (dps_same k t)
end
theorem DpAll.len {K : PySem.W.Frag} {H : Hp} : ∀ {vs : List V} {ds : List PyData}, DpAll K H vs ds → vs.length = ds.length
  | _, _, .nil => rfl
  | _, _, .cons _ t => by simp [DpAll.len t]
theorem DpAll.at {K : PySem.W.Frag} {H : Hp} : ∀ {vs : List V} {ds : List PyData} {i : Nat} {d : PyData}, DpAll K H vs ds → ds[i]? = some d → ∃ v, vs[i]? = some v ∧ Dp K H v d
  | _, _, _, _, .nil, e => by simp at e
  | _, _, 0, _, .cons h _, e => by simp at e; subst e; exact ⟨_, rfl, h⟩
  | _, _, i + 1, _, .cons _ t, e => by
    obtain ⟨v, h1, h2⟩ := DpAll.at (i := i) t (by simpa using e)
    exact ⟨v, by simpa using h1, h2⟩
/-- a value's type by its data -/
def tyN : PyData → String
  | .none => "NoneType"
  | .bool _ => "bool"
  | .int _ => "int"
  | .str _ => "str"
  | .list _ => "list"
  | .tuple _ => "tuple"
  | .dict _ => "dict"
theorem dp_ty {K : PySem.W.Frag} {H : Hp} {v : V} {d : PyData} (h : Dp K H v d) : TyX K H v (.type (tyN d)) := by
  cases h with
  | non => exact .base .non
  | bl b => exact .base (.bl b)
  | int i => exact .base (.int i)
  | str x => exact .base (.str x)
  | lst h t =>
    rcases h with (h | ⟨o, h⟩) | ⟨o, its, n, hk, hc, _⟩
    · exact .base (.lst h)
    · exact .base (.frz h)
    · exact .kList hk hc
  | tup h t =>
    rcases h with (h | ⟨o, h⟩) | ⟨o, its, n, hk, hc, _⟩
    · exact .base (.tup h)
    · exact .fTuple h
    · exact .kTuple hk hc
/-- data of so many levels, no level too long -/
def DOk : Nat → PyData → Prop
  | 0, d => (d = .none ∨ (∃ i, d = .int i) ∨ (∃ b, d = .bool b) ∨ ∃ x, d = .str x)
  | n + 1, d => (d = .none ∨ (∃ i, d = .int i) ∨ (∃ b, d = .bool b) ∨ ∃ x, d = .str x) ∨ ∃ ds : List PyData, (d = .list ds ∨ d = .tuple ds) ∧ ds.length ≤ 10000000 ∧ ∀ e ∈ ds, DOk n e
theorem DOk.sc {n : Nat} {d : PyData} (h : d = .none ∨ (∃ i, d = .int i) ∨ (∃ b, d = .bool b) ∨ ∃ x, d = .str x) : DOk n d := by
  cases n with
  | zero => exact h
  | succ n => exact .inl h
theorem DOk.int {n : Nat} (i : Int) : DOk n (.int i) := .sc (.inr (.inl ⟨i, rfl⟩))
theorem DOk.none {n : Nat} : DOk n .none := .sc (.inl rfl)
theorem DOk.tuple {n : Nat} {ds : List PyData} (l : ds.length ≤ 10000000) (h : ∀ e ∈ ds, DOk n e) : DOk (n + 1) (.tuple ds) := .inr ⟨ds, .inr rfl, l, h⟩
theorem DOk.list {n : Nat} {ds : List PyData} (l : ds.length ≤ 10000000) (h : ∀ e ∈ ds, DOk n e) : DOk (n + 1) (.list ds) := .inr ⟨ds, .inl rfl, l, h⟩
theorem DOk.opt {n : Nat} (o : Option Nat) : DOk n (optD o) := by
  cases o with
  | none => exact DOk.none
  | some x => exact DOk.int _
theorem DOk.tl {n : Nat} {t : List Int} (l : t.length ≤ 10000000) : DOk (n + 1) (tlD t) := DOk.tuple (by rw [List.length_map]; exact l) fun e he => by
  obtain ⟨x, _, rfl⟩ := List.mem_map.mp he
  exact DOk.int x
theorem kit2F {K : PySem.W.Frag} {a b c : String} (h1 : kitB a b = some false) (h2 : kitB a c = some false) : PySem.W.kitAny K (.type a) [.type b, .type c] = some false :=
  kitAny_cons (kit_ty h1) (fun _ => kitAny_cons (kit_ty h2) (fun _ => kitAny_nil) (fun z => nomatch z)) (fun z => nomatch z)
theorem kit2T {K : PySem.W.Frag} {a b c : String} (h1 : kitB a b = some true) : PySem.W.kitAny K (.type a) [.type b, .type c] = some true :=
  kitAny_cons (kit_ty h1) (fun z => nomatch z) (fun _ => rfl)
theorem kit2T' {K : PySem.W.Frag} {a b c : String} (h1 : kitB a b = some false) (h2 : kitB a c = some true) : PySem.W.kitAny K (.type a) [.type b, .type c] = some true :=
  kitAny_cons (kit_ty h1) (fun _ => kitAny_cons (kit_ty h2) (fun z => nomatch z) (fun _ => rfl)) (fun _ => rfl)

/-! ### fields by their places -/
theorem lookup_zip : ∀ (ks : List Str) (vs : List V) (i : Nat) (f : Str), ks.Nodup → ks.length = vs.length → ks[i]? = some f → (ks.zip vs).lookup f = vs[i]?
  | [], _, _, _, _, _, h => by simp at h
  | k :: ks, [], _, _, _, h, _ => by simp at h
  | k :: ks, v :: vs, 0, f, _, _, h => by
    simp at h
    subst h
    simp [List.lookup]
  | k :: ks, v :: vs, i + 1, f, nd, l, h => by
    have nd' := List.nodup_cons.mp nd
    have hm : f ∈ ks := List.mem_of_getElem? (by simpa using h)
    have ne : (f == k) = false := by
      rw [beq_eq_false_iff_ne]
      intro e
      exact nd'.1 (e ▸ hm)
    show List.lookup f ((k, v) :: ks.zip vs) = _
    rw [List.lookup_cons, ne]
    simpa using lookup_zip ks vs i f nd'.2 (by simpa using l) (by simpa using h)
theorem lookup_zip_none : ∀ (ks : List Str) (vs : List V) (f : Str), f ∉ ks → (ks.zip vs).lookup f = none
  | [], _, _, _ => by simp
  | k :: ks, [], _, _ => by simp
  | k :: ks, v :: vs, f, h => by
    have ne : (f == k) = false := by
      rw [beq_eq_false_iff_ne]
      intro e
      exact h (e ▸ List.mem_cons_self ..)
    show List.lookup f ((k, v) :: ks.zip vs) = _
    rw [List.lookup_cons, ne]
    exact lookup_zip_none ks vs f fun z => h (List.mem_cons_of_mem _ z)
theorem putF_zip : ∀ (ks : List Str) (vs : List V) (i : Nat) (f : Str) (x : V), ks.Nodup → ks.length = vs.length → ks[i]? = some f → putF f x (ks.zip vs) = ks.zip (vs.set i x)
  | [], _, _, _, _, _, _, h => by simp at h
  | k :: ks, [], _, _, _, _, h, _ => by simp at h
  | k :: ks, v :: vs, 0, f, x, _, _, h => by
    simp at h
    subst h
    show (if k = k then (k, x) :: ks.zip vs else _) = _
    rw [if_pos rfl]
    rfl
  | k :: ks, v :: vs, i + 1, f, x, nd, l, h => by
    have nd' := List.nodup_cons.mp nd
    have hm : f ∈ ks := List.mem_of_getElem? (by simpa using h)
    have ne : ¬ k = f := fun e => nd'.1 (e ▸ hm)
    show (if k = f then (k, x) :: ks.zip vs else (k, v) :: putF f x (ks.zip vs)) = _
    rw [if_neg ne, putF_zip ks vs i f x nd'.2 (by simpa using l) (by simpa using h)]
    rfl
theorem putF_zip_new : ∀ (ks : List Str) (vs : List V) (f : Str) (x : V), ks.length = vs.length → f ∉ ks → putF f x (ks.zip vs) = (ks ++ [f]).zip (vs ++ [x])
  | [], [], f, x, _, _ => rfl
  | [], v :: vs, _, _, h, _ => by simp at h
  | k :: ks, [], _, _, h, _ => by simp at h
  | k :: ks, v :: vs, f, x, l, h => by
    have ne : ¬ k = f := fun e => h (e ▸ List.mem_cons_self ..)
    show (if k = f then (k, x) :: ks.zip vs else (k, v) :: putF f x (ks.zip vs)) = _
    rw [if_neg ne, putF_zip_new ks vs f x (by simpa using l) fun z => h (List.mem_cons_of_mem _ z)]
    rfl
theorem putF_take {ks : List Str} {vs : List V} {i : Nat} {f : Str} {x : V} (nd : ks.Nodup) (h : ks[i]? = some f) (l : vs.length = i) : putF f x ((ks.take i).zip vs) = (ks.take (i + 1)).zip (vs ++ [x]) := by
  have hi : i < ks.length := (List.getElem?_eq_some_iff.mp h).1
  rw [List.take_add_one, h]
  refine putF_zip_new (ks.take i) vs f x ?_ ?_
  · rw [List.length_take, l]
    omega
  · intro hm
    obtain ⟨j, hj, e⟩ := List.mem_take_iff_getElem.mp hm
    have h1 : ks[j]? = some f := by
      rw [List.getElem?_eq_getElem (by omega), e]
    have := nodup_ix nd h1 h
    omega
theorem Keep.join {M N : List Addr} {H0 Hb H : Hp} (a : Keep M H0 Hb) (b : Keep N Hb H) (h : ∀ n ∈ N, n ∈ M ∨ H0 n = none) : Keep M H0 H := fun c o n e => by
  refine b c o (fun hc => ?_) (a c o n e)
  rcases h c hc with q | q
  · exact n q
  · rw [q] at e
    cases e
theorem fresh_of {M : List Addr} {H H1 : Hp} {b : Addr} (k : Keep M H H1) (h : ∀ m ∈ M, ∃ o, H1 m = some o) (n : H1 b = none) : H b = none := by
  cases e : H b with
  | none => rfl
  | some o =>
    by_cases e1 : b ∈ M
    · obtain ⟨u, hu⟩ := h b e1
      rw [hu] at n
      cases n
    · rw [k _ _ e1 e] at n
      cases n
/-- what was there is there -/
def Dom (H H' : Hp) : Prop := ∀ b, H' b = none → H b = none
theorem Dom.refl (H : Hp) : Dom H H := fun _ h => h
theorem Dom.trans {H H1 H2 : Hp} (a : Dom H H1) (b : Dom H1 H2) : Dom H H2 := fun c h => a c (b c h)
theorem dom_upd (H : Hp) (a : Addr) (o : HO) : Dom H (upd H a o) := fun b h => by
  by_cases e : b = a
  · rw [e, upd_same] at h
    cases h
  · rw [upd_ne e] at h
    exact h
theorem Dom.upd {H H' : Hp} (k : Dom H H') (a : Addr) (o : HO) : Dom H (L2.upd H' a o) := k.trans (dom_upd _ _ _)
theorem Dom.of_keep {M : List Addr} {H H1 : Hp} (k : Keep M H H1) (h : ∀ m ∈ M, ∃ o, H1 m = some o) : Dom H H1 := fun _ n => fresh_of k h n
theorem Dom.of_same {H H1 : Hp} (k : Same H H1) : Dom H H1 := fun _ n => k.free n
/-- a plain if without an else, its rest once -/
theorem if_skip {c : Prop} [Decidable c] {t : L2.TS} {D : Ends} {σ : L2.St} {H : Hp} (Cd : Hp → Prop) (rest : ∀ H1, Cd H1 → D.nx σ H1) (h1 : c → (∀ H1, Cd H1 → D.nx σ H1) → t D σ H) (h2 : ¬ c → Cd H) :
    if c then t D σ H else tNext D σ H := by
  by_cases hc : c
  · rw [if_pos hc]
    exact h1 hc rest
  · rw [if_neg hc]
    exact rest H (h2 hc)
/-- a if c else b, its rest once -/
theorem ife_skip {c : Prop} [Decidable c] {ta tb : TE} {σ : L2.St} {H : Hp} {Q : VK} (R : V → Hp → Prop) (rest : ∀ v H1, R v H1 → Q v H1) (h1 : c → (∀ v H1, R v H1 → Q v H1) → ta σ H Q) (h2 : ¬ c → (∀ v H1, R v H1 → Q v H1) → tb σ H Q) :
    if c then ta σ H Q else tb σ H Q := by
  by_cases hc : c
  · rw [if_pos hc]
    exact h1 hc rest
  · rw [if_neg hc]
    exact h2 hc rest
theorem zip_len (ks : List Str) (vs : List V) : (ks.zip vs).length ≤ ks.length := by
  rw [List.length_zip]
  exact Nat.min_le_left _ _
theorem canLayAll_of {α : Type} {f : α → PyData} : ∀ {xs : List α}, (∀ x ∈ xs, (f x).canLay0 = true) → PyData.canLayAll0 (xs.map f) = true
  | [], _ => by simp [PyData.canLayAll0]
  | x :: r, h => by
    simp only [List.map_cons, PyData.canLayAll0, Bool.and_eq_true]
    exact ⟨h x (List.mem_cons_self ..), canLayAll_of fun y hy => h y (List.mem_cons_of_mem _ hy)⟩
theorem depthAll_of {α : Type} {f : α → PyData} {k : Nat} : ∀ {xs : List α}, (∀ x ∈ xs, (f x).depth ≤ k) → PyData.depthAll (xs.map f) ≤ k
  | [], _ => by simp [PyData.depthAll]
  | x :: r, h => by
    simp only [List.map_cons, PyData.depthAll]
    exact Nat.max_le.mpr ⟨h x (List.mem_cons_self ..), depthAll_of fun y hy => h y (List.mem_cons_of_mem _ hy)⟩
/-- data that can be compared: how deep -/
def Lay (k : Nat) (d : PyData) : Prop := d.canLay0 = true ∧ d.depth ≤ k
theorem Lay.shaped {k : Nat} {d : PyData} (h : Lay k d) (hk : k ≤ 64) : SeqAt.shaped d = true := by
  unfold SeqAt.shaped
  rw [Bool.and_eq_true]
  exact ⟨h.1, decide_eq_true (Nat.le_trans h.2 hk)⟩
theorem Lay.mono {j k : Nat} {d : PyData} (h : Lay j d) (hk : j ≤ k) : Lay k d := ⟨h.1, Nat.le_trans h.2 hk⟩
theorem Lay.int (i : Int) : Lay 0 (.int i) := ⟨by simp [PyData.canLay0], by simp [PyData.depth]⟩
theorem Lay.none : Lay 0 .none := ⟨by simp [PyData.canLay0], by simp [PyData.depth]⟩
theorem Lay.bool (b : Bool) : Lay 0 (.bool b) := ⟨by simp [PyData.canLay0], by simp [PyData.depth]⟩
theorem Lay.list {α : Type} {f : α → PyData} {k : Nat} {xs : List α} (h : ∀ x ∈ xs, Lay k (f x)) : Lay (k + 1) (.list (xs.map f)) := by
  refine ⟨?_, ?_⟩
  · rw [PyData.canLay0]
    exact canLayAll_of fun x hx => (h x hx).1
  · rw [PyData.depth]
    exact Nat.succ_le_succ (depthAll_of fun x hx => (h x hx).2)
theorem Lay.tuple {α : Type} {f : α → PyData} {k : Nat} {xs : List α} (h : ∀ x ∈ xs, Lay k (f x)) : Lay (k + 1) (.tuple (xs.map f)) := by
  refine ⟨?_, ?_⟩
  · rw [PyData.canLay0]
    exact canLayAll_of fun x hx => (h x hx).1
  · rw [PyData.depth]
    exact Nat.succ_le_succ (depthAll_of fun x hx => (h x hx).2)
theorem Lay.nil : Lay 1 (.list []) := Lay.list (f := PyData.int) (xs := []) (k := 0) (by simp)
theorem Lay.tl (t : List Int) : Lay 1 (tlD t) := Lay.tuple fun x _ => Lay.int x
theorem Lay.refl {k : Nat} {d : PyData} (h : Lay k d) : PyData.eqv d d = true := SeqAt.eqv_refl d h.1
theorem eqv_nil (ds : List PyData) : PyData.eqv (.list ds) (.list []) = ds.isEmpty := by
  cases ds with
  | nil => simp [PyData.eqv, PyData.eqvAll]
  | cons x r => simp [PyData.eqv, PyData.eqvAll]
theorem dpAll_ints {K : PySem.W.Frag} {H : Hp} (ns : List Int) : DpAll K H (ns.map V.int) (ns.map PyData.int) := (TDs.ints ns).dp
theorem fmod_nat (a b : Nat) : ((a : Nat) : Int).fmod ((b : Nat) : Int) = ((a % b : Nat) : Int) := by
  rw [Int.fmod_eq_emod_of_nonneg _ (by omega)]
  rfl
theorem fdiv_nat (a b : Nat) : ((a : Nat) : Int).fdiv ((b : Nat) : Int) = ((a / b : Nat) : Int) := by
  rw [Int.fdiv_eq_ediv_of_nonneg _ (by omega)]
  rfl
theorem cut_nat {xs : List V} {a b : Nat} (ha : a ≤ xs.length) (hb : b ≤ xs.length) : cutV xs (some ((a : Nat) : Int)) (some ((b : Nat) : Int)) = (xs.drop a).take (b - a) := by
  unfold cutV
  rw [HT.sIx_nat, HT.sIx_nat, Nat.min_eq_left ha, Nat.min_eq_left hb]
/-! ### rules within a comprehension: the written part is told -/
section
variable {X : Cx} {K : PySem.W.Frag}
theorem ix_listK (h : X.K = K) : IxR X (rIxL K) := h ▸ ix_list
theorem ix_tupK (h : X.K = K) : IxR X (rIxT K) := h ▸ ix_tup
theorem ix_seqK (h : X.K = K) : IxR X (rIx K) := h ▸ ix_seq
def rLenSq (K : PySem.W.Frag) : List V → Hp → VK → Prop := fun xs H Q => ∃ p ys, xs = [.ref p] ∧ (SqL K H p ys ∨ SqT K H p ys) ∧ Q (.int ys.length) H
theorem call_lenK (h : X.K = K) : CallR X (.builtin "len") (rLenSq K) := h ▸ call_len_seq
theorem op_eqDK (h : X.K = K) (hu : X.A.units + 64 < cLine) : OpR X (compareOp .Eq) (rEqD K) := h ▸ op_eqD hu
theorem op_neDK (h : X.K = K) (hu : X.A.units + 64 < cLine) : OpR X (compareOp .NotEq) (rNeD K) := h ▸ op_neD hu
theorem op_in_seqK (h : X.K = K) : OpR X (compareOp .In) (rIn K false) := h ▸ op_in_seq
theorem op_notIn_seqK (h : X.K = K) : OpR X (compareOp .NotIn) (rIn K true) := h ▸ op_notIn_seq
theorem sl_listK (h : X.K = K) : SlR X (rSlL K) := h ▸ sl_list
theorem sl_tupK (h : X.K = K) : SlR X (rSlT K) := h ▸ sl_tup
theorem call_isiK' (h : X.K = K) : CallR X (.builtin "isinstance") (rIsi K) := h ▸ call_isi
theorem pe_fldK {e : Expr} {f : Str} {pos : Pos} {ta : TE} (h : X.K = K) (he : PE X e ta) (hb : attributeBase e f X.env (eval e X.env) = eval e X.env) : PE X (.Attribute e f pos) (tFld K ta f) := h ▸ pe_fld he hb
theorem pe_bmK {o e : Expr} {es : List Expr} {to : TE} {t : TA} {name : Str} {apos cpos : Pos} {T id : String} {r : V → List V → Hp → VK → Prop} (hK : X.K = K)
    (pa : PlainAttrs T) (sl : Slot T name id) (ty : typeOf (.builtin id) = pure (.type "method_descriptor")) (m : MtR X id r) (po : PE X o to) (args : PA X (e :: es) t)
    (h1 : attributeBase o name X.env (eval o X.env) = eval o X.env := by rfl)
    (h2 : ((backTo cpos (starEach (e :: es) X.env)).all (fun x => !x.1) && (backToKw cpos (keywordEach [] X.env)).all (fun x => x.1.isSome) && decide ((e :: es).length + ([] : List Keyword).length + (if ([] : List Keyword).isEmpty then 0 else 1) < 30)) = true := by rfl)
    (h3 : (apos.endLine == cpos.line) = true := by rfl)
    (h4 : starEach (e :: es) X.env = (false, eval e X.env) :: starEach es X.env := by rfl)
    (h5 : (backTo cpos (starEach es X.env)).any (·.1) = false := by rfl) :
    PE X (.Call (.Attribute o name apos) (e :: es) [] cpos) (tBM K T r to t) := hK ▸ pe_bm pa sl ty m po args h1 h2 h3 h4 h5
theorem pg_tupK {es : List Expr} {k : Nat} {pos : Pos} {t : TGs} {n : Nat} (hK : X.K = K) (hc : X.calm = true) (h : PGs X es t) (hn : (assignEach es X.env).length = n := by rfl) (hst : (assignEach es X.env).findIdx? (·.1) = none := by rfl) :
    PG X (.Tuple es k pos) (gTup K n t) := hK ▸ pg_tup hc h hn hst
end
theorem le_line {n : Nat} (h : n ≤ 16000000) : n ≤ sizeLine := Nat.le_trans h (by decide)
theorem lt_line {n : Nat} (h : n < 16000000) : n < sizeLine := Nat.lt_of_lt_of_le h (by decide)
theorem bl_of {c : Prop} [Decidable c] {Q : V → Hp → Prop} {H : Hp} (hc : c) (h : Q (.bl true) H) : Q (.bl (decide c)) H := by
  rw [decide_eq_true hc]
  exact h
theorem dT {c : Prop} [Decidable c] (h : c) : V.bl (decide c) = V.bl true := by rw [decide_eq_true h]
theorem dF {c : Prop} [Decidable c] (h : ¬ c) : V.bl (decide c) = V.bl false := by rw [decide_eq_false h]
theorem ndT {c : Prop} [Decidable c] (h : ¬ c) : V.bl (!decide c) = V.bl true := by rw [decide_eq_false h]; rfl
theorem ndF {c : Prop} [Decidable c] (h : c) : V.bl (!decide c) = V.bl false := by rw [decide_eq_true h]; rfl
theorem map_get {α β : Type} {f : α → β} {xs : List α} {i : Nat} {y : β} (h : (xs.map f)[i]? = some y) : ∃ x, xs[i]? = some x ∧ y = f x := by
  rw [List.getElem?_map] at h
  cases e : xs[i]? with
  | none => rw [e] at h; cases h
  | some x => rw [e] at h; exact ⟨x, rfl, (Option.some.inj h).symm⟩
end Sky

/-! Tellings laid into frames: the numbers, the frames of them. -/
namespace Sky
open PySem PySem.Spec PyProof.Rows L2
def tellOk (t : List Int) : Prop := 1 ≤ t.length ∧ t.length ≤ 20 ∧ ∀ x ∈ t, 0 ≤ x ∧ x ≤ 255
/-- a frame: count, first, body -/
abbrev Frm := Nat × Option Nat × List Int
def inFr (z c s : Nat) : Bool := decide (c * z ≤ s) && decide (s < c * z + z)
def firstOf (z c : Nat) (S : List Nat) : Option Nat := ((S.filter (inFr z c)).map (· - c * z)).head?
def frm (z : Nat) (N : List Int) (S : List Nat) (c : Nat) : Frm := (c, firstOf z c S, (N.drop (c * z)).take z)
def frms (z : Nat) (N : List Int) (S : List Nat) : List Frm := (List.range (N.length / z)).map (frm z N S)
def frmD (st : Int) (f : Frm) : PyData := .tuple [.int st, .int f.1, optD f.2.1, tlD f.2.2]
def laidN (m : Int) (t : List Int) : List Int := (t.length : Int) :: m.fdiv 256 :: m.fmod 256 :: t
def lay1 (x : List Int × List Nat) (t : List Int) : List Int × List Nat := (x.1 ++ laidN (x.2.length : Int) t, x.2 ++ [x.1.length])
def layAll (ts : List (List Int)) : List Int × List Nat := ts.foldl lay1 ([], [])
def padN (z : Nat) (N : List Int) : List Int := if N.length % z = 0 then N else N ++ List.replicate (z - N.length % z) 0
theorem laidN_length (m : Int) (t : List Int) : (laidN m t).length = t.length + 3 := by simp [laidN]
theorem layAll_snoc (ts : List (List Int)) (t : List Int) : layAll (ts ++ [t]) = lay1 (layAll ts) t := by
  unfold layAll
  rw [List.foldl_append]
  rfl
theorem layAll_take {ts : List (List Int)} {i : Nat} {t : List Int} (h : ts[i]? = some t) : layAll (ts.take (i + 1)) = lay1 (layAll (ts.take i)) t := by
  rw [List.take_add_one, h]
  exact layAll_snoc _ _
/-- what holds of the numbers and the starts of such -/
structure Laid (N : List Int) (S : List Nat) : Prop where
  le : ∀ s ∈ S, s ≤ N.length
  asc : S.Pairwise (· ≤ ·)
theorem Laid.nil : Laid [] [] := ⟨by simp, by simp⟩
theorem Laid.start {N : List Int} {S : List Nat} (h : Laid N S) : Laid N (S ++ [N.length]) := by
  refine ⟨fun s hs => ?_, ?_⟩
  · rcases List.mem_append.mp hs with q | q
    · exact h.le s q
    · rw [List.mem_singleton.mp q]
      exact Nat.le_refl _
  · rw [List.pairwise_append]
    refine ⟨h.asc, by simp, fun a ha b hb => ?_⟩
    rw [List.mem_singleton.mp hb]
    exact h.le a ha
theorem Laid.more {N : List Int} {S : List Nat} (h : Laid N S) (xs : List Int) : Laid (N ++ xs) S := ⟨fun s hs => by
  rw [List.length_append]
  exact Nat.le_trans (h.le s hs) (Nat.le_add_right _ _), h.asc⟩
theorem Laid.lay1 {x : List Int × List Nat} (h : Laid x.1 x.2) (t : List Int) : Laid (lay1 x t).1 (lay1 x t).2 := (h.start).more _
theorem laid_all : ∀ ts : List (List Int), Laid (layAll ts).1 (layAll ts).2 := fun ts => by
  unfold layAll
  suffices h : ∀ (ts : List (List Int)) (x : List Int × List Nat), Laid x.1 x.2 → Laid (ts.foldl Sky.lay1 x).1 (ts.foldl Sky.lay1 x).2 from h ts _ Laid.nil
  intro ts
  induction ts with
  | nil => exact fun x h => h
  | cons t r ih => exact fun x h => ih _ (h.lay1 t)
theorem firstOf_app (z c : Nat) (S : List Nat) (n : Nat) : firstOf z c (S ++ [n]) = (firstOf z c S).or (if inFr z c n = true then some (n - c * z) else none) := by
  unfold firstOf
  rw [List.filter_append, List.map_append, List.head?_append]
  congr 1
  by_cases h : inFr z c n = true
  · rw [if_pos h, List.filter_cons_of_pos h]
    rfl
  · rw [if_neg h, List.filter_cons_of_neg h]
    rfl
theorem firstOf_none {z c : Nat} {S : List Nat} (h : ∀ s ∈ S, s < c * z) : firstOf z c S = none := by
  unfold firstOf
  have e : S.filter (inFr z c) = [] := by
    rw [List.filter_eq_nil_iff]
    intro s hs
    have := h s hs
    unfold inFr
    simp
    omega
  rw [e]
  rfl
theorem div_eq {z n c : Nat} (h1 : c * z ≤ n) (h2 : n < c * z + z) : n / z = c := by
  apply Nat.div_eq_of_lt_le h1
  rw [Nat.succ_mul]
  exact h2
theorem div_lo (z n : Nat) : n / z * z ≤ n := Nat.div_mul_le_self n z
theorem div_hi {z : Nat} (hz : 0 < z) (n : Nat) : n < n / z * z + z := by
  have := Nat.lt_div_mul_add hz (a := n)
  omega
theorem div_mod (z n : Nat) : n / z * z + n % z = n := by
  have := Nat.div_add_mod n z
  rw [Nat.mul_comm] at this
  exact this
/-- the frames that are full depend neither on later numbers nor on later starts -/
theorem frm_more {z c : Nat} {N xs : List Int} {S : List Nat} (h : c * z + z ≤ N.length) : frm z (N ++ xs) S c = frm z N S c := by
  unfold frm
  rw [List.drop_append_of_le_length (by omega), List.take_append_of_le_length (by rw [List.length_drop]; omega)]
theorem frm_start {z c : Nat} {N : List Int} {S : List Nat} {n : Nat} (h : c * z + z ≤ n) : frm z N (S ++ [n]) c = frm z N S c := by
  unfold frm
  rw [firstOf_app, if_neg, Option.or_none]
  unfold inFr
  simp
  omega
theorem frms_start (z : Nat) (N : List Int) (S : List Nat) : frms z N (S ++ [N.length]) = frms z N S := by
  unfold frms
  refine List.map_congr_left fun c hc => ?_
  have h1 : c < N.length / z := List.mem_range.mp hc
  refine frm_start ?_
  have := Nat.mul_le_mul_right z (show c + 1 ≤ N.length / z from h1)
  rw [Nat.succ_mul] at this
  have := div_lo z N.length
  omega
theorem frms_low {z : Nat} {N xs : List Int} {S : List Nat} : (List.range (N.length / z)).map (frm z (N ++ xs) S) = frms z N S := by
  unfold frms
  refine List.map_congr_left fun c hc => frm_more ?_
  have h1 : c < N.length / z := List.mem_range.mp hc
  have := Nat.mul_le_mul_right z (show c + 1 ≤ N.length / z from h1)
  rw [Nat.succ_mul] at this
  have := div_lo z N.length
  omega
theorem frms_same {z : Nat} (hz : 0 < z) {N xs : List Int} {S : List Nat} (h : N.length + xs.length < N.length / z * z + z) : frms z (N ++ xs) S = frms z N S := by
  have e : (N ++ xs).length / z = N.length / z := by
    rw [List.length_append]
    refine div_eq ?_ h
    have := div_lo z N.length
    omega
  unfold frms
  rw [e]
  exact frms_low
/-- some numbers that just fill the frame -/
theorem frms_full {z : Nat} (hz : 0 < z) {N xs : List Int} {S : List Nat} (h : N.length + xs.length = N.length / z * z + z) :
    frms z (N ++ xs) S = frms z N S ++ [(N.length / z, firstOf z (N.length / z) S, N.drop (N.length / z * z) ++ xs)] := by
  have e : (N ++ xs).length / z = N.length / z + 1 := by
    rw [List.length_append, h]
    refine div_eq ?_ ?_ <;> rw [Nat.succ_mul] <;> omega
  have := div_lo z N.length
  show (List.range ((N ++ xs).length / z)).map (frm z (N ++ xs) S) = _
  rw [e, List.range_succ, List.map_append, frms_low]
  congr 1
  show [frm z (N ++ xs) S (N.length / z)] = _
  unfold frm
  rw [List.drop_append_of_le_length this, List.take_of_length_le]
  rw [List.length_append, List.length_drop]
  omega
theorem frms_pad {z : Nat} (hz : 0 < z) {N : List Int} {S : List Nat} (h : N.length % z ≠ 0) :
    frms z (padN z N) S = frms z N S ++ [(N.length / z, firstOf z (N.length / z) S, N.drop (N.length / z * z) ++ List.replicate (z - N.length % z) 0)] := by
  unfold padN
  rw [if_neg h]
  refine frms_full hz ?_
  rw [List.length_replicate]
  have := div_mod z N.length
  have := Nat.mod_lt N.length hz
  omega
theorem frms_pad0 {z : Nat} {N : List Int} {S : List Nat} (h : N.length % z = 0) : frms z (padN z N) S = frms z N S := by
  unfold padN
  rw [if_pos h]
theorem body_length (z : Nat) (N : List Int) : (N.drop (N.length / z * z)).length = N.length % z := by
  rw [List.length_drop]
  have := div_mod z N.length
  omega
theorem step_full {z : Nat} (hz : 0 < z) {N : List Int} {x : Int} (h : N.length % z + 1 = z) :
    N.length + 1 = N.length / z * z + z ∧ (N ++ [x]).length / z = N.length / z + 1 ∧ (N ++ [x]).drop ((N.length / z + 1) * z) = [] := by
  have h1 := div_mod z N.length
  have h2 : N.length + 1 = N.length / z * z + z := by omega
  refine ⟨h2, ?_, ?_⟩
  · rw [List.length_append, List.length_singleton, h2]
    refine div_eq ?_ ?_ <;> rw [Nat.succ_mul] <;> omega
  · apply List.drop_eq_nil_of_le
    rw [List.length_append, List.length_singleton, h2, Nat.succ_mul]
    exact Nat.le_refl _
theorem step_not {z : Nat} (hz : 0 < z) {N : List Int} {x : Int} (h : N.length % z + 1 ≠ z) :
    N.length + 1 < N.length / z * z + z ∧ (N ++ [x]).length / z = N.length / z ∧ (N ++ [x]).drop (N.length / z * z) = N.drop (N.length / z * z) ++ [x] := by
  have h1 := div_mod z N.length
  have h3 := Nat.mod_lt N.length hz
  have h2 : N.length + 1 < N.length / z * z + z := by omega
  refine ⟨h2, ?_, ?_⟩
  · rw [List.length_append, List.length_singleton]
    exact div_eq (by omega) h2
  · exact List.drop_append_of_le_length (by omega)
theorem first_start {z : Nat} (hz : 0 < z) (N : List Int) (S : List Nat) : firstOf z (N.length / z) (S ++ [N.length]) = (firstOf z (N.length / z) S).or (some (N.length % z)) := by
  have h1 := div_mod z N.length
  have h2 := div_hi hz N.length
  rw [firstOf_app, if_pos (by unfold inFr; simp; omega)]
  congr 2
  omega
theorem frms_length (z : Nat) (N : List Int) (S : List Nat) : (frms z N S).length = N.length / z := by simp [frms]
theorem frms_lay {z : Nat} (x : List Int × List Nat) (t : List Int) :
    frms z x.1 x.2 ++ (frms z (lay1 x t).1 (lay1 x t).2).drop (x.1.length / z) = frms z (lay1 x t).1 (lay1 x t).2 := by
  have e : (frms z (lay1 x t).1 (lay1 x t).2).take (x.1.length / z) = frms z x.1 x.2 := by
    have h : x.1.length / z ≤ (lay1 x t).1.length / z := Nat.div_le_div_right (by unfold lay1; rw [List.length_append]; exact Nat.le_add_right _ _)
    unfold frms
    rw [← List.map_take, List.take_range, Nat.min_eq_left h]
    show (List.range (x.1.length / z)).map (frm z (x.1 ++ laidN (x.2.length : Int) t) (x.2 ++ [x.1.length])) = _
    rw [frms_low, frms_start]
    rfl
  rw [← e]
  exact List.take_append_drop _ _
theorem layAll_le : ∀ (ts : List (List Int)), (∀ t ∈ ts, t.length ≤ 20) → (layAll ts).1.length ≤ 23 * ts.length := by
  intro ts h
  unfold layAll
  suffices g : ∀ (ts : List (List Int)) (x : List Int × List Nat), (∀ t ∈ ts, t.length ≤ 20) → (ts.foldl lay1 x).1.length ≤ x.1.length + 23 * ts.length by
    have := g ts ([], []) h
    simpa using this
  intro ts
  induction ts with
  | nil => intro x _; exact Nat.le_refl _
  | cons t r ih =>
    intro x hx
    have h1 := ih (lay1 x t) fun u hu => hx u (List.mem_cons_of_mem _ hu)
    have h2 := hx t (List.mem_cons_self ..)
    have h3 : (lay1 x t).1.length = x.1.length + (t.length + 3) := by unfold lay1; rw [List.length_append, laidN_length]
    rw [List.foldl_cons, List.length_cons]
    omega
theorem layAll_len : ∀ (ts : List (List Int)), (layAll ts).2.length = ts.length := by
  intro ts
  unfold layAll
  suffices g : ∀ (ts : List (List Int)) (x : List Int × List Nat), (ts.foldl lay1 x).2.length = x.2.length + ts.length by
    have := g ts ([], [])
    simpa using this
  intro ts
  induction ts with
  | nil => intro x; rfl
  | cons t r ih =>
    intro x
    rw [List.foldl_cons, ih, List.length_cons]
    unfold lay1
    rw [List.length_append, List.length_singleton]
    omega
/-- the first of ascending ones is the least -/
theorem head_least : ∀ {ns : List Nat} {m : Nat}, ns.Pairwise (· ≤ ·) → m ∈ ns → (∀ y ∈ ns, m ≤ y) → ns.head? = some m
  | x :: r, m, p, hm, hl => by
    have h1 : m ≤ x := hl x (List.mem_cons_self ..)
    have h2 : x ≤ m := by
      rcases List.mem_cons.mp hm with e | e
      · exact Nat.le_of_eq e.symm
      · exact (List.pairwise_cons.mp p).1 m e
    show some x = some m
    rw [Nat.le_antisymm h2 h1]
theorem firstOf_least {z c : Nat} {S : List Nat} {m : Nat} (p : S.Pairwise (· ≤ ·)) (hm : m ∈ (S.filter (inFr z c)).map (· - c * z)) (hl : ∀ y ∈ (S.filter (inFr z c)).map (· - c * z), m ≤ y) : firstOf z c S = some m := by
  refine head_least ?_ hm hl
  refine List.Pairwise.map _ (fun a b h => ?_) (p.filter _)
  show a - c * z ≤ b - c * z
  exact Nat.sub_le_sub_right h _
end Sky

namespace K2
open PySem PySem.Spec PyProof.Rows L2 Sky
def topS (i : Nat) : Stmt := PySem.Challenge.pw_skyframes_k02_frames.main.body.getD i (.Pass ⟨0, 0, 0, 0⟩)
abbrev s_is_number : Stmt := topS 10
abbrev N_is_number : List Str := ["value", "low", "high"]
theorem sc_is_number : FnScope N_is_number ["value", "low", "high"] (defScope s_is_number) := ⟨rfl, rfl, rfl, by decide +kernel, rfl, by decide +kernel, by decide +kernel⟩
abbrev s_is_stream : Stmt := topS 11
abbrev N_is_stream : List Str := ["value"]
theorem sc_is_stream : FnScope N_is_stream ["value"] (defScope s_is_stream) := ⟨rfl, rfl, rfl, by decide +kernel, rfl, by decide +kernel, by decide +kernel⟩
abbrev s_holds_numbers : Stmt := topS 12
abbrev N_holds_numbers : List Str := ["value", "number"]
theorem sc_holds_numbers : FnScope N_holds_numbers ["value"] (defScope s_holds_numbers) := ⟨rfl, rfl, rfl, by decide +kernel, rfl, by decide +kernel, by decide +kernel⟩
abbrev s_is_telling : Stmt := topS 13
abbrev N_is_telling : List Str := ["value"]
theorem sc_is_telling : FnScope N_is_telling ["value"] (defScope s_is_telling) := ⟨rfl, rfl, rfl, by decide +kernel, rfl, by decide +kernel, by decide +kernel⟩
abbrev s_check_stream : Stmt := topS 14
abbrev N_check_stream : List Str := ["stream"]
theorem sc_check_stream : FnScope N_check_stream ["stream"] (defScope s_check_stream) := ⟨rfl, rfl, rfl, by decide +kernel, rfl, by decide +kernel, by decide +kernel⟩
abbrev s_check_telling : Stmt := topS 15
abbrev N_check_telling : List Str := ["telling"]
theorem sc_check_telling : FnScope N_check_telling ["telling"] (defScope s_check_telling) := ⟨rfl, rfl, rfl, by decide +kernel, rfl, by decide +kernel, by decide +kernel⟩
abbrev s_check_size : Stmt := topS 16
abbrev N_check_size : List Str := ["size"]
theorem sc_check_size : FnScope N_check_size ["size"] (defScope s_check_size) := ⟨rfl, rfl, rfl, by decide +kernel, rfl, by decide +kernel, by decide +kernel⟩
abbrev s_Laying_init : Stmt := inClass (topS 19) 0
abbrev N_Laying_init : List Str := ["self", "stream", "size"]
theorem sc_Laying_init : FnScope N_Laying_init ["self", "stream", "size"] (defScope s_Laying_init) := ⟨rfl, rfl, rfl, by decide +kernel, rfl, by decide +kernel, by decide +kernel⟩
abbrev s_Laying_lay : Stmt := inClass (topS 19) 1
abbrev N_Laying_lay : List Str := ["self", "telling", "laid", "full", "number"]
theorem sc_Laying_lay : FnScope N_Laying_lay ["self", "telling"] (defScope s_Laying_lay) := ⟨rfl, rfl, rfl, by decide +kernel, rfl, by decide +kernel, by decide +kernel⟩
abbrev s_Laying_fill : Stmt := inClass (topS 19) 2
abbrev N_Laying_fill : List Str := ["self"]
theorem sc_Laying_fill : FnScope N_Laying_fill ["self"] (defScope s_Laying_fill) := ⟨rfl, rfl, rfl, by decide +kernel, rfl, by decide +kernel, by decide +kernel⟩
abbrev s_Laying_done : Stmt := inClass (topS 19) 3
abbrev N_Laying_done : List Str := ["self", "frame"]
theorem sc_Laying_done : FnScope N_Laying_done ["self"] (defScope s_Laying_done) := ⟨rfl, rfl, rfl, by decide +kernel, rfl, by decide +kernel, by decide +kernel⟩
abbrev s_frames_of : Stmt := topS 21
abbrev N_frames_of : List Str := ["stream", "tellings", "size", "telling", "laying", "frames", "last"]
theorem sc_frames_of : FnScope N_frames_of ["stream", "tellings", "size"] (defScope s_frames_of) := ⟨rfl, rfl, rfl, by decide +kernel, rfl, by decide +kernel, by decide +kernel⟩
abbrev s_law_mix : Stmt := topS 23
abbrev N_law_mix : List Str := ["_law_script", "_law_seed", "_law_mixed", "_law_cell"]
theorem sc_law_mix : FnScope N_law_mix ["_law_script", "_law_seed"] (defScope s_law_mix) := ⟨rfl, rfl, rfl, by decide +kernel, rfl, by decide +kernel, by decide +kernel⟩
abbrev s_law_next : Stmt := topS 24
abbrev N_law_next : List Str := ["_law_h", "_law_many_here", "_law_at", "_law_cell"]
theorem sc_law_next : FnScope N_law_next ["_law_h", "_law_many_here"] (defScope s_law_next) := ⟨rfl, rfl, rfl, by decide +kernel, rfl, by decide +kernel, by decide +kernel⟩
abbrev s_law_alike : Stmt := topS 25
abbrev N_law_alike : List Str := ["_law_found", "_law_due", "_law_k"]
theorem sc_law_alike : FnScope N_law_alike ["_law_found", "_law_due"] (defScope s_law_alike) := ⟨rfl, rfl, rfl, by decide +kernel, rfl, by decide +kernel, by decide +kernel⟩
abbrev s_law_data : Stmt := topS 26
abbrev N_law_data : List Str := ["_law_h", "_law_many_here", "_law_k"]
theorem sc_law_data : FnScope N_law_data ["_law_h"] (defScope s_law_data) := ⟨rfl, rfl, rfl, by decide +kernel, rfl, by decide +kernel, by decide +kernel⟩
abbrev s_law_fresh : Stmt := topS 27
abbrev N_law_fresh : List Str := ["_law_size"]
theorem sc_law_fresh : FnScope N_law_fresh ["_law_size"] (defScope s_law_fresh) := ⟨rfl, rfl, rfl, by decide +kernel, rfl, by decide +kernel, by decide +kernel⟩
abbrev s_law_lay : Stmt := topS 28
abbrev N_law_lay : List Str := ["_law_s", "_law_data_here", "_law_seq"]
theorem sc_law_lay : FnScope N_law_lay ["_law_s", "_law_data_here"] (defScope s_law_lay) := ⟨rfl, rfl, rfl, by decide +kernel, rfl, by decide +kernel, by decide +kernel⟩
abbrev s_law_fill : Stmt := topS 29
abbrev N_law_fill : List Str := ["_law_s", "_law_rest"]
theorem sc_law_fill : FnScope N_law_fill ["_law_s"] (defScope s_law_fill) := ⟨rfl, rfl, rfl, by decide +kernel, rfl, by decide +kernel, by decide +kernel⟩
abbrev s_law_many : Stmt := topS 30
abbrev N_law_many : List Str := ["_law_s"]
theorem sc_law_many : FnScope N_law_many ["_law_s"] (defScope s_law_many) := ⟨rfl, rfl, rfl, by decide +kernel, rfl, by decide +kernel, by decide +kernel⟩
abbrev s_law_frame : Stmt := topS 31
abbrev N_law_frame : List Str := ["_law_s", "_law_stream", "_law_count", "_law_low", "_law_high", "_law_some", "_law_start", "_law_data_here"]
theorem sc_law_frame : FnScope N_law_frame ["_law_s", "_law_stream", "_law_count"] (defScope s_law_frame) := ⟨rfl, rfl, rfl, by decide +kernel, rfl, by decide +kernel, by decide +kernel⟩
abbrev s_law : Stmt := topS 33
abbrev N_law : List Str := ["_law_script", "_law_h", "_law_turn", "_law_size", "_law_stream", "_law_many_here", "_law_tellings", "_law_s", "_law_data_here", "_law_due", "_law_handed", "_law_again", "_law_found", "_law_k", "_law_count"]
theorem sc_law : FnScope N_law ["_law_script"] (defScope s_law) := ⟨rfl, rfl, rfl, by decide +kernel, rfl, by decide +kernel, by decide +kernel⟩
structure Tx (K : PySem.W.Frag) (mg : Str → Option Value) where
  A_Laying : Addr
  a_is_number : Addr
  d_is_number : FuncData
  F_is_number : Fun K "is_number" "is_number" s_is_number a_is_number d_is_number
  b_is_number : Binds K d_is_number ["value", "low", "high"] []
  m_is_number : mg "is_number" = some (.ref a_is_number)
  a_is_stream : Addr
  d_is_stream : FuncData
  F_is_stream : Fun K "is_stream" "is_stream" s_is_stream a_is_stream d_is_stream
  b_is_stream : Binds K d_is_stream ["value"] []
  m_is_stream : mg "is_stream" = some (.ref a_is_stream)
  a_holds_numbers : Addr
  d_holds_numbers : FuncData
  F_holds_numbers : Fun K "holds_numbers" "holds_numbers" s_holds_numbers a_holds_numbers d_holds_numbers
  b_holds_numbers : Binds K d_holds_numbers ["value"] []
  m_holds_numbers : mg "holds_numbers" = some (.ref a_holds_numbers)
  a_is_telling : Addr
  d_is_telling : FuncData
  F_is_telling : Fun K "is_telling" "is_telling" s_is_telling a_is_telling d_is_telling
  b_is_telling : Binds K d_is_telling ["value"] []
  m_is_telling : mg "is_telling" = some (.ref a_is_telling)
  a_check_stream : Addr
  d_check_stream : FuncData
  F_check_stream : Fun K "check_stream" "check_stream" s_check_stream a_check_stream d_check_stream
  b_check_stream : Binds K d_check_stream ["stream"] []
  m_check_stream : mg "check_stream" = some (.ref a_check_stream)
  a_check_telling : Addr
  d_check_telling : FuncData
  F_check_telling : Fun K "check_telling" "check_telling" s_check_telling a_check_telling d_check_telling
  b_check_telling : Binds K d_check_telling ["telling"] []
  m_check_telling : mg "check_telling" = some (.ref a_check_telling)
  a_check_size : Addr
  d_check_size : FuncData
  F_check_size : Fun K "check_size" "check_size" s_check_size a_check_size d_check_size
  b_check_size : Binds K d_check_size ["size"] []
  m_check_size : mg "check_size" = some (.ref a_check_size)
  a_Laying_init : Addr
  d_Laying_init : FuncData
  F_Laying_init : Fun K "__init__" "Laying.__init__" s_Laying_init a_Laying_init d_Laying_init
  b_Laying_init : Binds K d_Laying_init ["self", "stream", "size"] []
  a_Laying_lay : Addr
  d_Laying_lay : FuncData
  F_Laying_lay : Fun K "lay" "Laying.lay" s_Laying_lay a_Laying_lay d_Laying_lay
  b_Laying_lay : Binds K d_Laying_lay ["self", "telling"] []
  M_Laying_lay : Meth K A_Laying "lay" a_Laying_lay
  a_Laying_fill : Addr
  d_Laying_fill : FuncData
  F_Laying_fill : Fun K "fill" "Laying.fill" s_Laying_fill a_Laying_fill d_Laying_fill
  b_Laying_fill : Binds K d_Laying_fill ["self"] []
  M_Laying_fill : Meth K A_Laying "fill" a_Laying_fill
  a_Laying_done : Addr
  d_Laying_done : FuncData
  F_Laying_done : Fun K "_done" "Laying._done" s_Laying_done a_Laying_done d_Laying_done
  b_Laying_done : Binds K d_Laying_done ["self"] []
  M_Laying_done : Meth K A_Laying "_done" a_Laying_done
  a_frames_of : Addr
  d_frames_of : FuncData
  F_frames_of : Fun K "frames_of" "frames_of" s_frames_of a_frames_of d_frames_of
  b_frames_of : Binds K d_frames_of ["stream", "tellings", "size"] []
  m_frames_of : mg "frames_of" = some (.ref a_frames_of)
  a_law_mix : Addr
  d_law_mix : FuncData
  F_law_mix : Fun K "_law_mix" "_law_mix" s_law_mix a_law_mix d_law_mix
  b_law_mix : Binds K d_law_mix ["_law_script", "_law_seed"] []
  m_law_mix : mg "_law_mix" = some (.ref a_law_mix)
  a_law_next : Addr
  d_law_next : FuncData
  F_law_next : Fun K "_law_next" "_law_next" s_law_next a_law_next d_law_next
  b_law_next : Binds K d_law_next ["_law_h", "_law_many_here"] []
  m_law_next : mg "_law_next" = some (.ref a_law_next)
  a_law_alike : Addr
  d_law_alike : FuncData
  F_law_alike : Fun K "_law_alike" "_law_alike" s_law_alike a_law_alike d_law_alike
  b_law_alike : Binds K d_law_alike ["_law_found", "_law_due"] []
  m_law_alike : mg "_law_alike" = some (.ref a_law_alike)
  a_law_data : Addr
  d_law_data : FuncData
  F_law_data : Fun K "_law_data" "_law_data" s_law_data a_law_data d_law_data
  b_law_data : Binds K d_law_data ["_law_h"] []
  m_law_data : mg "_law_data" = some (.ref a_law_data)
  a_law_fresh : Addr
  d_law_fresh : FuncData
  F_law_fresh : Fun K "_law_fresh" "_law_fresh" s_law_fresh a_law_fresh d_law_fresh
  b_law_fresh : Binds K d_law_fresh ["_law_size"] []
  m_law_fresh : mg "_law_fresh" = some (.ref a_law_fresh)
  a_law_lay : Addr
  d_law_lay : FuncData
  F_law_lay : Fun K "_law_lay" "_law_lay" s_law_lay a_law_lay d_law_lay
  b_law_lay : Binds K d_law_lay ["_law_s", "_law_data_here"] []
  m_law_lay : mg "_law_lay" = some (.ref a_law_lay)
  a_law_fill : Addr
  d_law_fill : FuncData
  F_law_fill : Fun K "_law_fill" "_law_fill" s_law_fill a_law_fill d_law_fill
  b_law_fill : Binds K d_law_fill ["_law_s"] []
  m_law_fill : mg "_law_fill" = some (.ref a_law_fill)
  a_law_many : Addr
  d_law_many : FuncData
  F_law_many : Fun K "_law_many" "_law_many" s_law_many a_law_many d_law_many
  b_law_many : Binds K d_law_many ["_law_s"] []
  m_law_many : mg "_law_many" = some (.ref a_law_many)
  a_law_frame : Addr
  d_law_frame : FuncData
  F_law_frame : Fun K "_law_frame" "_law_frame" s_law_frame a_law_frame d_law_frame
  b_law_frame : Binds K d_law_frame ["_law_s", "_law_stream", "_law_count"] []
  m_law_frame : mg "_law_frame" = some (.ref a_law_frame)
  a_law : Addr
  d_law : FuncData
  F_law : Fun K "law" "law" s_law a_law d_law
  b_law : Binds K d_law ["_law_script"] []
  m_law : mg "law" = some (.ref a_law)
  cl_Laying : Cls K A_Laying
  m_Laying : mg "Laying" = some (.ref A_Laying)
  mk_Laying : Mk K A_Laying a_Laying_init
  n_Laying_body : NoAttr K A_Laying "_body"
  n_Laying_count : NoAttr K A_Laying "_count"
  n_Laying_first : NoAttr K A_Laying "_first"
  n_Laying_size : NoAttr K A_Laying "_size"
  n_Laying_stream : NoAttr K A_Laying "_stream"
  n_Laying_many : NoAttr K A_Laying "many"
  z_all : mg "all" = none
  z_bool : mg "bool" = none
  z_int : mg "int" = none
  z_isinstance : mg "isinstance" = none
  z_len : mg "len" = none
  z_list : mg "list" = none
  z_max : mg "max" = none
  z_min : mg "min" = none
  z_range : mg "range" = none
  z_str : mg "str" = none
  z_tuple : mg "tuple" = none
  t_STREAMS : Tok
  c_STREAMS : mg "STREAMS" = some (.int 4 t_STREAMS)
  t_MOST_NUMBERS : Tok
  c_MOST_NUMBERS : mg "MOST_NUMBERS" = some (.int 20 t_MOST_NUMBERS)
  t_LEAST_SIZE : Tok
  c_LEAST_SIZE : mg "LEAST_SIZE" = some (.int 8 t_LEAST_SIZE)
  t_MOST_SIZE : Tok
  c_MOST_SIZE : mg "MOST_SIZE" = some (.int 24 t_MOST_SIZE)
  t_HUNDRED : Tok
  c_HUNDRED : mg "HUNDRED" = some (.int 256 t_HUNDRED)
end K2

namespace K2
open PySem PySem.Spec PyProof.Rows L2 Sky
section
variable {P : Program} {w : World} {K : PySem.W.Frag} {mg : Str → Option Value} {base : Heap}
/-! ### what may be handed in -/
def sp_is_number : Sp := fun vs H Q _ => ∃ n lo hi : Int, vs = [.int n, .int lo, .int hi] ∧ Q (.bl (decide (lo ≤ n) && decide (n ≤ hi))) H
theorem ok_is_number (T : Tx K mg) : FnOk P w K mg base CX0 1 T.a_is_number T.d_is_number ["value", "low", "high"] sp_is_number := by
  have nd := sc_is_number.nd
  refine T.F_is_number.ok sc_is_number (fun vs H Q E h => ?_) (fun cdv A outer s H vs Q E hr h => ?_)
  · obtain ⟨n, lo, hi, rfl, _⟩ := h
    rfl
  · obtain ⟨n, lo, hi, rfl, q⟩ := h
    refine ⟨_, (pss_one (ps_ret (pe_and (pe_callB call_isi (by rfl) T.z_isinstance (by decide +kernel) (pa_cons (pv 0) (pa_cons (pe_bltn (v := .ty "int") (u := .type "int") (by rfl) T.z_int (by decide +kernel) rfl) pa_nil))) (pe_and (pe_not (pe_callB call_isi (by rfl) T.z_isinstance (by decide +kernel) (pa_cons (pv 0) (pa_cons (pe_bltn (v := .ty "bool") (u := .type "bool") (by rfl) T.z_bool (by decide +kernel) rfl) pa_nil)))) (pe_one (pe_chain op_le op_le (pv 1) (pv 0) (pv 2))))))), ?_⟩
    refine ⟨_, rfl, _, _, _, _, true, rfl, .ty "int", .base (.int n), kit_ty (by decide +kernel), true, rfl, iteT ?_⟩
    refine ⟨_, rfl, _, _, _, _, false, rfl, .ty "bool", .base (.int n), kit_ty (by decide +kernel), false, rfl, true, rfl, iteT ?_⟩
    refine ⟨_, rfl, _, rfl, _, _, rfl, rfl, _, rfl, ite2 (fun a => ?_) (fun a => ?_)⟩
    · refine ⟨_, rfl, _, _, rfl, rfl, ?_⟩
      rw [a, Bool.true_and] at q
      exact q
    · rw [Bool.eq_false_iff.mpr a, Bool.false_and] at q
      exact q
def sp_is_stream : Sp := fun vs H Q _ => ∃ n : Int, vs = [.int n] ∧ Q (.bl (decide (0 ≤ n) && decide (n ≤ 3))) H
theorem ok_is_stream (T : Tx K mg) : FnOk P w K mg base CX0 2 T.a_is_stream T.d_is_stream ["value"] sp_is_stream := by
  have nd := sc_is_stream.nd
  refine T.F_is_stream.ok sc_is_stream (fun vs H Q E h => ?_) (fun cdv A outer s H vs Q E hr h => ?_)
  · obtain ⟨n, rfl, _⟩ := h
    rfl
  · obtain ⟨n, rfl, q⟩ := h
    refine ⟨_, (pss_one (ps_ret (pe_call (ok_is_number T) (hr.mono (by decide)) (by rfl) T.m_is_number T.F_is_number.kp T.b_is_number .nil pass0 (pa_cons (pv 0) (pa_cons pe_int (pa_cons (pe_op op_sub (pe_glob (v := .int 4) (by rfl) T.c_STREAMS ⟨_, rfl⟩) pe_int) pa_nil)))))), ?_⟩
    exact ⟨_, rfl, 4, 1, rfl, rfl, n, 0, 3, rfl, q⟩
def sp_check_stream : Sp := fun vs H Q _ => ∃ n : Int, vs = [.int n] ∧ 0 ≤ n ∧ n ≤ 3 ∧ Q .non H
theorem ok_check_stream (T : Tx K mg) : FnOk P w K mg base CX0 3 T.a_check_stream T.d_check_stream ["stream"] sp_check_stream := by
  have nd := sc_check_stream.nd
  refine T.F_check_stream.ok sc_check_stream (fun vs H Q E h => ?_) (fun cdv A outer s H vs Q E hr h => ?_)
  · obtain ⟨n, rfl, _⟩ := h
    rfl
  · obtain ⟨n, rfl, h0, h3, q⟩ := h
    refine ⟨_, (pss_one (ps_if (pt_not (pt_val (pe_call (ok_is_stream T) (hr.mono (by decide)) (by rfl) T.m_is_stream T.F_is_stream.kp T.b_is_stream .nil pass0 (pa_cons (pv 0) pa_nil)))) (pss_one ps_never) pss_nil)), ?_⟩
    refine ⟨_, rfl, n, rfl, ?_⟩
    rw [decide_eq_true h0, decide_eq_true h3]
    exact ⟨true, rfl, iteF q⟩
def sp_check_size : Sp := fun vs H Q _ => ∃ n : Int, vs = [.int n] ∧ 8 ≤ n ∧ n ≤ 24 ∧ Q .non H
theorem ok_check_size (T : Tx K mg) : FnOk P w K mg base CX0 2 T.a_check_size T.d_check_size ["size"] sp_check_size := by
  have nd := sc_check_size.nd
  refine T.F_check_size.ok sc_check_size (fun vs H Q E h => ?_) (fun cdv A outer s H vs Q E hr h => ?_)
  · obtain ⟨n, rfl, _⟩ := h
    rfl
  · obtain ⟨n, rfl, h0, h3, q⟩ := h
    refine ⟨_, (pss_one (ps_if (pt_not (pt_val (pe_call (ok_is_number T) (hr.mono (by decide)) (by rfl) T.m_is_number T.F_is_number.kp T.b_is_number .nil pass0 (pa_cons (pv 0) (pa_cons (pe_glob (v := .int 8) (by rfl) T.c_LEAST_SIZE ⟨_, rfl⟩) (pa_cons (pe_glob (v := .int 24) (by rfl) T.c_MOST_SIZE ⟨_, rfl⟩) pa_nil)))))) (pss_one ps_never) pss_nil)), ?_⟩
    refine ⟨_, rfl, n, 8, 24, rfl, ?_⟩
    rw [decide_eq_true h0, decide_eq_true h3]
    exact ⟨true, rfl, iteF q⟩
def sp_holds_numbers : Sp := fun vs H Q _ => ∃ (a : Addr) (xs : List Int), vs = [.ref a] ∧ H a = some (.tup (xs.map V.int)) ∧ (∀ x ∈ xs, 0 ≤ x ∧ x ≤ 255) ∧ xs.length ≤ 100000 ∧ ∀ H', Same H H' → Q (.bl true) H'
theorem ok_holds_numbers (T : Tx K mg) : FnOk P w K mg base CX0 2 T.a_holds_numbers T.d_holds_numbers ["value"] sp_holds_numbers := by
  have nd := sc_holds_numbers.nd
  refine T.F_holds_numbers.ok sc_holds_numbers (fun vs H Q E h => ?_) (fun cdv A outer s H vs Q E hr h => ?_)
  · obtain ⟨n, _, rfl, _⟩ := h
    rfl
  · obtain ⟨a, xs, rfl, ha, hx, hl, q⟩ := h
    refine ⟨_, (pss_one (ps_ret (pe_and (pe_callB call_isi (by rfl) T.z_isinstance (by decide +kernel) (pa_cons (pv 0) (pa_cons (pe_bltn (v := .ty "tuple") (u := .type "tuple") (by rfl) T.z_tuple (by decide +kernel) rfl) pa_nil))) (pe_one (pe_callB (cr_all rfl) (by rfl) T.z_all (by decide +kernel) (pa_cons (pe_lc (own := [("number", 1)]) rfl nd (pi_tup (pv 0)) (blkOk_by (own := [("number", 1)]) (N := N_holds_numbers) (sc := defScope s_holds_numbers) (by decide +kernel)) (fun _ _ _ _ _ => (pg_name (i := 1) nd rfl (Or.inl rfl))) (fun _ _ _ _ _ => pts_nil) (fun _ _ _ _ _ => (pe_call (ok_is_number T) (hr.mono (by decide)) (by rfl) T.m_is_number T.F_is_number.kp T.b_is_number .nil pass0 (pa_cons (pv 1) (pa_cons pe_int (pa_cons pe_int pa_nil)))))) pa_nil)))))), ?_⟩
    refine ⟨_, rfl, _, _, _, _, true, rfl, .ty "tuple", .base (.tup ha), kit_ty (by decide +kernel), true, rfl, iteT ?_⟩
    refine ⟨_, rfl, a, rfl, ⟨_, SqT.of ha⟩, fun D hD => ?_⟩
    refine lc_tup (K := K) (a := a) (xs := xs.map V.int) (fun i H' => Same H H' ∧ H' D = some (.lst ((List.replicate i true).map V.bl))) ⟨same_new (Same.refl H) hD, upd_same⟩ (fun i H' _ p => SqT.of (p.1 _ _ ha)) ?_ ?_
    · intro i x H' hi p
      obtain ⟨n, hn, rfl⟩ := map_get hi
      have hlt : i < xs.length := (List.getElem?_eq_some_iff.mp hn).1
      have hb := hx n (List.mem_of_getElem? hn)
      refine ⟨rfl, _, rfl, n, 0, 255, rfl, ?_⟩
      rw [decide_eq_true hb.1, decide_eq_true hb.2]
      refine ⟨_, p.2, ?_, same_mut p.1 hD, ?_⟩
      · rw [List.length_map, List.length_replicate]
        exact lt_line (by omega)
      · rw [upd_same, List.replicate_succ', List.map_append]
        rfl
    · intro H' p
      refine ⟨D, List.replicate (xs.map V.int).length true, rfl, SqL.of p.2, ?_⟩
      have e : (List.replicate (xs.map V.int).length true).all id = true := by simp
      rw [e]
      exact q _ p.1
end
end K2

namespace K2
open PySem PySem.Spec PyProof.Rows L2 Sky
section
variable {P : Program} {w : World} {K : PySem.W.Frag} {mg : Str → Option Value} {base : Heap}
def sp_is_telling : Sp := fun vs H Q _ => ∃ (a : Addr) (xs : List Int), vs = [.ref a] ∧ H a = some (.tup (xs.map V.int)) ∧ tellOk xs ∧ ∀ H', Same H H' → Q (.bl true) H'
theorem ok_is_telling (T : Tx K mg) : FnOk P w K mg base CX0 3 T.a_is_telling T.d_is_telling ["value"] sp_is_telling := by
  have nd := sc_is_telling.nd
  refine T.F_is_telling.ok sc_is_telling (fun vs H Q E h => ?_) (fun cdv A outer s H vs Q E hr h => ?_)
  · obtain ⟨n, _, rfl, _⟩ := h
    rfl
  · obtain ⟨a, xs, rfl, ha, ⟨h1, h2, h3⟩, q⟩ := h
    refine ⟨_, (pss_one (ps_ret (pe_and (pe_call (ok_holds_numbers T) (hr.mono (by decide)) (by rfl) T.m_holds_numbers T.F_holds_numbers.kp T.b_holds_numbers .nil pass0 (pa_cons (pv 0) pa_nil)) (pe_one (pe_chain op_le op_le pe_int (pe_callB call_len_seq (by rfl) T.z_len PySem.boot_len (pa_cons (pv 0) pa_nil)) (pe_glob (v := .int 20) (by rfl) T.c_MOST_NUMBERS ⟨_, rfl⟩)))))), ?_⟩
    refine ⟨_, rfl, a, xs, rfl, ha, h3, by omega, fun H1 s1 => ⟨true, rfl, iteT ?_⟩⟩
    refine ⟨_, rfl, _, _, rfl, .inr (SqT.of (s1 _ _ ha)), _, _, rfl, rfl, true, dT (by rw [List.length_map]; omega), iteT ?_⟩
    refine ⟨_, 20, rfl, rfl, ?_⟩
    show Q (.bl (decide (((xs.map V.int).length : Int) ≤ 20))) H1
    rw [decide_eq_true (show ((xs.map V.int).length : Int) ≤ 20 by rw [List.length_map]; omega)]
    exact q _ s1
def sp_check_telling : Sp := fun vs H Q _ => ∃ (a : Addr) (xs : List Int), vs = [.ref a] ∧ H a = some (.tup (xs.map V.int)) ∧ tellOk xs ∧ ∀ H', Same H H' → Q .non H'
theorem ok_check_telling (T : Tx K mg) : FnOk P w K mg base CX0 4 T.a_check_telling T.d_check_telling ["telling"] sp_check_telling := by
  have nd := sc_check_telling.nd
  refine T.F_check_telling.ok sc_check_telling (fun vs H Q E h => ?_) (fun cdv A outer s H vs Q E hr h => ?_)
  · obtain ⟨n, _, rfl, _⟩ := h
    rfl
  · obtain ⟨a, xs, rfl, ha, ⟨h1, h2, h3⟩, q⟩ := h
    refine ⟨_, (pss_one (ps_if (pt_not (pt_val (pe_call (ok_is_telling T) (hr.mono (by decide)) (by rfl) T.m_is_telling T.F_is_telling.kp T.b_is_telling .nil pass0 (pa_cons (pv 0) pa_nil)))) (pss_one ps_never) pss_nil)), ?_⟩
    exact ⟨_, rfl, a, xs, rfl, ha, ⟨h1, h2, h3⟩, fun H1 s1 => ⟨true, rfl, iteF (q _ s1)⟩⟩
end
end K2

namespace K2
open PySem PySem.Spec PyProof.Rows L2 Sky
def LF : List Str := ["many", "_stream", "_size", "_count", "_first", "_body"]
theorem LF_nd : LF.Nodup := by decide +kernel
def lf (m st z c : Int) (fo : Option Nat) (l : Addr) : List (Str × V) := LF.zip [.int m, .int st, .int z, .int c, optV fo, .ref l]
section
variable {m st z c x : Int} {fo : Option Nat} {l l' : Addr}
theorem lf_many : (lf m st z c fo l).lookup ("many" : Str) = some (.int m) := lookup_zip LF _ 0 _ LF_nd rfl rfl
theorem lf_stream : (lf m st z c fo l).lookup ("_stream" : Str) = some (.int st) := lookup_zip LF _ 1 _ LF_nd rfl rfl
theorem lf_size : (lf m st z c fo l).lookup ("_size" : Str) = some (.int z) := lookup_zip LF _ 2 _ LF_nd rfl rfl
theorem lf_count : (lf m st z c fo l).lookup ("_count" : Str) = some (.int c) := lookup_zip LF _ 3 _ LF_nd rfl rfl
theorem lf_first : (lf m st z c fo l).lookup ("_first" : Str) = some (optV fo) := lookup_zip LF _ 4 _ LF_nd rfl rfl
theorem lf_body : (lf m st z c fo l).lookup ("_body" : Str) = some (.ref l) := lookup_zip LF _ 5 _ LF_nd rfl rfl
theorem lf_no {f : Str} (h : f ∉ LF) : (lf m st z c fo l).lookup f = none := lookup_zip_none LF _ _ h
theorem pf_many : putF "many" (.int x) (lf m st z c fo l) = lf x st z c fo l := putF_zip LF _ 0 _ _ LF_nd rfl rfl
theorem pf_count : putF "_count" (.int x) (lf m st z c fo l) = lf m st z x fo l := putF_zip LF _ 3 _ _ LF_nd rfl rfl
theorem pf_first {o : Option Nat} : putF "_first" (optV o) (lf m st z c fo l) = lf m st z c o l := putF_zip LF _ 4 _ _ LF_nd rfl rfl
theorem pf_body : putF "_body" (.ref l') (lf m st z c fo l) = lf m st z c fo l' := putF_zip LF _ 5 _ _ LF_nd rfl rfl
theorem lf_few : (lf m st z c fo l).length < 1000 := Nat.lt_of_le_of_lt (zip_len LF _) (by decide)
end
section
variable {P : Program} {w : World} {K : PySem.W.Frag} {mg : Str → Option Value} {base : Heap}
/-! ### _done -/
def sp_done (C : Addr) : Sp := fun vs H Q _ => ∃ (p dx l : Addr) (m st z c : Int) (fo : Option Nat) (b : List Int), vs = [.ref p] ∧ H p = some (.ins C dx (lf m st z c fo l)) ∧ H l = some (.lst (b.map V.int)) ∧
  ∀ f H' l', TD H' (.ref f) (.tuple [.int st, .int c, optD fo, tlD b]) → H' p = some (.ins C dx (lf m st z (c + 1) none l')) → H' l' = some (.lst []) → H l' = none → H f = none → Keep [p] H H' → Q (.ref f) H'
theorem ok_Laying_done (T : Tx K mg) : FnOk P w K mg base CX0 1 T.a_Laying_done T.d_Laying_done ["self"] (sp_done T.A_Laying) := by
  have nd := sc_Laying_done.nd
  refine T.F_Laying_done.ok sc_Laying_done (fun vs H Q E h => ?_) (fun cdv A outer s H vs Q E hr h => ?_)
  · obtain ⟨p, _, _, _, _, _, _, _, _, rfl, _⟩ := h
    rfl
  · obtain ⟨p, dx, l, m, st, z, c, fo, b, rfl, hp, hl, q⟩ := h
    refine ⟨_, (pss_cons (ps_set (i := 1) nd rfl (Or.inl rfl) (pe_tup (pa_cons (pe_fld (pv 0) rfl) (pa_cons (pe_fld (pv 0) rfl) (pa_cons (pe_fld (pv 0) rfl) (pa_cons (pe_tupleOf (by rfl) T.z_tuple (pe_fld (pv 0) rfl)) pa_nil)))))) (pss_cons (ps_fldaug (pv 0) pe_int in_add) (pss_cons (ps_fld (pv 0) pe_non rfl) (pss_cons (ps_fld (pv 0) (pe_lst pa_nil) rfl) (pss_one (ps_ret (pv 1))))))), ?_⟩
    refine ⟨_, rfl, p, _, dx, _, _, rfl, hp, T.cl_Laying, T.n_Laying_stream, lf_stream, ?_⟩
    refine ⟨_, rfl, p, _, dx, _, _, rfl, hp, T.cl_Laying, T.n_Laying_count, lf_count, ?_⟩
    refine ⟨_, rfl, p, _, dx, _, _, rfl, hp, T.cl_Laying, T.n_Laying_first, lf_first, ?_⟩
    refine ⟨_, rfl, p, _, dx, _, _, rfl, hp, T.cl_Laying, T.n_Laying_body, lf_body, .inl ⟨l, _, rfl, SqL.of hl, fun b' hb' => ?_⟩⟩
    refine ⟨(by decide : (4 : Nat) ≤ sizeLine), fun f hf => ?_⟩
    have hf' : H f = none := (same_new (Same.refl H) hb').free hf
    have npb : p ≠ b' := ne_of_none hp hb'
    have npf : p ≠ f := ne_of_none hp hf'
    have nbf : b' ≠ f := ne_of_none upd_same hf
    have k1 : Keep [p] H (upd (upd H b' (.tup (b.map V.int))) f (.tup [.int st, .int c, optV fo, .ref b'])) := keep_new (keep_new (Keep.refl _ _) hb') hf'
    generalize hH1 : upd (upd H b' (.tup (b.map V.int))) f (.tup [.int st, .int c, optV fo, .ref b']) = H1 at *
    have p1 : H1 p = some (.ins T.A_Laying dx (lf m st z c fo l)) := by rw [← hH1, upd_ne npf, upd_ne npb]; exact hp
    have t1 : TD H1 (.ref f) (.tuple [.int st, .int c, optD fo, tlD b]) := by
      refine .tup (by rw [← hH1]; exact upd_same) (.cons (.int _) (.cons (.int _) (.cons (TD.opt _) (.cons (TD.tl ?_) .nil))))
      rw [← hH1, upd_ne nbf]
      exact upd_same
    -- self._count += 1
    refine ⟨_, rfl, p, _, dx, _, _, rfl, p1, T.cl_Laying, T.n_Laying_count, lf_count, c, 1, rfl, rfl, dx, _, p1, lf_few, ?_⟩
    rw [pf_count]
    refine ⟨_, rfl, p, _, dx, _, rfl, upd_same, T.cl_Laying, T.n_Laying_first, lf_few, ?_⟩
    rw [show putF "_first" V.non _ = _ from pf_first (o := none), upd_upd]
    refine ⟨Nat.zero_le _, fun l' hl' => ?_⟩
    have npl : p ≠ l' := ne_of_none upd_same hl'
    have hl1 : H1 l' = none := by rw [upd_ne npl.symm] at hl'; exact hl'
    refine ⟨_, rfl, p, _, dx, _, rfl, (by rw [upd_ne npl]; exact upd_same), T.cl_Laying, T.n_Laying_body, lf_few, ?_⟩
    rw [pf_body]
    have hl0 : H l' = none := by
      rw [← hH1] at hl1
      have := (same_new (Same.refl _) hf).free hl1
      exact (same_new (Same.refl _) hb').free this
    refine ⟨_, rfl, q f _ l' ?_ upd_same (by rw [upd_ne npl.symm]; exact upd_same) hl0 hf' ?_⟩
    · refine t1.mono (ts_upd (ts_upd (ts_upd (TSm.refl _) (NoT.ins p1)) (NoT.none hl')) (NoT.ins (by rw [upd_ne npl]; exact upd_same)))
    · exact keep_upd (keep_new (keep_upd k1 (by simp)) hl0) (by simp)
/-! ### __init__ -/
def sp_init (C : Addr) : Sp := fun vs H Q _ => ∃ (p dx : Addr) (st z : Int), vs = [.ref p, .int st, .int z] ∧ H p = some (.ins C dx []) ∧
  ∀ H' l, H' p = some (.ins C dx (lf 0 st z 0 none l)) → H' l = some (.lst []) → H l = none → Keep [p] H H' → Q .non H'
theorem ok_Laying_init (T : Tx K mg) : FnOk P w K mg base CX0 1 T.a_Laying_init T.d_Laying_init ["self", "stream", "size"] (sp_init T.A_Laying) := by
  have nd := sc_Laying_init.nd
  refine T.F_Laying_init.ok sc_Laying_init (fun vs H Q E h => ?_) (fun cdv A outer s H vs Q E hr h => ?_)
  · obtain ⟨p, _, _, _, rfl, _⟩ := h
    rfl
  · obtain ⟨p, dx, st, z, rfl, hp, q⟩ := h
    refine ⟨_, (pss_cons (ps_fld (pv 0) pe_int rfl) (pss_cons (ps_fld (pv 0) (pv 1) rfl) (pss_cons (ps_fld (pv 0) (pv 2) rfl) (pss_cons (ps_fld (pv 0) pe_int rfl) (pss_cons (ps_fld (pv 0) pe_non rfl) (pss_one (ps_fld (pv 0) (pe_lst pa_nil) rfl))))))), ?_⟩
    refine ⟨_, rfl, p, _, dx, _, rfl, hp, T.cl_Laying, T.n_Laying_many, (by decide), ?_⟩
    rw [show putF "many" (V.int 0) [] = (LF.take 1).zip [.int 0] from rfl]
    refine ⟨_, rfl, _, rfl, p, _, dx, _, rfl, upd_same, T.cl_Laying, T.n_Laying_stream, (Nat.lt_of_le_of_lt (zip_len _ _) (by decide)), ?_⟩
    rw [upd_upd, putF_take (i := 1) LF_nd rfl rfl]
    refine ⟨_, rfl, _, rfl, p, _, dx, _, rfl, upd_same, T.cl_Laying, T.n_Laying_size, (Nat.lt_of_le_of_lt (zip_len _ _) (by decide)), ?_⟩
    rw [upd_upd, putF_take (i := 2) LF_nd rfl rfl]
    refine ⟨_, rfl, p, _, dx, _, rfl, upd_same, T.cl_Laying, T.n_Laying_count, (Nat.lt_of_le_of_lt (zip_len _ _) (by decide)), ?_⟩
    rw [upd_upd, putF_take (i := 3) LF_nd rfl rfl]
    refine ⟨_, rfl, p, _, dx, _, rfl, upd_same, T.cl_Laying, T.n_Laying_first, (Nat.lt_of_le_of_lt (zip_len _ _) (by decide)), ?_⟩
    rw [upd_upd, putF_take (i := 4) LF_nd rfl rfl]
    refine ⟨Nat.zero_le _, fun l hl => ?_⟩
    have npl : p ≠ l := ne_of_none upd_same hl
    have hl0 : H l = none := by rw [upd_ne npl.symm] at hl; exact hl
    refine ⟨_, rfl, p, _, dx, _, rfl, (by rw [upd_ne npl]; exact upd_same), T.cl_Laying, T.n_Laying_body, (Nat.lt_of_le_of_lt (zip_len _ _) (by decide)), ?_⟩
    rw [putF_take (i := 5) LF_nd rfl rfl]
    exact q _ l upd_same (by rw [upd_ne npl.symm]; exact upd_same) hl0 (keep_upd (keep_new (keep_upd (Keep.refl _ _) (by simp)) hl0) (by simp))
/-! ### the object as it stands -/
def LAt (C : Addr) (H : Hp) (p dx l : Addr) (st : Int) (z : Nat) (N : List Int) (S : List Nat) : Prop :=
  H p = some (.ins C dx (lf (S.length : Nat) st (z : Nat) (N.length / z : Nat) (firstOf z (N.length / z) S) l)) ∧ H l = some (.lst ((N.drop (N.length / z * z)).map V.int))
/-! ### fill -/
def sp_fill (C : Addr) : Sp := fun vs H Q _ => ∃ (p dx l : Addr) (st : Int) (z : Nat) (N : List Int) (S : List Nat), vs = [.ref p] ∧ LAt C H p dx l st z N S ∧ 0 < z ∧ z ≤ 100 ∧ Laid N S ∧
  (N.length % z = 0 → Q .non H) ∧
  (N.length % z ≠ 0 → ∀ f H' l', TD H' (.ref f) (frmD st (N.length / z, firstOf z (N.length / z) S, N.drop (N.length / z * z) ++ List.replicate (z - N.length % z) 0)) → LAt C H' p dx l' st z (padN z N) S → H l' = none → H f = none → Keep [p, l] H H' → Q (.ref f) H')
theorem ok_Laying_fill (T : Tx K mg) : FnOk P w K mg base CX0 2 T.a_Laying_fill T.d_Laying_fill ["self"] (sp_fill T.A_Laying) := by
  have nd := sc_Laying_fill.nd
  refine T.F_Laying_fill.ok sc_Laying_fill (fun vs H Q E h => ?_) (fun cdv A outer s H vs Q E hr h => ?_)
  · obtain ⟨p, _, _, _, _, _, _, rfl, _⟩ := h
    rfl
  · obtain ⟨p, dx, l, st, z, N, S, rfl, ⟨hp, hl⟩, hz, hz1, hL, q0, q1⟩ := h
    refine ⟨_, (pss_cons (ps_if (pt_not (pt_truth (pe_fld (pv 0) rfl) (by intro _; rfl))) (pss_one (ps_ret pe_non)) pss_nil) (pss_cons (ps_expr (pe_bm PySem.F.plainAttrs_list PySem.F.slot_list_extend PySem.F.type_list_extend mt_extend (pe_fld (pv 0) rfl) (pa_cons (pe_op op_rep (pe_lst (pa_cons pe_int pa_nil)) (pe_op op_sub (pe_fld (pv 0) rfl) (pe_callB call_len_seq (by rfl) T.z_len PySem.boot_len (pa_cons (pe_fld (pv 0) rfl) pa_nil)))) pa_nil))) (pss_one (ps_ret (pe_meth0 (pv 0) T.cl_Laying T.M_Laying_done (ok_Laying_done T) (hr.mono (by decide)) T.b_Laying_done .nil pass0))))), ?_⟩
    refine ⟨_, rfl, p, _, dx, _, _, rfl, hp, T.cl_Laying, T.n_Laying_body, lf_body, _, .inl ⟨_, SqL.of hl, rfl⟩, ?_⟩
    have hbl := body_length z N
    by_cases hm : N.length % z = 0
    · have e : N.drop (N.length / z * z) = [] := List.eq_nil_of_length_eq_zero (by omega)
      rw [e]
      exact q0 hm
    · have e : (!(!((N.drop (N.length / z * z)).map V.int).isEmpty)) = false := by
        cases hd : N.drop (N.length / z * z) with
        | nil => rw [hd] at hbl; simp at hbl; omega
        | cons x r => rfl
      show (if (!(!((N.drop (N.length / z * z)).map V.int).isEmpty)) = true then _ else _)
      rw [e]
      refine iteF ?_
      -- self._body.extend([0] * (self._size - len(self._body)))
      refine ⟨_, rfl, p, _, dx, _, _, rfl, hp, T.cl_Laying, T.n_Laying_body, lf_body, .inl ⟨rfl, _, SqL.of hl⟩, ?_⟩
      refine ⟨(by decide : (1 : Nat) ≤ sizeLine), fun a ha => ?_⟩
      have k1 : Keep [p, l] H (upd H a (.lst [.int 0])) := keep_new (Keep.refl _ _) ha
      have npa : p ≠ a := ne_of_none hp ha
      have nla : l ≠ a := ne_of_none hl ha
      have hp1 : upd H a (.lst [.int 0]) p = some (.ins T.A_Laying dx (lf (S.length : Nat) st (z : Nat) (N.length / z : Nat) (firstOf z (N.length / z) S) l)) := by rw [upd_ne npa]; exact hp
      have hl1 : upd H a (.lst [.int 0]) l = some (.lst ((N.drop (N.length / z * z)).map V.int)) := by rw [upd_ne nla]; exact hl
      refine ⟨_, rfl, p, _, dx, _, _, rfl, hp1, T.cl_Laying, T.n_Laying_size, lf_size, ?_⟩
      refine ⟨_, rfl, p, _, dx, _, _, rfl, hp1, T.cl_Laying, T.n_Laying_body, lf_body, l, _, rfl, .inl (SqL.of hl1), _, _, rfl, rfl, ?_⟩
      have hlen : ((N.drop (N.length / z * z)).map V.int).length = N.length % z := by rw [List.length_map, hbl]
      have hmz := Nat.mod_lt N.length hz
      refine ⟨a, _, _, rfl, rfl, upd_same, (by omega), (by omega), le_line (by rw [List.length_singleton]; omega), fun b hb => ?_⟩
      have hb0 : H b = none := (same_new (Same.refl _) ha).free hb
      have nlb : l ≠ b := ne_of_none hl hb0
      have npb : p ≠ b := ne_of_none hp hb0
      have ez : (List.replicate (((z : Nat) : Int) - ((((N.drop (N.length / z * z)).map V.int).length : Nat) : Int)).toNat [V.int 0]).flatten = (List.replicate (z - N.length % z) (0 : Int)).map V.int := by
        rw [hlen, show (((z : Nat) : Int) - ((N.length % z : Nat) : Int)).toNat = z - N.length % z by omega]
        induction (z - N.length % z) with
        | zero => rfl
        | succ n ih => rw [List.replicate_succ, List.replicate_succ, List.flatten_cons, ih]; rfl
      rw [ez]
      refine ⟨l, b, _, _, rfl, rfl, (by rw [upd_ne nlb]; exact hl1), upd_same, le_line (by rw [List.length_map, List.length_map, List.length_replicate, hbl]; omega), ?_⟩
      rw [← List.map_append]
      have npl : p ≠ l := ne_of hp hl (by intro e; cases e)
      have hp2 : upd (upd (upd H a (.lst [.int 0])) b (.lst ((List.replicate (z - N.length % z) (0 : Int)).map V.int))) l (.lst ((N.drop (N.length / z * z) ++ List.replicate (z - N.length % z) 0).map V.int)) p = some (.ins T.A_Laying dx (lf (S.length : Nat) st (z : Nat) (N.length / z : Nat) (firstOf z (N.length / z) S) l)) := by
        rw [upd_ne npl, upd_ne npb]
        exact hp1
      have k2 := keep_upd (o := .lst ((N.drop (N.length / z * z) ++ List.replicate (z - N.length % z) 0).map V.int)) (keep_new (o := .lst ((List.replicate (z - N.length % z) (0 : Int)).map V.int)) k1 hb0) (show l ∈ [p, l] by simp)
      refine ⟨_, rfl, p, dx, _, rfl, hp2, lf_no (by decide +kernel), p, dx, l, _, _, _, _, _, _, rfl, hp2, upd_same, fun f H' l' tf hp' hl' nl nf k => ?_⟩
      have nl0 : H l' = none := by
        cases e : H l' with
        | none => rfl
        | some o =>
          by_cases e1 : l' ∈ [p, l]
          · rcases List.mem_cons.mp e1 with z1 | z1
            · subst z1; rw [hp2] at nl; cases nl
            · rw [List.mem_singleton.mp z1, upd_same] at nl; cases nl
          · rw [k2 _ _ e1 e] at nl; cases nl
      have nf0 : H f = none := by
        cases e : H f with
        | none => rfl
        | some o =>
          by_cases e1 : f ∈ [p, l]
          · rcases List.mem_cons.mp e1 with z1 | z1
            · subst z1; rw [hp2] at nf; cases nf
            · rw [List.mem_singleton.mp z1, upd_same] at nf; cases nf
          · rw [k2 _ _ e1 e] at nf; cases nf
      refine q1 hm f H' l' tf ⟨?_, ?_⟩ nl0 nf0 (k2.trans (k.mono (by simp)))
      · have e1 : (padN z N).length = (N.length / z + 1) * z := by
          unfold padN
          rw [if_neg hm, List.length_append, List.length_replicate, Nat.succ_mul]
          have := div_mod z N.length
          omega
        have e2 : (padN z N).length / z = N.length / z + 1 := by rw [e1, Nat.mul_div_cancel _ hz]
        rw [e2, firstOf_none (fun s hs => ?_)]
        · exact hp'
        · have := hL.le s hs
          have := div_hi hz N.length
          rw [Nat.succ_mul]
          omega
      · have e1 : (padN z N).length = (N.length / z + 1) * z := by
          unfold padN
          rw [if_neg hm, List.length_append, List.length_replicate, Nat.succ_mul]
          have := div_mod z N.length
          omega
        have e2 : (padN z N).length / z * z = (padN z N).length := by rw [e1, Nat.mul_div_cancel _ hz]
        rw [e2, List.drop_length]
        exact hl'
end
end K2

namespace K2
open PySem PySem.Spec PyProof.Rows L2 Sky
section
variable {P : Program} {w : World} {K : PySem.W.Frag} {mg : Str → Option Value} {base : Heap}
/-! ### lay -/
def sp_lay (C : Addr) : Sp := fun vs H Q _ => ∃ (p dx l a : Addr) (st : Int) (z : Nat) (N : List Int) (S : List Nat) (t : List Int), vs = [.ref p, .ref a] ∧ LAt C H p dx l st z N S ∧ 0 < z ∧ z ≤ 100 ∧ Laid N S ∧
  H a = some (.tup (t.map V.int)) ∧ t.length ≤ 1000 ∧
  ∀ r us H' l', H' r = some (.lst us) → TDs H' us (((frms z (lay1 (N, S) t).1 (lay1 (N, S) t).2).drop (N.length / z)).map (frmD st)) → LAt C H' p dx l' st z (lay1 (N, S) t).1 (lay1 (N, S) t).2 →
    (l' = l ∨ H l' = none) → H r = none → Keep [p, l] H H' → Dom H H' → Q (.ref r) H'
theorem ok_Laying_lay (T : Tx K mg) : FnOk P w K mg base CX0 2 T.a_Laying_lay T.d_Laying_lay ["self", "telling"] (sp_lay T.A_Laying) := by
  have nd := sc_Laying_lay.nd
  refine T.F_Laying_lay.ok sc_Laying_lay (fun vs H Q E h => ?_) (fun cdv A outer s H vs Q E hr h => ?_)
  · obtain ⟨p, _, _, _, _, _, _, _, _, rfl, _⟩ := h
    rfl
  · obtain ⟨p, dx, l, a, st, z, N, S, t, rfl, ⟨hp, hl⟩, hz, hz1, hL, ha, ht, q⟩ := h
    have npl : p ≠ l := ne_of hp hl (by intro e; cases e)
    have nap : a ≠ p := ne_of ha hp (by intro e; cases e)
    have nal : a ≠ l := ne_of ha hl (by intro e; cases e)
    have hbl := body_length z N
    refine ⟨_, (pss_cons (ps_if (pt_cmpR op_isN (pe_fld (pv 0) rfl) pe_non (nomark _)) (pss_one (ps_fld (pv 0) (pe_callB call_len_seq (by rfl) T.z_len PySem.boot_len (pa_cons (pe_fld (pv 0) rfl) pa_nil)) rfl)) pss_nil) (pss_cons (ps_set (i := 2) nd rfl (Or.inl rfl) (pe_lst (pa_cons (pe_callB call_len_seq (by rfl) T.z_len PySem.boot_len (pa_cons (pv 1) pa_nil)) (pa_cons (pe_op op_fdivN (pe_fld (pv 0) rfl) (pe_glob (v := .int 256) (by rfl) T.c_HUNDRED ⟨_, rfl⟩)) (pa_cons (pe_op op_modN (pe_fld (pv 0) rfl) (pe_glob (v := .int 256) (by rfl) T.c_HUNDRED ⟨_, rfl⟩)) (StX.pa_star (pv 1) pa_nil)))))) (pss_cons (ps_fldaug (pv 0) pe_int in_add) (pss_cons (ps_set (i := 3) nd rfl (Or.inl rfl) (pe_lst pa_nil)) (pss_cons (ps_for PassesOwn.never rfl (pi_list (pv 2)) (pg_name (i := 4) nd rfl (Or.inl rfl)) (pss_cons (ps_expr (pe_bm PySem.F.plainAttrs_list PySem.F.slot_list_append PySem.F.type_list_append mt_append (pe_fld (pv 0) rfl) (pa_cons (pv 4) pa_nil))) (pss_one (ps_if (pt_cmpR op_eq (pe_callB call_len_seq (by rfl) T.z_len PySem.boot_len (pa_cons (pe_fld (pv 0) rfl) pa_nil)) (pe_fld (pv 0) rfl) (nomark _)) (pss_one (ps_expr (pe_bm PySem.F.plainAttrs_list PySem.F.slot_list_append PySem.F.type_list_append mt_append (pv 3) (pa_cons (pe_meth0 (pv 0) T.cl_Laying T.M_Laying_done (ok_Laying_done T) (hr.mono (by decide)) T.b_Laying_done .nil pass0) pa_nil)))) pss_nil)))) (pss_one (ps_ret (pv 3)))))))), ?_⟩
    -- if self._first is None: self._first = len(self._body)
    refine ⟨_, rfl, p, _, dx, _, _, rfl, hp, T.cl_Laying, T.n_Laying_first, lf_first, rfl, _, rfl, ?_⟩
    refine if_skip (fun H1 => H1 p = some (.ins T.A_Laying dx (lf (S.length : Nat) st (z : Nat) (N.length / z : Nat) (firstOf z (N.length / z) (S ++ [N.length])) l)) ∧ H1 l = some (.lst ((N.drop (N.length / z * z)).map V.int)) ∧ Keep [p, l] H H1 ∧ Dom H H1)
      (fun H1 ⟨hp1, hl1, k1, d1⟩ => ?_) (fun e rest => ?_) (fun e => ?_)
    case refine_2.refine_2 =>
      refine ⟨_, rfl, p, _, dx, _, _, rfl, hp, T.cl_Laying, T.n_Laying_body, lf_body, l, _, rfl, .inl (SqL.of hl), _, rfl, p, _, dx, _, rfl, hp, T.cl_Laying, T.n_Laying_first, lf_few, ?_⟩
      have e0 : firstOf z (N.length / z) S = none := by
        have := of_decide_eq_true e
        cases h : firstOf z (N.length / z) S with
        | none => rfl
        | some x => rw [h] at this; cases this
      have e1 : V.int (((N.drop (N.length / z * z)).map V.int).length : Nat) = optV (some (N.length % z)) := by rw [List.length_map, hbl]; rfl
      rw [e1, pf_first]
      refine rest _ ⟨?_, by rw [upd_ne npl.symm]; exact hl, keep_upd (Keep.refl _ _) (by simp), dom_upd _ _ _⟩
      rw [upd_same, first_start hz, e0]
      rfl
    case refine_2.refine_3 =>
      refine ⟨?_, hl, Keep.refl _ _, Dom.refl _⟩
      rw [hp, first_start hz]
      cases h : firstOf z (N.length / z) S with
      | none => rw [h] at e; exact absurd (decide_eq_true rfl) e
      | some x => rfl
    -- laid = [..]
    have ha1 : H1 a = some (.tup (t.map V.int)) := k1 _ _ (by simp [nap, nal]) ha
    refine ⟨_, rfl, a, _, rfl, .inr (SqT.of ha1), ?_⟩
    refine ⟨_, rfl, p, _, dx, _, _, rfl, hp1, T.cl_Laying, T.n_Laying_many, lf_many, _, 256, rfl, rfl, (show CDivN _ 256 from ⟨by decide, by decide⟩), ?_⟩
    refine ⟨_, rfl, p, _, dx, _, _, rfl, hp1, T.cl_Laying, T.n_Laying_many, lf_many, _, 256, rfl, rfl, (by decide : (256 : Int) ≠ 0), ?_⟩
    refine ⟨_, rfl, a, _, rfl, .inl (SqT.of ha1), ?_⟩
    have elaid : (V.int (((t.map V.int).length : Nat) : Int) :: V.int (((S.length : Nat) : Int).fdiv 256) :: V.int (((S.length : Nat) : Int).fmod 256) :: (t.map V.int ++ [])) = (laidN (S.length : Nat) t).map V.int := by
      unfold laidN
      rw [List.append_nil, List.length_map]
      rfl
    refine ⟨?_, fun ll hll => ?_⟩
    · show (V.int (((t.map V.int).length : Nat) : Int) :: V.int (((S.length : Nat) : Int).fdiv 256) :: V.int (((S.length : Nat) : Int).fmod 256) :: (t.map V.int ++ [])).length ≤ sizeLine
      rw [elaid, List.length_map, laidN_length]
      exact le_line (by omega)
    show tSeq _ _ _ (L2.start N_Laying_lay [V.ref p, V.ref a] |>.set 2 (some (.ref ll))) (upd H1 ll (.lst (V.int (((t.map V.int).length : Nat) : Int) :: V.int (((S.length : Nat) : Int).fdiv 256) :: V.int (((S.length : Nat) : Int).fmod 256) :: (t.map V.int ++ []))))
    rw [elaid]
    have nll0 : H ll = none := d1 _ hll
    have nlp : p ≠ ll := ne_of_none hp1 hll
    have nlb : l ≠ ll := ne_of_none hl1 hll
    -- self.many += 1
    refine ⟨_, rfl, p, _, dx, _, _, rfl, (by rw [upd_ne nlp]; exact hp1), T.cl_Laying, T.n_Laying_many, lf_many, _, 1, rfl, rfl, dx, _, (by rw [upd_ne nlp]; exact hp1), lf_few, ?_⟩
    rw [pf_many]
    -- full = []
    refine ⟨Nat.zero_le _, fun fl hfl => ?_⟩
    have nfp : p ≠ fl := ne_of_none upd_same hfl
    have hfl1 := hfl
    rw [upd_ne nfp.symm] at hfl1
    have nfl : ll ≠ fl := ne_of_none upd_same hfl1
    rw [upd_ne nfl.symm] at hfl1
    have nfb : l ≠ fl := ne_of_none hl1 hfl1
    have nfl0 : H fl = none := d1 _ hfl1
    have nff : a ≠ fl := ne_of_none ha1 hfl1
    have nfa : a ≠ ll := ne_of_none ha1 hll
    have kb : Keep [p, l] H (upd (upd (upd H1 ll (.lst ((laidN (S.length : Nat) t).map V.int))) p (.ins T.A_Laying dx (lf ((S.length : Nat) + 1) st (z : Nat) (N.length / z : Nat) (firstOf z (N.length / z) (S ++ [N.length])) l))) fl (.lst [])) :=
      keep_new (keep_upd (keep_new k1 nll0) (by simp)) nfl0
    have db : Dom H (upd (upd (upd H1 ll (.lst ((laidN (S.length : Nat) t).map V.int))) p (.ins T.A_Laying dx (lf ((S.length : Nat) + 1) st (z : Nat) (N.length / z : Nat) (firstOf z (N.length / z) (S ++ [N.length])) l))) fl (.lst [])) := ((d1.upd _ _).upd _ _).upd _ _
    have hpb : (upd (upd (upd H1 ll (.lst ((laidN (S.length : Nat) t).map V.int))) p (.ins T.A_Laying dx (lf ((S.length : Nat) + 1) st (z : Nat) (N.length / z : Nat) (firstOf z (N.length / z) (S ++ [N.length])) l))) fl (.lst [])) p = some (.ins T.A_Laying dx (lf ((S ++ [N.length]).length : Nat) st (z : Nat) (N.length / z : Nat) (firstOf z (N.length / z) (S ++ [N.length])) l)) := by
      rw [upd_ne nfp, upd_same, List.length_append]
      rfl
    have hlb : (upd (upd (upd H1 ll (.lst ((laidN (S.length : Nat) t).map V.int))) p (.ins T.A_Laying dx (lf ((S.length : Nat) + 1) st (z : Nat) (N.length / z : Nat) (firstOf z (N.length / z) (S ++ [N.length])) l))) fl (.lst [])) l = some (.lst ((N.drop (N.length / z * z)).map V.int)) := by
      rw [upd_ne nfb, upd_ne npl.symm, upd_ne nlb]
      exact hl1
    have hllb : (upd (upd (upd H1 ll (.lst ((laidN (S.length : Nat) t).map V.int))) p (.ins T.A_Laying dx (lf ((S.length : Nat) + 1) st (z : Nat) (N.length / z : Nat) (firstOf z (N.length / z) (S ++ [N.length])) l))) fl (.lst [])) ll = some (.lst ((laidN (S.length : Nat) t).map V.int)) := by
      rw [upd_ne nfl, upd_ne nlp.symm, upd_same]
    have hflb : (upd (upd (upd H1 ll (.lst ((laidN (S.length : Nat) t).map V.int))) p (.ins T.A_Laying dx (lf ((S.length : Nat) + 1) st (z : Nat) (N.length / z : Nat) (firstOf z (N.length / z) (S ++ [N.length])) l))) fl (.lst [])) fl = some (.lst []) := upd_same
    generalize (upd (upd (upd H1 ll (.lst ((laidN (S.length : Nat) t).map V.int))) p (.ins T.A_Laying dx (lf ((S.length : Nat) + 1) st (z : Nat) (N.length / z : Nat) (firstOf z (N.length / z) (S ++ [N.length])) l))) fl (.lst [])) = Hb at *
    -- the loop
    refine ⟨_, rfl, ll, rfl, ⟨_, SqL.of hllb⟩, ?_⟩
    refine for_list (K := K) (a := ll) (xs := (laidN (S.length : Nat) t).map V.int) (fun i σ H' => ∃ (v : Option V) (l' : Addr) (us : List V), σ = [some (.ref p), some (.ref a), some (.ref ll), some (.ref fl), v] ∧ (l' = l ∨ Hb l' = none) ∧
      LAt T.A_Laying H' p dx l' st z (N ++ (laidN (S.length : Nat) t).take i) (S ++ [N.length]) ∧ H' fl = some (.lst us) ∧ TDs H' us (((frms z (N ++ (laidN (S.length : Nat) t).take i) (S ++ [N.length])).drop (N.length / z)).map (frmD st)) ∧ Keep [p, l, fl] Hb H' ∧ Dom Hb H' ∧ us.length ≤ i) ?_ ?_ ?_ ?_
    · refine ⟨none, l, [], rfl, .inl rfl, ?_, hflb, ?_, Keep.refl _ _, Dom.refl _, Nat.le_refl _⟩
      · rw [List.take_zero, List.append_nil]
        exact ⟨hpb, hlb⟩
      · rw [List.take_zero, List.append_nil, frms_start, List.drop_of_length_le (by rw [frms_length]; exact Nat.le_refl _)]
        exact .nil
    · rintro i σ H' _ ⟨v, l', us, _, _, _, _, _, k, _, _⟩
      exact SqL.of (k _ _ (by simp [nlp.symm, nlb.symm, nfl]) hllb)
    · rintro i y σ H' hi ⟨v, l', us, rfl, hl', ⟨hp', hb'⟩, hf', hu, k, d, hus⟩
      obtain ⟨x, hx, rfl⟩ := map_get hi
      have hi3 : i < t.length + 3 := by rw [← laidN_length (S.length : Nat) t]; exact (List.getElem?_eq_some_iff.mp hx).1
      have npl' : p ≠ l' := ne_of hp' hb' (by intro e; cases e)
      have nfl' : fl ≠ l' := by
        rcases hl' with e | e
        · rw [e]; exact nfb.symm
        · exact ne_of_none hflb e
      have etake : N ++ (laidN (S.length : Nat) t).take (i + 1) = (N ++ (laidN (S.length : Nat) t).take i) ++ [x] := by rw [List.take_add_one, hx, List.append_assoc]; rfl
      have hLi : Laid (N ++ (laidN (S.length : Nat) t).take i) (S ++ [N.length]) := (hL.start).more _
      have hN0 : N.length ≤ (N ++ (laidN (S.length : Nat) t).take i).length := by rw [List.length_append]; exact Nat.le_add_right _ _
      have hS0 : ∀ s ∈ S ++ [N.length], s ≤ N.length := hL.start.le
      rw [etake]
      generalize N ++ (laidN (S.length : Nat) t).take i = Ni at *
      have hbi := body_length z Ni
      -- self._body.append(number)
      refine ⟨_, rfl, p, _, dx, _, _, rfl, hp', T.cl_Laying, T.n_Laying_body, lf_body, .inl ⟨rfl, _, SqL.of hb'⟩, _, rfl, l', _, _, rfl, rfl, hb', lt_line (by rw [List.length_map, hbi]; have := Nat.mod_lt Ni.length hz; omega), ?_⟩
      rw [show (Ni.drop (Ni.length / z * z)).map V.int ++ [V.int x] = (Ni.drop (Ni.length / z * z) ++ [x]).map V.int by rw [List.map_append]; rfl]
      have hp2 : upd H' l' (.lst ((Ni.drop (Ni.length / z * z) ++ [x]).map V.int)) p = some (.ins T.A_Laying dx (lf ((S ++ [N.length]).length : Nat) st (z : Nat) (Ni.length / z : Nat) (firstOf z (Ni.length / z) (S ++ [N.length])) l')) := by rw [upd_ne npl']; exact hp'
      have hf2 : upd H' l' (.lst ((Ni.drop (Ni.length / z * z) ++ [x]).map V.int)) fl = some (.lst us) := by rw [upd_ne nfl']; exact hf'
      have hu2 : TDs (upd H' l' (.lst ((Ni.drop (Ni.length / z * z) ++ [x]).map V.int))) us (((frms z Ni (S ++ [N.length])).drop (N.length / z)).map (frmD st)) := hu.mono (ts_upd (TSm.refl _) (NoT.lst hb'))
      have k2 : Keep [p, l, fl] Hb (upd H' l' (.lst ((Ni.drop (Ni.length / z * z) ++ [x]).map V.int))) := by
        rcases hl' with e | e
        · exact keep_upd k (by simp [e])
        · exact keep_mut k e
      have d2 : Dom Hb (upd H' l' (.lst ((Ni.drop (Ni.length / z * z) ++ [x]).map V.int))) := d.upd _ _
      have hb2 : upd H' l' (.lst ((Ni.drop (Ni.length / z * z) ++ [x]).map V.int)) l' = some (.lst ((Ni.drop (Ni.length / z * z) ++ [x]).map V.int)) := upd_same
      generalize upd H' l' (.lst ((Ni.drop (Ni.length / z * z) ++ [x]).map V.int)) = H2 at *
      -- if len(self._body) == self._size
      refine ⟨_, rfl, p, _, dx, _, _, rfl, hp2, T.cl_Laying, T.n_Laying_body, lf_body, l', _, rfl, .inl (SqL.of hb2), _, rfl, p, _, dx, _, _, rfl, hp2, T.cl_Laying, T.n_Laying_size, lf_size, rfl, _, rfl, ?_⟩
      have hlen : ((Ni.drop (Ni.length / z * z) ++ [x]).map V.int).length = Ni.length % z + 1 := by rw [List.length_map, List.length_append, hbi]; rfl
      refine ite2 (fun e => ?_) (fun e => ?_)
      · have e0 : Ni.length % z + 1 = z := by
          have := of_decide_eq_true e
          rw [hlen] at this
          injection this with this
          exact Int.ofNat.inj this
        obtain ⟨g1, g2, g3⟩ := step_full hz e0 (x := x)
        -- full.append(self._done())
        refine ⟨_, rfl, .inl ⟨rfl, _, SqL.of hf2⟩, _, rfl, p, dx, _, rfl, hp2, lf_no (by decide +kernel), p, dx, l', _, _, _, _, _, _, rfl, hp2, hb2, fun f H3 l3 tf hp3 hl3 nl3 nf3 k3 => ?_⟩
        have npf2 : fl ≠ p := nfp.symm
        have hf3 : H3 fl = some (.lst us) := k3 _ _ (by simp [npf2]) hf2
        have ts3 : TSm H2 H3 := k3.ts (fun m hm => by rw [List.mem_singleton.mp hm]; exact NoT.ins hp2)
        have hu3 := hu2.mono ts3
        refine ⟨fl, us, _, rfl, rfl, hf3, ?_, ?_⟩
        · exact lt_line (by omega)
        · refine ⟨some (.int x), l3, us ++ [.ref f], rfl, .inr (d2 _ nl3), ⟨?_, ?_⟩, upd_same, ?_, ?_, (d2.trans (Dom.of_keep k3 (by intro m hm; rw [List.mem_singleton.mp hm]; exact ⟨_, hp3⟩))).upd _ _, by rw [List.length_append]; exact Nat.succ_le_succ hus⟩
          · rw [upd_ne nfp, g2, firstOf_none (fun s hs => by have := hS0 s hs; rw [Nat.succ_mul]; omega)]
            exact hp3
          · have n3f : l3 ≠ fl := (ne_of_none hf2 nl3).symm
            rw [upd_ne n3f, g2, g3]
            exact hl3
          · rw [frms_full hz (by rw [List.length_singleton]; exact g1), List.drop_append_of_le_length (by rw [frms_length]; exact Nat.div_le_div_right hN0), List.map_append]
            exact (hu3.app (.one tf)).mono (ts_upd (TSm.refl _) (NoT.lst hf3))
          · exact keep_upd (k2.trans (k3.mono (by simp))) (by simp)
      · have e0 : Ni.length % z + 1 ≠ z := fun z1 => e (decide_eq_true (by rw [hlen, z1]))
        obtain ⟨g1, g2, g3⟩ := step_not hz e0 (x := x)
        refine ⟨some (.int x), l', us, rfl, hl', ⟨?_, ?_⟩, hf2, ?_, k2, d2, Nat.le_succ_of_le hus⟩
        · rw [g2]; exact hp2
        · rw [g2, g3]; exact hb2
        · rw [frms_same hz (by rw [List.length_singleton]; exact g1)]; exact hu2
    · rintro σ H' ⟨v, l', us, rfl, hl', hA, hf', hu, k, d, _⟩
      rw [List.take_of_length_le (by rw [List.length_map]; exact Nat.le_refl _)] at hA hu
      refine ⟨_, rfl, q fl us H' l' hf' hu hA ?_ nfl0 (kb.join k (by simp [nfl0])) (db.trans d)⟩
      rcases hl' with e | e
      · exact .inl e
      · exact .inr (db _ e)
end
end K2

namespace K2
open PySem PySem.Spec PyProof.Rows L2 Sky
section
variable {P : Program} {w : World} {K : PySem.W.Frag} {mg : Str → Option Value} {base : Heap}
/-- the frames of a list of tellings -/
def allFrms (z : Nat) (ts : List (List Int)) : List Frm := frms z (padN z (layAll ts).1) (layAll ts).2
def sp_frames_of : Sp := fun vs H Q _ => ∃ (st : Int) (lt : Addr) (z : Nat) (us : List V) (ts : List (List Int)), vs = [.int st, .ref lt, .int z] ∧ 0 ≤ st ∧ st ≤ 3 ∧ 8 ≤ z ∧ z ≤ 24 ∧ H lt = some (.lst us) ∧ TDs H us (ts.map tlD) ∧
  (∀ t ∈ ts, tellOk t) ∧ ts.length ≤ 1000 ∧ ∀ r xs H', H' r = some (.lst xs) → TDs H' xs ((allFrms z ts).map (frmD st)) → H r = none → Same H H' → Q (.ref r) H'
theorem ok_frames_of (T : Tx K mg) : FnOk P w K mg base CX0 5 T.a_frames_of T.d_frames_of ["stream", "tellings", "size"] sp_frames_of := by
  have nd := sc_frames_of.nd
  refine T.F_frames_of.ok sc_frames_of (fun vs H Q E h => ?_) (fun cdv A outer s H vs Q E hr h => ?_)
  · obtain ⟨_, _, _, _, _, rfl, _⟩ := h
    rfl
  · obtain ⟨st, lt, z, us, ts, rfl, h0, h3, h8, h24, hlt, hus, hok, hts, q⟩ := h
    have hul : us.length = ts.length := by rw [hus.length, List.length_map]
    have tell : ∀ (i : Nat) (y : V) (H' : Hp), Same H H' → us[i]? = some y → ∃ (a : Addr) (t : List Int), y = .ref a ∧ ts[i]? = some t ∧ t ∈ ts ∧ H' a = some (.tup (t.map V.int)) := by
      intro i y H' s' hy
      obtain ⟨d, hd, td⟩ := hus.get hy
      obtain ⟨t, ht, rfl⟩ := map_get hd
      obtain ⟨a, rfl, ha⟩ := td.of_tl
      exact ⟨a, t, rfl, ht, List.mem_of_getElem? ht, s' _ _ ha⟩
    refine ⟨_, (pss_cons (ps_expr (pe_call (ok_check_stream T) (hr.mono (by decide)) (by rfl) T.m_check_stream T.F_check_stream.kp T.b_check_stream .nil pass0 (pa_cons (pv 0) pa_nil))) (pss_cons (ps_for PassesOwn.never rfl (pi_list (pv 1)) (pg_name (i := 3) nd rfl (Or.inl rfl)) (pss_one (ps_expr (pe_call (ok_check_telling T) (hr.mono (by decide)) (by rfl) T.m_check_telling T.F_check_telling.kp T.b_check_telling .nil pass0 (pa_cons (pv 3) pa_nil))))) (pss_cons (ps_expr (pe_call (ok_check_size T) (hr.mono (by decide)) (by rfl) T.m_check_size T.F_check_size.kp T.b_check_size .nil pass0 (pa_cons (pv 2) pa_nil))) (pss_cons (ps_set (i := 4) nd rfl (Or.inl rfl) (pe_make T.mk_Laying (ok_Laying_init T) (hr.mono (by decide)) (by rfl) T.m_Laying T.b_Laying_init .nil pass0 (pa_cons (pv 0) (pa_cons (pv 2) pa_nil)))) (pss_cons (ps_set (i := 5) nd rfl (Or.inl rfl) (pe_lst pa_nil)) (pss_cons (ps_for PassesOwn.never rfl (pi_list (pv 1)) (pg_name (i := 3) nd rfl (Or.inl rfl)) (pss_one (ps_expr (pe_bm PySem.F.plainAttrs_list PySem.F.slot_list_extend PySem.F.type_list_extend mt_extend (pv 5) (pa_cons (pe_meth (pv 4) T.cl_Laying T.M_Laying_lay (ok_Laying_lay T) (hr.mono (by decide)) T.b_Laying_lay .nil pass0 (pa_cons (pv 3) pa_nil)) pa_nil))))) (pss_cons (ps_set (i := 6) nd rfl (Or.inl rfl) (pe_meth0 (pv 4) T.cl_Laying T.M_Laying_fill (ok_Laying_fill T) (hr.mono (by decide)) T.b_Laying_fill .nil pass0)) (pss_cons (ps_if (pt_cmpR op_notN (pv 6) pe_non (nomark _)) (pss_one (ps_expr (pe_bm PySem.F.plainAttrs_list PySem.F.slot_list_append PySem.F.type_list_append mt_append (pv 5) (pa_cons (pv 6) pa_nil)))) pss_nil) (pss_one (ps_ret (pv 5))))))))))), ?_⟩
    refine ⟨_, rfl, st, rfl, h0, h3, ?_⟩
    -- for telling in tellings: check_telling(telling)
    refine ⟨_, rfl, lt, rfl, ⟨_, SqL.of hlt⟩, ?_⟩
    refine for_list (K := K) (a := lt) (xs := us) (fun i σ H' => ∃ (v : Option V), σ = [some (.int st), some (.ref lt), some (.int z), v, none, none, none] ∧ Same H H') ⟨none, rfl, Same.refl _⟩ (fun i σ H' _ ⟨_, _, s'⟩ => SqL.of (s' _ _ hlt)) ?_ ?_
    · rintro i y σ H' hy ⟨v, rfl, s'⟩
      obtain ⟨a, t, rfl, ht, hm, ha⟩ := tell i y H' s' hy
      exact ⟨_, rfl, a, t, rfl, ha, hok t hm, fun H2 s2 => ⟨_, rfl, s'.trans s2⟩⟩
    rintro σ H1 ⟨v, rfl, s1⟩
    -- check_size(size); laying = Laying(stream, size)
    refine ⟨_, rfl, z, rfl, (by omega), (by omega), ?_⟩
    refine ⟨_, rfl, _, rfl, fun p dx np ndx nex => ?_⟩
    refine ⟨p, dx, st, z, rfl, upd_same, fun H2 l0 hp2 hl2 nl2 k2 => ⟨rfl, ?_⟩⟩
    have sa : Same H1 (upd (upd H1 dx (.own p)) p (.ins T.A_Laying dx [])) := same_mut (same_new (Same.refl _) ndx) np
    have nl1 : H1 l0 = none := sa.free nl2
    have s2 : Same H1 H2 := k2.same sa (by intro m hm; rw [List.mem_singleton.mp hm]; exact np)
    -- frames = []
    refine ⟨Nat.zero_le _, fun ff hff => ?_⟩
    have nff1 : H1 ff = none := s2.free hff
    have npf : p ≠ ff := ne_of_none hp2 hff
    have nlf : l0 ≠ ff := ne_of_none hl2 hff
    have s3 : Same H1 (upd H2 ff (.lst [])) := same_mut s2 nff1
    have hp3 : upd H2 ff (.lst []) p = some (.ins T.A_Laying dx (lf 0 st z 0 none l0)) := by rw [upd_ne npf]; exact hp2
    have hl3 : upd H2 ff (.lst []) l0 = some (.lst []) := by rw [upd_ne nlf]; exact hl2
    have hf3 : upd H2 ff (.lst []) ff = some (.lst []) := upd_same
    generalize upd H2 ff (.lst []) = Hc at *
    have hltc : Hc lt = some (.lst us) := s3 _ _ (s1 _ _ hlt)
    have nlp : lt ≠ p := ne_new (s1 _ _ hlt) np
    have nll : lt ≠ l0 := ne_new (s1 _ _ hlt) nl1
    have nlff : lt ≠ ff := ne_new (s1 _ _ hlt) nff1
    have sH : Same H Hc := s1.trans s3
    have np0 : H p = none := s1.free np
    have nl00 : H l0 = none := s1.free nl1
    have nff0 : H ff = none := s1.free nff1
    -- for telling in tellings: frames.extend(laying.lay(telling))
    refine ⟨_, rfl, lt, rfl, ⟨_, SqL.of hltc⟩, ?_⟩
    refine for_list (K := K) (a := lt) (xs := us) (fun i σ H' => ∃ (v : Option V) (l : Addr) (xs : List V), σ = [some (.int st), some (.ref lt), some (.int z), v, some (.ref p), some (.ref ff), none] ∧ (l = l0 ∨ Hc l = none) ∧
      LAt T.A_Laying H' p dx l st z (layAll (ts.take i)).1 (layAll (ts.take i)).2 ∧ H' ff = some (.lst xs) ∧ TDs H' xs ((frms z (layAll (ts.take i)).1 (layAll (ts.take i)).2).map (frmD st)) ∧ Keep [p, l0, ff] Hc H' ∧ Dom Hc H') ?_ ?_ ?_ ?_
    · refine ⟨v, l0, [], rfl, .inl rfl, ⟨?_, ?_⟩, hf3, ?_, Keep.refl _ _, Dom.refl _⟩
      · rw [hp3, List.take_zero]
        show _ = some (HO.ins T.A_Laying dx (lf ((0 : Nat) : Int) st z ((0 / z : Nat) : Int) (firstOf z (0 / z) []) l0))
        rw [Nat.zero_div]
        rfl
      · rw [hl3, List.take_zero]
        show _ = some (HO.lst ((([] : List Int).drop _).map V.int))
        rw [List.drop_nil]
        rfl
      · rw [List.take_zero]
        show TDs Hc [] ((frms z [] []).map (frmD st))
        have e : frms z [] [] = [] := by unfold frms; simp
        rw [e]
        exact .nil
    · rintro i σ H' _ ⟨v, l, xs, _, _, _, _, _, k, _⟩
      exact SqL.of (k _ _ (by simp [nlp, nll, nlff]) hltc)
    · rintro i y σ H' hy ⟨v, l, xs, rfl, hl, hA, hff', hxs, k, d⟩
      have sH' : Same H H' := fun b o e => k b o (by simp [ne_new e np0, ne_new e nl00, ne_new e nff0]) (sH b o e)
      obtain ⟨a, t, rfl, ht, hm, ha⟩ := tell i y H' sH' hy
      have hil : i < ts.length := (List.getElem?_eq_some_iff.mp ht).1
      have npff : p ≠ ff := ne_of hA.1 hff' (by intro e; cases e)
      have nlff2 : ff ≠ l := by
        rcases hl with e | e
        · rw [e]; exact nlf.symm
        · exact ne_of_none hf3 e
      -- frames.extend(laying.lay(telling))
      refine ⟨_, rfl, .inl ⟨rfl, _, SqL.of hff'⟩, _, rfl, p, dx, _, rfl, hA.1, lf_no (by decide +kernel), _, rfl, p, dx, l, a, st, z, _, _, t, rfl, hA, (by omega), (by omega), laid_all _, ha, (by have := (hok t hm).2.1; omega), fun r zs H4 l4 hr4 hzs4 hA4 hl4 nr k4 d4 => ?_⟩
      have hff4 : H4 ff = some (.lst xs) := k4 _ _ (by simp [npff.symm, nlff2]) hff'
      have t4 : TSm H' H4 := k4.ts (by intro m hm; rcases List.mem_cons.mp hm with e | e; · rw [e]; exact NoT.ins hA.1
                                       · rw [List.mem_singleton.mp e]; exact NoT.lst hA.2)
      have exs := (hxs.mono t4).app hzs4
      rw [← List.map_append, frms_lay, ← layAll_take ht] at exs
      rw [← layAll_take ht] at hA4
      have nrf : r ≠ ff := (ne_of_none hff' nr).symm
      have hbig : (layAll (ts.take (i + 1))).1.length ≤ 23 * (ts.take (i + 1)).length := layAll_le _ fun u hu => (hok u (List.mem_of_mem_take hu)).2.1
      have hlen := exs.length
      rw [List.length_map, frms_length] at hlen
      have hdl : (layAll (ts.take (i + 1))).1.length / z ≤ (layAll (ts.take (i + 1))).1.length := Nat.div_le_self _ _
      have htl : (ts.take (i + 1)).length ≤ 1000 := by rw [List.length_take]; omega
      refine ⟨ff, r, xs, zs, rfl, rfl, hff4, hr4, le_line (by rw [← List.length_append]; omega), ?_⟩
      have npff4 : p ≠ ff := npff
      have nl4ff : l4 ≠ ff := by
        rcases hl4 with e | e
        · rw [e]; exact nlff2.symm
        · exact (ne_of_none hff' e).symm
      refine ⟨some (.ref a), l4, xs ++ zs, rfl, ?_, ⟨by rw [upd_ne npff4]; exact hA4.1, by rw [upd_ne nl4ff]; exact hA4.2⟩, upd_same, exs.mono (ts_upd (TSm.refl _) (NoT.lst hff4)), ?_, (d.trans d4).upd _ _⟩
      · rcases hl4 with e | e
        · rw [e]; exact hl
        · exact .inr (d _ e)
      · refine keep_upd (k.join k4 (fun n hn => ?_)) (by simp)
        rcases List.mem_cons.mp hn with e | e
        · exact .inl (by simp [e])
        · rw [List.mem_singleton.mp e]
          rcases hl with e | e
          · exact .inl (by simp [e])
          · exact .inr e
    · rintro σ H' ⟨v, l, xs, rfl, hl, hA, hff', hxs, k, d⟩
      have sH' : Same H H' := fun b o e => k b o (by simp [ne_new e np0, ne_new e nl00, ne_new e nff0]) (sH b o e)
      have etake : ts.take us.length = ts := by rw [hul]; exact List.take_length
      rw [etake] at hA hxs
      have npff : p ≠ ff := ne_of hA.1 hff' (by intro e; cases e)
      have nlff2 : ff ≠ l := by
        rcases hl with e | e
        · rw [e]; exact nlf.symm
        · exact ne_of_none hf3 e
      -- last = laying.fill()
      refine ⟨_, rfl, p, dx, _, rfl, hA.1, lf_no (by decide +kernel), p, dx, l, st, z, _, _, rfl, hA, (by omega), (by omega), laid_all _, fun e => ?_, fun e f H4 l4 tf hA4 nl4 nf k4 => ?_⟩
      · refine ⟨_, rfl, rfl, _, rfl, iteF ?_⟩
        refine ⟨_, rfl, q ff xs H' hff' ?_ nff0 sH'⟩
        unfold allFrms
        rw [frms_pad0 e]
        exact hxs
      · refine ⟨_, rfl, rfl, _, rfl, iteT ?_⟩
        have hff4 : H4 ff = some (.lst xs) := k4 _ _ (by simp [npff.symm, nlff2]) hff'
        have t4 : TSm H' H4 := k4.ts (by intro m hm; rcases List.mem_cons.mp hm with e | e; · rw [e]; exact NoT.ins hA.1
                                         · rw [List.mem_singleton.mp e]; exact NoT.lst hA.2)
        have hbig : (layAll ts).1.length ≤ 23 * ts.length := layAll_le _ fun u hu => (hok u hu).2.1
        have hlen := hxs.length
        rw [List.length_map, frms_length] at hlen
        have hdl : (layAll ts).1.length / z ≤ (layAll ts).1.length := Nat.div_le_self _ _
        refine ⟨_, rfl, .inl ⟨rfl, _, SqL.of hff4⟩, _, rfl, ff, xs, _, rfl, rfl, hff4, lt_line (by omega), ?_⟩
        refine ⟨_, rfl, q ff (xs ++ [.ref f]) _ upd_same ?_ nff0 ?_⟩
        · unfold allFrms
          rw [frms_pad (by omega) e, List.map_append]
          exact ((hxs.mono t4).app (.one tf)).mono (ts_upd (TSm.refl _) (NoT.lst hff4))
        · have s4 : Same H H4 := fun b o e => k4 b o (by
            have h1 : b ≠ p := ne_new e np0
            have h2 : b ≠ l := by
              rcases hl with z1 | z1
              · rw [z1]; exact ne_new e nl00
              · exact ne_new (sH _ _ e) z1
            simp [h1, h2]) (sH' b o e)
          exact same_mut s4 nff0
end
end K2

namespace K2
open PySem PySem.Spec PyProof.Rows L2 Sky
section
variable {P : Program} {w : World} {K : PySem.W.Frag} {mg : Str → Option Value} {base : Heap}
/-- the drawing list: [mixed, the script's rest, which is next] -/
def HAt (H : Hp) (p q : Addr) : Prop := ∃ (m k : Int) (ns : List Int), p ≠ q ∧ H p = some (.lst [.int m, .ref q, .int k]) ∧ H q = some (.lst (ns.map V.int)) ∧ 0 ≤ m ∧ m < 2147483647 ∧ 0 ≤ k ∧ ns.length ≤ 63
theorem fmod_nn {a b : Int} (hb : 0 < b) : 0 ≤ a.fmod b := Int.fmod_nonneg_of_pos a hb
theorem fmod_lt {a b : Int} (hb : 0 < b) : a.fmod b < b := Int.fmod_lt_of_pos a hb
def sp_mix (K : PySem.W.Frag) : Sp := fun vs H Q _ => ∃ (a : Addr) (ns : List Int) (seed : Int), vs = [.ref a, .int seed] ∧ SqL K H a (ns.map V.int) ∧ 0 ≤ seed ∧ seed < 2147483647 ∧ ns.length ≤ 63 ∧
  ∀ p q H', HAt H' p q → H p = none → H q = none → Same H H' → Q (.ref p) H'
theorem ok_law_mix (T : Tx K mg) : FnOk P w K mg base CX0 1 T.a_law_mix T.d_law_mix ["_law_script", "_law_seed"] (sp_mix K) := by
  have nd := sc_law_mix.nd
  refine T.F_law_mix.ok sc_law_mix (fun vs H Q E h => ?_) (fun cdv A outer s H vs Q E hr h => ?_)
  · obtain ⟨_, _, _, rfl, _⟩ := h
    rfl
  · obtain ⟨a, ns, seed, rfl, hS, s0, s1, hns, k⟩ := h
    refine ⟨_, (pss_cons (ps_set (i := 2) nd rfl (Or.inl rfl) (pv 1)) (pss_cons (ps_for PassesOwn.never rfl (pi_list (pv 0)) (pg_name (i := 3) nd rfl (Or.inl rfl)) (pss_one (ps_set (i := 2) nd rfl (Or.inl rfl) (pe_op op_modN (pe_op op_add (pe_op op_add (pe_op op_mul (pv 2) pe_int) (pe_op op_modN (pv 3) pe_int)) pe_int) pe_int)))) (pss_one (ps_ret (pe_lst (pa_cons (pv 2) (pa_cons (pe_callTy call_list_of (by rfl) T.z_list (by decide +kernel) (pa_cons (pv 0) pa_nil)) (pa_cons pe_int pa_nil)))))))), ?_⟩
    refine ⟨_, rfl, _, rfl, a, rfl, ⟨_, hS⟩, ?_⟩
    refine for_list (K := K) (a := a) (xs := ns.map V.int) (fun i σ H' => ∃ (m : Int) (v : Option V), σ = [some (.ref a), some (.int seed), some (.int m), v] ∧ 0 ≤ m ∧ m < 2147483647 ∧ H' = H) ⟨seed, none, rfl, s0, s1, rfl⟩ (fun i σ H' _ ⟨_, _, _, _, _, e⟩ => by rw [e]; exact hS) ?_ ?_
    · rintro i y σ H' hy ⟨m, v, rfl, m0, m1, rfl⟩
      obtain ⟨x, hx, rfl⟩ := map_get hy
      refine ⟨_, rfl, m, 48271, rfl, rfl, .inr (by decide), ?_⟩
      refine ⟨_, rfl, x, 2147483629, rfl, rfl, (by decide : (2147483629 : Int) ≠ 0), _, _, rfl, rfl, _, 1, rfl, rfl, _, 2147483647, rfl, rfl, (by decide : (2147483647 : Int) ≠ 0), ?_⟩
      exact ⟨_, _, rfl, fmod_nn (by decide), fmod_lt (by decide), rfl⟩
    · rintro σ H' ⟨m, v, rfl, m0, m1, rfl⟩
      refine ⟨_, rfl, _, rfl, a, _, rfl, .inl hS, fun q hq => ⟨(by decide : (3 : Nat) ≤ sizeLine), fun p hp => ?_⟩⟩
      have nqp : q ≠ p := ne_of_none upd_same hp
      have hp0 : H' p = none := by rw [upd_ne nqp.symm] at hp; exact hp
      exact k p q _ ⟨m, 0, ns, nqp.symm, upd_same, by rw [upd_ne nqp]; exact upd_same, m0, m1, Int.le_refl _, hns⟩ hp0 hq (same_mut (same_new (Same.refl _) hq) hp0)
def sp_next : Sp := fun vs H Q _ => ∃ (p q : Addr) (n : Int), vs = [.ref p, .int n] ∧ HAt H p q ∧ 0 < n ∧ n < 1000000 ∧ ∀ r H', 0 ≤ r → r < n → HAt H' p q → Keep [p, q] H H' → Dom H H' → Q (.int r) H'
theorem ok_law_next (T : Tx K mg) : FnOk P w K mg base CX0 1 T.a_law_next T.d_law_next ["_law_h", "_law_many_here"] sp_next := by
  have nd := sc_law_next.nd
  refine T.F_law_next.ok sc_law_next (fun vs H Q E h => ?_) (fun cdv A outer s H vs Q E hr h => ?_)
  · obtain ⟨_, _, _, rfl, _⟩ := h
    rfl
  · obtain ⟨p, q, n, rfl, ⟨m, k, ns, npq, hp, hq, m0, m1, k0, hns⟩, n0, n1, fin⟩ := h
    refine ⟨_, (pss_cons (ps_set (i := 2) nd rfl (Or.inl rfl) (pe_op op_modN (pe_ix ix_list (pv 0) pe_int (fun _ _ => rfl)) (pe_callB (call_max2 rfl) (by rfl) T.z_max (by decide +kernel) (pa_cons pe_int (pa_cons (pe_callB call_len_seq (by rfl) T.z_len PySem.boot_len (pa_cons (pe_ix ix_list (pv 0) pe_int (fun _ _ => rfl)) pa_nil)) pa_nil))))) (pss_cons (ps_set (i := 3) nd rfl (Or.inl rfl) (pe_ifExp (pt_cmpR (op_neD hr.units) (pe_ix ix_list (pv 0) pe_int (fun _ _ => rfl)) (pe_lst pa_nil) (nomark _)) (pe_ix ix_list (pe_ix ix_list (pv 0) pe_int (fun _ _ => rfl)) (pv 2) (fun _ _ => rfl)) pe_int)) (pss_cons (ps_if (pt_cmpR op_ge (pv 3) (pe_op op_pow pe_int pe_int) (nomark _)) (pss_cons (ps_asg (pe_op op_fdivN (pv 3) (pv 1)) (pg_sub (pe_ix ix_list (pv 0) pe_int (fun _ _ => rfl)) (pv 2) set_list)) (pss_one (ps_ret (pe_op op_modN (pv 3) (pv 1))))) pss_nil) (pss_cons (ps_asg (pe_op op_modN (pe_op op_add (pe_op op_add (pe_op op_mul (pe_ix ix_list (pv 0) pe_int (fun _ _ => rfl)) pe_int) (pe_op op_mul (pv 3) pe_int)) pe_int) pe_int) (pg_sub (pv 0) pe_int set_list)) (pss_cons (ps_asg (pe_op op_add (pe_ix ix_list (pv 0) pe_int (fun _ _ => rfl)) pe_int) (pg_sub (pv 0) pe_int set_list)) (pss_one (ps_ret (pe_op op_modN (pe_op op_fdivN (pe_ix ix_list (pv 0) pe_int (fun _ _ => rfl)) pe_int) (pv 1))))))))), ?_⟩
    -- at
    refine ⟨_, rfl, p, _, 2, .int k, rfl, rfl, SqL.of hp, atI_nat (j := 2) rfl, ?_⟩
    refine ⟨_, rfl, p, _, 1, .ref q, rfl, rfl, SqL.of hp, atI_nat (j := 1) rfl, q, _, rfl, .inl (SqL.of hq), 1, _, rfl, ?_⟩
    have hlen : ((ns.map V.int).length : Int) = (ns.length : Int) := by rw [List.length_map]
    rw [hlen]
    have hx : (if ((ns.length : Nat) : Int) > 1 then ((ns.length : Nat) : Int) else 1) = ((max 1 ns.length : Nat) : Int) := by
      split <;> omega
    show ∃ i j, V.int k = .int i ∧ V.int (if ((ns.length : Nat) : Int) > 1 then ((ns.length : Nat) : Int) else 1) = .int j ∧ _
    rw [hx]
    refine ⟨_, _, rfl, rfl, (by show ((max 1 ns.length : Nat) : Int) ≠ 0; omega), ?_⟩
    have hat0 : 0 ≤ k.fmod ((max 1 ns.length : Nat) : Int) := fmod_nn (by omega)
    have hat1 : k.fmod ((max 1 ns.length : Nat) : Int) < ((max 1 ns.length : Nat) : Int) := fmod_lt (by omega)
    obtain ⟨at', eat⟩ : ∃ at' : Nat, k.fmod ((max 1 ns.length : Nat) : Int) = (at' : Int) := ⟨_, (Int.toNat_of_nonneg hat0).symm⟩
    show tSeq _ _ _ (L2.start N_law_next [V.ref p, V.int n] |>.set 2 (some (.int (k.fmod ((max 1 ns.length : Nat) : Int))))) H
    rw [eat] at hat1 ⊢
    have hat2 : at' < max 1 ns.length := Int.ofNat_lt.mp hat1
    -- cell
    refine ⟨_, rfl, p, _, 1, .ref q, rfl, rfl, SqL.of hp, atI_nat (j := 1) rfl, Nat.zero_le _, fun e he => ?_⟩
    have npe : p ≠ e := ne_of_none hp he
    have nqe : q ≠ e := ne_of_none hq he
    have hp1 : upd H e (.lst []) p = some (.lst [.int m, .ref q, .int k]) := by rw [upd_ne npe]; exact hp
    have hq1 : upd H e (.lst []) q = some (.lst (ns.map V.int)) := by rw [upd_ne nqe]; exact hq
    have k1 : Keep [p, q] H (upd H e (.lst [])) := keep_new (Keep.refl _ _) he
    have d1 : Dom H (upd H e (.lst [])) := dom_upd _ _ _
    have de : Dp K (upd H e (.lst [])) (.ref e) (.list []) := .lst (SqL.of upd_same) .nil
    generalize upd H e (.lst []) = H1 at *
    refine ⟨.list (ns.map PyData.int), .list [], .lst (SqL.of hq1) (dpAll_ints ns), de, (Lay.list (k := 0) fun x _ => Lay.int x).shaped (by decide), Lay.nil.shaped (by decide), _, rfl, ?_⟩
    rw [eqv_nil]
    refine ife_skip (fun v H2 => ∃ cell : Int, v = .int cell ∧ H2 = H1 ∧ ((1000000000000000000 : Int) ≤ cell → ns[at']? = some cell)) (fun v H2 ⟨cell, ev, eh, hcell⟩ => ?_) (fun e rest => ?_) (fun e rest => ?_)
    case refine_2 =>
      have hne : ns ≠ [] := fun z => by subst z; exact absurd e (by decide)
      have hl0 : 0 < ns.length := List.length_pos_iff.mpr hne
      have hlt : at' < ns.length := by omega
      refine ⟨_, rfl, p, _, 1, .ref q, rfl, rfl, SqL.of hp1, atI_nat (j := 1) rfl, _, rfl, q, _, at', .int ns[at'], rfl, rfl, SqL.of hq1, atI_nat (by rw [List.getElem?_map, List.getElem?_eq_getElem hlt]; rfl), ?_⟩
      exact rest _ _ ⟨_, rfl, rfl, fun _ => List.getElem?_eq_getElem hlt⟩
    case refine_3 => exact rest _ _ ⟨0, rfl, rfl, fun z => absurd z (by decide)⟩
    subst ev eh
    refine ⟨_, rfl, 10, 18, rfl, rfl, ⟨by decide, by decide, by decide⟩, _, _, rfl, rfl, _, rfl, ite2 (fun e => ?_) (fun e => ?_)⟩
    · have hc : (1000000000000000000 : Int) ≤ cell := of_decide_eq_true e
      have hg := hcell hc
      have hlt : at' < ns.length := (List.getElem?_eq_some_iff.mp hg).1
      have hcq : CDivN cell n := ⟨by omega, by omega⟩
      refine ⟨_, rfl, _, rfl, cell, n, rfl, rfl, hcq, _, rfl, p, _, 1, .ref q, rfl, rfl, SqL.of hp1, atI_nat (j := 1) rfl, _, rfl, q, _, _, at', rfl, rfl, hq1, ?_, ?_⟩
      · unfold ixN
        rw [List.length_map, if_pos (by omega), if_pos (by omega)]
        simp
      · refine ⟨_, rfl, _, rfl, cell, n, rfl, rfl, (by show n ≠ 0; omega), ?_⟩
        rw [show (ns.map V.int).set at' (V.int (cell.fdiv n)) = (ns.set at' (cell.fdiv n)).map V.int by rw [List.map_set]]
        refine fin _ _ (fmod_nn n0) (fmod_lt n0) ⟨m, k, _, npq, by rw [upd_ne npq]; exact hp1, upd_same, m0, m1, k0, by rw [List.length_set]; exact hns⟩ (keep_upd k1 (by simp)) (d1.upd _ _)
    · -- h[0] = ..
      refine ⟨_, rfl, p, _, 0, .int m, rfl, rfl, SqL.of hp1, atI_nat (j := 0) rfl, m, 48271, rfl, rfl, .inr (by decide), ?_⟩
      refine ⟨_, rfl, cell, 69621, rfl, rfl, .inr (by decide), _, _, rfl, rfl, _, 11, rfl, rfl, _, 2147483647, rfl, rfl, (by decide : (2147483647 : Int) ≠ 0), ?_⟩
      refine ⟨_, rfl, p, _, 0, 0, rfl, rfl, hp1, rfl, ?_⟩
      have hm0 : 0 ≤ (m * 48271 + cell * 69621 + 11).fmod 2147483647 := fmod_nn (by decide)
      have hm1 : (m * 48271 + cell * 69621 + 11).fmod 2147483647 < 2147483647 := fmod_lt (by decide)
      show tSeq _ _ _ _ (upd H2 p (.lst [.int ((m * 48271 + cell * 69621 + 11).fmod 2147483647), .ref q, .int k]))
      generalize (m * 48271 + cell * 69621 + 11).fmod 2147483647 = m' at *
      -- h[2] = h[2] + 1
      refine ⟨_, rfl, p, _, 2, .int k, rfl, rfl, SqL.of upd_same, atI_nat (j := 2) rfl, k, 1, rfl, rfl, _, rfl, p, _, 2, 2, rfl, rfl, upd_same, rfl, ?_⟩
      rw [upd_upd]
      -- return h[0] // 7 % many
      refine ⟨_, rfl, p, _, 0, .int m', rfl, rfl, SqL.of upd_same, atI_nat (j := 0) rfl, m', 7, rfl, rfl, ⟨by decide, by decide⟩, _, rfl, _, n, rfl, rfl, (by show n ≠ 0; omega), ?_⟩
      exact fin _ _ (fmod_nn n0) (fmod_lt n0) ⟨m', k + 1, ns, npq, upd_same, by rw [upd_ne npq.symm]; exact hq1, hm0, hm1, by omega, hns⟩ (keep_upd k1 (by simp)) (d1.upd _ _)
end
end K2

namespace K2
open PySem PySem.Spec PyProof.Rows L2 Sky
section
variable {P : Program} {w : World} {K : PySem.W.Frag} {mg : Str → Option Value} {base : Heap}
/-! ### what is alike -/
def sp_alike (K : PySem.W.Frag) : Nat → Sp
  | 0 => fun _ _ _ _ => False
  | n + 1 => fun vs H Q _ => ∃ (v u : V) (d : PyData), vs = [v, u] ∧ Dp K H v d ∧ Dp K H u d ∧ DOk n d ∧ ∀ H', Same H H' → Q (.bl true) H'
theorem isi {x : V} {n m : String} {b : Bool} {H : Hp} {Q : VK} (ty : TyX K H x (.type n)) (k : kitB n m = some b) (q : Q (.bl b) H) : rIsi K [x, .ty m] H Q := ⟨x, _, _, _, b, rfl, .ty m, ty, kit_ty k, q⟩
theorem isi2 {x : V} {n m m' : String} {b : Bool} {tp : Addr} {H : Hp} {Q : VK} (ht : H tp = some (.tup [.ty m, .ty m'])) (ty : TyX K H x (.type n)) (k : PySem.W.kitAny K (.type n) [.type m, .type m'] = some b) (q : Q (.bl b) H) : rIsiT K [x, .ref tp] H Q :=
  ⟨x, tp, _, _, _, b, rfl, ht, .cons (.ty _) (.cons (.ty _) .nil), ty, k, q⟩
theorem ok_law_alike (T : Tx K mg) : ∀ n, FnOk P w K mg base CX0 n T.a_law_alike T.d_law_alike ["_law_found", "_law_due"] (sp_alike K n)
  | 0 => ⟨fun vs H Q E h => False.elim h, by intros; rename_i h; first | exact False.elim h | (rename_i h _; exact False.elim h) | (rename_i h _ _; exact False.elim h)⟩
  | n + 1 => by
    have ih := ok_law_alike T n
    have nd := sc_law_alike.nd
    refine T.F_law_alike.ok sc_law_alike (fun vs H Q E h => ?_) (fun cdv A outer s H vs Q E hr h => ?_)
    · obtain ⟨_, _, _, rfl, _⟩ := h
      rfl
    · obtain ⟨v, u, d, rfl, h1, h2, hd, q⟩ := h
      refine ⟨_, (pss_cons (ps_if (pt_val (pe_callB call_isiT (by rfl) T.z_isinstance (by decide +kernel) (pa_cons (pv 1) (pa_cons (pe_tup (pa_cons (pe_bltn (v := .ty "tuple") (u := .type "tuple") (by rfl) T.z_tuple (by decide +kernel) rfl) (pa_cons (pe_bltn (v := .ty "list") (u := .type "list") (by rfl) T.z_list (by decide +kernel) rfl) pa_nil))) pa_nil)))) (pss_cons (ps_if (PW.pt (pw_or (pt_not (pt_val (pe_callB call_isiT (by rfl) T.z_isinstance (by decide +kernel) (pa_cons (pv 0) (pa_cons (pe_tup (pa_cons (pe_bltn (v := .ty "tuple") (u := .type "tuple") (by rfl) T.z_tuple (by decide +kernel) rfl) (pa_cons (pe_bltn (v := .ty "list") (u := .type "list") (by rfl) T.z_list (by decide +kernel) rfl) pa_nil))) pa_nil))))) (pw_or1 (pt_cmpR op_ne (pe_callB call_isi (by rfl) T.z_isinstance (by decide +kernel) (pa_cons (pv 0) (pa_cons (pe_bltn (v := .ty "list") (u := .type "list") (by rfl) T.z_list (by decide +kernel) rfl) pa_nil))) (pe_callB call_isi (by rfl) T.z_isinstance (by decide +kernel) (pa_cons (pv 1) (pa_cons (pe_bltn (v := .ty "list") (u := .type "list") (by rfl) T.z_list (by decide +kernel) rfl) pa_nil))) (nomark _))))) (pss_one (ps_ret pe_bl)) pss_nil) (pss_cons (ps_if (pt_cmpR op_ne (pe_callB call_len_seq (by rfl) T.z_len PySem.boot_len (pa_cons (pv 0) pa_nil)) (pe_callB call_len_seq (by rfl) T.z_len PySem.boot_len (pa_cons (pv 1) pa_nil)) (nomark _)) (pss_one (ps_ret pe_bl)) pss_nil) (pss_one (ps_ret (pe_cmpR (op_eqD hr.units) (pe_lc (own := [("_law_k", 2)]) rfl nd (pi_range1 rfl T.z_range (pa_cons (pe_callB call_len_seq (by rfl) T.z_len PySem.boot_len (pa_cons (pv 1) pa_nil)) pa_nil)) (blkOk_by (own := [("_law_k", 2)]) (N := N_law_alike) (sc := defScope s_law_alike) (by decide +kernel)) (fun _ _ _ _ _ => (pg_name (i := 2) nd rfl (Or.inl rfl))) (fun _ _ _ _ _ => (pts_one (pt_not (pt_val (pe_call ih hr (by rfl) T.m_law_alike T.F_law_alike.kp T.b_law_alike .nil pass0 (pa_cons (pe_ix (ix_seqK (K := K) rfl) (pv 0) (pv 2) (fun _ _ => rfl)) (pa_cons (pe_ix (ix_seqK (K := K) rfl) (pv 1) (pv 2) (fun _ _ => rfl)) pa_nil))))))) (fun _ _ _ _ _ => (pv 2))) (pe_lst pa_nil) (nomark _)))))) pss_nil) (pss_cons (ps_if (pt_cmpR op_isN (pv 1) pe_non (nomark _)) (pss_one (ps_ret (pe_cmpR op_isN (pv 0) pe_non (nomark _)))) pss_nil) (pss_cons (ps_if (pt_val (pe_callB call_isi (by rfl) T.z_isinstance (by decide +kernel) (pa_cons (pv 1) (pa_cons (pe_bltn (v := .ty "str") (u := .type "str") (by rfl) T.z_str (by decide +kernel) rfl) pa_nil)))) (pss_one (ps_ret (pe_and (pe_callB call_isi (by rfl) T.z_isinstance (by decide +kernel) (pa_cons (pv 0) (pa_cons (pe_bltn (v := .ty "str") (u := .type "str") (by rfl) T.z_str (by decide +kernel) rfl) pa_nil))) (pe_one (pe_cmpR op_eq (pv 0) (pv 1) (nomark _)))))) pss_nil) (pss_cons (ps_if (PW.pt (pw_or (pt_val (pe_callB call_isi (by rfl) T.z_isinstance (by decide +kernel) (pa_cons (pv 1) (pa_cons (pe_bltn (v := .ty "bool") (u := .type "bool") (by rfl) T.z_bool (by decide +kernel) rfl) pa_nil)))) (pw_or1 (pt_val (pe_callB call_isi (by rfl) T.z_isinstance (by decide +kernel) (pa_cons (pv 0) (pa_cons (pe_bltn (v := .ty "bool") (u := .type "bool") (by rfl) T.z_bool (by decide +kernel) rfl) pa_nil))))))) (pss_one (ps_ret (pe_and (pe_callB call_isi (by rfl) T.z_isinstance (by decide +kernel) (pa_cons (pv 1) (pa_cons (pe_bltn (v := .ty "bool") (u := .type "bool") (by rfl) T.z_bool (by decide +kernel) rfl) pa_nil))) (pe_and (pe_callB call_isi (by rfl) T.z_isinstance (by decide +kernel) (pa_cons (pv 0) (pa_cons (pe_bltn (v := .ty "bool") (u := .type "bool") (by rfl) T.z_bool (by decide +kernel) rfl) pa_nil))) (pe_one (pe_cmpR op_eq (pv 0) (pv 1) (nomark _))))))) pss_nil) (pss_one (ps_ret (pe_and (pe_callB call_isi (by rfl) T.z_isinstance (by decide +kernel) (pa_cons (pv 0) (pa_cons (pe_bltn (v := .ty "int") (u := .type "int") (by rfl) T.z_int (by decide +kernel) rfl) pa_nil))) (pe_one (pe_cmpR op_eq (pv 0) (pv 1) (nomark _)))))))))), ?_⟩
      -- if isinstance(due, (tuple, list))
      refine ⟨_, rfl, (by decide : (2 : Nat) ≤ sizeLine), fun tp htp => ?_⟩
      have s1 : Same H (upd H tp (.tup [.ty "tuple", .ty "list"])) := same_new (Same.refl _) htp
      have t1 : upd H tp (.tup [.ty "tuple", .ty "list"]) tp = some (.tup [.ty "tuple", .ty "list"]) := upd_same
      have a1 := dp_same s1 h1
      have a2 := dp_same s1 h2
      generalize upd H tp (.tup [.ty "tuple", .ty "list"]) = H1 at *
      have y1 := dp_ty a1
      have y2 := dp_ty a2
      have seq : (∃ ds : List PyData, (d = .list ds ∨ d = .tuple ds) ∧ ds.length ≤ 10000000 ∧ ∃ m, n = m + 1 ∧ ∀ e ∈ ds, DOk m e) ∨ (d = .none ∨ (∃ i, d = .int i) ∨ (∃ b, d = .bool b) ∨ ∃ x, d = .str x) := by
        cases n with
        | zero => exact .inr hd
        | succ m =>
          rcases hd with hd | ⟨ds, e, l, h⟩
          · exact .inr hd
          · exact .inl ⟨ds, e, l, m, rfl, h⟩
      rcases seq with ⟨ds, ed, hl, m, rfl, hds⟩ | rfl | ⟨i, rfl⟩ | ⟨b, rfl⟩ | ⟨x, rfl⟩
      · -- a list, a tuple
        have k2 : PySem.W.kitAny K (.type (tyN d)) [.type "tuple", .type "list"] = some true := by
          rcases ed with rfl | rfl
          · exact kit2T' (by decide +kernel : kitB "list" "tuple" = some false) (by decide +kernel : kitB "list" "list" = some true)
          · exact kit2T (by decide +kernel : kitB "tuple" "tuple" = some true)
        obtain ⟨b, kl⟩ : ∃ b, kitB (tyN d) "list" = some b := by
          rcases ed with rfl | rfl
          · exact ⟨true, (by decide +kernel : kitB "list" "list" = some true)⟩
          · exact ⟨false, (by decide +kernel : kitB "tuple" "list" = some false)⟩
        refine ⟨_, _, _, _, _, _, rfl, t1, .cons (.ty _) (.cons (.ty _) .nil), y2, k2, ?_⟩
        refine ⟨true, rfl, iteT ?_⟩
        refine ⟨_, rfl, (by decide : (2 : Nat) ≤ sizeLine), fun tp2 htp2 => ?_⟩
        have s2 : Same H1 (upd H1 tp2 (.tup [.ty "tuple", .ty "list"])) := same_new (Same.refl _) htp2
        have t2 : upd H1 tp2 (.tup [.ty "tuple", .ty "list"]) tp2 = some (.tup [.ty "tuple", .ty "list"]) := upd_same
        have b1 := dp_same s2 a1
        have b2 := dp_same s2 a2
        generalize upd H1 tp2 (.tup [.ty "tuple", .ty "list"]) = H2 at *
        have sH := s1.trans s2
        have z1 := dp_ty b1
        have z2 := dp_ty b2
        refine ⟨_, _, _, _, _, _, rfl, t2, .cons (.ty _) (.cons (.ty _) .nil), z1, k2, ?_⟩
        refine ⟨true, rfl, iteF ?_⟩
        refine ⟨_, rfl, _, _, _, _, b, rfl, .ty _, z1, kit_ty kl, ?_⟩
        refine ⟨_, rfl, _, _, _, _, b, rfl, .ty _, z2, kit_ty kl, ?_⟩
        refine ⟨rfl, false, ndF rfl, iteF ?_⟩
        -- the two as sequences
        obtain ⟨p, xs, ev, hp, hxs⟩ : ∃ p xs, v = .ref p ∧ (∀ H', Same H2 H' → (SqL K H' p xs ∧ d = .list ds) ∨ (SqT K H' p xs ∧ d = .tuple ds)) ∧ DpAll K H2 xs ds := by
          rcases ed with rfl | rfl
          · cases b1 with
            | lst h t => exact ⟨_, _, rfl, fun H' s' => .inl ⟨s'.seq h, rfl⟩, t⟩
          · cases b1 with
            | tup h t => exact ⟨_, _, rfl, fun H' s' => .inr ⟨by
                cases dp_same (K := K) s' (Dp.tup h t) with
                | tup h' t' =>
                  rcases h with (h | ⟨o, h⟩) | h
                  · exact .inl (.inl (s' _ _ h))
                  · exact .inl (.inr ⟨o, s' _ _ h⟩)
                  · exact .inr h, rfl⟩, t⟩
        obtain ⟨p', xs', eu, hp', hxs'⟩ : ∃ p xs, u = .ref p ∧ (∀ H', Same H2 H' → (SqL K H' p xs ∧ d = .list ds) ∨ (SqT K H' p xs ∧ d = .tuple ds)) ∧ DpAll K H2 xs ds := by
          rcases ed with rfl | rfl
          · cases b2 with
            | lst h t => exact ⟨_, _, rfl, fun H' s' => .inl ⟨s'.seq h, rfl⟩, t⟩
          · cases b2 with
            | tup h t => exact ⟨_, _, rfl, fun H' s' => .inr ⟨by
                rcases h with (h | ⟨o, h⟩) | h
                · exact .inl (.inl (s' _ _ h))
                · exact .inl (.inr ⟨o, s' _ _ h⟩)
                · exact .inr h, rfl⟩, t⟩
        subst ev eu
        have w1 : SqL K H2 p xs ∨ SqT K H2 p xs := by rcases hp H2 (Same.refl _) with h | h; exact .inl h.1; exact .inr h.1
        have w2 : SqL K H2 p' xs' ∨ SqT K H2 p' xs' := by rcases hp' H2 (Same.refl _) with h | h; exact .inl h.1; exact .inr h.1
        have l1 : xs.length = ds.length := DpAll.len hxs
        have l2 : xs'.length = ds.length := DpAll.len hxs'
        -- if len(found) != len(due)
        refine ⟨_, rfl, p, xs, rfl, w1, _, rfl, p', xs', rfl, w2, rfl, false, ndF (by rw [l1, l2]), iteF ?_⟩
        -- return [..] == []
        refine ⟨_, rfl, p', xs', rfl, w2, _, rfl, (by omega), (by omega), fun D hD => ?_⟩
        refine lc_range (lo := 0) (n := ((xs'.length : Nat) : Int).toNat) (fun i H' => Same H2 H' ∧ H' D = some (.lst [])) ⟨same_new (Same.refl _) hD, upd_same⟩ ?_ ?_
        · rintro i H' hi ⟨s', hD'⟩
          rw [Int.zero_add]
          have hi' : i < ds.length := by omega
          obtain ⟨y, hy, dy⟩ := DpAll.at hxs (List.getElem?_eq_getElem hi')
          obtain ⟨y', hy', dy'⟩ := DpAll.at hxs' (List.getElem?_eq_getElem hi')
          have fin : ∀ H3, Same H' H3 → Same H2 H3 ∧ H3 D = some (.lst []) := fun H3 s3 => ⟨s'.trans s3, s3 _ _ hD'⟩
          refine ⟨rfl, ?_⟩
          rcases hp H' s' with ⟨g1, ge⟩ | ⟨g1, ge⟩
          · rcases hp' H' s' with ⟨g2, _⟩ | ⟨_, ge'⟩
            · exact ⟨_, rfl, _, rfl, .inl ⟨p, xs, _, y, rfl, rfl, g1, atI_nat hy, _, rfl, _, rfl, .inl ⟨p', xs', _, y', rfl, rfl, g2, atI_nat hy', _, _, _, rfl, dp_same s' dy, dp_same s' dy', hds _ (List.getElem_mem hi'), fun H3 s3 => ⟨true, rfl, iteF (fin H3 s3)⟩⟩⟩⟩
            · rw [ge] at ge'; cases ge'
          · rcases hp' H' s' with ⟨_, ge'⟩ | ⟨g2, _⟩
            · rw [ge] at ge'; cases ge'
            · exact ⟨_, rfl, _, rfl, .inr (.inl ⟨p, xs, _, y, rfl, rfl, g1, atI_nat hy, _, rfl, _, rfl, .inr (.inl ⟨p', xs', _, y', rfl, rfl, g2, atI_nat hy', _, _, _, rfl, dp_same s' dy, dp_same s' dy', hds _ (List.getElem_mem hi'), fun H3 s3 => ⟨true, rfl, iteF (fin H3 s3)⟩⟩)⟩)⟩
        · rintro H' ⟨s', hD'⟩
          refine ⟨Nat.zero_le _, fun e he => ?_⟩
          have se := same_new (Same.refl _) he (o := .lst [])
          refine ⟨.list [], .list [], .lst (SqL.of (se _ _ hD')) .nil, .lst (SqL.of upd_same) .nil, Lay.nil.shaped (by decide), Lay.nil.shaped (by decide), ?_⟩
          rw [eqv_nil]
          exact q _ ((sH.trans s').trans se)
      · -- None
        cases a1
        cases a2
        refine ⟨_, _, _, _, _, _, rfl, t1, .cons (.ty _) (.cons (.ty _) .nil), y2, (kit2F (by decide +kernel : kitB "NoneType" "tuple" = some false) (by decide +kernel : kitB "NoneType" "list" = some false)), ?_⟩
        refine ⟨false, rfl, iteF ?_⟩
        refine ⟨_, rfl, rfl, true, dT rfl, iteT ⟨_, rfl, rfl, ?_⟩⟩
        exact q _ s1
      · -- an int
        cases a1
        cases a2
        refine ⟨_, _, _, _, _, _, rfl, t1, .cons (.ty _) (.cons (.ty _) .nil), y2, (kit2F (by decide +kernel : kitB "int" "tuple" = some false) (by decide +kernel : kitB "int" "list" = some false)), ?_⟩
        refine ⟨false, rfl, iteF ?_⟩
        refine ⟨_, rfl, rfl, false, dF (fun z => nomatch z), iteF ?_⟩
        refine ⟨_, rfl, _, _, _, _, false, rfl, .ty _, y2, kit_ty (by decide +kernel : kitB "int" "str" = some false), ?_⟩
        refine ⟨_, rfl, iteF ?_⟩
        refine ⟨_, rfl, _, _, _, _, false, rfl, .ty _, y2, kit_ty (by decide +kernel : kitB "int" "bool" = some false), ?_⟩
        refine ⟨_, rfl, iteF ?_⟩
        refine ⟨_, rfl, _, _, _, _, false, rfl, .ty _, y1, kit_ty (by decide +kernel : kitB "int" "bool" = some false), ?_⟩
        refine ⟨_, rfl, iteF ?_⟩
        refine ⟨_, rfl, _, _, _, _, true, rfl, .ty _, y1, kit_ty (by decide +kernel : kitB "int" "int" = some true), ?_⟩
        refine ⟨_, rfl, iteT ?_⟩
        exact ⟨_, rfl, _, rfl, rfl, bl_of rfl (q _ s1)⟩
      · -- True, False
        cases a1
        cases a2
        refine ⟨_, _, _, _, _, _, rfl, t1, .cons (.ty _) (.cons (.ty _) .nil), y2, (kit2F (by decide +kernel : kitB "bool" "tuple" = some false) (by decide +kernel : kitB "bool" "list" = some false)), ?_⟩
        refine ⟨false, rfl, iteF ?_⟩
        refine ⟨_, rfl, rfl, false, dF (fun z => nomatch z), iteF ?_⟩
        refine ⟨_, rfl, _, _, _, _, false, rfl, .ty _, y2, kit_ty (by decide +kernel : kitB "bool" "str" = some false), ?_⟩
        refine ⟨_, rfl, iteF ?_⟩
        refine ⟨_, rfl, _, _, _, _, true, rfl, .ty _, y2, kit_ty (by decide +kernel : kitB "bool" "bool" = some true), ?_⟩
        refine ⟨_, rfl, iteT ?_⟩
        refine ⟨_, rfl, _, _, _, _, true, rfl, .ty _, y2, kit_ty (by decide +kernel : kitB "bool" "bool" = some true), ?_⟩
        refine ⟨_, rfl, iteT ?_⟩
        refine ⟨_, rfl, _, _, _, _, true, rfl, .ty _, y1, kit_ty (by decide +kernel : kitB "bool" "bool" = some true), ?_⟩
        refine ⟨_, rfl, iteT ?_⟩
        exact ⟨_, rfl, _, rfl, rfl, bl_of rfl (q _ s1)⟩
      · -- a text
        cases a1
        cases a2
        refine ⟨_, _, _, _, _, _, rfl, t1, .cons (.ty _) (.cons (.ty _) .nil), y2, (kit2F (by decide +kernel : kitB "str" "tuple" = some false) (by decide +kernel : kitB "str" "list" = some false)), ?_⟩
        refine ⟨false, rfl, iteF ?_⟩
        refine ⟨_, rfl, rfl, false, dF (fun z => nomatch z), iteF ?_⟩
        refine ⟨_, rfl, _, _, _, _, true, rfl, .ty _, y2, kit_ty (by decide +kernel : kitB "str" "str" = some true), ?_⟩
        refine ⟨_, rfl, iteT ?_⟩
        refine ⟨_, rfl, _, _, _, _, true, rfl, .ty _, y1, kit_ty (by decide +kernel : kitB "str" "str" = some true), ?_⟩
        refine ⟨_, rfl, iteT ?_⟩
        exact ⟨_, rfl, _, rfl, rfl, bl_of rfl (q _ s1)⟩
end
end K2

namespace K2
open PySem PySem.Spec PyProof.Rows L2 Sky
section
variable {P : Program} {w : World} {K : PySem.W.Frag} {mg : Str → Option Value} {base : Heap}
theorem HAt.new {H : Hp} {p q a : Addr} {o : HO} (h : HAt H p q) (n : H a = none) : HAt (upd H a o) p q := by
  obtain ⟨m, k, ns, npq, hp, hq, r⟩ := h
  exact ⟨m, k, ns, npq, by rw [upd_ne (ne_of_none hp n)]; exact hp, by rw [upd_ne (ne_of_none hq n)]; exact hq, r⟩
theorem HAt.ne {H : Hp} {p q a : Addr} {o : HO} (h : HAt H p q) (n : a ≠ p) (n' : a ≠ q) : HAt (upd H a o) p q := by
  obtain ⟨m, k, ns, npq, hp, hq, r⟩ := h
  exact ⟨m, k, ns, npq, by rw [upd_ne n.symm]; exact hp, by rw [upd_ne n'.symm]; exact hq, r⟩
theorem HAt.there {H : Hp} {p q : Addr} (h : HAt H p q) : ∀ m ∈ [p, q], ∃ o, H m = some o := by
  obtain ⟨m, k, ns, npq, hp, hq, r⟩ := h
  intro x hx
  rcases List.mem_cons.mp hx with e | e
  · rw [e]; exact ⟨_, hp⟩
  · rw [List.mem_singleton.mp e]; exact ⟨_, hq⟩
theorem HAt.noT {H : Hp} {p q : Addr} (h : HAt H p q) : ∀ m ∈ [p, q], NoT H m := by
  obtain ⟨m, k, ns, npq, hp, hq, r⟩ := h
  intro x hx
  rcases List.mem_cons.mp hx with e | e
  · rw [e]; exact NoT.lst hp
  · rw [List.mem_singleton.mp e]; exact NoT.lst hq
theorem HAt.fresh {H : Hp} {p q a : Addr} (h : HAt H p q) (n : H a = none) : a ≠ p ∧ a ≠ q := by
  obtain ⟨m, k, ns, npq, hp, hq, r⟩ := h
  exact ⟨(ne_of_none hp n).symm, (ne_of_none hq n).symm⟩
/-- an item of a written list at a drawn place -/
theorem at_of {xs : List V} {r : Int} {R : V → Prop} (h0 : 0 ≤ r) (h1 : r < (xs.length : Int)) (h : ∀ v ∈ xs, R v) : ∃ v, atI xs r = some v ∧ R v := by
  obtain ⟨n, rfl⟩ : ∃ n : Nat, r = (n : Int) := ⟨r.toNat, (Int.toNat_of_nonneg h0).symm⟩
  have hl : n < xs.length := by omega
  exact ⟨xs[n], atI_nat (List.getElem?_eq_getElem hl), h _ (List.getElem_mem hl)⟩
def sp_data : Sp := fun vs H Q _ => ∃ (p q : Addr), vs = [.ref p] ∧ HAt H p q ∧ ∀ t xs H', tellOk xs → H' t = some (.tup (xs.map V.int)) → H t = none → HAt H' p q → Keep [p, q] H H' → Dom H H' → Q (.ref t) H'
theorem ok_law_data (T : Tx K mg) : FnOk P w K mg base CX0 2 T.a_law_data T.d_law_data ["_law_h"] sp_data := by
  have nd := sc_law_data.nd
  refine T.F_law_data.ok sc_law_data (fun vs H Q E h => ?_) (fun cdv A outer s H vs Q E hr h => ?_)
  · obtain ⟨_, _, rfl, _⟩ := h
    rfl
  · obtain ⟨p, q, rfl, hA, fin⟩ := h
    refine ⟨_, (pss_cons (ps_set (i := 1) nd rfl (Or.inl rfl) (pe_ix ix_list (pe_lst (pa_cons pe_int (pa_cons (pe_op op_add pe_int (pe_call (ok_law_next T) (hr.mono (by decide)) (by rfl) T.m_law_next T.F_law_next.kp T.b_law_next .nil pass0 (pa_cons (pv 0) (pa_cons pe_int pa_nil)))) (pa_cons (pe_op op_add pe_int (pe_call (ok_law_next T) (hr.mono (by decide)) (by rfl) T.m_law_next T.F_law_next.kp T.b_law_next .nil pass0 (pa_cons (pv 0) (pa_cons pe_int pa_nil)))) (pa_cons pe_int pa_nil))))) (pe_call (ok_law_next T) (hr.mono (by decide)) (by rfl) T.m_law_next T.F_law_next.kp T.b_law_next .nil pass0 (pa_cons (pv 0) (pa_cons pe_int pa_nil))) (fun _ _ => rfl))) (pss_one (ps_ret (pe_tupleOf (by rfl) T.z_tuple (pe_lc (own := [("_law_k", 2)]) rfl nd (pi_range1 rfl T.z_range (pa_cons (pv 1) pa_nil)) (blkOk_by (own := [("_law_k", 2)]) (N := N_law_data) (sc := defScope s_law_data) (by decide +kernel)) (fun _ _ _ _ _ => (pg_name (i := 2) nd rfl (Or.inl rfl))) (fun _ _ _ _ _ => pts_nil) (fun _ _ _ _ _ => (pe_call (ok_law_next T) (hr.mono (by decide)) (by rfl) T.m_law_next T.F_law_next.kp T.b_law_next .nil pass0 (pa_cons (pv 0) (pa_cons (pe_ix (ix_listK (K := K) rfl) (pe_lst (pa_cons pe_int (pa_cons pe_int pa_nil))) (pe_call (ok_law_next T) (hr.mono (by decide)) (by rfl) T.m_law_next T.F_law_next.kp T.b_law_next .nil pass0 (pa_cons (pv 0) (pa_cons pe_int pa_nil))) (fun _ _ => rfl)) pa_nil))))))))), ?_⟩
    refine ⟨_, rfl, p, q, 5, rfl, hA, by decide, by decide, fun r1 H1 r10 r11 hA1 k1 d1 => ⟨1, r1, rfl, rfl, ?_⟩⟩
    refine ⟨_, rfl, p, q, 20, rfl, hA1, by decide, by decide, fun r2 H2 r20 r21 hA2 k2 d2 => ⟨1, r2, rfl, rfl, ?_⟩⟩
    refine ⟨(by decide : (4 : Nat) ≤ sizeLine), fun a ha => ?_⟩
    have k3 : Keep [p, q] H (upd H2 a (.lst [.int 1, .int (1 + r1), .int (1 + r2), .int 20])) := keep_new (k1.trans k2) (d1 _ (d2 _ ha))
    have d3 : Dom H (upd H2 a (.lst [.int 1, .int (1 + r1), .int (1 + r2), .int 20])) := (d1.trans d2).upd _ _
    have hA3 : HAt (upd H2 a (.lst [.int 1, .int (1 + r1), .int (1 + r2), .int 20])) p q := hA2.new ha
    have ha3 : upd H2 a (.lst [.int 1, .int (1 + r1), .int (1 + r2), .int 20]) a = some (.lst [.int 1, .int (1 + r1), .int (1 + r2), .int 20]) := upd_same
    have naf := hA2.fresh ha
    generalize upd H2 a (.lst [.int 1, .int (1 + r1), .int (1 + r2), .int 20]) = H3 at *
    refine ⟨_, rfl, p, q, 4, rfl, hA3, by decide, by decide, fun r4 H4 r40 r41 hA4 k4 d4 => ?_⟩
    have ha4 := k4 _ _ (by simp [naf.1, naf.2]) ha3
    obtain ⟨v, hv, n, rfl, n1, n20⟩ := at_of (R := fun v => ∃ n : Int, v = .int n ∧ 1 ≤ n ∧ n ≤ 20) r40 (xs := [.int 1, .int (1 + r1), .int (1 + r2), .int 20]) r41 (by
      intro v hv
      simp only [List.mem_cons, List.not_mem_nil, or_false] at hv
      rcases hv with rfl | rfl | rfl | rfl
      · exact ⟨_, rfl, by omega, by omega⟩
      · exact ⟨_, rfl, by omega, by omega⟩
      · exact ⟨_, rfl, by omega, by omega⟩
      · exact ⟨_, rfl, by omega, by omega⟩)
    refine ⟨a, _, _, _, rfl, rfl, SqL.of ha4, hv, ?_⟩
    have k5 : Keep [p, q] H H4 := k3.trans k4
    have d5 : Dom H H4 := d3.trans d4
    obtain ⟨N, rfl⟩ : ∃ N : Nat, n = (N : Int) := ⟨n.toNat, (Int.toNat_of_nonneg (by omega)).symm⟩
    -- return tuple([..])
    refine ⟨_, rfl, _, rfl, (by omega), (by omega), fun D hD => ?_⟩
    have hD0 : H D = none := d5 _ hD
    refine lc_range (lo := 0) (n := ((N : Nat) : Int).toNat) (fun i H' => ∃ xs : List Int, H' D = some (.lst (xs.map V.int)) ∧ xs.length = i ∧ (∀ x ∈ xs, 0 ≤ x ∧ x ≤ 255) ∧ HAt H' p q ∧ Keep [p, q] H H' ∧ Dom H H') ?_ ?_ ?_
    · exact ⟨[], upd_same, rfl, by simp, hA4.new hD, keep_new k5 hD0, d5.upd _ _⟩
    · rintro i H' hi ⟨xs, hx, hl, hb, hA', k', d'⟩
      refine ⟨rfl, _, rfl, (by decide : (2 : Nat) ≤ sizeLine), fun b hb' => ?_⟩
      have nb : b ≠ D := (ne_of_none hx hb').symm
      have nbf := hA'.fresh hb'
      refine ⟨_, rfl, p, q, 2, rfl, hA'.new hb', by decide, by decide, fun r H1 r0 r1 hA1 k1 d1 => ?_⟩
      obtain ⟨v, hv, m, rfl, m0, m1⟩ := at_of (R := fun v => ∃ n : Int, v = .int n ∧ 0 < n ∧ n ≤ 256) r0 (xs := [.int 2, .int 256]) r1 (by
        intro v hv
        simp only [List.mem_cons, List.not_mem_nil, or_false] at hv
        rcases hv with rfl | rfl
        · exact ⟨_, rfl, by omega, by omega⟩
        · exact ⟨_, rfl, by omega, by omega⟩)
      refine ⟨b, _, _, _, rfl, rfl, SqL.of (k1 _ _ (by simp [nbf.1, nbf.2]) upd_same), hv, ?_⟩
      refine ⟨p, q, m, rfl, hA1, m0, by omega, fun r' H2 r0' r1' hA2 k2 d2 => ?_⟩
      have nDf : D ≠ p ∧ D ≠ q := by
        obtain ⟨_, _, _, _, hp, hq, _⟩ := hA
        exact ⟨(ne_of_none hp hD0).symm, (ne_of_none hq hD0).symm⟩
      have hx2 : H2 D = some (.lst (xs.map V.int)) := k2 _ _ (by simp [nDf.1, nDf.2]) (k1 _ _ (by simp [nDf.1, nDf.2]) (by rw [upd_ne nb.symm]; exact hx))
      refine ⟨_, hx2, lt_line (by rw [List.length_map]; omega), xs ++ [r'], by rw [upd_same, List.map_append]; rfl, by rw [List.length_append, hl]; rfl, ?_, hA2.ne nDf.1 nDf.2, keep_new (((keep_new' k' hb').trans k1).trans k2) hD0, (((d'.upd _ _).trans d1).trans d2).upd _ _⟩
      intro x hx
      rcases List.mem_append.mp hx with e | e
      · exact hb x e
      · rw [List.mem_singleton.mp e]
        exact ⟨r0', by omega⟩
    · rintro H' ⟨xs, hx, hl, hb, hA', k', d'⟩
      refine .inl ⟨D, _, rfl, SqL.of hx, fun t ht => ?_⟩
      have ht0 := d' _ ht
      exact fin t xs _ ⟨by omega, by omega, hb⟩ upd_same ht0 (hA'.new ht) (keep_new k' ht0) (d'.upd _ _)
end
end K2

namespace K2
open PySem PySem.Spec PyProof.Rows L2 Sky
/-! ### the law's own row of numbers -/
def sd (z : Nat) (ln ls : Addr) : List (Key × V) := [(.inr ("size" : Str), .int (z : Nat)), (.inr ("numbers" : Str), .ref ln), (.inr ("starts" : Str), .ref ls)]
theorem sd12 : ¬ ((Sum.inr ("size" : Str) : Key) = Sum.inr ("numbers" : Str)) := by decide +kernel
theorem sd13 : ¬ ((Sum.inr ("size" : Str) : Key) = Sum.inr ("starts" : Str)) := by decide +kernel
theorem sd23 : ¬ ((Sum.inr ("numbers" : Str) : Key) = Sum.inr ("starts" : Str)) := by decide +kernel
theorem sd_size {z : Nat} {ln ls : Addr} : valV (sd z ln ls) (.inr ("size" : Str)) = some (.int (z : Nat)) := by
  unfold valV sd
  rw [List.find?_cons_of_pos (by simp)]
  rfl
theorem sd_numbers {z : Nat} {ln ls : Addr} : valV (sd z ln ls) (.inr ("numbers" : Str)) = some (.ref ln) := by
  unfold valV sd
  rw [List.find?_cons_of_neg (by rw [decide_eq_true_iff]; exact sd12), List.find?_cons_of_pos (by simp)]
  rfl
theorem sd_starts {z : Nat} {ln ls : Addr} : valV (sd z ln ls) (.inr ("starts" : Str)) = some (.ref ls) := by
  unfold valV sd
  rw [List.find?_cons_of_neg (by rw [decide_eq_true_iff]; exact sd13), List.find?_cons_of_neg (by rw [decide_eq_true_iff]; exact sd23), List.find?_cons_of_pos (by simp)]
  rfl
theorem dg_size {H : Hp} {s ln ls : Addr} {z : Nat} (h : H s = some (.dK (sd z ln ls))) : DGet H s (.str "size") (some (.int (z : Nat))) := by
  have := DGet.k (k := Sum.inr ("size" : Str)) h
  rw [sd_size] at this
  exact this
theorem dg_numbers {H : Hp} {s ln ls : Addr} {z : Nat} (h : H s = some (.dK (sd z ln ls))) : DGet H s (.str "numbers") (some (.ref ln)) := by
  have := DGet.k (k := Sum.inr ("numbers" : Str)) h
  rw [sd_numbers] at this
  exact this
theorem dg_starts {H : Hp} {s ln ls : Addr} {z : Nat} (h : H s = some (.dK (sd z ln ls))) : DGet H s (.str "starts") (some (.ref ls)) := by
  have := DGet.k (k := Sum.inr ("starts" : Str)) h
  rw [sd_starts] at this
  exact this
theorem putK_new {kvs : List (Key × V)} {k : Key} {v : V} (h : ∀ kv ∈ kvs, kv.1 ≠ k) : putK kvs k v = kvs ++ [(k, v)] := by
  unfold putK
  rw [if_neg]
  rw [List.any_eq_true]
  rintro ⟨kv, hm, e⟩
  exact h kv hm (of_decide_eq_true e)
theorem sd_merge (z : Nat) (ln ls : Addr) : mergeK [] (sd z ln ls) = sd z ln ls := by
  show putK (putK (putK ([] : List (Key × V)) (Sum.inr ("size" : Str)) _) (Sum.inr ("numbers" : Str)) _) (Sum.inr ("starts" : Str)) _ = _
  rw [putK_new (kvs := []) (by simp), putK_new (kvs := [] ++ [_]), putK_new (kvs := ([] ++ [_]) ++ [_])]
  · rfl
  · intro kv hm
    rcases List.mem_append.mp hm with e | e
    · rw [List.mem_singleton.mp e]; exact sd13
    · rw [List.mem_singleton.mp e]; exact sd23
  · intro kv hm
    rw [List.mem_singleton.mp hm]
    exact sd12
/-- the row stands: its numbers N, the places S at which tellings begin -/
structure SAt (H : Hp) (s ln ls : Addr) (z : Nat) (N : List Int) (S : List Nat) : Prop where
  d : H s = some (.dK (sd z ln ls))
  n : H ln = some (.lst (N.map V.int))
  ne : ln ≠ ls
  st : ∃ L : List (Addr × Nat × V), H ls = some (.lst (L.map fun x => V.ref x.1)) ∧ (∀ x ∈ L, H x.1 = some (.tup [.int (x.2.1 : Nat), x.2.2])) ∧ S = L.map (·.2.1)
theorem SAt.keep {H H' : Hp} {s ln ls : Addr} {z : Nat} {N : List Int} {S : List Nat} (h : SAt H s ln ls z N S) (k : Same H H') : SAt H' s ln ls z N S := by
  obtain ⟨L, h1, h2, h3⟩ := h.st
  exact ⟨k _ _ h.d, k _ _ h.n, h.ne, L, k _ _ h1, fun x hx => k _ _ (h2 x hx), h3⟩
section
variable {P : Program} {w : World} {K : PySem.W.Frag} {mg : Str → Option Value} {base : Heap}
def sp_fresh : Sp := fun vs H Q _ => ∃ z : Nat, vs = [.int (z : Nat)] ∧ ∀ s ln ls H', SAt H' s ln ls z [] [] → H s = none → H ln = none → H ls = none → Same H H' → Q (.ref s) H'
theorem ok_law_fresh (T : Tx K mg) : FnOk P w K mg base CX0 1 T.a_law_fresh T.d_law_fresh ["_law_size"] sp_fresh := by
  have nd := sc_law_fresh.nd
  refine T.F_law_fresh.ok sc_law_fresh (fun vs H Q E h => ?_) (fun cdv A outer s H vs Q E hr h => ?_)
  · obtain ⟨_, rfl, _⟩ := h
    rfl
  · obtain ⟨z, rfl, fin⟩ := h
    refine ⟨_, (pss_one (ps_ret (pe_disp (pps_cons pe_str (pv 0) (pps_cons pe_str (pe_lst pa_nil) (pps_cons pe_str (pe_lst pa_nil) pps_nil))) (by rfl) (by rfl) (fun z => by cases z) (by decide)))), ?_⟩
    intro d hd
    refine ⟨_, rfl, Nat.zero_le _, fun ln hln => ⟨Nat.zero_le _, fun ls hls => ?_⟩⟩
    have ndn : d ≠ ln := ne_of_none upd_same hln
    have nnl : ln ≠ ls := ne_of_none upd_same hls
    have ndl : d ≠ ls := ne_of_none (by rw [upd_ne ndn]; exact upd_same) hls
    refine ⟨by rw [upd_ne ndl, upd_ne ndn]; exact upd_same, sd z ln ls, rfl, (by decide : (3 : Nat) ≤ 15), ?_⟩
    rw [sd_merge]
    have hln0 : H ln = none := by rw [upd_ne ndn.symm] at hln; exact hln
    have hls0 : H ls = none := by rw [upd_ne nnl.symm, upd_ne ndl.symm] at hls; exact hls
    exact fin d ln ls _ ⟨upd_same, by rw [upd_ne ndn.symm, upd_ne nnl]; exact upd_same, nnl, [], by rw [upd_ne ndl.symm]; exact upd_same, by simp, rfl⟩ hd hln0 hls0 (same_mut (same_mut (same_mut (same_mut (Same.refl _) hd) hln0) hls0) hd)
def sp_llay : Sp := fun vs H Q _ => ∃ (s ln ls a : Addr) (z : Nat) (N : List Int) (S : List Nat) (t : List Int), vs = [.ref s, .ref a] ∧ SAt H s ln ls z N S ∧ H a = some (.tup (t.map V.int)) ∧ t.length ≤ 1000 ∧ N.length ≤ 1000000 ∧ S.length ≤ 1000000 ∧
  ∀ v H', SAt H' s ln ls z (lay1 (N, S) t).1 (lay1 (N, S) t).2 → Keep [ln, ls] H H' → Dom H H' → Q v H'
theorem ok_law_lay (T : Tx K mg) : FnOk P w K mg base CX0 1 T.a_law_lay T.d_law_lay ["_law_s", "_law_data_here"] sp_llay := by
  have nd := sc_law_lay.nd
  refine T.F_law_lay.ok sc_law_lay (fun vs H Q E h => ?_) (fun cdv A outer s H vs Q E hr h => ?_)
  · obtain ⟨_, _, _, _, _, _, _, _, rfl, _⟩ := h
    rfl
  · obtain ⟨s, ln, ls, a, z, N, S, t, rfl, ⟨hd, hn, nnl, L, hls, hL, hS⟩, ha, ht, hN, hSl, fin⟩ := h
    have hLl : L.length = S.length := by rw [hS, List.length_map]
    refine ⟨_, (pss_cons (ps_set (i := 2) nd rfl (Or.inl rfl) (pe_callB call_len_seq (by rfl) T.z_len PySem.boot_len (pa_cons (pe_dget (hu_of hr) (pv 0) pe_str (fun _ _ => rfl)) pa_nil))) (pss_cons (ps_expr (pe_bm PySem.F.plainAttrs_list PySem.F.slot_list_append PySem.F.type_list_append mt_append (pe_dget (hu_of hr) (pv 0) pe_str (fun _ _ => rfl)) (pa_cons (pe_tup (pa_cons (pe_callB call_len_seq (by rfl) T.z_len PySem.boot_len (pa_cons (pe_dget (hu_of hr) (pv 0) pe_str (fun _ _ => rfl)) pa_nil)) (pa_cons (pv 1) pa_nil))) pa_nil))) (pss_cons (ps_expr (pe_bm PySem.F.plainAttrs_list PySem.F.slot_list_extend PySem.F.type_list_extend mt_extend (pe_dget (hu_of hr) (pv 0) pe_str (fun _ _ => rfl)) (pa_cons (pe_op op_cat (pe_lst (pa_cons (pe_callB call_len_seq (by rfl) T.z_len PySem.boot_len (pa_cons (pv 1) pa_nil)) (pa_cons (pe_op op_fdivN (pv 2) pe_int) (pa_cons (pe_op op_modN (pv 2) pe_int) pa_nil)))) (pe_callTy call_list_of (by rfl) T.z_list (by decide +kernel) (pa_cons (pv 1) pa_nil))) pa_nil))) (pss_one (ps_ret (pv 2)))))), ?_⟩
    -- seq
    refine ⟨_, rfl, s, _, rfl, dg_starts hd, ls, _, rfl, .inl (SqL.of hls), ?_⟩
    rw [List.length_map, hLl]
    -- starts.append((len(numbers), data))
    refine ⟨_, rfl, s, _, rfl, dg_starts hd, .inl ⟨rfl, _, SqL.of hls⟩, _, rfl, s, _, rfl, dg_numbers hd, ln, _, rfl, .inl (SqL.of hn), _, rfl, (by decide : (2 : Nat) ≤ sizeLine), fun b hb => ?_⟩
    rw [List.length_map]
    have nlb : ls ≠ b := ne_of_none hls hb
    refine ⟨ls, _, _, rfl, rfl, (by rw [upd_ne nlb]; exact hls), lt_line (by rw [List.length_map]; omega), ?_⟩
    have e1 : (L.map fun x => V.ref x.1) ++ [V.ref b] = (L ++ [(b, N.length, V.ref a)]).map fun x => V.ref x.1 := by rw [List.map_append]; rfl
    rw [e1]
    have nsl : s ≠ ls := ne_of hd hls (by intro e; cases e)
    have nsb : s ≠ b := ne_of_none hd hb
    have nnb : ln ≠ b := ne_of_none hn hb
    have nab : a ≠ b := ne_of_none ha hb
    have nal : a ≠ ls := ne_of ha hls (by intro e; cases e)
    have nan : a ≠ ln := ne_of ha hn (by intro e; cases e)
    have nsn : s ≠ ln := ne_of hd hn (by intro e; cases e)
    have k1 : Keep [ln, ls] H (upd (upd H b (.tup [.int ((N.length : Nat) : Int), .ref a])) ls (.lst ((L ++ [(b, N.length, V.ref a)]).map fun x => V.ref x.1))) := keep_upd (keep_new (Keep.refl _ _) hb) (by simp)
    have d1 : Dom H (upd (upd H b (.tup [.int ((N.length : Nat) : Int), .ref a])) ls (.lst ((L ++ [(b, N.length, V.ref a)]).map fun x => V.ref x.1))) := (dom_upd _ _ _).upd _ _
    have hd1 : (upd (upd H b (.tup [.int ((N.length : Nat) : Int), .ref a])) ls (.lst ((L ++ [(b, N.length, V.ref a)]).map fun x => V.ref x.1))) s = some (.dK (sd z ln ls)) := by rw [upd_ne nsl, upd_ne nsb]; exact hd
    have hn1 : (upd (upd H b (.tup [.int ((N.length : Nat) : Int), .ref a])) ls (.lst ((L ++ [(b, N.length, V.ref a)]).map fun x => V.ref x.1))) ln = some (.lst (N.map V.int)) := by rw [upd_ne nnl, upd_ne nnb]; exact hn
    have ha1 : (upd (upd H b (.tup [.int ((N.length : Nat) : Int), .ref a])) ls (.lst ((L ++ [(b, N.length, V.ref a)]).map fun x => V.ref x.1))) a = some (.tup (t.map V.int)) := by rw [upd_ne nal, upd_ne nab]; exact ha
    have hl1 : (upd (upd H b (.tup [.int ((N.length : Nat) : Int), .ref a])) ls (.lst ((L ++ [(b, N.length, V.ref a)]).map fun x => V.ref x.1))) ls = some (.lst ((L ++ [(b, N.length, V.ref a)]).map fun x => V.ref x.1)) := upd_same
    have hL1 : ∀ x ∈ L ++ [(b, N.length, V.ref a)], (upd (upd H b (.tup [.int ((N.length : Nat) : Int), .ref a])) ls (.lst ((L ++ [(b, N.length, V.ref a)]).map fun x => V.ref x.1))) x.1 = some (.tup [.int (x.2.1 : Nat), x.2.2]) := by
      intro x hx
      rcases List.mem_append.mp hx with e | e
      · have q := hL x e
        rw [upd_ne (ne_of q hls (by intro e; cases e)), upd_ne (ne_of_none q hb)]
        exact q
      · rw [List.mem_singleton.mp e, upd_ne nlb.symm]
        exact upd_same
    generalize (upd (upd H b (.tup [.int ((N.length : Nat) : Int), .ref a])) ls (.lst ((L ++ [(b, N.length, V.ref a)]).map fun x => V.ref x.1))) = H1 at *
    -- numbers.extend([..] + list(data))
    refine ⟨_, rfl, s, _, rfl, dg_numbers hd1, .inl ⟨rfl, _, SqL.of hn1⟩, _, rfl, a, _, rfl, .inr (SqT.of ha1), ?_⟩
    refine ⟨_, rfl, _, 256, rfl, rfl, ⟨by decide, by decide⟩, _, rfl, _, 256, rfl, rfl, (by decide : (256 : Int) ≠ 0), (by decide : (3 : Nat) ≤ sizeLine), fun c hc => ?_⟩
    refine ⟨_, rfl, a, _, rfl, .inr (SqT.of (same_new (Same.refl _) hc _ _ ha1)), fun e he => ?_⟩
    have nce : c ≠ e := ne_of_none upd_same he
    refine ⟨c, e, _, _, rfl, rfl, (by rw [upd_ne nce]; exact upd_same), upd_same, le_line (by rw [List.length_map]; show 3 + t.length ≤ _; omega), fun g hg => ?_⟩
    have elaid : ([V.int (((t.map V.int).length : Nat) : Int), V.int (((S.length : Nat) : Int).fdiv 256), V.int (((S.length : Nat) : Int).fmod 256)] ++ t.map V.int) = (laidN (S.length : Nat) t).map V.int := by
      unfold laidN
      rw [List.length_map]
      rfl
    rw [elaid]
    have s3 : Same H1 (upd (upd (upd H1 c (.lst [V.int (((t.map V.int).length : Nat) : Int), V.int (((S.length : Nat) : Int).fdiv 256), V.int (((S.length : Nat) : Int).fmod 256)])) e (.lst (t.map V.int))) g (.lst ((laidN (S.length : Nat) t).map V.int))) := same_new (same_new (same_new (Same.refl _) hc) he) hg
    have hg3 : (upd (upd (upd H1 c (.lst [V.int (((t.map V.int).length : Nat) : Int), V.int (((S.length : Nat) : Int).fdiv 256), V.int (((S.length : Nat) : Int).fmod 256)])) e (.lst (t.map V.int))) g (.lst ((laidN (S.length : Nat) t).map V.int))) g = some (.lst ((laidN (S.length : Nat) t).map V.int)) := upd_same
    generalize (upd (upd (upd H1 c (.lst [V.int (((t.map V.int).length : Nat) : Int), V.int (((S.length : Nat) : Int).fdiv 256), V.int (((S.length : Nat) : Int).fmod 256)])) e (.lst (t.map V.int))) g (.lst ((laidN (S.length : Nat) t).map V.int))) = H3 at *
    refine ⟨ln, g, _, _, rfl, rfl, s3 _ _ hn1, hg3, le_line (by rw [List.length_map, List.length_map, laidN_length]; omega), ?_⟩
    rw [← List.map_append]
    refine ⟨_, rfl, fin _ _ ⟨by rw [upd_ne nsn]; exact s3 _ _ hd1, upd_same, nnl, L ++ [(b, N.length, V.ref a)], by rw [upd_ne nnl.symm]; exact s3 _ _ hl1, fun x hx => ?_, ?_⟩ (keep_upd (k1.trans (Keep.of_same s3)) (by simp)) ((d1.trans (Dom.of_same s3)).upd _ _)⟩
    · have q := s3 _ _ (hL1 x hx)
      rw [upd_ne (ne_of q (s3 _ _ hn1) (by intro e; cases e))]
      exact q
    · rw [List.map_append, ← hS]
      rfl
def sp_lfill : Sp := fun vs H Q _ => ∃ (s ln ls : Addr) (z : Nat) (N : List Int) (S : List Nat), vs = [.ref s] ∧ SAt H s ln ls z N S ∧ 0 < z ∧ z ≤ 100 ∧ N.length ≤ 1000000 ∧
  ∀ v H', SAt H' s ln ls z (padN z N) S → Keep [ln] H H' → Dom H H' → Q v H'
theorem ok_law_fill (T : Tx K mg) : FnOk P w K mg base CX0 1 T.a_law_fill T.d_law_fill ["_law_s"] sp_lfill := by
  have nd := sc_law_fill.nd
  refine T.F_law_fill.ok sc_law_fill (fun vs H Q E h => ?_) (fun cdv A outer s H vs Q E hr h => ?_)
  · obtain ⟨_, _, _, _, _, _, rfl, _⟩ := h
    rfl
  · obtain ⟨s, ln, ls, z, N, S, rfl, hS0, hz, hz1, hN, fin⟩ := h
    have hS := hS0
    obtain ⟨hd, hn, nnl, L, hls, hL, hSe⟩ := hS
    refine ⟨_, (pss_cons (ps_set (i := 1) nd rfl (Or.inl rfl) (pe_op op_modN (pe_callB call_len_seq (by rfl) T.z_len PySem.boot_len (pa_cons (pe_dget (hu_of hr) (pv 0) pe_str (fun _ _ => rfl)) pa_nil)) (pe_dget (hu_of hr) (pv 0) pe_str (fun _ _ => rfl)))) (pss_cons (ps_expr (pe_bm PySem.F.plainAttrs_list PySem.F.slot_list_extend PySem.F.type_list_extend mt_extend (pe_dget (hu_of hr) (pv 0) pe_str (fun _ _ => rfl)) (pa_cons (pe_ifExp (pt_cmpR op_gt (pv 1) pe_int (nomark _)) (pe_op op_rep (pe_lst (pa_cons pe_int pa_nil)) (pe_op op_sub (pe_dget (hu_of hr) (pv 0) pe_str (fun _ _ => rfl)) (pv 1))) (pe_lst pa_nil)) pa_nil))) (pss_one (ps_ret (pe_cmpR op_gt (pv 1) pe_int (nomark _)))))), ?_⟩
    refine ⟨_, rfl, s, _, rfl, dg_numbers hd, ln, _, rfl, .inl (SqL.of hn), _, rfl, s, _, rfl, dg_size hd, _, _, rfl, rfl, (by show ((z : Nat) : Int) ≠ 0; omega), ?_⟩
    simp only [List.length_map, fmod_nat]
    have hm := Nat.mod_lt N.length hz
    refine ⟨_, rfl, s, _, rfl, dg_numbers hd, .inl ⟨rfl, _, SqL.of hn⟩, _, rfl, _, 0, rfl, rfl, _, rfl, ite2 (fun e => ?_) (fun e => ?_)⟩
    · have e0 : N.length % z ≠ 0 := by have := of_decide_eq_true e; omega
      refine ⟨(by decide : (1 : Nat) ≤ sizeLine), fun a ha => ?_⟩
      have s1 := same_new (Same.refl H) ha (o := .lst [.int 0])
      refine ⟨_, rfl, s, _, rfl, dg_size (s1 _ _ hd), _, rfl, _, _, rfl, rfl, ?_⟩
      refine ⟨a, _, _, rfl, rfl, upd_same, (by omega), (by omega), le_line (by rw [List.length_singleton]; omega), fun b hb => ?_⟩
      have ez : (List.replicate (((z : Nat) : Int) - ((N.length % z : Nat) : Int)).toNat [V.int 0]).flatten = (List.replicate (z - N.length % z) (0 : Int)).map V.int := by
        rw [show (((z : Nat) : Int) - ((N.length % z : Nat) : Int)).toNat = z - N.length % z by omega]
        induction (z - N.length % z) with
        | zero => rfl
        | succ n ih => rw [List.replicate_succ, List.replicate_succ, List.flatten_cons, ih]; rfl
      rw [ez]
      have s2 := same_new s1 hb (o := .lst ((List.replicate (z - N.length % z) (0 : Int)).map V.int))
      refine ⟨ln, b, _, _, rfl, rfl, s2 _ _ hn, upd_same, le_line (by rw [List.length_map, List.length_map, List.length_replicate]; omega), ?_⟩
      rw [← List.map_append]
      have nsn : s ≠ ln := ne_of hd hn (by intro e; cases e)
      refine ⟨_, rfl, _, 0, rfl, rfl, fin _ _ ⟨by rw [upd_ne nsn]; exact s2 _ _ hd, by unfold padN; rw [if_neg e0]; exact upd_same, nnl, L, by rw [upd_ne nnl.symm]; exact s2 _ _ hls, fun x hx => ?_, hSe⟩ (keep_upd (Keep.of_same s2) (by simp)) ((Dom.of_same s2).upd _ _)⟩
      have q := hL x hx
      rw [upd_ne (ne_of q hn (by intro e; cases e))]
      exact s2 _ _ q
    · have e0 : N.length % z = 0 := by
        have h1 : ¬ (0 : Int) < ((N.length % z : Nat) : Int) := fun z1 => e (decide_eq_true z1)
        omega
      refine ⟨Nat.zero_le _, fun a ha => ?_⟩
      have s1 := same_new (Same.refl H) ha (o := .lst [])
      refine ⟨ln, a, _, _, rfl, rfl, s1 _ _ hn, upd_same, le_line (by rw [List.length_map]; show N.length + 0 ≤ _; omega), ?_⟩
      rw [List.append_nil]
      have nsn : s ≠ ln := ne_of hd hn (by intro e; cases e)
      refine ⟨_, rfl, _, 0, rfl, rfl, fin _ _ ⟨by rw [upd_ne nsn]; exact s1 _ _ hd, by unfold padN; rw [if_pos e0]; exact upd_same, nnl, L, by rw [upd_ne nnl.symm]; exact s1 _ _ hls, fun x hx => ?_, hSe⟩ (keep_upd (Keep.of_same s1) (by simp)) ((Dom.of_same s1).upd _ _)⟩
      have q := hL x hx
      rw [upd_ne (ne_of q hn (by intro e; cases e))]
      exact s1 _ _ q
def sp_lmany : Sp := fun vs H Q _ => ∃ (s ln ls : Addr) (z : Nat) (N : List Int) (S : List Nat), vs = [.ref s] ∧ SAt H s ln ls z N S ∧ 0 < z ∧ z ≤ 100 ∧ Q (.int ((N.length / z : Nat) : Int)) H
theorem ok_law_many (T : Tx K mg) : FnOk P w K mg base CX0 1 T.a_law_many T.d_law_many ["_law_s"] sp_lmany := by
  have nd := sc_law_many.nd
  refine T.F_law_many.ok sc_law_many (fun vs H Q E h => ?_) (fun cdv A outer s H vs Q E hr h => ?_)
  · obtain ⟨_, _, _, _, _, _, rfl, _⟩ := h
    rfl
  · obtain ⟨s, ln, ls, z, N, S, rfl, hS, hz, hz1, fin⟩ := h
    refine ⟨_, (pss_one (ps_ret (pe_op op_fdivN (pe_callB call_len_seq (by rfl) T.z_len PySem.boot_len (pa_cons (pe_dget (hu_of hr) (pv 0) pe_str (fun _ _ => rfl)) pa_nil)) (pe_dget (hu_of hr) (pv 0) pe_str (fun _ _ => rfl))))), ?_⟩
    refine ⟨_, rfl, s, _, rfl, dg_numbers hS.d, ln, _, rfl, .inl (SqL.of hS.n), _, rfl, s, _, rfl, dg_size hS.d, _, _, rfl, rfl, ⟨by omega, by omega⟩, ?_⟩
    simp only [List.length_map, fdiv_nat]
    exact fin
def sp_lframe : Sp := fun vs H Q _ => ∃ (s ln ls : Addr) (z : Nat) (N : List Int) (S : List Nat) (st : Int) (c : Nat), vs = [.ref s, .int st, .int (c : Nat)] ∧ SAt H s ln ls z N S ∧ 0 < z ∧ z ≤ 100 ∧ N.length ≤ 1000000 ∧ S.length ≤ 1000000 ∧
  S.Pairwise (· ≤ ·) ∧ c * z + z ≤ N.length ∧ ∀ f H', TD H' (.ref f) (frmD st (frm z N S c)) → Same H H' → Q (.ref f) H'
theorem ok_law_frame (T : Tx K mg) : FnOk P w K mg base CX0 1 T.a_law_frame T.d_law_frame ["_law_s", "_law_stream", "_law_count"] sp_lframe := by
  have nd := sc_law_frame.nd
  refine T.F_law_frame.ok sc_law_frame (fun vs H Q E h => ?_) (fun cdv A outer s H vs Q E hr h => ?_)
  · obtain ⟨_, _, _, _, _, _, _, _, rfl, _⟩ := h
    rfl
  · obtain ⟨s, ln, ls, z, N, S, st, c, rfl, hS, hz, hz1, hN, hSl, asc, hc, fin⟩ := h
    obtain ⟨hd, hn, nnl, L, hls, hL, hSe⟩ := hS
    have hLl : L.length = S.length := by rw [hSe, List.length_map]
    refine ⟨_, (pss_cons (ps_set (i := 3) nd rfl (Or.inr rfl) (pe_op op_mul (pv 2) (pe_dget (hu_of hr) (pv 0) pe_str (fun _ _ => rfl)))) (pss_cons (ps_set (i := 4) nd rfl (Or.inr rfl) (pe_op op_add (pv 3) (pe_dget (hu_of hr) (pv 0) pe_str (fun _ _ => rfl)))) (pss_cons (ps_setLc (i := 5) (own := [("_law_start", 6), ("_law_data_here", 7)]) rfl nd rfl rfl (sw_true rfl rfl rfl (by decide +kernel)) (pi_list (pe_dget (hu_of hr) (pv 0) pe_str (fun _ _ => rfl))) (blkOk_by (own := [("_law_start", 6), ("_law_data_here", 7)]) (N := N_law_frame) (sc := defScope s_law_frame) (by decide +kernel)) (fun _ _ _ _ _ => (pg_tupK (K := K) (n := 2) rfl rfl (pgs_cons (pg_name (i := 6) nd rfl (Or.inl rfl)) (pgs_cons (pg_name (i := 7) nd rfl (Or.inl rfl)) pgs_nil)))) (fun _ _ _ _ _ => (pts_one (pt_chain op_le op_lt (pv 3) (pv 6) (pv 4)))) (fun _ _ _ _ _ => (pe_op op_sub (pv 6) (pv 3)))) (pss_one (ps_ret (pe_tup (pa_cons (pv 1) (pa_cons (pv 2) (pa_cons (pe_ifExp (pt_cmpR (op_neD hr.units) (pv 5) (pe_lst pa_nil) (nomark _)) (pe_callB (cr_min rfl) (by rfl) T.z_min (by decide +kernel) (pa_cons (pv 5) pa_nil)) pe_non) (pa_cons (pe_tupleOf (by rfl) T.z_tuple (pe_slice sl_list (pe_dget (hu_of hr) (pv 0) pe_str (fun _ _ => rfl)) (po_some (pv 3)) (po_some (pv 4)))) pa_nil)))))))))), ?_⟩
    -- low, high
    refine ⟨_, rfl, _, rfl, s, _, rfl, dg_size hd, _, _, rfl, rfl, .inr ⟨by omega, by omega⟩, ?_⟩
    simp only [← Int.natCast_mul]
    refine ⟨_, rfl, _, rfl, s, _, rfl, dg_size hd, _, _, rfl, rfl, ?_⟩
    simp only [← Int.natCast_add]
    -- some
    refine ⟨_, rfl, s, _, rfl, dg_starts hd, ls, rfl, ⟨_, SqL.of hls⟩, fun D hD => ?_⟩
    refine lc_list (K := K) (a := ls) (xs := L.map fun x => V.ref x.1) (fun i H' => Same H H' ∧ H' D = some (.lst (((((S.take i).filter (inFr z c)).map (· - c * z)).map fun n : Nat => (n : Int)).map V.int))) ⟨same_new (Same.refl _) hD, upd_same⟩ (fun i H' _ p => SqL.of (p.1 _ _ hls)) ?_ ?_
    · rintro i y H' hy ⟨s', hD'⟩
      obtain ⟨x, hx, rfl⟩ := map_get hy
      have hSi : S[i]? = some x.2.1 := by rw [hSe, List.getElem?_map, hx]; rfl
      have hxt := s' _ _ (hL x (List.mem_of_getElem? hx))
      have il : i < S.length := (List.getElem?_eq_some_iff.mp hSi).1
      have hacc : ((((((S.take i).filter (inFr z c)).map (· - c * z)).map fun n : Nat => (n : Int)).map V.int)).length < sizeLine := by
        rw [List.length_map, List.length_map, List.length_map]
        refine lt_line ?_
        have := List.length_filter_le (inFr z c) (S.take i)
        rw [List.length_take] at this
        omega
      refine ⟨_, _, rfl, SqT.of hxt, rfl, _, _, rfl, _, _, rfl, rfl, rfl, ?_⟩
      refine ⟨_, rfl, _, rfl, _, _, rfl, rfl, _, rfl, ?_⟩
      by_cases g1 : c * z ≤ x.2.1
      · by_cases g2 : x.2.1 < c * z + z
        · rw [decide_eq_true (show ((c * z : Nat) : Int) ≤ ((x.2.1 : Nat) : Int) by omega)]
          refine iteT ⟨_, rfl, _, _, rfl, rfl, true, dT (by omega), iteT ?_⟩
          refine ⟨_, rfl, _, rfl, _, _, rfl, rfl, _, hD', hacc, same_mut s' hD, ?_⟩
          rw [upd_same, List.take_add_one, hSi, Option.toList_some, List.filter_append, List.filter_cons_of_pos (by unfold inFr; simp; omega), List.filter_nil, List.map_append, List.map_append, List.map_append]
          show _ = some (HO.lst (_ ++ [V.int (((x.2.1 - c * z : Nat) : Int))]))
          rw [show ((x.2.1 - c * z : Nat) : Int) = ((x.2.1 : Nat) : Int) - ((c * z : Nat) : Int) by omega]
        · rw [decide_eq_true (show ((c * z : Nat) : Int) ≤ ((x.2.1 : Nat) : Int) by omega)]
          refine iteT ⟨_, rfl, _, _, rfl, rfl, false, dF (by omega), iteF ⟨s', ?_⟩⟩
          rw [hD', List.take_add_one, hSi, Option.toList_some, List.filter_append, List.filter_cons_of_neg (by unfold inFr; simp; omega), List.filter_nil, List.append_nil]
      · rw [decide_eq_false (show ¬ ((c * z : Nat) : Int) ≤ ((x.2.1 : Nat) : Int) by omega)]
        refine iteF ⟨false, rfl, iteF ⟨s', ?_⟩⟩
        rw [hD', List.take_add_one, hSi, Option.toList_some, List.filter_append, List.filter_cons_of_neg (by unfold inFr; simp; omega), List.filter_nil, List.append_nil]
    · rintro H1 ⟨s1, hD1⟩
      rw [List.take_of_length_le (by rw [List.length_map, hLl]; exact Nat.le_refl _)] at hD1
      generalize exs : ((S.filter (inFr z c)).map (· - c * z)) = xs at hD1
      -- the tuple
      refine ⟨_, rfl, _, rfl, _, rfl, Nat.zero_le _, fun e he => ?_⟩
      have s2 := same_new (Same.refl H1) he (o := .lst [])
      refine ⟨.list ((xs.map fun n : Nat => (n : Int)).map PyData.int), .list [], .lst (SqL.of (s2 _ _ hD1)) (dpAll_ints _), .lst (SqL.of upd_same) .nil, (Lay.list (k := 0) fun x _ => Lay.int x).shaped (by decide), Lay.nil.shaped (by decide), _, rfl, ?_⟩
      rw [eqv_nil]
      generalize upd H1 e (.lst []) = H2 at *
      refine ife_skip (fun v H3 => v = optV (firstOf z c S) ∧ H3 = H2) (fun v H3 ⟨ev, eh⟩ => ?_) (fun g rest => ?_) (fun g rest => ?_)
      case refine_2 =>
        have hne : xs ≠ [] := fun h => by subst h; exact absurd g (by decide)
        refine ⟨_, rfl, D, _, rfl, SqL.of (s2 _ _ hD1), by rw [List.length_map]; exact List.length_pos_iff.mpr hne, fun m hm hle => rest _ _ ⟨?_, rfl⟩⟩
        obtain ⟨k, hk, rfl⟩ := List.mem_map.mp hm
        have e1 : firstOf z c S = some k := by
          refine firstOf_least asc (by rw [exs]; exact hk) fun y hy => ?_
          rw [exs] at hy
          have := hle _ (List.mem_map.mpr ⟨y, hy, rfl⟩)
          omega
        rw [e1]
        rfl
      case refine_3 =>
        refine rest _ _ ⟨?_, rfl⟩
        have hxe : xs = [] := by
          cases xs with
          | nil => rfl
          | cons x r => exact absurd rfl g
        unfold firstOf
        rw [exs, hxe]
        rfl
      subst ev eh
      have hS2 := s1.trans s2
      refine ⟨_, rfl, s, _, rfl, dg_numbers (hS2 _ _ hd), _, rfl, _, rfl, _, rfl, _, rfl, ln, _, rfl, SqL.of (hS2 _ _ hn), fun x hx => .inl ⟨x, _, rfl, SqL.of upd_same, fun y hy => ⟨(by decide : (4 : Nat) ≤ sizeLine), fun f hf => ?_⟩⟩⟩
      have ec : cutV (N.map V.int) (some ((c * z : Nat) : Int)) (some ((c * z + z : Nat) : Int)) = (((N.drop (c * z)).take z).map V.int) := by
        rw [cut_nat (by rw [List.length_map]; omega) (by rw [List.length_map]; omega), show (c * z + z - c * z) = z by omega, List.map_take, List.map_drop]
      rw [ec] at hy hf ⊢
      have nyf : y ≠ f := ne_of_none upd_same hf
      refine fin f _ (.tup upd_same (.cons (.int _) (.cons (.int _) (.cons (TD.opt _) (.cons (TD.tl ?_) .nil))))) (hS2.trans (same_new (same_new (same_new (Same.refl _) hx) hy) hf))
      rw [upd_ne nyf, upd_same]
      rfl
end
end K2

namespace K2
open PySem PySem.Spec PyProof.Rows L2 Sky
section
variable {P : Program} {w : World} {K : PySem.W.Frag} {mg : Str → Option Value} {base : Heap}
theorem frmD_ok {st : Int} {f : Frm} (h : f.2.2.length ≤ 10000000) : DOk 2 (frmD st f) := by
  refine DOk.tuple (show 4 ≤ 10000000 by decide) fun e he => ?_
  simp only [List.mem_cons, List.not_mem_nil, or_false] at he
  rcases he with rfl | rfl | rfl | rfl
  · exact DOk.int _
  · exact DOk.int _
  · exact DOk.opt _
  · exact DOk.tl h
theorem frms_ok {st : Int} {z : Nat} {N : List Int} {S : List Nat} (h : N.length ≤ 10000000) : DOk 3 (.list ((frms z N S).map (frmD st))) := by
  refine DOk.list (by rw [List.length_map, frms_length]; exact Nat.le_trans (Nat.div_le_self _ _) h) fun e he => ?_
  obtain ⟨f, hf, rfl⟩ := List.mem_map.mp he
  obtain ⟨c, _, rfl⟩ := List.mem_map.mp hf
  refine frmD_ok ?_
  unfold frm
  show ((N.drop (c * z)).take z).length ≤ _
  rw [List.length_take, List.length_drop]
  omega
theorem HAt.keep {H H' : Hp} {p q : Addr} {M : List Addr} (h : HAt H p q) (k : Keep M H H') (n : p ∉ M) (n' : q ∉ M) : HAt H' p q := by
  obtain ⟨m, k', ns, npq, hp, hq, r⟩ := h
  exact ⟨m, k', ns, npq, k _ _ n hp, k _ _ n' hq, r⟩
theorem HAt.same {H H' : Hp} {p q : Addr} (h : HAt H p q) (k : Same H H') : HAt H' p q := by
  obtain ⟨m, k', ns, npq, hp, hq, r⟩ := h
  exact ⟨m, k', ns, npq, k _ _ hp, k _ _ hq, r⟩
theorem HAt.ins {H : Hp} {p q : Addr} (h : HAt H p q) : (∃ o, H p = some o) ∧ ∃ o, H q = some o := by
  obtain ⟨m, k', ns, npq, hp, hq, r⟩ := h
  exact ⟨⟨_, hp⟩, ⟨_, hq⟩⟩
theorem nb : ∀ k : Nat, k ≤ 1000000 → -(2 ^ 62) ≤ (k : Int) ∧ (k : Int) < 2 ^ 62 := fun k h => ⟨by omega, by omega⟩
def sp_law (K : PySem.W.Frag) : Sp := fun vs H Q _ => ∃ (a : Addr) (ns : List Int), vs = [.ref a] ∧ SqL K H a (ns.map V.int) ∧ ns.length ≤ 63 ∧ ∀ H', Q (.bl true) H'
theorem ok_law (T : Tx K mg) : FnOk P w K mg base CX0 6 T.a_law T.d_law ["_law_script"] (sp_law K) := by
  have nd := sc_law.nd
  refine T.F_law.ok sc_law (fun vs H Q E h => ?_) (fun cdv A outer s H vs Q E hr h => ?_)
  · obtain ⟨_, _, rfl, _⟩ := h
    rfl
  · obtain ⟨a, ns, rfl, hS, hlen, fin⟩ := h
    refine ⟨_, (pss_cons (ps_set (i := 1) nd rfl (Or.inr rfl) (pe_call (ok_law_mix T) (hr.mono (by decide)) (by rfl) T.m_law_mix T.F_law_mix.kp T.b_law_mix .nil pass0 (pa_cons (pv 0) (pa_cons pe_int pa_nil)))) (pss_cons (ps_for PassesOwn.never rfl (pi_range1 rfl T.z_range (pa_cons pe_int pa_nil)) (pg_name (i := 2) nd rfl (Or.inl rfl)) (pss_cons (ps_asg (pe_tup (pa_cons (pe_op op_add pe_int (pe_call (ok_law_next T) (hr.mono (by decide)) (by rfl) T.m_law_next T.F_law_next.kp T.b_law_next .nil pass0 (pa_cons (pv 1) (pa_cons pe_int pa_nil)))) (pa_cons (pe_call (ok_law_next T) (hr.mono (by decide)) (by rfl) T.m_law_next T.F_law_next.kp T.b_law_next .nil pass0 (pa_cons (pv 1) (pa_cons pe_int pa_nil))) pa_nil))) (pg_tup rfl (pgs_cons (pg_name (i := 3) nd rfl (Or.inl rfl)) (pgs_cons (pg_name (i := 4) nd rfl (Or.inr rfl)) pgs_nil)))) (pss_cons (ps_set (i := 5) nd rfl (Or.inl rfl) (pe_ifExp (pt_cmpR op_gt (pe_call (ok_law_next T) (hr.mono (by decide)) (by rfl) T.m_law_next T.F_law_next.kp T.b_law_next .nil pass0 (pa_cons (pv 1) (pa_cons pe_int pa_nil))) pe_int (nomark _)) (pe_call (ok_law_next T) (hr.mono (by decide)) (by rfl) T.m_law_next T.F_law_next.kp T.b_law_next .nil pass0 (pa_cons (pv 1) (pa_cons (pe_ix ix_list (pe_lst (pa_cons pe_int (pa_cons pe_int pa_nil))) (pe_call (ok_law_next T) (hr.mono (by decide)) (by rfl) T.m_law_next T.F_law_next.kp T.b_law_next .nil pass0 (pa_cons (pv 1) (pa_cons pe_int pa_nil))) (fun _ _ => rfl)) pa_nil))) pe_int)) (pss_cons (ps_setLc (i := 6) (own := [("_law_k", 13)]) rfl nd rfl rfl (sw_true rfl rfl rfl (by decide +kernel)) (pi_range1 rfl T.z_range (pa_cons (pv 5) pa_nil)) (blkOk_by (own := [("_law_k", 13)]) (N := N_law) (sc := defScope s_law) (by decide +kernel)) (fun _ _ _ _ _ => (pg_name (i := 13) nd rfl (Or.inl rfl))) (fun _ _ _ _ _ => pts_nil) (fun _ _ _ _ _ => (pe_call (ok_law_data T) (hr.mono (by decide)) (by rfl) T.m_law_data T.F_law_data.kp T.b_law_data .nil pass0 (pa_cons (pv 1) pa_nil)))) (pss_cons (ps_set (i := 7) nd rfl (Or.inr rfl) (pe_call (ok_law_fresh T) (hr.mono (by decide)) (by rfl) T.m_law_fresh T.F_law_fresh.kp T.b_law_fresh .nil pass0 (pa_cons (pv 3) pa_nil))) (pss_cons (ps_for PassesOwn.never rfl (pi_list (pv 6)) (pg_name (i := 8) nd rfl (Or.inl rfl)) (pss_one (ps_expr (pe_call (ok_law_lay T) (hr.mono (by decide)) (by rfl) T.m_law_lay T.F_law_lay.kp T.b_law_lay .nil pass0 (pa_cons (pv 7) (pa_cons (pv 8) pa_nil)))))) (pss_cons (ps_expr (pe_call (ok_law_fill T) (hr.mono (by decide)) (by rfl) T.m_law_fill T.F_law_fill.kp T.b_law_fill .nil pass0 (pa_cons (pv 7) pa_nil))) (pss_cons (ps_setLc (i := 9) (own := [("_law_count", 14)]) rfl nd rfl rfl (sw_true rfl rfl rfl (by decide +kernel)) (pi_range1 rfl T.z_range (pa_cons (pe_call (ok_law_many T) (hr.mono (by decide)) (by rfl) T.m_law_many T.F_law_many.kp T.b_law_many .nil pass0 (pa_cons (pv 7) pa_nil)) pa_nil)) (blkOk_by (own := [("_law_count", 14)]) (N := N_law) (sc := defScope s_law) (by decide +kernel)) (fun _ _ _ _ _ => (pg_name (i := 14) nd rfl (Or.inl rfl))) (fun _ _ _ _ _ => pts_nil) (fun _ _ _ _ _ => (pe_call (ok_law_frame T) (hr.mono (by decide)) (by rfl) T.m_law_frame T.F_law_frame.kp T.b_law_frame .nil pass0 (pa_cons (pv 7) (pa_cons (pv 4) (pa_cons (pv 14) pa_nil)))))) (pss_cons (ps_set (i := 10) nd rfl (Or.inl rfl) (pe_callTy call_list_of (by rfl) T.z_list (by decide +kernel) (pa_cons (pv 6) pa_nil))) (pss_one (ps_for PassesOwn.never rfl (pi_range1 rfl T.z_range (pa_cons pe_int pa_nil)) (pg_name (i := 11) nd rfl (Or.inl rfl)) (pss_cons (ps_set (i := 12) nd rfl (Or.inl rfl) (pe_call (ok_frames_of T) (hr.mono (by decide)) (by rfl) T.m_frames_of T.F_frames_of.kp T.b_frames_of .nil pass0 (pa_cons (pv 4) (pa_cons (pv 10) (pa_cons (pv 3) pa_nil))))) (pss_cons (ps_if (PW.pt (pw_or (pt_not (pt_val (pe_call (ok_law_alike T 4) (hr.mono (by decide)) (by rfl) T.m_law_alike T.F_law_alike.kp T.b_law_alike .nil pass0 (pa_cons (pv 12) (pa_cons (pv 9) pa_nil))))) (pw_or1 (pt_cmpR (op_neD hr.units) (pv 10) (pv 6) (nomark _))))) (pss_one (ps_ret pe_bl)) pss_nil) (pss_one (ps_expr (pe_bm PySem.F.plainAttrs_list PySem.F.slot_list_append PySem.F.type_list_append mt_append (pv 12) (pa_cons (pe_tup pa_nil) pa_nil))))))))))))))))) (pss_one (ps_ret pe_bl)))), ?_⟩
    refine ⟨_, rfl, a, ns, 5, rfl, hS, by decide, by decide, hlen, fun p q H1 hA1 _ _ _ => ?_⟩
    refine ⟨4, rfl, by decide, by decide, ?_⟩
    refine for_range (lo := 0) (n := 4) (fun i σ H' => ∃ v2 v3 v4 v5 v6 v7 v8 v9 v10 v11 v12 v13 v14 : Option V, σ = [some (.ref a), some (.ref p), v2, v3, v4, v5, v6, v7, v8, v9, v10, v11, v12, v13, v14] ∧ HAt H' p q) ⟨_, _, _, _, _, _, _, _, _, _, _, _, _, rfl, hA1⟩ ?_ ?_
    · rintro turn σ H hi ⟨v2, v3, v4, v5, v6, v7, v8, v9, v10, v11, v12, v13, v14, rfl, hA⟩
      -- size, stream
      refine ⟨_, rfl, p, q, 17, rfl, hA, by decide, by decide, fun r1 H2 r10 r11 hA2 _ _ => ⟨8, r1, rfl, rfl, ?_⟩⟩
      refine ⟨_, rfl, p, q, 4, rfl, hA2, by decide, by decide, fun st H3 st0 st1 hA3 _ _ => ⟨(by decide : (2 : Nat) ≤ sizeLine), fun tt htt => ?_⟩⟩
      obtain ⟨z, ez⟩ : ∃ z : Nat, 8 + r1 = (z : Int) := ⟨(8 + r1).toNat, (Int.toNat_of_nonneg (by omega)).symm⟩
      simp only [ez]
      refine ⟨tt, _, rfl, SqT.of upd_same, rfl, _, _, rfl, _, _, rfl, rfl, ?_⟩
      have hA4 := hA3.new htt (o := .tup [.int (z : Nat), .int st])
      have hz8 : 8 ≤ z := by omega
      have hz24 : z ≤ 24 := by omega
      generalize upd H3 tt (.tup [.int (z : Nat), .int st]) = H4 at *
      -- many
      refine ⟨_, rfl, p, q, 9, rfl, hA4, by decide, by decide, fun r5 H5 r50 r51 hA5 _ _ => ⟨r5, 0, rfl, rfl, _, rfl, ?_⟩⟩
      refine ife_skip (fun v H6 => ∃ m : Nat, v = .int (m : Nat) ∧ m ≤ 300 ∧ HAt H6 p q) (fun v H6 ⟨m, ev, hm, hA6⟩ => ?_) (fun e rest => ?_) (fun e rest => ?_)
      case refine_2 =>
        refine ⟨_, rfl, (by decide : (2 : Nat) ≤ sizeLine), fun b hb => ?_⟩
        refine ⟨_, rfl, p, q, 2, rfl, hA5.new hb, by decide, by decide, fun r H7 r0 r1 hA7 k7 _ => ?_⟩
        obtain ⟨v, hv, m, rfl, m0, m1⟩ := at_of (R := fun v => ∃ n : Int, v = .int n ∧ 0 < n ∧ n ≤ 61) r0 (xs := [.int 9, .int 61]) r1 (by
          intro v hv
          simp only [List.mem_cons, List.not_mem_nil, or_false] at hv
          rcases hv with rfl | rfl
          · exact ⟨_, rfl, by omega, by omega⟩
          · exact ⟨_, rfl, by omega, by omega⟩)
        have nbf := hA5.fresh hb
        refine ⟨b, _, _, _, rfl, rfl, SqL.of (k7 _ _ (by simp [nbf.1, nbf.2]) upd_same), hv, ?_⟩
        refine ⟨p, q, m, rfl, hA7, m0, by omega, fun r' H8 r0' r1' hA8 _ _ => ?_⟩
        obtain ⟨n, rfl⟩ : ∃ n : Nat, r' = (n : Int) := ⟨r'.toNat, (Int.toNat_of_nonneg r0').symm⟩
        exact rest _ _ ⟨n, rfl, by omega, hA8⟩
      case refine_3 => exact rest _ _ ⟨300, rfl, Nat.le_refl _, hA5⟩
      subst ev
      -- tellings
      refine ⟨_, rfl, _, rfl, (by omega), (by omega), fun D hD => ?_⟩
      have nD := hA6.fresh hD
      refine lc_range (lo := 0) (n := ((m : Nat) : Int).toNat) (fun i H' => ∃ us ts, H' D = some (.lst us) ∧ TDs H' us (ts.map tlD) ∧ (∀ t ∈ ts, tellOk t) ∧ ts.length = i ∧ HAt H' p q) ⟨[], [], upd_same, .nil, by simp, rfl, hA6.new hD⟩ ?_ ?_
      · rintro i H' hi ⟨us, ts, hu, tu, hok, hl, hA'⟩
        refine ⟨rfl, _, rfl, p, q, rfl, hA', fun t xs H7 hx ht nt hA7 k7 _ => ?_⟩
        have hu7 := k7 _ _ (by simp [nD.1, nD.2]) hu
        have t7 := k7.ts hA'.noT
        have hul : us.length = ts.length := by rw [tu.length, List.length_map]
        refine ⟨_, hu7, lt_line (by omega), us ++ [.ref t], ts ++ [xs], upd_same, ?_, ?_, by rw [List.length_append, hl]; rfl, hA7.ne nD.1 nD.2⟩
        · rw [List.map_append]
          exact ((tu.mono t7).app (.one (TD.tl ht))).mono (ts_upd (TSm.refl _) (NoT.lst hu7))
        · intro t' ht'
          rcases List.mem_append.mp ht' with e | e
          · exact hok t' e
          · rw [List.mem_singleton.mp e]; exact hx
      rintro H7 ⟨us, ts, hD7, tu7, hok, hl, hA7⟩
      have hts : ts.length ≤ 300 := by omega
      have hul : us.length = ts.length := by rw [tu7.length, List.length_map]
      have hbig : (layAll ts).1.length ≤ 23 * ts.length := layAll_le _ fun u hu => (hok u hu).2.1
      -- s = fresh(size)
      refine ⟨_, rfl, z, rfl, fun sa ln ls H8 hS8 nsa nln nls s8 => ?_⟩
      have hD8 := s8 _ _ hD7
      have hA8 := hA7.same s8
      have tu8 := tu7.mono (TSm.of_same s8)
      have npM : p ∉ [ln, ls] ∧ q ∉ [ln, ls] ∧ D ∉ [ln, ls] := by
        obtain ⟨⟨_, hp⟩, ⟨_, hq⟩⟩ := hA7.ins
        exact ⟨by simp [ne_new hp nln, ne_new hp nls], by simp [ne_new hq nln, ne_new hq nls], by simp [ne_new hD7 nln, ne_new hD7 nls]⟩
      have noT8 : ∀ m ∈ [ln, ls], NoT H8 m := by
        obtain ⟨_, hn, _, L, hls, _⟩ := hS8
        intro m hm
        rcases List.mem_cons.mp hm with e | e
        · rw [e]; exact NoT.lst hn
        · rw [List.mem_singleton.mp e]; exact NoT.lst hls
      -- for data in tellings: lay(s, data)
      refine ⟨_, rfl, D, rfl, ⟨_, SqL.of hD8⟩, ?_⟩
      refine for_list (K := K) (a := D) (xs := us) (fun i σ H' => ∃ v8 : Option V, σ = [some (.ref a), some (.ref p), some (.int (0 + turn)), some (.int (z : Nat)), some (.int st), some (.int (m : Nat)), some (.ref D), some (.ref sa), v8, v9, v10, v11, v12, v13, v14] ∧ SAt H' sa ln ls z (layAll (ts.take i)).1 (layAll (ts.take i)).2 ∧ Keep [ln, ls] H8 H') ⟨v8, rfl, by rw [List.take_zero]; exact hS8, Keep.refl _ _⟩ (fun i σ H' _ ⟨_, _, _, k⟩ => SqL.of (k _ _ npM.2.2 hD8)) ?_ ?_
      · rintro i y σ H' hy ⟨v8, rfl, hS', k'⟩
        obtain ⟨d, hd, td⟩ := tu8.get hy
        obtain ⟨t, ht, rfl⟩ := map_get hd
        obtain ⟨b, rfl, hb⟩ := td.of_tl
        have htm := hok t (List.mem_of_getElem? ht)
        have hil : i < ts.length := (List.getElem?_eq_some_iff.mp ht).1
        have t8 : TSm H8 H' := k'.ts noT8
        have h1 : (layAll (ts.take i)).1.length ≤ 23 * (ts.take i).length := layAll_le _ fun u hu => (hok u (List.mem_of_mem_take hu)).2.1
        have h2 : (layAll (ts.take i)).2.length = (ts.take i).length := layAll_len _
        have h3 : (ts.take i).length ≤ 300 := by rw [List.length_take]; omega
        refine ⟨_, rfl, _, rfl, sa, ln, ls, b, z, _, _, t, rfl, hS', t8 _ _ hb, (by have := htm.2.1; omega), (by omega), (by omega), fun v H9 hS9 k9 _ => ?_⟩
        refine ⟨_, rfl, ?_, k'.trans k9⟩
        rw [layAll_take ht]
        exact hS9
      rintro σ H9 ⟨v8', rfl, hS9, k9⟩
      rw [List.take_of_length_le (by omega)] at hS9
      -- fill(s)
      refine ⟨_, rfl, sa, ln, ls, z, _, _, rfl, hS9, (by omega), (by omega), (by omega), fun v H10 hS10 k10 _ => ?_⟩
      have k10' : Keep [ln, ls] H8 H10 := k9.trans (k10.mono (by simp))
      have hD10 := k10' _ _ npM.2.2 hD8
      have hA10 := hA8.keep k10' npM.1 npM.2.1
      have tu10 := tu8.mono (k10'.ts noT8)
      -- due
      have hpl : (padN z (layAll ts).1).length ≤ 1000000 := by
        have hm := Nat.mod_lt (layAll ts).1.length (show 0 < z by omega)
        unfold padN
        split
        · omega
        · rw [List.length_append, List.length_replicate]; omega
      have hdl : (padN z (layAll ts).1).length / z ≤ (padN z (layAll ts).1).length := Nat.div_le_self _ _
      have hsl : (layAll ts).2.length = ts.length := layAll_len _
      refine ⟨_, rfl, sa, ln, ls, z, _, _, rfl, hS10, (by omega), (by omega), _, rfl, (nb _ (Nat.le_trans hdl hpl)).1, (nb _ (Nat.le_trans hdl hpl)).2, fun E' hE => ?_⟩
      refine lc_range (lo := 0) (n := (((padN z (layAll ts).1).length / z : Nat) : Int).toNat) (fun i H' => ∃ xs, H' E' = some (.lst xs) ∧ TDs H' xs (((List.range i).map (frm z (padN z (layAll ts).1) (layAll ts).2)).map (frmD st)) ∧ Same H10 H') ⟨[], upd_same, .nil, same_new (Same.refl _) hE⟩ ?_ ?_
      · rintro i H' hi ⟨xs, hx, tx, s'⟩
        have hxl : xs.length = i := by rw [tx.length, List.length_map, List.length_map, List.length_range]
        have hiz : i * z + z ≤ (padN z (layAll ts).1).length := by
          have h1 : i + 1 ≤ (padN z (layAll ts).1).length / z := by omega
          have h2 := Nat.mul_le_mul_right z h1
          have h3 := div_lo z (padN z (layAll ts).1).length
          rw [Nat.succ_mul] at h2
          omega
        refine ⟨rfl, _, rfl, _, rfl, _, rfl, sa, ln, ls, z, _, _, st, i, ?_, hS10.keep s', (by omega), (by omega), hpl, (by omega), (laid_all ts).asc, hiz, fun f H11 tf s11 => ?_⟩
        · rw [Int.zero_add]
          rfl
        · have hx11 := s11 _ _ hx
          refine ⟨_, hx11, lt_line (by omega), xs ++ [.ref f], upd_same, ?_, same_mut (s'.trans s11) hE⟩
          rw [List.range_succ, List.map_append, List.map_append]
          exact ((tx.mono (TSm.of_same s11)).app (.one tf)).mono (ts_upd (TSm.refl _) (NoT.lst hx11))
      rintro H11 ⟨xs, hx, tx, s11⟩
      have tx' : TDs H11 xs ((allFrms z ts).map (frmD st)) := tx
      have hD11 := s11 _ _ hD10
      have hA11 := hA10.same s11
      have tu11 := tu10.mono (TSm.of_same s11)
      -- handed
      refine ⟨_, rfl, D, _, rfl, .inl (SqL.of hD11), fun L hL => ?_⟩
      have s12 := same_new (Same.refl H11) hL (o := .lst us)
      have hL12 : upd H11 L (.lst us) L = some (.lst us) := upd_same
      have hD12 := s12 _ _ hD11
      have hE12 := s12 _ _ hx
      have hA12 := hA11.same s12
      have tu12 := tu11.mono (TSm.of_same s12)
      have tx12 := tx'.mono (TSm.of_same s12)
      generalize upd H11 L (.lst us) = H12 at *
      -- for again in range(2)
      refine ⟨2, rfl, by decide, by decide, ?_⟩
      refine for_range (lo := 0) (n := 2) (fun i σ H' => ∃ v11 v12 : Option V, σ = [some (.ref a), some (.ref p), some (.int (0 + turn)), some (.int (z : Nat)), some (.int st), some (.int (m : Nat)), some (.ref D), some (.ref sa), v8', some (.ref E'), some (.ref L), v11, v12, v13, v14] ∧ Same H12 H') ⟨v11, v12, rfl, Same.refl _⟩ ?_ ?_
      · rintro i σ H' hi ⟨v11, v12, rfl, s'⟩
        refine ⟨_, rfl, _, rfl, _, rfl, st, L, z, us, ts, rfl, st0, (by omega), hz8, hz24, s' _ _ hL12, tu12.mono (TSm.of_same s'), hok, (by omega), fun r fs H13 hr tr nr s13 => ?_⟩
        have sA := s'.trans s13
        have hal : DOk 3 (.list ((allFrms z ts).map (frmD st))) := frms_ok (by omega)
        refine ⟨_, rfl, _, rfl, .ref r, .ref E', _, rfl, .lst (SqL.of hr) tr.dp, .lst (SqL.of (sA _ _ hE12)) (tx12.mono (TSm.of_same sA)).dp, hal, fun H14 s14 => ⟨true, rfl, iteF ?_⟩⟩
        have sB := sA.trans s14
        have hly : Lay 2 (.list (ts.map tlD)) := Lay.list fun t _ => Lay.tl t
        refine ⟨_, rfl, _, rfl, _, _, .lst (SqL.of (sB _ _ hL12)) (tu12.mono (TSm.of_same sB)).dp, .lst (SqL.of (sB _ _ hD12)) (tu12.mono (TSm.of_same sB)).dp, hly.shaped (by decide), hly.shaped (by decide), _, rfl, ?_⟩
        rw [hly.refl]
        refine iteF ?_
        -- found.append(())
        have hr14 := s14 _ _ hr
        have hfl : fs.length ≤ 1000000 := by
          rw [tr.length, List.length_map]
          unfold allFrms
          rw [frms_length]
          omega
        refine ⟨_, rfl, .inl ⟨rfl, _, SqL.of hr14⟩, Nat.zero_le _, fun e he => ?_⟩
        have ner : r ≠ e := ne_of_none hr14 he
        refine ⟨r, _, _, rfl, rfl, (by rw [upd_ne ner]; exact hr14), lt_line (by omega), ?_⟩
        have nr12 : H12 r = none := s'.free nr
        exact ⟨_, _, rfl, same_mut (same_new sB he) nr12⟩
      · rintro σ H' ⟨v11, v12, rfl, s'⟩
        exact ⟨_, _, _, _, _, _, _, _, _, _, _, _, _, rfl, hA12.same s'⟩
    · rintro σ H' ⟨v2, v3, v4, v5, v6, v7, v8, v9, v10, v11, v12, v13, v14, rfl, hA⟩
      exact fin _
end
end K2

namespace K2
open PySem PySem.Spec PyProof.Rows L2 Sky
/-- the facts of the top, put together -/
def mkTx {K : PySem.W.Frag} {h : Heap} {mg : Str → Option Value} (X : K.In h) (G : h.Ns mainGlobals mg)
    {A_Laying f_is_number f_is_stream f_holds_numbers f_is_telling f_check_stream f_check_telling f_check_size f_Laying_init f_Laying_lay f_Laying_fill f_Laying_done f_frames_of f_law_mix f_law_next f_law_alike f_law_data f_law_fresh f_law_lay f_law_fill f_law_many f_law_frame f_law : Addr} {od_is_number an_is_number od_is_stream an_is_stream od_holds_numbers an_holds_numbers od_is_telling an_is_telling od_check_stream an_check_stream od_check_telling an_check_telling od_check_size an_check_size od_Laying_init an_Laying_init od_Laying_lay an_Laying_lay od_Laying_fill an_Laying_fill od_Laying_done an_Laying_done od_frames_of an_frames_of od_law_mix an_law_mix od_law_next an_law_next od_law_alike an_law_alike od_law_data an_law_data od_law_fresh an_law_fresh od_law_lay an_law_lay od_law_fill an_law_fill od_law_many an_law_many od_law_frame an_law_frame od_law an_law : Option Addr} {sl_is_number sl_is_stream sl_holds_numbers sl_is_telling sl_check_stream sl_check_telling sl_check_size sl_Laying_init sl_Laying_lay sl_Laying_fill sl_Laying_done sl_frames_of sl_law_mix sl_law_next sl_law_alike sl_law_data sl_law_fresh sl_law_lay sl_law_fill sl_law_many sl_law_frame sl_law : Array (Option Value)}
    {oc_is_number kV_is_number dc_is_number pm_is_number cd_is_number ct_is_number oc_is_stream kV_is_stream dc_is_stream pm_is_stream cd_is_stream ct_is_stream oc_holds_numbers kV_holds_numbers dc_holds_numbers pm_holds_numbers cd_holds_numbers ct_holds_numbers oc_is_telling kV_is_telling dc_is_telling pm_is_telling cd_is_telling ct_is_telling oc_check_stream kV_check_stream dc_check_stream pm_check_stream cd_check_stream ct_check_stream oc_check_telling kV_check_telling dc_check_telling pm_check_telling cd_check_telling ct_check_telling oc_check_size kV_check_size dc_check_size pm_check_size cd_check_size ct_check_size oc_Laying_init kV_Laying_init dc_Laying_init pm_Laying_init cd_Laying_init ct_Laying_init oc_Laying_lay kV_Laying_lay dc_Laying_lay pm_Laying_lay cd_Laying_lay ct_Laying_lay oc_Laying_fill kV_Laying_fill dc_Laying_fill pm_Laying_fill cd_Laying_fill ct_Laying_fill oc_Laying_done kV_Laying_done dc_Laying_done pm_Laying_done cd_Laying_done ct_Laying_done oc_frames_of kV_frames_of dc_frames_of pm_frames_of cd_frames_of ct_frames_of oc_law_mix kV_law_mix dc_law_mix pm_law_mix cd_law_mix ct_law_mix oc_law_next kV_law_next dc_law_next pm_law_next cd_law_next ct_law_next oc_law_alike kV_law_alike dc_law_alike pm_law_alike cd_law_alike ct_law_alike oc_law_data kV_law_data dc_law_data pm_law_data cd_law_data ct_law_data oc_law_fresh kV_law_fresh dc_law_fresh pm_law_fresh cd_law_fresh ct_law_fresh oc_law_lay kV_law_lay dc_law_lay pm_law_lay cd_law_lay ct_law_lay oc_law_fill kV_law_fill dc_law_fill pm_law_fill cd_law_fill ct_law_fill oc_law_many kV_law_many dc_law_many pm_law_many cd_law_many ct_law_many oc_law_frame kV_law_frame dc_law_frame pm_law_frame cd_law_frame ct_law_frame oc_law kV_law dc_law pm_law cd_law ct_law : Value} {t_STREAMS t_MOST_NUMBERS t_LEAST_SIZE t_MOST_SIZE t_HUNDRED : Tok}
    (hA_Laying : PySem.W.nsIn K mainGlobals "Laying" = some (some (.ref A_Laying)))
    (h_is_number : PySem.W.nsIn K mainGlobals "is_number" = some (some (.ref f_is_number)))
    (l_is_number : K.lookup f_is_number = some ⟨oc_is_number, od_is_number, .func (PySem.W.fnOf "is_number" "is_number" (defArgs s_is_number) (defBody s_is_number) (defScope s_is_number) .none kV_is_number dc_is_number pm_is_number an_is_number cd_is_number ct_is_number), sl_is_number⟩)
    (c_is_number : PySem.W.codeIn K cd_is_number "is_number" = true)
    (k_is_number : PySem.W.keepIn K (.ref f_is_number) = true)
    (h_is_stream : PySem.W.nsIn K mainGlobals "is_stream" = some (some (.ref f_is_stream)))
    (l_is_stream : K.lookup f_is_stream = some ⟨oc_is_stream, od_is_stream, .func (PySem.W.fnOf "is_stream" "is_stream" (defArgs s_is_stream) (defBody s_is_stream) (defScope s_is_stream) .none kV_is_stream dc_is_stream pm_is_stream an_is_stream cd_is_stream ct_is_stream), sl_is_stream⟩)
    (c_is_stream : PySem.W.codeIn K cd_is_stream "is_stream" = true)
    (k_is_stream : PySem.W.keepIn K (.ref f_is_stream) = true)
    (h_holds_numbers : PySem.W.nsIn K mainGlobals "holds_numbers" = some (some (.ref f_holds_numbers)))
    (l_holds_numbers : K.lookup f_holds_numbers = some ⟨oc_holds_numbers, od_holds_numbers, .func (PySem.W.fnOf "holds_numbers" "holds_numbers" (defArgs s_holds_numbers) (defBody s_holds_numbers) (defScope s_holds_numbers) .none kV_holds_numbers dc_holds_numbers pm_holds_numbers an_holds_numbers cd_holds_numbers ct_holds_numbers), sl_holds_numbers⟩)
    (c_holds_numbers : PySem.W.codeIn K cd_holds_numbers "holds_numbers" = true)
    (k_holds_numbers : PySem.W.keepIn K (.ref f_holds_numbers) = true)
    (h_is_telling : PySem.W.nsIn K mainGlobals "is_telling" = some (some (.ref f_is_telling)))
    (l_is_telling : K.lookup f_is_telling = some ⟨oc_is_telling, od_is_telling, .func (PySem.W.fnOf "is_telling" "is_telling" (defArgs s_is_telling) (defBody s_is_telling) (defScope s_is_telling) .none kV_is_telling dc_is_telling pm_is_telling an_is_telling cd_is_telling ct_is_telling), sl_is_telling⟩)
    (c_is_telling : PySem.W.codeIn K cd_is_telling "is_telling" = true)
    (k_is_telling : PySem.W.keepIn K (.ref f_is_telling) = true)
    (h_check_stream : PySem.W.nsIn K mainGlobals "check_stream" = some (some (.ref f_check_stream)))
    (l_check_stream : K.lookup f_check_stream = some ⟨oc_check_stream, od_check_stream, .func (PySem.W.fnOf "check_stream" "check_stream" (defArgs s_check_stream) (defBody s_check_stream) (defScope s_check_stream) .none kV_check_stream dc_check_stream pm_check_stream an_check_stream cd_check_stream ct_check_stream), sl_check_stream⟩)
    (c_check_stream : PySem.W.codeIn K cd_check_stream "check_stream" = true)
    (k_check_stream : PySem.W.keepIn K (.ref f_check_stream) = true)
    (h_check_telling : PySem.W.nsIn K mainGlobals "check_telling" = some (some (.ref f_check_telling)))
    (l_check_telling : K.lookup f_check_telling = some ⟨oc_check_telling, od_check_telling, .func (PySem.W.fnOf "check_telling" "check_telling" (defArgs s_check_telling) (defBody s_check_telling) (defScope s_check_telling) .none kV_check_telling dc_check_telling pm_check_telling an_check_telling cd_check_telling ct_check_telling), sl_check_telling⟩)
    (c_check_telling : PySem.W.codeIn K cd_check_telling "check_telling" = true)
    (k_check_telling : PySem.W.keepIn K (.ref f_check_telling) = true)
    (h_check_size : PySem.W.nsIn K mainGlobals "check_size" = some (some (.ref f_check_size)))
    (l_check_size : K.lookup f_check_size = some ⟨oc_check_size, od_check_size, .func (PySem.W.fnOf "check_size" "check_size" (defArgs s_check_size) (defBody s_check_size) (defScope s_check_size) .none kV_check_size dc_check_size pm_check_size an_check_size cd_check_size ct_check_size), sl_check_size⟩)
    (c_check_size : PySem.W.codeIn K cd_check_size "check_size" = true)
    (k_check_size : PySem.W.keepIn K (.ref f_check_size) = true)
    (h_Laying_init : PySem.W.findIn K (.ref A_Laying) "__init__" = some (some (.ref f_Laying_init)))
    (i_Laying_init : PySem.W.isFn K (.ref f_Laying_init) = true)
    (l_Laying_init : K.lookup f_Laying_init = some ⟨oc_Laying_init, od_Laying_init, .func (PySem.W.fnOf "__init__" "Laying.__init__" (defArgs s_Laying_init) (defBody s_Laying_init) (defScope s_Laying_init) .none kV_Laying_init dc_Laying_init pm_Laying_init an_Laying_init cd_Laying_init ct_Laying_init), sl_Laying_init⟩)
    (c_Laying_init : PySem.W.codeIn K cd_Laying_init "Laying.__init__" = true)
    (k_Laying_init : PySem.W.keepIn K (.ref f_Laying_init) = true)
    (h_Laying_lay : PySem.W.findIn K (.ref A_Laying) "lay" = some (some (.ref f_Laying_lay)))
    (i_Laying_lay : PySem.W.isFn K (.ref f_Laying_lay) = true)
    (l_Laying_lay : K.lookup f_Laying_lay = some ⟨oc_Laying_lay, od_Laying_lay, .func (PySem.W.fnOf "lay" "Laying.lay" (defArgs s_Laying_lay) (defBody s_Laying_lay) (defScope s_Laying_lay) .none kV_Laying_lay dc_Laying_lay pm_Laying_lay an_Laying_lay cd_Laying_lay ct_Laying_lay), sl_Laying_lay⟩)
    (c_Laying_lay : PySem.W.codeIn K cd_Laying_lay "Laying.lay" = true)
    (k_Laying_lay : PySem.W.keepIn K (.ref f_Laying_lay) = true)
    (h_Laying_fill : PySem.W.findIn K (.ref A_Laying) "fill" = some (some (.ref f_Laying_fill)))
    (i_Laying_fill : PySem.W.isFn K (.ref f_Laying_fill) = true)
    (l_Laying_fill : K.lookup f_Laying_fill = some ⟨oc_Laying_fill, od_Laying_fill, .func (PySem.W.fnOf "fill" "Laying.fill" (defArgs s_Laying_fill) (defBody s_Laying_fill) (defScope s_Laying_fill) .none kV_Laying_fill dc_Laying_fill pm_Laying_fill an_Laying_fill cd_Laying_fill ct_Laying_fill), sl_Laying_fill⟩)
    (c_Laying_fill : PySem.W.codeIn K cd_Laying_fill "Laying.fill" = true)
    (k_Laying_fill : PySem.W.keepIn K (.ref f_Laying_fill) = true)
    (h_Laying_done : PySem.W.findIn K (.ref A_Laying) "_done" = some (some (.ref f_Laying_done)))
    (i_Laying_done : PySem.W.isFn K (.ref f_Laying_done) = true)
    (l_Laying_done : K.lookup f_Laying_done = some ⟨oc_Laying_done, od_Laying_done, .func (PySem.W.fnOf "_done" "Laying._done" (defArgs s_Laying_done) (defBody s_Laying_done) (defScope s_Laying_done) .none kV_Laying_done dc_Laying_done pm_Laying_done an_Laying_done cd_Laying_done ct_Laying_done), sl_Laying_done⟩)
    (c_Laying_done : PySem.W.codeIn K cd_Laying_done "Laying._done" = true)
    (k_Laying_done : PySem.W.keepIn K (.ref f_Laying_done) = true)
    (h_frames_of : PySem.W.nsIn K mainGlobals "frames_of" = some (some (.ref f_frames_of)))
    (l_frames_of : K.lookup f_frames_of = some ⟨oc_frames_of, od_frames_of, .func (PySem.W.fnOf "frames_of" "frames_of" (defArgs s_frames_of) (defBody s_frames_of) (defScope s_frames_of) .none kV_frames_of dc_frames_of pm_frames_of an_frames_of cd_frames_of ct_frames_of), sl_frames_of⟩)
    (c_frames_of : PySem.W.codeIn K cd_frames_of "frames_of" = true)
    (k_frames_of : PySem.W.keepIn K (.ref f_frames_of) = true)
    (h_law_mix : PySem.W.nsIn K mainGlobals "_law_mix" = some (some (.ref f_law_mix)))
    (l_law_mix : K.lookup f_law_mix = some ⟨oc_law_mix, od_law_mix, .func (PySem.W.fnOf "_law_mix" "_law_mix" (defArgs s_law_mix) (defBody s_law_mix) (defScope s_law_mix) .none kV_law_mix dc_law_mix pm_law_mix an_law_mix cd_law_mix ct_law_mix), sl_law_mix⟩)
    (c_law_mix : PySem.W.codeIn K cd_law_mix "_law_mix" = true)
    (k_law_mix : PySem.W.keepIn K (.ref f_law_mix) = true)
    (h_law_next : PySem.W.nsIn K mainGlobals "_law_next" = some (some (.ref f_law_next)))
    (l_law_next : K.lookup f_law_next = some ⟨oc_law_next, od_law_next, .func (PySem.W.fnOf "_law_next" "_law_next" (defArgs s_law_next) (defBody s_law_next) (defScope s_law_next) .none kV_law_next dc_law_next pm_law_next an_law_next cd_law_next ct_law_next), sl_law_next⟩)
    (c_law_next : PySem.W.codeIn K cd_law_next "_law_next" = true)
    (k_law_next : PySem.W.keepIn K (.ref f_law_next) = true)
    (h_law_alike : PySem.W.nsIn K mainGlobals "_law_alike" = some (some (.ref f_law_alike)))
    (l_law_alike : K.lookup f_law_alike = some ⟨oc_law_alike, od_law_alike, .func (PySem.W.fnOf "_law_alike" "_law_alike" (defArgs s_law_alike) (defBody s_law_alike) (defScope s_law_alike) .none kV_law_alike dc_law_alike pm_law_alike an_law_alike cd_law_alike ct_law_alike), sl_law_alike⟩)
    (c_law_alike : PySem.W.codeIn K cd_law_alike "_law_alike" = true)
    (k_law_alike : PySem.W.keepIn K (.ref f_law_alike) = true)
    (h_law_data : PySem.W.nsIn K mainGlobals "_law_data" = some (some (.ref f_law_data)))
    (l_law_data : K.lookup f_law_data = some ⟨oc_law_data, od_law_data, .func (PySem.W.fnOf "_law_data" "_law_data" (defArgs s_law_data) (defBody s_law_data) (defScope s_law_data) .none kV_law_data dc_law_data pm_law_data an_law_data cd_law_data ct_law_data), sl_law_data⟩)
    (c_law_data : PySem.W.codeIn K cd_law_data "_law_data" = true)
    (k_law_data : PySem.W.keepIn K (.ref f_law_data) = true)
    (h_law_fresh : PySem.W.nsIn K mainGlobals "_law_fresh" = some (some (.ref f_law_fresh)))
    (l_law_fresh : K.lookup f_law_fresh = some ⟨oc_law_fresh, od_law_fresh, .func (PySem.W.fnOf "_law_fresh" "_law_fresh" (defArgs s_law_fresh) (defBody s_law_fresh) (defScope s_law_fresh) .none kV_law_fresh dc_law_fresh pm_law_fresh an_law_fresh cd_law_fresh ct_law_fresh), sl_law_fresh⟩)
    (c_law_fresh : PySem.W.codeIn K cd_law_fresh "_law_fresh" = true)
    (k_law_fresh : PySem.W.keepIn K (.ref f_law_fresh) = true)
    (h_law_lay : PySem.W.nsIn K mainGlobals "_law_lay" = some (some (.ref f_law_lay)))
    (l_law_lay : K.lookup f_law_lay = some ⟨oc_law_lay, od_law_lay, .func (PySem.W.fnOf "_law_lay" "_law_lay" (defArgs s_law_lay) (defBody s_law_lay) (defScope s_law_lay) .none kV_law_lay dc_law_lay pm_law_lay an_law_lay cd_law_lay ct_law_lay), sl_law_lay⟩)
    (c_law_lay : PySem.W.codeIn K cd_law_lay "_law_lay" = true)
    (k_law_lay : PySem.W.keepIn K (.ref f_law_lay) = true)
    (h_law_fill : PySem.W.nsIn K mainGlobals "_law_fill" = some (some (.ref f_law_fill)))
    (l_law_fill : K.lookup f_law_fill = some ⟨oc_law_fill, od_law_fill, .func (PySem.W.fnOf "_law_fill" "_law_fill" (defArgs s_law_fill) (defBody s_law_fill) (defScope s_law_fill) .none kV_law_fill dc_law_fill pm_law_fill an_law_fill cd_law_fill ct_law_fill), sl_law_fill⟩)
    (c_law_fill : PySem.W.codeIn K cd_law_fill "_law_fill" = true)
    (k_law_fill : PySem.W.keepIn K (.ref f_law_fill) = true)
    (h_law_many : PySem.W.nsIn K mainGlobals "_law_many" = some (some (.ref f_law_many)))
    (l_law_many : K.lookup f_law_many = some ⟨oc_law_many, od_law_many, .func (PySem.W.fnOf "_law_many" "_law_many" (defArgs s_law_many) (defBody s_law_many) (defScope s_law_many) .none kV_law_many dc_law_many pm_law_many an_law_many cd_law_many ct_law_many), sl_law_many⟩)
    (c_law_many : PySem.W.codeIn K cd_law_many "_law_many" = true)
    (k_law_many : PySem.W.keepIn K (.ref f_law_many) = true)
    (h_law_frame : PySem.W.nsIn K mainGlobals "_law_frame" = some (some (.ref f_law_frame)))
    (l_law_frame : K.lookup f_law_frame = some ⟨oc_law_frame, od_law_frame, .func (PySem.W.fnOf "_law_frame" "_law_frame" (defArgs s_law_frame) (defBody s_law_frame) (defScope s_law_frame) .none kV_law_frame dc_law_frame pm_law_frame an_law_frame cd_law_frame ct_law_frame), sl_law_frame⟩)
    (c_law_frame : PySem.W.codeIn K cd_law_frame "_law_frame" = true)
    (k_law_frame : PySem.W.keepIn K (.ref f_law_frame) = true)
    (h_law : PySem.W.nsIn K mainGlobals "law" = some (some (.ref f_law)))
    (l_law : K.lookup f_law = some ⟨oc_law, od_law, .func (PySem.W.fnOf "law" "law" (defArgs s_law) (defBody s_law) (defScope s_law) .none kV_law dc_law pm_law an_law cd_law ct_law), sl_law⟩)
    (c_law : PySem.W.codeIn K cd_law "law" = true)
    (k_law : PySem.W.keepIn K (.ref f_law) = true)
    (pg_Laying : PySem.W.plainGet K A_Laying Str.empty = true)
    (hd_Laying : PySem.W.hasDictIn K A_Laying = true)
    (po_Laying : PySem.W.plainOver K A_Laying = true)
    (sa_Laying : PySem.W.findIn K (.ref A_Laying) "__setattr__" = some (some (.builtin "object.__setattr__")))
    (mk_Laying : PySem.W.makesIn K A_Laying = true)
    (kc_Laying : PySem.W.keepIn K (.ref A_Laying) = true)
    (n_Laying_body : PySem.W.findIn K (.ref A_Laying) "_body" = some none)
    (n_Laying_count : PySem.W.findIn K (.ref A_Laying) "_count" = some none)
    (n_Laying_first : PySem.W.findIn K (.ref A_Laying) "_first" = some none)
    (n_Laying_size : PySem.W.findIn K (.ref A_Laying) "_size" = some none)
    (n_Laying_stream : PySem.W.findIn K (.ref A_Laying) "_stream" = some none)
    (n_Laying_many : PySem.W.findIn K (.ref A_Laying) "many" = some none)
    (z_all : PySem.W.nsIn K mainGlobals "all" = some none)
    (z_bool : PySem.W.nsIn K mainGlobals "bool" = some none)
    (z_int : PySem.W.nsIn K mainGlobals "int" = some none)
    (z_isinstance : PySem.W.nsIn K mainGlobals "isinstance" = some none)
    (z_len : PySem.W.nsIn K mainGlobals "len" = some none)
    (z_list : PySem.W.nsIn K mainGlobals "list" = some none)
    (z_max : PySem.W.nsIn K mainGlobals "max" = some none)
    (z_min : PySem.W.nsIn K mainGlobals "min" = some none)
    (z_range : PySem.W.nsIn K mainGlobals "range" = some none)
    (z_str : PySem.W.nsIn K mainGlobals "str" = some none)
    (z_tuple : PySem.W.nsIn K mainGlobals "tuple" = some none)
    (c_STREAMS : PySem.W.nsIn K mainGlobals "STREAMS" = some (some (.int 4 t_STREAMS)))
    (c_MOST_NUMBERS : PySem.W.nsIn K mainGlobals "MOST_NUMBERS" = some (some (.int 20 t_MOST_NUMBERS)))
    (c_LEAST_SIZE : PySem.W.nsIn K mainGlobals "LEAST_SIZE" = some (some (.int 8 t_LEAST_SIZE)))
    (c_MOST_SIZE : PySem.W.nsIn K mainGlobals "MOST_SIZE" = some (some (.int 24 t_MOST_SIZE)))
    (c_HUNDRED : PySem.W.nsIn K mainGlobals "HUNDRED" = some (some (.int 256 t_HUNDRED)))
    : Tx K mg where
  A_Laying := A_Laying
  a_is_number := f_is_number
  d_is_number := PySem.W.fnOf "is_number" "is_number" (defArgs s_is_number) (defBody s_is_number) (defScope s_is_number) .none kV_is_number dc_is_number pm_is_number an_is_number cd_is_number ct_is_number
  F_is_number := fun_mk (st := s_is_number) l_is_number c_is_number k_is_number
  b_is_number := (fun_mk (st := s_is_number) l_is_number c_is_number k_is_number).binds (ps := ["value", "low", "high"]) fun _ _ _ _ _ _ us hl => match us, hl with | [_, _, _], _ => rfl
  m_is_number := PySem.W.mg_of X G h_is_number
  a_is_stream := f_is_stream
  d_is_stream := PySem.W.fnOf "is_stream" "is_stream" (defArgs s_is_stream) (defBody s_is_stream) (defScope s_is_stream) .none kV_is_stream dc_is_stream pm_is_stream an_is_stream cd_is_stream ct_is_stream
  F_is_stream := fun_mk (st := s_is_stream) l_is_stream c_is_stream k_is_stream
  b_is_stream := (fun_mk (st := s_is_stream) l_is_stream c_is_stream k_is_stream).binds (ps := ["value"]) fun _ _ _ _ _ _ us hl => match us, hl with | [_], _ => rfl
  m_is_stream := PySem.W.mg_of X G h_is_stream
  a_holds_numbers := f_holds_numbers
  d_holds_numbers := PySem.W.fnOf "holds_numbers" "holds_numbers" (defArgs s_holds_numbers) (defBody s_holds_numbers) (defScope s_holds_numbers) .none kV_holds_numbers dc_holds_numbers pm_holds_numbers an_holds_numbers cd_holds_numbers ct_holds_numbers
  F_holds_numbers := fun_mk (st := s_holds_numbers) l_holds_numbers c_holds_numbers k_holds_numbers
  b_holds_numbers := (fun_mk (st := s_holds_numbers) l_holds_numbers c_holds_numbers k_holds_numbers).binds (ps := ["value"]) fun _ _ _ _ _ _ us hl => match us, hl with | [_], _ => rfl
  m_holds_numbers := PySem.W.mg_of X G h_holds_numbers
  a_is_telling := f_is_telling
  d_is_telling := PySem.W.fnOf "is_telling" "is_telling" (defArgs s_is_telling) (defBody s_is_telling) (defScope s_is_telling) .none kV_is_telling dc_is_telling pm_is_telling an_is_telling cd_is_telling ct_is_telling
  F_is_telling := fun_mk (st := s_is_telling) l_is_telling c_is_telling k_is_telling
  b_is_telling := (fun_mk (st := s_is_telling) l_is_telling c_is_telling k_is_telling).binds (ps := ["value"]) fun _ _ _ _ _ _ us hl => match us, hl with | [_], _ => rfl
  m_is_telling := PySem.W.mg_of X G h_is_telling
  a_check_stream := f_check_stream
  d_check_stream := PySem.W.fnOf "check_stream" "check_stream" (defArgs s_check_stream) (defBody s_check_stream) (defScope s_check_stream) .none kV_check_stream dc_check_stream pm_check_stream an_check_stream cd_check_stream ct_check_stream
  F_check_stream := fun_mk (st := s_check_stream) l_check_stream c_check_stream k_check_stream
  b_check_stream := (fun_mk (st := s_check_stream) l_check_stream c_check_stream k_check_stream).binds (ps := ["stream"]) fun _ _ _ _ _ _ us hl => match us, hl with | [_], _ => rfl
  m_check_stream := PySem.W.mg_of X G h_check_stream
  a_check_telling := f_check_telling
  d_check_telling := PySem.W.fnOf "check_telling" "check_telling" (defArgs s_check_telling) (defBody s_check_telling) (defScope s_check_telling) .none kV_check_telling dc_check_telling pm_check_telling an_check_telling cd_check_telling ct_check_telling
  F_check_telling := fun_mk (st := s_check_telling) l_check_telling c_check_telling k_check_telling
  b_check_telling := (fun_mk (st := s_check_telling) l_check_telling c_check_telling k_check_telling).binds (ps := ["telling"]) fun _ _ _ _ _ _ us hl => match us, hl with | [_], _ => rfl
  m_check_telling := PySem.W.mg_of X G h_check_telling
  a_check_size := f_check_size
  d_check_size := PySem.W.fnOf "check_size" "check_size" (defArgs s_check_size) (defBody s_check_size) (defScope s_check_size) .none kV_check_size dc_check_size pm_check_size an_check_size cd_check_size ct_check_size
  F_check_size := fun_mk (st := s_check_size) l_check_size c_check_size k_check_size
  b_check_size := (fun_mk (st := s_check_size) l_check_size c_check_size k_check_size).binds (ps := ["size"]) fun _ _ _ _ _ _ us hl => match us, hl with | [_], _ => rfl
  m_check_size := PySem.W.mg_of X G h_check_size
  a_Laying_init := f_Laying_init
  d_Laying_init := PySem.W.fnOf "__init__" "Laying.__init__" (defArgs s_Laying_init) (defBody s_Laying_init) (defScope s_Laying_init) .none kV_Laying_init dc_Laying_init pm_Laying_init an_Laying_init cd_Laying_init ct_Laying_init
  F_Laying_init := fun_mk (st := s_Laying_init) l_Laying_init c_Laying_init k_Laying_init
  b_Laying_init := (fun_mk (st := s_Laying_init) l_Laying_init c_Laying_init k_Laying_init).binds (ps := ["self", "stream", "size"]) fun _ _ _ _ _ _ us hl => match us, hl with | [_, _, _], _ => rfl
  a_Laying_lay := f_Laying_lay
  d_Laying_lay := PySem.W.fnOf "lay" "Laying.lay" (defArgs s_Laying_lay) (defBody s_Laying_lay) (defScope s_Laying_lay) .none kV_Laying_lay dc_Laying_lay pm_Laying_lay an_Laying_lay cd_Laying_lay ct_Laying_lay
  F_Laying_lay := fun_mk (st := s_Laying_lay) l_Laying_lay c_Laying_lay k_Laying_lay
  b_Laying_lay := (fun_mk (st := s_Laying_lay) l_Laying_lay c_Laying_lay k_Laying_lay).binds (ps := ["self", "telling"]) fun _ _ _ _ _ _ us hl => match us, hl with | [_, _], _ => rfl
  M_Laying_lay := ⟨h_Laying_lay, i_Laying_lay, k_Laying_lay⟩
  a_Laying_fill := f_Laying_fill
  d_Laying_fill := PySem.W.fnOf "fill" "Laying.fill" (defArgs s_Laying_fill) (defBody s_Laying_fill) (defScope s_Laying_fill) .none kV_Laying_fill dc_Laying_fill pm_Laying_fill an_Laying_fill cd_Laying_fill ct_Laying_fill
  F_Laying_fill := fun_mk (st := s_Laying_fill) l_Laying_fill c_Laying_fill k_Laying_fill
  b_Laying_fill := (fun_mk (st := s_Laying_fill) l_Laying_fill c_Laying_fill k_Laying_fill).binds (ps := ["self"]) fun _ _ _ _ _ _ us hl => match us, hl with | [_], _ => rfl
  M_Laying_fill := ⟨h_Laying_fill, i_Laying_fill, k_Laying_fill⟩
  a_Laying_done := f_Laying_done
  d_Laying_done := PySem.W.fnOf "_done" "Laying._done" (defArgs s_Laying_done) (defBody s_Laying_done) (defScope s_Laying_done) .none kV_Laying_done dc_Laying_done pm_Laying_done an_Laying_done cd_Laying_done ct_Laying_done
  F_Laying_done := fun_mk (st := s_Laying_done) l_Laying_done c_Laying_done k_Laying_done
  b_Laying_done := (fun_mk (st := s_Laying_done) l_Laying_done c_Laying_done k_Laying_done).binds (ps := ["self"]) fun _ _ _ _ _ _ us hl => match us, hl with | [_], _ => rfl
  M_Laying_done := ⟨h_Laying_done, i_Laying_done, k_Laying_done⟩
  a_frames_of := f_frames_of
  d_frames_of := PySem.W.fnOf "frames_of" "frames_of" (defArgs s_frames_of) (defBody s_frames_of) (defScope s_frames_of) .none kV_frames_of dc_frames_of pm_frames_of an_frames_of cd_frames_of ct_frames_of
  F_frames_of := fun_mk (st := s_frames_of) l_frames_of c_frames_of k_frames_of
  b_frames_of := (fun_mk (st := s_frames_of) l_frames_of c_frames_of k_frames_of).binds (ps := ["stream", "tellings", "size"]) fun _ _ _ _ _ _ us hl => match us, hl with | [_, _, _], _ => rfl
  m_frames_of := PySem.W.mg_of X G h_frames_of
  a_law_mix := f_law_mix
  d_law_mix := PySem.W.fnOf "_law_mix" "_law_mix" (defArgs s_law_mix) (defBody s_law_mix) (defScope s_law_mix) .none kV_law_mix dc_law_mix pm_law_mix an_law_mix cd_law_mix ct_law_mix
  F_law_mix := fun_mk (st := s_law_mix) l_law_mix c_law_mix k_law_mix
  b_law_mix := (fun_mk (st := s_law_mix) l_law_mix c_law_mix k_law_mix).binds (ps := ["_law_script", "_law_seed"]) fun _ _ _ _ _ _ us hl => match us, hl with | [_, _], _ => rfl
  m_law_mix := PySem.W.mg_of X G h_law_mix
  a_law_next := f_law_next
  d_law_next := PySem.W.fnOf "_law_next" "_law_next" (defArgs s_law_next) (defBody s_law_next) (defScope s_law_next) .none kV_law_next dc_law_next pm_law_next an_law_next cd_law_next ct_law_next
  F_law_next := fun_mk (st := s_law_next) l_law_next c_law_next k_law_next
  b_law_next := (fun_mk (st := s_law_next) l_law_next c_law_next k_law_next).binds (ps := ["_law_h", "_law_many_here"]) fun _ _ _ _ _ _ us hl => match us, hl with | [_, _], _ => rfl
  m_law_next := PySem.W.mg_of X G h_law_next
  a_law_alike := f_law_alike
  d_law_alike := PySem.W.fnOf "_law_alike" "_law_alike" (defArgs s_law_alike) (defBody s_law_alike) (defScope s_law_alike) .none kV_law_alike dc_law_alike pm_law_alike an_law_alike cd_law_alike ct_law_alike
  F_law_alike := fun_mk (st := s_law_alike) l_law_alike c_law_alike k_law_alike
  b_law_alike := (fun_mk (st := s_law_alike) l_law_alike c_law_alike k_law_alike).binds (ps := ["_law_found", "_law_due"]) fun _ _ _ _ _ _ us hl => match us, hl with | [_, _], _ => rfl
  m_law_alike := PySem.W.mg_of X G h_law_alike
  a_law_data := f_law_data
  d_law_data := PySem.W.fnOf "_law_data" "_law_data" (defArgs s_law_data) (defBody s_law_data) (defScope s_law_data) .none kV_law_data dc_law_data pm_law_data an_law_data cd_law_data ct_law_data
  F_law_data := fun_mk (st := s_law_data) l_law_data c_law_data k_law_data
  b_law_data := (fun_mk (st := s_law_data) l_law_data c_law_data k_law_data).binds (ps := ["_law_h"]) fun _ _ _ _ _ _ us hl => match us, hl with | [_], _ => rfl
  m_law_data := PySem.W.mg_of X G h_law_data
  a_law_fresh := f_law_fresh
  d_law_fresh := PySem.W.fnOf "_law_fresh" "_law_fresh" (defArgs s_law_fresh) (defBody s_law_fresh) (defScope s_law_fresh) .none kV_law_fresh dc_law_fresh pm_law_fresh an_law_fresh cd_law_fresh ct_law_fresh
  F_law_fresh := fun_mk (st := s_law_fresh) l_law_fresh c_law_fresh k_law_fresh
  b_law_fresh := (fun_mk (st := s_law_fresh) l_law_fresh c_law_fresh k_law_fresh).binds (ps := ["_law_size"]) fun _ _ _ _ _ _ us hl => match us, hl with | [_], _ => rfl
  m_law_fresh := PySem.W.mg_of X G h_law_fresh
  a_law_lay := f_law_lay
  d_law_lay := PySem.W.fnOf "_law_lay" "_law_lay" (defArgs s_law_lay) (defBody s_law_lay) (defScope s_law_lay) .none kV_law_lay dc_law_lay pm_law_lay an_law_lay cd_law_lay ct_law_lay
  F_law_lay := fun_mk (st := s_law_lay) l_law_lay c_law_lay k_law_lay
  b_law_lay := (fun_mk (st := s_law_lay) l_law_lay c_law_lay k_law_lay).binds (ps := ["_law_s", "_law_data_here"]) fun _ _ _ _ _ _ us hl => match us, hl with | [_, _], _ => rfl
  m_law_lay := PySem.W.mg_of X G h_law_lay
  a_law_fill := f_law_fill
  d_law_fill := PySem.W.fnOf "_law_fill" "_law_fill" (defArgs s_law_fill) (defBody s_law_fill) (defScope s_law_fill) .none kV_law_fill dc_law_fill pm_law_fill an_law_fill cd_law_fill ct_law_fill
  F_law_fill := fun_mk (st := s_law_fill) l_law_fill c_law_fill k_law_fill
  b_law_fill := (fun_mk (st := s_law_fill) l_law_fill c_law_fill k_law_fill).binds (ps := ["_law_s"]) fun _ _ _ _ _ _ us hl => match us, hl with | [_], _ => rfl
  m_law_fill := PySem.W.mg_of X G h_law_fill
  a_law_many := f_law_many
  d_law_many := PySem.W.fnOf "_law_many" "_law_many" (defArgs s_law_many) (defBody s_law_many) (defScope s_law_many) .none kV_law_many dc_law_many pm_law_many an_law_many cd_law_many ct_law_many
  F_law_many := fun_mk (st := s_law_many) l_law_many c_law_many k_law_many
  b_law_many := (fun_mk (st := s_law_many) l_law_many c_law_many k_law_many).binds (ps := ["_law_s"]) fun _ _ _ _ _ _ us hl => match us, hl with | [_], _ => rfl
  m_law_many := PySem.W.mg_of X G h_law_many
  a_law_frame := f_law_frame
  d_law_frame := PySem.W.fnOf "_law_frame" "_law_frame" (defArgs s_law_frame) (defBody s_law_frame) (defScope s_law_frame) .none kV_law_frame dc_law_frame pm_law_frame an_law_frame cd_law_frame ct_law_frame
  F_law_frame := fun_mk (st := s_law_frame) l_law_frame c_law_frame k_law_frame
  b_law_frame := (fun_mk (st := s_law_frame) l_law_frame c_law_frame k_law_frame).binds (ps := ["_law_s", "_law_stream", "_law_count"]) fun _ _ _ _ _ _ us hl => match us, hl with | [_, _, _], _ => rfl
  m_law_frame := PySem.W.mg_of X G h_law_frame
  a_law := f_law
  d_law := PySem.W.fnOf "law" "law" (defArgs s_law) (defBody s_law) (defScope s_law) .none kV_law dc_law pm_law an_law cd_law ct_law
  F_law := fun_mk (st := s_law) l_law c_law k_law
  b_law := (fun_mk (st := s_law) l_law c_law k_law).binds (ps := ["_law_script"]) fun _ _ _ _ _ _ us hl => match us, hl with | [_], _ => rfl
  m_law := PySem.W.mg_of X G h_law
  cl_Laying := ⟨pg_Laying, hd_Laying, po_Laying, sa_Laying⟩
  m_Laying := PySem.W.mg_of X G hA_Laying
  mk_Laying := ⟨mk_Laying, h_Laying_init, i_Laying_init, kc_Laying⟩
  n_Laying_body := n_Laying_body
  n_Laying_count := n_Laying_count
  n_Laying_first := n_Laying_first
  n_Laying_size := n_Laying_size
  n_Laying_stream := n_Laying_stream
  n_Laying_many := n_Laying_many
  z_all := PySem.W.mg_none_of X G z_all
  z_bool := PySem.W.mg_none_of X G z_bool
  z_int := PySem.W.mg_none_of X G z_int
  z_isinstance := PySem.W.mg_none_of X G z_isinstance
  z_len := PySem.W.mg_none_of X G z_len
  z_list := PySem.W.mg_none_of X G z_list
  z_max := PySem.W.mg_none_of X G z_max
  z_min := PySem.W.mg_none_of X G z_min
  z_range := PySem.W.mg_none_of X G z_range
  z_str := PySem.W.mg_none_of X G z_str
  z_tuple := PySem.W.mg_none_of X G z_tuple
  t_STREAMS := t_STREAMS
  c_STREAMS := PySem.W.mg_of X G c_STREAMS
  t_MOST_NUMBERS := t_MOST_NUMBERS
  c_MOST_NUMBERS := PySem.W.mg_of X G c_MOST_NUMBERS
  t_LEAST_SIZE := t_LEAST_SIZE
  c_LEAST_SIZE := PySem.W.mg_of X G c_LEAST_SIZE
  t_MOST_SIZE := t_MOST_SIZE
  c_MOST_SIZE := PySem.W.mg_of X G c_MOST_SIZE
  t_HUNDRED := t_HUNDRED
  c_HUNDRED := PySem.W.mg_of X G c_HUNDRED
theorem all_mk {l : PySem.W.OpenLaw} {w : World} {K : PySem.W.Frag} {h : Heap} {mg : Str → Option Value} {fa : Addr} (X : K.In h) (G : h.Ns mainGlobals mg) (hfa : mg "law" = some (.ref fa)) (T : Tx K mg) :
    ∃ fd : FuncData, (∀ (s : Shared) (v : Value), BindsTo s fd ⟨[v], []⟩ [("_law_script", v)]) ∧ ∀ base : Heap, K.In base → base.Ns mainGlobals mg → FnOk l.prog w K mg base CX0 6 fa fd ["_law_script"] (sp_law K) := by
  have e := hfa.symm.trans T.m_law
  cases e
  obtain ⟨oc, od, kV, doc, pm, an, cdv, ct, osl, efd, lk, hcd⟩ := T.F_law.ex
  exact ⟨T.d_law, fun s v => by rw [efd]; exact .of_eq rfl, fun base _ _ => ok_law T⟩
end K2
open PySem PySem.W PyProof.Rows in
set_option maxRecDepth 100000 in
set_option maxHeartbeats 0 in
theorem PySem.Challenge.cw_skyframes_k02_frames_holds : PySem.Challenge.rw_skyframes_k02_frames.Holds := by
  w_on; o_law; k_head; (case hw => w_witness2)
  k_fill
  refine L2.walk_of (l := PySem.Challenge.rw_skyframes_k02_frames) (n := 63) (k := 6) (x := "_law_script") (CX := fun _ => L2.CX0) (sp := fun w => K2.sp_law _) rfl (by decide) rfl ⟨rfl, by decide, by decide⟩ (fun w h Y => PySem.W.kIn_of Y) ?F (fun _ _ a ns hl _ hS => ⟨a, ns, rfl, hS, hl, fun _ => rfl⟩) (fun _ _ _ _ _ h => h)
  case F =>
    intro w mg fa h KX G hmg
    refine' K2.all_mk KX G hmg (K2.mkTx KX G ?hA_Laying ?h_is_number ?l_is_number ?c_is_number ?k_is_number ?h_is_stream ?l_is_stream ?c_is_stream ?k_is_stream ?h_holds_numbers ?l_holds_numbers ?c_holds_numbers ?k_holds_numbers ?h_is_telling ?l_is_telling ?c_is_telling ?k_is_telling ?h_check_stream ?l_check_stream ?c_check_stream ?k_check_stream ?h_check_telling ?l_check_telling ?c_check_telling ?k_check_telling ?h_check_size ?l_check_size ?c_check_size ?k_check_size ?h_Laying_init ?i_Laying_init ?l_Laying_init ?c_Laying_init ?k_Laying_init ?h_Laying_lay ?i_Laying_lay ?l_Laying_lay ?c_Laying_lay ?k_Laying_lay ?h_Laying_fill ?i_Laying_fill ?l_Laying_fill ?c_Laying_fill ?k_Laying_fill ?h_Laying_done ?i_Laying_done ?l_Laying_done ?c_Laying_done ?k_Laying_done ?h_frames_of ?l_frames_of ?c_frames_of ?k_frames_of ?h_law_mix ?l_law_mix ?c_law_mix ?k_law_mix ?h_law_next ?l_law_next ?c_law_next ?k_law_next ?h_law_alike ?l_law_alike ?c_law_alike ?k_law_alike ?h_law_data ?l_law_data ?c_law_data ?k_law_data ?h_law_fresh ?l_law_fresh ?c_law_fresh ?k_law_fresh ?h_law_lay ?l_law_lay ?c_law_lay ?k_law_lay ?h_law_fill ?l_law_fill ?c_law_fill ?k_law_fill ?h_law_many ?l_law_many ?c_law_many ?k_law_many ?h_law_frame ?l_law_frame ?c_law_frame ?k_law_frame ?h_law ?l_law ?c_law ?k_law ?pg_Laying ?hd_Laying ?po_Laying ?sa_Laying ?mk_Laying ?kc_Laying ?n_Laying_body ?n_Laying_count ?n_Laying_first ?n_Laying_size ?n_Laying_stream ?n_Laying_many ?z_all ?z_bool ?z_int ?z_isinstance ?z_len ?z_list ?z_max ?z_min ?z_range ?z_str ?z_tuple ?c_STREAMS ?c_MOST_NUMBERS ?c_LEAST_SIZE ?c_MOST_SIZE ?c_HUNDRED)
    (case hA_Laying => k_is)
    (case h_is_number => k_is)
    (case l_is_number => k_is)
    (case c_is_number => k_is)
    (case k_is_number => k_is)
    (case h_is_stream => k_is)
    (case l_is_stream => k_is)
    (case c_is_stream => k_is)
    (case k_is_stream => k_is)
    (case h_holds_numbers => k_is)
    (case l_holds_numbers => k_is)
    (case c_holds_numbers => k_is)
    (case k_holds_numbers => k_is)
    (case h_is_telling => k_is)
    (case l_is_telling => k_is)
    (case c_is_telling => k_is)
    (case k_is_telling => k_is)
    (case h_check_stream => k_is)
    (case l_check_stream => k_is)
    (case c_check_stream => k_is)
    (case k_check_stream => k_is)
    (case h_check_telling => k_is)
    (case l_check_telling => k_is)
    (case c_check_telling => k_is)
    (case k_check_telling => k_is)
    (case h_check_size => k_is)
    (case l_check_size => k_is)
    (case c_check_size => k_is)
    (case k_check_size => k_is)
    (case h_Laying_init => k_is)
    (case i_Laying_init => k_is)
    (case l_Laying_init => k_is)
    (case c_Laying_init => k_is)
    (case k_Laying_init => k_is)
    (case h_Laying_lay => k_is)
    (case i_Laying_lay => k_is)
    (case l_Laying_lay => k_is)
    (case c_Laying_lay => k_is)
    (case k_Laying_lay => k_is)
    (case h_Laying_fill => k_is)
    (case i_Laying_fill => k_is)
    (case l_Laying_fill => k_is)
    (case c_Laying_fill => k_is)
    (case k_Laying_fill => k_is)
    (case h_Laying_done => k_is)
    (case i_Laying_done => k_is)
    (case l_Laying_done => k_is)
    (case c_Laying_done => k_is)
    (case k_Laying_done => k_is)
    (case h_frames_of => k_is)
    (case l_frames_of => k_is)
    (case c_frames_of => k_is)
    (case k_frames_of => k_is)
    (case h_law_mix => k_is)
    (case l_law_mix => k_is)
    (case c_law_mix => k_is)
    (case k_law_mix => k_is)
    (case h_law_next => k_is)
    (case l_law_next => k_is)
    (case c_law_next => k_is)
    (case k_law_next => k_is)
    (case h_law_alike => k_is)
    (case l_law_alike => k_is)
    (case c_law_alike => k_is)
    (case k_law_alike => k_is)
    (case h_law_data => k_is)
    (case l_law_data => k_is)
    (case c_law_data => k_is)
    (case k_law_data => k_is)
    (case h_law_fresh => k_is)
    (case l_law_fresh => k_is)
    (case c_law_fresh => k_is)
    (case k_law_fresh => k_is)
    (case h_law_lay => k_is)
    (case l_law_lay => k_is)
    (case c_law_lay => k_is)
    (case k_law_lay => k_is)
    (case h_law_fill => k_is)
    (case l_law_fill => k_is)
    (case c_law_fill => k_is)
    (case k_law_fill => k_is)
    (case h_law_many => k_is)
    (case l_law_many => k_is)
    (case c_law_many => k_is)
    (case k_law_many => k_is)
    (case h_law_frame => k_is)
    (case l_law_frame => k_is)
    (case c_law_frame => k_is)
    (case k_law_frame => k_is)
    (case h_law => k_is)
    (case l_law => k_is)
    (case c_law => k_is)
    (case k_law => k_is)
    (case pg_Laying => k_is)
    (case hd_Laying => k_is)
    (case po_Laying => k_is)
    (case sa_Laying => k_is)
    (case mk_Laying => k_is)
    (case kc_Laying => k_is)
    (case n_Laying_body => k_is)
    (case n_Laying_count => k_is)
    (case n_Laying_first => k_is)
    (case n_Laying_size => k_is)
    (case n_Laying_stream => k_is)
    (case n_Laying_many => k_is)
    (case z_all => k_is)
    (case z_bool => k_is)
    (case z_int => k_is)
    (case z_isinstance => k_is)
    (case z_len => k_is)
    (case z_list => k_is)
    (case z_max => k_is)
    (case z_min => k_is)
    (case z_range => k_is)
    (case z_str => k_is)
    (case z_tuple => k_is)
    (case c_STREAMS => k_is)
    (case c_MOST_NUMBERS => k_is)
    (case c_LEAST_SIZE => k_is)
    (case c_MOST_SIZE => k_is)
    (case c_HUNDRED => k_is)
