import PyProof.Rows.All
import Wide.All
import OpenK.AllK
import Wide.FinOn
import HandS.ForMost
import HandS.IsInst
import HandS.Conv
import HandS.Star
import HandS.Flow
import HandS.Style
import HandS.DictComp
import HandS.SortInts
import HandS.SetKeys
import HandS.Deep
import KE.DataMinMax
import HandS.SortKw
import HandS.SortRule
import PySem.Challenge.RW_skyframes_k05_the_ground_step_by_step
set_option Elab.async false
set_option linter.all false
set_option maxRecDepth 100000
set_option maxHeartbeats 4000000
/-! Heaps: tuples stay, what is not named stays; data made of tuples; fields by their places. -/
namespace Sky
open PySem PySem.Spec PyProof.Rows L2

/-- all but what stands at M is as it was -/
def Keep (M : List Addr) (H H' : Hp) : Prop := ∀ b o, b ∉ M → H b = some o → H' b = some o
/-- tuples stay -/
def TSm (H H' : Hp) : Prop := ∀ a xs, H a = some (.tup xs) → H' a = some (.tup xs)
theorem Keep.refl (M : List Addr) (H : Hp) : Keep M H H := fun _ _ _ h => h
theorem Keep.trans {M : List Addr} {H H1 H2 : Hp} (a : Keep M H H1) (b : Keep M H1 H2) : Keep M H H2 := fun c o n h => b c o n (a c o n h)
theorem Keep.of_same {M : List Addr} {H H' : Hp} (a : Same H H') : Keep M H H' := fun c o _ h => a c o h
theorem Keep.mono {M N : List Addr} {H H' : Hp} (a : Keep M H H') (h : ∀ m, m ∈ M → m ∈ N) : Keep N H H' := fun c o n q => a c o (fun z => n (h c z)) q
theorem Keep.same {M : List Addr} {S H H' : Hp} (k : Keep M H H') (s : Same S H) (h : ∀ m ∈ M, S m = none) : Same S H' := fun b o e => by
  refine k b o (fun hb => ?_) (s b o e)
  rw [h b hb] at e
  cases e
theorem Keep.nil {H H' : Hp} (k : Keep [] H H') : Same H H' := fun b o e => k b o (by simp) e
theorem keep_upd {M : List Addr} {H H' : Hp} {a : Addr} {o : HO} (k : Keep M H H') (h : a ∈ M) : Keep M H (upd H' a o) := fun b u n e => by
  rw [upd_ne (show b ≠ a from fun z => n (by rw [z]; exact h))]
  exact k b u n e
theorem keep_new {M : List Addr} {H H' : Hp} {a : Addr} {o : HO} (k : Keep M H H') (h : H a = none) : Keep M H (upd H' a o) := fun b u n e => by
  rw [upd_ne (ne_of_none e h)]
  exact k b u n e
/-- a new object, fresh in the heap just ahead of it -/
theorem keep_new' {M : List Addr} {H H' : Hp} {a : Addr} {o : HO} (k : Keep M H H') (h : H' a = none) : Keep M H (upd H' a o) := fun b u n e => by
  rw [upd_ne (ne_of_none (k b u n e) h)]
  exact k b u n e
/-- a changed object that was fresh at the start -/
theorem keep_mut {M : List Addr} {H H' : Hp} {a : Addr} {o : HO} (k : Keep M H H') (h : H a = none) : Keep M H (upd H' a o) := keep_new k h
theorem same_new {H H' : Hp} {a : Addr} {o : HO} (k : Same H H') (h : H' a = none) : Same H (upd H' a o) := fun b u e => by
  rw [upd_ne (ne_of_none (k b u e) h)]
  exact k b u e
theorem same_mut {H H' : Hp} {a : Addr} {o : HO} (k : Same H H') (h : H a = none) : Same H (upd H' a o) := fun b u e => by
  rw [upd_ne (ne_of_none e h)]
  exact k b u e
theorem TSm.refl (H : Hp) : TSm H H := fun _ _ h => h
theorem TSm.trans {H H1 H2 : Hp} (a : TSm H H1) (b : TSm H1 H2) : TSm H H2 := fun c o h => b c o (a c o h)
theorem TSm.of_same {H H' : Hp} (a : Same H H') : TSm H H' := fun c o h => a c _ h
/-- no tuple -/
def NoT (H : Hp) (a : Addr) : Prop := ∀ xs, H a ≠ some (.tup xs)
theorem NoT.none {H : Hp} {a : Addr} (h : H a = none) : NoT H a := fun xs e => by
  rw [h] at e
  cases e
theorem NoT.lst {H : Hp} {a : Addr} {xs : List V} (h : H a = some (.lst xs)) : NoT H a := fun ys e => by
  rw [h] at e
  cases e
theorem NoT.dK {H : Hp} {a : Addr} {xs : List (Key × V)} (h : H a = some (.dK xs)) : NoT H a := fun ys e => by
  rw [h] at e
  cases e
theorem NoT.dT {H : Hp} {a : Addr} {xs : List (List Key × V)} (h : H a = some (.dT xs)) : NoT H a := fun ys e => by
  rw [h] at e
  cases e
theorem NoT.ins {H : Hp} {a C dx : Addr} {fs : List (Str × V)} (h : H a = some (.ins C dx fs)) : NoT H a := fun ys e => by
  rw [h] at e
  cases e
theorem ts_upd {H H' : Hp} {a : Addr} {o : HO} (k : TSm H H') (h : NoT H' a) : TSm H (upd H' a o) := fun b u e => by
  have q := k b u e
  rw [upd_ne (show b ≠ a from fun z => h u (by rw [← z]; exact q))]
  exact q
theorem Keep.ts {M : List Addr} {H H' : Hp} (k : Keep M H H') (h : ∀ m ∈ M, NoT H m) : TSm H H' := fun a xs e => k a _ (fun z => h a z xs e) e
/-- an address that is there is not a new one -/
theorem ne_new {H : Hp} {a b : Addr} {o : HO} (h : H a = some o) (h' : H b = none) : a ≠ b := ne_of_none h h'

/-! ### data made of tuples -/
mutual
inductive TD (H : Hp) : V → PyData → Prop
  | non : TD H .non .none
  | bl (b : Bool) : TD H (.bl b) (.bool b)
  | int (i : Int) : TD H (.int i) (.int i)
  | str (x : Str) : TD H (.str x) (.str x)
  | tup {a : Addr} {xs : List V} {ds : List PyData} : H a = some (.tup xs) → TDs H xs ds → TD H (.ref a) (.tuple ds)
inductive TDs (H : Hp) : List V → List PyData → Prop
  | nil : TDs H [] []
  | cons {v : V} {vs : List V} {d : PyData} {ds : List PyData} : TD H v d → TDs H vs ds → TDs H (v :: vs) (d :: ds)
end
mutual
theorem TD.mono {H H' : Hp} (k : TSm H H') : ∀ {d : PyData} {v : V}, TD H v d → TD H' v d
  | _, _, .non => .non
  | _, _, .bl b => .bl b
  | _, _, .int i => .int i
  | _, _, .str x => .str x
  | _, _, .tup h t => .tup (k _ _ h) (TDs.mono k t)
theorem TDs.mono {H H' : Hp} (k : TSm H H') : ∀ {ds : List PyData} {vs : List V}, TDs H vs ds → TDs H' vs ds
  | _, _, .nil => .nil
  | _, _, .cons h t => .cons (TD.mono k h) (TDs.mono k t)
end
mutual
theorem TD.dp {K : PySem.W.Frag} {H : Hp} : ∀ {d : PyData} {v : V}, TD H v d → Dp K H v d
  | _, _, .non => .non
  | _, _, .bl b => .bl b
  | _, _, .int i => .int i
  | _, _, .str x => .str x
  | _, _, .tup h t => .tup (SqT.of h) (TDs.dp t)
theorem TDs.dp {K : PySem.W.Frag} {H : Hp} : ∀ {ds : List PyData} {vs : List V}, TDs H vs ds → DpAll K H vs ds
  | _, _, .nil => .nil
  | _, _, .cons h t => .cons (TD.dp h) (TDs.dp t)
end
theorem TDs.length {H : Hp} : ∀ {vs : List V} {ds : List PyData}, TDs H vs ds → vs.length = ds.length
  | _, _, .nil => rfl
  | _, _, .cons _ t => by simp [TDs.length t]
theorem TDs.app {H : Hp} : ∀ {vs us : List V} {ds es : List PyData}, TDs H vs ds → TDs H us es → TDs H (vs ++ us) (ds ++ es)
  | _, _, _, _, .nil, s => s
  | _, _, _, _, .cons h t, s => .cons h (TDs.app t s)
theorem TDs.get {H : Hp} : ∀ {vs : List V} {ds : List PyData} {i : Nat} {v : V}, TDs H vs ds → vs[i]? = some v → ∃ d, ds[i]? = some d ∧ TD H v d
  | _, _, _, _, .nil, e => by simp at e
  | _, _, 0, _, .cons h _, e => by simp at e; subst e; exact ⟨_, rfl, h⟩
  | _, _, i + 1, _, .cons _ t, e => by
    obtain ⟨d, h1, h2⟩ := TDs.get (i := i) t (by simpa using e)
    exact ⟨d, by simpa using h1, h2⟩
theorem TDs.getD {H : Hp} : ∀ {vs : List V} {ds : List PyData} {i : Nat} {d : PyData}, TDs H vs ds → ds[i]? = some d → ∃ v, vs[i]? = some v ∧ TD H v d
  | _, _, _, _, .nil, e => by simp at e
  | _, _, 0, _, .cons h _, e => by simp at e; subst e; exact ⟨_, rfl, h⟩
  | _, _, i + 1, _, .cons _ t, e => by
    obtain ⟨d, h1, h2⟩ := TDs.getD (i := i) t (by simpa using e)
    exact ⟨d, by simpa using h1, h2⟩
theorem TDs.ints {H : Hp} : ∀ (ns : List Int), TDs H (ns.map V.int) (ns.map PyData.int)
  | [] => .nil
  | n :: r => .cons (.int n) (TDs.ints r)
theorem TDs.one {H : Hp} {v : V} {d : PyData} (h : TD H v d) : TDs H [v] [d] := .cons h .nil
theorem TDs.of_ints {H : Hp} : ∀ {ns : List Int} {vs : List V}, TDs H vs (ns.map PyData.int) → vs = ns.map V.int
  | [], _, .nil => rfl
  | n :: r, _, .cons h t => by
    cases h
    rw [TDs.of_ints t]
    rfl
/-- an int's | None's data -/
def optD : Option Nat → PyData
  | none => .none
  | some n => .int n
def optV : Option Nat → V
  | none => .non
  | some n => .int n
theorem TD.opt {H : Hp} : ∀ o : Option Nat, TD H (optV o) (optD o)
  | none => .non
  | some n => .int n
/-- a telling's data -/
abbrev tlD (t : List Int) : PyData := .tuple (t.map PyData.int)
theorem TD.tl {H : Hp} {a : Addr} {t : List Int} (h : H a = some (.tup (t.map V.int))) : TD H (.ref a) (tlD t) := .tup h (TDs.ints t)
theorem TD.of_tl {H : Hp} {v : V} {t : List Int} (h : TD H v (tlD t)) : ∃ a, v = .ref a ∧ H a = some (.tup (t.map V.int)) := by
  cases h with
  | tup h t =>
    have e := TDs.of_ints t
    subst e
    exact ⟨_, rfl, h⟩

mutual
theorem dp_same {K : PySem.W.Frag} {H H' : Hp} (k : Same H H') : ∀ {d : PyData} {v : V}, Dp K H v d → Dp K H' v d
  | _, _, .non => .non
  | _, _, .bl b => .bl b
  | _, _, .int i => .int i
  | _, _, .str x => .str x
  | _, _, .lst h t => .lst (k.seq h) (dps_same k t)
  | _, _, .tup h t => .tup (by
      rcases h with (h | ⟨o, h⟩) | h
      · exact .inl (.inl (k _ _ h))
      · exact .inl (.inr ⟨o, k _ _ h⟩)
      · exact .inr h) (dps_same k t)
theorem dps_same {K : PySem.W.Frag} {H H' : Hp} (k : Same H H') : ∀ {ds : List PyData} {vs : List V}, DpAll K H vs ds → DpAll K H' vs ds
  | _, _, .nil => .nil
  | _, _, .cons h t => .cons (dp_same k h) (dps_same k t)
end
theorem DpAll.len {K : PySem.W.Frag} {H : Hp} : ∀ {vs : List V} {ds : List PyData}, DpAll K H vs ds → vs.length = ds.length
  | _, _, .nil => rfl
  | _, _, .cons _ t => by simp [DpAll.len t]
theorem DpAll.at {K : PySem.W.Frag} {H : Hp} : ∀ {vs : List V} {ds : List PyData} {i : Nat} {d : PyData}, DpAll K H vs ds → ds[i]? = some d → ∃ v, vs[i]? = some v ∧ Dp K H v d
  | _, _, _, _, .nil, e => by simp at e
  | _, _, 0, _, .cons h _, e => by simp at e; subst e; exact ⟨_, rfl, h⟩
  | _, _, i + 1, _, .cons _ t, e => by
    obtain ⟨v, h1, h2⟩ := DpAll.at (i := i) t (by simpa using e)
    exact ⟨v, by simpa using h1, h2⟩
/-- a value's type by its data -/
def tyN : PyData → String
  | .none => "NoneType"
  | .bool _ => "bool"
  | .int _ => "int"
  | .str _ => "str"
  | .list _ => "list"
  | .tuple _ => "tuple"
  | .dict _ => "dict"
theorem dp_ty {K : PySem.W.Frag} {H : Hp} {v : V} {d : PyData} (h : Dp K H v d) : TyX K H v (.type (tyN d)) := by
  cases h with
  | non => exact .base .non
  | bl b => exact .base (.bl b)
  | int i => exact .base (.int i)
  | str x => exact .base (.str x)
  | lst h t =>
    rcases h with (h | ⟨o, h⟩) | ⟨o, its, n, hk, hc, _⟩
    · exact .base (.lst h)
    · exact .base (.frz h)
    · exact .kList hk hc
  | tup h t =>
    rcases h with (h | ⟨o, h⟩) | ⟨o, its, n, hk, hc, _⟩
    · exact .base (.tup h)
    · exact .fTuple h
    · exact .kTuple hk hc
/-- data of so many levels, no level too long -/
def DOk : Nat → PyData → Prop
  | 0, d => (d = .none ∨ (∃ i, d = .int i) ∨ (∃ b, d = .bool b) ∨ ∃ x, d = .str x)
  | n + 1, d => (d = .none ∨ (∃ i, d = .int i) ∨ (∃ b, d = .bool b) ∨ ∃ x, d = .str x) ∨ ∃ ds : List PyData, (d = .list ds ∨ d = .tuple ds) ∧ ds.length ≤ 10000000 ∧ ∀ e ∈ ds, DOk n e
theorem DOk.sc {n : Nat} {d : PyData} (h : d = .none ∨ (∃ i, d = .int i) ∨ (∃ b, d = .bool b) ∨ ∃ x, d = .str x) : DOk n d := by
  cases n with
  | zero => exact h
  | succ n => exact .inl h
theorem DOk.int {n : Nat} (i : Int) : DOk n (.int i) := .sc (.inr (.inl ⟨i, rfl⟩))
theorem DOk.none {n : Nat} : DOk n .none := .sc (.inl rfl)
theorem DOk.tuple {n : Nat} {ds : List PyData} (l : ds.length ≤ 10000000) (h : ∀ e ∈ ds, DOk n e) : DOk (n + 1) (.tuple ds) := .inr ⟨ds, .inr rfl, l, h⟩
theorem DOk.list {n : Nat} {ds : List PyData} (l : ds.length ≤ 10000000) (h : ∀ e ∈ ds, DOk n e) : DOk (n + 1) (.list ds) := .inr ⟨ds, .inl rfl, l, h⟩
theorem DOk.opt {n : Nat} (o : Option Nat) : DOk n (optD o) := by
  cases o with
  | none => exact DOk.none
  | some x => exact DOk.int _
theorem DOk.tl {n : Nat} {t : List Int} (l : t.length ≤ 10000000) : DOk (n + 1) (tlD t) := DOk.tuple (by rw [List.length_map]; exact l) fun e he => by
  obtain ⟨x, _, rfl⟩ := List.mem_map.mp he
  exact DOk.int x
theorem kit2F {K : PySem.W.Frag} {a b c : String} (h1 : kitB a b = some false) (h2 : kitB a c = some false) : PySem.W.kitAny K (.type a) [.type b, .type c] = some false :=
  kitAny_cons (kit_ty h1) (fun _ => kitAny_cons (kit_ty h2) (fun _ => kitAny_nil) (fun z => nomatch z)) (fun z => nomatch z)
theorem kit2T {K : PySem.W.Frag} {a b c : String} (h1 : kitB a b = some true) : PySem.W.kitAny K (.type a) [.type b, .type c] = some true :=
  kitAny_cons (kit_ty h1) (fun z => nomatch z) (fun _ => rfl)
theorem kit2T' {K : PySem.W.Frag} {a b c : String} (h1 : kitB a b = some false) (h2 : kitB a c = some true) : PySem.W.kitAny K (.type a) [.type b, .type c] = some true :=
  kitAny_cons (kit_ty h1) (fun _ => kitAny_cons (kit_ty h2) (fun z => nomatch z) (fun _ => rfl)) (fun _ => rfl)

/-! ### fields by their places -/
theorem lookup_zip : ∀ (ks : List Str) (vs : List V) (i : Nat) (f : Str), ks.Nodup → ks.length = vs.length → ks[i]? = some f → (ks.zip vs).lookup f = vs[i]?
  | [], _, _, _, _, _, h => by simp at h
  | k :: ks, [], _, _, _, h, _ => by simp at h
  | k :: ks, v :: vs, 0, f, _, _, h => by
    simp at h
    subst h
    simp [List.lookup]
  | k :: ks, v :: vs, i + 1, f, nd, l, h => by
    have nd' := List.nodup_cons.mp nd
    have hm : f ∈ ks := List.mem_of_getElem? (by simpa using h)
    have ne : (f == k) = false := by
      rw [beq_eq_false_iff_ne]
      intro e
      exact nd'.1 (e ▸ hm)
    show List.lookup f ((k, v) :: ks.zip vs) = _
    rw [List.lookup_cons, ne]
    simpa using lookup_zip ks vs i f nd'.2 (by simpa using l) (by simpa using h)
theorem lookup_zip_none : ∀ (ks : List Str) (vs : List V) (f : Str), f ∉ ks → (ks.zip vs).lookup f = none
  | [], _, _, _ => by simp
  | k :: ks, [], _, _ => by simp
  | k :: ks, v :: vs, f, h => by
    have ne : (f == k) = false := by
      rw [beq_eq_false_iff_ne]
      intro e
      exact h (e ▸ List.mem_cons_self ..)
    show List.lookup f ((k, v) :: ks.zip vs) = _
    rw [List.lookup_cons, ne]
    exact lookup_zip_none ks vs f fun z => h (List.mem_cons_of_mem _ z)
theorem putF_zip : ∀ (ks : List Str) (vs : List V) (i : Nat) (f : Str) (x : V), ks.Nodup → ks.length = vs.length → ks[i]? = some f → putF f x (ks.zip vs) = ks.zip (vs.set i x)
  | [], _, _, _, _, _, _, h => by simp at h
  | k :: ks, [], _, _, _, _, h, _ => by simp at h
  | k :: ks, v :: vs, 0, f, x, _, _, h => by
    simp at h
    subst h
    show (if k = k then (k, x) :: ks.zip vs else _) = _
    rw [if_pos rfl]
    rfl
  | k :: ks, v :: vs, i + 1, f, x, nd, l, h => by
    have nd' := List.nodup_cons.mp nd
    have hm : f ∈ ks := List.mem_of_getElem? (by simpa using h)
    have ne : ¬ k = f := fun e => nd'.1 (e ▸ hm)
    show (if k = f then (k, x) :: ks.zip vs else (k, v) :: putF f x (ks.zip vs)) = _
    rw [if_neg ne, putF_zip ks vs i f x nd'.2 (by simpa using l) (by simpa using h)]
    rfl
theorem putF_zip_new : ∀ (ks : List Str) (vs : List V) (f : Str) (x : V), ks.length = vs.length → f ∉ ks → putF f x (ks.zip vs) = (ks ++ [f]).zip (vs ++ [x])
  | [], [], f, x, _, _ => rfl
  | [], v :: vs, _, _, h, _ => by simp at h
  | k :: ks, [], _, _, h, _ => by simp at h
  | k :: ks, v :: vs, f, x, l, h => by
    have ne : ¬ k = f := fun e => h (e ▸ List.mem_cons_self ..)
    show (if k = f then (k, x) :: ks.zip vs else (k, v) :: putF f x (ks.zip vs)) = _
    rw [if_neg ne, putF_zip_new ks vs f x (by simpa using l) fun z => h (List.mem_cons_of_mem _ z)]
    rfl
theorem putF_take {ks : List Str} {vs : List V} {i : Nat} {f : Str} {x : V} (nd : ks.Nodup) (h : ks[i]? = some f) (l : vs.length = i) : putF f x ((ks.take i).zip vs) = (ks.take (i + 1)).zip (vs ++ [x]) := by
  have hi : i < ks.length := (List.getElem?_eq_some_iff.mp h).1
  rw [List.take_add_one, h]
  refine putF_zip_new (ks.take i) vs f x ?_ ?_
  · rw [List.length_take, l]
    omega
  · intro hm
    obtain ⟨j, hj, e⟩ := List.mem_take_iff_getElem.mp hm
    have h1 : ks[j]? = some f := by
      rw [List.getElem?_eq_getElem (by omega), e]
    have := nodup_ix nd h1 h
    omega
theorem Keep.join {M N : List Addr} {H0 Hb H : Hp} (a : Keep M H0 Hb) (b : Keep N Hb H) (h : ∀ n ∈ N, n ∈ M ∨ H0 n = none) : Keep M H0 H := fun c o n e => by
  refine b c o (fun hc => ?_) (a c o n e)
  rcases h c hc with q | q
  · exact n q
  · rw [q] at e
    cases e
theorem fresh_of {M : List Addr} {H H1 : Hp} {b : Addr} (k : Keep M H H1) (h : ∀ m ∈ M, ∃ o, H1 m = some o) (n : H1 b = none) : H b = none := by
  cases e : H b with
  | none => rfl
  | some o =>
    by_cases e1 : b ∈ M
    · obtain ⟨u, hu⟩ := h b e1
      rw [hu] at n
      cases n
    · rw [k _ _ e1 e] at n
      cases n
/-- what was there is there -/
def Dom (H H' : Hp) : Prop := ∀ b, H' b = none → H b = none
theorem Dom.refl (H : Hp) : Dom H H := fun _ h => h
theorem Dom.trans {H H1 H2 : Hp} (a : Dom H H1) (b : Dom H1 H2) : Dom H H2 := fun c h => a c (b c h)
theorem dom_upd (H : Hp) (a : Addr) (o : HO) : Dom H (upd H a o) := fun b h => by
  by_cases e : b = a
  · rw [e, upd_same] at h
    cases h
  · rw [upd_ne e] at h
    exact h
theorem Dom.upd {H H' : Hp} (k : Dom H H') (a : Addr) (o : HO) : Dom H (L2.upd H' a o) := k.trans (dom_upd _ _ _)
theorem Dom.of_keep {M : List Addr} {H H1 : Hp} (k : Keep M H H1) (h : ∀ m ∈ M, ∃ o, H1 m = some o) : Dom H H1 := fun _ n => fresh_of k h n
theorem Dom.of_same {H H1 : Hp} (k : Same H H1) : Dom H H1 := fun _ n => k.free n
/-- a plain if without an else, its rest once -/
theorem if_skip {c : Prop} [Decidable c] {t : L2.TS} {D : Ends} {σ : L2.St} {H : Hp} (Cd : Hp → Prop) (rest : ∀ H1, Cd H1 → D.nx σ H1) (h1 : c → (∀ H1, Cd H1 → D.nx σ H1) → t D σ H) (h2 : ¬ c → Cd H) :
    if c then t D σ H else tNext D σ H := by
  by_cases hc : c
  · rw [if_pos hc]
    exact h1 hc rest
  · rw [if_neg hc]
    exact rest H (h2 hc)
/-- a if c else b, its rest once -/
theorem ife_skip {c : Prop} [Decidable c] {ta tb : TE} {σ : L2.St} {H : Hp} {Q : VK} (R : V → Hp → Prop) (rest : ∀ v H1, R v H1 → Q v H1) (h1 : c → (∀ v H1, R v H1 → Q v H1) → ta σ H Q) (h2 : ¬ c → (∀ v H1, R v H1 → Q v H1) → tb σ H Q) :
    if c then ta σ H Q else tb σ H Q := by
  by_cases hc : c
  · rw [if_pos hc]
    exact h1 hc rest
  · rw [if_neg hc]
    exact h2 hc rest
theorem zip_len (ks : List Str) (vs : List V) : (ks.zip vs).length ≤ ks.length := by
  rw [List.length_zip]
  exact Nat.min_le_left _ _
theorem canLayAll_of {α : Type} {f : α → PyData} : ∀ {xs : List α}, (∀ x ∈ xs, (f x).canLay0 = true) → PyData.canLayAll0 (xs.map f) = true
  | [], _ => by simp [PyData.canLayAll0]
  | x :: r, h => by
    simp only [List.map_cons, PyData.canLayAll0, Bool.and_eq_true]
    exact ⟨h x (List.mem_cons_self ..), canLayAll_of fun y hy => h y (List.mem_cons_of_mem _ hy)⟩
theorem depthAll_of {α : Type} {f : α → PyData} {k : Nat} : ∀ {xs : List α}, (∀ x ∈ xs, (f x).depth ≤ k) → PyData.depthAll (xs.map f) ≤ k
  | [], _ => by simp [PyData.depthAll]
  | x :: r, h => by
    simp only [List.map_cons, PyData.depthAll]
    exact Nat.max_le.mpr ⟨h x (List.mem_cons_self ..), depthAll_of fun y hy => h y (List.mem_cons_of_mem _ hy)⟩
/-- data that can be compared: how deep -/
def Lay (k : Nat) (d : PyData) : Prop := d.canLay0 = true ∧ d.depth ≤ k
theorem Lay.shaped {k : Nat} {d : PyData} (h : Lay k d) (hk : k ≤ 64) : SeqAt.shaped d = true := by
  unfold SeqAt.shaped
  rw [Bool.and_eq_true]
  exact ⟨h.1, decide_eq_true (Nat.le_trans h.2 hk)⟩
theorem Lay.mono {j k : Nat} {d : PyData} (h : Lay j d) (hk : j ≤ k) : Lay k d := ⟨h.1, Nat.le_trans h.2 hk⟩
theorem Lay.int (i : Int) : Lay 0 (.int i) := ⟨by simp [PyData.canLay0], by simp [PyData.depth]⟩
theorem Lay.none : Lay 0 .none := ⟨by simp [PyData.canLay0], by simp [PyData.depth]⟩
theorem Lay.bool (b : Bool) : Lay 0 (.bool b) := ⟨by simp [PyData.canLay0], by simp [PyData.depth]⟩
theorem Lay.list {α : Type} {f : α → PyData} {k : Nat} {xs : List α} (h : ∀ x ∈ xs, Lay k (f x)) : Lay (k + 1) (.list (xs.map f)) := by
  refine ⟨?_, ?_⟩
  · rw [PyData.canLay0]
    exact canLayAll_of fun x hx => (h x hx).1
  · rw [PyData.depth]
    exact Nat.succ_le_succ (depthAll_of fun x hx => (h x hx).2)
theorem Lay.tuple {α : Type} {f : α → PyData} {k : Nat} {xs : List α} (h : ∀ x ∈ xs, Lay k (f x)) : Lay (k + 1) (.tuple (xs.map f)) := by
  refine ⟨?_, ?_⟩
  · rw [PyData.canLay0]
    exact canLayAll_of fun x hx => (h x hx).1
  · rw [PyData.depth]
    exact Nat.succ_le_succ (depthAll_of fun x hx => (h x hx).2)
theorem Lay.nil : Lay 1 (.list []) := Lay.list (f := PyData.int) (xs := []) (k := 0) (by simp)
theorem Lay.tl (t : List Int) : Lay 1 (tlD t) := Lay.tuple fun x _ => Lay.int x
theorem Lay.refl {k : Nat} {d : PyData} (h : Lay k d) : PyData.eqv d d = true := SeqAt.eqv_refl d h.1
theorem eqv_nil (ds : List PyData) : PyData.eqv (.list ds) (.list []) = ds.isEmpty := by
  cases ds with
  | nil => simp [PyData.eqv, PyData.eqvAll]
  | cons x r => simp [PyData.eqv, PyData.eqvAll]
theorem dpAll_ints {K : PySem.W.Frag} {H : Hp} (ns : List Int) : DpAll K H (ns.map V.int) (ns.map PyData.int) := (TDs.ints ns).dp
theorem fmod_nat (a b : Nat) : ((a : Nat) : Int).fmod ((b : Nat) : Int) = ((a % b : Nat) : Int) := by
  rw [Int.fmod_eq_emod_of_nonneg _ (by omega)]
  rfl
theorem fdiv_nat (a b : Nat) : ((a : Nat) : Int).fdiv ((b : Nat) : Int) = ((a / b : Nat) : Int) := by
  rw [Int.fdiv_eq_ediv_of_nonneg _ (by omega)]
  rfl
theorem cut_nat {xs : List V} {a b : Nat} (ha : a ≤ xs.length) (hb : b ≤ xs.length) : cutV xs (some ((a : Nat) : Int)) (some ((b : Nat) : Int)) = (xs.drop a).take (b - a) := by
  unfold cutV
  rw [HT.sIx_nat, HT.sIx_nat, Nat.min_eq_left ha, Nat.min_eq_left hb]
/-! ### rules within a comprehension: the written part is told -/
section
variable {X : Cx} {K : PySem.W.Frag}
theorem ix_listK (h : X.K = K) : IxR X (rIxL K) := h ▸ ix_list
theorem ix_tupK (h : X.K = K) : IxR X (rIxT K) := h ▸ ix_tup
theorem ix_seqK (h : X.K = K) : IxR X (rIx K) := h ▸ ix_seq
def rLenSq (K : PySem.W.Frag) : List V → Hp → VK → Prop := fun xs H Q => ∃ p ys, xs = [.ref p] ∧ (SqL K H p ys ∨ SqT K H p ys) ∧ Q (.int ys.length) H
theorem call_lenK (h : X.K = K) : CallR X (.builtin "len") (rLenSq K) := h ▸ call_len_seq
theorem op_eqDK (h : X.K = K) (hu : X.A.units + 64 < cLine) : OpR X (compareOp .Eq) (rEqD K) := h ▸ op_eqD hu
theorem op_neDK (h : X.K = K) (hu : X.A.units + 64 < cLine) : OpR X (compareOp .NotEq) (rNeD K) := h ▸ op_neD hu
theorem op_in_seqK (h : X.K = K) : OpR X (compareOp .In) (rIn K false) := h ▸ op_in_seq
theorem op_notIn_seqK (h : X.K = K) : OpR X (compareOp .NotIn) (rIn K true) := h ▸ op_notIn_seq
theorem sl_listK (h : X.K = K) : SlR X (rSlL K) := h ▸ sl_list
theorem sl_tupK (h : X.K = K) : SlR X (rSlT K) := h ▸ sl_tup
theorem call_isiK' (h : X.K = K) : CallR X (.builtin "isinstance") (rIsi K) := h ▸ call_isi
theorem pe_fldK {e : Expr} {f : Str} {pos : Pos} {ta : TE} (h : X.K = K) (he : PE X e ta) (hb : attributeBase e f X.env (eval e X.env) = eval e X.env) : PE X (.Attribute e f pos) (tFld K ta f) := h ▸ pe_fld he hb
theorem pe_bmK {o e : Expr} {es : List Expr} {to : TE} {t : TA} {name : Str} {apos cpos : Pos} {T id : String} {r : V → List V → Hp → VK → Prop} (hK : X.K = K)
    (pa : PlainAttrs T) (sl : Slot T name id) (ty : typeOf (.builtin id) = pure (.type "method_descriptor")) (m : MtR X id r) (po : PE X o to) (args : PA X (e :: es) t)
    (h1 : attributeBase o name X.env (eval o X.env) = eval o X.env := by rfl)
    (h2 : ((backTo cpos (starEach (e :: es) X.env)).all (fun x => !x.1) && (backToKw cpos (keywordEach [] X.env)).all (fun x => x.1.isSome) && decide ((e :: es).length + ([] : List Keyword).length + (if ([] : List Keyword).isEmpty then 0 else 1) < 30)) = true := by rfl)
    (h3 : (apos.endLine == cpos.line) = true := by rfl)
    (h4 : starEach (e :: es) X.env = (false, eval e X.env) :: starEach es X.env := by rfl)
    (h5 : (backTo cpos (starEach es X.env)).any (·.1) = false := by rfl) :
    PE X (.Call (.Attribute o name apos) (e :: es) [] cpos) (tBM K T r to t) := hK ▸ pe_bm pa sl ty m po args h1 h2 h3 h4 h5
theorem pg_tupK {es : List Expr} {k : Nat} {pos : Pos} {t : TGs} {n : Nat} (hK : X.K = K) (hc : X.calm = true) (h : PGs X es t) (hn : (assignEach es X.env).length = n := by rfl) (hst : (assignEach es X.env).findIdx? (·.1) = none := by rfl) :
    PG X (.Tuple es k pos) (gTup K n t) := hK ▸ pg_tup hc h hn hst
end
theorem le_line {n : Nat} (h : n ≤ 16000000) : n ≤ sizeLine := Nat.le_trans h (by decide)
theorem lt_line {n : Nat} (h : n < 16000000) : n < sizeLine := Nat.lt_of_lt_of_le h (by decide)
theorem bl_of {c : Prop} [Decidable c] {Q : V → Hp → Prop} {H : Hp} (hc : c) (h : Q (.bl true) H) : Q (.bl (decide c)) H := by
  rw [decide_eq_true hc]
  exact h
theorem dT {c : Prop} [Decidable c] (h : c) : V.bl (decide c) = V.bl true := by rw [decide_eq_true h]
theorem dF {c : Prop} [Decidable c] (h : ¬ c) : V.bl (decide c) = V.bl false := by rw [decide_eq_false h]
theorem ndT {c : Prop} [Decidable c] (h : ¬ c) : V.bl (!decide c) = V.bl true := by rw [decide_eq_false h]; rfl
theorem ndF {c : Prop} [Decidable c] (h : c) : V.bl (!decide c) = V.bl false := by rw [decide_eq_true h]; rfl
theorem map_get {α β : Type} {f : α → β} {xs : List α} {i : Nat} {y : β} (h : (xs.map f)[i]? = some y) : ∃ x, xs[i]? = some x ∧ y = f x := by
  rw [List.getElem?_map] at h
  cases e : xs[i]? with
  | none => rw [e] at h; cases h
  | some x => rw [e] at h; exact ⟨x, rfl, (Option.some.inj h).symm⟩
end Sky

/-! Tellings laid into frames: the numbers, the frames of them. -/
namespace Sky
open PySem PySem.Spec PyProof.Rows L2
def tellOk (t : List Int) : Prop := 1 ≤ t.length ∧ t.length ≤ 20 ∧ ∀ x ∈ t, 0 ≤ x ∧ x ≤ 255
/-- a frame: count, first, body -/
abbrev Frm := Nat × Option Nat × List Int
def inFr (z c s : Nat) : Bool := decide (c * z ≤ s) && decide (s < c * z + z)
def firstOf (z c : Nat) (S : List Nat) : Option Nat := ((S.filter (inFr z c)).map (· - c * z)).head?
def frm (z : Nat) (N : List Int) (S : List Nat) (c : Nat) : Frm := (c, firstOf z c S, (N.drop (c * z)).take z)
def frms (z : Nat) (N : List Int) (S : List Nat) : List Frm := (List.range (N.length / z)).map (frm z N S)
def frmD (st : Int) (f : Frm) : PyData := .tuple [.int st, .int f.1, optD f.2.1, tlD f.2.2]
def laidN (m : Int) (t : List Int) : List Int := (t.length : Int) :: m.fdiv 256 :: m.fmod 256 :: t
def lay1 (x : List Int × List Nat) (t : List Int) : List Int × List Nat := (x.1 ++ laidN (x.2.length : Int) t, x.2 ++ [x.1.length])
def layAll (ts : List (List Int)) : List Int × List Nat := ts.foldl lay1 ([], [])
def padN (z : Nat) (N : List Int) : List Int := if N.length % z = 0 then N else N ++ List.replicate (z - N.length % z) 0
theorem laidN_length (m : Int) (t : List Int) : (laidN m t).length = t.length + 3 := by simp [laidN]
theorem layAll_snoc (ts : List (List Int)) (t : List Int) : layAll (ts ++ [t]) = lay1 (layAll ts) t := by
  unfold layAll
  rw [List.foldl_append]
  rfl
theorem layAll_take {ts : List (List Int)} {i : Nat} {t : List Int} (h : ts[i]? = some t) : layAll (ts.take (i + 1)) = lay1 (layAll (ts.take i)) t := by
  rw [List.take_add_one, h]
  exact layAll_snoc _ _
/-- what holds of the numbers and the starts of such -/
structure Laid (N : List Int) (S : List Nat) : Prop where
  le : ∀ s ∈ S, s ≤ N.length
  asc : S.Pairwise (· ≤ ·)
theorem Laid.nil : Laid [] [] := ⟨by simp, by simp⟩
theorem Laid.start {N : List Int} {S : List Nat} (h : Laid N S) : Laid N (S ++ [N.length]) := by
  refine ⟨fun s hs => ?_, ?_⟩
  · rcases List.mem_append.mp hs with q | q
    · exact h.le s q
    · rw [List.mem_singleton.mp q]
      exact Nat.le_refl _
  · rw [List.pairwise_append]
    refine ⟨h.asc, by simp, fun a ha b hb => ?_⟩
    rw [List.mem_singleton.mp hb]
    exact h.le a ha
theorem Laid.more {N : List Int} {S : List Nat} (h : Laid N S) (xs : List Int) : Laid (N ++ xs) S := ⟨fun s hs => by
  rw [List.length_append]
  exact Nat.le_trans (h.le s hs) (Nat.le_add_right _ _), h.asc⟩
theorem Laid.lay1 {x : List Int × List Nat} (h : Laid x.1 x.2) (t : List Int) : Laid (lay1 x t).1 (lay1 x t).2 := (h.start).more _
theorem laid_all : ∀ ts : List (List Int), Laid (layAll ts).1 (layAll ts).2 := fun ts => by
  unfold layAll
  suffices h : ∀ (ts : List (List Int)) (x : List Int × List Nat), Laid x.1 x.2 → Laid (ts.foldl Sky.lay1 x).1 (ts.foldl Sky.lay1 x).2 from h ts _ Laid.nil
  intro ts
  induction ts with
  | nil => exact fun x h => h
  | cons t r ih => exact fun x h => ih _ (h.lay1 t)
theorem firstOf_app (z c : Nat) (S : List Nat) (n : Nat) : firstOf z c (S ++ [n]) = (firstOf z c S).or (if inFr z c n = true then some (n - c * z) else none) := by
  unfold firstOf
  rw [List.filter_append, List.map_append, List.head?_append]
  congr 1
  by_cases h : inFr z c n = true
  · rw [if_pos h, List.filter_cons_of_pos h]
    rfl
  · rw [if_neg h, List.filter_cons_of_neg h]
    rfl
theorem firstOf_none {z c : Nat} {S : List Nat} (h : ∀ s ∈ S, s < c * z) : firstOf z c S = none := by
  unfold firstOf
  have e : S.filter (inFr z c) = [] := by
    rw [List.filter_eq_nil_iff]
    intro s hs
    have := h s hs
    unfold inFr
    simp
    omega
  rw [e]
  rfl
theorem div_eq {z n c : Nat} (h1 : c * z ≤ n) (h2 : n < c * z + z) : n / z = c := by
  apply Nat.div_eq_of_lt_le h1
  rw [Nat.succ_mul]
  exact h2
theorem div_lo (z n : Nat) : n / z * z ≤ n := Nat.div_mul_le_self n z
theorem div_hi {z : Nat} (hz : 0 < z) (n : Nat) : n < n / z * z + z := by
  have := Nat.lt_div_mul_add hz (a := n)
  omega
theorem div_mod (z n : Nat) : n / z * z + n % z = n := by
  have := Nat.div_add_mod n z
  rw [Nat.mul_comm] at this
  exact this
/-- the frames that are full depend neither on later numbers nor on later starts -/
theorem frm_more {z c : Nat} {N xs : List Int} {S : List Nat} (h : c * z + z ≤ N.length) : frm z (N ++ xs) S c = frm z N S c := by
  unfold frm
  rw [List.drop_append_of_le_length (by omega), List.take_append_of_le_length (by rw [List.length_drop]; omega)]
theorem frm_start {z c : Nat} {N : List Int} {S : List Nat} {n : Nat} (h : c * z + z ≤ n) : frm z N (S ++ [n]) c = frm z N S c := by
  unfold frm
  rw [firstOf_app, if_neg, Option.or_none]
  unfold inFr
  simp
  omega
theorem frms_start (z : Nat) (N : List Int) (S : List Nat) : frms z N (S ++ [N.length]) = frms z N S := by
  unfold frms
  refine List.map_congr_left fun c hc => ?_
  have h1 : c < N.length / z := List.mem_range.mp hc
  refine frm_start ?_
  have := Nat.mul_le_mul_right z (show c + 1 ≤ N.length / z from h1)
  rw [Nat.succ_mul] at this
  have := div_lo z N.length
  omega
theorem frms_low {z : Nat} {N xs : List Int} {S : List Nat} : (List.range (N.length / z)).map (frm z (N ++ xs) S) = frms z N S := by
  unfold frms
  refine List.map_congr_left fun c hc => frm_more ?_
  have h1 : c < N.length / z := List.mem_range.mp hc
  have := Nat.mul_le_mul_right z (show c + 1 ≤ N.length / z from h1)
  rw [Nat.succ_mul] at this
  have := div_lo z N.length
  omega
theorem frms_same {z : Nat} (hz : 0 < z) {N xs : List Int} {S : List Nat} (h : N.length + xs.length < N.length / z * z + z) : frms z (N ++ xs) S = frms z N S := by
  have e : (N ++ xs).length / z = N.length / z := by
    rw [List.length_append]
    refine div_eq ?_ h
    have := div_lo z N.length
    omega
  unfold frms
  rw [e]
  exact frms_low
/-- some numbers that just fill the frame -/
theorem frms_full {z : Nat} (hz : 0 < z) {N xs : List Int} {S : List Nat} (h : N.length + xs.length = N.length / z * z + z) :
    frms z (N ++ xs) S = frms z N S ++ [(N.length / z, firstOf z (N.length / z) S, N.drop (N.length / z * z) ++ xs)] := by
  have e : (N ++ xs).length / z = N.length / z + 1 := by
    rw [List.length_append, h]
    refine div_eq ?_ ?_ <;> rw [Nat.succ_mul] <;> omega
  have := div_lo z N.length
  show (List.range ((N ++ xs).length / z)).map (frm z (N ++ xs) S) = _
  rw [e, List.range_succ, List.map_append, frms_low]
  congr 1
  show [frm z (N ++ xs) S (N.length / z)] = _
  unfold frm
  rw [List.drop_append_of_le_length this, List.take_of_length_le]
  rw [List.length_append, List.length_drop]
  omega
theorem frms_pad {z : Nat} (hz : 0 < z) {N : List Int} {S : List Nat} (h : N.length % z ≠ 0) :
    frms z (padN z N) S = frms z N S ++ [(N.length / z, firstOf z (N.length / z) S, N.drop (N.length / z * z) ++ List.replicate (z - N.length % z) 0)] := by
  unfold padN
  rw [if_neg h]
  refine frms_full hz ?_
  rw [List.length_replicate]
  have := div_mod z N.length
  have := Nat.mod_lt N.length hz
  omega
theorem frms_pad0 {z : Nat} {N : List Int} {S : List Nat} (h : N.length % z = 0) : frms z (padN z N) S = frms z N S := by
  unfold padN
  rw [if_pos h]
theorem body_length (z : Nat) (N : List Int) : (N.drop (N.length / z * z)).length = N.length % z := by
  rw [List.length_drop]
  have := div_mod z N.length
  omega
theorem step_full {z : Nat} (hz : 0 < z) {N : List Int} {x : Int} (h : N.length % z + 1 = z) :
    N.length + 1 = N.length / z * z + z ∧ (N ++ [x]).length / z = N.length / z + 1 ∧ (N ++ [x]).drop ((N.length / z + 1) * z) = [] := by
  have h1 := div_mod z N.length
  have h2 : N.length + 1 = N.length / z * z + z := by omega
  refine ⟨h2, ?_, ?_⟩
  · rw [List.length_append, List.length_singleton, h2]
    refine div_eq ?_ ?_ <;> rw [Nat.succ_mul] <;> omega
  · apply List.drop_eq_nil_of_le
    rw [List.length_append, List.length_singleton, h2, Nat.succ_mul]
    exact Nat.le_refl _
theorem step_not {z : Nat} (hz : 0 < z) {N : List Int} {x : Int} (h : N.length % z + 1 ≠ z) :
    N.length + 1 < N.length / z * z + z ∧ (N ++ [x]).length / z = N.length / z ∧ (N ++ [x]).drop (N.length / z * z) = N.drop (N.length / z * z) ++ [x] := by
  have h1 := div_mod z N.length
  have h3 := Nat.mod_lt N.length hz
  have h2 : N.length + 1 < N.length / z * z + z := by omega
  refine ⟨h2, ?_, ?_⟩
  · rw [List.length_append, List.length_singleton]
    exact div_eq (by omega) h2
  · exact List.drop_append_of_le_length (by omega)
theorem first_start {z : Nat} (hz : 0 < z) (N : List Int) (S : List Nat) : firstOf z (N.length / z) (S ++ [N.length]) = (firstOf z (N.length / z) S).or (some (N.length % z)) := by
  have h1 := div_mod z N.length
  have h2 := div_hi hz N.length
  rw [firstOf_app, if_pos (by unfold inFr; simp; omega)]
  congr 2
  omega
theorem frms_length (z : Nat) (N : List Int) (S : List Nat) : (frms z N S).length = N.length / z := by simp [frms]
theorem frms_lay {z : Nat} (x : List Int × List Nat) (t : List Int) :
    frms z x.1 x.2 ++ (frms z (lay1 x t).1 (lay1 x t).2).drop (x.1.length / z) = frms z (lay1 x t).1 (lay1 x t).2 := by
  have e : (frms z (lay1 x t).1 (lay1 x t).2).take (x.1.length / z) = frms z x.1 x.2 := by
    have h : x.1.length / z ≤ (lay1 x t).1.length / z := Nat.div_le_div_right (by unfold lay1; rw [List.length_append]; exact Nat.le_add_right _ _)
    unfold frms
    rw [← List.map_take, List.take_range, Nat.min_eq_left h]
    show (List.range (x.1.length / z)).map (frm z (x.1 ++ laidN (x.2.length : Int) t) (x.2 ++ [x.1.length])) = _
    rw [frms_low, frms_start]
    rfl
  rw [← e]
  exact List.take_append_drop _ _
theorem layAll_le : ∀ (ts : List (List Int)), (∀ t ∈ ts, t.length ≤ 20) → (layAll ts).1.length ≤ 23 * ts.length := by
  intro ts h
  unfold layAll
  suffices g : ∀ (ts : List (List Int)) (x : List Int × List Nat), (∀ t ∈ ts, t.length ≤ 20) → (ts.foldl lay1 x).1.length ≤ x.1.length + 23 * ts.length by
    have := g ts ([], []) h
    simpa using this
  intro ts
  induction ts with
  | nil => intro x _; exact Nat.le_refl _
  | cons t r ih =>
    intro x hx
    have h1 := ih (lay1 x t) fun u hu => hx u (List.mem_cons_of_mem _ hu)
    have h2 := hx t (List.mem_cons_self ..)
    have h3 : (lay1 x t).1.length = x.1.length + (t.length + 3) := by unfold lay1; rw [List.length_append, laidN_length]
    rw [List.foldl_cons, List.length_cons]
    omega
theorem layAll_len : ∀ (ts : List (List Int)), (layAll ts).2.length = ts.length := by
  intro ts
  unfold layAll
  suffices g : ∀ (ts : List (List Int)) (x : List Int × List Nat), (ts.foldl lay1 x).2.length = x.2.length + ts.length by
    have := g ts ([], [])
    simpa using this
  intro ts
  induction ts with
  | nil => intro x; rfl
  | cons t r ih =>
    intro x
    rw [List.foldl_cons, ih, List.length_cons]
    unfold lay1
    rw [List.length_append, List.length_singleton]
    omega
/-- the first of ascending ones is the least -/
theorem head_least : ∀ {ns : List Nat} {m : Nat}, ns.Pairwise (· ≤ ·) → m ∈ ns → (∀ y ∈ ns, m ≤ y) → ns.head? = some m
  | x :: r, m, p, hm, hl => by
    have h1 : m ≤ x := hl x (List.mem_cons_self ..)
    have h2 : x ≤ m := by
      rcases List.mem_cons.mp hm with e | e
      · exact Nat.le_of_eq e.symm
      · exact (List.pairwise_cons.mp p).1 m e
    show some x = some m
    rw [Nat.le_antisymm h2 h1]
theorem firstOf_least {z c : Nat} {S : List Nat} {m : Nat} (p : S.Pairwise (· ≤ ·)) (hm : m ∈ (S.filter (inFr z c)).map (· - c * z)) (hl : ∀ y ∈ (S.filter (inFr z c)).map (· - c * z), m ≤ y) : firstOf z c S = some m := by
  refine head_least ?_ hm hl
  refine List.Pairwise.map _ (fun a b h => ?_) (p.filter _)
  show a - c * z ≤ b - c * z
  exact Nat.sub_le_sub_right h _
end Sky

/-! What is read from frames: tellings by their starts, the places in a frame at which some begin, the rows. -/
namespace Sky
open PySem PySem.Spec PyProof.Rows L2
/-- numbers N in which tellings begin at places, one behind the other or behind a filled-up frame -/
structure Lays (z : Nat) (N : List Int) (L : List (Nat × List Int)) : Prop where
  item : ∀ j a t, L[j]? = some (a, t) → a + (t.length + 3) ≤ N.length ∧ (N.drop a).take (t.length + 3) = laidN (j : Nat) t ∧ tellOk t
  next : ∀ j a t a' t', L[j]? = some (a, t) → L[j + 1]? = some (a', t') → a' = a + (t.length + 3) ∨ (N[a + (t.length + 3)]? = some 0 ∧ (a + (t.length + 3)) / z * z + z ≤ a')
  last : ∀ j a t, L[j]? = some (a, t) → L[j + 1]? = none → a + (t.length + 3) = N.length ∨ (N[a + (t.length + 3)]? = some 0 ∧ (a + (t.length + 3)) / z * z + z ≤ N.length)
  laid : Laid N (L.map (·.1))
  nums : ∀ x ∈ N, 0 ≤ x ∧ x ≤ 255
theorem Lays.nil (z : Nat) : Lays z [] [] := ⟨by simp, by simp, by simp, Laid.nil, by simp⟩
theorem Lays.lay {z : Nat} {N : List Int} {L : List (Nat × List Int)} {t : List Int} (h : Lays z N L) (ok : tellOk t) (few : L.length < 65536) : Lays z (N ++ laidN (L.length : Nat) t) (L ++ [(N.length, t)]) := by
  have hll : (laidN (L.length : Nat) t).length = t.length + 3 := laidN_length _ _
  refine ⟨fun j a u e => ?_, fun j a u a' u' e e' => ?_, fun j a u e e' => ?_, ?_, fun x hx => ?_⟩
  · by_cases hj : j < L.length
    · rw [List.getElem?_append_left hj] at e
      obtain ⟨h1, h2, h3⟩ := h.item j a u e
      refine ⟨by rw [List.length_append]; omega, ?_, h3⟩
      rw [List.drop_append_of_le_length (by omega), List.take_append_of_le_length (by rw [List.length_drop]; omega)]
      exact h2
    · have hj' : j = L.length := by
        have := (List.getElem?_eq_some_iff.mp e).1
        rw [List.length_append, List.length_singleton] at this
        omega
      subst hj'
      rw [List.getElem?_append_right (Nat.le_refl _), Nat.sub_self] at e
      have e2 : (N.length, t) = (a, u) := Option.some.inj e
      injection e2 with e3 e4
      subst e3 e4
      refine ⟨by rw [List.length_append, hll]; omega, ?_, ok⟩
      rw [List.drop_append_of_le_length (Nat.le_refl _), List.drop_length, List.nil_append, List.take_of_length_le (by omega)]
  · by_cases hj : j + 1 < L.length
    · rw [List.getElem?_append_left (by omega)] at e
      rw [List.getElem?_append_left hj] at e'
      rcases h.next j a u a' u' e e' with q | ⟨q, r⟩
      · exact .inl q
      · refine .inr ⟨?_, r⟩
        rw [List.getElem?_append_left (List.getElem?_eq_some_iff.mp q).1]
        exact q
    · have hj' : j + 1 = L.length := by
        have := (List.getElem?_eq_some_iff.mp e').1
        rw [List.length_append, List.length_singleton] at this
        omega
      rw [List.getElem?_append_left (by omega)] at e
      rw [hj', List.getElem?_append_right (Nat.le_refl _), Nat.sub_self] at e'
      have e2 : (N.length, t) = (a', u') := Option.some.inj e'
      injection e2 with e3 e4
      subst e3
      rcases h.last j a u e (List.getElem?_eq_none (by omega)) with q | ⟨q, r⟩
      · exact .inl q.symm
      · refine .inr ⟨?_, r⟩
        rw [List.getElem?_append_left (List.getElem?_eq_some_iff.mp q).1]
        exact q
  · have hj' : j = L.length := by
      have h1 := (List.getElem?_eq_some_iff.mp e).1
      have h2 := List.getElem?_eq_none_iff.mp e'
      rw [List.length_append, List.length_singleton] at h1 h2
      omega
    subst hj'
    rw [List.getElem?_append_right (Nat.le_refl _), Nat.sub_self] at e
    have e2 : (N.length, t) = (a, u) := Option.some.inj e
    injection e2 with e3 e4
    subst e3 e4
    left
    rw [List.length_append, hll]
  · rw [List.map_append]
    exact h.laid.start.more _
  · rcases List.mem_append.mp hx with q | q
    · exact h.nums x q
    · unfold laidN at q
      simp only [List.mem_cons] at q
      have h1 := ok.1
      have h2 := ok.2.1
      rcases q with e | e | e | e
      · omega
      · rw [e, Int.fdiv_eq_ediv_of_nonneg _ (by omega)]
        omega
      · rw [e, Int.fmod_eq_emod_of_nonneg _ (by omega)]
        omega
      · exact ok.2.2 x e
theorem padN_length {z : Nat} (hz : 0 < z) (N : List Int) : (padN z N).length = if N.length % z = 0 then N.length else N.length / z * z + z := by
  unfold padN
  have := div_mod z N.length
  have := Nat.mod_lt N.length hz
  split
  · rfl
  · rw [List.length_append, List.length_replicate]
    omega
theorem Lays.pad {z : Nat} {N : List Int} {L : List (Nat × List Int)} (hz : 0 < z) (h : Lays z N L) : Lays z (padN z N) L := by
  by_cases h0 : N.length % z = 0
  · unfold padN
    rw [if_pos h0]
    exact h
  · have hp : padN z N = N ++ List.replicate (z - N.length % z) 0 := by unfold padN; rw [if_neg h0]
    have hl : (padN z N).length = N.length / z * z + z := by rw [padN_length hz, if_neg h0]
    have hm := div_mod z N.length
    have hmz := Nat.mod_lt N.length hz
    refine ⟨fun j a t e => ?_, fun j a t a' t' e e' => ?_, fun j a t e e' => ?_, ?_, fun x hx => ?_⟩
    · obtain ⟨h1, h2, h3⟩ := h.item j a t e
      refine ⟨by omega, ?_, h3⟩
      rw [hp, List.drop_append_of_le_length (by omega), List.take_append_of_le_length (by rw [List.length_drop]; omega)]
      exact h2
    · rcases h.next j a t a' t' e e' with q | ⟨q, r⟩
      · exact .inl q
      · refine .inr ⟨?_, r⟩
        rw [hp, List.getElem?_append_left (List.getElem?_eq_some_iff.mp q).1]
        exact q
    · right
      rcases h.last j a t e e' with q | ⟨q, r⟩
      · rw [q]
        refine ⟨?_, by omega⟩
        rw [hp, List.getElem?_append_right (Nat.le_refl _), Nat.sub_self]
        rw [List.getElem?_replicate, if_pos (by omega)]
      · refine ⟨?_, by omega⟩
        rw [hp, List.getElem?_append_left (List.getElem?_eq_some_iff.mp q).1]
        exact q
    · rw [hp]
      exact h.laid.more _
    · rw [hp] at hx
      rcases List.mem_append.mp hx with q | q
      · exact h.nums x q
      · rw [List.eq_of_mem_replicate q]
        decide
theorem Lays.at {z : Nat} {N : List Int} {L : List (Nat × List Int)} (h : Lays z N L) {j a : Nat} {t : List Int} (e : L[j]? = some (a, t)) : N[a]? = some (t.length : Int) := by
  obtain ⟨h1, h2, h3⟩ := h.item j a t e
  have e1 : ((N.drop a).take (t.length + 3))[0]? = (laidN (j : Nat) t)[0]? := by rw [h2]
  rw [List.getElem?_take_of_lt (by omega), List.getElem?_drop, Nat.add_zero] at e1
  exact e1
theorem Lays.S_at {z : Nat} {N : List Int} {L : List (Nat × List Int)} (h : Lays z N L) {i j : Nat} {x y : Nat} (hij : i ≤ j) (e : (L.map (·.1))[i]? = some x) (e' : (L.map (·.1))[j]? = some y) : x ≤ y := by
  rcases Nat.lt_or_eq_of_le hij with q | q
  · have hi := (List.getElem?_eq_some_iff.mp e)
    have hj := (List.getElem?_eq_some_iff.mp e')
    obtain ⟨hi1, hi2⟩ := hi
    obtain ⟨hj1, hj2⟩ := hj
    rw [← hi2, ← hj2]
    exact List.pairwise_iff_getElem.mp h.laid.asc i j hi1 hj1 q
  · subst q
    rw [e] at e'
    cases e'
    exact Nat.le_refl _
theorem Lays.lt {z : Nat} {N : List Int} {L : List (Nat × List Int)} (h : Lays z N L) {j a a' : Nat} {t t' : List Int} (e : L[j]? = some (a, t)) (e' : L[j + 1]? = some (a', t')) : a < a' := by
  rcases h.next j a t a' t' e e' with q | ⟨_, q⟩
  · omega
  · have h1 := (h.item j a t e).1
    rcases Nat.eq_zero_or_pos z with hz | hz
    · subst hz
      have h2 : a ≤ a' := h.S_at (Nat.le_succ j) (by rw [List.getElem?_map, e]; rfl) (by rw [List.getElem?_map, e']; rfl)
      rcases Nat.lt_or_eq_of_le h2 with r | r
      · exact r
      · exfalso
        subst r
        have h3 := (h.item (j + 1) a t' e')
        have h4 := (h.item j a t e)
        have e1 : (laidN ((j : Nat) : Int) t)[0]? = (laidN ((j + 1 : Nat) : Int) t')[0]? := by
          rw [← h4.2.1, ← h3.2.1, List.getElem?_take_of_lt (by omega), List.getElem?_take_of_lt (by omega)]
        have e2 : (t.length : Int) = t'.length := Option.some.inj e1
        have e3 : laidN ((j : Nat) : Int) t = laidN ((j + 1 : Nat) : Int) t' := by
          rw [← h4.2.1, ← h3.2.1, show t.length = t'.length by omega]
        unfold laidN at e3
        injection e3 with _ e3
        injection e3 with e4 e3
        injection e3 with e5 e3
        rw [Int.fdiv_eq_ediv_of_nonneg _ (by omega), Int.fdiv_eq_ediv_of_nonneg _ (by omega)] at e4
        rw [Int.fmod_eq_emod_of_nonneg _ (by omega), Int.fmod_eq_emod_of_nonneg _ (by omega)] at e5
        omega
    · have h2 := div_hi hz (a + (t.length + 3))
      omega
theorem Lays.rise {z : Nat} {N : List Int} {L : List (Nat × List Int)} (h : Lays z N L) {j a : Nat} {t : List Int} (e : L[j]? = some (a, t)) : ∀ (k : Nat) (a' : Nat) (t' : List Int), L[j + 1 + k]? = some (a', t') → a < a'
  | 0, a', t', e' => h.lt e e'
  | k + 1, a', t', e' => by
    have hl := (List.getElem?_eq_some_iff.mp e').1
    have e1 : L[j + 1 + k]? = some (L[j + 1 + k]'(by omega)) := List.getElem?_eq_getElem (by omega)
    have h1 := h.rise e k _ _ e1
    have h2 := h.lt e1 e'
    omega
/-- no two begin at one place -/
theorem Lays.one {z : Nat} {N : List Int} {L : List (Nat × List Int)} (h : Lays z N L) {i j a : Nat} {t t' : List Int} (e : L[i]? = some (a, t)) (e' : L[j]? = some (a, t')) : i = j := by
  rcases Nat.lt_trichotomy i j with q | q | q
  · have := h.rise e (j - (i + 1)) a t' (by rw [show i + 1 + (j - (i + 1)) = j by omega]; exact e')
    omega
  · exact q
  · have := h.rise e' (i - (j + 1)) a t (by rw [show j + 1 + (i - (j + 1)) = i by omega]; exact e)
    omega
/-- from a start to the next one, within a frame -/
theorem Lays.step {z : Nat} {N : List Int} {L : List (Nat × List Int)} (h : Lays z N L) {c p j a : Nat} {t : List Int} (hz : 0 < z) (hc : c * z + z ≤ N.length) (e : L[j]? = some (a, t)) (ea : a = c * z + p) (hp : p < z) :
    (∃ a' t', L[j + 1]? = some (a', t') ∧ a' = c * z + (p + (3 + t.length))) ∨
    ((∀ i, j + 1 ≤ i → ∀ x, (L.map (·.1))[i]? = some x → c * z + z ≤ x) ∧ (z ≤ p + (3 + t.length) ∨ N[c * z + (p + (3 + t.length))]? = some 0)) := by
  have ee : a + (t.length + 3) = c * z + (p + (3 + t.length)) := by omega
  cases e1 : L[j + 1]? with
  | some x =>
    obtain ⟨a', t'⟩ := x
    rcases h.next j a t a' t' e e1 with q | ⟨q, r⟩
    · exact .inl ⟨a', t', rfl, by omega⟩
    · rw [ee] at q r
      refine .inr ⟨fun i hi x hx => ?_, ?_⟩
      · have h1 : a' ≤ x := h.S_at hi (by rw [List.getElem?_map, e1]; rfl) hx
        have h2 := div_lo z (c * z + (p + (3 + t.length)))
        have h3 := div_hi hz (c * z + (p + (3 + t.length)))
        by_cases h4 : p + (3 + t.length) < z
        · have : (c * z + (p + (3 + t.length))) / z = c := div_eq (by omega) (by omega)
          rw [this] at r
          omega
        · omega
      · exact .inr q
  | none =>
    refine .inr ⟨fun i hi x hx => ?_, ?_⟩
    · have h1 := (List.getElem?_eq_some_iff.mp hx).1
      have h2 := List.getElem?_eq_none_iff.mp e1
      rw [List.length_map] at h1
      omega
    · rcases h.last j a t e e1 with q | ⟨q, r⟩
      · rw [ee] at q
        exact .inl (by omega)
      · rw [ee] at q
        exact .inr q
theorem filter_take_all {p : Nat → Bool} : ∀ {S : List Nat} {j : Nat}, (∀ i, j ≤ i → ∀ x, S[i]? = some x → p x = false) → (S.take j).filter p = S.filter p
  | [], _, _ => by simp
  | x :: r, 0, h => by
    rw [List.take_zero, List.filter_nil]
    symm
    rw [List.filter_eq_nil_iff]
    intro y hy
    obtain ⟨i, hi, e⟩ := List.getElem_of_mem hy
    rw [h i (Nat.zero_le _) y (by rw [← e]; exact List.getElem?_eq_getElem hi)]
    simp
  | x :: r, j + 1, h => by
    have ih := filter_take_all (p := p) (S := r) (j := j) fun i hi y hy => h (i + 1) (by omega) y (by simpa using hy)
    rw [List.take_succ_cons, List.filter_cons, List.filter_cons, ih]
theorem filter_head {p : Nat → Bool} : ∀ {S : List Nat} {y : Nat}, (S.filter p).head? = some y → ∃ j, S[j]? = some y ∧ (S.take j).filter p = []
  | [], _, h => by simp at h
  | x :: r, y, h => by
    by_cases hp : p x = true
    · rw [List.filter_cons_of_pos hp] at h
      exact ⟨0, h, rfl⟩
    · rw [List.filter_cons_of_neg hp] at h
      obtain ⟨j, h1, h2⟩ := filter_head h
      refine ⟨j + 1, by simpa using h1, ?_⟩
      rw [List.take_succ_cons, List.filter_cons_of_neg hp]
      exact h2
theorem first_at {z c : Nat} {S : List Nat} {x : Nat} (h : firstOf z c S = some x) : ∃ j, S[j]? = some (c * z + x) ∧ (S.take j).filter (inFr z c) = [] ∧ x < z := by
  unfold firstOf at h
  rw [List.head?_map] at h
  cases e : (S.filter (inFr z c)).head? with
  | none => rw [e] at h; cases h
  | some y =>
    rw [e] at h
    have ex : y - c * z = x := Option.some.inj h
    obtain ⟨j, h1, h2⟩ := filter_head e
    have hm : y ∈ S.filter (inFr z c) := List.mem_of_head? e
    have hp := (List.mem_filter.mp hm).2
    unfold inFr at hp
    simp at hp
    exact ⟨j, by rw [h1, ← ex]; congr 1; omega, h2, by omega⟩
theorem first_no {z c : Nat} {S : List Nat} (h : firstOf z c S = none) : S.filter (inFr z c) = [] := by
  unfold firstOf at h
  rw [List.head?_map] at h
  cases e : S.filter (inFr z c) with
  | nil => rfl
  | cons x r => rw [e] at h; cases h
/-- which numbers of a telling lie in frames that there are -/
def covers (z : Nat) (cs : List Nat) (a n : Nat) : Bool := (List.range n).all fun k => decide ((a + k) / z ∈ cs)
def toldJ (z : Nat) (L : List (Nat × List Int)) (cs : List Nat) (j : Nat) : Bool := match L[j]? with
  | some x => covers z cs x.1 (x.2.length + 3)
  | none => false
def toldL (z : Nat) (L : List (Nat × List Int)) (cs : List Nat) : List Nat := (List.range L.length).filter (toldJ z L cs)
def gapD (lo hi : Nat) : PyData := .tuple [.str "gap", .int lo, .int hi]
def toldD (j : Nat) (t : List Int) : PyData := .tuple [.str "told", .int j, tlD t]
def textOf (L : List (Nat × List Int)) (j : Nat) : List Int := match L[j]? with
  | some x => x.2
  | none => []
def rowsD (L : List (Nat × List Int)) : Nat → List Nat → List PyData
  | _, [] => []
  | lo, j :: r => (if lo < j then [gapD lo (j - 1)] else []) ++ (toldD j (textOf L j) :: rowsD L (j + 1) r)
theorem rowsD_snoc (L : List (Nat × List Int)) : ∀ (js : List Nat) (lo j : Nat), rowsD L lo (js ++ [j]) = rowsD L lo js ++ rowsD L (js.foldl (fun _ x => x + 1) lo) [j]
  | [], lo, j => rfl
  | x :: r, lo, j => by
    rw [List.cons_append]
    show (if lo < x then [gapD lo (x - 1)] else []) ++ (toldD x (textOf L x) :: rowsD L (x + 1) (r ++ [j])) = _
    rw [rowsD_snoc L r (x + 1) j]
    show _ = ((if lo < x then [gapD lo (x - 1)] else []) ++ (toldD x (textOf L x) :: rowsD L (x + 1) r)) ++ _
    rw [List.append_assoc]
    rfl
theorem lo_snoc (js : List Nat) (lo j : Nat) : (js ++ [j]).foldl (fun _ x => x + 1) lo = j + 1 := by rw [List.foldl_append]; rfl
theorem covers_iff {z a n : Nat} {cs : List Nat} : covers z cs a n = true ↔ ∀ k, k < n → (a + k) / z ∈ cs := by
  unfold covers
  rw [List.all_eq_true]
  exact ⟨fun h k hk => of_decide_eq_true (h k (List.mem_range.mpr hk)), fun h k hk => decide_eq_true (h k (List.mem_range.mp hk))⟩
/-- by the frames from the first to the last of them -/
theorem covers_range {z a n : Nat} {cs : List Nat} (hz : 0 < z) (hn : 0 < n) : covers z cs a n = true ↔ ∀ c, a / z ≤ c → c ≤ (a + (n - 1)) / z → c ∈ cs := by
  rw [covers_iff]
  refine ⟨fun h c h1 h2 => ?_, fun h k hk => h _ (Nat.div_le_div_right (by omega)) (Nat.div_le_div_right (by omega))⟩
  by_cases h3 : c * z ≤ a
  · have e : a / z = c := by
      have := (Nat.le_div_iff_mul_le hz).mpr h3
      omega
    have := h 0 hn
    rw [Nat.add_zero, e] at this
    exact this
  · have h4 : c * z ≤ a + (n - 1) := (Nat.le_div_iff_mul_le hz).mp h2
    have := h (c * z - a) (by omega)
    rw [show a + (c * z - a) = c * z by omega, Nat.mul_div_cancel _ hz] at this
    exact this
/-- two rising lists without equal ones that hold the same are one -/
theorem rising_same : ∀ {xs ys : List Int}, xs.Pairwise (· < ·) → ys.Pairwise (· < ·) → (∀ x, x ∈ xs ↔ x ∈ ys) → xs = ys
  | [], [], _, _, _ => rfl
  | [], y :: r, _, _, h => absurd ((h y).mpr (List.mem_cons_self ..)) (by simp)
  | x :: r, [], _, _, h => absurd ((h x).mp (List.mem_cons_self ..)) (by simp)
  | x :: xs, y :: ys, hx, hy, h => by
    have hx' := List.pairwise_cons.mp hx
    have hy' := List.pairwise_cons.mp hy
    have e : x = y := by
      rcases List.mem_cons.mp ((h x).mp (List.mem_cons_self ..)) with q | q
      · exact q
      · rcases List.mem_cons.mp ((h y).mpr (List.mem_cons_self ..)) with q' | q'
        · exact q'.symm
        · have := hy'.1 x q
          have := hx'.1 y q'
          omega
    subst e
    congr 1
    refine rising_same hx'.2 hy'.2 fun u => ⟨fun hu => ?_, fun hu => ?_⟩
    · rcases List.mem_cons.mp ((h u).mp (List.mem_cons_of_mem _ hu)) with q | q
      · have := hx'.1 u hu
        omega
      · exact q
    · rcases List.mem_cons.mp ((h u).mpr (List.mem_cons_of_mem _ hu)) with q | q
      · have := hy'.1 u hu
        omega
      · exact q
/-- all of a list of tellings -/
def lays1 (x : List Int × List (Nat × List Int)) (t : List Int) : List Int × List (Nat × List Int) := (x.1 ++ laidN (x.2.length : Nat) t, x.2 ++ [(x.1.length, t)])
def laysAll (ts : List (List Int)) : List Int × List (Nat × List Int) := ts.foldl lays1 ([], [])
theorem laysAll_take {ts : List (List Int)} {i : Nat} {t : List Int} (h : ts[i]? = some t) : laysAll (ts.take (i + 1)) = lays1 (laysAll (ts.take i)) t := by
  rw [List.take_add_one, h]
  show laysAll (ts.take i ++ [t]) = _
  unfold laysAll
  rw [List.foldl_append]
  rfl
theorem laysAll_lay (ts : List (List Int)) : layAll ts = ((laysAll ts).1, (laysAll ts).2.map (·.1)) := by
  unfold layAll laysAll
  suffices g : ∀ (ts : List (List Int)) (x : List Int × List (Nat × List Int)), ts.foldl lay1 (x.1, x.2.map (·.1)) = ((ts.foldl lays1 x).1, (ts.foldl lays1 x).2.map (·.1)) from g ts ([], [])
  intro ts
  induction ts with
  | nil => intro x; rfl
  | cons t r ih =>
    intro x
    rw [List.foldl_cons, List.foldl_cons, ← ih]
    congr 1
    unfold lay1 lays1
    rw [List.map_append, List.length_map]
    rfl
theorem laysAll_texts (ts : List (List Int)) : (laysAll ts).2.map (·.2) = ts := by
  unfold laysAll
  suffices g : ∀ (ts : List (List Int)) (x : List Int × List (Nat × List Int)), (ts.foldl lays1 x).2.map (·.2) = x.2.map (·.2) ++ ts from g ts ([], [])
  intro ts
  induction ts with
  | nil => intro x; simp
  | cons t r ih =>
    intro x
    rw [List.foldl_cons, ih]
    unfold lays1
    rw [List.map_append, List.append_assoc]
    rfl
theorem laysAll_len (ts : List (List Int)) : (laysAll ts).2.length = ts.length := by
  have := congrArg List.length (laysAll_texts ts)
  rw [List.length_map] at this
  exact this
theorem laysAll_ok {z : Nat} {ts : List (List Int)} (ok : ∀ t ∈ ts, tellOk t) (few : ts.length ≤ 65536) : Lays z (laysAll ts).1 (laysAll ts).2 := by
  suffices g : ∀ i, i ≤ ts.length → Lays z (laysAll (ts.take i)).1 (laysAll (ts.take i)).2 by
    have := g ts.length (Nat.le_refl _)
    rw [List.take_length] at this
    exact this
  intro i
  induction i with
  | zero => intro _; rw [List.take_zero]; exact Lays.nil z
  | succ i ih =>
    intro hi
    have ht : ts[i]? = some ts[i] := List.getElem?_eq_getElem (by omega)
    rw [laysAll_take ht]
    exact (ih (by omega)).lay (ok _ (List.getElem_mem _)) (by rw [laysAll_len, List.length_take]; omega)
theorem rows_len' (L : List (Nat × List Int)) : ∀ (js : List Nat) (lo : Nat), (rowsD L lo js).length ≤ 2 * js.length
  | [], _ => Nat.le_refl _
  | j :: r, lo => by
    have ih := rows_len' L r (j + 1)
    show ((if lo < j then [gapD lo (j - 1)] else []) ++ (toldD j (textOf L j) :: rowsD L (j + 1) r)).length ≤ _
    rw [List.length_append, List.length_cons, List.length_cons]
    split
    · rw [List.length_singleton]; omega
    · rw [List.length_nil]; omega
/-! ### rows as data -/
def isTold : PyData → Bool
  | .tuple (.str x :: _) => decide (x = ("told" : Str))
  | _ => false
theorem gap_told : ¬ (("gap" : Str) = "told") := by decide +kernel
theorem isTold_told (j : Nat) (t : List Int) : isTold (toldD j t) = true := by
  show decide (("told" : Str) = "told") = true
  exact decide_eq_true rfl
theorem isTold_gap (lo hi : Nat) : isTold (gapD lo hi) = false := by
  show decide (("gap" : Str) = "told") = false
  exact decide_eq_false gap_told
theorem rows_mem {L : List (Nat × List Int)} : ∀ {js : List Nat} {lo : Nat} {d : PyData}, d ∈ rowsD L lo js → (∃ a b, d = gapD a b) ∨ ∃ j ∈ js, d = toldD j (textOf L j)
  | [], _, _, h => by cases h
  | j :: r, lo, d, h => by
    have h' : d ∈ (if lo < j then [gapD lo (j - 1)] else []) ++ (toldD j (textOf L j) :: rowsD L (j + 1) r) := h
    rcases List.mem_append.mp h' with q | q
    · split at q
      · exact .inl ⟨_, _, List.mem_singleton.mp q⟩
      · cases q
    · rcases List.mem_cons.mp q with q | q
      · exact .inr ⟨j, List.mem_cons_self .., q⟩
      · rcases rows_mem q with q | ⟨k, hk, e⟩
        · exact .inl q
        · exact .inr ⟨k, List.mem_cons_of_mem _ hk, e⟩
theorem told_mem {L : List (Nat × List Int)} : ∀ {js : List Nat} {lo j : Nat}, j ∈ js → toldD j (textOf L j) ∈ rowsD L lo js
  | [], _, _, h => by cases h
  | i :: r, lo, j, h => by
    show _ ∈ (if lo < i then [gapD lo (i - 1)] else []) ++ (toldD i (textOf L i) :: rowsD L (i + 1) r)
    refine List.mem_append_right _ ?_
    rcases List.mem_cons.mp h with q | q
    · rw [q]; exact List.mem_cons_self ..
    · exact List.mem_cons_of_mem _ (told_mem q)
theorem rows_all (L : List (Nat × List Int)) : ∀ (n lo : Nat), rowsD L lo (List.range' lo n) = (List.range' lo n).map fun k => toldD k (textOf L k)
  | 0, lo => rfl
  | n + 1, lo => by
    rw [List.range'_succ]
    show (if lo < lo then [gapD lo (lo - 1)] else []) ++ (toldD lo (textOf L lo) :: rowsD L (lo + 1) (List.range' (lo + 1) n)) = _
    rw [if_neg (Nat.lt_irrefl _), List.nil_append, rows_all L n (lo + 1)]
    rfl
theorem rows_range (L : List (Nat × List Int)) (n : Nat) : rowsD L 0 (List.range n) = (List.range n).map fun k => toldD k (textOf L k) := by
  rw [List.range_eq_range']
  exact rows_all L n 0
theorem toldL_congr {z : Nat} {L : List (Nat × List Int)} {cs cs' : List Nat} (h : ∀ c, c ∈ cs ↔ c ∈ cs') : toldL z L cs = toldL z L cs' := by
  unfold toldL
  congr 1
  funext j
  unfold toldJ
  cases L[j]? with
  | none => rfl
  | some x =>
    show covers z cs _ _ = covers z cs' _ _
    rw [Bool.eq_iff_iff, covers_iff, covers_iff]
    exact ⟨fun g k hk => (h _).mp (g k hk), fun g k hk => (h _).mpr (g k hk)⟩
theorem toldL_mono {z : Nat} {L : List (Nat × List Int)} {cs cs' : List Nat} (h : ∀ c, c ∈ cs → c ∈ cs') {j : Nat} (hj : j ∈ toldL z L cs) : j ∈ toldL z L cs' := by
  unfold toldL at hj ⊢
  rw [List.mem_filter] at hj ⊢
  refine ⟨hj.1, ?_⟩
  have := hj.2
  unfold toldJ at this ⊢
  cases e : L[j]? with
  | none => rw [e] at this; cases this
  | some x =>
    rw [e] at this
    exact covers_iff.mpr fun k hk => h _ (covers_iff.mp this k hk)
/-- all frames that there are tell all -/
theorem toldL_all {z : Nat} {N : List Int} {L : List (Nat × List Int)} (h : Lays z N L) (hz : 0 < z) (full : N.length % z = 0) : toldL z L (List.range (N.length / z)) = List.range L.length := by
  unfold toldL
  rw [List.filter_eq_self]
  intro j hj
  have hj' := List.mem_range.mp hj
  unfold toldJ
  rw [List.getElem?_eq_getElem hj']
  refine covers_iff.mpr fun k hk => List.mem_range.mpr ?_
  have h1 := (h.item j L[j].1 L[j].2 (List.getElem?_eq_getElem hj')).1
  have h2 := div_mod z N.length
  rw [Nat.div_lt_iff_lt_mul hz]
  omega
theorem pad_full {z : Nat} (hz : 0 < z) (N : List Int) : (padN z N).length % z = 0 := by
  rw [padN_length hz]
  split
  · assumption
  · rw [Nat.add_mod_right, Nat.mul_mod_left]
theorem Lay.strT : Lay 0 (.str "told") := ⟨by decide +kernel, by simp [PyData.depth]⟩
theorem Lay.strG : Lay 0 (.str "gap") := ⟨by decide +kernel, by simp [PyData.depth]⟩
theorem lay_told (j : Nat) (t : List Int) : Lay 2 (toldD j t) := by
  have h := Lay.tuple (f := fun d : PyData => d) (k := 1) (xs := [.str "told", .int (j : Nat), tlD t]) (by
    intro x hx
    simp only [List.mem_cons, List.not_mem_nil, or_false] at hx
    rcases hx with rfl | rfl | rfl
    · exact Lay.strT.mono (by decide)
    · exact (Lay.int _).mono (by decide)
    · exact Lay.tl _)
  rw [List.map_id'] at h
  exact h
theorem lay_gap (a b : Nat) : Lay 2 (gapD a b) := by
  have h := Lay.tuple (f := fun d : PyData => d) (k := 1) (xs := [.str "gap", .int (a : Nat), .int (b : Nat)]) (by
    intro x hx
    simp only [List.mem_cons, List.not_mem_nil, or_false] at hx
    rcases hx with rfl | rfl | rfl
    · exact Lay.strG.mono (by decide)
    · exact (Lay.int _).mono (by decide)
    · exact (Lay.int _).mono (by decide))
  rw [List.map_id'] at h
  exact h
theorem Lay.of_list {k : Nat} {ds : List PyData} (h : ∀ d ∈ ds, Lay k d) : Lay (k + 1) (.list ds) := by
  have := Lay.list (f := fun d : PyData => d) (xs := ds) h
  rw [List.map_id'] at this
  exact this
theorem lay_rows (L : List (Nat × List Int)) (js : List Nat) (lo : Nat) : Lay 3 (.list (rowsD L lo js)) := Lay.of_list fun d hd => by
  rcases rows_mem hd with ⟨a, b, rfl⟩ | ⟨j, _, rfl⟩
  · exact lay_gap a b
  · exact lay_told j _
theorem dok_told (j : Nat) {t : List Int} (h : t.length ≤ 10000000) : DOk 2 (toldD j t) := DOk.tuple (show 3 ≤ 10000000 by decide) fun e he => by
  simp only [List.mem_cons, List.not_mem_nil, or_false] at he
  rcases he with rfl | rfl | rfl
  · exact .sc (.inr (.inr (.inr ⟨_, rfl⟩)))
  · exact DOk.int _
  · exact DOk.tl h
theorem dok_gap (a b : Nat) : DOk 2 (gapD a b) := DOk.tuple (show 3 ≤ 10000000 by decide) fun e he => by
  simp only [List.mem_cons, List.not_mem_nil, or_false] at he
  rcases he with rfl | rfl | rfl
  · exact .sc (.inr (.inr (.inr ⟨_, rfl⟩)))
  · exact DOk.int _
  · exact DOk.int _
theorem dok_rows {L : List (Nat × List Int)} {js : List Nat} {lo : Nat} (h : js.length ≤ 1000000) (hL : ∀ x ∈ L, x.2.length ≤ 1000) : DOk 3 (.list (rowsD L lo js)) := by
  refine DOk.list (by have := rows_len' L js lo; omega) fun d hd => ?_
  rcases rows_mem hd with ⟨a, b, rfl⟩ | ⟨j, _, rfl⟩
  · exact dok_gap a b
  · refine dok_told j ?_
    unfold textOf
    cases e : L[j]? with
    | none => exact Nat.zero_le _
    | some x => exact Nat.le_trans (hL x (List.mem_of_getElem? e)) (by decide)
theorem TDs.erase {H : Hp} : ∀ {vs : List V} {ds : List PyData} (k : Nat), TDs H vs ds → TDs H (vs.eraseIdx k) (ds.eraseIdx k)
  | _, _, _, .nil => .nil
  | _, _, 0, .cons _ t => t
  | _, _, k + 1, .cons h t => .cons h (TDs.erase k t)
theorem erase_map {α β : Type} (f : α → β) : ∀ (xs : List α) (k : Nat), (xs.map f).eraseIdx k = (xs.eraseIdx k).map f
  | [], _ => rfl
  | _ :: _, 0 => rfl
  | x :: xs, k + 1 => by
    show f x :: (xs.map f).eraseIdx k = f x :: (xs.eraseIdx k).map f
    rw [erase_map f xs k]
theorem perm_erase {α : Type} : ∀ {xs : List α} {k : Nat} {x : α}, xs[k]? = some x → (x :: xs.eraseIdx k).Perm xs
  | [], _, _, h => by simp at h
  | y :: ys, 0, x, h => by
    have e : y = x := Option.some.inj h
    rw [e]
    exact List.Perm.refl _
  | y :: ys, k + 1, x, h => by
    have ih := perm_erase (xs := ys) (k := k) (x := x) (by simpa using h)
    exact (List.Perm.swap y x _).trans (ih.cons y)
theorem rising_of {ys ks : List Int} (hp : ys.Perm ks) (hs : ys.Pairwise (· ≤ ·)) (nd : ks.Nodup) : ys.Pairwise (· < ·) := by
  have h1 : ys.Nodup := hp.nodup_iff.mpr nd
  refine List.Pairwise.imp₂ (fun a b h1 h2 => ?_) hs h1
  omega
end Sky

/-! Frames of the first tellings; what gaps are; runs of frames. -/
namespace Sky
open PySem PySem.Spec PyProof.Rows L2
theorem lays_more' : ∀ (ss : List (List Int)) (x : List Int × List (Nat × List Int)), ∃ xs M, (ss.foldl lays1 x).1 = x.1 ++ xs ∧ (ss.foldl lays1 x).2.map (·.1) = x.2.map (·.1) ++ M ∧ ∀ s ∈ M, x.1.length ≤ s
  | [], x => ⟨[], [], by simp, by simp, by simp⟩
  | t :: r, x => by
    obtain ⟨xs, M, h1, h2, h3⟩ := lays_more' r (lays1 x t)
    refine ⟨laidN (x.2.length : Nat) t ++ xs, x.1.length :: M, ?_, ?_, ?_⟩
    · show (r.foldl lays1 (lays1 x t)).1 = _
      rw [h1, ← List.append_assoc]
      rfl
    · show (r.foldl lays1 (lays1 x t)).2.map (·.1) = _
      rw [h2]
      show (x.2 ++ [(x.1.length, t)]).map (·.1) ++ M = _
      rw [List.map_append, List.append_assoc]
      rfl
    · intro s hs
      rcases List.mem_cons.mp hs with e | e
      · omega
      · have := h3 s e
        have e2 : (lays1 x t).1.length = x.1.length + (t.length + 3) := by
          show (x.1 ++ laidN _ t).length = _
          rw [List.length_append, laidN_length]
        omega
theorem lays_more (ts ss : List (List Int)) : ∃ xs M, (laysAll (ts ++ ss)).1 = (laysAll ts).1 ++ xs ∧ (laysAll (ts ++ ss)).2.map (·.1) = (laysAll ts).2.map (·.1) ++ M ∧ ∀ s ∈ M, (laysAll ts).1.length ≤ s := by
  have := lays_more' ss (laysAll ts)
  unfold laysAll at *
  rw [List.foldl_append]
  exact this
theorem pad_app (z : Nat) (N : List Int) : ∃ p, padN z N = N ++ p := by
  unfold padN
  split
  · exact ⟨[], by simp⟩
  · exact ⟨_, rfl⟩
theorem firstOf_more {z c : Nat} (S M : List Nat) : firstOf z c (S ++ M) = (firstOf z c S).or (firstOf z c M) := by
  unfold firstOf
  rw [List.filter_append, List.map_append, List.head?_append]
theorem firstOf_late {z c : Nat} {M : List Nat} (h : ∀ s ∈ M, c * z + z ≤ s) : firstOf z c M = none := by
  unfold firstOf
  have e : M.filter (inFr z c) = [] := by
    rw [List.filter_eq_nil_iff]
    intro s hs
    have := h s hs
    unfold inFr
    simp
    omega
  rw [e]
  rfl
/-- the frames of the first tellings, but the last of them, are frames of all -/
theorem frm_first {z c : Nat} {N N' xs : List Int} {S M : List Nat} (hc : c * z + z ≤ N.length) (e : N' = N ++ xs) (hM : ∀ s ∈ M, N.length ≤ s) :
    frm z (padN z N) S c = frm z (padN z N') (S ++ M) c := by
  obtain ⟨p, e1⟩ := pad_app z N
  obtain ⟨p', e2⟩ := pad_app z N'
  rw [e1, e2, e, List.append_assoc, frm_more hc, frm_more hc]
  unfold frm
  rw [firstOf_more, firstOf_late (M := M) (fun s hs => by have := hM s hs; omega), Option.or_none]
theorem first_first {z c x : Nat} {S M : List Nat} (h : firstOf z c S = some x) : firstOf z c (S ++ M) = some x := by
  rw [firstOf_more, h]
  rfl
theorem count_le {z a b na nb : Nat} (hz : 0 < z) (hab : a ≤ b) (h1 : na * z < a + z) (h2 : b ≤ nb * z) : na ≤ nb := by
  have h3 : na * z < (nb + 1) * z := by rw [Nat.succ_mul]; omega
  have := Nat.lt_of_mul_lt_mul_right h3
  omega
/-! ### gaps -/
inductive Gaps : Nat → List PyData → Prop
  | nil (lo : Nat) : Gaps lo []
  | gap {lo hi : Nat} {d : PyData} {r : List PyData} : lo ≤ hi → Gaps (hi + 1) (d :: r) → Gaps lo (gapD lo hi :: d :: r)
  | told {j : Nat} {t : List Int} {r : List PyData} : Gaps (j + 1) r → Gaps j (toldD j t :: r)
theorem gaps_rows (L : List (Nat × List Int)) : ∀ (js : List Nat) (lo : Nat), js.Pairwise (· < ·) → (∀ j ∈ js, lo ≤ j) → Gaps lo (rowsD L lo js)
  | [], lo, _, _ => .nil lo
  | j :: r, lo, p, h => by
    have hj := h j (List.mem_cons_self)
    have ih := gaps_rows L r (j + 1) (List.pairwise_cons.mp p).2 fun k hk => (List.pairwise_cons.mp p).1 k hk
    show Gaps lo ((if lo < j then [gapD lo (j - 1)] else []) ++ (toldD j (textOf L j) :: rowsD L (j + 1) r))
    by_cases e : lo < j
    · rw [if_pos e]
      refine Gaps.gap (by omega) ?_
      rw [show j - 1 + 1 = j by omega]
      exact .told ih
    · rw [if_neg e]
      have e2 : lo = j := by omega
      rw [e2]
      exact .told ih
theorem gaps_told (z : Nat) (L : List (Nat × List Int)) (cs : List Nat) : Gaps 0 (rowsD L 0 (toldL z L cs)) :=
  gaps_rows L _ 0 (List.Pairwise.filter _ List.pairwise_lt_range) fun _ _ => Nat.zero_le _
theorem gaps_last : ∀ {lo : Nat} {ds : List PyData}, Gaps lo ds → ds ≠ [] → ∃ j t, ds.getLast? = some (toldD j t)
  | _, _, .nil _, h => absurd rfl h
  | _, _, .gap _ g, _ => by
    obtain ⟨j, t, e⟩ := gaps_last g (by simp)
    exact ⟨j, t, by rw [List.getLast?_cons_cons]; exact e⟩
  | _, _, .told (r := []) g, _ => ⟨_, _, rfl⟩
  | _, _, .told (r := d :: r) g, _ => by
    obtain ⟨j, t, e⟩ := gaps_last g (by simp)
    exact ⟨j, t, by rw [List.getLast?_cons_cons]; exact e⟩
/-! ### the first frames tell the first tellings -/
theorem filter_down {p : Nat → Bool} : ∀ n : Nat, (∀ i j, i ≤ j → j < n → p j = true → p i = true) → (List.range n).filter p = List.range ((List.range n).filter p).length
  | 0, _ => rfl
  | n + 1, h => by
    rw [List.range_succ, List.filter_append]
    by_cases e : p n = true
    · have e1 : (List.range n).filter p = List.range n := List.filter_eq_self.mpr fun i hi => h i n (Nat.le_of_lt (List.mem_range.mp hi)) (by omega) e
      rw [e1, List.filter_cons_of_pos e, List.filter_nil, List.length_append, List.length_range, ← List.range_succ]
      rfl
    · rw [List.filter_cons_of_neg e, List.filter_nil, List.append_nil]
      exact filter_down n fun i j h1 h2 => h i j h1 (by omega)
theorem told_down {z : Nat} {N : List Int} {L : List (Nat × List Int)} (hz : 0 < z) (h : Lays z N L) {low i j : Nat} (hij : i ≤ j) (hj : toldJ z L (List.range low) j = true) : toldJ z L (List.range low) i = true := by
  rcases Nat.eq_or_lt_of_le hij with e | e
  · rw [e]; exact hj
  unfold toldJ at hj ⊢
  cases ej : L[j]? with
  | none => rw [ej] at hj; cases hj
  | some x =>
    rw [ej] at hj
    have hjl := (List.getElem?_eq_some_iff.mp ej).1
    have hil : i < L.length := by omega
    have hi1 : i + 1 < L.length := by omega
    have ei := List.getElem?_eq_getElem hil
    have ei1 := List.getElem?_eq_getElem hi1
    rw [ei]
    have h1 := covers_iff.mp hj 0 (by omega)
    have h2 : L[i].1 + (L[i].2.length + 3) ≤ L[i + 1].1 := by
      rcases h.next i _ _ _ _ (by rw [ei]) (by rw [ei1]) with e | ⟨_, e⟩
      · omega
      · have := div_hi hz (L[i].1 + (L[i].2.length + 3))
        omega
    have h3 : L[i + 1].1 ≤ x.1 := h.S_at (show i + 1 ≤ j by omega) (by rw [List.getElem?_map, ei1]; rfl) (by rw [List.getElem?_map, ej]; rfl)
    refine covers_iff.mpr fun k hk => List.mem_range.mpr ?_
    have h4 := List.mem_range.mp h1
    exact Nat.lt_of_le_of_lt (Nat.div_le_div_right (by omega)) h4
theorem told_first {z : Nat} {N : List Int} {L : List (Nat × List Int)} (hz : 0 < z) (h : Lays z N L) (low : Nat) : toldL z L (List.range low) = List.range (toldL z L (List.range low)).length :=
  filter_down _ fun i j hij _ hj => told_down hz h hij hj
/-- apart -/
theorem told_apart {z : Nat} {L : List (Nat × List Int)} {cs cs' : List Nat} (h : ∀ c, c ∈ cs → c ∉ cs') {j : Nat} (hj : j ∈ toldL z L cs) (hj' : j ∈ toldL z L cs') : False := by
  have h1 := (List.mem_filter.mp hj).2
  have h2 := (List.mem_filter.mp hj').2
  unfold toldJ at h1 h2
  cases e : L[j]? with
  | none => rw [e] at h1; cases h1
  | some x =>
    rw [e] at h1 h2
    exact h _ (covers_iff.mp h1 0 (by omega)) (covers_iff.mp h2 0 (by omega))
theorem eqv_gap_told (a b j : Nat) (t : List Int) : PyData.eqv (gapD a b) (toldD j t) = false := by
  have e : (("gap" : Str) == "told") = false := by decide +kernel
  unfold gapD toldD
  simp [PyData.eqv, PyData.eqvAll, e]
theorem eqv_told_told {i j : Nat} (h : i ≠ j) (t u : List Int) : PyData.eqv (toldD i u) (toldD j t) = false := by
  have e : (((i : Nat) : Int) == ((j : Nat) : Int)) = false := by
    rw [beq_eq_false_iff_ne]
    omega
  unfold toldD
  simp only [PyData.eqv, PyData.eqvAll, e, Bool.false_and, Bool.and_false]
theorem rows_apart {z : Nat} {L : List (Nat × List Int)} {cs cs' : List Nat} (h : ∀ c, c ∈ cs → c ∉ cs') {j : Nat} (hj : j ∈ toldL z L cs) : ((rowsD L 0 (toldL z L cs')).any fun w => PyData.eqv w (toldD j (textOf L j))) = false := by
  rw [List.any_eq_false]
  intro w hw
  rcases rows_mem hw with ⟨a, b, rfl⟩ | ⟨k, hk, rfl⟩
  · rw [eqv_gap_told]; decide
  · rw [eqv_told_told (fun e => told_apart h hj (by rw [← e]; exact hk))]; decide
theorem TDs.drop {H : Hp} : ∀ {vs : List V} {ds : List PyData} (k : Nat), TDs H vs ds → TDs H (vs.drop k) (ds.drop k)
  | _, _, 0, h => h
  | _, _, _ + 1, .nil => .nil
  | _, _, k + 1, .cons _ t => TDs.drop k t
theorem TDs.take {H : Hp} : ∀ {vs : List V} {ds : List PyData} (k : Nat), TDs H vs ds → TDs H (vs.take k) (ds.take k)
  | _, _, 0, _ => .nil
  | _, _, _ + 1, .nil => .nil
  | _, _, k + 1, .cons h t => .cons h (TDs.take k t)
end Sky

/-! Rules of my own: a dict comprehension over a list, stored in a name; sorted of a dict with any number of ints for keys. -/
namespace Sky
open PySem PySem.Spec PyProof.Rows L2
section
variable {K : PySem.W.Frag}
/-- a dict comprehension's turns over a list that stands still -/
theorem dc_list {l : Addr} {ys : List V} {g : TG} {tt : TT} {tk tv : TE} {ws : List Nat} {τ : L2.St} {G : Hp} {dd : Addr} {fin : Hp → Prop} (Pv : Nat → Hp → Prop)
    (start : Pv 0 (upd G dd (.dK []))) (stays : ∀ i H, i ≤ ys.length → Pv i H → SqL K H l ys)
    (turn : ∀ i x H, ys[i]? = some x → Pv i H → g x (wipe τ ws) H fun σ2 H2 => wipe σ2 ws = wipe τ ws ∧ tt σ2 H2 fun b H3 =>
      if b = true then (tk σ2 H3 fun y H4 => tv σ2 H4 fun z H5 => ∃ kvs k, y = kV k ∧ H5 dd = some (.dK kvs) ∧ kvs.length < sizeLine ∧ Pv (i + 1) (upd H5 dd (.dK (putK kvs k z))))
      else Pv (i + 1) H3)
    (last : ∀ H, Pv ys.length H → fin H) :
    ∃ W : Nat → Nat → Hp → Prop, (∃ m, W 0 m (upd G dd (.dK []))) ∧ ∀ i m H, W i m H →
      ((Itl K l).stop i H ∧ fin H) ∨ ((Itl K l).go i H ∧ ∃ Nx : Hp → Prop, (∀ H', Nx H' → ∃ m', m' < m ∧ W (i + 1) m' H') ∧
        ∀ x H', (Itl K l).yld i H x H' → g x (wipe τ ws) H' fun σ2 H2 => wipe σ2 ws = wipe τ ws ∧ tt σ2 H2 fun b H3 =>
          if b = true then (tk σ2 H3 fun y H4 => tv σ2 H4 fun z H5 => ∃ kvs k, y = kV k ∧ H5 dd = some (.dK kvs) ∧ kvs.length < sizeLine ∧ Nx (upd H5 dd (.dK (putK kvs k z)))) else Nx H3) := by
  refine ⟨fun i m H => i ≤ ys.length ∧ m = ys.length - i ∧ Pv i H, ⟨ys.length, Nat.zero_le _, (Nat.sub_zero _).symm, start⟩, ?_⟩
  rintro i m H ⟨le, rfl, hv⟩
  have there := stays i H le hv
  by_cases lt : i < ys.length
  · refine .inr ⟨⟨ys, ys[i], there, List.getElem?_eq_getElem lt⟩, Pv (i + 1), fun H' w => ⟨ys.length - (i + 1), by omega, lt, rfl, w⟩, ?_⟩
    rintro x H' ⟨e, hy⟩
    subst e
    exact turn i x _ (hy ys there) hv
  · have e : i = ys.length := by omega
    subst e
    exact .inl ⟨⟨ys, there, Nat.le_refl _⟩, last H hv⟩
/-- enumerate(ys): each turn a new pair -/
theorem for_enum {l : Addr} {ys : List V} {g : TG} {tb : L2.TS} {D : Ends} {τ : L2.St} {G : Hp} (Pv : Nat → L2.St → Hp → Prop) (start : Pv 0 τ G) (stays : ∀ i σ H, i ≤ ys.length → Pv i σ H → SqL K H l ys)
    (turn : ∀ i x σ H T, ys[i]? = some x → Pv i σ H → H T = none → g (.ref T) σ (upd H T (.tup [.int (i : Nat), x])) fun σ2 H2 => tb { D with nx := Pv (i + 1), ct := Pv (i + 1), bk := D.nx } σ2 H2)
    (last : ∀ σ H, Pv ys.length σ H → D.nx σ H) :
    ∃ W : Nat → Nat → L2.St → Hp → Prop, (∃ m, W 0 m τ G) ∧ ∀ i m σ H, W i m σ H →
      ((Ite K l).stop i H ∧ D.nx σ H) ∨ ((Ite K l).go i H ∧ ∃ N : L2.St → Hp → Prop, (∀ σ' H', N σ' H' → ∃ m', m' < m ∧ W (i + 1) m' σ' H') ∧
        ∀ x H', (Ite K l).yld i H x H' → g x σ H' fun σ2 H2 => tb { D with nx := N, ct := N, bk := D.nx } σ2 H2) := by
  refine ⟨fun i m σ H => i ≤ ys.length ∧ m = ys.length - i ∧ Pv i σ H, ⟨ys.length, Nat.zero_le _, (Nat.sub_zero _).symm, start⟩, ?_⟩
  rintro i m σ H ⟨le, rfl, hv⟩
  have there := stays i σ H le hv
  by_cases lt : i < ys.length
  · refine .inr ⟨⟨ys, ys[i], there, List.getElem?_eq_getElem lt⟩, Pv (i + 1), fun σ' H' w => ⟨ys.length - (i + 1), by omega, lt, rfl, w⟩, ?_⟩
    rintro x H' ⟨T, y, rfl, hT, rfl, hy⟩
    exact turn i y σ H T (hy ys there) hv hT
  · have e : i = ys.length := by omega
    subst e
    exact .inl ⟨⟨ys, there, Nat.le_refl _⟩, last σ H hv⟩
/-! ### the keys of a dict -/
theorem len_of_sub {α : Type} [DecidableEq α] : ∀ {xs l : List α}, xs.Nodup → (∀ x ∈ xs, x ∈ l) → xs.length ≤ l.length
  | [], _, _, _ => Nat.zero_le _
  | x :: xs, l, nd, h => by
    have nd' := List.nodup_cons.mp nd
    have hx := h x (List.mem_cons_self ..)
    have ih := len_of_sub (l := l.erase x) nd'.2 fun y hy => (List.mem_erase_of_ne (fun e => nd'.1 (by rw [← e]; exact hy))).mpr (h y (List.mem_cons_of_mem _ hy))
    have h2 := List.length_erase_of_mem hx
    have h3 := List.length_pos_of_mem hx
    rw [List.length_cons]
    omega
theorem mem_keys {kvs : List (Key × V)} {k : Key} : k ∈ kvs.map (·.1) ↔ (valV kvs k).isSome = true := by
  rw [← valV_any, List.any_eq_true, List.mem_map]
  exact ⟨fun ⟨kv, hm, e⟩ => ⟨kv, hm, decide_eq_true e⟩, fun ⟨kv, hm, e⟩ => ⟨kv, hm, of_decide_eq_true e⟩⟩
theorem keys_put {kvs : List (Key × V)} {k : Key} {v : V} (nd : (kvs.map (·.1)).Nodup) : ((putK kvs k v).map (·.1)).Nodup := by
  cases e : valV kvs k with
  | none =>
    rw [L2.putK_new v e, List.map_append]
    refine List.nodup_append.mpr ⟨nd, by simp, fun a ha b hb => ?_⟩
    rw [List.mem_singleton.mp hb]
    intro q
    subst q
    have := mem_keys.mp ha
    rw [e] at this
    cases this
  | some x =>
    have h : (kvs.any fun kv => decide (kv.1 = k)) = true := by rw [valV_any, e]; rfl
    unfold putK
    rw [if_pos h, List.map_map]
    have : ((fun x : Key × V => x.1) ∘ fun kv : Key × V => if kv.1 = k then (kv.1, v) else kv) = fun x => x.1 := by
      funext kv
      show (if kv.1 = k then (kv.1, v) else kv).1 = kv.1
      split <;> rfl
    rw [this]
    exact nd
theorem keys_ints' : ∀ {kvs : List (Key × V)}, (∀ k ∈ kvs.map (·.1), ∃ i : Int, k = Sum.inl i) → ∃ ks : List Int, kvs.map (·.1) = ks.map Sum.inl
  | [], _ => ⟨[], rfl⟩
  | kv :: r, h => by
    obtain ⟨i, e⟩ := h kv.1 (by simp)
    obtain ⟨ks, e'⟩ := keys_ints' (kvs := r) fun k hk => h k (by rw [List.map_cons]; exact List.mem_cons_of_mem _ hk)
    exact ⟨i :: ks, by rw [List.map_cons, List.map_cons, e, e']⟩
end
section
variable {X : Cx}
theorem sw_trueD {kx vx : Expr} {gs : List Comprehension} {sc : Scope} {pos py : Pos} {y : Str} {l : Nat} {env : Env}
    (kind : env.scope.kind = .function) (isl : env.scope.names.lookup y = some .local) (line : (py.line == pos.line) = true)
    (free : (sc.names.any fun (n, k) => n == y && (k == .local || k == .cell)) = false) :
    swapsWith (.DictComp kx vx gs sc pos) (some (.Name y py)) l env = pure true := by
  have k1 : env.kindOf y = some .local := isl
  have k2 : env.blockKind = .function := by
    unfold Env.blockKind
    rw [kind]
    rfl
  unfold swapsWith
  simp only [k2, k1, free, Expr.pos, line]
  rfl
/-- name = {k: v for ..} on one line, the name a local -/
theorem ps_setDc {i : Nat} {y : Str} {py : Pos} {kx vx tg iter : Expr} {ifs : List Expr} {scope : Scope} {own : List (Str × Nat)} {pos spos : Pos} {wi : TI} {g : TG} {tt : TT} {tk tv : TE}
    (calm : X.calm = true) (hN : X.N.Nodup) (hy : X.N[i]? = some y) (loc : X.env.scope.names.lookup y = some .local)
    (sw : swapsWith (.DictComp kx vx [⟨tg, iter, ifs, 0⟩] scope pos) (some (.Name y py)) spos.line X.env = pure true)
    (hi : PI X tg iter wi) (ok : BlkOk X.N X.env.scope scope own)
    (hg : ∀ (s : Shared) (H : Hp) (C : Addr) (cl : List (Str × Addr)) (fp : List Addr), PG (X.blk s H scope (compEnvC scope cl C X.env) fp) tg g)
    (ht : ∀ (s : Shared) (H : Hp) (C : Addr) (cl : List (Str × Addr)) (fp : List Addr), PTs (X.blk s H scope (compEnvC scope cl C X.env) fp) ifs tt)
    (hk : ∀ (s : Shared) (H : Hp) (C : Addr) (cl : List (Str × Addr)) (fp : List Addr), PE (X.blk s H scope (compEnvC scope cl C X.env) fp) kx tk)
    (he : ∀ (s : Shared) (H : Hp) (C : Addr) (cl : List (Str × Addr)) (fp : List Addr), PE (X.blk s H scope (compEnvC scope cl C X.env) fp) vx tv)
    (hs : ∀ x, foldedSetIterable iter X.env x = pure x := by intro _; rfl) :
    PS X (.Assign [.Name y py] (.DictComp kx vx [⟨tg, iter, ifs, 0⟩] scope pos) spos) (tAsg (tDc wi g tt tk tv (own.map (·.2))) (gName i)) := by
  constructor
  intro pins s σ H D I h
  rw [exec_Assign_Name_used _ _ _ _ sw]
  apply wpAny_bind
  apply wpAny_standAt
  apply wpAny_bind
  have want : tDc wi g tt tk tv (own.map (·.2)) σ H (fun x H1 => gName i x σ H1 D.nx) := h
  show wpAny _ X.A (do
    let _ ← comprehension (.DictComp kx vx [⟨tg, iter, ifs, 0⟩] scope pos) scope X.env (firstIterPos [⟨tg, iter, ifs, 0⟩] pos) newDict false (eval iter X.env) (some (assign (.Name y py) X.env))) _ _ s
  apply wpAny_bind
  refine thn (dc_core (Qf := fun _ s' => SP X pins D .next s') calm hN I hi ok hg ht hk he hs want ?_) fun _ s' q => wpAny_pure (wpAny_pure q)
  intro L C s' m H' J q hn fp
  show wpAny _ _ (assign (.Name y py) X.env (.ref L)) _ _ _
  refine wpAny_assign_Name (store_ok2 (v := V.ref L) J hN hy (.inl loc) rfl ?_ (.inr loc))
  rintro s2 J2 ⟨a, sb, ha⟩
  obtain ⟨u0, u1, u2, u3, u4, u5⟩ := fp
  have apart : C ≠ a := by
    rcases ha with z | z
    · rw [z]
      exact u1
    · exact fun e => u4 y a z e.symm
  refine ⟨m, hn.sameBut sb apart, fun h3 sb3 => ⟨_, H', ?_, q⟩⟩
  exact J2.turned (t' := s2.toks) (fun b o hb e => (sb3.2 b hb).trans e) u0 u1 u3 u4 u5
theorem u65 {k : Nat} {A : Around} (r : Room k A) : A.units + 65 < cLine := by
  have := r.un
  omega
theorem op_notInDK {K : PySem.W.Frag} (h : X.K = K) (hu : X.A.units + 65 < cLine) : OpR X (compareOp .NotIn) (rNotInD K) := h ▸ op_notInD hu
theorem op_catTK {K : PySem.W.Frag} (h : X.K = K) : OpR X (binaryOp .Add) (rCatT K) := h ▸ op_catT
theorem op_inDK {K : PySem.W.Frag} (h : X.K = K) (hu : X.A.units + 65 < cLine) : OpR X (compareOp .In) (rInD K) := h ▸ op_inD hu
/-- sorted(d): the keys all ints, any number of them -/
def rSortDk : List V → Hp → VK → Prop := fun xs H Q => ∃ (a : Addr) (kvs : List (Key × V)) (ks : List Int), xs = [.ref a] ∧ H a = some (.dK kvs) ∧ kvs.map (·.1) = ks.map Sum.inl ∧
  ∀ (ys : List Int) (p : Addr), ys.Perm ks → ys.Pairwise (· ≤ ·) → H p = none → Q (.ref p) (upd H p (.lst (ys.map V.int)))
theorem keys_ints {P : Program} {w : World} : ∀ {vs : List (Key × Value)} {us : List Value} {ks : List Int}, vs.map (·.1) = ks.map Sum.inl → us.length = vs.length →
    (∀ (j : Nat) (v : Value), us[j]? = some v → ∃ k x, vs[j]? = some (k, x) ∧ (mixKind P w).is k v = true) → IntsAre us ks
  | [], [], [], _, _, _ => .nil
  | [], [], _ :: _, e, _, _ => by simp at e
  | _ :: _, _, [], e, _, _ => by simp at e
  | [], _ :: _, _, _, e, _ => by simp at e
  | _ :: _, [], _, _, e, _ => by simp at e
  | (k, x) :: vs, u :: us, n :: ks, e, l, h => by
    rw [List.map_cons, List.map_cons] at e
    injection e with e1 e2
    obtain ⟨k', x', a, b⟩ := h 0 u rfl
    have ek : (k, x) = (k', x') := Option.some.inj a
    injection ek with ek _
    subst ek
    have ek : k = Sum.inl n := e1
    subst ek
    rcases keyIs_shape (show keyIs (Sum.inl n) u = true from b) with ⟨i, t, q, eu⟩ | ⟨z, t, q, eu⟩
    · cases q
      subst eu
      exact .cons _ _ (keys_ints (P := P) (w := w) e2 (by simpa using l) fun j v hv => by
        obtain ⟨k2, x2, c, d⟩ := h (j + 1) v (by simpa using hv)
        exact ⟨k2, x2, by simpa using c, d⟩)
    · cases q
theorem call_sortedDk (calm : X.calm = true) : CallR X (.builtin "sorted") rSortDk := by
  intro pins s σ H xs us Q I r h
  obtain ⟨a, kvs, ks, rfl, hd, hks, fin⟩ := h
  obtain ⟨u, rfl, ru⟩ := vals1 r
  cases ru
  obtain ⟨small, lo, vs, rel, held⟩ := dk_rd I.hok (Rd.of hd)
  obtain ⟨ep, there⟩ := held.dictAt
  have keys : vs.map (·.1) = ks.map Sum.inl := rel.keys.symm.trans hks
  have many : vs.length = ks.length := by
    have e := congrArg List.length keys
    rwa [List.length_map, List.length_map] at e
  have kvl : kvs.length = ks.length := by
    have e := congrArg List.length hks
    rwa [List.length_map, List.length_map] at e
  have line : vs.length ≤ sizeLine := by rw [many, ← kvl]; exact small
  refine Calls.call_function_entry kind_sorted plain_sorted entry_sorted (args_sorted1 _) ?_
  unfold Builtin.«sorted»
  apply wpAny_bind (m := checkCount "sorted" 1 1 _)
  apply wpAny_pure
  apply wpAny_bind
  refine PySem.W.kdu_collect (A := X.A.in1) (PySem.W.kdl_dict (knd := mixKind X.prog X.w) (kvs := vs) (ep := ep) lo) (I.ok.hd calm) there line ?_
  intro h1 tk acc kept items
  have len : acc.toList.length = vs.length := by rw [Array.length_toList]; exact items.1
  have nums : IntsAre acc.toList ks := keys_ints (P := X.prog) (w := X.w) keys len fun j v e => by
    obtain ⟨k, x, e1, e2⟩ := items.2 j v (by rw [← Array.getElem?_toList]; exact e)
    exact ⟨k, x, e1, e2⟩
  have J : Inv X pins σ H { s with heap := h1, toks := tk } := I.kept kept
  have line' : acc.toList.length ≤ sizeLine := by rw [len]; exact line
  apply wpAny_bind
  refine wpAny_newList ?_ line'
  have laid : (h1.push (seqObj "list" acc.toList.toArray 0)).get? h1.objs.size = some (seqObj "list" acc.toList.toArray 0) := Heap.get?_push_size _ rfl
  show wpAny _ _ _ _ _ { s with heap := h1.push (seqObj "list" acc.toList.toArray 0), toks := tk }
  apply wpAny_bind
  apply wpAny_holding
  refine wpAny_call_entry slot_list_sort ⟨_, laid, rfl⟩ entry_list_sort ?_ (args_list_sort _)
  refine SrtO.list_sort_ord (s := { s with heap := h1.push (seqObj "list" acc.toList.toArray 0), toks := tk }) SrtO.swo_int laid line' (fun two => SrtO.ints_sortable nums two) ?_
  intro out srt stb
  refine ⟨_, rfl, ?_⟩
  obtain ⟨g1, g2, g3⟩ := SrtO.ints_out nums srt stb
  obtain ⟨e', at'⟩ := sortedHeap_at (vs := acc.toList) (out := out.toArray) laid
  have fits : ((out.map SrtO.iv).map V.int).length ≤ sizeLine := by
    rw [List.length_map, g2.length_eq, ← kvl]
    exact small
  refine wpAny_pure ⟨_, rfl, .ref h1.objs.size, upd H h1.objs.size (.lst ((out.map SrtO.iv).map V.int)), ?_, rfl, fin _ _ g2 g3 (J.hok.fresh (Nat.le_refl _))⟩
  refine J.laid (t' := tk) ?_ (Nat.le_refl _) ⟨fits, out, e', vals_of_ints g1, at'⟩
  intro b o e
  have lt : b < h1.objs.size := Heap.lt_size e
  rw [sortedHeap_old (Nat.ne_of_lt lt) (by rw [size_push']; exact Nat.lt_succ_of_lt lt)]
  exact Heap.get?_push_of_some _ e
end
end Sky

/-! list(d.values()) -/
namespace L2
open PySem PySem.Spec PyProof.Rows
section
variable {X : Cx} {o : Expr} {p pos apos mpos : Pos} {td : TE}
/-- list(o.values()): the values as they stand -/
def tListVals (td : TE) : TE := fun σ H Q => td σ H fun x H1 => ∃ a kvs, x = V.ref a ∧ H1 a = some (.dK kvs) ∧ ∀ q, H1 q = none → Q (.ref q) (upd H1 q (.lst (kvs.map (·.2))))
/-- the view that o.values() lays down -/
abbrev viewObj (a : Addr) : Obj := { cls := .type "dict_values", data := .fields #[.ref a] }
abbrev valuesCall (o : Expr) (pa pm : Pos) : Expr := .Call (.Attribute o "values" pa) [] [] pm
theorem pe_listVals (calm : X.calm = true) (free : Gl X "list") (unset : X.mg "list" = none) (sub : PE X o td)
    (plain : attributeBase o "values" X.env (eval o X.env) = eval o X.env := by rfl) (line : (apos.endLine == mpos.line) = true := by rfl)
    (star : starEach [valuesCall o apos mpos] X.env = [(false, eval (valuesCall o apos mpos) X.env)] := by rfl) :
    PE X (.Call (.Name "list" p) [valuesCall o apos mpos] [] pos) (tListVals td) := by
  constructor
  intro pins s σ G R inv told
  refine wpAny_Call_Name_kw (ld_blt inv free unset (u := .type "list") (by first | rfl | decide +kernel) ?_ (by decide +kernel) (by decide +kernel))
  rw [star]
  refine PySem.callWith_type1 (wpAny_Call_method0_late plain line ?_)
  refine thn (sub.run pins s σ G _ inv told) ?_
  rintro v t ⟨x, G1, inv1, rx, a, kvs, rfl, isD, fin⟩
  cases rx
  obtain ⟨few, low, ws, rel, held⟩ := dk_of inv1.hok isD
  obtain ⟨ep, stands⟩ := held.dictAt
  have copy := stands
  obtain ⟨ob, _, at', exact', _⟩ := copy
  refine ⟨"dict", "dict.values", F.plainAttrs_dict, F.slot_dict_values,
    F.type_dict_values, ⟨ob, at', exact'.1⟩, ?_, Calls.callWith_builtin rfl (PySem.evalArgs_none ?_)⟩
  · intro _ same
    cases same
    exact ⟨ob, at', exact'.2.1⟩
  refine call_meetsIn F.slot_dict_values ⟨ob, at', exact'.1⟩
    F.entry_dict_values (F.args_dict_values_1 _)
    (meets_dict_values (mixKind X.prog X.w) a low) ⟨⟨ws, held⟩, ?_⟩
  have grown : ∀ b u, t.heap.get? b = some u → (t.heap.push (viewObj a)).get? b = some u := fun _ _ => Heap.get?_push_of_some _
  have still : (t.heap.push (viewObj a)).DictAt (mixKind X.prog X.w) a ws ep := stands.keep grown
  have many : kvs.length = ws.length := KV.length rel
  have more : (t.heap.push (viewObj a)).objs.size = t.heap.objs.size + 1 := Heap.size_push _ _
  have behind : t.heap.objs.size ≤ (t.heap.push (viewObj a)).objs.size := by omega
  refine PySem.W.kdl_call (PySem.W.kdl_values (knd := mixKind X.prog X.w) (kvs := ws) (ep := ep))
    (inv.ok.hd calm) ⟨⟨_, Heap.get?_push_size _ rfl, rfl, rfl⟩, still⟩ (by rw [← many]; exact few) ?_
  intro h2 tk acc c kept laid items
  have ok : ObjOk X.prog X.w (upd G1 (t.heap.push (viewObj a)).objs.size (.lst (kvs.map (·.2)))) h2 (t.heap.push (viewObj a)).objs.size (.lst (kvs.map (·.2))) := by
    refine ⟨by rw [List.length_map]; exact few, acc.toList, c, ?_, by rw [Array.toArray_toList]; exact laid⟩
    have size : acc.toList.length = acc.size := by simp
    apply vals_of_at
    · rw [List.length_map, size, items.1, many]
    · intro j x u ex eu
      obtain ⟨k, ek⟩ := items.2 j u (by rw [← Array.getElem?_toList]; exact eu)
      obtain ⟨y, ey, ry⟩ := KV.at' rel ek
      rw [List.getElem?_map, ey] at ex
      cases ex
      exact ry
  exact ⟨.ref _, _, inv1.laid (fun b u e => kept b u (grown b u e)) behind ok, rfl, fin _ (inv1.hok.fresh behind)⟩
/-! max(d, default=n) of a dict whose keys are ints -/
def rMaxDk : List V → List V → Hp → VK → Prop := fun vs zs H Q => ∃ (a : Addr) (kvs : List (Key × V)) (ks : List Int) (d : Int), vs = [V.ref a] ∧ zs = [V.int d] ∧ H a = some (.dK kvs) ∧ kvs.map (·.1) = ks.map Sum.inl ∧ (ks = [] → Q (.int d) H) ∧ ∀ m, m ∈ ks → (∀ j ∈ ks, j ≤ m) → Q (.int m) H
theorem argBest_gt (f : Nat → Int) : ∀ n : Nat, PySem.argBest (fun i j => decide (f i > f j)) n ≤ n ∧ ∀ i, i ≤ n → f i ≤ f (PySem.argBest (fun i j => decide (f i > f j)) n)
  | 0 => ⟨Nat.le_refl _, fun i hi => by
      have : i = 0 := by omega
      subst this
      exact Int.le_refl _⟩
  | n + 1 => by
    obtain ⟨h1, h2⟩ := argBest_gt f n
    have e : PySem.argBest (fun i j => decide (f i > f j)) (n + 1) = if decide (f (n + 1) > f (PySem.argBest (fun i j => decide (f i > f j)) n)) = true then n + 1 else PySem.argBest (fun i j => decide (f i > f j)) n := rfl
    rw [e]
    by_cases c : f (n + 1) > f (PySem.argBest (fun i j => decide (f i > f j)) n)
    · rw [if_pos (decide_eq_true c)]
      refine ⟨Nat.le_refl _, fun i hi => ?_⟩
      rcases Nat.lt_or_ge i (n + 1) with z | z
      · have := h2 i (by omega)
        omega
      · have : i = n + 1 := by omega
        subst this
        exact Int.le_refl _
    · rw [if_neg (by rw [decide_eq_true_eq]; exact c)]
      refine ⟨by omega, fun i hi => ?_⟩
      rcases Nat.lt_or_ge i (n + 1) with z | z
      · exact h2 i (by omega)
      · have : i = n + 1 := by omega
        subst this
        omega
theorem cr_maxDk (hc : X.calm = true) : CallRK X (.builtin "max") [Str.ofString "default"] rMaxDk := by
  intro pins s σ H vs zs us ws Q I r rz h
  obtain ⟨a, kvs, ks, d, rfl, rfl, ha, hks, q0, q1⟩ := h
  obtain rfl := Vals.ref1 r
  obtain ⟨w1, rfl, e1⟩ := vals1 rz
  obtain ⟨td, rfl⟩ : ∃ t, w1 = Value.int d t := e1
  obtain ⟨z, lo, vs, rel, held⟩ := dk_rd I.hok (Rd.of ha)
  obtain ⟨ep, there⟩ := held.dictAt
  have keys : vs.map (·.1) = ks.map Sum.inl := rel.keys.symm.trans hks
  have many : vs.length = ks.length := by
    have e := congrArg List.length keys
    rwa [List.length_map, List.length_map] at e
  have hval : ∀ (i : Nat) (v : Value), (∃ k x, vs[i]? = some (k, x) ∧ (mixKind X.prog X.w).is k v = true) → ∃ t, v = Value.int (ks.getD i 0) t := fun i v ⟨k, x, e1, e2⟩ => by
    have h1 : (vs.map (·.1))[i]? = some k := by rw [List.getElem?_map, e1] <;> rfl
    rw [keys, List.getElem?_map] at h1
    obtain ⟨j, hj, ek⟩ := Option.map_eq_some_iff.mp h1
    subst ek
    rcases keyIs_shape (k := Sum.inl j) (v := v) e2 with ⟨i', t, g1, g2⟩ | ⟨x', t, g1, g2⟩
    · injection g1 with g1
      subst g1
      exact ⟨t, by rw [g2, List.getD_eq_getElem?_getD, hj] <;> rfl⟩
    · cases g1
  obtain ⟨oI, St, hit, W, st0⟩ := (PySem.W.kdl_dict (prog := X.prog) (w := X.w) (knd := mixKind X.prog X.w) (kvs := vs) (ep := ep) lo).iter X.A.in1 s (I.ok.hd hc) there
  have hlt := there.lt_size
  refine PySem.call_max_walkD (hit _ _ ⟨_, _, _, _, _, _, _, s.heap, (fun i j => decide (ks.getD i 0 > ks.getD j 0)), rfl, W.toS, st0, fun b hb => ?_, fun b o e hb => ?_, fun b o e => Heap.get?_push_of_some _ e, fun hz s' m => ?_, fun hp => ⟨fun i j vi vj s2 Q E _ hi hj hq => CmpOf.ints_gt (fun i => ks.getD i 0) hval i j vi vj s2 Q E hi hj hq, fun v s' hP m => ?_⟩⟩)
  · show b < (s.heap.push _).objs.size
    rw [Heap.size_push]
    rcases List.mem_cons.mp hb with e | hb
    · rw [e]
      exact Nat.lt_succ_self _
    · rw [List.mem_singleton.mp hb]
      exact Nat.lt_succ_of_lt hlt
  · exact absurd (Heap.lt_size e) ((List.mem_singleton.mp hb) ▸ Nat.lt_irrefl _)
  · obtain ⟨h', tk, rfl, hk'⟩ := PySem.W.moved_old rfl rfl m
    exact ⟨.int d, H, I.kept (t' := tk) hk', ⟨td, rfl⟩, q0 (List.eq_nil_of_length_eq_zero (by omega))⟩
  · obtain ⟨h', tk, rfl, hk'⟩ := PySem.W.moved_old rfl rfl m
    obtain ⟨t, rfl⟩ := hval _ v hP
    obtain ⟨b1, b2⟩ := argBest_gt (fun i => ks.getD i 0) (vs.length - 1)
    have hb : PySem.argBest (fun i j => decide (ks.getD i 0 > ks.getD j 0)) (vs.length - 1) < ks.length := by omega
    refine ⟨.int _, H, I.kept (t' := tk) hk', ⟨t, rfl⟩, q1 _ ?_ fun j hj => ?_⟩
    · rw [List.getD_eq_getElem?_getD, List.getElem?_eq_getElem hb]
      exact List.getElem_mem hb
    · obtain ⟨i, hi, e⟩ := List.mem_iff_getElem.mp hj
      have e2 : ks.getD i 0 = j := by rw [List.getD_eq_getElem?_getD, List.getElem?_eq_getElem hi, ← e] <;> rfl
      rw [← e2]
      exact b2 i (by omega)
/-! a list walked within a comprehension: the written part is told -/
theorem pi_listK {K : PySem.W.Frag} {X : Cx} {tg e : Expr} {te : TE} (h : X.K = K) (he : PE X e te) : PI X tg e (iList K te) := h ▸ pi_list he
end
end L2

namespace K5
open PySem PySem.Spec PyProof.Rows L2 Sky
def topS (i : Nat) : Stmt := PySem.Challenge.pw_skyframes_k05_the_ground_step_by_step.main.body.getD i (.Pass ⟨0, 0, 0, 0⟩)
abbrev s_is_number : Stmt := topS 12
abbrev N_is_number : List Str := ["value", "low", "high"]
theorem sc_is_number : FnScope N_is_number ["value", "low", "high"] (defScope s_is_number) := ⟨rfl, rfl, rfl, by decide +kernel, rfl, by decide +kernel, by decide +kernel⟩
abbrev s_is_stream : Stmt := topS 13
abbrev N_is_stream : List Str := ["value"]
theorem sc_is_stream : FnScope N_is_stream ["value"] (defScope s_is_stream) := ⟨rfl, rfl, rfl, by decide +kernel, rfl, by decide +kernel, by decide +kernel⟩
abbrev s_holds_numbers : Stmt := topS 14
abbrev N_holds_numbers : List Str := ["value", "number"]
theorem sc_holds_numbers : FnScope N_holds_numbers ["value"] (defScope s_holds_numbers) := ⟨rfl, rfl, rfl, by decide +kernel, rfl, by decide +kernel, by decide +kernel⟩
abbrev s_is_mark : Stmt := topS 15
abbrev N_is_mark : List Str := ["value", "stream", "count"]
theorem sc_is_mark : FnScope N_is_mark ["value"] (defScope s_is_mark) := ⟨rfl, rfl, rfl, by decide +kernel, rfl, by decide +kernel, by decide +kernel⟩
abbrev s_is_frame : Stmt := topS 16
abbrev N_is_frame : List Str := ["value", "size", "stream", "count", "first", "body"]
theorem sc_is_frame : FnScope N_is_frame ["value", "size"] (defScope s_is_frame) := ⟨rfl, rfl, rfl, by decide +kernel, rfl, by decide +kernel, by decide +kernel⟩
abbrev s_check_stream : Stmt := topS 17
abbrev N_check_stream : List Str := ["stream"]
theorem sc_check_stream : FnScope N_check_stream ["stream"] (defScope s_check_stream) := ⟨rfl, rfl, rfl, by decide +kernel, rfl, by decide +kernel, by decide +kernel⟩
abbrev s_check_size : Stmt := topS 18
abbrev N_check_size : List Str := ["size"]
theorem sc_check_size : FnScope N_check_size ["size"] (defScope s_check_size) := ⟨rfl, rfl, rfl, by decide +kernel, rfl, by decide +kernel, by decide +kernel⟩
abbrev s_check_marks : Stmt := topS 19
abbrev N_check_marks : List Str := ["marks", "at", "mark"]
theorem sc_check_marks : FnScope N_check_marks ["marks"] (defScope s_check_marks) := ⟨rfl, rfl, rfl, by decide +kernel, rfl, by decide +kernel, by decide +kernel⟩
abbrev s_rows_of : Stmt := topS 23
abbrev N_rows_of : List Str := ["frames", "size", "told", "rows", "low", "number"]
theorem sc_rows_of : FnScope N_rows_of ["frames", "size"] (defScope s_rows_of) := ⟨rfl, rfl, rfl, by decide +kernel, rfl, by decide +kernel, by decide +kernel⟩
abbrev s_check_frames : Stmt := topS 24
abbrev N_check_frames : List Str := ["frames", "size", "ahead", "at", "frame"]
theorem sc_check_frames : FnScope N_check_frames ["frames", "size"] (defScope s_check_frames) := ⟨rfl, rfl, rfl, by decide +kernel, rfl, by decide +kernel, by decide +kernel⟩
abbrev s_told_in : Stmt := topS 25
abbrev N_told_in : List Str := ["frames", "size", "frame", "bodies", "told", "place", "laid"]
theorem sc_told_in : FnScope N_told_in ["frames", "size"] (defScope s_told_in) := ⟨rfl, rfl, rfl, by decide +kernel, rfl, by decide +kernel, by decide +kernel⟩
abbrev s_beginnings : Stmt := topS 26
abbrev N_beginnings : List Str := ["frame", "size", "_", "count", "first", "body", "places", "at"]
theorem sc_beginnings : FnScope N_beginnings ["frame", "size"] (defScope s_beginnings) := ⟨rfl, rfl, rfl, by decide +kernel, rfl, by decide +kernel, by decide +kernel⟩
abbrev s_laid_at : Stmt := topS 27
abbrev N_laid_at : List Str := ["bodies", "place", "size", "many", "laid", "at", "body"]
theorem sc_laid_at : FnScope N_laid_at ["bodies", "place", "size"] (defScope s_laid_at) := ⟨rfl, rfl, rfl, by decide +kernel, rfl, by decide +kernel, by decide +kernel⟩
abbrev s_Ground_init : Stmt := inClass (topS 29) 0
abbrev N_Ground_init : List Str := ["self", "size", "_"]
theorem sc_Ground_init : FnScope N_Ground_init ["self", "size"] (defScope s_Ground_init) := ⟨rfl, rfl, rfl, by decide +kernel, rfl, by decide +kernel, by decide +kernel⟩
abbrev s_Ground_hear : Stmt := inClass (topS 29) 1
abbrev N_Ground_hear : List Str := ["self", "frame", "stream", "count"]
theorem sc_Ground_hear : FnScope N_Ground_hear ["self", "frame"] (defScope s_Ground_hear) := ⟨rfl, rfl, rfl, by decide +kernel, rfl, by decide +kernel, by decide +kernel⟩
abbrev s_Ground_never : Stmt := inClass (topS 29) 2
abbrev N_Ground_never : List Str := ["self", "marks", "mark"]
theorem sc_Ground_never : FnScope N_Ground_never ["self", "marks"] (defScope s_Ground_never) := ⟨rfl, rfl, rfl, by decide +kernel, rfl, by decide +kernel, by decide +kernel⟩
abbrev s_Ground_rows : Stmt := inClass (topS 29) 3
abbrev N_Ground_rows : List Str := ["self", "stream"]
theorem sc_Ground_rows : FnScope N_Ground_rows ["self", "stream"] (defScope s_Ground_rows) := ⟨rfl, rfl, rfl, by decide +kernel, rfl, by decide +kernel, by decide +kernel⟩
abbrev s_Ground_has : Stmt := inClass (topS 29) 4
abbrev N_Ground_has : List Str := ["self", "stream", "count"]
theorem sc_Ground_has : FnScope N_Ground_has ["self"] (defScope s_Ground_has) := ⟨rfl, rfl, rfl, by decide +kernel, rfl, by decide +kernel, by decide +kernel⟩
abbrev s_Ground_wants : Stmt := inClass (topS 29) 5
abbrev N_Ground_wants : List Str := ["self", "wanted", "stream", "came", "count"]
theorem sc_Ground_wants : FnScope N_Ground_wants ["self"] (defScope s_Ground_wants) := ⟨rfl, rfl, rfl, by decide +kernel, rfl, by decide +kernel, by decide +kernel⟩
abbrev s_law_mix : Stmt := topS 31
abbrev N_law_mix : List Str := ["_law_script", "_law_seed", "_law_mixed", "_law_cell"]
theorem sc_law_mix : FnScope N_law_mix ["_law_script", "_law_seed"] (defScope s_law_mix) := ⟨rfl, rfl, rfl, by decide +kernel, rfl, by decide +kernel, by decide +kernel⟩
abbrev s_law_next : Stmt := topS 32
abbrev N_law_next : List Str := ["_law_h", "_law_many_here", "_law_at", "_law_cell"]
theorem sc_law_next : FnScope N_law_next ["_law_h", "_law_many_here"] (defScope s_law_next) := ⟨rfl, rfl, rfl, by decide +kernel, rfl, by decide +kernel, by decide +kernel⟩
abbrev s_law_alike : Stmt := topS 33
abbrev N_law_alike : List Str := ["_law_found", "_law_due", "_law_k"]
theorem sc_law_alike : FnScope N_law_alike ["_law_found", "_law_due"] (defScope s_law_alike) := ⟨rfl, rfl, rfl, by decide +kernel, rfl, by decide +kernel, by decide +kernel⟩
abbrev s_law_data : Stmt := topS 34
abbrev N_law_data : List Str := ["_law_h", "_law_many_here", "_law_k"]
theorem sc_law_data : FnScope N_law_data ["_law_h"] (defScope s_law_data) := ⟨rfl, rfl, rfl, by decide +kernel, rfl, by decide +kernel, by decide +kernel⟩
abbrev s_law_fresh : Stmt := topS 35
abbrev N_law_fresh : List Str := ["_law_size"]
theorem sc_law_fresh : FnScope N_law_fresh ["_law_size"] (defScope s_law_fresh) := ⟨rfl, rfl, rfl, by decide +kernel, rfl, by decide +kernel, by decide +kernel⟩
abbrev s_law_lay : Stmt := topS 36
abbrev N_law_lay : List Str := ["_law_s", "_law_data_here", "_law_seq"]
theorem sc_law_lay : FnScope N_law_lay ["_law_s", "_law_data_here"] (defScope s_law_lay) := ⟨rfl, rfl, rfl, by decide +kernel, rfl, by decide +kernel, by decide +kernel⟩
abbrev s_law_fill : Stmt := topS 37
abbrev N_law_fill : List Str := ["_law_s", "_law_rest"]
theorem sc_law_fill : FnScope N_law_fill ["_law_s"] (defScope s_law_fill) := ⟨rfl, rfl, rfl, by decide +kernel, rfl, by decide +kernel, by decide +kernel⟩
abbrev s_law_many : Stmt := topS 38
abbrev N_law_many : List Str := ["_law_s"]
theorem sc_law_many : FnScope N_law_many ["_law_s"] (defScope s_law_many) := ⟨rfl, rfl, rfl, by decide +kernel, rfl, by decide +kernel, by decide +kernel⟩
abbrev s_law_frame : Stmt := topS 39
abbrev N_law_frame : List Str := ["_law_s", "_law_stream", "_law_count", "_law_low", "_law_high", "_law_some", "_law_start", "_law_data_here"]
theorem sc_law_frame : FnScope N_law_frame ["_law_s", "_law_stream", "_law_count"] (defScope s_law_frame) := ⟨rfl, rfl, rfl, by decide +kernel, rfl, by decide +kernel, by decide +kernel⟩
abbrev s_law_rows : Stmt := topS 40
abbrev N_law_rows : List Str := ["_law_s", "_law_counts", "_law_found", "_law_due", "_law_seq", "_law_start", "_law_data_here", "_law_low", "_law_high", "_law_count"]
theorem sc_law_rows : FnScope N_law_rows ["_law_s", "_law_counts"] (defScope s_law_rows) := ⟨rfl, rfl, rfl, by decide +kernel, rfl, by decide +kernel, by decide +kernel⟩
abbrev s_law : Stmt := topS 41
abbrev N_law : List Str := ["_law_script", "_law_h", "_law_size", "_law_k", "_law_streams", "_law_turn", "_law_every", "_law_ground", "_law_has", "_law_over", "_law_mark", "_law_wants", "_law_counts", "_law_found", "_law_one", "_law_count", "_law_stream"]
theorem sc_law : FnScope N_law ["_law_script"] (defScope s_law) := ⟨rfl, rfl, rfl, by decide +kernel, rfl, by decide +kernel, by decide +kernel⟩
structure Tx (K : PySem.W.Frag) (mg : Str → Option Value) where
  A_Ground : Addr
  a_is_number : Addr
  d_is_number : FuncData
  F_is_number : Fun K "is_number" "is_number" s_is_number a_is_number d_is_number
  b_is_number : Binds K d_is_number ["value", "low", "high"] []
  m_is_number : mg "is_number" = some (.ref a_is_number)
  a_is_stream : Addr
  d_is_stream : FuncData
  F_is_stream : Fun K "is_stream" "is_stream" s_is_stream a_is_stream d_is_stream
  b_is_stream : Binds K d_is_stream ["value"] []
  m_is_stream : mg "is_stream" = some (.ref a_is_stream)
  a_holds_numbers : Addr
  d_holds_numbers : FuncData
  F_holds_numbers : Fun K "holds_numbers" "holds_numbers" s_holds_numbers a_holds_numbers d_holds_numbers
  b_holds_numbers : Binds K d_holds_numbers ["value"] []
  m_holds_numbers : mg "holds_numbers" = some (.ref a_holds_numbers)
  a_is_mark : Addr
  d_is_mark : FuncData
  F_is_mark : Fun K "is_mark" "is_mark" s_is_mark a_is_mark d_is_mark
  b_is_mark : Binds K d_is_mark ["value"] []
  m_is_mark : mg "is_mark" = some (.ref a_is_mark)
  a_is_frame : Addr
  d_is_frame : FuncData
  F_is_frame : Fun K "is_frame" "is_frame" s_is_frame a_is_frame d_is_frame
  b_is_frame : Binds K d_is_frame ["value", "size"] []
  m_is_frame : mg "is_frame" = some (.ref a_is_frame)
  a_check_stream : Addr
  d_check_stream : FuncData
  F_check_stream : Fun K "check_stream" "check_stream" s_check_stream a_check_stream d_check_stream
  b_check_stream : Binds K d_check_stream ["stream"] []
  m_check_stream : mg "check_stream" = some (.ref a_check_stream)
  a_check_size : Addr
  d_check_size : FuncData
  F_check_size : Fun K "check_size" "check_size" s_check_size a_check_size d_check_size
  b_check_size : Binds K d_check_size ["size"] []
  m_check_size : mg "check_size" = some (.ref a_check_size)
  a_check_marks : Addr
  d_check_marks : FuncData
  F_check_marks : Fun K "check_marks" "check_marks" s_check_marks a_check_marks d_check_marks
  b_check_marks : Binds K d_check_marks ["marks"] []
  m_check_marks : mg "check_marks" = some (.ref a_check_marks)
  a_rows_of : Addr
  d_rows_of : FuncData
  F_rows_of : Fun K "rows_of" "rows_of" s_rows_of a_rows_of d_rows_of
  b_rows_of : Binds K d_rows_of ["frames", "size"] []
  m_rows_of : mg "rows_of" = some (.ref a_rows_of)
  a_check_frames : Addr
  d_check_frames : FuncData
  F_check_frames : Fun K "_check_frames" "_check_frames" s_check_frames a_check_frames d_check_frames
  b_check_frames : Binds K d_check_frames ["frames", "size"] []
  m_check_frames : mg "_check_frames" = some (.ref a_check_frames)
  a_told_in : Addr
  d_told_in : FuncData
  F_told_in : Fun K "_told_in" "_told_in" s_told_in a_told_in d_told_in
  b_told_in : Binds K d_told_in ["frames", "size"] []
  m_told_in : mg "_told_in" = some (.ref a_told_in)
  a_beginnings : Addr
  d_beginnings : FuncData
  F_beginnings : Fun K "_beginnings" "_beginnings" s_beginnings a_beginnings d_beginnings
  b_beginnings : Binds K d_beginnings ["frame", "size"] []
  m_beginnings : mg "_beginnings" = some (.ref a_beginnings)
  a_laid_at : Addr
  d_laid_at : FuncData
  F_laid_at : Fun K "_laid_at" "_laid_at" s_laid_at a_laid_at d_laid_at
  b_laid_at : Binds K d_laid_at ["bodies", "place", "size"] []
  m_laid_at : mg "_laid_at" = some (.ref a_laid_at)
  a_Ground_init : Addr
  d_Ground_init : FuncData
  F_Ground_init : Fun K "__init__" "Ground.__init__" s_Ground_init a_Ground_init d_Ground_init
  b_Ground_init : Binds K d_Ground_init ["self", "size"] []
  a_Ground_hear : Addr
  d_Ground_hear : FuncData
  F_Ground_hear : Fun K "hear" "Ground.hear" s_Ground_hear a_Ground_hear d_Ground_hear
  b_Ground_hear : Binds K d_Ground_hear ["self", "frame"] []
  M_Ground_hear : Meth K A_Ground "hear" a_Ground_hear
  a_Ground_never : Addr
  d_Ground_never : FuncData
  F_Ground_never : Fun K "never" "Ground.never" s_Ground_never a_Ground_never d_Ground_never
  b_Ground_never : Binds K d_Ground_never ["self", "marks"] []
  M_Ground_never : Meth K A_Ground "never" a_Ground_never
  a_Ground_rows : Addr
  d_Ground_rows : FuncData
  F_Ground_rows : Fun K "rows" "Ground.rows" s_Ground_rows a_Ground_rows d_Ground_rows
  b_Ground_rows : Binds K d_Ground_rows ["self", "stream"] []
  M_Ground_rows : Meth K A_Ground "rows" a_Ground_rows
  a_Ground_has : Addr
  d_Ground_has : FuncData
  F_Ground_has : Fun K "has" "Ground.has" s_Ground_has a_Ground_has d_Ground_has
  b_Ground_has : Binds K d_Ground_has ["self"] []
  M_Ground_has : Meth K A_Ground "has" a_Ground_has
  a_Ground_wants : Addr
  d_Ground_wants : FuncData
  F_Ground_wants : Fun K "wants" "Ground.wants" s_Ground_wants a_Ground_wants d_Ground_wants
  b_Ground_wants : Binds K d_Ground_wants ["self"] []
  M_Ground_wants : Meth K A_Ground "wants" a_Ground_wants
  a_law_mix : Addr
  d_law_mix : FuncData
  F_law_mix : Fun K "_law_mix" "_law_mix" s_law_mix a_law_mix d_law_mix
  b_law_mix : Binds K d_law_mix ["_law_script", "_law_seed"] []
  m_law_mix : mg "_law_mix" = some (.ref a_law_mix)
  a_law_next : Addr
  d_law_next : FuncData
  F_law_next : Fun K "_law_next" "_law_next" s_law_next a_law_next d_law_next
  b_law_next : Binds K d_law_next ["_law_h", "_law_many_here"] []
  m_law_next : mg "_law_next" = some (.ref a_law_next)
  a_law_alike : Addr
  d_law_alike : FuncData
  F_law_alike : Fun K "_law_alike" "_law_alike" s_law_alike a_law_alike d_law_alike
  b_law_alike : Binds K d_law_alike ["_law_found", "_law_due"] []
  m_law_alike : mg "_law_alike" = some (.ref a_law_alike)
  a_law_data : Addr
  d_law_data : FuncData
  F_law_data : Fun K "_law_data" "_law_data" s_law_data a_law_data d_law_data
  b_law_data : Binds K d_law_data ["_law_h"] []
  m_law_data : mg "_law_data" = some (.ref a_law_data)
  a_law_fresh : Addr
  d_law_fresh : FuncData
  F_law_fresh : Fun K "_law_fresh" "_law_fresh" s_law_fresh a_law_fresh d_law_fresh
  b_law_fresh : Binds K d_law_fresh ["_law_size"] []
  m_law_fresh : mg "_law_fresh" = some (.ref a_law_fresh)
  a_law_lay : Addr
  d_law_lay : FuncData
  F_law_lay : Fun K "_law_lay" "_law_lay" s_law_lay a_law_lay d_law_lay
  b_law_lay : Binds K d_law_lay ["_law_s", "_law_data_here"] []
  m_law_lay : mg "_law_lay" = some (.ref a_law_lay)
  a_law_fill : Addr
  d_law_fill : FuncData
  F_law_fill : Fun K "_law_fill" "_law_fill" s_law_fill a_law_fill d_law_fill
  b_law_fill : Binds K d_law_fill ["_law_s"] []
  m_law_fill : mg "_law_fill" = some (.ref a_law_fill)
  a_law_many : Addr
  d_law_many : FuncData
  F_law_many : Fun K "_law_many" "_law_many" s_law_many a_law_many d_law_many
  b_law_many : Binds K d_law_many ["_law_s"] []
  m_law_many : mg "_law_many" = some (.ref a_law_many)
  a_law_frame : Addr
  d_law_frame : FuncData
  F_law_frame : Fun K "_law_frame" "_law_frame" s_law_frame a_law_frame d_law_frame
  b_law_frame : Binds K d_law_frame ["_law_s", "_law_stream", "_law_count"] []
  m_law_frame : mg "_law_frame" = some (.ref a_law_frame)
  a_law_rows : Addr
  d_law_rows : FuncData
  F_law_rows : Fun K "_law_rows" "_law_rows" s_law_rows a_law_rows d_law_rows
  b_law_rows : Binds K d_law_rows ["_law_s", "_law_counts"] []
  m_law_rows : mg "_law_rows" = some (.ref a_law_rows)
  a_law : Addr
  d_law : FuncData
  F_law : Fun K "law" "law" s_law a_law d_law
  b_law : Binds K d_law ["_law_script"] []
  m_law : mg "law" = some (.ref a_law)
  cl_Ground : Cls K A_Ground
  m_Ground : mg "Ground" = some (.ref A_Ground)
  mk_Ground : Mk K A_Ground a_Ground_init
  n_Ground_came : NoAttr K A_Ground "_came"
  n_Ground_never : NoAttr K A_Ground "_never"
  n_Ground_size : NoAttr K A_Ground "_size"
  z_all : mg "all" = none
  z_bool : mg "bool" = none
  z_enumerate : mg "enumerate" = none
  z_int : mg "int" = none
  z_isinstance : mg "isinstance" = none
  z_len : mg "len" = none
  z_list : mg "list" = none
  z_max : mg "max" = none
  z_min : mg "min" = none
  z_range : mg "range" = none
  z_sorted : mg "sorted" = none
  z_str : mg "str" = none
  z_tuple : mg "tuple" = none
  t_STREAMS : Tok
  c_STREAMS : mg "STREAMS" = some (.int 4 t_STREAMS)
  t_LEAST_SIZE : Tok
  c_LEAST_SIZE : mg "LEAST_SIZE" = some (.int 8 t_LEAST_SIZE)
  t_MOST_SIZE : Tok
  c_MOST_SIZE : mg "MOST_SIZE" = some (.int 24 t_MOST_SIZE)
  t_MOST_COUNT : Tok
  c_MOST_COUNT : mg "MOST_COUNT" = some (.int 9999 t_MOST_COUNT)
  t_HEAD : Tok
  c_HEAD : mg "HEAD" = some (.int 3 t_HEAD)
  t_HUNDRED : Tok
  c_HUNDRED : mg "HUNDRED" = some (.int 256 t_HUNDRED)
end K5

namespace K5
open PySem PySem.Spec PyProof.Rows L2 Sky
section
variable {P : Program} {w : World} {K : PySem.W.Frag} {mg : Str → Option Value} {base : Heap}
/-! ### what may be handed in -/
def sp_is_number : Sp := fun vs H Q _ => ∃ n lo hi : Int, vs = [.int n, .int lo, .int hi] ∧ Q (.bl (decide (lo ≤ n) && decide (n ≤ hi))) H
theorem ok_is_number (T : Tx K mg) : FnOk P w K mg base CX0 1 T.a_is_number T.d_is_number ["value", "low", "high"] sp_is_number := by
  have nd := sc_is_number.nd
  refine T.F_is_number.ok sc_is_number (fun vs H Q E h => ?_) (fun cdv A outer s H vs Q E hr h => ?_)
  · obtain ⟨n, lo, hi, rfl, _⟩ := h
    rfl
  · obtain ⟨n, lo, hi, rfl, q⟩ := h
    refine ⟨_, (pss_one (ps_ret (pe_and (pe_callB call_isi (by rfl) T.z_isinstance (by decide +kernel) (pa_cons (pv 0) (pa_cons (pe_bltn (v := .ty "int") (u := .type "int") (by rfl) T.z_int (by decide +kernel) rfl) pa_nil))) (pe_and (pe_not (pe_callB call_isi (by rfl) T.z_isinstance (by decide +kernel) (pa_cons (pv 0) (pa_cons (pe_bltn (v := .ty "bool") (u := .type "bool") (by rfl) T.z_bool (by decide +kernel) rfl) pa_nil)))) (pe_one (pe_chain op_le op_le (pv 1) (pv 0) (pv 2))))))), ?_⟩
    refine ⟨_, rfl, _, _, _, _, true, rfl, .ty "int", .base (.int n), kit_ty (by decide +kernel), true, rfl, iteT ?_⟩
    refine ⟨_, rfl, _, _, _, _, false, rfl, .ty "bool", .base (.int n), kit_ty (by decide +kernel), false, rfl, true, rfl, iteT ?_⟩
    refine ⟨_, rfl, _, rfl, _, _, rfl, rfl, _, rfl, ite2 (fun a => ?_) (fun a => ?_)⟩
    · refine ⟨_, rfl, _, _, rfl, rfl, ?_⟩
      rw [a, Bool.true_and] at q
      exact q
    · rw [Bool.eq_false_iff.mpr a, Bool.false_and] at q
      exact q
def sp_is_stream : Sp := fun vs H Q _ => ∃ n : Int, vs = [.int n] ∧ Q (.bl (decide (0 ≤ n) && decide (n ≤ 3))) H
theorem ok_is_stream (T : Tx K mg) : FnOk P w K mg base CX0 2 T.a_is_stream T.d_is_stream ["value"] sp_is_stream := by
  have nd := sc_is_stream.nd
  refine T.F_is_stream.ok sc_is_stream (fun vs H Q E h => ?_) (fun cdv A outer s H vs Q E hr h => ?_)
  · obtain ⟨n, rfl, _⟩ := h
    rfl
  · obtain ⟨n, rfl, q⟩ := h
    refine ⟨_, (pss_one (ps_ret (pe_call (ok_is_number T) (hr.mono (by decide)) (by rfl) T.m_is_number T.F_is_number.kp T.b_is_number .nil pass0 (pa_cons (pv 0) (pa_cons pe_int (pa_cons (pe_op op_sub (pe_glob (v := .int 4) (by rfl) T.c_STREAMS ⟨_, rfl⟩) pe_int) pa_nil)))))), ?_⟩
    exact ⟨_, rfl, 4, 1, rfl, rfl, n, 0, 3, rfl, q⟩
def sp_check_stream : Sp := fun vs H Q _ => ∃ n : Int, vs = [.int n] ∧ 0 ≤ n ∧ n ≤ 3 ∧ Q .non H
theorem ok_check_stream (T : Tx K mg) : FnOk P w K mg base CX0 3 T.a_check_stream T.d_check_stream ["stream"] sp_check_stream := by
  have nd := sc_check_stream.nd
  refine T.F_check_stream.ok sc_check_stream (fun vs H Q E h => ?_) (fun cdv A outer s H vs Q E hr h => ?_)
  · obtain ⟨n, rfl, _⟩ := h
    rfl
  · obtain ⟨n, rfl, h0, h3, q⟩ := h
    refine ⟨_, (pss_one (ps_if (pt_not (pt_val (pe_call (ok_is_stream T) (hr.mono (by decide)) (by rfl) T.m_is_stream T.F_is_stream.kp T.b_is_stream .nil pass0 (pa_cons (pv 0) pa_nil)))) (pss_one ps_never) pss_nil)), ?_⟩
    refine ⟨_, rfl, n, rfl, ?_⟩
    rw [decide_eq_true h0, decide_eq_true h3]
    exact ⟨true, rfl, iteF q⟩
def sp_check_size : Sp := fun vs H Q _ => ∃ n : Int, vs = [.int n] ∧ 8 ≤ n ∧ n ≤ 24 ∧ Q .non H
theorem ok_check_size (T : Tx K mg) : FnOk P w K mg base CX0 2 T.a_check_size T.d_check_size ["size"] sp_check_size := by
  have nd := sc_check_size.nd
  refine T.F_check_size.ok sc_check_size (fun vs H Q E h => ?_) (fun cdv A outer s H vs Q E hr h => ?_)
  · obtain ⟨n, rfl, _⟩ := h
    rfl
  · obtain ⟨n, rfl, h0, h3, q⟩ := h
    refine ⟨_, (pss_one (ps_if (pt_not (pt_val (pe_call (ok_is_number T) (hr.mono (by decide)) (by rfl) T.m_is_number T.F_is_number.kp T.b_is_number .nil pass0 (pa_cons (pv 0) (pa_cons (pe_glob (v := .int 8) (by rfl) T.c_LEAST_SIZE ⟨_, rfl⟩) (pa_cons (pe_glob (v := .int 24) (by rfl) T.c_MOST_SIZE ⟨_, rfl⟩) pa_nil)))))) (pss_one ps_never) pss_nil)), ?_⟩
    refine ⟨_, rfl, n, 8, 24, rfl, ?_⟩
    rw [decide_eq_true h0, decide_eq_true h3]
    exact ⟨true, rfl, iteF q⟩
def sp_holds_numbers : Sp := fun vs H Q _ => ∃ (a : Addr) (xs : List Int), vs = [.ref a] ∧ H a = some (.tup (xs.map V.int)) ∧ (∀ x ∈ xs, 0 ≤ x ∧ x ≤ 255) ∧ xs.length ≤ 100000 ∧ ∀ H', Same H H' → Q (.bl true) H'
theorem ok_holds_numbers (T : Tx K mg) : FnOk P w K mg base CX0 2 T.a_holds_numbers T.d_holds_numbers ["value"] sp_holds_numbers := by
  have nd := sc_holds_numbers.nd
  refine T.F_holds_numbers.ok sc_holds_numbers (fun vs H Q E h => ?_) (fun cdv A outer s H vs Q E hr h => ?_)
  · obtain ⟨n, _, rfl, _⟩ := h
    rfl
  · obtain ⟨a, xs, rfl, ha, hx, hl, q⟩ := h
    refine ⟨_, (pss_one (ps_ret (pe_and (pe_callB call_isi (by rfl) T.z_isinstance (by decide +kernel) (pa_cons (pv 0) (pa_cons (pe_bltn (v := .ty "tuple") (u := .type "tuple") (by rfl) T.z_tuple (by decide +kernel) rfl) pa_nil))) (pe_one (pe_callB (cr_all rfl) (by rfl) T.z_all (by decide +kernel) (pa_cons (pe_lc (own := [("number", 1)]) rfl nd (pi_tup (pv 0)) (blkOk_by (own := [("number", 1)]) (N := N_holds_numbers) (sc := defScope s_holds_numbers) (by decide +kernel)) (fun _ _ _ _ _ => (pg_name (i := 1) nd rfl (Or.inl rfl))) (fun _ _ _ _ _ => pts_nil) (fun _ _ _ _ _ => (pe_call (ok_is_number T) (hr.mono (by decide)) (by rfl) T.m_is_number T.F_is_number.kp T.b_is_number .nil pass0 (pa_cons (pv 1) (pa_cons pe_int (pa_cons pe_int pa_nil)))))) pa_nil)))))), ?_⟩
    refine ⟨_, rfl, _, _, _, _, true, rfl, .ty "tuple", .base (.tup ha), kit_ty (by decide +kernel), true, rfl, iteT ?_⟩
    refine ⟨_, rfl, a, rfl, ⟨_, SqT.of ha⟩, fun D hD => ?_⟩
    refine lc_tup (K := K) (a := a) (xs := xs.map V.int) (fun i H' => Same H H' ∧ H' D = some (.lst ((List.replicate i true).map V.bl))) ⟨same_new (Same.refl H) hD, upd_same⟩ (fun i H' _ p => SqT.of (p.1 _ _ ha)) ?_ ?_
    · intro i x H' hi p
      obtain ⟨n, hn, rfl⟩ := map_get hi
      have hlt : i < xs.length := (List.getElem?_eq_some_iff.mp hn).1
      have hb := hx n (List.mem_of_getElem? hn)
      refine ⟨rfl, _, rfl, n, 0, 255, rfl, ?_⟩
      rw [decide_eq_true hb.1, decide_eq_true hb.2]
      refine ⟨_, p.2, ?_, same_mut p.1 hD, ?_⟩
      · rw [List.length_map, List.length_replicate]
        exact lt_line (by omega)
      · rw [upd_same, List.replicate_succ', List.map_append]
        rfl
    · intro H' p
      refine ⟨D, List.replicate (xs.map V.int).length true, rfl, SqL.of p.2, ?_⟩
      have e : (List.replicate (xs.map V.int).length true).all id = true := by simp
      rw [e]
      exact q _ p.1
end
end K5

namespace K5
open PySem PySem.Spec PyProof.Rows L2 Sky
section
variable {P : Program} {w : World} {K : PySem.W.Frag} {mg : Str → Option Value} {base : Heap}
/-! ### frames handed in -/
def sp_is_mark : Sp := fun vs H Q _ => ∃ (m : Addr) (st c : Int), vs = [.ref m] ∧ H m = some (.tup [.int st, .int c]) ∧ 0 ≤ st ∧ st ≤ 3 ∧ 0 ≤ c ∧ c ≤ 9999 ∧ Q (.bl true) H
theorem ok_is_mark (T : Tx K mg) : FnOk P w K mg base CX0 3 T.a_is_mark T.d_is_mark ["value"] sp_is_mark := by
  have nd := sc_is_mark.nd
  refine T.F_is_mark.ok sc_is_mark (fun vs H Q E h => ?_) (fun cdv A outer s H vs Q E hr h => ?_)
  · obtain ⟨_, _, _, rfl, _⟩ := h
    rfl
  · obtain ⟨m, st, c, rfl, hm, h0, h3, c0, c9, q⟩ := h
    refine ⟨_, (pss_cons (ps_if (PW.pt (pw_or (pt_not (pt_val (pe_callB call_isi (by rfl) T.z_isinstance (by decide +kernel) (pa_cons (pv 0) (pa_cons (pe_bltn (v := .ty "tuple") (u := .type "tuple") (by rfl) T.z_tuple (by decide +kernel) rfl) pa_nil))))) (pw_or1 (pt_cmpR op_ne (pe_callB call_len_seq (by rfl) T.z_len PySem.boot_len (pa_cons (pv 0) pa_nil)) pe_int (nomark _))))) (pss_one (ps_ret pe_bl)) pss_nil) (pss_cons (ps_asg (pv 0) (pg_tup rfl (pgs_cons (pg_name (i := 1) nd rfl (Or.inl rfl)) (pgs_cons (pg_name (i := 2) nd rfl (Or.inl rfl)) pgs_nil)))) (pss_one (ps_ret (pe_and (pe_call (ok_is_stream T) (hr.mono (by decide)) (by rfl) T.m_is_stream T.F_is_stream.kp T.b_is_stream .nil pass0 (pa_cons (pv 1) pa_nil)) (pe_one (pe_call (ok_is_number T) (hr.mono (by decide)) (by rfl) T.m_is_number T.F_is_number.kp T.b_is_number .nil pass0 (pa_cons (pv 2) (pa_cons pe_int (pa_cons (pe_glob (v := .int 9999) (by rfl) T.c_MOST_COUNT ⟨_, rfl⟩) pa_nil)))))))))), ?_⟩
    refine ⟨_, rfl, _, _, _, _, true, rfl, .ty "tuple", .base (.tup hm), kit_ty (by decide +kernel), true, rfl, iteF ?_⟩
    refine ⟨_, rfl, m, _, rfl, .inr (SqT.of hm), rfl, false, ndF rfl, iteF ?_⟩
    refine ⟨_, rfl, m, _, rfl, SqT.of hm, rfl, _, _, rfl, _, _, rfl, rfl, ?_⟩
    refine ⟨_, rfl, st, rfl, ?_⟩
    rw [decide_eq_true h0, decide_eq_true h3]
    refine ⟨true, rfl, iteT ?_⟩
    refine ⟨_, rfl, c, 0, 9999, rfl, ?_⟩
    rw [decide_eq_true c0, decide_eq_true c9]
    exact q
/-- a frame of a size, of a stream -/
structure FOk (z : Nat) (st : Int) (f : Frm) : Prop where
  st0 : 0 ≤ st
  st3 : st ≤ 3
  few : f.1 ≤ 9999
  first : ∀ x, f.2.1 = some x → x < z
  len : f.2.2.length = z
  nums : ∀ b ∈ f.2.2, 0 ≤ b ∧ b ≤ 255
theorem td_frm {H : Hp} {v : V} {st : Int} {f : Frm} (h : TD H v (frmD st f)) : ∃ a b, v = .ref a ∧ H a = some (.tup [.int st, .int (f.1 : Nat), optV f.2.1, .ref b]) ∧ H b = some (.tup (f.2.2.map V.int)) := by
  unfold frmD at h
  cases h with
  | tup h t =>
    cases t with
    | cons t1 t =>
      cases t with
      | cons t2 t =>
        cases t with
        | cons t3 t =>
          cases t with
          | cons t4 t =>
            cases t
            cases t1
            cases t2
            obtain ⟨b, rfl, hb⟩ := t4.of_tl
            refine ⟨_, b, rfl, ?_, hb⟩
            cases e : f.2.1 with
            | none =>
              rw [e] at t3
              cases t3
              exact h
            | some x =>
              rw [e] at t3
              cases t3
              exact h
def sp_is_frame : Sp := fun vs H Q _ => ∃ (v : V) (z : Nat) (st : Int) (f : Frm), vs = [v, .int (z : Nat)] ∧ TD H v (frmD st f) ∧ FOk z st f ∧ z ≤ 100 ∧ ∀ H', Same H H' → Q (.bl true) H'
theorem ok_is_frame (T : Tx K mg) : FnOk P w K mg base CX0 4 T.a_is_frame T.d_is_frame ["value", "size"] sp_is_frame := by
  have nd := sc_is_frame.nd
  refine T.F_is_frame.ok sc_is_frame (fun vs H Q E h => ?_) (fun cdv A outer s H vs Q E hr h => ?_)
  · obtain ⟨_, _, _, _, rfl, _⟩ := h
    rfl
  · obtain ⟨v, z, st, f, rfl, tf, ok, hz, q⟩ := h
    obtain ⟨a, b, rfl, ha, hb⟩ := td_frm tf
    refine ⟨_, (pss_cons (ps_if (PW.pt (pw_or (pt_not (pt_val (pe_callB call_isi (by rfl) T.z_isinstance (by decide +kernel) (pa_cons (pv 0) (pa_cons (pe_bltn (v := .ty "tuple") (u := .type "tuple") (by rfl) T.z_tuple (by decide +kernel) rfl) pa_nil))))) (pw_or1 (pt_cmpR op_ne (pe_callB call_len_seq (by rfl) T.z_len PySem.boot_len (pa_cons (pv 0) pa_nil)) pe_int (nomark _))))) (pss_one (ps_ret pe_bl)) pss_nil) (pss_cons (ps_asg (pv 0) (pg_tup rfl (pgs_cons (pg_name (i := 2) nd rfl (Or.inl rfl)) (pgs_cons (pg_name (i := 3) nd rfl (Or.inl rfl)) (pgs_cons (pg_name (i := 4) nd rfl (Or.inl rfl)) (pgs_cons (pg_name (i := 5) nd rfl (Or.inl rfl)) pgs_nil)))))) (pss_one (ps_ret (pe_and (pe_call (ok_is_mark T) (hr.mono (by decide)) (by rfl) T.m_is_mark T.F_is_mark.kp T.b_is_mark .nil pass0 (pa_cons (pe_tup (pa_cons (pv 2) (pa_cons (pv 3) pa_nil))) pa_nil)) (pe_and (pe_or (pe_cmpR op_isN (pv 4) pe_non (nomark _)) (pe_one (pe_call (ok_is_number T) (hr.mono (by decide)) (by rfl) T.m_is_number T.F_is_number.kp T.b_is_number .nil pass0 (pa_cons (pv 4) (pa_cons pe_int (pa_cons (pe_op op_sub (pv 1) pe_int) pa_nil)))))) (pe_and (pe_call (ok_holds_numbers T) (hr.mono (by decide)) (by rfl) T.m_holds_numbers T.F_holds_numbers.kp T.b_holds_numbers .nil pass0 (pa_cons (pv 5) pa_nil)) (pe_one (pe_cmpR op_eq (pe_callB call_len_seq (by rfl) T.z_len PySem.boot_len (pa_cons (pv 5) pa_nil)) (pv 1) (nomark _)))))))))), ?_⟩
    refine ⟨_, rfl, _, _, _, _, true, rfl, .ty "tuple", .base (.tup ha), kit_ty (by decide +kernel), true, rfl, iteF ?_⟩
    refine ⟨_, rfl, a, _, rfl, .inr (SqT.of ha), rfl, false, ndF rfl, iteF ?_⟩
    refine ⟨_, rfl, a, _, rfl, SqT.of ha, rfl, _, _, rfl, _, _, rfl, _, _, rfl, _, _, rfl, rfl, ?_⟩
    refine ⟨_, rfl, _, rfl, (by decide : (2 : Nat) ≤ sizeLine), fun m hm => ?_⟩
    have s1 := same_new (Same.refl H) hm (o := .tup [.int st, .int (f.1 : Nat)])
    refine ⟨m, st, _, rfl, upd_same, ok.st0, ok.st3, by omega, by have := ok.few; omega, true, rfl, iteT ?_⟩
    have fin : ∀ H', Same (upd H m (.tup [.int st, .int (f.1 : Nat)])) H' → Q (.bl true) H' := fun H' s' => q H' (s1.trans s')
    generalize upd H m (.tup [.int st, .int (f.1 : Nat)]) = H1 at *
    have hb1 := s1 _ _ hb
    have tail : ∃ c, V.bl true = V.bl c ∧ (if c = true then (tAndV (tCall sp_holds_numbers [] E0 (tCons (tVar 5) tNil)) (tOp rEq (tCB (rLenSq K) (tCons (tVar 5) tNil)) (tVar 1))) [some (.ref a), some (.int (z : Nat)), some (.int st), some (.int (f.1 : Nat)), some (optV f.2.1), some (.ref b)] H1 Q else Q (.bl false) H1) := by
      refine ⟨true, rfl, iteT ?_⟩
      refine ⟨_, rfl, b, f.2.2, rfl, hb1, ok.nums, by have := ok.len; omega, fun H2 s2 => ⟨true, rfl, iteT ?_⟩⟩
      refine ⟨_, rfl, b, _, rfl, .inr (SqT.of (s2 _ _ hb1)), _, rfl, rfl, ?_⟩
      refine bl_of (by rw [List.length_map, ok.len]) (fin _ s2)
    refine ⟨_, rfl, rfl, ?_⟩
    cases e : f.2.1 with
    | none =>
      rw [e] at tail
      exact ⟨true, rfl, iteT tail⟩
    | some x =>
      rw [e] at tail
      refine ⟨false, dF (fun z => nomatch z), iteF ?_⟩
      have hx := ok.first x e
      refine ⟨_, rfl, _, rfl, _, 1, rfl, rfl, x, 0, (z : Int) - 1, rfl, ?_⟩
      rw [decide_eq_true (show (0 : Int) ≤ (x : Nat) by omega), decide_eq_true (show ((x : Nat) : Int) ≤ (z : Nat) - 1 by omega)]
      exact tail
def sp_check_frames : Sp := fun vs H Q _ => ∃ (lf : Addr) (us : List V) (z : Nat) (st : Int) (fs : List Frm), vs = [.ref lf, .int (z : Nat)] ∧ H lf = some (.lst us) ∧ TDs H us (fs.map (frmD st)) ∧ (∀ f ∈ fs, FOk z st f) ∧ (∀ f ∈ fs, ∀ g ∈ fs, f.1 = g.1 → f = g) ∧
  z ≤ 100 ∧ fs.length ≤ 1000000 ∧ ∀ H', Same H H' → Q .non H'
theorem frmD_lay {st : Int} {f : Frm} : Lay 2 (frmD st f) := by
  have h1 : Lay 1 (tlD f.2.2) := Lay.tl _
  have h2 : Lay 0 (optD f.2.1) := by
    cases f.2.1 with
    | none => exact Lay.none
    | some x => exact Lay.int _
  have h3 := Lay.tuple (f := fun d : PyData => d) (k := 1) (xs := [.int st, .int (f.1 : Nat), optD f.2.1, tlD f.2.2]) (by
    intro x hx
    simp only [List.mem_cons, List.not_mem_nil, or_false] at hx
    rcases hx with rfl | rfl | rfl | rfl
    · exact (Lay.int _).mono (by decide)
    · exact (Lay.int _).mono (by decide)
    · exact h2.mono (by decide)
    · exact h1)
  rw [List.map_id'] at h3
  exact h3
theorem ok_check_frames (T : Tx K mg) : FnOk P w K mg base CX0 5 T.a_check_frames T.d_check_frames ["frames", "size"] sp_check_frames := by
  have nd := sc_check_frames.nd
  refine T.F_check_frames.ok sc_check_frames (fun vs H Q E h => ?_) (fun cdv A outer s H vs Q E hr h => ?_)
  · obtain ⟨_, _, _, _, _, rfl, _⟩ := h
    rfl
  · obtain ⟨lf, us, z, st, fs, rfl, hlf, tus, ok, one, hz, hfs, q⟩ := h
    have hul : us.length = fs.length := by rw [tus.length, List.length_map]
    have item : ∀ (i : Nat) (y : V) (H' : Hp), Same H H' → us[i]? = some y → ∃ f, fs[i]? = some f ∧ TD H' y (frmD st f) := by
      intro i y H' s' hy
      obtain ⟨d, hd, td⟩ := tus.get hy
      obtain ⟨f, hf, rfl⟩ := map_get hd
      exact ⟨f, hf, td.mono (TSm.of_same s')⟩
    refine ⟨_, (pss_cons (ps_set (i := 2) nd rfl (Or.inl rfl) pe_dnewK) (pss_one (ps_for PassesOwn.never rfl (pi_enum (by rfl) T.z_enumerate (pa_cons (pv 0) pa_nil)) (pg_tup rfl (pgs_cons (pg_name (i := 3) nd rfl (Or.inl rfl)) (pgs_cons (pg_name (i := 4) nd rfl (Or.inl rfl)) pgs_nil))) (pss_cons (ps_if (PW.pt (pw_or (pt_not (pt_val (pe_call (ok_is_frame T) (hr.mono (by decide)) (by rfl) T.m_is_frame T.F_is_frame.kp T.b_is_frame .nil pass0 (pa_cons (pv 4) (pa_cons (pv 1) pa_nil))))) (pw_or1 (pt_cmpR op_ne (pe_ix ix_tup (pv 4) pe_int (fun _ _ => rfl)) (pe_ix ix_tup (pe_ix ix_list (pv 0) pe_int (fun _ _ => rfl)) pe_int (fun _ _ => rfl)) (nomark _))))) (pss_one ps_never) pss_nil) (pss_one (ps_if (pt_cmpR (op_neD hr.units) (pe_dsetd (pv 2) (pe_ix ix_tup (pv 4) pe_int (fun _ _ => rfl)) (pv 4) ⟨rfl, rfl, rfl, rfl⟩) (pv 4) (nomark _)) (pss_one ps_never) pss_nil)))))), ?_⟩
    intro d hd
    refine ⟨_, rfl, lf, us, rfl, SqL.of (same_new (Same.refl _) hd _ _ hlf), ?_⟩
    refine for_enum (K := K) (l := lf) (ys := us) (fun i σ H' => ∃ (v3 v4 : Option V) (kvs : List (Key × V)), σ = [some (.ref lf), some (.int (z : Nat)), some (.ref d), v3, v4] ∧ Same H H' ∧ H' d = some (.dK kvs) ∧ kvs.length ≤ i ∧
      ∀ k v, valV kvs k = some v → ∃ f ∈ fs, k = Sum.inl ((f.1 : Nat) : Int) ∧ TD H' v (frmD st f)) ⟨none, none, [], rfl, same_new (Same.refl _) hd, upd_same, Nat.le_refl _, fun k v e => by cases e⟩ (fun i σ H' _ ⟨_, _, _, _, s', _⟩ => SqL.of (s' _ _ hlf)) ?_ ?_
    · rintro i y σ H' t hy ⟨v3, v4, kvs, rfl, s', hd', hk, hkv⟩ ht
      obtain ⟨f, hf, tf⟩ := item i y H' s' hy
      have hfm : f ∈ fs := List.mem_of_getElem? hf
      have hil : i < fs.length := (List.getElem?_eq_some_iff.mp hf).1
      have s1 := same_new (Same.refl H') ht (o := .tup [.int ((i : Nat) : Int), y])
      have ndt : d ≠ t := ne_of_none hd' ht
      refine ⟨t, _, rfl, SqT.of upd_same, rfl, _, _, rfl, _, _, rfl, rfl, ?_⟩
      have tf1 := tf.mono (TSm.of_same s1)
      have hd1 : upd H' t (.tup [.int ((i : Nat) : Int), y]) d = some (.dK kvs) := s1 _ _ hd'
      have hkv1 : ∀ k v, valV kvs k = some v → ∃ f ∈ fs, k = Sum.inl ((f.1 : Nat) : Int) ∧ TD (upd H' t (.tup [.int ((i : Nat) : Int), y])) v (frmD st f) := fun k v e => by
        obtain ⟨g, hg, e1, tg⟩ := hkv k v e
        exact ⟨g, hg, e1, tg.mono (TSm.of_same s1)⟩
      have s2 : Same H (upd H' t (.tup [.int ((i : Nat) : Int), y])) := s'.trans s1
      generalize upd H' t (.tup [.int ((i : Nat) : Int), y]) = H1 at *
      -- is_frame
      refine ⟨_, rfl, _, rfl, y, z, st, f, rfl, tf1, ok f hfm, hz, fun H2 s3 => ⟨true, rfl, iteF ?_⟩⟩
      have tf2 := tf1.mono (TSm.of_same s3)
      obtain ⟨a, b, rfl, ha, hb⟩ := td_frm tf2
      -- frames[0][0]
      obtain ⟨y0, hy0⟩ : ∃ y0, us[0]? = some y0 := ⟨us[0]'(by omega), List.getElem?_eq_getElem (by omega)⟩
      obtain ⟨f0, hf0, tf0⟩ := item 0 y0 H2 (s2.trans s3) hy0
      obtain ⟨a0, b0, rfl, ha0, hb0⟩ := td_frm tf0
      refine ⟨_, rfl, a, _, 0, .int st, rfl, rfl, SqT.of ha, atI_nat (j := 0) rfl, ?_⟩
      refine ⟨_, rfl, lf, us, 0, _, rfl, rfl, SqL.of (s3 _ _ (s2 _ _ hlf)), atI_nat (j := 0) hy0, ?_⟩
      refine ⟨a0, _, 0, .int st, rfl, rfl, SqT.of ha0, atI_nat (j := 0) rfl, rfl, false, ndF rfl, iteF ?_⟩
      -- setdefault
      have hd2 := s3 _ _ hd1
      refine ⟨_, rfl, d, rfl, .inl ⟨kvs, .inl hd2⟩, _, rfl, a, _, 1, .int (f.1 : Nat), rfl, rfl, SqT.of ha, atI_nat (j := 1) rfl, _, rfl, kvs, Sum.inl ((f.1 : Nat) : Int), hd2, rfl, lt_line (by omega), ?_, ?_⟩
      · intro v hv
        obtain ⟨g, hg, e1, tg⟩ := hkv1 _ _ hv
        have e2 : f.1 = g.1 := by
          injection e1 with e1
          exact Int.ofNat.inj e1
        have e3 := one f hfm g hg e2
        subst e3
        refine ⟨_, rfl, _, _, (tg.mono (TSm.of_same s3)).dp, tf2.dp, frmD_lay.shaped (by decide), frmD_lay.shaped (by decide), _, rfl, ?_⟩
        rw [frmD_lay.refl]
        refine iteF ?_
        exact ⟨_, _, kvs, rfl, s2.trans s3, hd2, Nat.le_succ_of_le hk, fun k v e => by
          obtain ⟨g, hg, e1, tg⟩ := hkv1 k v e
          exact ⟨g, hg, e1, tg.mono (TSm.of_same s3)⟩⟩
      · intro hv
        have t3 : TSm H2 (upd H2 d (.dK (putK kvs (Sum.inl ((f.1 : Nat) : Int)) (.ref a)))) := ts_upd (TSm.refl _) (NoT.dK hd2)
        refine ⟨_, rfl, _, _, (tf2.mono t3).dp, (tf2.mono t3).dp, frmD_lay.shaped (by decide), frmD_lay.shaped (by decide), _, rfl, ?_⟩
        rw [frmD_lay.refl]
        refine iteF ?_
        refine ⟨_, _, _, rfl, same_mut (s2.trans s3) hd, upd_same, ?_, fun k v e => ?_⟩
        · rw [L2.putK_new _ hv, List.length_append]
          exact Nat.succ_le_succ hk
        · rw [valV_put] at e
          split at e
          · next e1 =>
            cases e
            exact ⟨f, hfm, e1, tf2.mono t3⟩
          · obtain ⟨g, hg, e1, tg⟩ := hkv1 k v e
            exact ⟨g, hg, e1, (tg.mono (TSm.of_same s3)).mono t3⟩
    · rintro σ H' ⟨_, _, _, rfl, s', _⟩
      exact q _ s'
end
end K5

namespace K5
open PySem PySem.Spec PyProof.Rows L2 Sky
section
variable {P : Program} {w : World} {K : PySem.W.Frag} {mg : Str → Option Value} {base : Heap}
/-! ### where tellings begin -/
abbrev stOf (L : List (Nat × List Int)) : List Nat := L.map (·.1)
/-- where the walk over a frame stands -/
def Beg (z c : Nat) (N : List Int) (L : List (Nat × List Int)) (p : Nat) (ps : List Nat) : Prop := ∃ j, ps = ((stOf L).take j).filter (inFr z c) ∧
  ((∃ a t, L[j]? = some (a, t) ∧ a = c * z + p) ∨ ((∀ i, j ≤ i → ∀ x, (stOf L)[i]? = some x → c * z + z ≤ x) ∧ (z ≤ p ∨ N[c * z + p]? = some 0)))
theorem beg_at {z c p : Nat} {N : List Int} (hp : p < z) : ((N.drop (c * z)).take z)[p]? = N[c * z + p]? := by
  rw [List.getElem?_take_of_lt hp, List.getElem?_drop]
theorem Beg.end_ {z c p : Nat} {N : List Int} {L : List (Nat × List Int)} {ps : List Nat} (h : Lays z N L) (b : Beg z c N L p ps) (hz : z ≤ p ∨ N[c * z + p]? = some 0) : ps = (stOf L).filter (inFr z c) := by
  obtain ⟨j, rfl, hj⟩ := b
  refine filter_take_all fun i hi x hx => ?_
  have hx' : c * z + z ≤ x := by
    rcases hj with ⟨a, t, e, ea⟩ | ⟨hj, _⟩
    · have h1 := h.S_at (x := a) hi (by rw [List.getElem?_map, e]; rfl) hx
      rcases hz with hz | hz
      · omega
      · have h2 := h.at e
        rw [ea, hz] at h2
        have h3 := (h.item j a t e).2.2.1
        have h4 : (0 : Int) = (t.length : Int) := Option.some.inj h2
        omega
    · exact hj i hi x hx
  unfold inFr
  simp
  omega
theorem Beg.next_ {z c p : Nat} {N : List Int} {L : List (Nat × List Int)} {ps : List Nat} (h : Lays z N L) (hz : 0 < z) (hc : c * z + z ≤ N.length) (b : Beg z c N L p ps) (hp : p < z) {x : Int} (hx : N[c * z + p]? = some x) (h0 : 0 < x) :
    ∃ n : Nat, x = (n : Int) ∧ Beg z c N L (p + (3 + n)) (ps ++ [c * z + p]) := by
  obtain ⟨j, rfl, hj⟩ := b
  rcases hj with ⟨a, t, e, ea⟩ | ⟨_, hz' | hz'⟩
  · have h2 := h.at e
    rw [ea, hx] at h2
    refine ⟨t.length, Option.some.inj h2, j + 1, ?_, ?_⟩
    · rw [List.take_add_one, List.getElem?_map, e]
      show _ = (List.take j (stOf L) ++ [a]).filter (inFr z c)
      rw [List.filter_append, List.filter_cons_of_pos (by unfold inFr; simp; omega), ea]
      rfl
    · exact h.step hz hc e ea hp
  · omega
  · rw [hx] at hz'
    cases hz'
    exact absurd h0 (by decide)
def sp_beginnings : Sp := fun vs H Q _ => ∃ (v : V) (z c : Nat) (st : Int) (N : List Int) (L : List (Nat × List Int)), vs = [v, .int (z : Nat)] ∧ TD H v (frmD st (frm z N (stOf L) c)) ∧ Lays z N L ∧ 0 < z ∧ z ≤ 100 ∧ c ≤ 9999 ∧ c * z + z ≤ N.length ∧ L.length ≤ 1000000 ∧
  ∀ r H', H' r = some (.lst ((((stOf L).filter (inFr z c)).map fun n : Nat => (n : Int)).map V.int)) → H r = none → Same H H' → Q (.ref r) H'
theorem ok_beginnings (T : Tx K mg) : FnOk P w K mg base CX0 1 T.a_beginnings T.d_beginnings ["frame", "size"] sp_beginnings := by
  have nd := sc_beginnings.nd
  refine T.F_beginnings.ok sc_beginnings (fun vs H Q E h => ?_) (fun cdv A outer s H vs Q E hr h => ?_)
  · obtain ⟨_, _, _, _, _, _, rfl, _⟩ := h
    rfl
  · obtain ⟨v, z, c, st, N, L, rfl, tf, hL, hz, hz1, hc9, hc, hLl, fin⟩ := h
    obtain ⟨a, b, rfl, ha, hb⟩ := td_frm tf
    refine ⟨_, (pss_cons (ps_asg (pv 0) (pg_tup rfl (pgs_cons (pg_name (i := 2) nd rfl (Or.inl rfl)) (pgs_cons (pg_name (i := 3) nd rfl (Or.inl rfl)) (pgs_cons (pg_name (i := 4) nd rfl (Or.inl rfl)) (pgs_cons (pg_name (i := 5) nd rfl (Or.inl rfl)) pgs_nil)))))) (pss_cons (ps_set (i := 6) nd rfl (Or.inl rfl) (pe_lst pa_nil)) (pss_cons (ps_set (i := 7) nd rfl (Or.inl rfl) (pe_ifExp (pt_cmpR op_isN (pv 4) pe_non (nomark _)) (pv 1) (pv 4))) (pss_cons (ps_while PassesOwn.never (PW.pt (pw_and (pt_cmpR op_lt (pv 7) (pv 1) (nomark _)) (pw_and1 (pt_cmpR op_gt (pe_ix ix_tup (pv 5) (pv 7) (fun _ _ => rfl)) pe_int (nomark _))))) (pss_cons (ps_expr (pe_bm PySem.F.plainAttrs_list PySem.F.slot_list_append PySem.F.type_list_append mt_append (pv 6) (pa_cons (pe_op op_add (pe_op op_mul (pv 3) (pv 1)) (pv 7)) pa_nil))) (pss_one (ps_aug (i := 7) nd rfl (Or.inl rfl) (pe_op op_add (pe_glob (v := .int 3) (by rfl) T.c_HEAD ⟨_, rfl⟩) (pe_ix ix_tup (pv 5) (pv 7) (fun _ _ => rfl))) ip_add)))) (pss_one (ps_ret (pv 6))))))), ?_⟩
    refine ⟨_, rfl, a, _, rfl, SqT.of ha, rfl, _, _, rfl, _, _, rfl, _, _, rfl, _, _, rfl, rfl, ?_⟩
    refine ⟨Nat.zero_le _, fun lp hlp => ?_⟩
    have s1 := same_new (Same.refl H) hlp (o := .lst [])
    have hb1 := s1 _ _ hb
    have hlp1 : upd H lp (.lst []) lp = some (.lst []) := upd_same
    generalize upd H lp (.lst []) = H1 at *
    -- at
    refine ⟨_, rfl, rfl, _, rfl, ?_⟩
    refine ife_skip (fun v H2 => ∃ p : Nat, v = .int (p : Nat) ∧ H2 = H1 ∧ Beg z c N L p [] ∧ p ≤ z) (fun v H2 ⟨p, ev, eh, hB, hpz⟩ => ?_) (fun e rest => ?_) (fun e rest => ?_)
    case refine_2 =>
      have e0 : (frm z N (stOf L) c).2.1 = none := by
        have := of_decide_eq_true e
        cases h : (frm z N (stOf L) c).2.1 with
        | none => rfl
        | some x => rw [h] at this; cases this
      refine ⟨_, rfl, rest _ _ ⟨z, rfl, rfl, ⟨L.length, ?_, .inr ⟨fun i hi x hx => ?_, .inl (Nat.le_refl _)⟩⟩, Nat.le_refl _⟩⟩
      · rw [List.take_of_length_le (by rw [List.length_map]; exact Nat.le_refl _)]
        exact (first_no e0).symm
      · have := (List.getElem?_eq_some_iff.mp hx).1
        rw [List.length_map] at this
        omega
    case refine_3 =>
      obtain ⟨x, h⟩ : ∃ x, (frm z N (stOf L) c).2.1 = some x := by
        cases h : (frm z N (stOf L) c).2.1 with
        | none => rw [h] at e; exact absurd (decide_eq_true rfl) e
        | some x => exact ⟨x, rfl⟩
      obtain ⟨j, h1, h2, h3⟩ := first_at h
      refine ⟨_, rfl, rest _ _ ⟨x, by rw [h]; rfl, rfl, ⟨j, h2.symm, .inl ?_⟩, Nat.le_of_lt h3⟩⟩
      rw [List.getElem?_map] at h1
      cases hj : L[j]? with
      | none => rw [hj] at h1; cases h1
      | some y =>
        rw [hj] at h1
        exact ⟨y.1, y.2, rfl, Option.some.inj h1⟩
    subst ev eh
    -- while
    refine ⟨fun m σ H' => ∃ (p : Nat) (ps : List Nat), σ = [some (.ref a), some (.int (z : Nat)), some (.int st), some (.int (c : Nat)), some (optV (frm z N (stOf L) c).2.1), some (.ref b), some (.ref lp), some (.int (p : Nat))] ∧ Beg z c N L p ps ∧
      H' lp = some (.lst ((ps.map fun n : Nat => (n : Int)).map V.int)) ∧ Same H H' ∧ m = z - p, ⟨_, p, [], rfl, hB, hlp1, s1, rfl⟩, ?_⟩
    rintro m σ H' ⟨p, ps, rfl, hB, hps, s', rfl⟩
    have hb' := s' _ _ hb
    have pslen : ps.length ≤ 1000000 := by
      obtain ⟨j, rfl, _⟩ := hB
      have h1 := List.length_filter_le (inFr z c) ((stOf L).take j)
      rw [List.length_take, List.length_map] at h1
      omega
    have done : (z ≤ p ∨ N[c * z + p]? = some 0) → Q (.ref lp) H' := fun hz' => by
      have e := hB.end_ hL hz'
      rw [e] at hps
      exact fin lp H' hps hlp s'
    refine ⟨_, rfl, _, rfl, _, _, rfl, rfl, _, rfl, ?_⟩
    by_cases hp : p < z
    · rw [decide_eq_true (show ((p : Nat) : Int) < ((z : Nat) : Int) by omega)]
      refine iteT ?_
      obtain ⟨x, hx⟩ : ∃ x, N[c * z + p]? = some x := ⟨N[c * z + p]'(by omega), List.getElem?_eq_getElem (by omega)⟩
      have hxb : ((frm z N (stOf L) c).2.2.map V.int)[p]? = some (.int x) := by
        show (((N.drop (c * z)).take z).map V.int)[p]? = _
        rw [List.getElem?_map, beg_at hp, hx]
        rfl
      refine ⟨_, rfl, _, rfl, b, _, _, _, rfl, rfl, SqT.of hb', atI_nat hxb, x, 0, rfl, rfl, _, rfl, ?_⟩
      by_cases h0 : 0 < x
      · rw [decide_eq_true h0]
        refine iteT ?_
        obtain ⟨n, rfl, hB'⟩ := hB.next_ hL hz hc hp hx h0
        refine ⟨fun σ' H'' => ∃ (ps' : List Nat), σ' = [some (.ref a), some (.int (z : Nat)), some (.int st), some (.int (c : Nat)), some (optV (frm z N (stOf L) c).2.1), some (.ref b), some (.ref lp), some (.int ((p + (3 + n) : Nat) : Int))] ∧ Beg z c N L (p + (3 + n)) ps' ∧
          H'' lp = some (.lst ((ps'.map fun n : Nat => (n : Int)).map V.int)) ∧ Same H H'', fun σ' H'' ⟨ps', e, hb2, hl2, s2⟩ => ⟨z - (p + (3 + n)), by omega, _, ps', e, hb2, hl2, s2, rfl⟩, ?_⟩
        -- places.append(count * size + at)
        refine ⟨_, rfl, .inl ⟨rfl, _, SqL.of hps⟩, _, rfl, _, rfl, _, _, rfl, rfl, .inr ⟨by omega, by omega⟩, _, rfl, _, _, rfl, rfl, ?_⟩
        refine ⟨lp, _, _, rfl, rfl, hps, lt_line (by rw [List.length_map, List.length_map]; omega), ?_⟩
        have e1 : (ps.map fun n : Nat => (n : Int)).map V.int ++ [V.int (((c : Nat) : Int) * ((z : Nat) : Int) + ((p : Nat) : Int))] = ((ps ++ [c * z + p]).map fun n : Nat => (n : Int)).map V.int := by
          rw [List.map_append, List.map_append, ← Int.natCast_mul, ← Int.natCast_add]
          rfl
        show (tAug _ _ _ : L2.TS) _ _ (upd H' lp (.lst ((ps.map fun n : Nat => (n : Int)).map V.int ++ [V.int (((c : Nat) : Int) * ((z : Nat) : Int) + ((p : Nat) : Int))])))
        rw [e1]
        have s3 := same_mut (o := .lst (((ps ++ [c * z + p]).map fun n : Nat => (n : Int)).map V.int)) s' hlp
        -- at += HEAD + body[at]
        refine ⟨_, rfl, _, rfl, _, rfl, b, _, _, _, rfl, rfl, SqT.of (s3 _ _ hb), atI_nat hxb, 3, ((n : Nat) : Int), rfl, rfl, _, _, rfl, rfl, ?_⟩
        refine ⟨ps ++ [c * z + p], ?_, hB', upd_same, s3⟩
        show _ = [some (V.ref a), some (.int (z : Nat)), some (.int st), some (.int (c : Nat)), some (optV (frm z N (stOf L) c).2.1), some (.ref b), some (.ref lp), some (.int ((p + (3 + n) : Nat) : Int))]
        rw [show ((p + (3 + n) : Nat) : Int) = ((p : Nat) : Int) + (3 + ((n : Nat) : Int)) by omega]
        rfl
      · rw [decide_eq_false h0]
        refine iteF ?_
        have hx0 : x = 0 := by
          have := (hL.nums x (List.mem_of_getElem? hx)).1
          omega
        exact ⟨_, rfl, done (.inr (by rw [hx, hx0]))⟩
    · rw [decide_eq_false (show ¬ ((p : Nat) : Int) < ((z : Nat) : Int) by omega)]
      exact iteF (iteF ⟨_, rfl, done (.inl (by omega))⟩)
/-! ### what is laid at a place -/
/-- the frames' bodies by their counts -/
structure BodAt (H : Hp) (d : Addr) (kvs : List (Key × V)) (z : Nat) (N : List Int) (cs : List Nat) : Prop where
  d : H d = some (.dK kvs)
  has : ∀ c ∈ cs, ∃ b, valV kvs (Sum.inl ((c : Nat) : Int)) = some (.ref b) ∧ H b = some (.tup (((N.drop (c * z)).take z).map V.int))
  no : ∀ c : Nat, c ∉ cs → valV kvs (Sum.inl ((c : Nat) : Int)) = none
theorem BodAt.same {H H' : Hp} {d : Addr} {kvs : List (Key × V)} {z : Nat} {N : List Int} {cs : List Nat} (h : BodAt H d kvs z N cs) (s : Same H H') : BodAt H' d kvs z N cs :=
  ⟨s _ _ h.d, fun c hc => by obtain ⟨b, e, hb⟩ := h.has c hc; exact ⟨b, e, s _ _ hb⟩, h.no⟩
theorem at_div {z x : Nat} {N : List Int} (hz : 0 < z) : ((N.drop (x / z * z)).take z)[x % z]? = N[x]? := by
  rw [beg_at (Nat.mod_lt _ hz), div_mod]
def sp_laid_at : Sp := fun vs H Q _ => ∃ (d : Addr) (kvs : List (Key × V)) (z a n : Nat) (N : List Int) (cs : List Nat), vs = [.ref d, .int (a : Nat), .int (z : Nat)] ∧ BodAt H d kvs z N cs ∧ 0 < z ∧ z ≤ 100 ∧ a / z ∈ cs ∧ N[a]? = some ((n : Nat) : Int) ∧ a + (n + 3) ≤ N.length ∧ N.length ≤ 1000000 ∧ n ≤ 100 ∧
  (covers z cs a (n + 3) = true → ∀ r H', H' r = some (.lst (((N.drop a).take (n + 3)).map V.int)) → H r = none → Same H H' → Q (.ref r) H') ∧ (covers z cs a (n + 3) = false → ∀ H', Same H H' → Q .non H')
theorem ok_laid_at (T : Tx K mg) : FnOk P w K mg base CX0 1 T.a_laid_at T.d_laid_at ["bodies", "place", "size"] sp_laid_at := by
  have nd := sc_laid_at.nd
  refine T.F_laid_at.ok sc_laid_at (fun vs H Q E h => ?_) (fun cdv A outer s H vs Q E hr h => ?_)
  · obtain ⟨_, _, _, _, _, _, _, rfl, _⟩ := h
    rfl
  · obtain ⟨d, kvs, z, a, n, N, cs, rfl, hB, hz, hz1, hac, hN, hlen, hNl, hn, finT, finF⟩ := h
    have dz : CDivN ((a : Nat) : Int) ((z : Nat) : Int) := ⟨by omega, by omega⟩
    obtain ⟨b, hv, hb⟩ := hB.has _ hac
    refine ⟨_, (pss_cons (ps_set (i := 3) nd rfl (Or.inl rfl) (pe_op op_add (pe_glob (v := .int 3) (by rfl) T.c_HEAD ⟨_, rfl⟩) (pe_ix ix_tup (pe_dget (hu_of hr) (pv 0) (pe_op op_fdivN (pv 1) (pv 2)) (fun _ _ => rfl)) (pe_op op_modN (pv 1) (pv 2)) (fun _ _ => rfl)))) (pss_cons (ps_set (i := 4) nd rfl (Or.inl rfl) (pe_lst pa_nil)) (pss_cons (ps_for PassesOwn.never rfl (pi_range2 rfl T.z_range (pa_cons (pv 1) (pa_cons (pe_op op_add (pv 1) (pv 3)) pa_nil))) (pg_name (i := 5) nd rfl (Or.inl rfl)) (pss_cons (ps_set (i := 6) nd rfl (Or.inl rfl) (pe_dget1 (hu_of hr) (pv 0) (pe_op op_fdivN (pv 5) (pv 2)) ⟨rfl, rfl, rfl, rfl⟩)) (pss_cons (ps_if (pt_cmpR op_isN (pv 6) pe_non (nomark _)) (pss_one (ps_ret pe_non)) pss_nil) (pss_one (ps_expr (pe_bm PySem.F.plainAttrs_list PySem.F.slot_list_append PySem.F.type_list_append mt_append (pv 4) (pa_cons (pe_ix ix_tup (pv 6) (pe_op op_modN (pv 5) (pv 2)) (fun _ _ => rfl)) pa_nil))))))) (pss_one (ps_ret (pv 4)))))), ?_⟩
    refine ⟨_, rfl, _, rfl, _, rfl, _, _, rfl, rfl, dz, ?_⟩
    simp only [fdiv_nat]
    have g1 := DGet.k (k := Sum.inl (((a / z : Nat) : Int))) hB.d
    rw [hv] at g1
    refine ⟨d, _, rfl, g1, _, rfl, _, rfl, _, _, rfl, rfl, (by show ((z : Nat) : Int) ≠ 0; omega), ?_⟩
    simp only [fmod_nat]
    have hba : (((N.drop (a / z * z)).take z).map V.int)[a % z]? = some (.int ((n : Nat) : Int)) := by
      rw [List.getElem?_map, at_div hz, hN]
      rfl
    refine ⟨b, _, _, _, rfl, rfl, SqT.of hb, atI_nat hba, 3, _, rfl, rfl, ?_⟩
    refine ⟨Nat.zero_le _, fun lq hlq => ?_⟩
    have s1 := same_new (Same.refl H) hlq (o := .lst [])
    -- for at in range(place, place + many)
    refine ⟨_, rfl, _, rfl, _, rfl, _, _, rfl, rfl, _, _, rfl, ⟨by omega, by omega, by omega, by omega⟩, ?_⟩
    have en : (((a : Nat) : Int) + (3 + ((n : Nat) : Int)) - ((a : Nat) : Int)).toNat = n + 3 := by omega
    show (∃ W : Nat → Nat → L2.St → Hp → Prop, _ ∧ _)
    rw [en]
    refine for_range (lo := ((a : Nat) : Int)) (n := n + 3) (fun i σ H' => ∃ v5 v6 : Option V, σ = [some (.ref d), some (.int (a : Nat)), some (.int (z : Nat)), some (.int (3 + ((n : Nat) : Int))), some (.ref lq), v5, v6] ∧ H' lq = some (.lst (((N.drop a).take i).map V.int)) ∧ Same H H' ∧ covers z cs a i = true)
      ⟨none, none, rfl, upd_same, s1, rfl⟩ ?_ ?_
    · rintro i σ H' hi ⟨v5, v6, rfl, hq, s', hcv⟩
      have hB' := hB.same s'
      rw [show ((a : Nat) : Int) + ((i : Nat) : Int) = ((a + i : Nat) : Int) by omega]
      have dzi : CDivN ((a + i : Nat) : Int) ((z : Nat) : Int) := ⟨by omega, by omega⟩
      refine ⟨_, rfl, d, rfl, .inl ⟨kvs, .inl hB'.d⟩, _, rfl, _, rfl, _, _, rfl, rfl, dzi, ?_⟩
      simp only [fdiv_nat]
      have g2 := DGet.k (k := Sum.inl ((((a + i) / z : Nat) : Int))) hB'.d
      by_cases hm : (a + i) / z ∈ cs
      · obtain ⟨b', hv', hb'⟩ := hB'.has _ hm
        rw [hv'] at g2
        refine ⟨_, g2, _, rfl, rfl, false, dF (fun z => nomatch z), iteF ?_⟩
        obtain ⟨x, hx⟩ : ∃ x, N[a + i]? = some x := ⟨N[a + i]'(by omega), List.getElem?_eq_getElem (by omega)⟩
        have hbx : (((N.drop ((a + i) / z * z)).take z).map V.int)[(a + i) % z]? = some (.int x) := by
          rw [List.getElem?_map, at_div hz, hx]
          rfl
        refine ⟨_, rfl, .inl ⟨rfl, _, SqL.of hq⟩, _, rfl, _, rfl, _, rfl, _, _, rfl, rfl, (by show ((z : Nat) : Int) ≠ 0; omega), ?_⟩
        simp only [fmod_nat]
        refine ⟨b', _, _, _, rfl, rfl, SqT.of hb', atI_nat hbx, lq, _, _, rfl, rfl, hq, ?_, ?_⟩
        · rw [List.length_map, List.length_take]
          exact lt_line (by omega)
        · refine ⟨_, _, rfl, ?_, same_mut s' hlq, ?_⟩
          · rw [upd_same, List.take_add_one, List.getElem?_drop, hx, List.map_append]
            rfl
          · rw [covers_iff] at hcv ⊢
            intro k hk
            rcases Nat.lt_succ_iff_lt_or_eq.mp hk with q | q
            · exact hcv k q
            · rw [q]; exact hm
      · rw [hB'.no _ hm] at g2
        refine ⟨_, g2, _, rfl, rfl, true, dT rfl, iteT ?_⟩
        refine finF ?_ _ s'
        rw [Bool.eq_false_iff]
        intro hc
        exact hm (covers_iff.mp hc i hi)
    · rintro σ H' ⟨v5, v6, rfl, hq, s', hcv⟩
      exact ⟨_, rfl, finT hcv lq H' hq hlq s'⟩
end
end K5

namespace K5
open PySem PySem.Spec PyProof.Rows L2 Sky
section
variable {P : Program} {w : World} {K : PySem.W.Frag} {mg : Str → Option Value} {base : Heap}
/-- what is told so far: each by its number, none that isn't whole; all that begin at such places -/
structure TolAt (H : Hp) (d : Addr) (kvs : List (Key × V)) (z : Nat) (L : List (Nat × List Int)) (cs : List Nat) (Done : Nat → Prop) : Prop where
  d : H d = some (.dK kvs)
  nd : (kvs.map (·.1)).Nodup
  sound : ∀ k v, valV kvs k = some v → ∃ j : Nat, k = Sum.inl ((j : Nat) : Int) ∧ toldJ z L cs j = true ∧ TD H v (tlD (textOf L j))
  all : ∀ j a t, L[j]? = some (a, t) → toldJ z L cs j = true → Done a → (valV kvs (Sum.inl ((j : Nat) : Int))).isSome = true
theorem toldJ_lt {z : Nat} {L : List (Nat × List Int)} {cs : List Nat} {j : Nat} (h : toldJ z L cs j = true) : ∃ a t, L[j]? = some (a, t) ∧ covers z cs a (t.length + 3) = true ∧ textOf L j = t := by
  unfold toldJ at h
  cases e : L[j]? with
  | none => rw [e] at h; cases h
  | some x =>
    rw [e] at h
    refine ⟨x.1, x.2, rfl, h, ?_⟩
    unfold textOf
    rw [e]
theorem TolAt.few {H : Hp} {d : Addr} {kvs : List (Key × V)} {z : Nat} {L : List (Nat × List Int)} {cs : List Nat} {Done : Nat → Prop} (h : TolAt H d kvs z L cs Done) : kvs.length ≤ L.length := by
  have h1 := len_of_sub (l := (List.range L.length).map fun j : Nat => (Sum.inl ((j : Nat) : Int) : Key)) h.nd fun k hk => by
    have h2 := mem_keys.mp hk
    cases e : valV kvs k with
    | none => rw [e] at h2; cases h2
    | some v =>
      obtain ⟨j, rfl, hj, _⟩ := h.sound k v e
      obtain ⟨a, t, hL, _⟩ := toldJ_lt hj
      exact List.mem_map.mpr ⟨j, List.mem_range.mpr (List.getElem?_eq_some_iff.mp hL).1, rfl⟩
  rw [List.length_map, List.length_map, List.length_range] at h1
  exact h1
theorem TolAt.keep {H H' : Hp} {d : Addr} {kvs : List (Key × V)} {z : Nat} {L : List (Nat × List Int)} {cs : List Nat} {Done Done' : Nat → Prop} (h : TolAt H d kvs z L cs Done) (s : Same H H') (hD : ∀ a, Done' a → Done a) : TolAt H' d kvs z L cs Done' :=
  ⟨s _ _ h.d, h.nd, fun k v e => by obtain ⟨j, a, b, c⟩ := h.sound k v e; exact ⟨j, a, b, c.mono (TSm.of_same s)⟩, fun j a t e hj hd => h.all j a t e hj (hD a hd)⟩
def sp_told_in : Sp := fun vs H Q _ => ∃ (lf : Addr) (us : List V) (z : Nat) (st : Int) (N : List Int) (L : List (Nat × List Int)) (cs : List Nat), vs = [.ref lf, .int (z : Nat)] ∧ H lf = some (.lst us) ∧ TDs H us ((cs.map (frm z N (stOf L))).map (frmD st)) ∧ Lays z N L ∧ 0 < z ∧ z ≤ 100 ∧
  (∀ c ∈ cs, c ≤ 9999 ∧ c * z + z ≤ N.length) ∧ cs.length ≤ 1000000 ∧ N.length ≤ 1000000 ∧ L.length ≤ 65536 ∧
  ∀ d kvs H', TolAt H' d kvs z L cs (fun a => a / z ∈ cs) → H d = none → Same H H' → Q (.ref d) H'
theorem ok_told_in (T : Tx K mg) : FnOk P w K mg base CX0 2 T.a_told_in T.d_told_in ["frames", "size"] sp_told_in := by
  have nd := sc_told_in.nd
  refine T.F_told_in.ok sc_told_in (fun vs H Q E h => ?_) (fun cdv A outer s H vs Q E hr h => ?_)
  · obtain ⟨_, _, _, _, _, _, _, rfl, _⟩ := h
    rfl
  · obtain ⟨lf, us, z, st, N, L, cs, rfl, hlf, tus, hL, hz, hz1, hcs, hcl, hNl, hLl, fin⟩ := h
    have hul : us.length = cs.length := by rw [tus.length, List.length_map, List.length_map]
    have item : ∀ (i : Nat) (y : V) (H' : Hp), Same H H' → us[i]? = some y → ∃ c, cs[i]? = some c ∧ c ∈ cs ∧ TD H' y (frmD st (frm z N (stOf L) c)) := by
      intro i y H' s' hy
      obtain ⟨d, hd, td⟩ := tus.get hy
      obtain ⟨f, hf, rfl⟩ := map_get hd
      obtain ⟨c, hc, rfl⟩ := map_get hf
      exact ⟨c, hc, List.mem_of_getElem? hc, td.mono (TSm.of_same s')⟩
    refine ⟨_, (pss_cons (ps_setDc (i := 3) (own := [("frame", 2)]) rfl nd rfl rfl (sw_trueD rfl rfl rfl (by decide +kernel)) (pi_list (pv 0)) (blkOk_by (own := [("frame", 2)]) (N := N_told_in) (sc := defScope s_told_in) (by decide +kernel)) (fun _ _ _ _ _ => (pg_name (i := 2) nd rfl (Or.inl rfl))) (fun _ _ _ _ _ => pts_nil) (fun _ _ _ _ _ => (pe_ix (ix_tupK (K := K) rfl) (pv 2) pe_int (fun _ _ => rfl))) (fun _ _ _ _ _ => (pe_ix (ix_tupK (K := K) rfl) (pv 2) pe_int (fun _ _ => rfl)))) (pss_cons (ps_set (i := 4) nd rfl (Or.inl rfl) pe_dnewK) (pss_cons (ps_for PassesOwn.never rfl (pi_list (pv 0)) (pg_name (i := 2) nd rfl (Or.inl rfl)) (pss_one (ps_for PassesOwn.never rfl (pi_list (pe_call (ok_beginnings T) (hr.mono (by decide)) (by rfl) T.m_beginnings T.F_beginnings.kp T.b_beginnings .nil pass0 (pa_cons (pv 2) (pa_cons (pv 1) pa_nil)))) (pg_name (i := 5) nd rfl (Or.inl rfl)) (pss_cons (ps_set (i := 6) nd rfl (Or.inl rfl) (pe_call (ok_laid_at T) (hr.mono (by decide)) (by rfl) T.m_laid_at T.F_laid_at.kp T.b_laid_at .nil pass0 (pa_cons (pv 3) (pa_cons (pv 5) (pa_cons (pv 1) pa_nil))))) (pss_one (ps_if (pt_cmpR op_notN (pv 6) pe_non (nomark _)) (pss_one (ps_dput (hu_of hr) (pv 4) (pe_op op_add (pe_op op_mul (pe_ix ix_list (pv 6) pe_int (fun _ _ => rfl)) (pe_glob (v := .int 256) (by rfl) T.c_HUNDRED ⟨_, rfl⟩)) (pe_ix ix_list (pv 6) pe_int (fun _ _ => rfl))) (pe_tupleOf (by rfl) T.z_tuple (pe_slice sl_list (pv 6) (po_some (pe_glob (v := .int 3) (by rfl) T.c_HEAD ⟨_, rfl⟩)) po_none)) rfl)) pss_nil)))))) (pss_one (ps_ret (pv 4)))))), ?_⟩
    -- bodies
    refine ⟨_, rfl, lf, rfl, ⟨_, SqL.of hlf⟩, fun D hD => ?_⟩
    refine dc_list (K := K) (l := lf) (ys := us) (fun i H' => Same H H' ∧ ∃ kvs : List (Key × V), H' D = some (.dK kvs) ∧ kvs.length ≤ i ∧ (∀ c ∈ cs.take i, ∃ b, valV kvs (Sum.inl ((c : Nat) : Int)) = some (.ref b) ∧ H b = some (.tup (((N.drop (c * z)).take z).map V.int))) ∧
      ∀ c : Nat, c ∉ cs.take i → valV kvs (Sum.inl ((c : Nat) : Int)) = none) ⟨same_new (Same.refl _) hD, [], upd_same, Nat.le_refl _, by simp, fun c _ => rfl⟩ (fun i H' _ p => SqL.of (p.1 _ _ hlf)) ?_ ?_
    · rintro i y H' hy ⟨s', kvs, hd', hk, has, no⟩
      obtain ⟨c, hc, hm, tf⟩ := item i y H (Same.refl _) hy
      obtain ⟨a, b, rfl, ha, hb⟩ := td_frm tf
      have hil : i < cs.length := (List.getElem?_eq_some_iff.mp hc).1
      refine ⟨rfl, _, rfl, a, _, 1, .int ((c : Nat) : Int), rfl, rfl, SqT.of (s' _ _ ha), atI_nat (j := 1) rfl, _, rfl, a, _, 3, .ref b, rfl, rfl, SqT.of (s' _ _ ha), atI_nat (j := 3) rfl, kvs, Sum.inl ((c : Nat) : Int), rfl, hd', lt_line (by omega), same_mut s' hD, _, upd_same, ?_, ?_, ?_⟩
      · have := length_putK kvs (Sum.inl ((c : Nat) : Int) : Key) (.ref b)
        omega
      · intro c' hc'
        rw [List.take_add_one, hc] at hc'
        rw [valV_put]
        by_cases e : c' = c
        · subst e
          exact ⟨b, by rw [if_pos rfl], hb⟩
        · rw [if_neg (fun q => e (by injection q with q; exact Int.ofNat.inj q))]
          rcases List.mem_append.mp hc' with q | q
          · exact has c' q
          · exact absurd (List.mem_singleton.mp q) e
      · intro c' hc'
        rw [List.take_add_one, hc] at hc'
        have e : c' ≠ c := fun e => hc' (List.mem_append_right _ (by rw [e]; exact List.mem_singleton.mpr rfl))
        rw [valV_put, if_neg (fun q => e (by injection q with q; exact Int.ofNat.inj q))]
        exact no c' fun q => hc' (List.mem_append_left _ q)
    rintro H1 ⟨s1, bkv, hd1, _, has, no⟩
    rw [List.take_of_length_le (by omega)] at has no
    have hB : BodAt H1 D bkv z N cs := ⟨hd1, fun c hc => by obtain ⟨b, e, hb⟩ := has c hc; exact ⟨b, e, s1 _ _ hb⟩, no⟩
    -- told = {}
    intro d hd
    have hlf1 := s1 _ _ hlf
    have nd0 : H d = none := s1.free hd
    have hB2 := hB.same (same_new (Same.refl H1) hd (o := .dK []))
    refine ⟨_, rfl, lf, rfl, ⟨_, SqL.of (same_new (Same.refl H1) hd _ _ hlf1)⟩, ?_⟩
    refine for_list (K := K) (a := lf) (xs := us) (fun i σ H' => ∃ (v2 v5 v6 : Option V) (kvs : List (Key × V)), σ = [some (.ref lf), some (.int (z : Nat)), v2, some (.ref D), some (.ref d), v5, v6] ∧ Same H1 H' ∧ TolAt H' d kvs z L cs (fun a => a / z ∈ cs.take i)) ?_ (fun i σ H' _ ⟨_, _, _, _, _, s', _⟩ => SqL.of (s' _ _ hlf1)) ?_ ?_
    · exact ⟨none, none, none, [], rfl, same_new (Same.refl _) hd, upd_same, by simp, (fun k v e => by cases e), (fun j a t _ _ h => by simp at h)⟩
    · rintro i y σ H' hy ⟨v2, v5, v6, kvs, rfl, s', hT⟩
      obtain ⟨c, hc, hm, tf⟩ := item i y H' (s1.trans s') hy
      obtain ⟨hc9, hcN⟩ := hcs c hm
      -- for place in beginnings(frame, size)
      refine ⟨_, rfl, _, rfl, y, z, c, st, N, L, rfl, tf, hL, hz, hz1, hc9, hcN, by omega, fun r H2 hr nr s2 => ?_⟩
      have hT2 := hT.keep s2 fun a h => h
      have ndr : d ≠ r := ne_of_none hT.d nr
      refine ⟨r, rfl, ⟨_, SqL.of hr⟩, ?_⟩
      refine for_list (K := K) (a := r) (xs := (((stOf L).filter (inFr z c)).map fun n : Nat => (n : Int)).map V.int) (fun k σ H' => ∃ (v5 v6 : Option V) (kvs : List (Key × V)), σ = [some (.ref lf), some (.int (z : Nat)), some y, some (.ref D), some (.ref d), v5, v6] ∧ Same H1 H' ∧
        H' r = some (.lst ((((stOf L).filter (inFr z c)).map fun n : Nat => (n : Int)).map V.int)) ∧ TolAt H' d kvs z L cs (fun a => a / z ∈ cs.take i ∨ a ∈ ((stOf L).filter (inFr z c)).take k)) ?_ (fun k σ H' _ ⟨_, _, _, _, _, h, _⟩ => SqL.of h) ?_ ?_
      · exact ⟨v5, v6, kvs, rfl, s'.trans s2, hr, hT2.keep (Same.refl _) fun a h => h.elim id fun q => by simp at q⟩
      · rintro k x σ H3 hx ⟨v5, v6, kvs, rfl, s3, hr3, hT3⟩
        obtain ⟨x1, hx1, rfl⟩ := map_get hx
        obtain ⟨p, hp, rfl⟩ := map_get hx1
        have hpm := List.mem_filter.mp (List.mem_of_getElem? hp)
        have hpin := hpm.2
        unfold inFr at hpin
        simp at hpin
        have hpc : p / z = c := div_eq hpin.1 hpin.2
        obtain ⟨j, hj1, hj2⟩ := List.getElem_of_mem hpm.1
        rw [List.length_map] at hj1
        obtain ⟨t, hLj⟩ : ∃ t, L[j]? = some (p, t) := by
          refine ⟨L[j].2, ?_⟩
          rw [List.getElem?_eq_getElem hj1]
          rw [List.getElem_map] at hj2
          rw [← hj2]
        obtain ⟨g1, g2, g3⟩ := hL.item j p t hLj
        have hNp := hL.at hLj
        have hTx : textOf L j = t := by unfold textOf; rw [hLj]
        have hTj : toldJ z L cs j = covers z cs p (t.length + 3) := by unfold toldJ; rw [hLj]
        -- laid = laid_at(bodies, place, size)
        have hB3 := hB.same s3
        have htl := g3.2.1
        refine ⟨_, rfl, _, rfl, _, rfl, D, bkv, z, p, t.length, N, cs, rfl, hB3, hz, hz1, by rw [hpc]; exact hm, hNp, g1, hNl, by omega, fun hcv q H4 hq nq s4 => ?_, fun hcv H4 s4 => ?_⟩
        · refine ⟨_, rfl, rfl, _, rfl, iteT ?_⟩
          rw [g2] at hq
          -- told[..] = tuple(laid[3:])
          have hj16 : j < 65536 := by omega
          refine ⟨_, rfl, 3, rfl, q, _, rfl, SqL.of hq, fun e he => .inl ⟨e, _, rfl, SqL.of upd_same, fun f hf => ?_⟩⟩
          have ecut : cutV ((laidN ((j : Nat) : Int) t).map V.int) (some 3) none = t.map V.int := by
            have e1 := cut_nat (xs := (laidN ((j : Nat) : Int) t).map V.int) (a := 3) (b := ((laidN ((j : Nat) : Int) t).map V.int).length) (by rw [List.length_map, laidN_length]; omega) (Nat.le_refl _)
            unfold cutV at e1 ⊢
            rw [HT.sIx_none]
            rw [HT.sIx_nat, Nat.min_eq_left (Nat.le_refl _)] at e1
            rw [show (some (3 : Int)) = some ((3 : Nat) : Int) from rfl, e1]
            unfold laidN
            simp
            exact List.take_of_length_le (by rw [List.length_map]; exact Nat.le_refl _)
          rw [ecut] at hf ⊢
          have nef : e ≠ f := ne_of_none upd_same hf
          have s5 := same_new (same_new (Same.refl H4) he) hf (o := .tup (t.map V.int))
          have hq5 := s5 _ _ hq
          have hf5 : upd (upd H4 e (.lst (t.map V.int))) f (.tup (t.map V.int)) f = some (.tup (t.map V.int)) := upd_same
          have hT5 := hT3.keep (s4.trans s5) fun a h => h
          have s15 := (s3.trans s4).trans s5
          have hr5 := s5 _ _ (s4 _ _ hr3)
          generalize upd (upd H4 e (.lst (t.map V.int))) f (.tup (t.map V.int)) = H5 at *
          refine ⟨_, rfl, _, rfl, q, _, 1, .int (((j : Nat) : Int).fdiv 256), rfl, rfl, SqL.of hq5, atI_nat (j := 1) rfl, _, 256, rfl, rfl, .inr (by decide), _, rfl, q, _, 2, .int (((j : Nat) : Int).fmod 256), rfl, rfl, SqL.of hq5, atI_nat (j := 2) rfl, _, _, rfl, rfl, ?_⟩
          have ekey : ((j : Nat) : Int).fdiv 256 * 256 + ((j : Nat) : Int).fmod 256 = ((j : Nat) : Int) := by
            rw [Int.fdiv_eq_ediv_of_nonneg _ (by omega), Int.fmod_eq_emod_of_nonneg _ (by omega)]
            omega
          have fw := hT5.few
          have hput : DPut H5 d (.int (((j : Nat) : Int).fdiv 256 * 256 + ((j : Nat) : Int).fmod 256)) (.ref f) (upd H5 d (.dK (putK kvs (Sum.inl ((j : Nat) : Int)) (.ref f)))) := by
            rw [ekey]
            exact .inl ⟨kvs, Sum.inl ((j : Nat) : Int), hT5.d, rfl, lt_line (by omega), rfl⟩
          refine ⟨d, _, rfl, hput, ?_⟩
          have t6 : TSm H5 (upd H5 d (.dK (putK kvs (Sum.inl ((j : Nat) : Int)) (.ref f)))) := ts_upd (TSm.refl _) (NoT.dK hT5.d)
          refine ⟨_, _, _, rfl, same_mut s15 hd, by rw [upd_ne ndr.symm]; exact hr5, upd_same, keys_put hT5.nd, fun k' v' ev => ?_, fun j' a' t' eL hj' hD' => ?_⟩
          · rw [valV_put] at ev
            split at ev
            · next ek =>
              cases ev
              exact ⟨j, ek, by rw [hTj]; exact hcv, by rw [hTx]; exact TD.tl (t6 _ _ hf5)⟩
            · obtain ⟨j', a, b, c'⟩ := hT5.sound k' v' ev
              exact ⟨j', a, b, c'.mono t6⟩
          · rw [valV_put]
            by_cases ej : j' = j
            · subst ej
              rw [if_pos rfl]
              rfl
            · rw [if_neg (fun q => ej (by injection q with q; exact Int.ofNat.inj q))]
              refine hT5.all j' a' t' eL hj' ?_
              rcases hD' with q | q
              · exact .inl q
              · rw [List.take_add_one, hp] at q
                rcases List.mem_append.mp q with q | q
                · exact .inr q
                · exfalso
                  rw [List.mem_singleton.mp q] at eL
                  exact ej (hL.one eL hLj)
        · refine ⟨_, rfl, rfl, _, rfl, iteF ?_⟩
          refine ⟨_, _, kvs, rfl, s3.trans s4, s4 _ _ hr3, (hT3.d |> s4 _ _), hT3.nd, (hT3.keep s4 fun a h => h).sound, fun j' a' t' eL hj' hD' => ?_⟩
          refine hT3.all j' a' t' eL hj' ?_
          rcases hD' with q | q
          · exact .inl q
          · rw [List.take_add_one, hp] at q
            rcases List.mem_append.mp q with q | q
            · exact .inr q
            · exfalso
              rw [List.mem_singleton.mp q] at eL
              have := hL.one eL hLj
              subst this
              rw [hTj, hcv] at hj'
              cases hj'
      · rintro σ H3 ⟨v5, v6, kvs, rfl, s3, hr3, hT3⟩
        refine ⟨_, _, _, kvs, rfl, s3, hT3.d, hT3.nd, hT3.sound, fun j a t eL hj hD => hT3.all j a t eL hj ?_⟩
        rw [List.take_add_one, hc] at hD
        rcases List.mem_append.mp hD with q | q
        · exact .inl q
        · right
          have ec : a / z = c := List.mem_singleton.mp q
          rw [List.take_of_length_le (by rw [List.length_map, List.length_map]; exact Nat.le_refl _)]
          refine List.mem_filter.mpr ⟨List.mem_map.mpr ⟨(a, t), List.mem_of_getElem? eL, rfl⟩, ?_⟩
          have h1 := div_lo z a
          have h2 := div_hi hz a
          rw [ec] at h1 h2
          unfold inFr
          simp
          omega
    · rintro σ H' ⟨v2, v5, v6, kvs, rfl, s', hT⟩
      rw [List.take_of_length_le (by omega)] at hT
      exact ⟨_, rfl, fin d kvs H' hT nd0 (s1.trans s')⟩
/-! ### rows_of -/
def sp_rows_of : Sp := fun vs H Q _ => ∃ (lf : Addr) (us : List V) (z : Nat) (st : Int) (N : List Int) (L : List (Nat × List Int)) (cs : List Nat), vs = [.ref lf, .int (z : Nat)] ∧ H lf = some (.lst us) ∧ TDs H us ((cs.map (frm z N (stOf L))).map (frmD st)) ∧ Lays z N L ∧ 8 ≤ z ∧ z ≤ 24 ∧
  0 ≤ st ∧ st ≤ 3 ∧ (∀ c ∈ cs, c ≤ 9999 ∧ c * z + z ≤ N.length) ∧ cs.length ≤ 1000000 ∧ N.length ≤ 1000000 ∧ L.length ≤ 65536 ∧
  ∀ r xs H', H' r = some (.lst xs) → TDs H' xs (rowsD L 0 (toldL z L cs)) → H r = none → Same H H' → Q (.ref r) H'
theorem frm_ok {z c : Nat} {st : Int} {N : List Int} {L : List (Nat × List Int)} (h : Lays z N L) (s0 : 0 ≤ st) (s3 : st ≤ 3) (c9 : c ≤ 9999) (hc : c * z + z ≤ N.length) : FOk z st (frm z N (stOf L) c) :=
  ⟨s0, s3, c9, fun x hx => by obtain ⟨_, _, _, h⟩ := first_at hx; exact h, by unfold frm; rw [List.length_take, List.length_drop]; omega, fun b hb => h.nums b (List.mem_of_mem_drop (List.mem_of_mem_take hb))⟩
theorem toldL_rise (z : Nat) (L : List (Nat × List Int)) (cs : List Nat) : (toldL z L cs).Pairwise (· < ·) := by
  unfold toldL
  exact List.Pairwise.filter _ List.pairwise_lt_range
theorem mem_toldL {z : Nat} {L : List (Nat × List Int)} {cs : List Nat} {j : Nat} : j ∈ toldL z L cs ↔ toldJ z L cs j = true := by
  unfold toldL
  rw [List.mem_filter, List.mem_range]
  refine ⟨fun h => h.2, fun h => ⟨?_, h⟩⟩
  obtain ⟨a, t, hL, _⟩ := toldJ_lt h
  exact (List.getElem?_eq_some_iff.mp hL).1
theorem td_gap {H : Hp} {a : Addr} {lo hi : Nat} (h : H a = some (.tup [.str "gap", .int (lo : Nat), .int (hi : Nat)])) : TD H (.ref a) (gapD lo hi) := .tup h (.cons (.str _) (.cons (.int _) (.cons (.int _) .nil)))
theorem rows_len (L : List (Nat × List Int)) : ∀ (js : List Nat) (lo : Nat), (rowsD L lo js).length ≤ 2 * js.length
  | [], _ => Nat.le_refl _
  | j :: r, lo => by
    have ih := rows_len L r (j + 1)
    show ((if lo < j then [gapD lo (j - 1)] else []) ++ (toldD j (textOf L j) :: rowsD L (j + 1) r)).length ≤ _
    rw [List.length_append, List.length_cons, List.length_cons]
    split
    · rw [List.length_singleton]; omega
    · rw [List.length_nil]; omega
theorem ok_rows_of (T : Tx K mg) : FnOk P w K mg base CX0 6 T.a_rows_of T.d_rows_of ["frames", "size"] sp_rows_of := by
  have nd := sc_rows_of.nd
  refine T.F_rows_of.ok sc_rows_of (fun vs H Q E h => ?_) (fun cdv A outer s H vs Q E hr h => ?_)
  · obtain ⟨_, _, _, _, _, _, _, rfl, _⟩ := h
    rfl
  · obtain ⟨lf, us, z, st, N, L, cs, rfl, hlf, tus, hL, h8, h24, s0, s3, hcs, hcl, hNl, hLl, fin⟩ := h
    refine ⟨_, (pss_cons (ps_expr (pe_call (ok_check_size T) (hr.mono (by decide)) (by rfl) T.m_check_size T.F_check_size.kp T.b_check_size .nil pass0 (pa_cons (pv 1) pa_nil))) (pss_cons (ps_expr (pe_call (ok_check_frames T) (hr.mono (by decide)) (by rfl) T.m_check_frames T.F_check_frames.kp T.b_check_frames .nil pass0 (pa_cons (pv 0) (pa_cons (pv 1) pa_nil)))) (pss_cons (ps_set (i := 2) nd rfl (Or.inl rfl) (pe_call (ok_told_in T) (hr.mono (by decide)) (by rfl) T.m_told_in T.F_told_in.kp T.b_told_in .nil pass0 (pa_cons (pv 0) (pa_cons (pv 1) pa_nil)))) (pss_cons (ps_set (i := 3) nd rfl (Or.inl rfl) (pe_lst pa_nil)) (pss_cons (ps_set (i := 4) nd rfl (Or.inl rfl) pe_int) (pss_cons (ps_for PassesOwn.never rfl (pi_list (pe_callB (call_sortedDk rfl) (by rfl) T.z_sorted (by decide +kernel) (pa_cons (pv 2) pa_nil))) (pg_name (i := 5) nd rfl (Or.inl rfl)) (pss_cons (ps_if (pt_cmpR op_gt (pv 5) (pv 4) (nomark _)) (pss_one (ps_expr (pe_bm PySem.F.plainAttrs_list PySem.F.slot_list_append PySem.F.type_list_append mt_append (pv 3) (pa_cons (pe_tup (pa_cons pe_str (pa_cons (pv 4) (pa_cons (pe_op op_sub (pv 5) pe_int) pa_nil)))) pa_nil)))) pss_nil) (pss_cons (ps_expr (pe_bm PySem.F.plainAttrs_list PySem.F.slot_list_append PySem.F.type_list_append mt_append (pv 3) (pa_cons (pe_tup (pa_cons pe_str (pa_cons (pv 5) (pa_cons (pe_dget (hu_of hr) (pv 2) (pv 5) (fun _ _ => rfl)) pa_nil)))) pa_nil))) (pss_one (ps_set (i := 4) nd rfl (Or.inl rfl) (pe_op op_add (pv 5) pe_int)))))) (pss_one (ps_ret (pv 3))))))))), ?_⟩
    refine ⟨_, rfl, z, rfl, by omega, by omega, ?_⟩
    refine ⟨_, rfl, _, rfl, lf, us, z, st, _, rfl, hlf, tus, ?_, ?_, by omega, by rw [List.length_map]; exact hcl, fun H1 s1 => ?_⟩
    · intro f hf
      obtain ⟨c, hc, rfl⟩ := List.mem_map.mp hf
      exact frm_ok hL s0 s3 (hcs c hc).1 (hcs c hc).2
    · intro f hf g hg e
      obtain ⟨c, hc, rfl⟩ := List.mem_map.mp hf
      obtain ⟨c', hc', rfl⟩ := List.mem_map.mp hg
      have e' : c = c' := e
      rw [e']
    refine ⟨_, rfl, _, rfl, lf, us, z, st, N, L, cs, rfl, s1 _ _ hlf, tus.mono (TSm.of_same s1), hL, by omega, by omega, hcs, hcl, hNl, hLl, fun d kvs H2 hT ndd s2 => ?_⟩
    -- rows = [], low = 0
    refine ⟨Nat.zero_le _, fun lr hlr => ?_⟩
    have s3' := same_new (Same.refl H2) hlr (o := .lst [])
    have sH : Same H H2 := s1.trans s2
    have nlr : H lr = none := sH.free hlr
    -- the keys
    obtain ⟨ks, hks⟩ := keys_ints' (kvs := kvs) fun k hk => by
      have h2 := mem_keys.mp hk
      cases e : valV kvs k with
      | none => rw [e] at h2; cases h2
      | some v =>
        obtain ⟨j, rfl, _⟩ := hT.sound k v e
        exact ⟨_, rfl⟩
    refine ⟨_, rfl, d, kvs, ks, rfl, s3' _ _ hT.d, hks, fun ys p hp hs hpn => ?_⟩
    have hndk : ks.Nodup := by
      have := hT.nd
      rw [hks] at this
      exact List.Pairwise.of_map Sum.inl (fun a b h e => h (by rw [e])) this
    have hys : ys = (toldL z L cs).map fun j : Nat => (j : Int) := by
      refine rising_same (rising_of hp hs hndk) (List.Pairwise.map _ (fun a b h => Int.ofNat_lt.mpr h) (toldL_rise z L cs)) fun x => ?_
      rw [hp.mem_iff]
      have h1 : x ∈ ks ↔ (valV kvs (Sum.inl x)).isSome = true := by
        rw [← mem_keys, hks]
        exact ⟨fun h => List.mem_map.mpr ⟨x, h, rfl⟩, fun h => by obtain ⟨y, hy, e⟩ := List.mem_map.mp h; cases e; exact hy⟩
      rw [h1]
      constructor
      · intro h
        cases e : valV kvs (Sum.inl x) with
        | none => rw [e] at h; cases h
        | some v =>
          obtain ⟨j, ej, hj, _⟩ := hT.sound _ v e
          injection ej with ej
          exact List.mem_map.mpr ⟨j, mem_toldL.mpr hj, ej.symm⟩
      · intro h
        obtain ⟨j, hj, rfl⟩ := List.mem_map.mp h
        have hj' := mem_toldL.mp hj
        obtain ⟨a, t, hLj, hcv, _⟩ := toldJ_lt hj'
        refine hT.all j a t hLj hj' ?_
        have := covers_iff.mp hcv 0 (by omega)
        rw [Nat.add_zero] at this
        exact this
    subst hys
    have s4 : Same H2 (upd (upd H2 lr (.lst [])) p (.lst (((toldL z L cs).map fun j : Nat => (j : Int)).map V.int))) := same_new s3' hpn
    have hp4 : upd (upd H2 lr (.lst [])) p (.lst (((toldL z L cs).map fun j : Nat => (j : Int)).map V.int)) p = some (.lst (((toldL z L cs).map fun j : Nat => (j : Int)).map V.int)) := upd_same
    have npl : lr ≠ p := ne_of_none upd_same hpn
    have hlr4 : upd (upd H2 lr (.lst [])) p (.lst (((toldL z L cs).map fun j : Nat => (j : Int)).map V.int)) lr = some (.lst []) := by rw [upd_ne npl]; exact upd_same
    have hT4 := hT.keep s4 fun a h => h
    have sH4 : Same H (upd (upd H2 lr (.lst [])) p (.lst (((toldL z L cs).map fun j : Nat => (j : Int)).map V.int))) := sH.trans s4
    generalize upd (upd H2 lr (.lst [])) p (.lst (((toldL z L cs).map fun j : Nat => (j : Int)).map V.int)) = H4 at *
    refine ⟨p, rfl, ⟨_, SqL.of hp4⟩, ?_⟩
    have hjl : (toldL z L cs).length ≤ L.length := by
      unfold toldL
      have := List.length_filter_le (toldJ z L cs) (List.range L.length)
      rw [List.length_range] at this
      exact this
    have ndl : d ≠ lr := ne_of hT4.d hlr4 (by intro e; cases e)
    have npl4 : p ≠ lr := npl.symm
    refine for_list (K := K) (a := p) (xs := ((toldL z L cs).map fun j : Nat => (j : Int)).map V.int) (fun i σ H' => ∃ (v5 : Option V) (lo : Nat) (xs : List V), σ = [some (.ref lf), some (.int (z : Nat)), some (.ref d), some (.ref lr), some (.int (lo : Nat)), v5] ∧ lo = ((toldL z L cs).take i).foldl (fun _ x => x + 1) 0 ∧
      H' lr = some (.lst xs) ∧ TDs H' xs (rowsD L 0 ((toldL z L cs).take i)) ∧ Keep [lr] H4 H') ⟨none, 0, [], rfl, rfl, hlr4, .nil, Keep.refl _ _⟩ (fun i σ H' _ ⟨_, _, _, _, _, _, _, k⟩ => SqL.of (k _ _ (by simp [npl4]) hp4)) ?_ ?_
    · rintro i y σ H' hy ⟨v5, lo, xs, rfl, hlo, hx, tx, k⟩
      obtain ⟨x1, hx1, rfl⟩ := map_get hy
      obtain ⟨j, hj, rfl⟩ := map_get hx1
      have hjt := mem_toldL.mp (List.mem_of_getElem? hj)
      have hd' := k _ _ (by simp [ndl]) hT4.d
      have xl : xs.length ≤ 2 * L.length := by
        rw [tx.length]
        have h1 := rows_len L ((toldL z L cs).take i) 0
        rw [List.length_take] at h1
        omega
      obtain ⟨a, t, hLj, _, hTx⟩ := toldJ_lt hjt
      obtain ⟨v, hv⟩ : ∃ v, valV kvs (Sum.inl ((j : Nat) : Int)) = some v := by
        have := hT4.all j a t hLj hjt (by
          have := covers_iff.mp (toldJ_lt hjt |>.choose_spec.choose_spec.2.1) 0 (by omega)
          obtain ⟨a', t', e1, e2, _⟩ := toldJ_lt hjt
          rw [hLj] at e1
          cases e1
          have := covers_iff.mp e2 0 (by omega)
          rw [Nat.add_zero] at this
          exact this)
        cases e : valV kvs (Sum.inl ((j : Nat) : Int)) with
        | none => rw [e] at this; cases this
        | some v => exact ⟨v, rfl⟩
      obtain ⟨j', ej, _, tv⟩ := hT4.sound _ v hv
      have ej' : j' = j := by injection ej with ej; exact (Int.ofNat.inj ej).symm
      subst ej'
      rw [List.take_add_one, hj]
      show tSeq _ _ _ _ _
      -- what comes behind the gap
      refine ⟨_, rfl, _, rfl, _, _, rfl, rfl, _, rfl, ?_⟩
      refine if_skip (fun H5 => ∃ xs', H5 lr = some (.lst xs') ∧ TDs H5 xs' (rowsD L 0 ((toldL z L cs).take i) ++ (if lo < j' then [gapD lo (j' - 1)] else [])) ∧ Keep [lr] H4 H5) (fun H5 ⟨xs', hx5, tx5, k5⟩ => ?_) (fun e rest => ?_) (fun e => ?_)
      case refine_2.refine_3.refine_1.refine_2 =>
        have e0 : lo < j' := by have := of_decide_eq_true e; omega
        refine ⟨_, rfl, .inl ⟨rfl, _, SqL.of hx⟩, _, rfl, _, rfl, _, 1, rfl, rfl, (by decide : (3 : Nat) ≤ sizeLine), fun b hb => ?_⟩
        have e1 : ((j' : Nat) : Int) - 1 = ((j' - 1 : Nat) : Int) := by omega
        simp only [e1]
        have nlb : lr ≠ b := ne_of_none hx hb
        refine ⟨lr, xs, _, rfl, rfl, (by rw [upd_ne nlb]; exact hx), lt_line (by omega), ?_⟩
        refine rest _ ⟨xs ++ [.ref b], upd_same, ?_, keep_upd (keep_new' k hb) (by simp)⟩
        rw [if_pos e0]
        have t5 : TSm H' (upd H' b (.tup [.str "gap", .int ((lo : Nat) : Int), .int ((j' - 1 : Nat) : Int)])) := TSm.of_same (same_new (Same.refl _) hb)
        exact ((tx.mono t5).app (.one (td_gap upd_same))).mono (ts_upd (TSm.refl _) (NoT.lst (by rw [upd_ne nlb]; exact hx)))
      case refine_2.refine_3.refine_1.refine_3 =>
        have e0 : ¬ lo < j' := fun h => e (decide_eq_true (by omega))
        rw [if_neg e0, List.append_nil]
        exact ⟨xs, hx, tx, k⟩
      have hd5 := k5 _ _ (by simp [ndl]) hT4.d
      have tv5 : TD H5 v (tlD (textOf L j')) := tv.mono (k5.ts (by intro m hm; rw [List.mem_singleton.mp hm]; exact NoT.lst hlr4))
      have g1 := DGet.k (k := Sum.inl (((j' : Nat) : Int))) hd5
      rw [hv] at g1
      have xl5 : xs'.length ≤ 2 * L.length + 1 := by
        rw [tx5.length, List.length_append]
        have h1 := rows_len L ((toldL z L cs).take i) 0
        rw [List.length_take] at h1
        split
        · rw [List.length_singleton]; omega
        · rw [List.length_nil]; omega
      refine ⟨_, rfl, .inl ⟨rfl, _, SqL.of hx5⟩, _, rfl, _, rfl, _, rfl, d, v, rfl, g1, (by decide : (3 : Nat) ≤ sizeLine), fun b hb => ?_⟩
      have nlb : lr ≠ b := ne_of_none hx5 hb
      refine ⟨lr, xs', _, rfl, rfl, (by rw [upd_ne nlb]; exact hx5), lt_line (by omega), ?_⟩
      refine ⟨_, rfl, _, 1, rfl, rfl, ?_⟩
      refine ⟨_, j' + 1, xs' ++ [.ref b], rfl, ?_, upd_same, ?_, keep_upd (keep_new' k5 hb) (by simp)⟩
      · exact (lo_snoc _ _ _).symm
      · have t5 : TSm H5 (upd H5 b (.tup [.str "told", .int ((j' : Nat) : Int), v])) := TSm.of_same (same_new (Same.refl _) hb)
        show TDs _ _ (rowsD L 0 ((toldL z L cs).take i ++ [j']))
        rw [rowsD_snoc, ← hlo]
        show TDs _ _ (rowsD L 0 ((toldL z L cs).take i) ++ ((if lo < j' then [gapD lo (j' - 1)] else []) ++ [toldD j' (textOf L j')]))
        rw [← List.append_assoc]
        exact ((tx5.mono t5).app (.one (.tup upd_same (.cons (.str _) (.cons (.int _) (.cons (tv5.mono t5) .nil)))))).mono (ts_upd (TSm.refl _) (NoT.lst (by rw [upd_ne nlb]; exact hx5)))
    · rintro σ H' ⟨v5, lo, xs, rfl, _, hx, tx, k⟩
      rw [List.take_of_length_le (by rw [List.length_map, List.length_map]; exact Nat.le_refl _)] at tx
      refine ⟨_, rfl, fin lr xs H' hx tx nlr ?_⟩
      exact k.same sH4 (by intro m hm; rw [List.mem_singleton.mp hm]; exact nlr)
end
end K5

namespace K5
open PySem PySem.Spec PyProof.Rows L2 Sky
def GF : List Str := ["_size", "_came", "_never"]
theorem GF_nd : GF.Nodup := by decide +kernel
def gf (z : Int) (lc nv : Addr) : List (Str × V) := GF.zip [.int z, .ref lc, .ref nv]
section
variable {z : Int} {lc nv : Addr}
theorem gf_size : (gf z lc nv).lookup ("_size" : Str) = some (.int z) := lookup_zip GF _ 0 _ GF_nd rfl rfl
theorem gf_came : (gf z lc nv).lookup ("_came" : Str) = some (.ref lc) := lookup_zip GF _ 1 _ GF_nd rfl rfl
theorem gf_never : (gf z lc nv).lookup ("_never" : Str) = some (.ref nv) := lookup_zip GF _ 2 _ GF_nd rfl rfl
end
/-- a ground stands: cm, what came of each stream; nev, the marks that never come -/
structure GAt (C : Addr) (H : Hp) (g dx lc nv : Addr) (ds : List Addr) (z : Nat) (cm : List (List (Key × V))) (nev : List (List Key × V)) : Prop where
  o : H g = some (.ins C dx (gf (z : Nat) lc nv))
  l : H lc = some (.lst (ds.map V.ref))
  four : ds.length = 4
  cl : cm.length = 4
  d : ∀ (i : Nat) (a : Addr) (kvs : List (Key × V)), ds[i]? = some a → cm[i]? = some kvs → H a = some (.dK kvs)
  apart : ds.Nodup
  n : H nv = some (.dT nev)
theorem GAt.same {C : Addr} {H H' : Hp} {g dx lc nv : Addr} {ds : List Addr} {z : Nat} {cm : List (List (Key × V))} {nev : List (List Key × V)} (h : GAt C H g dx lc nv ds z cm nev) (k : Same H H') : GAt C H' g dx lc nv ds z cm nev :=
  ⟨k _ _ h.o, k _ _ h.l, h.four, h.cl, fun i a kvs e1 e2 => k _ _ (h.d i a kvs e1 e2), h.apart, k _ _ h.n⟩
/-- one more came -/
theorem GAt.put {C : Addr} {H : Hp} {g dx lc nv : Addr} {ds : List Addr} {z : Nat} {cm : List (List (Key × V))} {nev : List (List Key × V)} (h : GAt C H g dx lc nv ds z cm nev) {s : Nat} {a : Addr} {kvs kvs' : List (Key × V)} (ha : ds[s]? = some a) (hk : cm[s]? = some kvs) :
    GAt C (upd H a (.dK kvs')) g dx lc nv ds z (cm.set s kvs') nev := by
  have hd := h.d s a kvs ha hk
  refine ⟨?_, ?_, h.four, by rw [List.length_set]; exact h.cl, fun i b xs e1 e2 => ?_, h.apart, ?_⟩
  · rw [upd_ne (ne_of h.o hd (by intro e; cases e))]; exact h.o
  · rw [upd_ne (ne_of h.l hd (by intro e; cases e))]; exact h.l
  · by_cases hi : i = s
    · subst hi
      have hlt := (List.getElem?_eq_some_iff.mp hk).1
      rw [List.getElem?_set_self hlt] at e2
      have e3 : b = a := Option.some.inj (e1.symm.trans ha)
      rw [e3, ← Option.some.inj e2]
      exact upd_same
    · rw [List.getElem?_set_ne (fun e => hi e.symm)] at e2
      have nba : b ≠ a := fun e => by
        subst e
        have h1 := (List.getElem?_eq_some_iff.mp e1).1
        exact hi ((List.getElem?_inj h1 h.apart).mp (e1.trans ha.symm))
      rw [upd_ne nba]
      exact h.d i b xs e1 e2
  · rw [upd_ne (ne_of h.n hd (by intro e; cases e))]; exact h.n
section
variable {P : Program} {w : World} {K : PySem.W.Frag} {mg : Str → Option Value} {base : Heap}
theorem putK_fresh {kvs : List (Key × V)} {k : Key} {v : V} (h : k ∉ kvs.map (·.1)) : putK kvs k v = kvs ++ [(k, v)] := by
  unfold putK
  rw [if_neg]
  rw [List.any_eq_true]
  rintro ⟨kv, hm, e⟩
  exact h (List.mem_map.mpr ⟨kv, hm, of_decide_eq_true e⟩)
/-! ### hear -/
def sp_hear (C : Addr) : Sp := fun vs H Q _ => ∃ (g dx lc nv a : Addr) (v : V) (ds : List Addr) (z s : Nat) (f : Frm) (cm : List (List (Key × V))) (nev : List (List Key × V)) (kvs : List (Key × V)), vs = [.ref g, v] ∧ GAt C H g dx lc nv ds z cm nev ∧
  TD H v (frmD ((s : Nat) : Int) f) ∧ FOk z ((s : Nat) : Int) f ∧ z ≤ 100 ∧ ds[s]? = some a ∧ cm[s]? = some kvs ∧ kvs.length ≤ 1000000 ∧
  ((Sum.inl ((f.1 : Nat) : Int) : Key) ∈ kvs.map (·.1) → ∀ H', Same H H' → Q (.bl false) H') ∧
  ((Sum.inl ((f.1 : Nat) : Int) : Key) ∉ kvs.map (·.1) → ∀ H', GAt C H' g dx lc nv ds z (cm.set s (kvs ++ [(Sum.inl ((f.1 : Nat) : Int), v)])) nev → Keep [a] H H' → Dom H H' → Q (.bl true) H')
theorem ok_Ground_hear (T : Tx K mg) : FnOk P w K mg base CX0 5 T.a_Ground_hear T.d_Ground_hear ["self", "frame"] (sp_hear T.A_Ground) := by
  have nd := sc_Ground_hear.nd
  refine T.F_Ground_hear.ok sc_Ground_hear (fun vs H Q E h => ?_) (fun cdv A outer s H vs Q E hr h => ?_)
  · obtain ⟨_, _, _, _, _, _, _, _, _, _, _, _, _, rfl, _⟩ := h
    rfl
  · obtain ⟨g, dx, lc, nv, a, v, ds, z, s0, f, cm, nev, kvs, rfl, hG, td, ok, hz, ha, hk, hkl, old, new⟩ := h
    refine ⟨_, (pss_cons (ps_if (pt_not (pt_val (pe_call (ok_is_frame T) (hr.mono (by decide)) (by rfl) T.m_is_frame T.F_is_frame.kp T.b_is_frame .nil pass0 (pa_cons (pv 1) (pa_cons (pe_fld (pv 0) rfl) pa_nil))))) (pss_one ps_never) pss_nil) (pss_cons (ps_par (i := 2) (j := 3) rfl nd rfl rfl (by decide) rfl rfl (pa_cons (pe_ix ix_tup (pv 1) pe_int (fun _ _ => rfl)) (pa_cons (pe_ix ix_tup (pv 1) pe_int (fun _ _ => rfl)) pa_nil)) (by rfl)) (pss_cons (ps_if (pt_cmp (pc_din (hu_of hr) (pv 3) (pe_ix ix_list (pe_fld (pv 0) rfl) (pv 2) (fun _ _ => rfl)))) (pss_one (ps_ret pe_bl)) pss_nil) (pss_cons (ps_dput (hu_of hr) (pe_ix ix_list (pe_fld (pv 0) rfl) (pv 2) (fun _ _ => rfl)) (pv 3) (pv 1) rfl) (pss_one (ps_ret pe_bl)))))), ?_⟩
    refine ⟨_, rfl, _, rfl, g, _, dx, _, _, rfl, hG.o, T.cl_Ground, T.n_Ground_size, gf_size, v, z, _, f, rfl, td, ok, hz, fun H1 s1 => ⟨true, rfl, iteF ?_⟩⟩
    have hG1 := hG.same s1
    obtain ⟨b, bb, rfl, hb, hbb⟩ := td_frm (td.mono (TSm.of_same s1))
    refine ⟨_, rfl, b, _, 0, _, rfl, rfl, SqT.of hb, atI_nat (j := 0) rfl, _, rfl, b, _, 1, _, rfl, rfl, SqT.of hb, atI_nat (j := 1) rfl, _, _, rfl, ?_⟩
    have had : (ds.map V.ref)[s0]? = some (.ref a) := by rw [List.getElem?_map, ha]; rfl
    have hd1 := hG1.d s0 a kvs ha hk
    refine ⟨_, rfl, _, rfl, g, _, dx, _, _, rfl, hG1.o, T.cl_Ground, T.n_Ground_came, gf_came, _, rfl, lc, _, _, .ref a, rfl, rfl, SqL.of hG1.l, atI_nat had, a, _, rfl, DGet.k (k := Sum.inl ((f.1 : Nat) : Int)) hd1, _, rfl, ?_⟩
    refine ite2 (fun e => ?_) (fun e => ?_)
    · exact old (mem_keys.mpr e) _ s1
    · have hnot : (Sum.inl ((f.1 : Nat) : Int) : Key) ∉ kvs.map (·.1) := fun z => e (mem_keys.mp z)
      refine ⟨_, rfl, _, rfl, g, _, dx, _, _, rfl, hG1.o, T.cl_Ground, T.n_Ground_came, gf_came, _, rfl, lc, _, _, .ref a, rfl, rfl, SqL.of hG1.l, atI_nat had, _, rfl, a, _, rfl, DPut.k (k := Sum.inl ((f.1 : Nat) : Int)) hd1 (lt_line (by omega)), ?_⟩
      rw [putK_fresh hnot]
      exact new hnot _ (hG1.put ha hk) (keep_upd (Keep.of_same s1) (by simp)) ((Dom.of_same s1).upd _ _)
/-! ### rows -/
def sp_rows (C : Addr) : Sp := fun vs H Q _ => ∃ (g dx lc nv a : Addr) (ds : List Addr) (z s : Nat) (N : List Int) (L : List (Nat × List Int)) (cs : List Nat) (cm : List (List (Key × V))) (nev : List (List Key × V)) (kvs : List (Key × V)), vs = [.ref g, .int ((s : Nat) : Int)] ∧ GAt C H g dx lc nv ds z cm nev ∧
  ds[s]? = some a ∧ cm[s]? = some kvs ∧ TDs H (kvs.map (·.2)) ((cs.map (frm z N (stOf L))).map (frmD ((s : Nat) : Int))) ∧ Lays z N L ∧ 8 ≤ z ∧ z ≤ 24 ∧ (∀ c ∈ cs, c ≤ 9999 ∧ c * z + z ≤ N.length) ∧ cs.length ≤ 1000000 ∧ N.length ≤ 1000000 ∧ L.length ≤ 65536 ∧
  ∀ r xs H', H' r = some (.lst xs) → TDs H' xs (rowsD L 0 (toldL z L cs)) → H r = none → Same H H' → Q (.ref r) H'
theorem ok_Ground_rows (T : Tx K mg) : FnOk P w K mg base CX0 7 T.a_Ground_rows T.d_Ground_rows ["self", "stream"] (sp_rows T.A_Ground) := by
  have nd := sc_Ground_rows.nd
  refine T.F_Ground_rows.ok sc_Ground_rows (fun vs H Q E h => ?_) (fun cdv A outer s H vs Q E hr h => ?_)
  · obtain ⟨_, _, _, _, _, _, _, _, _, _, _, _, _, _, rfl, _⟩ := h
    rfl
  · obtain ⟨g, dx, lc, nv, a, ds, z, s0, N, L, cs, cm, nev, kvs, rfl, hG, ha, hk, td, hL, hz8, hz24, hcs, hcl, hN, hLl, fin⟩ := h
    have hs4 : s0 < 4 := by
      have := (List.getElem?_eq_some_iff.mp ha).1
      rw [hG.four] at this
      exact this
    refine ⟨_, (pss_cons (ps_expr (pe_call (ok_check_stream T) (hr.mono (by decide)) (by rfl) T.m_check_stream T.F_check_stream.kp T.b_check_stream .nil pass0 (pa_cons (pv 1) pa_nil))) (pss_one (ps_ret (pe_call (ok_rows_of T) (hr.mono (by decide)) (by rfl) T.m_rows_of T.F_rows_of.kp T.b_rows_of .nil pass0 (pa_cons (pe_listVals rfl (by rfl) T.z_list (pe_ix ix_list (pe_fld (pv 0) rfl) (pv 1) (fun _ _ => rfl))) (pa_cons (pe_fld (pv 0) rfl) pa_nil)))))), ?_⟩
    refine ⟨_, rfl, _, rfl, (by omega), (by omega), ?_⟩
    have had : (ds.map V.ref)[s0]? = some (.ref a) := by rw [List.getElem?_map, ha]; rfl
    refine ⟨_, rfl, g, _, dx, _, _, rfl, hG.o, T.cl_Ground, T.n_Ground_came, gf_came, _, rfl, lc, _, _, .ref a, rfl, rfl, SqL.of hG.l, atI_nat had, a, kvs, rfl, hG.d s0 a kvs ha hk, fun x hx => ?_⟩
    have s1 := same_new (Same.refl H) hx (o := .lst (kvs.map (·.2)))
    have hG1 := hG.same s1
    refine ⟨_, rfl, g, _, dx, _, _, rfl, hG1.o, T.cl_Ground, T.n_Ground_size, gf_size, x, _, z, _, N, L, cs, rfl, upd_same, td.mono (TSm.of_same s1), hL, hz8, hz24, (by omega), (by omega), hcs, hcl, hN, hLl, fun r xs H' hr' tr nr s' => ?_⟩
    exact fin r xs H' hr' tr (s1.free nr) (s1.trans s')
/-! ### __init__ -/
def sp_ginit (C : Addr) : Sp := fun vs H Q _ => ∃ (g dx : Addr) (z : Nat), vs = [.ref g, .int (z : Nat)] ∧ H g = some (.ins C dx []) ∧ 8 ≤ z ∧ z ≤ 24 ∧
  ∀ lc nv ds H', GAt C H' g dx lc nv ds z (List.replicate 4 []) [] → H lc = none → H nv = none → (∀ d ∈ ds, H d = none) → Keep [g] H H' → Dom H H' → Q .non H'
theorem ok_Ground_init (T : Tx K mg) : FnOk P w K mg base CX0 3 T.a_Ground_init T.d_Ground_init ["self", "size"] (sp_ginit T.A_Ground) := by
  have nd := sc_Ground_init.nd
  refine T.F_Ground_init.ok sc_Ground_init (fun vs H Q E h => ?_) (fun cdv A outer s H vs Q E hr h => ?_)
  · obtain ⟨_, _, _, rfl, _⟩ := h
    rfl
  · obtain ⟨g, dx, z, rfl, hg, hz8, hz24, fin⟩ := h
    refine ⟨_, (pss_cons (ps_expr (pe_call (ok_check_size T) (hr.mono (by decide)) (by rfl) T.m_check_size T.F_check_size.kp T.b_check_size .nil pass0 (pa_cons (pv 1) pa_nil))) (pss_cons (ps_fld (pv 0) (pv 1) rfl) (pss_cons (ps_fld (pv 0) (pe_lc (own := [("_", 2)]) rfl nd (pi_range1 rfl T.z_range (pa_cons (pe_glob (v := .int 4) (by rfl) T.c_STREAMS ⟨_, rfl⟩) pa_nil)) (blkOk_by (own := [("_", 2)]) (N := N_Ground_init) (sc := defScope s_Ground_init) (by decide +kernel)) (fun _ _ _ _ _ => (pg_name (i := 2) nd rfl (Or.inl rfl))) (fun _ _ _ _ _ => pts_nil) (fun _ _ _ _ _ => pe_dnewK)) rfl) (pss_one (ps_fld (pv 0) pe_dnewT rfl))))), ?_⟩
    refine ⟨_, rfl, z, rfl, (by omega), (by omega), ?_⟩
    refine ⟨_, rfl, _, rfl, g, _, dx, _, rfl, hg, T.cl_Ground, T.n_Ground_size, (by decide), ?_⟩
    rw [show putF "_size" (V.int ((z : Nat) : Int)) [] = (GF.take 1).zip [.int ((z : Nat) : Int)] from rfl]
    have k1 : Keep [g] H (upd H g (.ins T.A_Ground dx ((GF.take 1).zip [.int ((z : Nat) : Int)]))) := keep_upd (Keep.refl _ _) (by simp)
    have d1 : Dom H (upd H g (.ins T.A_Ground dx ((GF.take 1).zip [.int ((z : Nat) : Int)]))) := dom_upd _ _ _
    have hg1 : upd H g (.ins T.A_Ground dx ((GF.take 1).zip [.int ((z : Nat) : Int)])) g = some (.ins T.A_Ground dx ((GF.take 1).zip [.int ((z : Nat) : Int)])) := upd_same
    generalize upd H g (.ins T.A_Ground dx ((GF.take 1).zip [.int ((z : Nat) : Int)])) = H1 at *
    -- [{} for _ in range(4)]
    refine ⟨4, rfl, by decide, by decide, fun D hD => ?_⟩
    have ngD : g ≠ D := ne_of_none hg1 hD
    refine lc_range (lo := 0) (n := 4) (fun i H' => ∃ ds : List Addr, H' D = some (.lst (ds.map V.ref)) ∧ ds.length = i ∧ ds.Nodup ∧ (∀ d ∈ ds, H' d = some (.dK []) ∧ H1 d = none ∧ d ≠ D) ∧ Same H1 H') ⟨[], upd_same, rfl, by simp, by simp, same_new (Same.refl _) hD⟩ ?_ ?_
    · rintro i H' hi ⟨ds, hds, hl, hnd, hall, s'⟩
      refine ⟨rfl, fun d hd => ?_⟩
      have nDd : D ≠ d := ne_of_none hds hd
      refine ⟨_, (by rw [upd_ne nDd]; exact hds), lt_line (by rw [List.length_map]; omega), ds ++ [d], by rw [upd_same, List.map_append]; rfl, by rw [List.length_append, hl]; rfl, ?_, fun x hx => ?_, same_mut (same_new s' hd) hD⟩
      · rw [List.nodup_append]
        refine ⟨hnd, by simp, fun x hx y hy => ?_⟩
        rw [List.mem_singleton.mp hy]
        exact ne_of_none (hall x hx).1 hd
      · rcases List.mem_append.mp hx with e | e
        · obtain ⟨h1, h2, h3⟩ := hall x e
          exact ⟨by rw [upd_ne h3, upd_ne (ne_of_none h1 hd)]; exact h1, h2, h3⟩
        · rw [List.mem_singleton.mp e]
          exact ⟨by rw [upd_ne nDd.symm]; exact upd_same, s'.free hd, nDd.symm⟩
    · rintro H2 ⟨ds, hds, hl, hnd, hall, s2⟩
      have hg2 := s2 _ _ hg1
      refine ⟨_, rfl, g, _, dx, _, rfl, hg2, T.cl_Ground, T.n_Ground_came, (Nat.lt_of_le_of_lt (zip_len _ _) (by decide)), ?_⟩
      rw [putF_take (i := 1) GF_nd rfl rfl]
      refine fun nv hnv => ?_
      have ngn : g ≠ nv := ne_of_none upd_same hnv
      have hnv2 : H2 nv = none := by rw [upd_ne ngn.symm] at hnv; exact hnv
      refine ⟨_, rfl, g, _, dx, _, rfl, (by rw [upd_ne ngn]; exact upd_same), T.cl_Ground, T.n_Ground_never, (Nat.lt_of_le_of_lt (zip_len _ _) (by decide)), ?_⟩
      rw [putF_take (i := 2) GF_nd rfl rfl]
      have hnv1 : H1 nv = none := s2.free hnv2
      refine fin D nv ds _ ⟨upd_same, ?_, hl, rfl, fun i a kvs e1 e2 => ?_, hnd, ?_⟩ (d1 _ hD) (d1 _ hnv1) (fun d hd => d1 _ (hall d hd).2.1) ?_ ?_
      · rw [upd_ne ngD.symm, upd_ne (ne_of_none hds hnv2), upd_ne ngD.symm]
        exact hds
      · have h1 := (hall a (List.mem_of_getElem? e1)).1
        have nga : a ≠ g := ne_of h1 hg2 (by intro e; cases e)
        rw [upd_ne nga, upd_ne (ne_of_none h1 hnv2), upd_ne nga, h1]
        have hi4 : i < 4 := by
          have := (List.getElem?_eq_some_iff.mp e2).1
          rw [List.length_replicate] at this
          exact this
        rw [List.getElem?_replicate, if_pos hi4] at e2
        rw [← Option.some.inj e2]
      · rw [upd_ne ngn.symm]
        exact upd_same
      · exact keep_upd (keep_new' (keep_upd (k1.trans (Keep.of_same s2)) (by simp)) hnv) (by simp)
      · exact ((((d1.trans (Dom.of_same s2)).upd _ _).upd _ _).upd _ _)
/-! ### marks -/
def mkD (s c : Nat) : PyData := .tuple [.int (s : Nat), .int (c : Nat)]
theorem td_mk {H : Hp} {v : V} {s c : Nat} (h : TD H v (mkD s c)) : ∃ p, v = .ref p ∧ H p = some (.tup [.int (s : Nat), .int (c : Nat)]) := by
  cases h with
  | tup h t =>
    cases t with
    | cons t1 t =>
      cases t1
      cases t with
      | cons t2 t =>
        cases t2
        cases t
        exact ⟨_, rfl, h⟩
def sp_check_marks : Sp := fun vs H Q _ => ∃ (lm : Addr) (ms : List V) (ks : List (Nat × Nat)), vs = [.ref lm] ∧ H lm = some (.lst ms) ∧ TDs H ms (ks.map fun k => mkD k.1 k.2) ∧ (∀ k ∈ ks, k.1 ≤ 3 ∧ k.2 ≤ 9999) ∧ ∀ H', Same H H' → Q .non H'
theorem ok_check_marks (T : Tx K mg) : FnOk P w K mg base CX0 4 T.a_check_marks T.d_check_marks ["marks"] sp_check_marks := by
  have nd := sc_check_marks.nd
  refine T.F_check_marks.ok sc_check_marks (fun vs H Q E h => ?_) (fun cdv A outer s H vs Q E hr h => ?_)
  · obtain ⟨_, _, _, rfl, _⟩ := h
    rfl
  · obtain ⟨lm, ms, ks, rfl, hl, tds, hok, fin⟩ := h
    refine ⟨_, (pss_one (ps_for PassesOwn.never rfl (pi_enum (by rfl) T.z_enumerate (pa_cons (pv 0) pa_nil)) (pg_tup rfl (pgs_cons (pg_name (i := 1) nd rfl (Or.inl rfl)) (pgs_cons (pg_name (i := 2) nd rfl (Or.inl rfl)) pgs_nil))) (pss_one (ps_if (pt_not (pt_val (pe_call (ok_is_mark T) (hr.mono (by decide)) (by rfl) T.m_is_mark T.F_is_mark.kp T.b_is_mark .nil pass0 (pa_cons (pv 2) pa_nil)))) (pss_one ps_never) pss_nil)))), ?_⟩
    refine ⟨_, rfl, lm, ms, rfl, SqL.of hl, ?_⟩
    refine for_enum (K := K) (l := lm) (ys := ms) (fun i σ H' => ∃ (v1 v2 : Option V), σ = [some (.ref lm), v1, v2] ∧ Same H H') ⟨none, none, rfl, Same.refl _⟩ (fun i σ H' _ ⟨_, _, _, s'⟩ => SqL.of (s' _ _ hl)) ?_ ?_
    · rintro i y σ H' t hy ⟨v1, v2, rfl, s'⟩ ht
      obtain ⟨d, hd, td⟩ := tds.get hy
      obtain ⟨k, hk, rfl⟩ := map_get hd
      have hkm := hok k (List.mem_of_getElem? hk)
      have s1 := same_new (Same.refl H') ht (o := .tup [.int ((i : Nat) : Int), y])
      obtain ⟨b, rfl, hb⟩ := td_mk ((td.mono (TSm.of_same s')).mono (TSm.of_same s1))
      refine ⟨t, _, rfl, SqT.of upd_same, rfl, _, _, rfl, _, _, rfl, rfl, ?_⟩
      exact ⟨_, rfl, b, _, _, rfl, hb, (by omega), (by omega), (by omega), (by omega), true, rfl, iteF ⟨_, _, rfl, s'.trans s1⟩⟩
    · rintro σ H' ⟨v1, v2, rfl, s'⟩
      exact fin _ s'
def sp_never (C : Addr) : Sp := fun vs H Q _ => ∃ (g dx lc nv lm : Addr) (ms : List V) (ds : List Addr) (z : Nat) (ks : List (Nat × Nat)) (cm : List (List (Key × V))) (nev : List (List Key × V)), vs = [.ref g, .ref lm] ∧ GAt C H g dx lc nv ds z cm nev ∧
  H lm = some (.lst ms) ∧ TDs H ms (ks.map fun k => mkD k.1 k.2) ∧ (∀ k ∈ ks, k.1 ≤ 3 ∧ k.2 ≤ 9999) ∧ nev.length + ks.length ≤ 1000000 ∧
  ∀ nev' H', GAt C H' g dx lc nv ds z cm nev' → nev'.length ≤ nev.length + ks.length → (∀ s c : Nat, (valV nev' [Sum.inl (s : Int), Sum.inl (c : Int)]).isSome = true ↔ ((valV nev [Sum.inl (s : Int), Sum.inl (c : Int)]).isSome = true ∨ (s, c) ∈ ks)) → Keep [nv] H H' → Dom H H' → Q .non H'
theorem putK_len {κ : Type} [DecidableEq κ] (kvs : List (κ × V)) (k : κ) (v : V) : (putK kvs k v).length ≤ kvs.length + 1 := by
  unfold putK
  split
  · rw [List.length_map]; omega
  · rw [List.length_append]; exact Nat.le_refl _
theorem ok_Ground_never (T : Tx K mg) : FnOk P w K mg base CX0 5 T.a_Ground_never T.d_Ground_never ["self", "marks"] (sp_never T.A_Ground) := by
  have nd := sc_Ground_never.nd
  refine T.F_Ground_never.ok sc_Ground_never (fun vs H Q E h => ?_) (fun cdv A outer s H vs Q E hr h => ?_)
  · obtain ⟨_, _, _, _, _, _, _, _, _, _, _, rfl, _⟩ := h
    rfl
  · obtain ⟨g, dx, lc, nv, lm, ms, ds, z, ks, cm, nev, rfl, hG, hl, tds, hok, hlen, fin⟩ := h
    refine ⟨_, (pss_cons (ps_expr (pe_call (ok_check_marks T) (hr.mono (by decide)) (by rfl) T.m_check_marks T.F_check_marks.kp T.b_check_marks .nil pass0 (pa_cons (pv 1) pa_nil))) (pss_one (ps_for PassesOwn.never rfl (pi_list (pv 1)) (pg_name (i := 2) nd rfl (Or.inl rfl)) (pss_one (ps_dput (hu_of hr) (pe_fld (pv 0) rfl) (pv 2) pe_bl rfl))))), ?_⟩
    refine ⟨_, rfl, lm, ms, ks, rfl, hl, tds, hok, fun H1 s1 => ?_⟩
    have hG1 := hG.same s1
    have hl1 := s1 _ _ hl
    have tds1 := tds.mono (TSm.of_same s1)
    have hml : ms.length = ks.length := by rw [tds.length, List.length_map]
    refine ⟨_, rfl, lm, rfl, ⟨_, SqL.of hl1⟩, ?_⟩
    refine for_list (K := K) (a := lm) (xs := ms) (fun i σ H' => ∃ (v2 : Option V) (nv' : List (List Key × V)), σ = [some (.ref g), some (.ref lm), v2] ∧ GAt T.A_Ground H' g dx lc nv ds z cm nv' ∧ nv'.length ≤ nev.length + i ∧
      (∀ s c : Nat, (valV nv' [Sum.inl (s : Int), Sum.inl (c : Int)]).isSome = true ↔ ((valV nev [Sum.inl (s : Int), Sum.inl (c : Int)]).isSome = true ∨ (s, c) ∈ ks.take i)) ∧ Keep [nv] H1 H' ∧ Dom H1 H') ⟨none, nev, rfl, hG1, Nat.le_refl _, fun s c => by simp, Keep.refl _ _, Dom.refl _⟩
      (fun i σ H' _ ⟨_, _, _, hG', _, _, k, _⟩ => SqL.of (k _ _ (by simp [ne_of hl1 hG1.n (by intro e; cases e)]) hl1)) ?_ ?_
    · rintro i y σ H' hy ⟨v2, nv', rfl, hG', hle, hiff, k', d'⟩
      obtain ⟨d, hd, td⟩ := tds1.get hy
      obtain ⟨k, hk, rfl⟩ := map_get hd
      have hil : i < ms.length := (List.getElem?_eq_some_iff.mp hy).1
      obtain ⟨b, rfl, hb⟩ := td_mk (td.mono (k'.ts (fun m hm => by rw [List.mem_singleton.mp hm]; exact NoT.dT hG1.n)))
      refine ⟨_, rfl, g, _, dx, _, _, rfl, hG'.o, T.cl_Ground, T.n_Ground_never, gf_never, _, rfl, nv, _, rfl, DPut.t (k := [Sum.inl ((k.1 : Nat) : Int), Sum.inl ((k.2 : Nat) : Int)]) hG'.n hb (lt_line (by omega)), ?_⟩
      refine ⟨_, _, rfl, ⟨?_, ?_, hG'.four, hG'.cl, fun i a kvs e1 e2 => ?_, hG'.apart, upd_same⟩, Nat.le_trans (putK_len _ _ _) (by omega), fun s c => ?_, keep_upd k' (by simp), d'.upd _ _⟩
      · rw [upd_ne (ne_of hG'.o hG'.n (by intro e; cases e))]; exact hG'.o
      · rw [upd_ne (ne_of hG'.l hG'.n (by intro e; cases e))]; exact hG'.l
      · have h1 := hG'.d i a kvs e1 e2
        rw [upd_ne (ne_of h1 hG'.n (by intro e; cases e))]; exact h1
      · rw [valV_put, List.take_add_one, hk, Option.toList_some, List.mem_append, List.mem_singleton]
        by_cases e : ([Sum.inl ((s : Nat) : Int), Sum.inl ((c : Nat) : Int)] : List Key) = [Sum.inl ((k.1 : Nat) : Int), Sum.inl ((k.2 : Nat) : Int)]
        · rw [if_pos e]
          have e1 : s = k.1 ∧ c = k.2 := by
            injection e with e1 e2
            injection e2 with e2 _
            injection e1 with e1
            injection e2 with e2
            omega
          exact ⟨fun _ => .inr (.inr (Prod.ext e1.1 e1.2)), fun _ => rfl⟩
        · rw [if_neg e, hiff]
          constructor
          · rintro (h | h)
            · exact .inl h
            · exact .inr (.inl h)
          · rintro (h | h | h)
            · exact .inl h
            · exact .inr h
            · exact absurd (by rw [← h]) e
    · rintro σ H' ⟨v2, nv', rfl, hG', hle, hiff, k', d'⟩
      rw [List.take_of_length_le (by omega)] at hiff
      exact fin nv' H' hG' (by omega) hiff ((Keep.of_same s1).trans k') ((Dom.of_same s1).trans d')
/-! ### has -/
/-- a loop of a comprehension's clause over a range, whatever stands in it -/
theorem loop_range {lo : Int} {n : Nat} {H0 : Hp} {Qd : Hp → Prop} {Bd : V → Hp → (Hp → Prop) → Prop} (Pv : Nat → Hp → Prop) (h0 : Pv 0 H0) (hs : ∀ i H, i < n → Pv i H → Bd (.int (lo + i)) H (Pv (i + 1))) (hd : ∀ H, Pv n H → Qd H) :
    ∃ W : Nat → Nat → Hp → Prop, (∃ m, W 0 m H0) ∧ ∀ i m H, W i m H →
      ((Itr lo n).stop i H ∧ Qd H) ∨ ((Itr lo n).go i H ∧ ∃ Nx : Hp → Prop, (∀ H', Nx H' → ∃ m', m' < m ∧ W (i + 1) m' H') ∧ ∀ x H', (Itr lo n).yld i H x H' → Bd x H' Nx) := by
  refine ⟨fun k left G => left + k = n ∧ Pv k G, ⟨n, rfl, h0⟩, ?_⟩
  intro k left G ⟨sum, holds⟩
  cases left with
  | zero =>
    have all : k = n := by omega
    exact Or.inl ⟨by rw [all]; exact Nat.le_refl n, hd G (by rw [← all]; exact holds)⟩
  | succ left =>
    have less : k < n := by omega
    refine Or.inr ⟨less, Pv (k + 1), ?_, ?_⟩
    · intro G' holds'
      exact ⟨left, by omega, by omega, holds'⟩
    · rintro _ _ ⟨rfl, rfl⟩
      exact hs k _ less holds
theorem loop_list {a : Addr} {xs : List V} {H0 : Hp} {Qd : Hp → Prop} {Bd : V → Hp → (Hp → Prop) → Prop} (Pv : Nat → Hp → Prop) (h0 : Pv 0 H0) (hl : ∀ i H, i ≤ xs.length → Pv i H → SqL K H a xs) (hs : ∀ i x H, xs[i]? = some x → Pv i H → Bd x H (Pv (i + 1))) (hd : ∀ H, Pv xs.length H → Qd H) :
    ∃ W : Nat → Nat → Hp → Prop, (∃ m, W 0 m H0) ∧ ∀ i m H, W i m H →
      ((Itl K a).stop i H ∧ Qd H) ∨ ((Itl K a).go i H ∧ ∃ Nx : Hp → Prop, (∀ H', Nx H' → ∃ m', m' < m ∧ W (i + 1) m' H') ∧ ∀ x H', (Itl K a).yld i H x H' → Bd x H' Nx) := by
  refine ⟨fun k left G => left + k = xs.length ∧ Pv k G, ⟨xs.length, rfl, h0⟩, ?_⟩
  intro k left G ⟨sum, holds⟩
  have list := hl k G (by omega) holds
  cases left with
  | zero =>
    have all : k = xs.length := by omega
    exact Or.inl ⟨⟨xs, list, by rw [all]; exact Nat.le_refl _⟩, hd G (by rw [← all]; exact holds)⟩
  | succ left =>
    have less : k < xs.length := by omega
    refine Or.inr ⟨⟨xs, xs[k], list, List.getElem?_eq_getElem less⟩, Pv (k + 1), ?_, ?_⟩
    · intro G' holds'
      exact ⟨left, by omega, by omega, holds'⟩
    · rintro x _ ⟨rfl, item⟩
      exact hs k x _ (item xs list) holds
def sp_has (C : Addr) : Sp := fun vs H Q _ => ∃ (g dx lc nv : Addr) (ds : List Addr) (z : Nat) (cm : List (List (Key × V))) (nev : List (List Key × V)) (css ss : Nat → List Nat), vs = [.ref g] ∧ GAt C H g dx lc nv ds z cm nev ∧
  (∀ i kvs, cm[i]? = some kvs → kvs.map (·.1) = ((css i).map fun c : Nat => (c : Int)).map Sum.inl) ∧ (∀ i, (css i).Nodup ∧ (ss i).Pairwise (· < ·) ∧ (∀ c, c ∈ ss i ↔ c ∈ css i) ∧ (ss i).length ≤ 100000) ∧
  ∀ r xs H', H' r = some (.lst xs) → TDs H' xs ((List.range 4).flatMap fun i => (ss i).map (mkD i)) → H r = none → Same H H' → Q (.ref r) H'
theorem ok_Ground_has (T : Tx K mg) : FnOk P w K mg base CX0 1 T.a_Ground_has T.d_Ground_has ["self"] (sp_has T.A_Ground) := by
  have nd := sc_Ground_has.nd
  refine T.F_Ground_has.ok sc_Ground_has (fun vs H Q E h => ?_) (fun cdv A outer s H vs Q E hr h => ?_)
  · obtain ⟨_, _, _, _, _, _, _, _, _, _, rfl, _⟩ := h
    rfl
  · obtain ⟨g, dx, lc, nv, ds, z, cm, nev, css, ss, rfl, hG, hks, hss, fin⟩ := h
    refine ⟨_, (pss_one (ps_ret (pe_lc2 (own := [("stream", 1), ("count", 2)]) (vs1 := [2]) rfl nd (pi_range1 rfl T.z_range (pa_cons (pe_glob (v := .int 4) (by rfl) T.c_STREAMS ⟨_, rfl⟩) pa_nil)) (blkOk_by (own := [("stream", 1), ("count", 2)]) (N := N_Ground_has) (sc := defScope s_Ground_has) (by decide +kernel)) (by decide) (fun _ _ _ _ _ => (pg_name (i := 1) nd rfl (Or.inl rfl))) (fun _ _ _ _ _ => pts_nil) (fun _ _ _ _ _ => (pi_listK (K := K) rfl (pe_callB (call_sortedDk rfl) (by rfl) T.z_sorted (by decide +kernel) (pa_cons (pe_ix (ix_listK (K := K) rfl) (pe_fldK (K := K) rfl (pv 0) rfl) (pv 1) (fun _ _ => rfl)) pa_nil)))) (fun _ _ _ _ _ => (pg_name (i := 2) nd rfl (Or.inl rfl))) (fun _ _ _ _ _ => pts_nil) (fun _ _ _ _ _ => (pe_tup (pa_cons (pv 1) (pa_cons (pv 2) pa_nil))))))), ?_⟩
    have small : ∀ i, i ≤ 4 → ((List.range i).flatMap fun i => (ss i).map (mkD i)).length ≤ i * 100000 := by
      intro i hi
      induction i with
      | zero => simp
      | succ n ih =>
        rw [List.range_succ, List.flatMap_append, List.length_append]
        have h1 := ih (by omega)
        have h2 := (hss n).2.2.2
        have e : ([n].flatMap fun i => (ss i).map (mkD i)).length = (ss n).length := by simp
        rw [e]
        omega
    refine ⟨4, rfl, by decide, by decide, fun D hD => ?_⟩
    refine loop_range (lo := 0) (n := 4) (fun i H' => ∃ xs, H' D = some (.lst xs) ∧ TDs H' xs ((List.range i).flatMap fun i => (ss i).map (mkD i)) ∧ Same H H') ⟨[], upd_same, .nil, same_new (Same.refl _) hD⟩ ?_ ?_
    · rintro i H1 hi ⟨xs, hx, tx, s1⟩
      rw [Int.zero_add]
      have hG1 := hG.same s1
      obtain ⟨a, ha⟩ : ∃ a, ds[i]? = some a := ⟨ds[i]'(by rw [hG.four]; exact hi), List.getElem?_eq_getElem _⟩
      obtain ⟨kvs, hk⟩ : ∃ kvs, cm[i]? = some kvs := ⟨cm[i]'(by rw [hG.cl]; exact hi), List.getElem?_eq_getElem _⟩
      have had : (ds.map V.ref)[i]? = some (.ref a) := by rw [List.getElem?_map, ha]; rfl
      refine ⟨rfl, ?_⟩
      refine ⟨_, rfl, g, _, dx, _, _, rfl, hG1.o, T.cl_Ground, T.n_Ground_came, gf_came, _, rfl, lc, _, _, .ref a, rfl, rfl, SqL.of hG1.l, atI_nat had, a, kvs, _, rfl, hG1.d i a kvs ha hk, hks i kvs hk, fun ys p hperm hsort hp => ⟨p, rfl, ⟨_, SqL.of upd_same⟩, ?_⟩⟩
      obtain ⟨hnd, hrise, hmem, hlen⟩ := hss i
      have eys : ys = (ss i).map fun c : Nat => (c : Int) := by
        refine rising_same (rising_of hperm hsort ?_) (List.Pairwise.map _ (fun a b h => Int.ofNat_lt.mpr h) hrise) fun x => ?_
        · exact List.Pairwise.map _ (fun a b h e => h (by omega)) hnd
        · rw [hperm.mem_iff, List.mem_map, List.mem_map]
          exact ⟨fun ⟨c, h, e⟩ => ⟨c, (hmem c).mpr h, e⟩, fun ⟨c, h, e⟩ => ⟨c, (hmem c).mp h, e⟩⟩
      subst eys
      have s2 := same_new (Same.refl H1) hp (o := .lst (((ss i).map fun c : Nat => (c : Int)).map V.int))
      have npD : D ≠ p := ne_of_none hx hp
      refine loop_list (K := K) (a := p) (xs := ((ss i).map fun c : Nat => (c : Int)).map V.int) (fun j H' => ∃ xs, H' D = some (.lst xs) ∧ TDs H' xs (((List.range i).flatMap fun i => (ss i).map (mkD i)) ++ ((ss i).take j).map (mkD i)) ∧ Same H H' ∧ H' p = some (.lst (((ss i).map fun c : Nat => (c : Int)).map V.int))) ⟨xs, by rw [upd_ne npD]; exact hx, by simpa using tx.mono (TSm.of_same s2), s1.trans s2, upd_same⟩ (fun j H' _ ⟨_, _, _, _, h⟩ => SqL.of h) ?_ ?_
      · rintro j x H2 hj ⟨xs, hx2, tx2, s2', hp2⟩
        obtain ⟨x', hx', rfl⟩ := map_get hj
        obtain ⟨c, hc, rfl⟩ := map_get hx'
        refine ⟨rfl, _, rfl, _, rfl, (by decide : (2 : Nat) ≤ sizeLine), fun b hb => ?_⟩
        have nDb : D ≠ b := ne_of_none hx2 hb
        have hxl : xs.length ≤ 500000 := by
          rw [tx2.length, List.length_append, List.length_map, List.length_take]
          have := small i (by omega)
          omega
        refine ⟨xs, by rw [upd_ne nDb]; exact hx2, lt_line (by omega), xs ++ [.ref b], upd_same, ?_, same_mut (same_new s2' hb) hD, by rw [upd_ne npD.symm, upd_ne (ne_of_none hp2 hb)]; exact hp2⟩
        have t1 := TSm.of_same (same_new (Same.refl H2) hb (o := .tup [.int ((i : Nat) : Int), .int ((c : Nat) : Int)]))
        rw [List.take_add_one, hc, Option.toList_some, List.map_append, ← List.append_assoc]
        exact ((tx2.mono t1).app (.one (.tup upd_same (.cons (.int _) (.cons (.int _) .nil))))).mono (ts_upd (TSm.refl _) (NoT.lst (by rw [upd_ne nDb]; exact hx2)))
      · rintro H2 ⟨xs, hx2, tx2, s2', hp2⟩
        refine ⟨xs, hx2, ?_, s2'⟩
        rw [List.take_of_length_le (by rw [List.length_map, List.length_map]; exact Nat.le_refl _)] at tx2
        rw [List.range_succ, List.flatMap_append]
        simpa using tx2
    · rintro H1 ⟨xs, hx, tx, s1⟩
      exact fin D xs H1 hx tx hD s1
/-! ### wants -/
/-- what is wanted of a stream of whose frames these came: those below the highest that neither came nor are told never to come -/
def wantL (cs : List Nat) (nv : Nat → Bool) (m : Nat) : List Nat := (List.range m).filter fun c => !decide (c ∈ cs) && !nv c
theorem want_no {cs : List Nat} {nv : Nat → Bool} {m : Nat} (h : (!decide (m ∈ cs) && !nv m) = false) : wantL cs nv (m + 1) = wantL cs nv m := by
  unfold wantL
  rw [List.range_succ, List.filter_append, List.filter_cons_of_neg (by rw [h]; decide), List.filter_nil, List.append_nil]
theorem want_yes {cs : List Nat} {nv : Nat → Bool} {m : Nat} (h : (!decide (m ∈ cs) && !nv m) = true) : wantL cs nv (m + 1) = wantL cs nv m ++ [m] := by
  unfold wantL
  rw [List.range_succ, List.filter_append, List.filter_cons_of_pos (p := fun c => !decide (c ∈ cs) && !nv c) h, List.filter_nil]
theorem max_top {ks : List Int} {t : Int} {A : Prop} {B : Int → Prop} (h0 : ks = [] → B t → A) (h1 : ∀ m ∈ ks, (∀ j ∈ ks, j ≤ m) → m = t) (hq : B t) : (ks = [] → A) ∧ ∀ m, m ∈ ks → (∀ j ∈ ks, j ≤ m) → B m :=
  ⟨fun e => h0 e hq, fun m hm hl => by rw [h1 m hm hl]; exact hq⟩
def sp_wants (C : Addr) : Sp := fun vs H Q _ => ∃ (g dx lc nv : Addr) (ds : List Addr) (z : Nat) (cm : List (List (Key × V))) (nev : List (List Key × V)) (css : Nat → List Nat) (top : Nat → Nat) (nvr : Nat → Nat → Bool), vs = [.ref g] ∧ GAt C H g dx lc nv ds z cm nev ∧
  (∀ i kvs, cm[i]? = some kvs → kvs.map (·.1) = ((css i).map fun c : Nat => (c : Int)).map Sum.inl) ∧ (∀ i, (css i = [] → top i = 0) ∧ (∀ c ∈ css i, c ≤ top i) ∧ (css i ≠ [] → top i ∈ css i) ∧ top i ≤ 100000) ∧
  (∀ s c : Nat, (valV nev [Sum.inl (s : Int), Sum.inl (c : Int)]).isSome = nvr s c) ∧
  ∀ r xs H', H' r = some (.lst xs) → TDs H' xs ((List.range 4).flatMap fun i => (wantL (css i) (nvr i) (top i)).map (mkD i)) → H r = none → Same H H' → Q (.ref r) H'
theorem ok_Ground_wants (T : Tx K mg) : FnOk P w K mg base CX0 1 T.a_Ground_wants T.d_Ground_wants ["self"] (sp_wants T.A_Ground) := by
  have nd := sc_Ground_wants.nd
  refine T.F_Ground_wants.ok sc_Ground_wants (fun vs H Q E h => ?_) (fun cdv A outer s H vs Q E hr h => ?_)
  · obtain ⟨_, _, _, _, _, _, _, _, _, _, _, rfl, _⟩ := h
    rfl
  · obtain ⟨g, dx, lc, nv, ds, z, cm, nev, css, top, nvr, rfl, hG, hks, htop, hnv, fin⟩ := h
    refine ⟨_, (pss_cons (ps_set (i := 1) nd rfl (Or.inl rfl) (pe_lst pa_nil)) (pss_cons (ps_for PassesOwn.never rfl (pi_range1 rfl T.z_range (pa_cons (pe_glob (v := .int 4) (by rfl) T.c_STREAMS ⟨_, rfl⟩) pa_nil)) (pg_name (i := 2) nd rfl (Or.inl rfl)) (pss_cons (ps_set (i := 3) nd rfl (Or.inl rfl) (pe_ix ix_list (pe_fld (pv 0) rfl) (pv 2) (fun _ _ => rfl))) (pss_one (ps_for PassesOwn.never rfl (pi_range1 rfl T.z_range (pa_cons (pe_callBK (cr_maxDk rfl) (by rfl) T.z_max (by decide +kernel) (pa_cons (pv 3) pa_nil) (pk_cons pe_int pk_nil)) pa_nil)) (pg_name (i := 4) nd rfl (Or.inl rfl)) (pss_one (ps_if (PW.pt (pw_and (pt_cmp (pc_dnotin (hu_of hr) (pv 4) (pv 3))) (pw_and1 (pt_cmp (pc_dnotin (hu_of hr) (pe_tup (pa_cons (pv 2) (pa_cons (pv 4) pa_nil))) (pe_fld (pv 0) rfl)))))) (pss_one (ps_expr (pe_bm PySem.F.plainAttrs_list PySem.F.slot_list_append PySem.F.type_list_append mt_append (pv 1) (pa_cons (pe_tup (pa_cons (pv 2) (pa_cons (pv 4) pa_nil))) pa_nil)))) pss_nil)))))) (pss_one (ps_ret (pv 1))))), ?_⟩
    have wl : ∀ i m, m ≤ 100000 → (wantL (css i) (nvr i) m).length ≤ 100000 := by
      intro i m hm
      unfold wantL
      have := List.length_filter_le (fun c => !decide (c ∈ css i) && !nvr i c) (List.range m)
      rw [List.length_range] at this
      omega
    have small : ∀ i, i ≤ 4 → ((List.range i).flatMap fun i => (wantL (css i) (nvr i) (top i)).map (mkD i)).length ≤ i * 100000 := by
      intro i hi
      induction i with
      | zero => simp
      | succ n ih =>
        rw [List.range_succ, List.flatMap_append, List.length_append]
        have h1 := ih (by omega)
        have h2 := wl n (top n) (htop n).2.2.2
        have e : ([n].flatMap fun i => (wantL (css i) (nvr i) (top i)).map (mkD i)).length = (wantL (css n) (nvr n) (top n)).length := by simp
        rw [e]
        omega
    refine ⟨Nat.zero_le _, fun D hD => ?_⟩
    refine ⟨4, rfl, by decide, by decide, ?_⟩
    refine for_range (lo := 0) (n := 4) (fun i σ H' => ∃ (v2 v3 v4 : Option V) (xs : List V), σ = [some (.ref g), some (.ref D), v2, v3, v4] ∧ H' D = some (.lst xs) ∧ TDs H' xs ((List.range i).flatMap fun i => (wantL (css i) (nvr i) (top i)).map (mkD i)) ∧ Same H H') ⟨_, _, _, [], rfl, upd_same, .nil, same_new (Same.refl _) hD⟩ ?_ ?_
    · rintro i σ H1 hi ⟨v2, v3, v4, xs, rfl, hx, tx, s1⟩
      simp only [Int.zero_add]
      have hG1 := hG.same s1
      obtain ⟨a, ha⟩ : ∃ a, ds[i]? = some a := ⟨ds[i]'(by rw [hG.four]; exact hi), List.getElem?_eq_getElem _⟩
      obtain ⟨kvs, hk⟩ : ∃ kvs, cm[i]? = some kvs := ⟨cm[i]'(by rw [hG.cl]; exact hi), List.getElem?_eq_getElem _⟩
      have had : (ds.map V.ref)[i]? = some (.ref a) := by rw [List.getElem?_map, ha]; rfl
      have hd1 := hG1.d i a kvs ha hk
      have hkey := hks i kvs hk
      obtain ⟨t1, t2, t3, t4⟩ := htop i
      have hmem : ∀ c : Nat, (valV kvs (Sum.inl ((c : Nat) : Int))).isSome = decide (c ∈ css i) := by
        intro c
        by_cases e : c ∈ css i
        · rw [decide_eq_true e, ← mem_keys, hkey]
          exact List.mem_map.mpr ⟨_, List.mem_map.mpr ⟨c, e, rfl⟩, rfl⟩
        · rw [decide_eq_false e, Bool.eq_false_iff]
          intro h
          rw [Ne, ← mem_keys, hkey] at *
          obtain ⟨x, hx, e2⟩ := List.mem_map.mp h
          obtain ⟨c', hc', e3⟩ := List.mem_map.mp hx
          cases e2
          have : c' = c := by omega
          exact e (this ▸ hc')
      -- came
      refine ⟨_, rfl, g, _, dx, _, _, rfl, hG1.o, T.cl_Ground, T.n_Ground_came, gf_came, _, rfl, lc, _, _, .ref a, rfl, rfl, SqL.of hG1.l, atI_nat had, ?_⟩
      -- range(max(came, default=0))
      refine ⟨_, rfl, a, kvs, _, 0, rfl, rfl, hd1, hkey, max_top (t := ((top i : Nat) : Int)) (fun e h => ?_) (fun x hx hle => ?_) ?_⟩
      · have e1 : css i = [] := by
          cases h : css i with
          | nil => rfl
          | cons y r => rw [h] at e; cases e
        have e2 := t1 e1
        generalize top i = tp at e2 h
        subst e2
        exact h
      · obtain ⟨c, hc, rfl⟩ := List.mem_map.mp hx
        have h1 := t2 c hc
        have h2 := hle _ (List.mem_map.mpr ⟨top i, t3 (fun e => by rw [e] at hc; cases hc), rfl⟩)
        omega
      refine ⟨_, rfl, (by omega), (by omega), ?_⟩
      refine for_range (lo := 0) (n := ((top i : Nat) : Int).toNat) (fun j σ H' => ∃ (v4 : Option V) (xs : List V), σ = [some (.ref g), some (.ref D), some (.int ((i : Nat) : Int)), some (.ref a), v4] ∧ H' D = some (.lst xs) ∧ TDs H' xs (((List.range i).flatMap fun i => (wantL (css i) (nvr i) (top i)).map (mkD i)) ++ (wantL (css i) (nvr i) j).map (mkD i)) ∧ Same H H') ⟨_, xs, rfl, hx, by simpa [wantL] using tx, s1⟩ ?_ ?_
      · rintro j σ H2 hj ⟨v4, xs, rfl, hx2, tx2, s2⟩
        simp only [Int.zero_add]
        have hG2 := hG.same s2
        have hd2 := hG2.d i a kvs ha hk
        have hxl : xs.length ≤ 600000 := by
          rw [tx2.length, List.length_append, List.length_map]
          have h1 := small i (by omega)
          have h2 := wl i j (by omega)
          omega
        have next : ∀ H3, Same H H3 → (wantL (css i) (nvr i) (j + 1) = wantL (css i) (nvr i) j) → H3 D = some (.lst xs) → TDs H3 xs (((List.range i).flatMap fun i => (wantL (css i) (nvr i) (top i)).map (mkD i)) ++ (wantL (css i) (nvr i) j).map (mkD i)) → ∃ (v4 : Option V) (ys : List V), [some (V.ref g), some (.ref D), some (.int ((i : Nat) : Int)), some (.ref a), some (.int ((j : Nat) : Int))] = [some (.ref g), some (.ref D), some (.int ((i : Nat) : Int)), some (.ref a), v4] ∧ H3 D = some (.lst ys) ∧ TDs H3 ys (((List.range i).flatMap fun i => (wantL (css i) (nvr i) (top i)).map (mkD i)) ++ (wantL (css i) (nvr i) (j + 1)).map (mkD i)) ∧ Same H H3 :=
          fun H3 s3 e h1 h2 => ⟨_, xs, rfl, h1, by rw [e]; exact h2, s3⟩
        refine ⟨_, rfl, _, rfl, a, _, rfl, DGet.k (k := Sum.inl ((j : Nat) : Int)) hd2, _, rfl, ?_⟩
        rw [hmem]
        by_cases c1 : j ∈ css i
        · rw [decide_eq_true c1]
          exact iteF (iteF (next H2 s2 (want_no (by rw [decide_eq_true c1]; rfl)) hx2 tx2))
        · rw [decide_eq_false c1]
          refine iteT ?_
          refine ⟨_, rfl, _, rfl, (by decide : (2 : Nat) ≤ sizeLine), fun b hb => ?_⟩
          have sb := same_new (Same.refl H2) hb (o := .tup [.int ((i : Nat) : Int), .int ((j : Nat) : Int)])
          have hG3 := hG2.same sb
          have hb3 : upd H2 b (.tup [.int ((i : Nat) : Int), .int ((j : Nat) : Int)]) b = some (.tup ([Sum.inl ((i : Nat) : Int), Sum.inl ((j : Nat) : Int)].map kV)) := upd_same
          have hx3 := sb _ _ hx2
          have tx3 := tx2.mono (TSm.of_same sb)
          generalize upd H2 b (.tup [.int ((i : Nat) : Int), .int ((j : Nat) : Int)]) = H3 at *
          refine ⟨_, rfl, g, _, dx, _, _, rfl, hG3.o, T.cl_Ground, T.n_Ground_never, gf_never, nv, _, rfl, DGet.t (k := [Sum.inl ((i : Nat) : Int), Sum.inl ((j : Nat) : Int)]) hG3.n hb3, _, rfl, ?_⟩
          rw [hnv]
          by_cases c2 : nvr i j = true
          · rw [c2]
            exact iteF (next H3 (s2.trans sb) (want_no (by rw [c2, Bool.not_true, Bool.and_false])) hx3 tx3)
          · have c3 : nvr i j = false := by simpa using c2
            rw [c3]
            refine iteT ?_
            refine ⟨_, rfl, .inl ⟨rfl, _, SqL.of hx3⟩, _, rfl, _, rfl, (by decide : (2 : Nat) ≤ sizeLine), fun b2 hb2 => ?_⟩
            have nDb : D ≠ b2 := ne_of_none hx3 hb2
            refine ⟨D, xs, _, rfl, rfl, by rw [upd_ne nDb]; exact hx3, lt_line (by omega), ?_⟩
            refine ⟨_, xs ++ [.ref b2], rfl, upd_same, ?_, same_mut (same_new (s2.trans sb) hb2) hD⟩
            have t1 := TSm.of_same (same_new (Same.refl H3) hb2 (o := .tup [.int ((i : Nat) : Int), .int ((j : Nat) : Int)]))
            rw [want_yes (by rw [decide_eq_false c1, c3]; rfl), List.map_append, ← List.append_assoc]
            exact ((tx3.mono t1).app (.one (.tup upd_same (.cons (.int _) (.cons (.int _) .nil))))).mono (ts_upd (TSm.refl _) (NoT.lst (by rw [upd_ne nDb]; exact hx3)))
      · rintro σ H2 ⟨v4, xs, rfl, hx2, tx2, s2⟩
        refine ⟨_, _, _, xs, rfl, hx2, ?_, s2⟩
        rw [show ((top i : Nat) : Int).toNat = top i by omega] at tx2
        rw [List.range_succ, List.flatMap_append]
        simpa using tx2
    · rintro σ H1 ⟨v2, v3, v4, xs, rfl, hx, tx, s1⟩
      exact ⟨_, rfl, fin D xs H1 hx tx hD s1⟩
end
end K5

namespace K5
open PySem PySem.Spec PyProof.Rows L2 Sky
/-! ### the law's own row of numbers -/
def sd (z : Nat) (ln ls : Addr) : List (Key × V) := [(.inr ("size" : Str), .int (z : Nat)), (.inr ("numbers" : Str), .ref ln), (.inr ("starts" : Str), .ref ls)]
theorem sd12 : ¬ ((Sum.inr ("size" : Str) : Key) = Sum.inr ("numbers" : Str)) := by decide +kernel
theorem sd13 : ¬ ((Sum.inr ("size" : Str) : Key) = Sum.inr ("starts" : Str)) := by decide +kernel
theorem sd23 : ¬ ((Sum.inr ("numbers" : Str) : Key) = Sum.inr ("starts" : Str)) := by decide +kernel
theorem sd_size {z : Nat} {ln ls : Addr} : valV (sd z ln ls) (.inr ("size" : Str)) = some (.int (z : Nat)) := by
  unfold valV sd
  rw [List.find?_cons_of_pos (by simp)]
  rfl
theorem sd_numbers {z : Nat} {ln ls : Addr} : valV (sd z ln ls) (.inr ("numbers" : Str)) = some (.ref ln) := by
  unfold valV sd
  rw [List.find?_cons_of_neg (by rw [decide_eq_true_iff]; exact sd12), List.find?_cons_of_pos (by simp)]
  rfl
theorem sd_starts {z : Nat} {ln ls : Addr} : valV (sd z ln ls) (.inr ("starts" : Str)) = some (.ref ls) := by
  unfold valV sd
  rw [List.find?_cons_of_neg (by rw [decide_eq_true_iff]; exact sd13), List.find?_cons_of_neg (by rw [decide_eq_true_iff]; exact sd23), List.find?_cons_of_pos (by simp)]
  rfl
theorem dg_size {H : Hp} {s ln ls : Addr} {z : Nat} (h : H s = some (.dK (sd z ln ls))) : DGet H s (.str "size") (some (.int (z : Nat))) := by
  have := DGet.k (k := Sum.inr ("size" : Str)) h
  rw [sd_size] at this
  exact this
theorem dg_numbers {H : Hp} {s ln ls : Addr} {z : Nat} (h : H s = some (.dK (sd z ln ls))) : DGet H s (.str "numbers") (some (.ref ln)) := by
  have := DGet.k (k := Sum.inr ("numbers" : Str)) h
  rw [sd_numbers] at this
  exact this
theorem dg_starts {H : Hp} {s ln ls : Addr} {z : Nat} (h : H s = some (.dK (sd z ln ls))) : DGet H s (.str "starts") (some (.ref ls)) := by
  have := DGet.k (k := Sum.inr ("starts" : Str)) h
  rw [sd_starts] at this
  exact this
theorem putK_new {kvs : List (Key × V)} {k : Key} {v : V} (h : ∀ kv ∈ kvs, kv.1 ≠ k) : putK kvs k v = kvs ++ [(k, v)] := by
  unfold putK
  rw [if_neg]
  rw [List.any_eq_true]
  rintro ⟨kv, hm, e⟩
  exact h kv hm (of_decide_eq_true e)
theorem sd_merge (z : Nat) (ln ls : Addr) : mergeK [] (sd z ln ls) = sd z ln ls := by
  show putK (putK (putK ([] : List (Key × V)) (Sum.inr ("size" : Str)) _) (Sum.inr ("numbers" : Str)) _) (Sum.inr ("starts" : Str)) _ = _
  rw [putK_new (kvs := []) (by simp), putK_new (kvs := [] ++ [_]), putK_new (kvs := ([] ++ [_]) ++ [_])]
  · rfl
  · intro kv hm
    rcases List.mem_append.mp hm with e | e
    · rw [List.mem_singleton.mp e]; exact sd13
    · rw [List.mem_singleton.mp e]; exact sd23
  · intro kv hm
    rw [List.mem_singleton.mp hm]
    exact sd12
/-- the row stands: its numbers N, the places at which tellings begin, and those -/
structure SAt (H : Hp) (s ln ls : Addr) (z : Nat) (N : List Int) (L : List (Nat × List Int)) : Prop where
  d : H s = some (.dK (sd z ln ls))
  n : H ln = some (.lst (N.map V.int))
  ne : ln ≠ ls
  st : ∃ A : List (Addr × Nat × Addr × List Int), H ls = some (.lst (A.map fun x => V.ref x.1)) ∧ (∀ x ∈ A, H x.1 = some (.tup [.int (x.2.1 : Nat), .ref x.2.2.1]) ∧ H x.2.2.1 = some (.tup (x.2.2.2.map V.int))) ∧ L = A.map fun x => (x.2.1, x.2.2.2)
theorem SAt.keep {H H' : Hp} {s ln ls : Addr} {z : Nat} {N : List Int} {L : List (Nat × List Int)} (h : SAt H s ln ls z N L) (k : Same H H') : SAt H' s ln ls z N L := by
  obtain ⟨A, h1, h2, h3⟩ := h.st
  exact ⟨k _ _ h.d, k _ _ h.n, h.ne, A, k _ _ h1, fun x hx => ⟨k _ _ (h2 x hx).1, k _ _ (h2 x hx).2⟩, h3⟩
section
variable {P : Program} {w : World} {K : PySem.W.Frag} {mg : Str → Option Value} {base : Heap}
def sp_fresh : Sp := fun vs H Q _ => ∃ z : Nat, vs = [.int (z : Nat)] ∧ ∀ s ln ls H', SAt H' s ln ls z [] [] → H s = none → H ln = none → H ls = none → Same H H' → Q (.ref s) H'
theorem ok_law_fresh (T : Tx K mg) : FnOk P w K mg base CX0 1 T.a_law_fresh T.d_law_fresh ["_law_size"] sp_fresh := by
  have nd := sc_law_fresh.nd
  refine T.F_law_fresh.ok sc_law_fresh (fun vs H Q E h => ?_) (fun cdv A outer s H vs Q E hr h => ?_)
  · obtain ⟨_, rfl, _⟩ := h
    rfl
  · obtain ⟨z, rfl, fin⟩ := h
    refine ⟨_, (pss_one (ps_ret (pe_disp (pps_cons pe_str (pv 0) (pps_cons pe_str (pe_lst pa_nil) (pps_cons pe_str (pe_lst pa_nil) pps_nil))) (by rfl) (by rfl) (fun z => by cases z) (by decide)))), ?_⟩
    intro d hd
    refine ⟨_, rfl, Nat.zero_le _, fun ln hln => ⟨Nat.zero_le _, fun ls hls => ?_⟩⟩
    have ndn : d ≠ ln := ne_of_none upd_same hln
    have nnl : ln ≠ ls := ne_of_none upd_same hls
    have ndl : d ≠ ls := ne_of_none (by rw [upd_ne ndn]; exact upd_same) hls
    refine ⟨by rw [upd_ne ndl, upd_ne ndn]; exact upd_same, sd z ln ls, rfl, (by decide : (3 : Nat) ≤ 15), ?_⟩
    rw [sd_merge]
    have hln0 : H ln = none := by rw [upd_ne ndn.symm] at hln; exact hln
    have hls0 : H ls = none := by rw [upd_ne nnl.symm, upd_ne ndl.symm] at hls; exact hls
    exact fin d ln ls _ ⟨upd_same, by rw [upd_ne ndn.symm, upd_ne nnl]; exact upd_same, nnl, [], by rw [upd_ne ndl.symm]; exact upd_same, by simp, rfl⟩ hd hln0 hls0 (same_mut (same_mut (same_mut (same_mut (Same.refl _) hd) hln0) hls0) hd)
def sp_llay : Sp := fun vs H Q _ => ∃ (s ln ls a : Addr) (z : Nat) (N : List Int) (S : List (Nat × List Int)) (t : List Int), vs = [.ref s, .ref a] ∧ SAt H s ln ls z N S ∧ H a = some (.tup (t.map V.int)) ∧ t.length ≤ 1000 ∧ N.length ≤ 1000000 ∧ S.length ≤ 1000000 ∧
  ∀ v H', SAt H' s ln ls z (N ++ laidN (S.length : Nat) t) (S ++ [(N.length, t)]) → Keep [ln, ls] H H' → Dom H H' → Q v H'
theorem ok_law_lay (T : Tx K mg) : FnOk P w K mg base CX0 1 T.a_law_lay T.d_law_lay ["_law_s", "_law_data_here"] sp_llay := by
  have nd := sc_law_lay.nd
  refine T.F_law_lay.ok sc_law_lay (fun vs H Q E h => ?_) (fun cdv A outer s H vs Q E hr h => ?_)
  · obtain ⟨_, _, _, _, _, _, _, _, rfl, _⟩ := h
    rfl
  · obtain ⟨s, ln, ls, a, z, N, S, t, rfl, ⟨hd, hn, nnl, L, hls, hL, hS⟩, ha, ht, hN, hSl, fin⟩ := h
    have hLl : L.length = S.length := by rw [hS, List.length_map]
    refine ⟨_, (pss_cons (ps_set (i := 2) nd rfl (Or.inl rfl) (pe_callB call_len_seq (by rfl) T.z_len PySem.boot_len (pa_cons (pe_dget (hu_of hr) (pv 0) pe_str (fun _ _ => rfl)) pa_nil))) (pss_cons (ps_expr (pe_bm PySem.F.plainAttrs_list PySem.F.slot_list_append PySem.F.type_list_append mt_append (pe_dget (hu_of hr) (pv 0) pe_str (fun _ _ => rfl)) (pa_cons (pe_tup (pa_cons (pe_callB call_len_seq (by rfl) T.z_len PySem.boot_len (pa_cons (pe_dget (hu_of hr) (pv 0) pe_str (fun _ _ => rfl)) pa_nil)) (pa_cons (pv 1) pa_nil))) pa_nil))) (pss_cons (ps_expr (pe_bm PySem.F.plainAttrs_list PySem.F.slot_list_extend PySem.F.type_list_extend mt_extend (pe_dget (hu_of hr) (pv 0) pe_str (fun _ _ => rfl)) (pa_cons (pe_op op_cat (pe_lst (pa_cons (pe_callB call_len_seq (by rfl) T.z_len PySem.boot_len (pa_cons (pv 1) pa_nil)) (pa_cons (pe_op op_fdivN (pv 2) pe_int) (pa_cons (pe_op op_modN (pv 2) pe_int) pa_nil)))) (pe_callTy call_list_of (by rfl) T.z_list (by decide +kernel) (pa_cons (pv 1) pa_nil))) pa_nil))) (pss_one (ps_ret (pv 2)))))), ?_⟩
    -- seq
    refine ⟨_, rfl, s, _, rfl, dg_starts hd, ls, _, rfl, .inl (SqL.of hls), ?_⟩
    rw [List.length_map, hLl]
    -- starts.append((len(numbers), data))
    refine ⟨_, rfl, s, _, rfl, dg_starts hd, .inl ⟨rfl, _, SqL.of hls⟩, _, rfl, s, _, rfl, dg_numbers hd, ln, _, rfl, .inl (SqL.of hn), _, rfl, (by decide : (2 : Nat) ≤ sizeLine), fun b hb => ?_⟩
    rw [List.length_map]
    have nlb : ls ≠ b := ne_of_none hls hb
    refine ⟨ls, _, _, rfl, rfl, (by rw [upd_ne nlb]; exact hls), lt_line (by rw [List.length_map]; omega), ?_⟩
    have e1 : (L.map fun x => V.ref x.1) ++ [V.ref b] = (L ++ [(b, N.length, a, t)]).map fun x => V.ref x.1 := by rw [List.map_append]; rfl
    rw [e1]
    have nsl : s ≠ ls := ne_of hd hls (by intro e; cases e)
    have nsb : s ≠ b := ne_of_none hd hb
    have nnb : ln ≠ b := ne_of_none hn hb
    have nab : a ≠ b := ne_of_none ha hb
    have nal : a ≠ ls := ne_of ha hls (by intro e; cases e)
    have nan : a ≠ ln := ne_of ha hn (by intro e; cases e)
    have nsn : s ≠ ln := ne_of hd hn (by intro e; cases e)
    have k1 : Keep [ln, ls] H (upd (upd H b (.tup [.int ((N.length : Nat) : Int), .ref a])) ls (.lst ((L ++ [(b, N.length, a, t)]).map fun x => V.ref x.1))) := keep_upd (keep_new (Keep.refl _ _) hb) (by simp)
    have d1 : Dom H (upd (upd H b (.tup [.int ((N.length : Nat) : Int), .ref a])) ls (.lst ((L ++ [(b, N.length, a, t)]).map fun x => V.ref x.1))) := (dom_upd _ _ _).upd _ _
    have hd1 : (upd (upd H b (.tup [.int ((N.length : Nat) : Int), .ref a])) ls (.lst ((L ++ [(b, N.length, a, t)]).map fun x => V.ref x.1))) s = some (.dK (sd z ln ls)) := by rw [upd_ne nsl, upd_ne nsb]; exact hd
    have hn1 : (upd (upd H b (.tup [.int ((N.length : Nat) : Int), .ref a])) ls (.lst ((L ++ [(b, N.length, a, t)]).map fun x => V.ref x.1))) ln = some (.lst (N.map V.int)) := by rw [upd_ne nnl, upd_ne nnb]; exact hn
    have ha1 : (upd (upd H b (.tup [.int ((N.length : Nat) : Int), .ref a])) ls (.lst ((L ++ [(b, N.length, a, t)]).map fun x => V.ref x.1))) a = some (.tup (t.map V.int)) := by rw [upd_ne nal, upd_ne nab]; exact ha
    have hl1 : (upd (upd H b (.tup [.int ((N.length : Nat) : Int), .ref a])) ls (.lst ((L ++ [(b, N.length, a, t)]).map fun x => V.ref x.1))) ls = some (.lst ((L ++ [(b, N.length, a, t)]).map fun x => V.ref x.1)) := upd_same
    have hL1 : ∀ x ∈ L ++ [(b, N.length, a, t)], (upd (upd H b (.tup [.int ((N.length : Nat) : Int), .ref a])) ls (.lst ((L ++ [(b, N.length, a, t)]).map fun x => V.ref x.1))) x.1 = some (.tup [.int (x.2.1 : Nat), .ref x.2.2.1]) ∧ (upd (upd H b (.tup [.int ((N.length : Nat) : Int), .ref a])) ls (.lst ((L ++ [(b, N.length, a, t)]).map fun x => V.ref x.1))) x.2.2.1 = some (.tup (x.2.2.2.map V.int)) := by
      intro x hx
      rcases List.mem_append.mp hx with e | e
      · obtain ⟨q, q'⟩ := hL x e
        rw [upd_ne (ne_of q hls (by intro e; cases e)), upd_ne (ne_of_none q hb), upd_ne (ne_of q' hls (by intro e; cases e)), upd_ne (ne_of_none q' hb)]
        exact ⟨q, q'⟩
      · rw [List.mem_singleton.mp e]
        refine ⟨by rw [upd_ne nlb.symm]; exact upd_same, ?_⟩
        show (upd (upd H b (.tup [.int ((N.length : Nat) : Int), .ref a])) ls (.lst ((L ++ [(b, N.length, a, t)]).map fun x => V.ref x.1))) a = some (.tup (t.map V.int))
        rw [upd_ne nal, upd_ne nab]
        exact ha
    generalize (upd (upd H b (.tup [.int ((N.length : Nat) : Int), .ref a])) ls (.lst ((L ++ [(b, N.length, a, t)]).map fun x => V.ref x.1))) = H1 at *
    -- numbers.extend([..] + list(data))
    refine ⟨_, rfl, s, _, rfl, dg_numbers hd1, .inl ⟨rfl, _, SqL.of hn1⟩, _, rfl, a, _, rfl, .inr (SqT.of ha1), ?_⟩
    refine ⟨_, rfl, _, 256, rfl, rfl, ⟨by decide, by decide⟩, _, rfl, _, 256, rfl, rfl, (by decide : (256 : Int) ≠ 0), (by decide : (3 : Nat) ≤ sizeLine), fun c hc => ?_⟩
    refine ⟨_, rfl, a, _, rfl, .inr (SqT.of (same_new (Same.refl _) hc _ _ ha1)), fun e he => ?_⟩
    have nce : c ≠ e := ne_of_none upd_same he
    refine ⟨c, e, _, _, rfl, rfl, (by rw [upd_ne nce]; exact upd_same), upd_same, le_line (by rw [List.length_map]; show 3 + t.length ≤ _; omega), fun g hg => ?_⟩
    have elaid : ([V.int (((t.map V.int).length : Nat) : Int), V.int (((S.length : Nat) : Int).fdiv 256), V.int (((S.length : Nat) : Int).fmod 256)] ++ t.map V.int) = (laidN (S.length : Nat) t).map V.int := by
      unfold laidN
      rw [List.length_map]
      rfl
    rw [elaid]
    have s3 : Same H1 (upd (upd (upd H1 c (.lst [V.int (((t.map V.int).length : Nat) : Int), V.int (((S.length : Nat) : Int).fdiv 256), V.int (((S.length : Nat) : Int).fmod 256)])) e (.lst (t.map V.int))) g (.lst ((laidN (S.length : Nat) t).map V.int))) := same_new (same_new (same_new (Same.refl _) hc) he) hg
    have hg3 : (upd (upd (upd H1 c (.lst [V.int (((t.map V.int).length : Nat) : Int), V.int (((S.length : Nat) : Int).fdiv 256), V.int (((S.length : Nat) : Int).fmod 256)])) e (.lst (t.map V.int))) g (.lst ((laidN (S.length : Nat) t).map V.int))) g = some (.lst ((laidN (S.length : Nat) t).map V.int)) := upd_same
    generalize (upd (upd (upd H1 c (.lst [V.int (((t.map V.int).length : Nat) : Int), V.int (((S.length : Nat) : Int).fdiv 256), V.int (((S.length : Nat) : Int).fmod 256)])) e (.lst (t.map V.int))) g (.lst ((laidN (S.length : Nat) t).map V.int))) = H3 at *
    refine ⟨ln, g, _, _, rfl, rfl, s3 _ _ hn1, hg3, le_line (by rw [List.length_map, List.length_map, laidN_length]; omega), ?_⟩
    rw [← List.map_append]
    refine ⟨_, rfl, fin _ _ ⟨by rw [upd_ne nsn]; exact s3 _ _ hd1, upd_same, nnl, L ++ [(b, N.length, a, t)], by rw [upd_ne nnl.symm]; exact s3 _ _ hl1, fun x hx => ?_, ?_⟩ (keep_upd (k1.trans (Keep.of_same s3)) (by simp)) ((d1.trans (Dom.of_same s3)).upd _ _)⟩
    · have q := s3 _ _ (hL1 x hx).1
      have q' := s3 _ _ (hL1 x hx).2
      rw [upd_ne (ne_of q (s3 _ _ hn1) (by intro e; cases e)), upd_ne (ne_of q' (s3 _ _ hn1) (by intro e; cases e))]
      exact ⟨q, q'⟩
    · rw [List.map_append, ← hS]
      rfl
end
end K5

namespace K5
open PySem PySem.Spec PyProof.Rows L2 Sky
section
variable {P : Program} {w : World} {K : PySem.W.Frag} {mg : Str → Option Value} {base : Heap}
def sp_lfill : Sp := fun vs H Q _ => ∃ (s ln ls : Addr) (z : Nat) (N : List Int) (L : List (Nat × List Int)), vs = [.ref s] ∧ SAt H s ln ls z N L ∧ 0 < z ∧ z ≤ 100 ∧ N.length ≤ 1000000 ∧
  ∀ H', SAt H' s ln ls z (padN z N) L → Keep [ln] H H' → Dom H H' → Q (.bl (decide (((N.length % z : Nat) : Int) > 0))) H'
theorem ok_law_fill (T : Tx K mg) : FnOk P w K mg base CX0 1 T.a_law_fill T.d_law_fill ["_law_s"] sp_lfill := by
  have nd := sc_law_fill.nd
  refine T.F_law_fill.ok sc_law_fill (fun vs H Q E h => ?_) (fun cdv A outer s H vs Q E hr h => ?_)
  · obtain ⟨_, _, _, _, _, _, rfl, _⟩ := h
    rfl
  · obtain ⟨s, ln, ls, z, N, L0, rfl, hS0, hz, hz1, hN, fin⟩ := h
    have hS := hS0
    obtain ⟨hd, hn, nnl, L, hls, hL, hSe⟩ := hS
    refine ⟨_, (pss_cons (ps_set (i := 1) nd rfl (Or.inl rfl) (pe_op op_modN (pe_callB call_len_seq (by rfl) T.z_len PySem.boot_len (pa_cons (pe_dget (hu_of hr) (pv 0) pe_str (fun _ _ => rfl)) pa_nil)) (pe_dget (hu_of hr) (pv 0) pe_str (fun _ _ => rfl)))) (pss_cons (ps_expr (pe_bm PySem.F.plainAttrs_list PySem.F.slot_list_extend PySem.F.type_list_extend mt_extend (pe_dget (hu_of hr) (pv 0) pe_str (fun _ _ => rfl)) (pa_cons (pe_ifExp (pt_cmpR op_gt (pv 1) pe_int (nomark _)) (pe_op op_rep (pe_lst (pa_cons pe_int pa_nil)) (pe_op op_sub (pe_dget (hu_of hr) (pv 0) pe_str (fun _ _ => rfl)) (pv 1))) (pe_lst pa_nil)) pa_nil))) (pss_one (ps_ret (pe_cmpR op_gt (pv 1) pe_int (nomark _)))))), ?_⟩
    refine ⟨_, rfl, s, _, rfl, dg_numbers hd, ln, _, rfl, .inl (SqL.of hn), _, rfl, s, _, rfl, dg_size hd, _, _, rfl, rfl, (by show ((z : Nat) : Int) ≠ 0; omega), ?_⟩
    simp only [List.length_map, fmod_nat]
    have hm := Nat.mod_lt N.length hz
    refine ⟨_, rfl, s, _, rfl, dg_numbers hd, .inl ⟨rfl, _, SqL.of hn⟩, _, rfl, _, 0, rfl, rfl, _, rfl, ite2 (fun e => ?_) (fun e => ?_)⟩
    · have e0 : N.length % z ≠ 0 := by have := of_decide_eq_true e; omega
      refine ⟨(by decide : (1 : Nat) ≤ sizeLine), fun a ha => ?_⟩
      have s1 := same_new (Same.refl H) ha (o := .lst [.int 0])
      refine ⟨_, rfl, s, _, rfl, dg_size (s1 _ _ hd), _, rfl, _, _, rfl, rfl, ?_⟩
      refine ⟨a, _, _, rfl, rfl, upd_same, (by omega), (by omega), le_line (by rw [List.length_singleton]; omega), fun b hb => ?_⟩
      have ez : (List.replicate (((z : Nat) : Int) - ((N.length % z : Nat) : Int)).toNat [V.int 0]).flatten = (List.replicate (z - N.length % z) (0 : Int)).map V.int := by
        rw [show (((z : Nat) : Int) - ((N.length % z : Nat) : Int)).toNat = z - N.length % z by omega]
        induction (z - N.length % z) with
        | zero => rfl
        | succ n ih => rw [List.replicate_succ, List.replicate_succ, List.flatten_cons, ih]; rfl
      rw [ez]
      have s2 := same_new s1 hb (o := .lst ((List.replicate (z - N.length % z) (0 : Int)).map V.int))
      refine ⟨ln, b, _, _, rfl, rfl, s2 _ _ hn, upd_same, le_line (by rw [List.length_map, List.length_map, List.length_replicate]; omega), ?_⟩
      rw [← List.map_append]
      have nsn : s ≠ ln := ne_of hd hn (by intro e; cases e)
      refine ⟨_, rfl, _, 0, rfl, rfl, fin _ ⟨by rw [upd_ne nsn]; exact s2 _ _ hd, by unfold padN; rw [if_neg e0]; exact upd_same, nnl, L, by rw [upd_ne nnl.symm]; exact s2 _ _ hls, fun x hx => ?_, hSe⟩ (keep_upd (Keep.of_same s2) (by simp)) ((Dom.of_same s2).upd _ _)⟩
      obtain ⟨q, q'⟩ := hL x hx
      rw [upd_ne (ne_of q hn (by intro e; cases e)), upd_ne (ne_of q' hn (by intro e; cases e))]
      exact ⟨s2 _ _ q, s2 _ _ q'⟩
    · have e0 : N.length % z = 0 := by
        have h1 : ¬ (0 : Int) < ((N.length % z : Nat) : Int) := fun z1 => e (decide_eq_true z1)
        omega
      refine ⟨Nat.zero_le _, fun a ha => ?_⟩
      have s1 := same_new (Same.refl H) ha (o := .lst [])
      refine ⟨ln, a, _, _, rfl, rfl, s1 _ _ hn, upd_same, le_line (by rw [List.length_map]; show N.length + 0 ≤ _; omega), ?_⟩
      rw [List.append_nil]
      have nsn : s ≠ ln := ne_of hd hn (by intro e; cases e)
      refine ⟨_, rfl, _, 0, rfl, rfl, fin _ ⟨by rw [upd_ne nsn]; exact s1 _ _ hd, by unfold padN; rw [if_pos e0]; exact upd_same, nnl, L, by rw [upd_ne nnl.symm]; exact s1 _ _ hls, fun x hx => ?_, hSe⟩ (keep_upd (Keep.of_same s1) (by simp)) ((Dom.of_same s1).upd _ _)⟩
      obtain ⟨q, q'⟩ := hL x hx
      rw [upd_ne (ne_of q hn (by intro e; cases e)), upd_ne (ne_of q' hn (by intro e; cases e))]
      exact ⟨s1 _ _ q, s1 _ _ q'⟩
def sp_lmany : Sp := fun vs H Q _ => ∃ (s ln ls : Addr) (z : Nat) (N : List Int) (L : List (Nat × List Int)), vs = [.ref s] ∧ SAt H s ln ls z N L ∧ 0 < z ∧ z ≤ 100 ∧ Q (.int ((N.length / z : Nat) : Int)) H
theorem ok_law_many (T : Tx K mg) : FnOk P w K mg base CX0 1 T.a_law_many T.d_law_many ["_law_s"] sp_lmany := by
  have nd := sc_law_many.nd
  refine T.F_law_many.ok sc_law_many (fun vs H Q E h => ?_) (fun cdv A outer s H vs Q E hr h => ?_)
  · obtain ⟨_, _, _, _, _, _, rfl, _⟩ := h
    rfl
  · obtain ⟨s, ln, ls, z, N, S, rfl, hS, hz, hz1, fin⟩ := h
    refine ⟨_, (pss_one (ps_ret (pe_op op_fdivN (pe_callB call_len_seq (by rfl) T.z_len PySem.boot_len (pa_cons (pe_dget (hu_of hr) (pv 0) pe_str (fun _ _ => rfl)) pa_nil)) (pe_dget (hu_of hr) (pv 0) pe_str (fun _ _ => rfl))))), ?_⟩
    refine ⟨_, rfl, s, _, rfl, dg_numbers hS.d, ln, _, rfl, .inl (SqL.of hS.n), _, rfl, s, _, rfl, dg_size hS.d, _, _, rfl, rfl, ⟨by omega, by omega⟩, ?_⟩
    simp only [List.length_map, fdiv_nat]
    exact fin
def sp_lframe : Sp := fun vs H Q _ => ∃ (s ln ls : Addr) (z : Nat) (N : List Int) (L : List (Nat × List Int)) (st : Int) (c : Nat), vs = [.ref s, .int st, .int (c : Nat)] ∧ SAt H s ln ls z N L ∧ 0 < z ∧ z ≤ 100 ∧ N.length ≤ 1000000 ∧ L.length ≤ 1000000 ∧
  (L.map (·.1)).Pairwise (· ≤ ·) ∧ c * z + z ≤ N.length ∧ ∀ f H', TD H' (.ref f) (frmD st (frm z N (L.map (·.1)) c)) → Same H H' → Q (.ref f) H'
theorem ok_law_frame (T : Tx K mg) : FnOk P w K mg base CX0 1 T.a_law_frame T.d_law_frame ["_law_s", "_law_stream", "_law_count"] sp_lframe := by
  have nd := sc_law_frame.nd
  refine T.F_law_frame.ok sc_law_frame (fun vs H Q E h => ?_) (fun cdv A outer s H vs Q E hr h => ?_)
  · obtain ⟨_, _, _, _, _, _, _, _, rfl, _⟩ := h
    rfl
  · obtain ⟨s, ln, ls, z, N, L0, st, c, rfl, hS, hz, hz1, hN, hSl, asc, hc, fin⟩ := h
    obtain ⟨hd, hn, nnl, A0, hls0, hA0, hLe⟩ := hS
    obtain ⟨L, hls, hL, hSe⟩ : ∃ L : List (Addr × Nat × V), H ls = some (.lst (L.map fun x => V.ref x.1)) ∧ (∀ x ∈ L, H x.1 = some (.tup [.int (x.2.1 : Nat), x.2.2])) ∧ L0.map (·.1) = L.map (·.2.1) := by
      refine ⟨A0.map fun x => (x.1, x.2.1, V.ref x.2.2.1), by rw [List.map_map]; exact hls0, fun x hx => ?_, by rw [hLe, List.map_map, List.map_map]; rfl⟩
      obtain ⟨y, hy, rfl⟩ := List.mem_map.mp hx
      exact (hA0 y hy).1
    have hSl : (L0.map (·.1)).length ≤ 1000000 := by rw [List.length_map]; exact hSl
    generalize L0.map (·.1) = S at *
    have hLl : L.length = S.length := by rw [hSe, List.length_map]
    refine ⟨_, (pss_cons (ps_set (i := 3) nd rfl (Or.inr rfl) (pe_op op_mul (pv 2) (pe_dget (hu_of hr) (pv 0) pe_str (fun _ _ => rfl)))) (pss_cons (ps_set (i := 4) nd rfl (Or.inr rfl) (pe_op op_add (pv 3) (pe_dget (hu_of hr) (pv 0) pe_str (fun _ _ => rfl)))) (pss_cons (ps_setLc (i := 5) (own := [("_law_start", 6), ("_law_data_here", 7)]) rfl nd rfl rfl (sw_true rfl rfl rfl (by decide +kernel)) (pi_list (pe_dget (hu_of hr) (pv 0) pe_str (fun _ _ => rfl))) (blkOk_by (own := [("_law_start", 6), ("_law_data_here", 7)]) (N := N_law_frame) (sc := defScope s_law_frame) (by decide +kernel)) (fun _ _ _ _ _ => (pg_tupK (K := K) (n := 2) rfl rfl (pgs_cons (pg_name (i := 6) nd rfl (Or.inl rfl)) (pgs_cons (pg_name (i := 7) nd rfl (Or.inl rfl)) pgs_nil)))) (fun _ _ _ _ _ => (pts_one (pt_chain op_le op_lt (pv 3) (pv 6) (pv 4)))) (fun _ _ _ _ _ => (pe_op op_sub (pv 6) (pv 3)))) (pss_one (ps_ret (pe_tup (pa_cons (pv 1) (pa_cons (pv 2) (pa_cons (pe_ifExp (pt_cmpR (op_neD hr.units) (pv 5) (pe_lst pa_nil) (nomark _)) (pe_callB (cr_min rfl) (by rfl) T.z_min (by decide +kernel) (pa_cons (pv 5) pa_nil)) pe_non) (pa_cons (pe_tupleOf (by rfl) T.z_tuple (pe_slice sl_list (pe_dget (hu_of hr) (pv 0) pe_str (fun _ _ => rfl)) (po_some (pv 3)) (po_some (pv 4)))) pa_nil)))))))))), ?_⟩
    -- low, high
    refine ⟨_, rfl, _, rfl, s, _, rfl, dg_size hd, _, _, rfl, rfl, .inr ⟨by omega, by omega⟩, ?_⟩
    simp only [← Int.natCast_mul]
    refine ⟨_, rfl, _, rfl, s, _, rfl, dg_size hd, _, _, rfl, rfl, ?_⟩
    simp only [← Int.natCast_add]
    -- some
    refine ⟨_, rfl, s, _, rfl, dg_starts hd, ls, rfl, ⟨_, SqL.of hls⟩, fun D hD => ?_⟩
    refine lc_list (K := K) (a := ls) (xs := L.map fun x => V.ref x.1) (fun i H' => Same H H' ∧ H' D = some (.lst (((((S.take i).filter (inFr z c)).map (· - c * z)).map fun n : Nat => (n : Int)).map V.int))) ⟨same_new (Same.refl _) hD, upd_same⟩ (fun i H' _ p => SqL.of (p.1 _ _ hls)) ?_ ?_
    · rintro i y H' hy ⟨s', hD'⟩
      obtain ⟨x, hx, rfl⟩ := map_get hy
      have hSi : S[i]? = some x.2.1 := by rw [hSe, List.getElem?_map, hx]; rfl
      have hxt := s' _ _ (hL x (List.mem_of_getElem? hx))
      have il : i < S.length := (List.getElem?_eq_some_iff.mp hSi).1
      have hacc : ((((((S.take i).filter (inFr z c)).map (· - c * z)).map fun n : Nat => (n : Int)).map V.int)).length < sizeLine := by
        rw [List.length_map, List.length_map, List.length_map]
        refine lt_line ?_
        have := List.length_filter_le (inFr z c) (S.take i)
        rw [List.length_take] at this
        omega
      refine ⟨_, _, rfl, SqT.of hxt, rfl, _, _, rfl, _, _, rfl, rfl, rfl, ?_⟩
      refine ⟨_, rfl, _, rfl, _, _, rfl, rfl, _, rfl, ?_⟩
      by_cases g1 : c * z ≤ x.2.1
      · by_cases g2 : x.2.1 < c * z + z
        · rw [decide_eq_true (show ((c * z : Nat) : Int) ≤ ((x.2.1 : Nat) : Int) by omega)]
          refine iteT ⟨_, rfl, _, _, rfl, rfl, true, dT (by omega), iteT ?_⟩
          refine ⟨_, rfl, _, rfl, _, _, rfl, rfl, _, hD', hacc, same_mut s' hD, ?_⟩
          rw [upd_same, List.take_add_one, hSi, Option.toList_some, List.filter_append, List.filter_cons_of_pos (by unfold inFr; simp; omega), List.filter_nil, List.map_append, List.map_append, List.map_append]
          show _ = some (HO.lst (_ ++ [V.int (((x.2.1 - c * z : Nat) : Int))]))
          rw [show ((x.2.1 - c * z : Nat) : Int) = ((x.2.1 : Nat) : Int) - ((c * z : Nat) : Int) by omega]
        · rw [decide_eq_true (show ((c * z : Nat) : Int) ≤ ((x.2.1 : Nat) : Int) by omega)]
          refine iteT ⟨_, rfl, _, _, rfl, rfl, false, dF (by omega), iteF ⟨s', ?_⟩⟩
          rw [hD', List.take_add_one, hSi, Option.toList_some, List.filter_append, List.filter_cons_of_neg (by unfold inFr; simp; omega), List.filter_nil, List.append_nil]
      · rw [decide_eq_false (show ¬ ((c * z : Nat) : Int) ≤ ((x.2.1 : Nat) : Int) by omega)]
        refine iteF ⟨false, rfl, iteF ⟨s', ?_⟩⟩
        rw [hD', List.take_add_one, hSi, Option.toList_some, List.filter_append, List.filter_cons_of_neg (by unfold inFr; simp; omega), List.filter_nil, List.append_nil]
    · rintro H1 ⟨s1, hD1⟩
      rw [List.take_of_length_le (by rw [List.length_map, hLl]; exact Nat.le_refl _)] at hD1
      generalize exs : ((S.filter (inFr z c)).map (· - c * z)) = xs at hD1
      -- the tuple
      refine ⟨_, rfl, _, rfl, _, rfl, Nat.zero_le _, fun e he => ?_⟩
      have s2 := same_new (Same.refl H1) he (o := .lst [])
      refine ⟨.list ((xs.map fun n : Nat => (n : Int)).map PyData.int), .list [], .lst (SqL.of (s2 _ _ hD1)) (dpAll_ints _), .lst (SqL.of upd_same) .nil, (Lay.list (k := 0) fun x _ => Lay.int x).shaped (by decide), Lay.nil.shaped (by decide), _, rfl, ?_⟩
      rw [eqv_nil]
      generalize upd H1 e (.lst []) = H2 at *
      refine ife_skip (fun v H3 => v = optV (firstOf z c S) ∧ H3 = H2) (fun v H3 ⟨ev, eh⟩ => ?_) (fun g rest => ?_) (fun g rest => ?_)
      case refine_2 =>
        have hne : xs ≠ [] := fun h => by subst h; exact absurd g (by decide)
        refine ⟨_, rfl, D, _, rfl, SqL.of (s2 _ _ hD1), by rw [List.length_map]; exact List.length_pos_iff.mpr hne, fun m hm hle => rest _ _ ⟨?_, rfl⟩⟩
        obtain ⟨k, hk, rfl⟩ := List.mem_map.mp hm
        have e1 : firstOf z c S = some k := by
          refine firstOf_least asc (by rw [exs]; exact hk) fun y hy => ?_
          rw [exs] at hy
          have := hle _ (List.mem_map.mpr ⟨y, hy, rfl⟩)
          omega
        rw [e1]
        rfl
      case refine_3 =>
        refine rest _ _ ⟨?_, rfl⟩
        have hxe : xs = [] := by
          cases xs with
          | nil => rfl
          | cons x r => exact absurd rfl g
        unfold firstOf
        rw [exs, hxe]
        rfl
      subst ev eh
      have hS2 := s1.trans s2
      refine ⟨_, rfl, s, _, rfl, dg_numbers (hS2 _ _ hd), _, rfl, _, rfl, _, rfl, _, rfl, ln, _, rfl, SqL.of (hS2 _ _ hn), fun x hx => .inl ⟨x, _, rfl, SqL.of upd_same, fun y hy => ⟨(by decide : (4 : Nat) ≤ sizeLine), fun f hf => ?_⟩⟩⟩
      have ec : cutV (N.map V.int) (some ((c * z : Nat) : Int)) (some ((c * z + z : Nat) : Int)) = (((N.drop (c * z)).take z).map V.int) := by
        rw [cut_nat (by rw [List.length_map]; omega) (by rw [List.length_map]; omega), show (c * z + z - c * z) = z by omega, List.map_take, List.map_drop]
      rw [ec] at hy hf ⊢
      have nyf : y ≠ f := ne_of_none upd_same hf
      refine fin f _ (.tup upd_same (.cons (.int _) (.cons (.int _) (.cons (TD.opt _) (.cons (TD.tl ?_) .nil))))) (hS2.trans (same_new (same_new (same_new (Same.refl _) hx) hy) hf))
      rw [upd_ne nyf, upd_same]
      rfl
end
end K5

namespace K5
open PySem PySem.Spec PyProof.Rows L2 Sky
section
variable {P : Program} {w : World} {K : PySem.W.Frag} {mg : Str → Option Value} {base : Heap}
/-! ### the law's own rows -/
theorem inV_nats {c : Nat} (cs : List Nat) : inV (.int (c : Nat)) (cs.map fun c : Nat => V.int (c : Nat)) = decide (c ∈ cs) := by
  unfold inV
  rw [Bool.eq_iff_iff, List.any_eq_true, decide_eq_true_iff]
  constructor
  · rintro ⟨y, hy, e⟩
    obtain ⟨x, hx, rfl⟩ := List.mem_map.mp hy
    have h : ((x : Nat) : Int) = ((c : Nat) : Int) := beq_iff_eq.mp e
    rw [← Int.ofNat.inj h]
    exact hx
  · intro h
    exact ⟨_, List.mem_map.mpr ⟨c, h, rfl⟩, beq_iff_eq.mpr rfl⟩
theorem flat_nats (cs : List Nat) : (cs.map fun c : Nat => V.int (c : Nat)).all flatV = true := by
  rw [List.all_eq_true]
  intro y hy
  obtain ⟨x, _, rfl⟩ := List.mem_map.mp hy
  rfl
def sp_lrows : Sp := fun vs H Q _ => ∃ (s ln ls lc : Addr) (z : Nat) (N : List Int) (L : List (Nat × List Int)) (cs : List Nat), vs = [.ref s, .ref lc] ∧ SAt H s ln ls z N L ∧ H lc = some (.lst (cs.map fun c : Nat => V.int (c : Nat))) ∧ 0 < z ∧ z ≤ 100 ∧ L.length ≤ 65536 ∧
  (∀ x ∈ L, x.1 ≤ 1000000 ∧ x.2.length ≤ 1000) ∧ ∀ r xs H', H' r = some (.lst xs) → TDs H' xs (rowsD L 0 (toldL z L cs)) → H r = none → Same H H' → Q (.ref r) H'
theorem toldL_take (z : Nat) (L : List (Nat × List Int)) (cs : List Nat) {i : Nat} (h : i ≤ L.length) : (List.range (i + 1)).filter (toldJ z L cs) = (List.range i).filter (toldJ z L cs) ++ (if toldJ z L cs i = true then [i] else []) := by
  rw [List.range_succ, List.filter_append]
  congr 1
  by_cases hj : toldJ z L cs i = true
  · rw [if_pos hj, List.filter_cons_of_pos hj]
    rfl
  · rw [if_neg hj, List.filter_cons_of_neg hj]
    rfl
theorem ok_law_rows (T : Tx K mg) : FnOk P w K mg base CX0 1 T.a_law_rows T.d_law_rows ["_law_s", "_law_counts"] sp_lrows := by
  have nd := sc_law_rows.nd
  refine T.F_law_rows.ok sc_law_rows (fun vs H Q E h => ?_) (fun cdv A outer s H vs Q E hr h => ?_)
  · obtain ⟨_, _, _, _, _, _, _, _, rfl, _⟩ := h
    rfl
  · obtain ⟨s, ln, ls, lc, z, N, L, cs, rfl, hS, hlc, hz, hz1, hLl, hLb, fin⟩ := h
    refine ⟨_, (pss_cons (ps_par (i := 2) (j := 3) rfl nd rfl rfl (by decide) rfl rfl (pa_cons (pe_lst pa_nil) (pa_cons pe_int pa_nil)) (by rfl)) (pss_cons (ps_for PassesOwn.never rfl (pi_range1 rfl T.z_range (pa_cons (pe_callB call_len_seq (by rfl) T.z_len PySem.boot_len (pa_cons (pe_dget (hu_of hr) (pv 0) pe_str (fun _ _ => rfl)) pa_nil)) pa_nil)) (pg_name (i := 4) nd rfl (Or.inl rfl)) (pss_cons (ps_asg (pe_ix ix_list (pe_dget (hu_of hr) (pv 0) pe_str (fun _ _ => rfl)) (pv 4) (fun _ _ => rfl)) (pg_tup rfl (pgs_cons (pg_name (i := 5) nd rfl (Or.inl rfl)) (pgs_cons (pg_name (i := 6) nd rfl (Or.inl rfl)) pgs_nil)))) (pss_cons (ps_par (i := 7) (j := 8) rfl nd rfl rfl (by decide) rfl rfl (pa_cons (pe_op op_fdivN (pv 5) (pe_dget (hu_of hr) (pv 0) pe_str (fun _ _ => rfl))) (pa_cons (pe_op op_fdivN (pe_op op_add (pe_op op_add (pv 5) pe_int) (pe_callB call_len_seq (by rfl) T.z_len PySem.boot_len (pa_cons (pv 6) pa_nil))) (pe_dget (hu_of hr) (pv 0) pe_str (fun _ _ => rfl))) pa_nil)) (by rfl)) (pss_one (ps_if (pt_cmpR (op_eqD hr.units) (pe_lc (own := [("_law_count", 9)]) rfl nd (pi_range2 rfl T.z_range (pa_cons (pv 7) (pa_cons (pe_op op_add (pv 8) pe_int) pa_nil))) (blkOk_by (own := [("_law_count", 9)]) (N := N_law_rows) (sc := defScope s_law_rows) (by decide +kernel)) (fun _ _ _ _ _ => (pg_name (i := 9) nd rfl (Or.inl rfl))) (fun _ _ _ _ _ => (pts_one (pt_cmpR (op_notIn_seqK (K := K) rfl) (pv 9) (pv 1) rfl))) (fun _ _ _ _ _ => (pv 9))) (pe_lst pa_nil) (nomark _)) (pss_cons (ps_if (pt_cmpR op_gt (pv 4) (pv 3) (nomark _)) (pss_one (ps_expr (pe_bm PySem.F.plainAttrs_list PySem.F.slot_list_append PySem.F.type_list_append mt_append (pv 2) (pa_cons (pe_tup (pa_cons pe_str (pa_cons (pv 3) (pa_cons (pe_op op_sub (pv 4) pe_int) pa_nil)))) pa_nil)))) pss_nil) (pss_cons (ps_expr (pe_bm PySem.F.plainAttrs_list PySem.F.slot_list_append PySem.F.type_list_append mt_append (pv 2) (pa_cons (pe_tup (pa_cons pe_str (pa_cons (pv 4) (pa_cons (pv 6) pa_nil)))) pa_nil))) (pss_one (ps_set (i := 3) nd rfl (Or.inl rfl) (pe_op op_add (pv 4) pe_int))))) pss_nil))))) (pss_one (ps_ret (pv 2))))), ?_⟩
    refine ⟨Nat.zero_le _, fun lr hlr => ⟨_, _, rfl, ?_⟩⟩
    have s1 := same_new (Same.refl H) hlr (o := .lst [])
    have hS1 := hS.keep s1
    have hlc1 := s1 _ _ hlc
    have hlr1 : upd H lr (.lst []) lr = some (.lst []) := upd_same
    generalize upd H lr (.lst []) = H1 at *
    obtain ⟨A', hls, hA', eL⟩ := hS1.st
    have hAl : A'.length = L.length := by rw [eL, List.length_map]
    have nsl : s ≠ lr := ne_of hS1.d hlr1 (by intro e; cases e)
    have ncl : lc ≠ lr := by
      intro e
      rw [e, hlr] at hlc
      cases hlc
    have nsl' : ls ≠ lr := by
      obtain ⟨A2, h2, _⟩ := hS.st
      intro e
      rw [e, hlr] at h2
      cases h2
    refine ⟨_, rfl, s, _, rfl, dg_starts hS1.d, ls, _, rfl, .inl (SqL.of hls), _, rfl, (by rw [List.length_map]; omega), (by rw [List.length_map]; omega), ?_⟩
    have en : (((A'.map fun x => V.ref x.1).length : Nat) : Int).toNat = L.length := by rw [List.length_map]; omega
    show (∃ W : Nat → Nat → L2.St → Hp → Prop, _ ∧ _)
    rw [en]
    refine for_range (lo := 0) (n := L.length) (fun i σ H' => ∃ (v4 v5 v6 v7 v8 v9 : Option V) (lo : Nat) (xs : List V), σ = [some (.ref s), some (.ref lc), some (.ref lr), some (.int (lo : Nat)), v4, v5, v6, v7, v8, v9] ∧ lo = ((List.range i).filter (toldJ z L cs)).foldl (fun _ x => x + 1) 0 ∧
      H' lr = some (.lst xs) ∧ TDs H' xs (rowsD L 0 ((List.range i).filter (toldJ z L cs))) ∧ Keep [lr] H1 H') ⟨none, none, none, none, none, none, 0, [], rfl, rfl, hlr1, .nil, Keep.refl _ _⟩ ?_ ?_
    · rintro i σ H' hi ⟨v4, v5, v6, v7, v8, v9, lo, xs, rfl, hlo, hx, tx, k⟩
      have eidx : (0 : Int) + ((i : Nat) : Int) = ((i : Nat) : Int) := Int.zero_add _
      rw [eidx]
      have hd' := k _ _ (by simp [nsl]) hS1.d
      have hls' := k _ _ (by simp [nsl']) hls
      have hlc' := k _ _ (by simp [ncl]) hlc1
      have tk : TSm H1 H' := k.ts (by intro m hm; rw [List.mem_singleton.mp hm]; exact NoT.lst hlr1)
      -- start, data
      obtain ⟨y, hy⟩ : ∃ y, A'[i]? = some y := ⟨A'[i]'(by omega), List.getElem?_eq_getElem (by omega)⟩
      obtain ⟨hy1, hy2⟩ := hA' y (List.mem_of_getElem? hy)
      have hLi : L[i]? = some (y.2.1, y.2.2.2) := by rw [eL, List.getElem?_map, hy]; rfl
      have hb := hLb _ (List.mem_of_getElem? hLi)
      have hb1 : y.2.1 ≤ 1000000 := hb.1
      have hb2 : y.2.2.2.length ≤ 1000 := hb.2
      refine ⟨_, rfl, s, _, rfl, dg_starts hd', _, rfl, ls, _, _, .ref y.1, rfl, rfl, SqL.of hls', atI_nat (by rw [List.getElem?_map, hy]; rfl), y.1, _, rfl, SqT.of (tk _ _ hy1), rfl, _, _, rfl, _, _, rfl, rfl, ?_⟩
      -- low, high
      have dz1 : CDivN ((y.2.1 : Nat) : Int) ((z : Nat) : Int) := ⟨by omega, by omega⟩
      refine ⟨_, rfl, _, rfl, s, _, rfl, dg_size hd', _, _, rfl, rfl, dz1, ?_⟩
      refine ⟨_, rfl, _, 2, rfl, rfl, _, rfl, y.2.2.1, _, rfl, .inr (SqT.of (tk _ _ hy2)), _, _, rfl, rfl, _, rfl, s, _, rfl, dg_size hd', _, _, rfl, rfl, ⟨by omega, by omega⟩, _, _, rfl, ?_⟩
      have ehigh : ((y.2.1 : Nat) : Int) + 2 + (((y.2.2.2.map V.int).length : Nat) : Int) = ((y.2.1 + (y.2.2.2.length + 2) : Nat) : Int) := by rw [List.length_map]; omega
      simp only [ehigh, fdiv_nat]
      -- the missing
      have hdv1 : y.2.1 / z ≤ y.2.1 := Nat.div_le_self _ _
      have hdv2 : (y.2.1 + (y.2.2.2.length + 2)) / z ≤ y.2.1 + (y.2.2.2.length + 2) := Nat.div_le_self _ _
      have hmono : y.2.1 / z ≤ (y.2.1 + (y.2.2.2.length + 2)) / z := Nat.div_le_div_right (by omega)
      generalize elo : y.2.1 / z = cl at *
      generalize ehi : (y.2.1 + (y.2.2.2.length + 2)) / z = ch at *
      refine ⟨_, rfl, _, rfl, _, 1, rfl, rfl, _, _, rfl, ⟨by omega, by omega, by omega, by omega⟩, fun D hD => ?_⟩
      have en2 : (((ch : Nat) : Int) + 1 - ((cl : Nat) : Int)).toNat = ch + 1 - cl := by omega
      show (∃ W : Nat → Nat → Hp → Prop, _ ∧ _)
      rw [en2]
      refine lc_range (lo := ((cl : Nat) : Int)) (n := ch + 1 - cl) (fun k H3 => Same H' H3 ∧ H3 D = some (.lst (((((List.range k).filter fun m => decide (cl + m ∉ cs)).map fun m : Nat => ((cl + m : Nat) : Int))).map V.int))) ⟨same_new (Same.refl _) hD, upd_same⟩ ?_ ?_
      · rintro k' H3 hk' ⟨s3, hD3⟩
        rw [show ((cl : Nat) : Int) + ((k' : Nat) : Int) = ((cl + k' : Nat) : Int) by omega]
        refine ⟨rfl, _, rfl, _, rfl, lc, _, rfl, .inl (SqL.of (s3 _ _ hlc')), rfl, flat_nats cs, _, rfl, ?_⟩
        show (if (!inV (.int ((cl + k' : Nat) : Int)) (cs.map fun c : Nat => V.int (c : Nat))) = true then _ else _)
        rw [inV_nats]
        have hlen : (((((List.range k').filter fun m => decide (cl + m ∉ cs)).map fun m : Nat => ((cl + m : Nat) : Int))).map V.int).length < sizeLine := by
          rw [List.length_map, List.length_map]
          have := List.length_filter_le (fun m => decide (cl + m ∉ cs)) (List.range k')
          rw [List.length_range] at this
          exact lt_line (by omega)
        by_cases hm : cl + k' ∈ cs
        · rw [decide_eq_true hm]
          refine iteF ⟨s3, ?_⟩
          rw [hD3, List.range_succ, List.filter_append, List.filter_cons_of_neg (by simp [hm]), List.filter_nil, List.append_nil]
        · rw [decide_eq_false hm]
          refine iteT ⟨_, rfl, _, hD3, hlen, same_mut s3 hD, ?_⟩
          rw [upd_same, List.range_succ, List.filter_append, List.filter_cons_of_pos (by simp [hm]), List.filter_nil, List.map_append, List.map_append]
          rfl
      rintro H3 ⟨s3, hD3⟩
      refine ⟨Nat.zero_le _, fun e he => ?_⟩
      have s4 := same_new (Same.refl H3) he (o := .lst [])
      have he4 : upd H3 e (.lst []) e = some (.lst []) := upd_same
      have hD4 := s4 _ _ hD3
      have sH := s3.trans s4
      generalize upd H3 e (.lst []) = H4 at *
      refine ⟨.list (((((List.range (ch + 1 - cl)).filter fun m => decide (cl + m ∉ cs)).map fun m : Nat => ((cl + m : Nat) : Int))).map PyData.int), .list [], .lst (SqL.of hD4) (dpAll_ints _), .lst (SqL.of he4) .nil, (Lay.list (k := 0) fun x _ => Lay.int x).shaped (by decide), Lay.nil.shaped (by decide), _, rfl, ?_⟩
      rw [eqv_nil]
      have etold : (((((List.range (ch + 1 - cl)).filter fun m => decide (cl + m ∉ cs)).map fun m : Nat => ((cl + m : Nat) : Int))).map PyData.int).isEmpty = toldJ z L cs i := by
        have h1 : toldJ z L cs i = covers z cs y.2.1 (y.2.2.2.length + 3) := by unfold toldJ; rw [hLi]
        rw [h1, Bool.eq_iff_iff, covers_range hz (by omega), List.isEmpty_iff, List.map_eq_nil_iff, List.map_eq_nil_iff, List.filter_eq_nil_iff]
        rw [show y.2.1 + (y.2.2.2.length + 3 - 1) = y.2.1 + (y.2.2.2.length + 2) by omega, elo, ehi]
        constructor
        · intro h c hc1 hc2
          have := h (c - cl) (List.mem_range.mpr (by omega))
          rw [decide_eq_true_iff, Classical.not_not, show cl + (c - cl) = c by omega] at this
          exact this
        · intro h m hm
          have := List.mem_range.mp hm
          rw [decide_eq_true_iff, Classical.not_not]
          exact h (cl + m) (by omega) (by omega)
      rw [etold]
      have hx4 := sH _ _ hx
      have tx4 := tx.mono (TSm.of_same sH)
      have k4 : Keep [lr] H1 H4 := k.trans (Keep.of_same sH)
      have xl : xs.length ≤ 2 * L.length := by
        rw [tx.length]
        have h1 := rows_len' L ((List.range i).filter (toldJ z L cs)) 0
        have h2 := List.length_filter_le (toldJ z L cs) (List.range i)
        rw [List.length_range] at h2
        omega
      refine ite2 (fun hj => ?_) (fun hj => ?_)
      · rw [toldL_take z L cs (by omega), if_pos hj]
        refine ⟨_, rfl, _, rfl, _, _, rfl, rfl, _, rfl, ?_⟩
        refine if_skip (fun H5 => ∃ xs', H5 lr = some (.lst xs') ∧ TDs H5 xs' (rowsD L 0 ((List.range i).filter (toldJ z L cs)) ++ (if lo < i then [gapD lo (i - 1)] else [])) ∧ Keep [lr] H1 H5) (fun H5 ⟨xs', hx5, tx5, k5⟩ => ?_) (fun g rest => ?_) (fun g => ?_)
        rotate_left
        · have e0 : lo < i := by have := of_decide_eq_true g; omega
          refine ⟨_, rfl, .inl ⟨rfl, _, SqL.of hx4⟩, _, rfl, _, rfl, _, 1, rfl, rfl, (by decide : (3 : Nat) ≤ sizeLine), fun b hb' => ?_⟩
          have e1 : ((i : Nat) : Int) - 1 = ((i - 1 : Nat) : Int) := by omega
          simp only [e1]
          have nlb : lr ≠ b := ne_of_none hx4 hb'
          refine ⟨lr, xs, _, rfl, rfl, (by rw [upd_ne nlb]; exact hx4), lt_line (by omega), ?_⟩
          refine rest _ ⟨xs ++ [.ref b], upd_same, ?_, keep_upd (keep_new' k4 hb') (by simp)⟩
          rw [if_pos e0]
          have t5 : TSm H4 (upd H4 b (.tup [.str "gap", .int ((lo : Nat) : Int), .int ((i - 1 : Nat) : Int)])) := TSm.of_same (same_new (Same.refl _) hb')
          exact ((tx4.mono t5).app (.one (.tup upd_same (.cons (.str _) (.cons (.int _) (.cons (.int _) .nil)))))).mono (ts_upd (TSm.refl _) (NoT.lst (by rw [upd_ne nlb]; exact hx4)))
        · have e0 : ¬ lo < i := fun h => g (decide_eq_true (by omega))
          rw [if_neg e0, List.append_nil]
          exact ⟨xs, hx4, tx4, k4⟩
        have tk5 : TSm H1 H5 := k5.ts (by intro m hm; rw [List.mem_singleton.mp hm]; exact NoT.lst hlr1)
        have xl5 : xs'.length ≤ 2 * L.length + 1 := by
          rw [tx5.length, List.length_append, ← tx.length]
          split
          · rw [List.length_singleton]; omega
          · rw [List.length_nil]; omega
        have tv5 : TD H5 (.ref y.2.2.1) (tlD (textOf L i)) := by
          have : textOf L i = y.2.2.2 := by unfold textOf; rw [hLi]
          rw [this]
          exact TD.tl (tk5 _ _ hy2)
        refine ⟨_, rfl, .inl ⟨rfl, _, SqL.of hx5⟩, _, rfl, _, rfl, (by decide : (3 : Nat) ≤ sizeLine), fun b hb' => ?_⟩
        have nlb : lr ≠ b := ne_of_none hx5 hb'
        refine ⟨lr, xs', _, rfl, rfl, (by rw [upd_ne nlb]; exact hx5), lt_line (by omega), ?_⟩
        refine ⟨_, rfl, _, 1, rfl, rfl, ?_⟩
        refine ⟨_, _, _, _, _, _, i + 1, xs' ++ [.ref b], rfl, ?_, upd_same, ?_, keep_upd (keep_new' k5 hb') (by simp)⟩
        · exact (lo_snoc _ _ _).symm
        · have t5 : TSm H5 (upd H5 b (.tup [.str "told", .int ((i : Nat) : Int), .ref y.2.2.1])) := TSm.of_same (same_new (Same.refl _) hb')
          rw [rowsD_snoc, ← hlo]
          show TDs _ _ (rowsD L 0 ((List.range i).filter (toldJ z L cs)) ++ ((if lo < i then [gapD lo (i - 1)] else []) ++ [toldD i (textOf L i)]))
          rw [← List.append_assoc]
          exact ((tx5.mono t5).app (.one (.tup upd_same (.cons (.str _) (.cons (.int _) (.cons (tv5.mono t5) .nil)))))).mono (ts_upd (TSm.refl _) (NoT.lst (by rw [upd_ne nlb]; exact hx5)))
      · rw [toldL_take z L cs (by omega), if_neg hj, List.append_nil]
        exact ⟨_, _, _, _, _, _, lo, xs, rfl, hlo, hx4, tx4, k4⟩
    · rintro σ H' ⟨v4, v5, v6, v7, v8, v9, lo, xs, rfl, _, hx, tx, k⟩
      refine ⟨_, rfl, fin lr xs H' hx tx hlr ?_⟩
      exact k.same s1 (by intro m hm; rw [List.mem_singleton.mp hm]; exact hlr)
end
end K5

namespace K5
open PySem PySem.Spec PyProof.Rows L2 Sky
section
variable {P : Program} {w : World} {K : PySem.W.Frag} {mg : Str → Option Value} {base : Heap}
/-- the drawing list: [mixed, the script's rest, which is next] -/
def HAt (H : Hp) (p q : Addr) : Prop := ∃ (m k : Int) (ns : List Int), p ≠ q ∧ H p = some (.lst [.int m, .ref q, .int k]) ∧ H q = some (.lst (ns.map V.int)) ∧ 0 ≤ m ∧ m < 2147483647 ∧ 0 ≤ k ∧ ns.length ≤ 63
theorem fmod_nn {a b : Int} (hb : 0 < b) : 0 ≤ a.fmod b := Int.fmod_nonneg_of_pos a hb
theorem fmod_lt {a b : Int} (hb : 0 < b) : a.fmod b < b := Int.fmod_lt_of_pos a hb
def sp_mix (K : PySem.W.Frag) : Sp := fun vs H Q _ => ∃ (a : Addr) (ns : List Int) (seed : Int), vs = [.ref a, .int seed] ∧ SqL K H a (ns.map V.int) ∧ 0 ≤ seed ∧ seed < 2147483647 ∧ ns.length ≤ 63 ∧
  ∀ p q H', HAt H' p q → H p = none → H q = none → Same H H' → Q (.ref p) H'
theorem ok_law_mix (T : Tx K mg) : FnOk P w K mg base CX0 1 T.a_law_mix T.d_law_mix ["_law_script", "_law_seed"] (sp_mix K) := by
  have nd := sc_law_mix.nd
  refine T.F_law_mix.ok sc_law_mix (fun vs H Q E h => ?_) (fun cdv A outer s H vs Q E hr h => ?_)
  · obtain ⟨_, _, _, rfl, _⟩ := h
    rfl
  · obtain ⟨a, ns, seed, rfl, hS, s0, s1, hns, k⟩ := h
    refine ⟨_, (pss_cons (ps_set (i := 2) nd rfl (Or.inl rfl) (pv 1)) (pss_cons (ps_for PassesOwn.never rfl (pi_list (pv 0)) (pg_name (i := 3) nd rfl (Or.inl rfl)) (pss_one (ps_set (i := 2) nd rfl (Or.inl rfl) (pe_op op_modN (pe_op op_add (pe_op op_add (pe_op op_mul (pv 2) pe_int) (pe_op op_modN (pv 3) pe_int)) pe_int) pe_int)))) (pss_one (ps_ret (pe_lst (pa_cons (pv 2) (pa_cons (pe_callTy call_list_of (by rfl) T.z_list (by decide +kernel) (pa_cons (pv 0) pa_nil)) (pa_cons pe_int pa_nil)))))))), ?_⟩
    refine ⟨_, rfl, _, rfl, a, rfl, ⟨_, hS⟩, ?_⟩
    refine for_list (K := K) (a := a) (xs := ns.map V.int) (fun i σ H' => ∃ (m : Int) (v : Option V), σ = [some (.ref a), some (.int seed), some (.int m), v] ∧ 0 ≤ m ∧ m < 2147483647 ∧ H' = H) ⟨seed, none, rfl, s0, s1, rfl⟩ (fun i σ H' _ ⟨_, _, _, _, _, e⟩ => by rw [e]; exact hS) ?_ ?_
    · rintro i y σ H' hy ⟨m, v, rfl, m0, m1, rfl⟩
      obtain ⟨x, hx, rfl⟩ := map_get hy
      refine ⟨_, rfl, m, 48271, rfl, rfl, .inr (by decide), ?_⟩
      refine ⟨_, rfl, x, 2147483629, rfl, rfl, (by decide : (2147483629 : Int) ≠ 0), _, _, rfl, rfl, _, 1, rfl, rfl, _, 2147483647, rfl, rfl, (by decide : (2147483647 : Int) ≠ 0), ?_⟩
      exact ⟨_, _, rfl, fmod_nn (by decide), fmod_lt (by decide), rfl⟩
    · rintro σ H' ⟨m, v, rfl, m0, m1, rfl⟩
      refine ⟨_, rfl, _, rfl, a, _, rfl, .inl hS, fun q hq => ⟨(by decide : (3 : Nat) ≤ sizeLine), fun p hp => ?_⟩⟩
      have nqp : q ≠ p := ne_of_none upd_same hp
      have hp0 : H' p = none := by rw [upd_ne nqp.symm] at hp; exact hp
      exact k p q _ ⟨m, 0, ns, nqp.symm, upd_same, by rw [upd_ne nqp]; exact upd_same, m0, m1, Int.le_refl _, hns⟩ hp0 hq (same_mut (same_new (Same.refl _) hq) hp0)
def sp_next : Sp := fun vs H Q _ => ∃ (p q : Addr) (n : Int), vs = [.ref p, .int n] ∧ HAt H p q ∧ 0 < n ∧ n < 1000000 ∧ ∀ r H', 0 ≤ r → r < n → HAt H' p q → Keep [p, q] H H' → Dom H H' → Q (.int r) H'
theorem ok_law_next (T : Tx K mg) : FnOk P w K mg base CX0 1 T.a_law_next T.d_law_next ["_law_h", "_law_many_here"] sp_next := by
  have nd := sc_law_next.nd
  refine T.F_law_next.ok sc_law_next (fun vs H Q E h => ?_) (fun cdv A outer s H vs Q E hr h => ?_)
  · obtain ⟨_, _, _, rfl, _⟩ := h
    rfl
  · obtain ⟨p, q, n, rfl, ⟨m, k, ns, npq, hp, hq, m0, m1, k0, hns⟩, n0, n1, fin⟩ := h
    refine ⟨_, (pss_cons (ps_set (i := 2) nd rfl (Or.inl rfl) (pe_op op_modN (pe_ix ix_list (pv 0) pe_int (fun _ _ => rfl)) (pe_callB (call_max2 rfl) (by rfl) T.z_max (by decide +kernel) (pa_cons pe_int (pa_cons (pe_callB call_len_seq (by rfl) T.z_len PySem.boot_len (pa_cons (pe_ix ix_list (pv 0) pe_int (fun _ _ => rfl)) pa_nil)) pa_nil))))) (pss_cons (ps_set (i := 3) nd rfl (Or.inl rfl) (pe_ifExp (pt_cmpR (op_neD hr.units) (pe_ix ix_list (pv 0) pe_int (fun _ _ => rfl)) (pe_lst pa_nil) (nomark _)) (pe_ix ix_list (pe_ix ix_list (pv 0) pe_int (fun _ _ => rfl)) (pv 2) (fun _ _ => rfl)) pe_int)) (pss_cons (ps_if (pt_cmpR op_ge (pv 3) (pe_op op_pow pe_int pe_int) (nomark _)) (pss_cons (ps_asg (pe_op op_fdivN (pv 3) (pv 1)) (pg_sub (pe_ix ix_list (pv 0) pe_int (fun _ _ => rfl)) (pv 2) set_list)) (pss_one (ps_ret (pe_op op_modN (pv 3) (pv 1))))) pss_nil) (pss_cons (ps_asg (pe_op op_modN (pe_op op_add (pe_op op_add (pe_op op_mul (pe_ix ix_list (pv 0) pe_int (fun _ _ => rfl)) pe_int) (pe_op op_mul (pv 3) pe_int)) pe_int) pe_int) (pg_sub (pv 0) pe_int set_list)) (pss_cons (ps_asg (pe_op op_add (pe_ix ix_list (pv 0) pe_int (fun _ _ => rfl)) pe_int) (pg_sub (pv 0) pe_int set_list)) (pss_one (ps_ret (pe_op op_modN (pe_op op_fdivN (pe_ix ix_list (pv 0) pe_int (fun _ _ => rfl)) pe_int) (pv 1))))))))), ?_⟩
    -- at
    refine ⟨_, rfl, p, _, 2, .int k, rfl, rfl, SqL.of hp, atI_nat (j := 2) rfl, ?_⟩
    refine ⟨_, rfl, p, _, 1, .ref q, rfl, rfl, SqL.of hp, atI_nat (j := 1) rfl, q, _, rfl, .inl (SqL.of hq), 1, _, rfl, ?_⟩
    have hlen : ((ns.map V.int).length : Int) = (ns.length : Int) := by rw [List.length_map]
    rw [hlen]
    have hx : (if ((ns.length : Nat) : Int) > 1 then ((ns.length : Nat) : Int) else 1) = ((max 1 ns.length : Nat) : Int) := by
      split <;> omega
    show ∃ i j, V.int k = .int i ∧ V.int (if ((ns.length : Nat) : Int) > 1 then ((ns.length : Nat) : Int) else 1) = .int j ∧ _
    rw [hx]
    refine ⟨_, _, rfl, rfl, (by show ((max 1 ns.length : Nat) : Int) ≠ 0; omega), ?_⟩
    have hat0 : 0 ≤ k.fmod ((max 1 ns.length : Nat) : Int) := fmod_nn (by omega)
    have hat1 : k.fmod ((max 1 ns.length : Nat) : Int) < ((max 1 ns.length : Nat) : Int) := fmod_lt (by omega)
    obtain ⟨at', eat⟩ : ∃ at' : Nat, k.fmod ((max 1 ns.length : Nat) : Int) = (at' : Int) := ⟨_, (Int.toNat_of_nonneg hat0).symm⟩
    show tSeq _ _ _ (L2.start N_law_next [V.ref p, V.int n] |>.set 2 (some (.int (k.fmod ((max 1 ns.length : Nat) : Int))))) H
    rw [eat] at hat1 ⊢
    have hat2 : at' < max 1 ns.length := Int.ofNat_lt.mp hat1
    -- cell
    refine ⟨_, rfl, p, _, 1, .ref q, rfl, rfl, SqL.of hp, atI_nat (j := 1) rfl, Nat.zero_le _, fun e he => ?_⟩
    have npe : p ≠ e := ne_of_none hp he
    have nqe : q ≠ e := ne_of_none hq he
    have hp1 : upd H e (.lst []) p = some (.lst [.int m, .ref q, .int k]) := by rw [upd_ne npe]; exact hp
    have hq1 : upd H e (.lst []) q = some (.lst (ns.map V.int)) := by rw [upd_ne nqe]; exact hq
    have k1 : Keep [p, q] H (upd H e (.lst [])) := keep_new (Keep.refl _ _) he
    have d1 : Dom H (upd H e (.lst [])) := dom_upd _ _ _
    have de : Dp K (upd H e (.lst [])) (.ref e) (.list []) := .lst (SqL.of upd_same) .nil
    generalize upd H e (.lst []) = H1 at *
    refine ⟨.list (ns.map PyData.int), .list [], .lst (SqL.of hq1) (dpAll_ints ns), de, (Lay.list (k := 0) fun x _ => Lay.int x).shaped (by decide), Lay.nil.shaped (by decide), _, rfl, ?_⟩
    rw [eqv_nil]
    refine ife_skip (fun v H2 => ∃ cell : Int, v = .int cell ∧ H2 = H1 ∧ ((1000000000000000000 : Int) ≤ cell → ns[at']? = some cell)) (fun v H2 ⟨cell, ev, eh, hcell⟩ => ?_) (fun e rest => ?_) (fun e rest => ?_)
    case refine_2 =>
      have hne : ns ≠ [] := fun z => by subst z; exact absurd e (by decide)
      have hl0 : 0 < ns.length := List.length_pos_iff.mpr hne
      have hlt : at' < ns.length := by omega
      refine ⟨_, rfl, p, _, 1, .ref q, rfl, rfl, SqL.of hp1, atI_nat (j := 1) rfl, _, rfl, q, _, at', .int ns[at'], rfl, rfl, SqL.of hq1, atI_nat (by rw [List.getElem?_map, List.getElem?_eq_getElem hlt]; rfl), ?_⟩
      exact rest _ _ ⟨_, rfl, rfl, fun _ => List.getElem?_eq_getElem hlt⟩
    case refine_3 => exact rest _ _ ⟨0, rfl, rfl, fun z => absurd z (by decide)⟩
    subst ev eh
    refine ⟨_, rfl, 10, 18, rfl, rfl, ⟨by decide, by decide, by decide⟩, _, _, rfl, rfl, _, rfl, ite2 (fun e => ?_) (fun e => ?_)⟩
    · have hc : (1000000000000000000 : Int) ≤ cell := of_decide_eq_true e
      have hg := hcell hc
      have hlt : at' < ns.length := (List.getElem?_eq_some_iff.mp hg).1
      have hcq : CDivN cell n := ⟨by omega, by omega⟩
      refine ⟨_, rfl, _, rfl, cell, n, rfl, rfl, hcq, _, rfl, p, _, 1, .ref q, rfl, rfl, SqL.of hp1, atI_nat (j := 1) rfl, _, rfl, q, _, _, at', rfl, rfl, hq1, ?_, ?_⟩
      · unfold ixN
        rw [List.length_map, if_pos (by omega), if_pos (by omega)]
        simp
      · refine ⟨_, rfl, _, rfl, cell, n, rfl, rfl, (by show n ≠ 0; omega), ?_⟩
        rw [show (ns.map V.int).set at' (V.int (cell.fdiv n)) = (ns.set at' (cell.fdiv n)).map V.int by rw [List.map_set]]
        refine fin _ _ (fmod_nn n0) (fmod_lt n0) ⟨m, k, _, npq, by rw [upd_ne npq]; exact hp1, upd_same, m0, m1, k0, by rw [List.length_set]; exact hns⟩ (keep_upd k1 (by simp)) (d1.upd _ _)
    · -- h[0] = ..
      refine ⟨_, rfl, p, _, 0, .int m, rfl, rfl, SqL.of hp1, atI_nat (j := 0) rfl, m, 48271, rfl, rfl, .inr (by decide), ?_⟩
      refine ⟨_, rfl, cell, 69621, rfl, rfl, .inr (by decide), _, _, rfl, rfl, _, 11, rfl, rfl, _, 2147483647, rfl, rfl, (by decide : (2147483647 : Int) ≠ 0), ?_⟩
      refine ⟨_, rfl, p, _, 0, 0, rfl, rfl, hp1, rfl, ?_⟩
      have hm0 : 0 ≤ (m * 48271 + cell * 69621 + 11).fmod 2147483647 := fmod_nn (by decide)
      have hm1 : (m * 48271 + cell * 69621 + 11).fmod 2147483647 < 2147483647 := fmod_lt (by decide)
      show tSeq _ _ _ _ (upd H2 p (.lst [.int ((m * 48271 + cell * 69621 + 11).fmod 2147483647), .ref q, .int k]))
      generalize (m * 48271 + cell * 69621 + 11).fmod 2147483647 = m' at *
      -- h[2] = h[2] + 1
      refine ⟨_, rfl, p, _, 2, .int k, rfl, rfl, SqL.of upd_same, atI_nat (j := 2) rfl, k, 1, rfl, rfl, _, rfl, p, _, 2, 2, rfl, rfl, upd_same, rfl, ?_⟩
      rw [upd_upd]
      -- return h[0] // 7 % many
      refine ⟨_, rfl, p, _, 0, .int m', rfl, rfl, SqL.of upd_same, atI_nat (j := 0) rfl, m', 7, rfl, rfl, ⟨by decide, by decide⟩, _, rfl, _, n, rfl, rfl, (by show n ≠ 0; omega), ?_⟩
      exact fin _ _ (fmod_nn n0) (fmod_lt n0) ⟨m', k + 1, ns, npq, upd_same, by rw [upd_ne npq.symm]; exact hq1, hm0, hm1, by omega, hns⟩ (keep_upd k1 (by simp)) (d1.upd _ _)
end
end K5

namespace K5
open PySem PySem.Spec PyProof.Rows L2 Sky
section
variable {P : Program} {w : World} {K : PySem.W.Frag} {mg : Str → Option Value} {base : Heap}
theorem HAt.new {H : Hp} {p q a : Addr} {o : HO} (h : HAt H p q) (n : H a = none) : HAt (upd H a o) p q := by
  obtain ⟨m, k, ns, npq, hp, hq, r⟩ := h
  exact ⟨m, k, ns, npq, by rw [upd_ne (ne_of_none hp n)]; exact hp, by rw [upd_ne (ne_of_none hq n)]; exact hq, r⟩
theorem HAt.ne {H : Hp} {p q a : Addr} {o : HO} (h : HAt H p q) (n : a ≠ p) (n' : a ≠ q) : HAt (upd H a o) p q := by
  obtain ⟨m, k, ns, npq, hp, hq, r⟩ := h
  exact ⟨m, k, ns, npq, by rw [upd_ne n.symm]; exact hp, by rw [upd_ne n'.symm]; exact hq, r⟩
theorem HAt.there {H : Hp} {p q : Addr} (h : HAt H p q) : ∀ m ∈ [p, q], ∃ o, H m = some o := by
  obtain ⟨m, k, ns, npq, hp, hq, r⟩ := h
  intro x hx
  rcases List.mem_cons.mp hx with e | e
  · rw [e]; exact ⟨_, hp⟩
  · rw [List.mem_singleton.mp e]; exact ⟨_, hq⟩
theorem HAt.noT {H : Hp} {p q : Addr} (h : HAt H p q) : ∀ m ∈ [p, q], NoT H m := by
  obtain ⟨m, k, ns, npq, hp, hq, r⟩ := h
  intro x hx
  rcases List.mem_cons.mp hx with e | e
  · rw [e]; exact NoT.lst hp
  · rw [List.mem_singleton.mp e]; exact NoT.lst hq
theorem HAt.fresh {H : Hp} {p q a : Addr} (h : HAt H p q) (n : H a = none) : a ≠ p ∧ a ≠ q := by
  obtain ⟨m, k, ns, npq, hp, hq, r⟩ := h
  exact ⟨(ne_of_none hp n).symm, (ne_of_none hq n).symm⟩
/-- an item of a written list at a drawn place -/
theorem at_of {xs : List V} {r : Int} {R : V → Prop} (h0 : 0 ≤ r) (h1 : r < (xs.length : Int)) (h : ∀ v ∈ xs, R v) : ∃ v, atI xs r = some v ∧ R v := by
  obtain ⟨n, rfl⟩ : ∃ n : Nat, r = (n : Int) := ⟨r.toNat, (Int.toNat_of_nonneg h0).symm⟩
  have hl : n < xs.length := by omega
  exact ⟨xs[n], atI_nat (List.getElem?_eq_getElem hl), h _ (List.getElem_mem hl)⟩
def sp_data : Sp := fun vs H Q _ => ∃ (p q : Addr), vs = [.ref p] ∧ HAt H p q ∧ ∀ t xs H', tellOk xs → H' t = some (.tup (xs.map V.int)) → H t = none → HAt H' p q → Keep [p, q] H H' → Dom H H' → Q (.ref t) H'
theorem ok_law_data (T : Tx K mg) : FnOk P w K mg base CX0 2 T.a_law_data T.d_law_data ["_law_h"] sp_data := by
  have nd := sc_law_data.nd
  refine T.F_law_data.ok sc_law_data (fun vs H Q E h => ?_) (fun cdv A outer s H vs Q E hr h => ?_)
  · obtain ⟨_, _, rfl, _⟩ := h
    rfl
  · obtain ⟨p, q, rfl, hA, fin⟩ := h
    refine ⟨_, (pss_cons (ps_set (i := 1) nd rfl (Or.inl rfl) (pe_ix ix_list (pe_lst (pa_cons pe_int (pa_cons (pe_op op_add pe_int (pe_call (ok_law_next T) (hr.mono (by decide)) (by rfl) T.m_law_next T.F_law_next.kp T.b_law_next .nil pass0 (pa_cons (pv 0) (pa_cons pe_int pa_nil)))) (pa_cons (pe_op op_add pe_int (pe_call (ok_law_next T) (hr.mono (by decide)) (by rfl) T.m_law_next T.F_law_next.kp T.b_law_next .nil pass0 (pa_cons (pv 0) (pa_cons pe_int pa_nil)))) (pa_cons pe_int pa_nil))))) (pe_call (ok_law_next T) (hr.mono (by decide)) (by rfl) T.m_law_next T.F_law_next.kp T.b_law_next .nil pass0 (pa_cons (pv 0) (pa_cons pe_int pa_nil))) (fun _ _ => rfl))) (pss_one (ps_ret (pe_tupleOf (by rfl) T.z_tuple (pe_lc (own := [("_law_k", 2)]) rfl nd (pi_range1 rfl T.z_range (pa_cons (pv 1) pa_nil)) (blkOk_by (own := [("_law_k", 2)]) (N := N_law_data) (sc := defScope s_law_data) (by decide +kernel)) (fun _ _ _ _ _ => (pg_name (i := 2) nd rfl (Or.inl rfl))) (fun _ _ _ _ _ => pts_nil) (fun _ _ _ _ _ => (pe_call (ok_law_next T) (hr.mono (by decide)) (by rfl) T.m_law_next T.F_law_next.kp T.b_law_next .nil pass0 (pa_cons (pv 0) (pa_cons (pe_ix (ix_listK (K := K) rfl) (pe_lst (pa_cons pe_int (pa_cons pe_int pa_nil))) (pe_call (ok_law_next T) (hr.mono (by decide)) (by rfl) T.m_law_next T.F_law_next.kp T.b_law_next .nil pass0 (pa_cons (pv 0) (pa_cons pe_int pa_nil))) (fun _ _ => rfl)) pa_nil))))))))), ?_⟩
    refine ⟨_, rfl, p, q, 5, rfl, hA, by decide, by decide, fun r1 H1 r10 r11 hA1 k1 d1 => ⟨1, r1, rfl, rfl, ?_⟩⟩
    refine ⟨_, rfl, p, q, 20, rfl, hA1, by decide, by decide, fun r2 H2 r20 r21 hA2 k2 d2 => ⟨1, r2, rfl, rfl, ?_⟩⟩
    refine ⟨(by decide : (4 : Nat) ≤ sizeLine), fun a ha => ?_⟩
    have k3 : Keep [p, q] H (upd H2 a (.lst [.int 1, .int (1 + r1), .int (1 + r2), .int 20])) := keep_new (k1.trans k2) (d1 _ (d2 _ ha))
    have d3 : Dom H (upd H2 a (.lst [.int 1, .int (1 + r1), .int (1 + r2), .int 20])) := (d1.trans d2).upd _ _
    have hA3 : HAt (upd H2 a (.lst [.int 1, .int (1 + r1), .int (1 + r2), .int 20])) p q := hA2.new ha
    have ha3 : upd H2 a (.lst [.int 1, .int (1 + r1), .int (1 + r2), .int 20]) a = some (.lst [.int 1, .int (1 + r1), .int (1 + r2), .int 20]) := upd_same
    have naf := hA2.fresh ha
    generalize upd H2 a (.lst [.int 1, .int (1 + r1), .int (1 + r2), .int 20]) = H3 at *
    refine ⟨_, rfl, p, q, 4, rfl, hA3, by decide, by decide, fun r4 H4 r40 r41 hA4 k4 d4 => ?_⟩
    have ha4 := k4 _ _ (by simp [naf.1, naf.2]) ha3
    obtain ⟨v, hv, n, rfl, n1, n20⟩ := at_of (R := fun v => ∃ n : Int, v = .int n ∧ 1 ≤ n ∧ n ≤ 20) r40 (xs := [.int 1, .int (1 + r1), .int (1 + r2), .int 20]) r41 (by
      intro v hv
      simp only [List.mem_cons, List.not_mem_nil, or_false] at hv
      rcases hv with rfl | rfl | rfl | rfl
      · exact ⟨_, rfl, by omega, by omega⟩
      · exact ⟨_, rfl, by omega, by omega⟩
      · exact ⟨_, rfl, by omega, by omega⟩
      · exact ⟨_, rfl, by omega, by omega⟩)
    refine ⟨a, _, _, _, rfl, rfl, SqL.of ha4, hv, ?_⟩
    have k5 : Keep [p, q] H H4 := k3.trans k4
    have d5 : Dom H H4 := d3.trans d4
    obtain ⟨N, rfl⟩ : ∃ N : Nat, n = (N : Int) := ⟨n.toNat, (Int.toNat_of_nonneg (by omega)).symm⟩
    -- return tuple([..])
    refine ⟨_, rfl, _, rfl, (by omega), (by omega), fun D hD => ?_⟩
    have hD0 : H D = none := d5 _ hD
    refine lc_range (lo := 0) (n := ((N : Nat) : Int).toNat) (fun i H' => ∃ xs : List Int, H' D = some (.lst (xs.map V.int)) ∧ xs.length = i ∧ (∀ x ∈ xs, 0 ≤ x ∧ x ≤ 255) ∧ HAt H' p q ∧ Keep [p, q] H H' ∧ Dom H H') ?_ ?_ ?_
    · exact ⟨[], upd_same, rfl, by simp, hA4.new hD, keep_new k5 hD0, d5.upd _ _⟩
    · rintro i H' hi ⟨xs, hx, hl, hb, hA', k', d'⟩
      refine ⟨rfl, _, rfl, (by decide : (2 : Nat) ≤ sizeLine), fun b hb' => ?_⟩
      have nb : b ≠ D := (ne_of_none hx hb').symm
      have nbf := hA'.fresh hb'
      refine ⟨_, rfl, p, q, 2, rfl, hA'.new hb', by decide, by decide, fun r H1 r0 r1 hA1 k1 d1 => ?_⟩
      obtain ⟨v, hv, m, rfl, m0, m1⟩ := at_of (R := fun v => ∃ n : Int, v = .int n ∧ 0 < n ∧ n ≤ 256) r0 (xs := [.int 2, .int 256]) r1 (by
        intro v hv
        simp only [List.mem_cons, List.not_mem_nil, or_false] at hv
        rcases hv with rfl | rfl
        · exact ⟨_, rfl, by omega, by omega⟩
        · exact ⟨_, rfl, by omega, by omega⟩)
      refine ⟨b, _, _, _, rfl, rfl, SqL.of (k1 _ _ (by simp [nbf.1, nbf.2]) upd_same), hv, ?_⟩
      refine ⟨p, q, m, rfl, hA1, m0, by omega, fun r' H2 r0' r1' hA2 k2 d2 => ?_⟩
      have nDf : D ≠ p ∧ D ≠ q := by
        obtain ⟨_, _, _, _, hp, hq, _⟩ := hA
        exact ⟨(ne_of_none hp hD0).symm, (ne_of_none hq hD0).symm⟩
      have hx2 : H2 D = some (.lst (xs.map V.int)) := k2 _ _ (by simp [nDf.1, nDf.2]) (k1 _ _ (by simp [nDf.1, nDf.2]) (by rw [upd_ne nb.symm]; exact hx))
      refine ⟨_, hx2, lt_line (by rw [List.length_map]; omega), xs ++ [r'], by rw [upd_same, List.map_append]; rfl, by rw [List.length_append, hl]; rfl, ?_, hA2.ne nDf.1 nDf.2, keep_new (((keep_new' k' hb').trans k1).trans k2) hD0, (((d'.upd _ _).trans d1).trans d2).upd _ _⟩
      intro x hx
      rcases List.mem_append.mp hx with e | e
      · exact hb x e
      · rw [List.mem_singleton.mp e]
        exact ⟨r0', by omega⟩
    · rintro H' ⟨xs, hx, hl, hb, hA', k', d'⟩
      refine .inl ⟨D, _, rfl, SqL.of hx, fun t ht => ?_⟩
      have ht0 := d' _ ht
      exact fin t xs _ ⟨by omega, by omega, hb⟩ upd_same ht0 (hA'.new ht) (keep_new k' ht0) (d'.upd _ _)
end
end K5

namespace K5
open PySem PySem.Spec PyProof.Rows L2 Sky
section
variable {P : Program} {w : World} {K : PySem.W.Frag} {mg : Str → Option Value} {base : Heap}
/-! ### what is alike -/
def sp_alike (K : PySem.W.Frag) : Nat → Sp
  | 0 => fun _ _ _ _ => False
  | n + 1 => fun vs H Q _ => ∃ (v u : V) (d : PyData), vs = [v, u] ∧ Dp K H v d ∧ Dp K H u d ∧ DOk n d ∧ ∀ H', Same H H' → Q (.bl true) H'
theorem isi {x : V} {n m : String} {b : Bool} {H : Hp} {Q : VK} (ty : TyX K H x (.type n)) (k : kitB n m = some b) (q : Q (.bl b) H) : rIsi K [x, .ty m] H Q := ⟨x, _, _, _, b, rfl, .ty m, ty, kit_ty k, q⟩
theorem isi2 {x : V} {n m m' : String} {b : Bool} {tp : Addr} {H : Hp} {Q : VK} (ht : H tp = some (.tup [.ty m, .ty m'])) (ty : TyX K H x (.type n)) (k : PySem.W.kitAny K (.type n) [.type m, .type m'] = some b) (q : Q (.bl b) H) : rIsiT K [x, .ref tp] H Q :=
  ⟨x, tp, _, _, _, b, rfl, ht, .cons (.ty _) (.cons (.ty _) .nil), ty, k, q⟩
theorem ok_law_alike (T : Tx K mg) : ∀ n, FnOk P w K mg base CX0 n T.a_law_alike T.d_law_alike ["_law_found", "_law_due"] (sp_alike K n)
  | 0 => ⟨fun vs H Q E h => False.elim h, by intros; rename_i h; first | exact False.elim h | (rename_i h _; exact False.elim h) | (rename_i h _ _; exact False.elim h)⟩
  | n + 1 => by
    have ih := ok_law_alike T n
    have nd := sc_law_alike.nd
    refine T.F_law_alike.ok sc_law_alike (fun vs H Q E h => ?_) (fun cdv A outer s H vs Q E hr h => ?_)
    · obtain ⟨_, _, _, rfl, _⟩ := h
      rfl
    · obtain ⟨v, u, d, rfl, h1, h2, hd, q⟩ := h
      refine ⟨_, (pss_cons (ps_if (pt_val (pe_callB call_isiT (by rfl) T.z_isinstance (by decide +kernel) (pa_cons (pv 1) (pa_cons (pe_tup (pa_cons (pe_bltn (v := .ty "tuple") (u := .type "tuple") (by rfl) T.z_tuple (by decide +kernel) rfl) (pa_cons (pe_bltn (v := .ty "list") (u := .type "list") (by rfl) T.z_list (by decide +kernel) rfl) pa_nil))) pa_nil)))) (pss_cons (ps_if (PW.pt (pw_or (pt_not (pt_val (pe_callB call_isiT (by rfl) T.z_isinstance (by decide +kernel) (pa_cons (pv 0) (pa_cons (pe_tup (pa_cons (pe_bltn (v := .ty "tuple") (u := .type "tuple") (by rfl) T.z_tuple (by decide +kernel) rfl) (pa_cons (pe_bltn (v := .ty "list") (u := .type "list") (by rfl) T.z_list (by decide +kernel) rfl) pa_nil))) pa_nil))))) (pw_or1 (pt_cmpR op_ne (pe_callB call_isi (by rfl) T.z_isinstance (by decide +kernel) (pa_cons (pv 0) (pa_cons (pe_bltn (v := .ty "list") (u := .type "list") (by rfl) T.z_list (by decide +kernel) rfl) pa_nil))) (pe_callB call_isi (by rfl) T.z_isinstance (by decide +kernel) (pa_cons (pv 1) (pa_cons (pe_bltn (v := .ty "list") (u := .type "list") (by rfl) T.z_list (by decide +kernel) rfl) pa_nil))) (nomark _))))) (pss_one (ps_ret pe_bl)) pss_nil) (pss_cons (ps_if (pt_cmpR op_ne (pe_callB call_len_seq (by rfl) T.z_len PySem.boot_len (pa_cons (pv 0) pa_nil)) (pe_callB call_len_seq (by rfl) T.z_len PySem.boot_len (pa_cons (pv 1) pa_nil)) (nomark _)) (pss_one (ps_ret pe_bl)) pss_nil) (pss_one (ps_ret (pe_cmpR (op_eqD hr.units) (pe_lc (own := [("_law_k", 2)]) rfl nd (pi_range1 rfl T.z_range (pa_cons (pe_callB call_len_seq (by rfl) T.z_len PySem.boot_len (pa_cons (pv 1) pa_nil)) pa_nil)) (blkOk_by (own := [("_law_k", 2)]) (N := N_law_alike) (sc := defScope s_law_alike) (by decide +kernel)) (fun _ _ _ _ _ => (pg_name (i := 2) nd rfl (Or.inl rfl))) (fun _ _ _ _ _ => (pts_one (pt_not (pt_val (pe_call ih hr (by rfl) T.m_law_alike T.F_law_alike.kp T.b_law_alike .nil pass0 (pa_cons (pe_ix (ix_seqK (K := K) rfl) (pv 0) (pv 2) (fun _ _ => rfl)) (pa_cons (pe_ix (ix_seqK (K := K) rfl) (pv 1) (pv 2) (fun _ _ => rfl)) pa_nil))))))) (fun _ _ _ _ _ => (pv 2))) (pe_lst pa_nil) (nomark _)))))) pss_nil) (pss_cons (ps_if (pt_cmpR op_isN (pv 1) pe_non (nomark _)) (pss_one (ps_ret (pe_cmpR op_isN (pv 0) pe_non (nomark _)))) pss_nil) (pss_cons (ps_if (pt_val (pe_callB call_isi (by rfl) T.z_isinstance (by decide +kernel) (pa_cons (pv 1) (pa_cons (pe_bltn (v := .ty "str") (u := .type "str") (by rfl) T.z_str (by decide +kernel) rfl) pa_nil)))) (pss_one (ps_ret (pe_and (pe_callB call_isi (by rfl) T.z_isinstance (by decide +kernel) (pa_cons (pv 0) (pa_cons (pe_bltn (v := .ty "str") (u := .type "str") (by rfl) T.z_str (by decide +kernel) rfl) pa_nil))) (pe_one (pe_cmpR op_eq (pv 0) (pv 1) (nomark _)))))) pss_nil) (pss_cons (ps_if (PW.pt (pw_or (pt_val (pe_callB call_isi (by rfl) T.z_isinstance (by decide +kernel) (pa_cons (pv 1) (pa_cons (pe_bltn (v := .ty "bool") (u := .type "bool") (by rfl) T.z_bool (by decide +kernel) rfl) pa_nil)))) (pw_or1 (pt_val (pe_callB call_isi (by rfl) T.z_isinstance (by decide +kernel) (pa_cons (pv 0) (pa_cons (pe_bltn (v := .ty "bool") (u := .type "bool") (by rfl) T.z_bool (by decide +kernel) rfl) pa_nil))))))) (pss_one (ps_ret (pe_and (pe_callB call_isi (by rfl) T.z_isinstance (by decide +kernel) (pa_cons (pv 1) (pa_cons (pe_bltn (v := .ty "bool") (u := .type "bool") (by rfl) T.z_bool (by decide +kernel) rfl) pa_nil))) (pe_and (pe_callB call_isi (by rfl) T.z_isinstance (by decide +kernel) (pa_cons (pv 0) (pa_cons (pe_bltn (v := .ty "bool") (u := .type "bool") (by rfl) T.z_bool (by decide +kernel) rfl) pa_nil))) (pe_one (pe_cmpR op_eq (pv 0) (pv 1) (nomark _))))))) pss_nil) (pss_one (ps_ret (pe_and (pe_callB call_isi (by rfl) T.z_isinstance (by decide +kernel) (pa_cons (pv 0) (pa_cons (pe_bltn (v := .ty "int") (u := .type "int") (by rfl) T.z_int (by decide +kernel) rfl) pa_nil))) (pe_one (pe_cmpR op_eq (pv 0) (pv 1) (nomark _)))))))))), ?_⟩
      -- if isinstance(due, (tuple, list))
      refine ⟨_, rfl, (by decide : (2 : Nat) ≤ sizeLine), fun tp htp => ?_⟩
      have s1 : Same H (upd H tp (.tup [.ty "tuple", .ty "list"])) := same_new (Same.refl _) htp
      have t1 : upd H tp (.tup [.ty "tuple", .ty "list"]) tp = some (.tup [.ty "tuple", .ty "list"]) := upd_same
      have a1 := dp_same s1 h1
      have a2 := dp_same s1 h2
      generalize upd H tp (.tup [.ty "tuple", .ty "list"]) = H1 at *
      have y1 := dp_ty a1
      have y2 := dp_ty a2
      have seq : (∃ ds : List PyData, (d = .list ds ∨ d = .tuple ds) ∧ ds.length ≤ 10000000 ∧ ∃ m, n = m + 1 ∧ ∀ e ∈ ds, DOk m e) ∨ (d = .none ∨ (∃ i, d = .int i) ∨ (∃ b, d = .bool b) ∨ ∃ x, d = .str x) := by
        cases n with
        | zero => exact .inr hd
        | succ m =>
          rcases hd with hd | ⟨ds, e, l, h⟩
          · exact .inr hd
          · exact .inl ⟨ds, e, l, m, rfl, h⟩
      rcases seq with ⟨ds, ed, hl, m, rfl, hds⟩ | rfl | ⟨i, rfl⟩ | ⟨b, rfl⟩ | ⟨x, rfl⟩
      · -- a list, a tuple
        have k2 : PySem.W.kitAny K (.type (tyN d)) [.type "tuple", .type "list"] = some true := by
          rcases ed with rfl | rfl
          · exact kit2T' (by decide +kernel : kitB "list" "tuple" = some false) (by decide +kernel : kitB "list" "list" = some true)
          · exact kit2T (by decide +kernel : kitB "tuple" "tuple" = some true)
        obtain ⟨b, kl⟩ : ∃ b, kitB (tyN d) "list" = some b := by
          rcases ed with rfl | rfl
          · exact ⟨true, (by decide +kernel : kitB "list" "list" = some true)⟩
          · exact ⟨false, (by decide +kernel : kitB "tuple" "list" = some false)⟩
        refine ⟨_, _, _, _, _, _, rfl, t1, .cons (.ty _) (.cons (.ty _) .nil), y2, k2, ?_⟩
        refine ⟨true, rfl, iteT ?_⟩
        refine ⟨_, rfl, (by decide : (2 : Nat) ≤ sizeLine), fun tp2 htp2 => ?_⟩
        have s2 : Same H1 (upd H1 tp2 (.tup [.ty "tuple", .ty "list"])) := same_new (Same.refl _) htp2
        have t2 : upd H1 tp2 (.tup [.ty "tuple", .ty "list"]) tp2 = some (.tup [.ty "tuple", .ty "list"]) := upd_same
        have b1 := dp_same s2 a1
        have b2 := dp_same s2 a2
        generalize upd H1 tp2 (.tup [.ty "tuple", .ty "list"]) = H2 at *
        have sH := s1.trans s2
        have z1 := dp_ty b1
        have z2 := dp_ty b2
        refine ⟨_, _, _, _, _, _, rfl, t2, .cons (.ty _) (.cons (.ty _) .nil), z1, k2, ?_⟩
        refine ⟨true, rfl, iteF ?_⟩
        refine ⟨_, rfl, _, _, _, _, b, rfl, .ty _, z1, kit_ty kl, ?_⟩
        refine ⟨_, rfl, _, _, _, _, b, rfl, .ty _, z2, kit_ty kl, ?_⟩
        refine ⟨rfl, false, ndF rfl, iteF ?_⟩
        -- the two as sequences
        obtain ⟨p, xs, ev, hp, hxs⟩ : ∃ p xs, v = .ref p ∧ (∀ H', Same H2 H' → (SqL K H' p xs ∧ d = .list ds) ∨ (SqT K H' p xs ∧ d = .tuple ds)) ∧ DpAll K H2 xs ds := by
          rcases ed with rfl | rfl
          · cases b1 with
            | lst h t => exact ⟨_, _, rfl, fun H' s' => .inl ⟨s'.seq h, rfl⟩, t⟩
          · cases b1 with
            | tup h t => exact ⟨_, _, rfl, fun H' s' => .inr ⟨by
                cases dp_same (K := K) s' (Dp.tup h t) with
                | tup h' t' =>
                  rcases h with (h | ⟨o, h⟩) | h
                  · exact .inl (.inl (s' _ _ h))
                  · exact .inl (.inr ⟨o, s' _ _ h⟩)
                  · exact .inr h, rfl⟩, t⟩
        obtain ⟨p', xs', eu, hp', hxs'⟩ : ∃ p xs, u = .ref p ∧ (∀ H', Same H2 H' → (SqL K H' p xs ∧ d = .list ds) ∨ (SqT K H' p xs ∧ d = .tuple ds)) ∧ DpAll K H2 xs ds := by
          rcases ed with rfl | rfl
          · cases b2 with
            | lst h t => exact ⟨_, _, rfl, fun H' s' => .inl ⟨s'.seq h, rfl⟩, t⟩
          · cases b2 with
            | tup h t => exact ⟨_, _, rfl, fun H' s' => .inr ⟨by
                rcases h with (h | ⟨o, h⟩) | h
                · exact .inl (.inl (s' _ _ h))
                · exact .inl (.inr ⟨o, s' _ _ h⟩)
                · exact .inr h, rfl⟩, t⟩
        subst ev eu
        have w1 : SqL K H2 p xs ∨ SqT K H2 p xs := by rcases hp H2 (Same.refl _) with h | h; exact .inl h.1; exact .inr h.1
        have w2 : SqL K H2 p' xs' ∨ SqT K H2 p' xs' := by rcases hp' H2 (Same.refl _) with h | h; exact .inl h.1; exact .inr h.1
        have l1 : xs.length = ds.length := DpAll.len hxs
        have l2 : xs'.length = ds.length := DpAll.len hxs'
        -- if len(found) != len(due)
        refine ⟨_, rfl, p, xs, rfl, w1, _, rfl, p', xs', rfl, w2, rfl, false, ndF (by rw [l1, l2]), iteF ?_⟩
        -- return [..] == []
        refine ⟨_, rfl, p', xs', rfl, w2, _, rfl, (by omega), (by omega), fun D hD => ?_⟩
        refine lc_range (lo := 0) (n := ((xs'.length : Nat) : Int).toNat) (fun i H' => Same H2 H' ∧ H' D = some (.lst [])) ⟨same_new (Same.refl _) hD, upd_same⟩ ?_ ?_
        · rintro i H' hi ⟨s', hD'⟩
          rw [Int.zero_add]
          have hi' : i < ds.length := by omega
          obtain ⟨y, hy, dy⟩ := DpAll.at hxs (List.getElem?_eq_getElem hi')
          obtain ⟨y', hy', dy'⟩ := DpAll.at hxs' (List.getElem?_eq_getElem hi')
          have fin : ∀ H3, Same H' H3 → Same H2 H3 ∧ H3 D = some (.lst []) := fun H3 s3 => ⟨s'.trans s3, s3 _ _ hD'⟩
          refine ⟨rfl, ?_⟩
          rcases hp H' s' with ⟨g1, ge⟩ | ⟨g1, ge⟩
          · rcases hp' H' s' with ⟨g2, _⟩ | ⟨_, ge'⟩
            · exact ⟨_, rfl, _, rfl, .inl ⟨p, xs, _, y, rfl, rfl, g1, atI_nat hy, _, rfl, _, rfl, .inl ⟨p', xs', _, y', rfl, rfl, g2, atI_nat hy', _, _, _, rfl, dp_same s' dy, dp_same s' dy', hds _ (List.getElem_mem hi'), fun H3 s3 => ⟨true, rfl, iteF (fin H3 s3)⟩⟩⟩⟩
            · rw [ge] at ge'; cases ge'
          · rcases hp' H' s' with ⟨_, ge'⟩ | ⟨g2, _⟩
            · rw [ge] at ge'; cases ge'
            · exact ⟨_, rfl, _, rfl, .inr (.inl ⟨p, xs, _, y, rfl, rfl, g1, atI_nat hy, _, rfl, _, rfl, .inr (.inl ⟨p', xs', _, y', rfl, rfl, g2, atI_nat hy', _, _, _, rfl, dp_same s' dy, dp_same s' dy', hds _ (List.getElem_mem hi'), fun H3 s3 => ⟨true, rfl, iteF (fin H3 s3)⟩⟩)⟩)⟩
        · rintro H' ⟨s', hD'⟩
          refine ⟨Nat.zero_le _, fun e he => ?_⟩
          have se := same_new (Same.refl _) he (o := .lst [])
          refine ⟨.list [], .list [], .lst (SqL.of (se _ _ hD')) .nil, .lst (SqL.of upd_same) .nil, Lay.nil.shaped (by decide), Lay.nil.shaped (by decide), ?_⟩
          rw [eqv_nil]
          exact q _ ((sH.trans s').trans se)
      · -- None
        cases a1
        cases a2
        refine ⟨_, _, _, _, _, _, rfl, t1, .cons (.ty _) (.cons (.ty _) .nil), y2, (kit2F (by decide +kernel : kitB "NoneType" "tuple" = some false) (by decide +kernel : kitB "NoneType" "list" = some false)), ?_⟩
        refine ⟨false, rfl, iteF ?_⟩
        refine ⟨_, rfl, rfl, true, dT rfl, iteT ⟨_, rfl, rfl, ?_⟩⟩
        exact q _ s1
      · -- an int
        cases a1
        cases a2
        refine ⟨_, _, _, _, _, _, rfl, t1, .cons (.ty _) (.cons (.ty _) .nil), y2, (kit2F (by decide +kernel : kitB "int" "tuple" = some false) (by decide +kernel : kitB "int" "list" = some false)), ?_⟩
        refine ⟨false, rfl, iteF ?_⟩
        refine ⟨_, rfl, rfl, false, dF (fun z => nomatch z), iteF ?_⟩
        refine ⟨_, rfl, _, _, _, _, false, rfl, .ty _, y2, kit_ty (by decide +kernel : kitB "int" "str" = some false), ?_⟩
        refine ⟨_, rfl, iteF ?_⟩
        refine ⟨_, rfl, _, _, _, _, false, rfl, .ty _, y2, kit_ty (by decide +kernel : kitB "int" "bool" = some false), ?_⟩
        refine ⟨_, rfl, iteF ?_⟩
        refine ⟨_, rfl, _, _, _, _, false, rfl, .ty _, y1, kit_ty (by decide +kernel : kitB "int" "bool" = some false), ?_⟩
        refine ⟨_, rfl, iteF ?_⟩
        refine ⟨_, rfl, _, _, _, _, true, rfl, .ty _, y1, kit_ty (by decide +kernel : kitB "int" "int" = some true), ?_⟩
        refine ⟨_, rfl, iteT ?_⟩
        exact ⟨_, rfl, _, rfl, rfl, bl_of rfl (q _ s1)⟩
      · -- True, False
        cases a1
        cases a2
        refine ⟨_, _, _, _, _, _, rfl, t1, .cons (.ty _) (.cons (.ty _) .nil), y2, (kit2F (by decide +kernel : kitB "bool" "tuple" = some false) (by decide +kernel : kitB "bool" "list" = some false)), ?_⟩
        refine ⟨false, rfl, iteF ?_⟩
        refine ⟨_, rfl, rfl, false, dF (fun z => nomatch z), iteF ?_⟩
        refine ⟨_, rfl, _, _, _, _, false, rfl, .ty _, y2, kit_ty (by decide +kernel : kitB "bool" "str" = some false), ?_⟩
        refine ⟨_, rfl, iteF ?_⟩
        refine ⟨_, rfl, _, _, _, _, true, rfl, .ty _, y2, kit_ty (by decide +kernel : kitB "bool" "bool" = some true), ?_⟩
        refine ⟨_, rfl, iteT ?_⟩
        refine ⟨_, rfl, _, _, _, _, true, rfl, .ty _, y2, kit_ty (by decide +kernel : kitB "bool" "bool" = some true), ?_⟩
        refine ⟨_, rfl, iteT ?_⟩
        refine ⟨_, rfl, _, _, _, _, true, rfl, .ty _, y1, kit_ty (by decide +kernel : kitB "bool" "bool" = some true), ?_⟩
        refine ⟨_, rfl, iteT ?_⟩
        exact ⟨_, rfl, _, rfl, rfl, bl_of rfl (q _ s1)⟩
      · -- a text
        cases a1
        cases a2
        refine ⟨_, _, _, _, _, _, rfl, t1, .cons (.ty _) (.cons (.ty _) .nil), y2, (kit2F (by decide +kernel : kitB "str" "tuple" = some false) (by decide +kernel : kitB "str" "list" = some false)), ?_⟩
        refine ⟨false, rfl, iteF ?_⟩
        refine ⟨_, rfl, rfl, false, dF (fun z => nomatch z), iteF ?_⟩
        refine ⟨_, rfl, _, _, _, _, true, rfl, .ty _, y2, kit_ty (by decide +kernel : kitB "str" "str" = some true), ?_⟩
        refine ⟨_, rfl, iteT ?_⟩
        refine ⟨_, rfl, _, _, _, _, true, rfl, .ty _, y1, kit_ty (by decide +kernel : kitB "str" "str" = some true), ?_⟩
        refine ⟨_, rfl, iteT ?_⟩
        exact ⟨_, rfl, _, rfl, rfl, bl_of rfl (q _ s1)⟩
end
end K5

namespace K5
open PySem PySem.Spec PyProof.Rows L2 Sky
section
variable {P : Program} {w : World} {K : PySem.W.Frag} {mg : Str → Option Value} {base : Heap}
theorem HAt.keep {H H' : Hp} {p q : Addr} {M : List Addr} (h : HAt H p q) (k : Keep M H H') (n : p ∉ M) (n' : q ∉ M) : HAt H' p q := by
  obtain ⟨m, k', ns, npq, hp, hq, r⟩ := h
  exact ⟨m, k', ns, npq, k _ _ n hp, k _ _ n' hq, r⟩
theorem HAt.same {H H' : Hp} {p q : Addr} (h : HAt H p q) (k : Same H H') : HAt H' p q := by
  obtain ⟨m, k', ns, npq, hp, hq, r⟩ := h
  exact ⟨m, k', ns, npq, k _ _ hp, k _ _ hq, r⟩
theorem HAt.ins {H : Hp} {p q : Addr} (h : HAt H p q) : (∃ o, H p = some o) ∧ ∃ o, H q = some o := by
  obtain ⟨m, k', ns, npq, hp, hq, r⟩ := h
  exact ⟨⟨_, hp⟩, ⟨_, hq⟩⟩
end
end K5

namespace K5
open PySem PySem.Spec PyProof.Rows L2 Sky
/-! ### what is drawn, in numbers: Tf, the tellings of each stream; a mark is (stream, count) -/
def mD (k : Nat × Nat) : PyData := mkD k.1 k.2
def cssOf (Cm : List (Nat × Nat)) (i : Nat) : List Nat := (Cm.filter fun k => decide (k.1 = i)).map (·.2)
def ssOf (Cm : List (Nat × Nat)) (i : Nat) : List Nat := (List.range 10000).filter fun c => decide ((i, c) ∈ Cm)
def HL (Cm : List (Nat × Nat)) : List (Nat × Nat) := (List.range 4).flatMap fun i => (ssOf Cm i).map fun c => (i, c)
theorem mem_css {Cm : List (Nat × Nat)} {i c : Nat} : c ∈ cssOf Cm i ↔ (i, c) ∈ Cm := by
  unfold cssOf
  rw [List.mem_map]
  constructor
  · rintro ⟨k, hk, rfl⟩
    obtain ⟨h1, h2⟩ := List.mem_filter.mp hk
    have h3 : k.1 = i := of_decide_eq_true h2
    subst h3
    exact h1
  · intro h
    exact ⟨(i, c), List.mem_filter.mpr ⟨h, decide_eq_true rfl⟩, rfl⟩
theorem css_nodup {Cm : List (Nat × Nat)} {i : Nat} (h : Cm.Nodup) : (cssOf Cm i).Nodup := by
  unfold cssOf
  refine List.pairwise_map.mpr (List.Pairwise.imp_of_mem (R := fun a b => a ≠ b) (fun {a b} ha hb hab e => hab ?_) (List.Pairwise.filter _ h))
  have h1 : a.1 = i := of_decide_eq_true (List.mem_filter.mp ha).2
  have h2 : b.1 = i := of_decide_eq_true (List.mem_filter.mp hb).2
  exact Prod.ext (h1.trans h2.symm) e
theorem css_snoc (Cm : List (Nat × Nat)) (k : Nat × Nat) (i : Nat) : cssOf (Cm ++ [k]) i = if k.1 = i then cssOf Cm i ++ [k.2] else cssOf Cm i := by
  unfold cssOf
  rw [List.filter_append, List.map_append]
  by_cases h : k.1 = i
  · rw [if_pos h, List.filter_cons_of_pos (by rw [decide_eq_true h]), List.filter_nil]; rfl
  · rw [if_neg h, List.filter_cons_of_neg (by rw [decide_eq_false h]; decide), List.filter_nil, List.map_nil, List.append_nil]
theorem css_len (Cm : List (Nat × Nat)) (i : Nat) : (cssOf Cm i).length ≤ Cm.length := by
  unfold cssOf
  rw [List.length_map]
  exact List.length_filter_le _ _
def topN : List Nat → Nat
  | [] => 0
  | x :: l => max x (topN l)
theorem top_le : ∀ {l : List Nat} {c : Nat}, c ∈ l → c ≤ topN l
  | x :: l, c, h => by
    rcases List.mem_cons.mp h with e | e
    · rw [e]; exact Nat.le_max_left _ _
    · exact Nat.le_trans (top_le e) (Nat.le_max_right _ _)
theorem top_mem : ∀ {l : List Nat}, l ≠ [] → topN l ∈ l
  | [], h => absurd rfl h
  | [x], _ => by show max x 0 ∈ [x]; rw [Nat.max_eq_left (Nat.zero_le _)]; exact List.mem_singleton.mpr rfl
  | x :: y :: l, _ => by
    show max x (topN (y :: l)) ∈ x :: y :: l
    have h := top_mem (l := y :: l) (by simp)
    rcases Nat.le_total x (topN (y :: l)) with e | e
    · rw [Nat.max_eq_right e]; exact List.mem_cons_of_mem _ h
    · rw [Nat.max_eq_left e]; exact List.mem_cons_self
/-! ### marks in their order -/
def keyI (k : Nat × Nat) : Int := (k.1 : Int) * 1000000 + (k.2 : Int)
theorem rises_same {xs ys : List (Nat × Nat)} (hx : (xs.map keyI).Pairwise (· < ·)) (hy : (ys.map keyI).Pairwise (· < ·)) (sx : ∀ k ∈ xs, k.2 < 1000000) (sy : ∀ k ∈ ys, k.2 < 1000000) (h : ∀ k, k ∈ xs ↔ k ∈ ys) : xs = ys := by
  have e : xs.map keyI = ys.map keyI := rising_same hx hy fun x => by
    rw [List.mem_map, List.mem_map]
    exact ⟨fun ⟨k, h1, h2⟩ => ⟨k, (h k).mp h1, h2⟩, fun ⟨k, h1, h2⟩ => ⟨k, (h k).mpr h1, h2⟩⟩
  have back : ∀ {zs : List (Nat × Nat)}, (∀ k ∈ zs, k.2 < 1000000) → (zs.map keyI).map (fun n : Int => (n.toNat / 1000000, n.toNat % 1000000)) = zs := by
    intro zs hz
    rw [List.map_map]
    refine (List.map_congr_left fun k hk => ?_).trans (List.map_id zs)
    have h1 := hz k hk
    show ((keyI k).toNat / 1000000, (keyI k).toNat % 1000000) = k
    unfold keyI
    refine Prod.ext ?_ ?_
    · show ((k.1 : Int) * 1000000 + (k.2 : Int)).toNat / 1000000 = k.1
      omega
    · show ((k.1 : Int) * 1000000 + (k.2 : Int)).toNat % 1000000 = k.2
      omega
  rw [← back sx, ← back sy, e]
theorem flat_rises {f : Nat → List Nat} (hf : ∀ i, (f i).Pairwise (· < ·)) (hs : ∀ i, ∀ c ∈ f i, c < 1000000) : ∀ n : Nat, ((((List.range n).flatMap fun i => (f i).map fun c => (i, c))).map keyI).Pairwise (· < ·)
  | 0 => List.Pairwise.nil
  | n + 1 => by
    rw [List.range_succ, List.flatMap_append, List.map_append]
    refine List.pairwise_append.mpr ⟨flat_rises hf hs n, ?_, ?_⟩
    · rw [List.flatMap_cons, List.flatMap_nil, List.append_nil, List.map_map]
      refine List.pairwise_map.mpr ((hf n).imp fun {a b} h => ?_)
      show (n : Int) * 1000000 + (a : Int) < (n : Int) * 1000000 + (b : Int)
      omega
    · intro a ha b hb
      obtain ⟨k, hk, rfl⟩ := List.mem_map.mp ha
      obtain ⟨j, hj, rfl⟩ := List.mem_map.mp hb
      obtain ⟨i, hi, hk⟩ := List.mem_flatMap.mp hk
      obtain ⟨c, hc, rfl⟩ := List.mem_map.mp hk
      rw [List.flatMap_cons, List.flatMap_nil, List.append_nil] at hj
      obtain ⟨c', hc', rfl⟩ := List.mem_map.mp hj
      have h1 := List.mem_range.mp hi
      have h2 := hs i c hc
      show (i : Int) * 1000000 + (c : Int) < (n : Int) * 1000000 + (c' : Int)
      omega
theorem ss_rise (Cm : List (Nat × Nat)) (i : Nat) : (ssOf Cm i).Pairwise (· < ·) := List.Pairwise.filter _ List.pairwise_lt_range
theorem ss_small {Cm : List (Nat × Nat)} {i c : Nat} (h : c ∈ ssOf Cm i) : c < 10000 := List.mem_range.mp (List.mem_filter.mp h).1
theorem mem_ss {Cm : List (Nat × Nat)} {i c : Nat} (sm : ∀ k ∈ Cm, k.2 < 10000) : c ∈ ssOf Cm i ↔ (i, c) ∈ Cm := by
  unfold ssOf
  rw [List.mem_filter, List.mem_range]
  exact ⟨fun h => of_decide_eq_true h.2, fun h => ⟨sm _ h, decide_eq_true h⟩⟩
theorem ss_len (Cm : List (Nat × Nat)) (i : Nat) : (ssOf Cm i).length ≤ 10000 := by
  have h := List.length_filter_le (fun c => decide ((i, c) ∈ Cm)) (List.range 10000)
  rw [List.length_range] at h
  exact h
theorem HL_rise (Cm : List (Nat × Nat)) : ((HL Cm).map keyI).Pairwise (· < ·) := flat_rises (fun i => ss_rise Cm i) (fun i c h => by have := ss_small h; omega) 4
theorem mem_HL {Cm : List (Nat × Nat)} (sm : ∀ k ∈ Cm, k.1 < 4 ∧ k.2 < 10000) (k : Nat × Nat) : k ∈ HL Cm ↔ k ∈ Cm := by
  unfold HL
  rw [List.mem_flatMap]
  constructor
  · rintro ⟨i, hi, h⟩
    obtain ⟨c, hc, rfl⟩ := List.mem_map.mp h
    exact (mem_ss fun k hk => (sm k hk).2).mp hc
  · intro h
    exact ⟨k.1, List.mem_range.mpr (sm k h).1, List.mem_map.mpr ⟨k.2, (mem_ss fun k hk => (sm k hk).2).mpr h, rfl⟩⟩
theorem HL_data (Cm : List (Nat × Nat)) : (HL Cm).map mD = (List.range 4).flatMap fun i => (ssOf Cm i).map (mkD i) := by
  unfold HL
  rw [List.map_flatMap]
  congr 1
  funext i
  rw [List.map_map]
  rfl
/-! ### marks as they lie -/
def kOf (H : Hp) : V → Int × Int
  | .ref t => match H t with
    | some (.tup [.int i, .int j]) => (i, j)
    | _ => (0, 0)
  | _ => (0, 0)
theorem kOf_mk {H : Hp} {v : V} {k : Nat × Nat} (h : TD H v (mD k)) : (∃ t, v = .ref t ∧ H t = some (.tup [.int (kOf H v).1, .int (kOf H v).2])) ∧ kOf H v = (((k.1 : Nat) : Int), ((k.2 : Nat) : Int)) := by
  obtain ⟨t, rfl, ht⟩ := td_mk h
  have e : kOf H (.ref t) = (((k.1 : Nat) : Int), ((k.2 : Nat) : Int)) := by
    show (match H t with | some (.tup [.int i, .int j]) => (i, j) | _ => (0, 0)) = _
    rw [ht]
  refine ⟨⟨t, rfl, ?_⟩, e⟩
  rw [e]
  exact ht
theorem tds_all {H : Hp} {vs : List V} {ds : List PyData} (h : TDs H vs ds) : ∀ v ∈ vs, ∃ d ∈ ds, TD H v d := by
  intro v hv
  obtain ⟨i, hi⟩ := List.getElem?_of_mem hv
  obtain ⟨d, hd, t⟩ := h.get hi
  exact ⟨d, List.mem_of_getElem? hd, t⟩
theorem tds_fn {H : Hp} {f : V → PyData} : ∀ {vs : List V}, (∀ v ∈ vs, TD H v (f v)) → TDs H vs (vs.map f)
  | [], _ => .nil
  | v :: vs, h => .cons (h v List.mem_cons_self) (tds_fn fun u hu => h u (List.mem_cons_of_mem _ hu))
theorem kOf_all {H : Hp} : ∀ {vs : List V} {Cm : List (Nat × Nat)}, TDs H vs (Cm.map mD) → vs.map (kOf H) = Cm.map fun k => (((k.1 : Nat) : Int), ((k.2 : Nat) : Int))
  | [], [], _ => rfl
  | [], _ :: _, h => by cases h
  | _ :: _, [], h => by cases h
  | v :: vs, k :: Cm, h => by
    cases h with
    | cons t ts => rw [List.map_cons, List.map_cons, (kOf_mk t).2, kOf_all ts]
/-- sorted marks, as they lie -/
theorem sorted_marks {H : Hp} {xs ys : List V} {Cm : List (Nat × Nat)} (tx : TDs H xs (Cm.map mD)) (nd : Cm.Nodup) (sm : ∀ k ∈ Cm, k.1 < 4 ∧ k.2 < 10000) (hs : SrtO.Srtd (ltP (kOf H)) ys) (hb : SrtO.Stb (ltP (kOf H)) ys xs) : TDs H ys ((HL Cm).map mD) := by
  have hall : ∀ y ∈ ys, ∃ k ∈ Cm, TD H y (mD k) ∧ kOf H y = (((k.1 : Nat) : Int), ((k.2 : Nat) : Int)) := by
    intro y hy
    obtain ⟨d, hd, t⟩ := tds_all tx y (hb.perm.mem_iff.mp hy)
    obtain ⟨k, hk, rfl⟩ := List.mem_map.mp hd
    exact ⟨k, hk, t, (kOf_mk t).2⟩
  let un : V → Nat × Nat := fun y => ((kOf H y).1.toNat, (kOf H y).2.toNat)
  have eun : ∀ y ∈ ys, ∃ k ∈ Cm, TD H y (mD k) ∧ un y = k := by
    intro y hy
    obtain ⟨k, hk, t, e⟩ := hall y hy
    refine ⟨k, hk, t, ?_⟩
    show ((kOf H y).1.toNat, (kOf H y).2.toNat) = k
    rw [e]
    exact Prod.ext (Int.toNat_natCast _) (Int.toNat_natCast _)
  have perm : (ys.map un).Perm Cm := by
    have h1 := hb.perm.map (kOf H)
    rw [kOf_all tx] at h1
    have h2 := h1.map fun p : Int × Int => (p.1.toNat, p.2.toNat)
    rw [List.map_map, List.map_map] at h2
    refine h2.trans (List.Perm.of_eq ?_)
    refine (List.map_congr_left fun k _ => ?_).trans (List.map_id Cm)
    exact Prod.ext (Int.toNat_natCast _) (Int.toNat_natCast _)
  have nd2 : ((ys.map un)).Nodup := perm.nodup_iff.mpr nd
  have e : ys.map un = HL Cm := by
    refine rises_same ?_ (HL_rise Cm) (fun k hk => ?_) (fun k hk => ?_) fun k => by rw [mem_HL sm, perm.mem_iff]
    · rw [List.map_map]
      have h1 : ys.Pairwise fun x y => ltP (kOf H) y x = false := hs
      have h2 : ys.Pairwise fun x y => un x ≠ un y := List.pairwise_map.mp nd2
      refine List.pairwise_map.mpr ((List.pairwise_and_iff.mpr ⟨h1, h2⟩).imp_of_mem fun {a b} ha hb' h => ?_)
      obtain ⟨k, hk, _, ek⟩ := hall a ha
      obtain ⟨j, hj, _, ej⟩ := hall b hb'
      have h3 := SrtO.lexB_no.mp h.1
      have h4 : un a ≠ un b := h.2
      have ek2 : un a = k := by
        show ((kOf H a).1.toNat, (kOf H a).2.toNat) = k
        rw [ek]; exact Prod.ext (Int.toNat_natCast _) (Int.toNat_natCast _)
      have ej2 : un b = j := by
        show ((kOf H b).1.toNat, (kOf H b).2.toNat) = j
        rw [ej]; exact Prod.ext (Int.toNat_natCast _) (Int.toNat_natCast _)
      rw [ek, ej] at h3
      show keyI (un a) < keyI (un b)
      rw [ek2, ej2] at h4 ⊢
      have h5 : ¬ (k.1 = j.1 ∧ k.2 = j.2) := fun ⟨a, b⟩ => h4 (Prod.ext a b)
      have s1 := (sm k hk).2
      have s2 := (sm j hj).2
      simp only at h3
      unfold keyI
      omega
    · have := (sm k (perm.mem_iff.mp hk)).2; omega
    · have := (sm k ((mem_HL sm k).mp hk)).2; omega
  rw [← e, List.map_map]
  refine tds_fn fun y hy => ?_
  obtain ⟨k, _, t, e⟩ := eun y hy
  show TD H y (mD (un y))
  rw [e]
  exact t
theorem eqv_mk (a b : Nat × Nat) : PyData.eqv (mD a) (mD b) = decide (a = b) := by
  unfold mD mkD
  by_cases h : a = b
  · subst h
    simp [PyData.eqv, PyData.eqvAll]
  · rw [decide_eq_false h]
    have : ¬ (a.1 = b.1 ∧ a.2 = b.2) := fun ⟨x, y⟩ => h (Prod.ext x y)
    by_cases h1 : a.1 = b.1
    · have h2 : a.2 ≠ b.2 := fun e => this ⟨h1, e⟩
      simp [PyData.eqv, PyData.eqvAll]
      omega
    · simp [PyData.eqv, PyData.eqvAll]
      omega
theorem lay_mk (k : Nat × Nat) : Lay 1 (mD k) := Lay.tuple (f := PyData.int) (xs := [((k.1 : Nat) : Int), ((k.2 : Nat) : Int)]) fun x _ => Lay.int x
theorem lay_mks (ks : List (Nat × Nat)) : Lay 2 (.list (ks.map mD)) := Lay.list fun k _ => lay_mk k
theorem any_mk (ks : List (Nat × Nat)) (k : Nat × Nat) : ((ks.map mD).any fun w => PyData.eqv w (mD k)) = decide (k ∈ ks) := by
  induction ks with
  | nil => rfl
  | cons x r ih =>
    rw [List.map_cons, List.any_cons, ih, eqv_mk]
    by_cases h : x = k
    · subst h; simp
    · have h' : ¬ k = x := fun e => h e.symm
      simp [h, h', List.mem_cons]
end K5
namespace K5
open PySem PySem.Spec PyProof.Rows L2 Sky
def DU (css : Nat → List Nat) (n : Nat) : List (Nat × Nat) := (List.range n).flatMap fun i => (wantL (css i) (fun _ => false) (topN (css i))).map fun c => (i, c)
theorem DU_succ (css : Nat → List Nat) (n : Nat) : DU css (n + 1) = DU css n ++ (wantL (css n) (fun _ => false) (topN (css n))).map fun c => (n, c) := by
  unfold DU
  rw [List.range_succ, List.flatMap_append]
  simp
theorem want_eq (css : Nat → List Nat) (O : List (Nat × Nat)) : ∀ n : Nat, ((DU css n).filter fun k => !decide (k ∈ O)).map mD = (List.range n).flatMap fun i => (wantL (css i) (fun c => decide ((i, c) ∈ O)) (topN (css i))).map (mkD i)
  | 0 => rfl
  | n + 1 => by
    rw [DU_succ, List.filter_append, List.map_append, want_eq css O n, List.range_succ, List.flatMap_append]
    congr 1
    rw [List.flatMap_cons, List.flatMap_nil, List.append_nil, List.filter_map, List.map_map]
    unfold wantL
    rw [List.filter_filter]
    show List.map (mkD n) _ = List.map (mkD n) _
    congr 1
    refine List.filter_congr fun c _ => ?_
    show (!decide ((n, c) ∈ O) && (!decide (c ∈ css n) && !false)) = (!decide (c ∈ css n) && !decide ((n, c) ∈ O))
    rw [Bool.not_false, Bool.and_true, Bool.and_comm]
theorem want_len (cs : List Nat) (nv : Nat → Bool) (m : Nat) : (wantL cs nv m).length ≤ m := by
  unfold wantL
  have := List.length_filter_le (fun c => !decide (c ∈ cs) && !nv c) (List.range m)
  rw [List.length_range] at this
  exact this
theorem DU_len {css : Nat → List Nat} (h : ∀ i, topN (css i) ≤ 10000) : ∀ n : Nat, (DU css n).length ≤ n * 10000
  | 0 => Nat.zero_le _
  | n + 1 => by
    have h1 := DU_len h n
    have h2 := want_len (css n) (fun _ => false) (topN (css n))
    have h3 := h n
    rw [DU_succ, List.length_append, List.length_map]
    omega
theorem cut2 (a b c d : V) : cutV [a, b, c, d] none (some 2) = [a, b] := rfl
theorem nocut2 (a b c d : V) : ¬ (HT.sIx [a, b, c, d].length 0 none = 0 ∧ HT.sIx [a, b, c, d].length [a, b, c, d].length (some 2) = [a, b, c, d].length) := fun h => absurd h.2 (by show ¬ ((2 : Nat) = 4); decide)
/-- the largest of some counts and -1 -/
theorem max_is {css : List Nat} {m : Int} (h1 : m ∈ (css.map fun c : Nat => (c : Int)) ++ [-1]) (h2 : ∀ y ∈ (css.map fun c : Nat => (c : Int)) ++ [-1], y ≤ m) : m.toNat = topN css ∧ -1 ≤ m ∧ m ≤ (topN css : Int) := by
  have h3 := h2 (-1) (List.mem_append_right _ (List.mem_singleton.mpr rfl))
  by_cases e : css = []
  · subst e
    have : m = -1 := by simpa using h1
    subst this
    exact ⟨rfl, by omega, by decide⟩
  · have h4 := h2 ((topN css : Nat) : Int) (List.mem_append_left _ (List.mem_map.mpr ⟨_, top_mem e, rfl⟩))
    rcases List.mem_append.mp h1 with h5 | h5
    · obtain ⟨c, hc, rfl⟩ := List.mem_map.mp h5
      have h6 := top_le hc
      have h7 : c = topN css := by omega
      subst h7
      exact ⟨Int.toNat_natCast _, h3, Int.le_refl _⟩
    · have : m = -1 := List.mem_singleton.mp h5
      omega
end K5

namespace K5
open PySem PySem.Spec PyProof.Rows L2 Sky
/-! ### how the law's things stand -/
theorem SAt.keepM {M : List Addr} {H H' : Hp} {s ln ls : Addr} {z : Nat} {N : List Int} {L : List (Nat × List Int)} (h : SAt H s ln ls z N L) (k : Keep M H H') (n1 : s ∉ M) (n2 : ln ∉ M) (n3 : ls ∉ M) (nt : ∀ m ∈ M, NoT H m) : SAt H' s ln ls z N L := by
  obtain ⟨A0, g1, g2, g3⟩ := h.st
  exact ⟨k _ _ n1 h.d, k _ _ n2 h.n, h.ne, A0, k _ _ n3 g1, fun x hx => ⟨k.ts nt _ _ (g2 x hx).1, k.ts nt _ _ (g2 x hx).2⟩, g3⟩
theorem SAt.lst {H : Hp} {s ln ls : Addr} {z : Nat} {N : List Int} {L : List (Nat × List Int)} (h : SAt H s ln ls z N L) : ∃ xs, H ls = some (.lst xs) := by
  obtain ⟨A0, g1, _⟩ := h.st
  exact ⟨_, g1⟩
/-- n streams stand in a list -/
structure PAt (n z : Nat) (Nf : Nat → List Int) (Lf : Nat → List (Nat × List Int)) (p q t0 : Addr) (sA nA lA : Nat → Addr) (H : Hp) : Prop where
  hA : HAt H p q
  ht : H t0 = some (.lst ((List.range n).map fun i => V.ref (sA i)))
  hS : ∀ i, i < n → SAt H (sA i) (nA i) (lA i) z (Nf i) (Lf i)
  np : t0 ≠ p ∧ t0 ≠ q
  nn : ∀ i, i < n → (nA i ≠ p ∧ nA i ≠ q ∧ nA i ≠ t0) ∧ lA i ≠ p ∧ lA i ≠ q ∧ lA i ≠ t0
  ap : ∀ i j, i < n → j < n → i ≠ j → nA i ≠ nA j ∧ lA i ≠ lA j ∧ nA i ≠ lA j
section
variable {n z : Nat} {Nf : Nat → List Int} {Lf : Nat → List (Nat × List Int)} {p q t0 : Addr} {sA nA lA : Nat → Addr} {H H' : Hp}
theorem HAt.lsts (h : HAt H p q) : ∀ m ∈ [p, q], ∃ xs, H m = some (.lst xs) := by
  obtain ⟨m, k, ns, npq, hp, hq, r⟩ := h
  intro x hx
  rcases List.mem_cons.mp hx with e | e
  · rw [e]; exact ⟨_, hp⟩
  · rw [List.mem_singleton.mp e]; exact ⟨_, hq⟩
theorem not_mem_kind {M : List Addr} {a : Addr} {kvs : List (Key × V)} (hM : ∀ m ∈ M, ∃ xs, H m = some (.lst xs)) (ha : H a = some (.dK kvs)) : a ∉ M := fun h => by
  obtain ⟨xs, e⟩ := hM a h
  rw [ha] at e
  cases e
theorem PAt.same (h : PAt n z Nf Lf p q t0 sA nA lA H) (s : Same H H') : PAt n z Nf Lf p q t0 sA nA lA H' := ⟨h.hA.same s, s _ _ h.ht, fun i hi => (h.hS i hi).keep s, h.np, h.nn, h.ap⟩
theorem PAt.draw (h : PAt n z Nf Lf p q t0 sA nA lA H) (hA : HAt H' p q) (k : Keep [p, q] H H') : PAt n z Nf Lf p q t0 sA nA lA H' :=
  ⟨hA, k _ _ (by simp [h.np.1, h.np.2]) h.ht, fun i hi => by
    obtain ⟨⟨a1, a2, _⟩, a4, a5, _⟩ := h.nn i hi
    exact (h.hS i hi).keepM k (not_mem_kind h.hA.lsts (h.hS i hi).d) (by simp [a1, a2]) (by simp [a4, a5]) h.hA.noT, h.np, h.nn, h.ap⟩
/-- one stream is changed -/
theorem PAt.set (h : PAt n z Nf Lf p q t0 sA nA lA H) {k : Nat} (hk : k < n) {N : List Int} {L : List (Nat × List Int)} (hS : SAt H' (sA k) (nA k) (lA k) z N L) (kp : Keep [nA k, lA k] H H') : PAt n z (fun i => if i = k then N else Nf i) (fun i => if i = k then L else Lf i) p q t0 sA nA lA H' := by
  obtain ⟨⟨a1, a2, a3⟩, a4, a5, a6⟩ := h.nn k hk
  have hl : ∀ m ∈ [nA k, lA k], ∃ xs, H m = some (.lst xs) := by
    intro x hx
    rcases List.mem_cons.mp hx with e | e
    · rw [e]; exact ⟨_, (h.hS k hk).n⟩
    · rw [List.mem_singleton.mp e]; exact (h.hS k hk).lst
  have nt : ∀ m ∈ [nA k, lA k], NoT H m := fun m hm => by
    obtain ⟨xs, e⟩ := hl m hm
    exact NoT.lst e
  refine ⟨h.hA.keep kp (by simp [a1.symm, a4.symm]) (by simp [a2.symm, a5.symm]), kp _ _ (by simp [a3.symm, a6.symm]) h.ht, fun i hi => ?_, h.np, h.nn, h.ap⟩
  by_cases e : i = k
  · subst e
    show SAt H' (sA i) (nA i) (lA i) z (if i = i then N else Nf i) (if i = i then L else Lf i)
    rw [if_pos rfl, if_pos rfl]
    exact hS
  · show SAt H' (sA i) (nA i) (lA i) z (if i = k then N else Nf i) (if i = k then L else Lf i)
    rw [if_neg e, if_neg e]
    obtain ⟨b1, b2, b3⟩ := h.ap i k hi hk e
    obtain ⟨_, _, c3⟩ := h.ap k i hk hi (fun z => e z.symm)
    exact (h.hS i hi).keepM kp (not_mem_kind hl (h.hS i hi).d) (by simp [b1, b3]) (by simp [b2, c3.symm]) nt
/-- one stream more -/
theorem PAt.more (h : PAt n z Nf Lf p q t0 sA nA lA H) {H1 : Hp} {s ln ls : Addr} (hS : SAt H1 s ln ls z [] []) (f2 : H ln = none) (f3 : H ls = none) (sm : Same H H1) (hN : ∀ i, n ≤ i → Nf i = [] ∧ Lf i = []) :
    PAt (n + 1) z Nf Lf p q t0 (fun i => if i = n then s else sA i) (fun i => if i = n then ln else nA i) (fun i => if i = n then ls else lA i) (upd H1 t0 (.lst ((List.range n).map (fun i => V.ref (sA i)) ++ [.ref s]))) := by
  have h1 := h.same sm
  have n2 := h.hA.fresh f2
  have n3 := h.hA.fresh f3
  have t2 : t0 ≠ ln := ne_of_none h.ht f2
  have t3 : t0 ≠ ls := ne_of_none h.ht f3
  have kp : Keep [t0] H1 (upd H1 t0 (.lst ((List.range n).map (fun i => V.ref (sA i)) ++ [.ref s]))) := keep_upd (Keep.refl _ _) (by simp)
  have nt : ∀ m ∈ [t0], NoT H1 m := fun m hm => by rw [List.mem_singleton.mp hm]; exact NoT.lst h1.ht
  have hl : ∀ m ∈ [t0], ∃ xs, H1 m = some (.lst xs) := fun m hm => by rw [List.mem_singleton.mp hm]; exact ⟨_, h1.ht⟩
  refine ⟨h1.hA.ne h.np.1 h.np.2, ?_, fun i hi => ?_, h.np, fun i hi => ?_, fun i j hi hj hij => ?_⟩
  · rw [upd_same, List.range_succ, List.map_append, List.map_singleton, if_pos rfl]
    congr 3
    refine List.map_congr_left fun i hi => ?_
    rw [if_neg (by have := List.mem_range.mp hi; omega)]
  · by_cases e : i = n
    · subst e
      show SAt _ (if i = i then s else sA i) (if i = i then ln else nA i) (if i = i then ls else lA i) z (Nf i) (Lf i)
      rw [if_pos rfl, if_pos rfl, if_pos rfl, (hN i (Nat.le_refl _)).1, (hN i (Nat.le_refl _)).2]
      exact hS.keepM kp (not_mem_kind hl hS.d) (by simp [t2.symm]) (by simp [t3.symm]) nt
    · show SAt _ (if i = n then s else sA i) (if i = n then ln else nA i) (if i = n then ls else lA i) z (Nf i) (Lf i)
      rw [if_neg e, if_neg e, if_neg e]
      have hin : i < n := by omega
      obtain ⟨⟨_, _, b3⟩, _, _, b6⟩ := h.nn i hin
      exact (h1.hS i hin).keepM kp (not_mem_kind hl (h1.hS i hin).d) (by simp [b3]) (by simp [b6]) nt
  · by_cases e : i = n
    · show ((if i = n then ln else nA i) ≠ p ∧ (if i = n then ln else nA i) ≠ q ∧ (if i = n then ln else nA i) ≠ t0) ∧ (if i = n then ls else lA i) ≠ p ∧ (if i = n then ls else lA i) ≠ q ∧ (if i = n then ls else lA i) ≠ t0
      rw [if_pos e, if_pos e]
      exact ⟨⟨n2.1, n2.2, t2.symm⟩, n3.1, n3.2, t3.symm⟩
    · show ((if i = n then ln else nA i) ≠ p ∧ (if i = n then ln else nA i) ≠ q ∧ (if i = n then ln else nA i) ≠ t0) ∧ (if i = n then ls else lA i) ≠ p ∧ (if i = n then ls else lA i) ≠ q ∧ (if i = n then ls else lA i) ≠ t0
      rw [if_neg e, if_neg e]
      exact h.nn i (by omega)
  · have old : ∀ j, j < n → nA j ≠ ln ∧ nA j ≠ ls ∧ lA j ≠ ln ∧ lA j ≠ ls := fun j hj => by
      obtain ⟨xs, e⟩ := (h.hS j hj).lst
      exact ⟨ne_of_none (h.hS j hj).n f2, ne_of_none (h.hS j hj).n f3, ne_of_none e f2, ne_of_none e f3⟩
    show (if i = n then ln else nA i) ≠ (if j = n then ln else nA j) ∧ (if i = n then ls else lA i) ≠ (if j = n then ls else lA j) ∧ (if i = n then ln else nA i) ≠ (if j = n then ls else lA j)
    by_cases e : i = n
    · have e2 : ¬ j = n := fun z => hij (e.trans z.symm)
      rw [if_pos e, if_pos e, if_neg e2, if_neg e2]
      obtain ⟨o1, o2, o3, o4⟩ := old j (by omega)
      exact ⟨o1.symm, o4.symm, o3.symm⟩
    · by_cases e2 : j = n
      · rw [if_neg e, if_neg e, if_pos e2, if_pos e2]
        obtain ⟨o1, o2, o3, o4⟩ := old i (by omega)
        exact ⟨o1, o4, o2⟩
      · rw [if_neg e, if_neg e, if_neg e2, if_neg e2]
        exact h.ap i j (by omega) (by omega) hij
end
/-- frames of the streams -/
def fE (z : Nat) (Nf : Nat → List Int) (Lf : Nat → List (Nat × List Int)) (k : Nat × Nat) : PyData := frmD ((k.1 : Nat) : Int) (frm z (Nf k.1) (stOf (Lf k.1)) k.2)
/-- what stays -/
structure BAt (z : Nat) (Nf : Nat → List Int) (Lf : Nat → List (Nat × List Int)) (p q : Addr) (ds : List Addr) (t0 e0 : Addr) (sA nA lA : Nat → Addr) (es : List V) (E : List (Nat × Nat)) (H : Hp) : Prop where
  ht : H t0 = some (.lst ((List.range 4).map fun i => V.ref (sA i)))
  hS : ∀ i, i < 4 → SAt H (sA i) (nA i) (lA i) z (Nf i) (Lf i)
  he : H e0 = some (.lst es)
  te : TDs H es (E.map mD)
  np : (t0 ≠ p ∧ t0 ≠ q) ∧ e0 ≠ p ∧ e0 ≠ q
  nn : ∀ i, i < 4 → (nA i ≠ p ∧ nA i ≠ q) ∧ lA i ≠ p ∧ lA i ≠ q
  nd : ∀ i, i < 4 → sA i ∉ ds
/-- what goes on: c0 the list of what came, ov that of those told never to come -/
structure WAt (C : Addr) (z : Nat) (Nf : Nat → List Int) (Lf : Nat → List (Nat × List Int)) (p q g dx lc nv : Addr) (ds : List Addr) (t0 e0 : Addr) (sA nA lA : Nat → Addr) (es : List V) (E : List (Nat × Nat)) (H : Hp) (cm : List (List (Key × V))) (nev : List (List Key × V)) (c0 ov : Addr) (cs os : List V) (Cm O : List (Nat × Nat)) : Prop where
  hA : HAt H p q
  hG : GAt C H g dx lc nv ds z cm nev
  hB : BAt z Nf Lf p q ds t0 e0 sA nA lA es E H
  hc : H c0 = some (.lst cs)
  tc : TDs H cs (Cm.map mD)
  ho : H ov = some (.lst os)
  to : TDs H os (O.map mD)
  np : (lc ≠ p ∧ lc ≠ q) ∧ (c0 ≠ p ∧ c0 ≠ q) ∧ ov ≠ p ∧ ov ≠ q
  ck : ∀ i kvs, cm[i]? = some kvs → kvs.map (·.1) = ((cssOf Cm i).map fun c : Nat => (c : Int)).map Sum.inl ∧ TDs H (kvs.map (·.2)) ((cssOf Cm i).map fun c => fE z Nf Lf (i, c))
  un : Cm.Nodup
  inE : ∀ k ∈ Cm, k ∈ E
  nw : ∀ s c : Nat, (valV nev [Sum.inl (s : Int), Sum.inl (c : Int)]).isSome = decide ((s, c) ∈ O)
section
variable {C : Addr} {z : Nat} {Nf : Nat → List Int} {Lf : Nat → List (Nat × List Int)} {p q g dx lc nv t0 e0 c0 c0' ov ov' : Addr} {ds : List Addr} {sA nA lA : Nat → Addr} {es : List V} {E : List (Nat × Nat)} {H H' : Hp} {cm cm' : List (List (Key × V))} {nev nev' : List (List Key × V)} {cs cs' os os' : List V} {Cm Cm' O O' : List (Nat × Nat)}
theorem GAt.keepL {M : List Addr} (h : GAt C H g dx lc nv ds z cm nev) (k : Keep M H H') (hM : ∀ m ∈ M, ∃ xs, H m = some (.lst xs)) (hl : lc ∉ M) : GAt C H' g dx lc nv ds z cm nev := by
  refine ⟨k _ _ (fun hm => ?_) h.o, k _ _ hl h.l, h.four, h.cl, fun i a kvs e1 e2 => k _ _ (fun hm => ?_) (h.d i a kvs e1 e2), h.apart, k _ _ (fun hm => ?_) h.n⟩
  · obtain ⟨xs, e⟩ := hM _ hm; rw [h.o] at e; cases e
  · obtain ⟨xs, e⟩ := hM _ hm; rw [h.d i a kvs e1 e2] at e; cases e
  · obtain ⟨xs, e⟩ := hM _ hm; rw [h.n] at e; cases e
theorem BAt.same (h : BAt z Nf Lf p q ds t0 e0 sA nA lA es E H) (s : Same H H') : BAt z Nf Lf p q ds t0 e0 sA nA lA es E H' := ⟨s _ _ h.ht, fun i hi => (h.hS i hi).keep s, s _ _ h.he, h.te.mono (TSm.of_same s), h.np, h.nn, h.nd⟩
theorem BAt.draw (h : BAt z Nf Lf p q ds t0 e0 sA nA lA es E H) (hA : HAt H p q) (k : Keep [p, q] H H') : BAt z Nf Lf p q ds t0 e0 sA nA lA es E H' :=
  ⟨k _ _ (by simp [h.np.1.1, h.np.1.2]) h.ht, fun i hi => (h.hS i hi).keepM k (not_mem_kind hA.lsts (h.hS i hi).d) (by simp [(h.nn i hi).1.1, (h.nn i hi).1.2]) (by simp [(h.nn i hi).2.1, (h.nn i hi).2.2]) hA.noT, k _ _ (by simp [h.np.2.1, h.np.2.2]) h.he, h.te.mono (k.ts hA.noT), h.np, h.nn, h.nd⟩
/-- the ground's own dicts are changed -/
theorem BAt.ground (h : BAt z Nf Lf p q ds t0 e0 sA nA lA es E H) {M : List Addr} (k : Keep M H H') (hM : ∀ m ∈ M, (∃ xs, H m = some (.dT xs)) ∨ (m ∈ ds ∧ ∃ xs, H m = some (.dK xs))) : BAt z Nf Lf p q ds t0 e0 sA nA lA es E H' := by
  have nt : ∀ m ∈ M, NoT H m := fun m hm => by
    rcases hM m hm with ⟨xs, e⟩ | ⟨_, xs, e⟩
    · exact NoT.dT e
    · exact NoT.dK e
  have nl : ∀ {a : Addr} {xs : List V}, H a = some (.lst xs) → a ∉ M := fun {a xs} e hm => by
    rcases hM a hm with ⟨ys, e2⟩ | ⟨_, ys, e2⟩
    · rw [e] at e2; cases e2
    · rw [e] at e2; cases e2
  refine ⟨k _ _ (nl h.ht) h.ht, fun i hi => (h.hS i hi).keepM k (fun hm => ?_) (nl (h.hS i hi).n) ?_ nt, k _ _ (nl h.he) h.he, h.te.mono (k.ts nt), h.np, h.nn, h.nd⟩
  · rcases hM _ hm with ⟨ys, e2⟩ | ⟨hd, _⟩
    · rw [(h.hS i hi).d] at e2; cases e2
    · exact h.nd i hi hd
  · obtain ⟨xs, e⟩ := (h.hS i hi).lst
    exact nl e
theorem WAt.same (h : WAt C z Nf Lf p q g dx lc nv ds t0 e0 sA nA lA es E H cm nev c0 ov cs os Cm O) (s : Same H H') : WAt C z Nf Lf p q g dx lc nv ds t0 e0 sA nA lA es E H' cm nev c0 ov cs os Cm O :=
  ⟨h.hA.same s, h.hG.same s, h.hB.same s, s _ _ h.hc, h.tc.mono (TSm.of_same s), s _ _ h.ho, h.to.mono (TSm.of_same s), h.np, fun i kvs e => ⟨(h.ck i kvs e).1, (h.ck i kvs e).2.mono (TSm.of_same s)⟩, h.un, h.inE, h.nw⟩
theorem WAt.draw (h : WAt C z Nf Lf p q g dx lc nv ds t0 e0 sA nA lA es E H cm nev c0 ov cs os Cm O) (hA : HAt H' p q) (k : Keep [p, q] H H') : WAt C z Nf Lf p q g dx lc nv ds t0 e0 sA nA lA es E H' cm nev c0 ov cs os Cm O := by
  obtain ⟨n1, n2, n3⟩ := h.np
  have t := k.ts h.hA.noT
  exact ⟨hA, h.hG.keepL k h.hA.lsts (by simp [n1.1, n1.2]), h.hB.draw h.hA k, k _ _ (by simp [n2.1, n2.2]) h.hc, h.tc.mono t, k _ _ (by simp [n3.1, n3.2]) h.ho, h.to.mono t, h.np, fun i kvs e => ⟨(h.ck i kvs e).1, (h.ck i kvs e).2.mono t⟩, h.un, h.inE, h.nw⟩
theorem WAt.key (h : WAt C z Nf Lf p q g dx lc nv ds t0 e0 sA nA lA es E H cm nev c0 ov cs os Cm O) {k : Nat × Nat} {kvs : List (Key × V)} (e : cm[k.1]? = some kvs) : (Sum.inl ((k.2 : Nat) : Int) : Key) ∈ kvs.map (·.1) ↔ k ∈ Cm := by
  rw [(h.ck _ _ e).1, List.mem_map]
  constructor
  · rintro ⟨x, hx, e2⟩
    obtain ⟨c, hc, rfl⟩ := List.mem_map.mp hx
    injection e2 with e3
    have e4 : c = k.2 := by omega
    subst e4
    exact mem_css.mp hc
  · intro hk
    exact ⟨_, List.mem_map.mpr ⟨k.2, mem_css.mpr hk, rfl⟩, rfl⟩
/-- a list of what came is put in another's place -/
theorem WAt.setC (h : WAt C z Nf Lf p q g dx lc nv ds t0 e0 sA nA lA es E H cm nev c0 ov cs os Cm O) (hc : H c0' = some (.lst cs')) (tc : TDs H cs' (Cm.map mD)) (np : c0' ≠ p ∧ c0' ≠ q) : WAt C z Nf Lf p q g dx lc nv ds t0 e0 sA nA lA es E H cm nev c0' ov cs' os Cm O :=
  ⟨h.hA, h.hG, h.hB, hc, tc, h.ho, h.to, ⟨h.np.1, np, h.np.2.2⟩, h.ck, h.un, h.inE, h.nw⟩
/-- one is heard, and its mark is put to what came -/
theorem WAt.came (h : WAt C z Nf Lf p q g dx lc nv ds t0 e0 sA nA lA es E H cm nev c0 ov cs os Cm O) {a : Addr} {k : Nat × Nat} {kvs : List (Key × V)} {v : V} {H2 : Hp} (ha : a ∈ ds) (hd : H a = some (.dK kvs)) (hk : cm[k.1]? = some kvs) (hv : TD H v (fE z Nf Lf k))
    (hG2 : GAt C H2 g dx lc nv ds z (cm.set k.1 (kvs ++ [(Sum.inl ((k.2 : Nat) : Int), v)])) nev) (k2 : Keep [a] H H2) (s3 : Same H2 H') (hc : H' c0' = some (.lst cs')) (tc : TDs H' cs' ((Cm ++ [k]).map mD)) (np : c0' ≠ p ∧ c0' ≠ q) (nk : k ∉ Cm) (kE : k ∈ E) :
    WAt C z Nf Lf p q g dx lc nv ds t0 e0 sA nA lA es E H' (cm.set k.1 (kvs ++ [(Sum.inl ((k.2 : Nat) : Int), v)])) nev c0' ov cs' os (Cm ++ [k]) O := by
  have k3 : Keep [a] H H' := k2.trans (Keep.of_same s3)
  have hM : ∀ m ∈ [a], (∃ xs, H m = some (.dT xs)) ∨ (m ∈ ds ∧ ∃ xs, H m = some (.dK xs)) := fun m hm => by rw [List.mem_singleton.mp hm]; exact .inr ⟨ha, _, hd⟩
  have t3 : TSm H H' := k3.ts fun x hx => by rw [List.mem_singleton.mp hx]; exact NoT.dK hd
  have lst : ∀ x xs, H x = some (.lst xs) → H' x = some (.lst xs) := fun x xs e => k3 _ _ (by simp only [List.mem_singleton]; intro z; subst z; rw [hd] at e; cases e) e
  have hA3 : HAt H' p q := by
    obtain ⟨m', k', ns, npq, hp, hq, r⟩ := h.hA
    exact ⟨m', k', ns, npq, lst _ _ hp, lst _ _ hq, r⟩
  refine ⟨hA3, hG2.same s3, h.hB.ground k3 hM, hc, tc, lst _ _ h.ho, h.to.mono t3, ⟨h.np.1, np, h.np.2.2⟩, fun i kvs' e => ?_, ?_, fun x hx => ?_, h.nw⟩
  · rw [css_snoc]
    by_cases hi : k.1 = i
    · subst hi
      rw [List.getElem?_set_self (List.getElem?_eq_some_iff.mp hk).1] at e
      rw [if_pos rfl, ← Option.some.inj e]
      obtain ⟨e1, e2⟩ := h.ck _ _ hk
      refine ⟨?_, ?_⟩
      · rw [List.map_append, e1, List.map_append, List.map_append]; rfl
      · rw [List.map_append, List.map_append]
        exact (e2.mono t3).app (.one (hv.mono t3))
    · rw [List.getElem?_set_ne hi] at e
      rw [if_neg hi]
      exact ⟨(h.ck _ _ e).1, (h.ck _ _ e).2.mono t3⟩
  · rw [List.nodup_append]
    exact ⟨h.un, by simp, fun x hx y hy e => nk (by rw [List.mem_singleton.mp hy] at e; rw [← e]; exact hx)⟩
  · rcases List.mem_append.mp hx with e | e
    · exact h.inE x e
    · rw [List.mem_singleton.mp e]; exact kE
/-- a mark is told never to come -/
theorem WAt.over (h : WAt C z Nf Lf p q g dx lc nv ds t0 e0 sA nA lA es E H cm nev c0 ov cs os Cm O) {k : Nat × Nat} (ho : H ov' = some (.lst os')) (to : TDs H os' ((O ++ [k]).map mD)) (np : ov' ≠ p ∧ ov' ≠ q) (hG4 : GAt C H' g dx lc nv ds z cm nev') (k4 : Keep [nv] H H')
    (nw : ∀ s c : Nat, (valV nev' [Sum.inl (s : Int), Sum.inl (c : Int)]).isSome = true ↔ ((valV nev [Sum.inl (s : Int), Sum.inl (c : Int)]).isSome = true ∨ (s, c) ∈ [k])) :
    WAt C z Nf Lf p q g dx lc nv ds t0 e0 sA nA lA es E H' cm nev' c0 ov' cs os' Cm (O ++ [k]) := by
  have t : TSm H H' := k4.ts fun x hx => by rw [List.mem_singleton.mp hx]; exact NoT.dT h.hG.n
  have lst : ∀ x xs, H x = some (.lst xs) → H' x = some (.lst xs) := fun x xs e => k4 _ _ (by simp only [List.mem_singleton]; intro z; subst z; rw [h.hG.n] at e; cases e) e
  have hA4 : HAt H' p q := by
    obtain ⟨m', k', ns, npq, hp, hq, r⟩ := h.hA
    exact ⟨m', k', ns, npq, lst _ _ hp, lst _ _ hq, r⟩
  refine ⟨hA4, hG4, h.hB.ground k4 (fun m hm => by rw [List.mem_singleton.mp hm]; exact .inl ⟨_, h.hG.n⟩), lst _ _ h.hc, h.tc.mono t, lst _ _ ho, to.mono t, ⟨h.np.1, h.np.2.1, np⟩, fun i kvs e => ⟨(h.ck i kvs e).1, (h.ck i kvs e).2.mono t⟩, h.un, h.inE, fun s c => ?_⟩
  have e1 := nw s c
  rw [h.nw] at e1
  by_cases hx : (s, c) ∈ O ++ [k]
  · rw [decide_eq_true hx]
    refine e1.mpr ?_
    rcases List.mem_append.mp hx with e | e
    · exact .inl (decide_eq_true e)
    · exact .inr e
  · rw [decide_eq_false hx, Bool.eq_false_iff]
    intro e
    rcases e1.mp e with e | e
    · exact hx (List.mem_append_left _ (of_decide_eq_true e))
    · exact hx (List.mem_append_right _ e)
end
end K5

namespace K5
open PySem PySem.Spec PyProof.Rows L2 Sky
section
variable {P : Program} {w : World} {K : PySem.W.Frag} {mg : Str → Option Value} {base : Heap}
/-- an if whose branches store, its rest once -/
theorem ife_skipS {c : Prop} [Decidable c] {t u : L2.TS} {D : Ends} {σ : L2.St} {H : Hp} (Cd : L2.St → Hp → Prop) (rest : ∀ σ1 H1, Cd σ1 H1 → D.nx σ1 H1) (h1 : c → (∀ σ1 H1, Cd σ1 H1 → D.nx σ1 H1) → t D σ H) (h2 : ¬ c → (∀ σ1 H1, Cd σ1 H1 → D.nx σ1 H1) → u D σ H) :
    if c then t D σ H else u D σ H := by
  by_cases hc : c
  · rw [if_pos hc]
    exact h1 hc rest
  · rw [if_neg hc]
    exact h2 hc rest
theorem nbk : ∀ k : Nat, k ≤ 1000000 → -(2 ^ 62) ≤ (k : Int) ∧ (k : Int) < 2 ^ 62 := fun k h => ⟨by omega, by omega⟩
theorem at_stream {sA : Nat → Addr} {k n : Nat} (hk : k < n) : ((List.range n).map fun i => V.ref (sA i))[k]? = some (.ref (sA k)) := by
  rw [List.getElem?_map, List.getElem?_range hk]
  rfl
/-- the largest of some counts and 0 -/
theorem max_is0 {css : List Nat} {m : Int} (h1 : m ∈ (css.map fun c : Nat => (c : Int)) ++ [0]) (h2 : ∀ y ∈ (css.map fun c : Nat => (c : Int)) ++ [0], y ≤ m) : m.toNat = topN css ∧ 0 ≤ m ∧ m ≤ (topN css : Int) := by
  have h3 := h2 0 (List.mem_append_right _ (List.mem_singleton.mpr rfl))
  rcases List.mem_append.mp h1 with h5 | h5
  · obtain ⟨c, hc, rfl⟩ := List.mem_map.mp h5
    have h6 := top_le hc
    have e : css ≠ [] := fun e => by rw [e] at hc; cases hc
    have h4 := h2 ((topN css : Nat) : Int) (List.mem_append_left _ (List.mem_map.mpr ⟨_, top_mem e, rfl⟩))
    have h7 : c = topN css := by omega
    subst h7
    exact ⟨Int.toNat_natCast _, h3, Int.le_refl _⟩
  · have h0 : m = 0 := List.mem_singleton.mp h5
    subst h0
    by_cases e : css = []
    · subst e
      exact ⟨rfl, h3, by decide⟩
    · have h4 := h2 ((topN css : Nat) : Int) (List.mem_append_left _ (List.mem_map.mpr ⟨_, top_mem e, rfl⟩))
      have h5 : topN css = 0 := by omega
      exact ⟨by rw [h5]; rfl, h3, by omega⟩
def sp_law (K : PySem.W.Frag) : Sp := fun vs H Q _ => ∃ (a : Addr) (ns : List Int), vs = [.ref a] ∧ SqL K H a (ns.map V.int) ∧ ns.length ≤ 63 ∧ ∀ H', Q (.bl true) H'
theorem ok_law (T : Tx K mg) : FnOk P w K mg base CX0 8 T.a_law T.d_law ["_law_script"] (sp_law K) := by
  have nd := sc_law.nd
  refine T.F_law.ok sc_law (fun vs H Q E h => ?_) (fun cdv A outer s H vs Q E hr h => ?_)
  · obtain ⟨_, _, rfl, _⟩ := h
    rfl
  · obtain ⟨a, ns, rfl, hS, hlen, fin⟩ := h
    refine ⟨_, (pss_cons (ps_set (i := 1) nd rfl (Or.inl rfl) (pe_call (ok_law_mix T) (hr.mono (by decide)) (by rfl) T.m_law_mix T.F_law_mix.kp T.b_law_mix .nil pass0 (pa_cons (pv 0) (pa_cons pe_int pa_nil)))) (pss_cons (ps_set (i := 2) nd rfl (Or.inr rfl) (pe_op op_add pe_int (pe_call (ok_law_next T) (hr.mono (by decide)) (by rfl) T.m_law_next T.F_law_next.kp T.b_law_next .nil pass0 (pa_cons (pv 1) (pa_cons pe_int pa_nil))))) (pss_cons (ps_setLc (i := 4) (own := [("_law_k", 3)]) rfl nd rfl rfl (sw_true rfl rfl rfl (by decide +kernel)) (pi_range1 rfl T.z_range (pa_cons pe_int pa_nil)) (blkOk_by (own := [("_law_k", 3)]) (N := N_law) (sc := defScope s_law) (by decide +kernel)) (fun _ _ _ _ _ => (pg_name (i := 3) nd rfl (by first | exact Or.inl rfl | exact Or.inr rfl))) (fun _ _ _ _ _ => pts_nil) (fun _ _ _ _ _ => (pe_call (ok_law_fresh T) (hr.mono (by decide)) (by rfl) T.m_law_fresh T.F_law_fresh.kp T.b_law_fresh .nil pass0 (pa_cons (pv 2) pa_nil)))) (pss_cons (ps_for PassesOwn.never rfl (pi_range1 rfl T.z_range (pa_cons (pe_call (ok_law_next T) (hr.mono (by decide)) (by rfl) T.m_law_next T.F_law_next.kp T.b_law_next .nil pass0 (pa_cons (pv 1) (pa_cons pe_int pa_nil))) pa_nil)) (pg_name (i := 5) nd rfl (Or.inl rfl)) (pss_cons (ps_set (i := 3) nd rfl (Or.inr rfl) (pe_call (ok_law_next T) (hr.mono (by decide)) (by rfl) T.m_law_next T.F_law_next.kp T.b_law_next .nil pass0 (pa_cons (pv 1) (pa_cons pe_int pa_nil)))) (pss_cons (ps_expr (pe_call (ok_law_lay T) (hr.mono (by decide)) (by rfl) T.m_law_lay T.F_law_lay.kp T.b_law_lay .nil pass0 (pa_cons (pe_ix ix_list (pv 4) (pv 3) (fun _ _ => rfl)) (pa_cons (pe_call (ok_law_data T) (hr.mono (by decide)) (by rfl) T.m_law_data T.F_law_data.kp T.b_law_data .nil pass0 (pa_cons (pv 1) pa_nil)) pa_nil)))) (pss_one (ps_if (pt_cmpR op_eq (pe_call (ok_law_next T) (hr.mono (by decide)) (by rfl) T.m_law_next T.F_law_next.kp T.b_law_next .nil pass0 (pa_cons (pv 1) (pa_cons pe_int pa_nil))) pe_int (nomark _)) (pss_one (ps_expr (pe_call (ok_law_fill T) (hr.mono (by decide)) (by rfl) T.m_law_fill T.F_law_fill.kp T.b_law_fill .nil pass0 (pa_cons (pe_ix ix_list (pv 4) (pv 3) (fun _ _ => rfl)) pa_nil)))) pss_nil))))) (pss_cons (ps_set (i := 6) nd rfl (Or.inl rfl) (pe_lst pa_nil)) (pss_cons (ps_for PassesOwn.never rfl (pi_range1 rfl T.z_range (pa_cons pe_int pa_nil)) (pg_name (i := 3) nd rfl (Or.inr rfl)) (pss_one (ps_set (i := 6) nd rfl (Or.inl rfl) (pe_op op_cat (pv 6) (pe_lc (own := [("_law_count", 15)]) rfl nd (pi_range1 rfl T.z_range (pa_cons (pe_call (ok_law_many T) (hr.mono (by decide)) (by rfl) T.m_law_many T.F_law_many.kp T.b_law_many .nil pass0 (pa_cons (pe_ix ix_list (pv 4) (pv 3) (fun _ _ => rfl)) pa_nil)) pa_nil)) (blkOk_by (own := [("_law_count", 15)]) (N := N_law) (sc := defScope s_law) (by decide +kernel)) (fun _ _ _ _ _ => (pg_name (i := 15) nd rfl (Or.inl rfl))) (fun _ _ _ _ _ => pts_nil) (fun _ _ _ _ _ => (pe_tup (pa_cons (pv 3) (pa_cons (pv 15) pa_nil))))))))) (pss_cons (ps_asg (pe_tup (pa_cons (pe_make T.mk_Ground (ok_Ground_init T) (hr.mono (by decide)) (by rfl) T.m_Ground T.b_Ground_init .nil pass0 (pa_cons (pv 2) pa_nil)) (pa_cons (pe_lst pa_nil) (pa_cons (pe_lst pa_nil) pa_nil)))) (pg_tup rfl (pgs_cons (pg_name (i := 7) nd rfl (Or.inl rfl)) (pgs_cons (pg_name (i := 8) nd rfl (Or.inl rfl)) (pgs_cons (pg_name (i := 9) nd rfl (Or.inr rfl)) pgs_nil))))) (pss_cons (ps_for PassesOwn.never rfl (pi_range1 rfl T.z_range (pa_cons (pe_op op_mul (pe_call (ok_law_next T) (hr.mono (by decide)) (by rfl) T.m_law_next T.F_law_next.kp T.b_law_next .nil pass0 (pa_cons (pv 1) (pa_cons pe_int pa_nil))) (pe_callTy call_int1 (by rfl) T.z_int (by decide +kernel) (pa_cons (pe_cmpR (op_neD hr.units) (pv 6) (pe_lst pa_nil) (nomark _)) pa_nil))) pa_nil)) (pg_name (i := 5) nd rfl (Or.inl rfl)) (pss_cons (ps_set (i := 10) nd rfl (Or.inl rfl) (pe_ix ix_list (pv 6) (pe_call (ok_law_next T) (hr.mono (by decide)) (by rfl) T.m_law_next T.F_law_next.kp T.b_law_next .nil pass0 (pa_cons (pv 1) (pa_cons (pe_callB call_len_seq (by rfl) T.z_len PySem.boot_len (pa_cons (pv 6) pa_nil)) pa_nil))) (fun _ _ => rfl))) (pss_cons (ps_if (pt_cmpR op_eq (pe_call (ok_law_next T) (hr.mono (by decide)) (by rfl) T.m_law_next T.F_law_next.kp T.b_law_next .nil pass0 (pa_cons (pv 1) (pa_cons pe_int pa_nil))) pe_int (nomark _)) (pss_cons (ps_set (i := 9) nd rfl (Or.inr rfl) (pe_op op_cat (pv 9) (pe_lst (pa_cons (pv 10) pa_nil)))) (pss_one (ps_expr (pe_meth (pv 7) T.cl_Ground T.M_Ground_never (ok_Ground_never T) (hr.mono (by decide)) T.b_Ground_never .nil pass0 (pa_cons (pe_lst (pa_cons (pv 10) pa_nil)) pa_nil))))) (pss_one (ps_if (pt_not (pt_val (pe_call (ok_law_alike T 4) (hr.mono (by decide)) (by rfl) T.m_law_alike T.F_law_alike.kp T.b_law_alike .nil pass0 (pa_cons (pe_meth (pv 7) T.cl_Ground T.M_Ground_hear (ok_Ground_hear T) (hr.mono (by decide)) T.b_Ground_hear .nil pass0 (pa_cons (pe_call (ok_law_frame T) (hr.mono (by decide)) (by rfl) T.m_law_frame T.F_law_frame.kp T.b_law_frame .nil pass0 (pa_cons (pe_ix ix_list (pv 4) (pe_ix ix_tup (pv 10) pe_int (fun _ _ => rfl)) (fun _ _ => rfl)) (pa_cons (pe_ix ix_tup (pv 10) pe_int (fun _ _ => rfl)) (pa_cons (pe_ix ix_tup (pv 10) pe_int (fun _ _ => rfl)) pa_nil)))) pa_nil)) (pa_cons (pe_cmpR (op_notInD (u65 hr)) (pv 10) (pv 8) rfl) pa_nil))))) (pss_one (ps_ret pe_bl)) (pss_one (ps_set (i := 8) nd rfl (Or.inl rfl) (pe_op op_cat (pv 8) (pe_op op_rep (pe_lst (pa_cons (pv 10) pa_nil)) (pe_callTy call_int1 (by rfl) T.z_int (by decide +kernel) (pa_cons (pe_cmpR (op_notInD (u65 hr)) (pv 10) (pv 8) rfl) pa_nil))))))))) (pss_cons (ps_set (i := 11) nd rfl (Or.inl rfl) (pe_lst pa_nil)) (pss_cons (ps_for PassesOwn.never rfl (pi_range1 rfl T.z_range (pa_cons pe_int pa_nil)) (pg_name (i := 3) nd rfl (Or.inr rfl)) (pss_cons (ps_set (i := 12) nd rfl (Or.inr rfl) (pe_lc (own := [("_law_stream", 16), ("_law_count", 15)]) rfl nd (pi_list (pv 8)) (blkOk_by (own := [("_law_stream", 16), ("_law_count", 15)]) (N := N_law) (sc := defScope s_law) (by decide +kernel)) (fun _ _ _ _ _ => (pg_tupK (K := K) (n := 2) rfl rfl (pgs_cons (pg_name (i := 16) nd rfl (Or.inl rfl)) (pgs_cons (pg_name (i := 15) nd rfl (Or.inl rfl)) pgs_nil)))) (fun _ _ _ _ _ => (pts_one (pt_cmpR op_eq (pv 16) (pv 3) (nomark _)))) (fun _ _ _ _ _ => (pv 15)))) (pss_cons (ps_expr (pe_bm PySem.F.plainAttrs_list PySem.F.slot_list_extend PySem.F.type_list_extend mt_extend (pv 11) (pa_cons (pe_lc (own := [("_law_count", 15)]) rfl nd (pi_range1 rfl T.z_range (pa_cons (pe_callB (cr_max rfl) (by rfl) T.z_max (by decide +kernel) (pa_cons (pe_op op_cat (pv 12) (pe_lst (pa_cons pe_int pa_nil))) pa_nil)) pa_nil)) (blkOk_by (own := [("_law_count", 15)]) (N := N_law) (sc := defScope s_law) (by decide +kernel)) (fun _ _ _ _ _ => (pg_name (i := 15) nd rfl (Or.inl rfl))) (fun _ _ _ _ _ => (pts_one (pt_cmpR (op_notIn_seqK (K := K) rfl) (pv 15) (pv 12) rfl))) (fun _ _ _ _ _ => (pe_tup (pa_cons (pv 3) (pa_cons (pv 15) pa_nil))))) pa_nil))) (pss_one (ps_if (pt_not (pt_val (pe_call (ok_law_alike T 4) (hr.mono (by decide)) (by rfl) T.m_law_alike T.F_law_alike.kp T.b_law_alike .nil pass0 (pa_cons (pe_meth (pv 7) T.cl_Ground T.M_Ground_rows (ok_Ground_rows T) (hr.mono (by decide)) T.b_Ground_rows .nil pass0 (pa_cons (pv 3) pa_nil)) (pa_cons (pe_call (ok_law_rows T) (hr.mono (by decide)) (by rfl) T.m_law_rows T.F_law_rows.kp T.b_law_rows .nil pass0 (pa_cons (pe_ix ix_list (pv 4) (pv 3) (fun _ _ => rfl)) (pa_cons (pv 12) pa_nil))) pa_nil))))) (pss_one (ps_ret pe_bl)) pss_nil))))) (pss_cons (ps_set (i := 13) nd rfl (Or.inl rfl) (pe_lst (pa_cons (pe_meth0 (pv 7) T.cl_Ground T.M_Ground_has (ok_Ground_has T) (hr.mono (by decide)) T.b_Ground_has .nil pass0) (pa_cons (pe_meth0 (pv 7) T.cl_Ground T.M_Ground_wants (ok_Ground_wants T) (hr.mono (by decide)) T.b_Ground_wants .nil pass0) pa_nil)))) (pss_cons (ps_if (pt_not (pt_val (pe_call (ok_law_alike T 4) (hr.mono (by decide)) (by rfl) T.m_law_alike T.F_law_alike.kp T.b_law_alike .nil pass0 (pa_cons (pv 13) (pa_cons (pe_lst (pa_cons (pe_callB cr_sortedPO (by rfl) T.z_sorted (by decide +kernel) (pa_cons (pv 8) pa_nil)) (pa_cons (pe_lc (own := [("_law_one", 14)]) rfl nd (pi_list (pv 11)) (blkOk_by (own := [("_law_one", 14)]) (N := N_law) (sc := defScope s_law) (by decide +kernel)) (fun _ _ _ _ _ => (pg_name (i := 14) nd rfl (Or.inl rfl))) (fun _ _ _ _ _ => (pts_one (pt_cmpR (op_notInDK (K := K) rfl (u65 hr)) (pv 14) (pv 9) rfl))) (fun _ _ _ _ _ => (pv 14))) pa_nil))) pa_nil))))) (pss_one (ps_ret pe_bl)) pss_nil) (pss_one (ps_for PassesOwn.never rfl (pi_list (pv 13)) (pg_name (i := 14) nd rfl (Or.inl rfl)) (pss_one (ps_expr (pe_bm PySem.F.plainAttrs_list PySem.F.slot_list_append PySem.F.type_list_append mt_append (pv 14) (pa_cons (pe_tup pa_nil) pa_nil))))))))))))) (pss_one (ps_ret pe_bl)))))))))), ?_⟩
    refine ⟨_, rfl, a, ns, 13, rfl, hS, by decide, by decide, hlen, fun p q H1 hA1 _ _ _ => ?_⟩
    -- size
    refine ⟨_, rfl, p, q, 17, rfl, hA1, by decide, by decide, fun r1 H2 r10 r11 hA2 _ _ => ⟨8, r1, rfl, rfl, ?_⟩⟩
    obtain ⟨z, ez⟩ : ∃ z : Nat, 8 + r1 = (z : Int) := ⟨(8 + r1).toNat, (Int.toNat_of_nonneg (by omega)).symm⟩
    simp only [ez]
    have hz8 : 8 ≤ z := by omega
    have hz24 : z ≤ 24 := by omega
    -- streams
    refine ⟨4, rfl, by decide, by decide, fun D hD => ?_⟩
    refine lc_range (lo := 0) (n := 4) (fun i H' => ∃ sA nA lA, PAt i z (fun _ => []) (fun _ => []) p q D sA nA lA H') ⟨fun _ => D, fun _ => D, fun _ => D, hA2.new hD, upd_same, fun i hi => absurd hi (Nat.not_lt_zero _), hA2.fresh hD, fun i hi => absurd hi (Nat.not_lt_zero _), fun i j hi => absurd hi (Nat.not_lt_zero _)⟩ ?_ ?_
    · rintro i H' hi ⟨sA, nA, lA, hP⟩
      refine ⟨rfl, _, rfl, z, rfl, fun s ln ls H3 hS3 ns3 nl3 nls3 s3 => ?_⟩
      exact ⟨_, s3 _ _ hP.ht, lt_line (by rw [List.length_map, List.length_range]; omega), _, _, _, hP.more hS3 nl3 nls3 s3 fun _ _ => ⟨rfl, rfl⟩⟩
    rintro H3 ⟨sA, nA, lA, hP3⟩
    -- the tellings
    refine ⟨_, rfl, p, q, 60, rfl, hP3.hA, by decide, by decide, fun r5 H5 r50 r51 hA5 k5 _ => ?_⟩
    have hP5 := hP3.draw hA5 k5
    obtain ⟨m, rfl⟩ : ∃ m : Nat, r5 = (m : Int) := ⟨r5.toNat, (Int.toNat_of_nonneg r50).symm⟩
    refine ⟨_, rfl, (by omega), (by omega), ?_⟩
    refine for_range (lo := 0) (n := ((m : Nat) : Int).toNat) (fun i σ H' => ∃ (v3 v5 : Option V) (Nf : Nat → List Int) (Lf : Nat → List (Nat × List Int)), σ = [some (.ref a), some (.ref p), some (.int (z : Nat)), v3, some (.ref D), v5, none, none, none, none, none, none, none, none, none, none, none] ∧
      PAt 4 z Nf Lf p q D sA nA lA H' ∧ ∀ j, Lays z (Nf j) (Lf j) ∧ (Nf j).length ≤ 47 * i ∧ (Lf j).length ≤ i) ⟨_, _, _, _, rfl, hP5, fun j => ⟨Lays.nil z, Nat.le_refl _, Nat.le_refl _⟩⟩ ?_ ?_
    · rintro i σ H' hi ⟨v3, v5, Nf, Lf, rfl, hP, hL⟩
      refine ⟨_, rfl, p, q, 4, rfl, hP.hA, by decide, by decide, fun r6 H6 r60 r61 hA6 k6 _ => ?_⟩
      have hP6 := hP.draw hA6 k6
      obtain ⟨k, rfl⟩ : ∃ m : Nat, r6 = (m : Int) := ⟨r6.toNat, (Int.toNat_of_nonneg r60).symm⟩
      have hk : k < 4 := by omega
      refine ⟨_, rfl, _, rfl, D, _, _, .ref (sA k), rfl, rfl, SqL.of hP6.ht, atI_nat (at_stream hk), _, rfl, p, q, rfl, hP6.hA, fun t xs H7 hx ht nt hA7 k7 _ => ?_⟩
      have hP7 := hP6.draw hA7 k7
      obtain ⟨hLk, hNk, hLl⟩ := hL k
      refine ⟨sA k, nA k, lA k, t, z, Nf k, Lf k, xs, rfl, hP7.hS k hk, ht, (by have := hx.2.1; omega), (by omega), (by omega), fun v H8 hS8 k8 _ => ?_⟩
      have hP8 := hP7.set hk hS8 k8
      obtain ⟨Nf1, eNf⟩ : ∃ F : Nat → List Int, F = fun j => if j = k then Nf k ++ laidN ((Lf k).length : Nat) xs else Nf j := ⟨_, rfl⟩
      obtain ⟨Lf1, eLf⟩ : ∃ F : Nat → List (Nat × List Int), F = fun j => if j = k then Lf k ++ [((Nf k).length, xs)] else Lf j := ⟨_, rfl⟩
      rw [← eNf, ← eLf] at hP8
      have hL1 : ∀ j, Lays z (Nf1 j) (Lf1 j) ∧ (Nf1 j).length ≤ 47 * i + 23 ∧ (Lf1 j).length ≤ i + 1 := fun j => by
        rw [eNf, eLf]
        show Lays z (if j = k then Nf k ++ laidN ((Lf k).length : Nat) xs else Nf j) (if j = k then Lf k ++ [((Nf k).length, xs)] else Lf j) ∧ (if j = k then Nf k ++ laidN ((Lf k).length : Nat) xs else Nf j).length ≤ _ ∧ (if j = k then Lf k ++ [((Nf k).length, xs)] else Lf j).length ≤ _
        by_cases e : j = k
        · rw [if_pos e, if_pos e]
          refine ⟨hLk.lay hx (by omega), ?_, ?_⟩
          · rw [List.length_append, laidN_length]
            have := hx.2.1
            omega
          · rw [List.length_append, List.length_singleton]
            omega
        · rw [if_neg e, if_neg e]
          obtain ⟨h1, h2, h3⟩ := hL j
          exact ⟨h1, by omega, by omega⟩
      clear eNf eLf
      -- if next(h, 9) == 0
      refine ⟨_, rfl, p, q, 9, rfl, hP8.hA, by decide, by decide, fun r9 H9 r90 r91 hA9 k9 _ => ⟨rfl, _, rfl, ?_⟩⟩
      have hP9 := hP8.draw hA9 k9
      refine if_skip (fun H' => ∃ (Nf' : Nat → List Int) (Lf' : Nat → List (Nat × List Int)), PAt 4 z Nf' Lf' p q D sA nA lA H' ∧ ∀ j, Lays z (Nf' j) (Lf' j) ∧ (Nf' j).length ≤ 47 * (i + 1) ∧ (Lf' j).length ≤ i + 1) (fun H' ⟨Nf', Lf', hP', hL'⟩ => ⟨_, _, Nf', Lf', rfl, hP', hL'⟩) (fun _ rest => ?_) (fun _ => ⟨Nf1, Lf1, hP9, fun j => ⟨(hL1 j).1, by have := (hL1 j).2.1; omega, (hL1 j).2.2⟩⟩)
      obtain ⟨hLk1, hNk1, hLl1⟩ := hL1 k
      refine ⟨_, rfl, _, rfl, D, _, _, .ref (sA k), rfl, rfl, SqL.of hP9.ht, atI_nat (at_stream hk), sA k, nA k, lA k, z, Nf1 k, Lf1 k, rfl, hP9.hS k hk, (by omega), (by omega), (by omega), fun H10 hS10 k10 _ => ?_⟩
      refine rest _ ⟨_, _, hP9.set hk hS10 (k10.mono (by simp)), fun j => ?_⟩
      show Lays z (if j = k then padN z (Nf1 k) else Nf1 j) (if j = k then Lf1 k else Lf1 j) ∧ (if j = k then padN z (Nf1 k) else Nf1 j).length ≤ _ ∧ (if j = k then Lf1 k else Lf1 j).length ≤ _
      by_cases e : j = k
      · rw [if_pos e, if_pos e]
        refine ⟨hLk1.pad (by omega), ?_, hLl1⟩
        have hp := padN_length (show 0 < z by omega) (Nf1 k)
        have hd := div_lo z (Nf1 k).length
        rw [hp]
        split <;> omega
      · rw [if_neg e, if_neg e]
        obtain ⟨h1, h2, h3⟩ := hL1 j
        exact ⟨h1, by omega, h3⟩
    rintro σ H6 ⟨v3, v5, Nf, Lf, rfl, hP6, hL6⟩
    have hLz : ∀ j, Lays z (Nf j) (Lf j) := fun j => (hL6 j).1
    have hNl : ∀ j, (Nf j).length ≤ 3000 := fun j => by have := (hL6 j).2.1; omega
    have hLl : ∀ j, (Lf j).length ≤ 60 := fun j => by have := (hL6 j).2.2; omega
    have hnz : ∀ j, (Nf j).length / z ≤ 3000 := fun j => Nat.le_trans (Nat.div_le_self _ _) (hNl j)
    clear hL6 hP5 hP3 hA5 k5 hA1 hA2
    -- every
    refine ⟨Nat.zero_le _, fun e00 he00 => ?_⟩
    have ne00 := hP6.hA.fresh he00
    have hP7 := hP6.same (same_new (Same.refl _) he00 (o := .lst []))
    have he7 : upd H6 e00 (.lst []) e00 = some (.lst []) := upd_same
    generalize upd H6 e00 (.lst []) = H7 at *
    refine ⟨4, rfl, by decide, by decide, ?_⟩
    refine for_range (lo := 0) (n := 4) (fun i σ H' => ∃ (w3 w15 : Option V) (e0 : Addr) (es : List V) (E : List (Nat × Nat)), σ = [some (.ref a), some (.ref p), some (.int (z : Nat)), w3, some (.ref D), v5, some (.ref e0), none, none, none, none, none, none, none, none, w15, none] ∧
      PAt 4 z Nf Lf p q D sA nA lA H' ∧ H' e0 = some (.lst es) ∧ TDs H' es (E.map mD) ∧ (∀ k ∈ E, k.1 < 4 ∧ k.2 < (Nf k.1).length / z) ∧ E.length ≤ i * 3000 ∧ e0 ≠ p ∧ e0 ≠ q) ⟨_, _, e00, [], [], rfl, hP7, he7, .nil, by simp, Nat.le_refl _, ne00⟩ ?_ ?_
    · rintro i σ H' hi ⟨w3, w15, e0, es, E, rfl, hP, he, te, hE, hEl, npe⟩
      simp only [Int.zero_add]
      have hel : es.length = E.length := by rw [te.length, List.length_map]
      have hni := hnz i
      refine ⟨_, rfl, _, rfl, _, rfl, D, _, _, .ref (sA i), rfl, rfl, SqL.of hP.ht, atI_nat (at_stream hi), sA i, nA i, lA i, z, Nf i, Lf i, rfl, hP.hS i hi, (by omega), (by omega), ?_⟩
      refine ⟨_, rfl, (nbk _ (show (Nf i).length / z ≤ 1000000 by omega)).1, (nbk _ (show (Nf i).length / z ≤ 1000000 by omega)).2, fun B hB => ?_⟩
      refine lc_range (lo := 0) (n := (((Nf i).length / z : Nat) : Int).toNat) (fun j H3 => ∃ ys, H3 B = some (.lst ys) ∧ TDs H3 ys ((List.range j).map fun c => mD (i, c)) ∧ Same H' H3) ⟨[], upd_same, .nil, same_new (Same.refl _) hB⟩ ?_ ?_
      · rintro j H3 hj ⟨ys, hy, ty, s3⟩
        simp only [Int.zero_add]
        have hyl : ys.length = j := by rw [ty.length, List.length_map, List.length_range]
        refine ⟨rfl, _, rfl, _, rfl, (by decide : (2 : Nat) ≤ sizeLine), fun b hb => ?_⟩
        have nDb : B ≠ b := ne_of_none hy hb
        have t1 := TSm.of_same (same_new (Same.refl H3) hb (o := .tup [.int ((i : Nat) : Int), .int ((j : Nat) : Int)]))
        refine ⟨ys, by rw [upd_ne nDb]; exact hy, lt_line (by omega), ys ++ [.ref b], upd_same, ?_, same_mut (same_new s3 hb) hB⟩
        rw [List.range_succ, List.map_append]
        exact ((ty.mono t1).app (.one (.tup upd_same (.cons (.int _) (.cons (.int _) .nil))))).mono (ts_upd (TSm.refl _) (NoT.lst (by rw [upd_ne nDb]; exact hy)))
      rintro H3 ⟨ys, hy, ty, s3⟩
      have hyl : ys.length ≤ 3000 := by rw [ty.length, List.length_map, List.length_range]; omega
      refine ⟨e0, B, es, ys, rfl, rfl, s3 _ _ he, hy, le_line (by omega), fun e1 he1 => ?_⟩
      have hP3 := hP.same s3
      have s4 := same_new (Same.refl H3) he1 (o := .lst (es ++ ys))
      refine ⟨_, _, e1, es ++ ys, E ++ ((List.range (((Nf i).length / z : Nat) : Int).toNat).map fun c => (i, c)), rfl, hP3.same s4, upd_same, ?_, fun k hk => ?_, ?_, hP3.hA.fresh he1⟩
      · rw [List.map_append, List.map_map]
        exact ((te.mono (TSm.of_same s3)).app ty).mono (TSm.of_same s4)
      · rcases List.mem_append.mp hk with e | e
        · exact hE k e
        · obtain ⟨c, hc, rfl⟩ := List.mem_map.mp e
          have := List.mem_range.mp hc
          exact ⟨hi, by show c < (Nf i).length / z; omega⟩
      · rw [List.length_append, List.length_map, List.length_range]
        omega
    rintro σ H8 ⟨w3, w15, e0, es, E, rfl, hP8, he8, te8, hE, hEl, npe⟩
    have hel : es.length = E.length := by rw [te8.length, List.length_map]
    clear hP6 hP7 he7 he00 ne00
    -- ground, has, over
    refine ⟨_, rfl, fun g dx ng ndx nex => ?_⟩
    refine ⟨g, dx, z, rfl, upd_same, hz8, hz24, fun lc nv ds H9 hG9 nlc nnv nds k9 d9 => ⟨rfl, ?_⟩⟩
    have sa : Same H8 (upd (upd H8 dx (.own g)) g (.ins T.A_Ground dx [])) := same_mut (same_new (Same.refl _) ndx) ng
    have s9 : Same H8 H9 := k9.same sa (by intro m hm; rw [List.mem_singleton.mp hm]; exact ng)
    have npl : lc ≠ p ∧ lc ≠ q := hP8.hA.fresh (sa.free nlc)
    refine ⟨Nat.zero_le _, fun c0 hc0 => ⟨Nat.zero_le _, fun ov hov => ⟨(by decide : (3 : Nat) ≤ sizeLine), fun tp htp => ?_⟩⟩⟩
    have npc : c0 ≠ p ∧ c0 ≠ q := hP8.hA.fresh (s9.free hc0)
    have s10 := same_new (Same.refl H9) hc0 (o := .lst [])
    have hc1 : upd H9 c0 (.lst []) c0 = some (.lst []) := upd_same
    generalize upd H9 c0 (.lst []) = H10 at *
    have npo : ov ≠ p ∧ ov ≠ q := hP8.hA.fresh ((s9.trans s10).free hov)
    have s11 := same_new (Same.refl H10) hov (o := .lst [])
    have ho1 : upd H10 ov (.lst []) ov = some (.lst []) := upd_same
    generalize upd H10 ov (.lst []) = H11 at *
    have s12 := same_new (Same.refl H11) htp (o := .tup [V.ref g, V.ref c0, V.ref ov])
    refine ⟨tp, _, rfl, SqT.of upd_same, rfl, _, _, rfl, _, _, rfl, _, _, rfl, rfl, ?_⟩
    generalize upd H11 tp (.tup [V.ref g, V.ref c0, V.ref ov]) = H12 at *
    have s912 := (s10.trans s11).trans s12
    have s812 := s9.trans s912
    have hW : WAt T.A_Ground z Nf Lf p q g dx lc nv ds D e0 sA nA lA es E H12 (List.replicate 4 []) [] c0 ov [] [] [] [] := by
      refine ⟨hP8.hA.same s812, hG9.same s912, ⟨s812 _ _ hP8.ht, fun i hi => (hP8.hS i hi).keep s812, s812 _ _ he8, te8.mono (TSm.of_same s812), ⟨hP8.np, npe⟩, fun i hi => ?_, fun i hi hd => ?_⟩, (s11.trans s12) _ _ hc1, .nil, s12 _ _ ho1, .nil, ⟨npl, npc, npo⟩, fun i kvs e => ?_, by simp, by simp, fun s c => rfl⟩
      · obtain ⟨⟨a1, a2, _⟩, a4, a5, _⟩ := hP8.nn i hi
        exact ⟨⟨a1, a2⟩, a4, a5⟩
      · exact ne_of_none (hP8.hS i hi).d (sa.free (nds _ hd)) rfl
      · obtain ⟨_, e2⟩ := List.mem_replicate.mp (List.mem_of_getElem? e)
        subst e2
        exact ⟨rfl, .nil⟩
    clear hP8 he8 te8 hG9 nlc nnv nds k9 d9 sa s9 hc0 hov htp hc1 ho1 s10 s11 s12 s912 s812 ng ndx nex npe npl npc npo
    -- the turns
    refine ⟨_, rfl, p, q, 81, rfl, hW.hA, by decide, by decide, fun r13 H13 r130 r131 hA13 k13 _ => ⟨_, rfl, Nat.zero_le _, fun e he => ?_⟩⟩
    have hW13 := hW.draw hA13 k13
    have s14 := same_new (Same.refl H13) he (o := .lst [])
    have he14 : upd H13 e (.lst []) e = some (.lst []) := upd_same
    have hW14 := hW13.same s14
    generalize upd H13 e (.lst []) = H14 at *
    refine ⟨_, _, .lst (SqL.of hW14.hB.he) hW14.hB.te.dp, .lst (SqL.of he14) .nil, (lay_mks E).shaped (by decide), Lay.nil.shaped (by decide), .inr ⟨_, rfl, _, _, rfl, rfl, .inl ⟨by omega, by omega⟩, ?_⟩⟩
    rw [eqv_nil]
    obtain ⟨j16, ej16, hj0, hj5⟩ : ∃ j : Nat, r13 * (if (!((E.map mD)).isEmpty) = true then 1 else 0) = ((j : Nat) : Int) ∧ (E = [] → j = 0) ∧ j ≤ 80 := by
      cases E with
      | nil => exact ⟨0, Int.mul_zero _, fun _ => rfl, by decide⟩
      | cons c r =>
        refine ⟨r13.toNat, ?_, fun h => (by cases h), by omega⟩
        show r13 * 1 = _
        omega
    clear hW hW13 s14 he14 he hA13 k13
    refine ⟨_, rfl, (by rw [ej16]; omega), (by rw [ej16]; omega), ?_⟩
    refine for_range (lo := 0) (n := (r13 * (if (!((E.map mD)).isEmpty) = true then 1 else 0)).toNat) (fun i σ H' => ∃ (w3 w5 w10 w11 w12 w13 w14 w15 w16 : Option V) (c0 ov : Addr) (cm : List (List (Key × V))) (nev : List (List Key × V)) (cs os : List V) (Cm O : List (Nat × Nat)),
      σ = [some (.ref a), some (.ref p), some (.int (z : Nat)), w3, some (.ref D), w5, some (.ref e0), some (.ref g), some (.ref c0), some (.ref ov), w10, w11, w12, w13, w14, w15, w16] ∧ WAt T.A_Ground z Nf Lf p q g dx lc nv ds D e0 sA nA lA es E H' cm nev c0 ov cs os Cm O ∧ Cm.length ≤ i ∧ O.length ≤ i ∧ nev.length ≤ i)
      ⟨_, _, _, _, _, _, _, _, _, c0, ov, _, _, _, _, _, _, rfl, hW14, Nat.le_refl _, Nat.le_refl _, Nat.le_refl _⟩ ?_ ?_
    rotate_left
    · rintro σ H' ⟨w3, w5, w10, w11, w12, w13, w14, w15, w16, c0, ov, cm, nev, cs, os, Cm, O, rfl, hW, _⟩
      exact fin _
    clear hW14
    rintro turn σ H hturn ⟨w3, w5, w10, w11, w12, w13, w14, w15, w16, c0, ov, cm, nev, cs, os, Cm, O, rfl, hW, hCl, hOl, hnl⟩
    rw [ej16, Int.toNat_natCast] at hturn
    have hEne : E ≠ [] := fun h => by have := hj0 h; omega
    have hE0 : 0 < es.length := by rw [hel]; exact List.length_pos_iff.mpr hEne
    have nohear : ∀ mn : Str, mn ∉ GF → (gf ((z : Nat) : Int) lc nv).lookup mn = none := fun mn h => lookup_zip_none GF _ mn h
    have hCE : ∀ k : Nat × Nat, k.1 < 4 ∧ k.2 < (Nf k.1).length / z → k.2 ≤ 9999 ∧ k.2 * z + z ≤ (Nf k.1).length := fun k ⟨_, hc⟩ => by
      have h1 := hnz k.1
      have h2 := Nat.mul_le_mul_right z (show k.2 + 1 ≤ (Nf k.1).length / z by omega)
      have h3 := div_lo z (Nf k.1).length
      rw [Nat.succ_mul] at h2
      omega
    have hfok : ∀ k ∈ E, FOk z ((k.1 : Nat) : Int) (frm z (Nf k.1) (stOf (Lf k.1)) k.2) := fun k hk => by
      obtain ⟨h1, h2⟩ := hCE k (hE k hk)
      have h3 := (hE k hk).1
      exact frm_ok (hLz k.1) (by omega) (by omega) h1 h2
    -- mark
    refine ⟨_, rfl, _, rfl, _, rfl, e0, es, rfl, .inl (SqL.of hW.hB.he), p, q, ((es.length : Nat) : Int), rfl, hW.hA, (by omega), (by omega), fun r H1 r0 r1 hA1 k1 _ => ?_⟩
    have hW1 := hW.draw hA1 k1
    obtain ⟨j, rfl⟩ : ∃ k : Nat, r = (k : Int) := ⟨r.toNat, (Int.toNat_of_nonneg r0).symm⟩
    have hj : j < es.length := by omega
    obtain ⟨d, hd, td⟩ := hW1.hB.te.get (List.getElem?_eq_getElem hj)
    obtain ⟨k, hk, rfl⟩ := map_get hd
    have hkE : k ∈ E := List.mem_of_getElem? hk
    refine ⟨e0, es, _, es[j], rfl, rfl, SqL.of hW1.hB.he, atI_nat (List.getElem?_eq_getElem hj), ?_⟩
    generalize es[j] = mv at *
    -- if next(h, 9) == 0
    refine ⟨_, rfl, p, q, 9, rfl, hW1.hA, by decide, by decide, fun r2 H2 r20 r21 hA2 k2 _ => ⟨rfl, _, rfl, ?_⟩⟩
    have hW2 := hW1.draw hA2 k2
    have td2 := td.mono (k2.ts hW1.hA.noT)
    clear hW hW1 hA1 k1 hA2 k2 td hd hk hj r0 r1
    obtain ⟨hk4, hkc⟩ := hE k hkE
    obtain ⟨hk99, hkz⟩ := hCE k (hE k hkE)
    refine ife_skipS (fun σ1 H' => ∃ (c0 ov : Addr) (cm : List (List (Key × V))) (nev : List (List Key × V)) (cs os : List V) (Cm O : List (Nat × Nat)),
      σ1 = [some (.ref a), some (.ref p), some (.int (z : Nat)), w3, some (.ref D), some (.int (0 + (turn : Nat))), some (.ref e0), some (.ref g), some (.ref c0), some (.ref ov), some mv, w11, w12, w13, w14, w15, w16] ∧ WAt T.A_Ground z Nf Lf p q g dx lc nv ds D e0 sA nA lA es E H' cm nev c0 ov cs os Cm O ∧ Cm.length ≤ turn + 1 ∧ O.length ≤ turn + 1 ∧ nev.length ≤ turn + 1) ?_ (fun _ rest => ?_) (fun _ rest => ?_)
    rotate_left
    · -- over
      have hol : os.length = O.length := by rw [hW2.to.length, List.length_map]
      refine ⟨_, rfl, _, rfl, (by decide : (1 : Nat) ≤ sizeLine), fun l1 hl1 => ?_⟩
      have s3 := same_new (Same.refl H2) hl1 (o := .lst [mv])
      have hl3 : upd H2 l1 (.lst [mv]) l1 = some (.lst [mv]) := upd_same
      have hW3 := hW2.same s3
      have td3 := td2.mono (TSm.of_same s3)
      generalize upd H2 l1 (.lst [mv]) = H3 at *
      refine ⟨ov, l1, os, _, rfl, rfl, hW3.ho, hl3, le_line (by rw [List.length_singleton]; omega), fun o2 ho2 => ?_⟩
      have npo2 := hW3.hA.fresh ho2
      have s4 := same_new (Same.refl H3) ho2 (o := .lst (os ++ [mv]))
      have ho4 : upd H3 o2 (.lst (os ++ [mv])) o2 = some (.lst (os ++ [mv])) := upd_same
      have hW4 := hW3.same s4
      have td4 := td3.mono (TSm.of_same s4)
      generalize upd H3 o2 (.lst (os ++ [mv])) = H4 at *
      refine ⟨_, rfl, g, dx, _, rfl, hW4.hG.o, nohear _ (by decide), _, rfl, (by decide : (1 : Nat) ≤ sizeLine), fun lm hlm => ?_⟩
      have s5 := same_new (Same.refl H4) hlm (o := .lst [mv])
      have hW5 := hW4.same s5
      have td5 := td4.mono (TSm.of_same s5)
      refine ⟨g, dx, lc, nv, lm, [mv], ds, z, [k], cm, nev, rfl, hW5.hG, upd_same, .one td5, (fun x hx => by rw [List.mem_singleton.mp hx]; omega), (by rw [List.length_singleton]; omega), fun nev' H6 hG6 hl6 hn6 k6 _ => ?_⟩
      refine rest _ _ ⟨c0, o2, cm, nev', cs, os ++ [mv], Cm, O ++ [k], rfl, hW5.over (s5 _ _ ho4) ?_ npo2 hG6 k6 hn6, by omega, by rw [List.length_append, List.length_singleton]; omega, by rw [List.length_singleton] at hl6; omega⟩
      rw [List.map_append]
      exact hW5.to.app (.one td5)
    · -- hear
      obtain ⟨ma, rfl, hma⟩ := td_mk td2
      have hcl : cs.length = Cm.length := by rw [hW2.tc.length, List.length_map]
      obtain ⟨da, hda⟩ : ∃ da, ds[k.1]? = some da := ⟨ds[k.1]'(by rw [hW2.hG.four]; exact hk4), List.getElem?_eq_getElem _⟩
      obtain ⟨kvs, hkv⟩ : ∃ kvs, cm[k.1]? = some kvs := ⟨cm[k.1]'(by rw [hW2.hG.cl]; exact hk4), List.getElem?_eq_getElem _⟩
      have hkl : kvs.length ≤ 28000 := by
        have h1 := (hW2.ck _ _ hkv).1
        have h2 : kvs.length = (cssOf Cm k.1).length := by
          have := congrArg List.length h1
          simpa using this
        have := css_len Cm k.1
        omega
      have hNk := hNl k.1
      have hLk := hLl k.1
      refine ⟨_, rfl, g, dx, _, rfl, hW2.hG.o, nohear _ (by decide), _, rfl, _, rfl, ma, _, 0, _, rfl, rfl, SqT.of hma, atI_nat (j := 0) rfl, D, _, _, .ref (sA k.1), rfl, rfl, SqL.of hW2.hB.ht, atI_nat (at_stream hk4), _, rfl, ma, _, 0, _, rfl, rfl, SqT.of hma, atI_nat (j := 0) rfl, _, rfl, ma, _, 1, _, rfl, rfl, SqT.of hma, atI_nat (j := 1) rfl, ?_⟩
      refine ⟨sA k.1, nA k.1, lA k.1, z, Nf k.1, Lf k.1, ((k.1 : Nat) : Int), k.2, rfl, hW2.hB.hS k.1 hk4, (by omega), (by omega), (by omega), (by omega), (hLz k.1).laid.asc, hkz, fun f H3 tf s3 => ?_⟩
      have hW3 := hW2.same s3
      have hdk := hW3.hG.d _ _ _ hda hkv
      refine ⟨g, dx, lc, nv, da, .ref f, ds, z, k.1, frm z (Nf k.1) (stOf (Lf k.1)) k.2, cm, nev, kvs, rfl, hW3.hG, tf, hfok k hkE, (by omega), hda, hkv, (by omega), fun hin H4 s4 => ?_, fun hn H4 hG4 k4 d4 => ?_⟩
      · have hkC := (hW3.key hkv).mp hin
        have hW4 := hW3.same s4
        have td4 := td2.mono (TSm.of_same (s3.trans s4))
        refine ⟨_, rfl, _, rfl, _, _, td4.dp, .lst (SqL.of hW4.hc) hW4.tc.dp, (lay_mk k).shaped (by decide), (lay_mks Cm).shaped (by decide), ?_⟩
        rw [any_mk, decide_eq_true hkC]
        refine ⟨_, _, .bool false, rfl, .bl false, .bl false, .sc (.inr (.inr (.inl ⟨false, rfl⟩))), fun H5 s5 => ⟨true, rfl, iteF ?_⟩⟩
        have hW5 := hW4.same s5
        have td5 := td4.mono (TSm.of_same s5)
        refine ⟨_, rfl, _, rfl, (by decide : (1 : Nat) ≤ sizeLine), fun l1 hl1 => ?_⟩
        have s6 := same_new (Same.refl H5) hl1 (o := .lst [V.ref ma])
        have hl6 : upd H5 l1 (.lst [V.ref ma]) l1 = some (.lst [V.ref ma]) := upd_same
        have hW6 := hW5.same s6
        have td6 := td5.mono (TSm.of_same s6)
        generalize upd H5 l1 (.lst [V.ref ma]) = H6 at *
        refine ⟨_, rfl, _, rfl, _, _, td6.dp, .lst (SqL.of hW6.hc) hW6.tc.dp, (lay_mk k).shaped (by decide), (lay_mks Cm).shaped (by decide), .inr ⟨_, rfl, ?_⟩⟩
        rw [any_mk, decide_eq_true hkC]
        refine ⟨l1, 0, _, rfl, rfl, hl6, (by decide), (by decide), (by show 1 * 0 ≤ sizeLine; decide), fun l2 hl2 => ?_⟩
        have s7 := same_new (Same.refl H6) hl2 (o := .lst (List.replicate (0 : Int).toNat [V.ref ma]).flatten)
        have hl7 : upd H6 l2 (.lst (List.replicate (0 : Int).toNat [V.ref ma]).flatten) l2 = some (.lst []) := upd_same
        have hW7 := hW6.same s7
        generalize upd H6 l2 (.lst (List.replicate (0 : Int).toNat [V.ref ma]).flatten) = H7 at *
        refine ⟨c0, l2, cs, [], rfl, rfl, hW7.hc, hl7, le_line (by rw [List.length_nil]; omega), fun c1 hc1 => ?_⟩
        have s8 := same_new (Same.refl H7) hc1 (o := .lst (cs ++ []))
        have hW8 := hW7.same s8
        refine rest _ _ ⟨c1, ov, cm, nev, cs, os, Cm, O, rfl, hW8.setC (by rw [upd_same, List.append_nil]) hW8.tc (hW7.hA.fresh hc1), by omega, by omega, by omega⟩
      · have hkC : k ∉ Cm := fun h => hn ((hW3.key hkv).mpr h)
        have td3 := td2.mono (TSm.of_same s3)
        have td4 := td3.mono (k4.ts fun x hx => by rw [List.mem_singleton.mp hx]; exact NoT.dK hdk)
        have tc4 := hW3.tc.mono (k4.ts fun x hx => by rw [List.mem_singleton.mp hx]; exact NoT.dK hdk)
        have hc4 : H4 c0 = some (.lst cs) := k4 _ _ (by simp only [List.mem_singleton]; intro e; subst e; have := hW3.hc; rw [hdk] at this; cases this) hW3.hc
        refine ⟨_, rfl, _, rfl, _, _, td4.dp, .lst (SqL.of hc4) tc4.dp, (lay_mk k).shaped (by decide), (lay_mks Cm).shaped (by decide), ?_⟩
        rw [any_mk, decide_eq_false hkC]
        refine ⟨_, _, .bool true, rfl, .bl true, .bl true, .sc (.inr (.inr (.inl ⟨true, rfl⟩))), fun H5 s5 => ⟨true, rfl, iteF ?_⟩⟩
        have td5 := td4.mono (TSm.of_same s5)
        have tc5 := tc4.mono (TSm.of_same s5)
        have hc5 := s5 _ _ hc4
        refine ⟨_, rfl, _, rfl, (by decide : (1 : Nat) ≤ sizeLine), fun l1 hl1 => ?_⟩
        have s6 := same_new (Same.refl H5) hl1 (o := .lst [V.ref ma])
        have hl6 : upd H5 l1 (.lst [V.ref ma]) l1 = some (.lst [V.ref ma]) := upd_same
        have td6 := td5.mono (TSm.of_same s6)
        have tc6 := tc5.mono (TSm.of_same s6)
        have hc6 := s6 _ _ hc5
        generalize upd H5 l1 (.lst [V.ref ma]) = H6 at *
        refine ⟨_, rfl, _, rfl, _, _, td6.dp, .lst (SqL.of hc6) tc6.dp, (lay_mk k).shaped (by decide), (lay_mks Cm).shaped (by decide), .inr ⟨_, rfl, ?_⟩⟩
        rw [any_mk, decide_eq_false hkC]
        refine ⟨l1, 1, _, rfl, rfl, hl6, (by decide), (by decide), (by show 1 * 1 ≤ sizeLine; decide), fun l2 hl2 => ?_⟩
        have s7 := same_new (Same.refl H6) hl2 (o := .lst (List.replicate (1 : Int).toNat [V.ref ma]).flatten)
        have hl7 : upd H6 l2 (.lst (List.replicate (1 : Int).toNat [V.ref ma]).flatten) l2 = some (.lst [V.ref ma]) := upd_same
        have td7 := td6.mono (TSm.of_same s7)
        have tc7 := tc6.mono (TSm.of_same s7)
        have hc7 := s7 _ _ hc6
        generalize upd H6 l2 (.lst (List.replicate (1 : Int).toNat [V.ref ma]).flatten) = H7 at *
        refine ⟨c0, l2, cs, [V.ref ma], rfl, rfl, hc7, hl7, le_line (by rw [List.length_singleton]; omega), fun c1 hc1 => ?_⟩
        have s8 := same_new (Same.refl H7) hc1 (o := .lst (cs ++ [V.ref ma]))
        have s48 := ((s5.trans s6).trans s7).trans s8
        have npc1 : c1 ≠ p ∧ c1 ≠ q := by
          refine hW3.hA.fresh ?_
          have h4 : H4 c1 = none := ((s5.trans s6).trans s7).free hc1
          exact d4 _ h4
        refine rest _ _ ⟨c1, ov, _, nev, cs ++ [V.ref ma], os, Cm ++ [k], O, rfl, hW3.came (List.mem_of_getElem? hda) hdk hkv tf hG4 k4 s48 upd_same ?_ npc1 hkC hkE, by rw [List.length_append, List.length_singleton]; omega, by omega, by omega⟩
        rw [List.map_append]
        exact (tc7.app (.one td7)).mono (TSm.of_same s8)
    -- what is told
    clear hW2 td2 hkE hk4 hkc hk99 hkz
    rintro σ1 H16 ⟨c0, ov, cm, nev, cs, os, Cm, O, rfl, hW16, hCl, hOl, hnl⟩
    have hcl : cs.length = Cm.length := by rw [hW16.tc.length, List.length_map]
    have hCmE : ∀ x ∈ Cm, x.1 < 4 ∧ x.2 < 3000 := fun x hx => by
      have h1 := hE x (hW16.inE x hx)
      have h2 := hnz x.1
      omega
    have topl : ∀ i, topN (cssOf Cm i) ≤ 3000 := fun i => by
      by_cases e : cssOf Cm i = []
      · rw [e]; exact Nat.zero_le _
      · have := (hCmE _ (mem_css.mp (top_mem e))).2
        omega
    have cssl : ∀ i, (cssOf Cm i).length ≤ 81 := fun i => by have := css_len Cm i; omega
    refine ⟨Nat.zero_le _, fun wa hwa => ?_⟩
    refine ⟨4, rfl, by decide, by decide, ?_⟩
    refine for_range (lo := 0) (n := 4) (fun i σ H' => ∃ (w3 w12 w15 w16 : Option V) (xs : List V), σ = [some (.ref a), some (.ref p), some (.int (z : Nat)), w3, some (.ref D), some (.int (0 + (turn : Nat))), some (.ref e0), some (.ref g), some (.ref c0), some (.ref ov), some mv, some (.ref wa), w12, w13, w14, w15, w16] ∧
      H' wa = some (.lst xs) ∧ TDs H' xs ((DU (cssOf Cm) i).map mD) ∧ Same H16 H') ⟨_, _, _, _, [], rfl, upd_same, .nil, same_new (Same.refl _) hwa⟩ ?_ ?_
    · rintro i σ H17 hi ⟨w3, w12, w15, w16, xs, rfl, hdx, tdx, s17⟩
      simp only [Int.zero_add]
      have hW17 := hW16.same s17
      have hxl : xs.length ≤ 40000 := by
        rw [tdx.length, List.length_map]
        have := DU_len (css := cssOf Cm) (fun i => by have := topl i; omega) i
        omega
      -- counts
      refine ⟨_, rfl, c0, rfl, ⟨_, SqL.of hW17.hc⟩, fun B2 hB2 => ?_⟩
      have nB2 : wa ≠ B2 := ne_of_none hdx hB2
      refine lc_list (K := K) (a := c0) (xs := cs) (fun j H' => H' B2 = some (.lst (((cssOf (Cm.take j) i).map fun c : Nat => (c : Int)).map V.int)) ∧ Same H17 H') ⟨upd_same, same_new (Same.refl _) hB2⟩ (fun j H' _ ⟨_, s⟩ => SqL.of (s _ _ hW17.hc)) ?_ ?_
      · rintro j y H18 hy ⟨hb2, s18⟩
        obtain ⟨d, hd, td⟩ := hW17.tc.get hy
        obtain ⟨k5, hk5, rfl⟩ := map_get hd
        obtain ⟨m5, rfl, hm5⟩ := td_mk (td.mono (TSm.of_same s18))
        have hlen : (cssOf (Cm.take j) i).length ≤ 81 := by
          have h1 := css_len (Cm.take j) i
          rw [List.length_take] at h1
          omega
        refine ⟨m5, _, rfl, SqT.of hm5, rfl, _, _, rfl, _, _, rfl, rfl, rfl, _, rfl, _, rfl, rfl, _, rfl, ?_⟩
        refine ite2 (fun ek => ?_) (fun ek => ?_)
        · have h : k5.1 = i := by
            have e0 : (((k5.1 : Nat) : Int)) = ((i : Nat) : Int) := by simpa [eqV] using ek
            omega
          refine ⟨_, rfl, _, hb2, lt_line (by rw [List.length_map, List.length_map]; omega), ?_, same_mut s18 hB2⟩
          rw [upd_same, List.take_add_one, hk5, Option.toList_some, css_snoc, if_pos h, List.map_append, List.map_append]
          rfl
        · have h : ¬ k5.1 = i := fun e => ek (by rw [e]; simp [eqV])
          refine ⟨?_, s18⟩
          rw [List.take_add_one, hk5, Option.toList_some, css_snoc, if_neg h]
          exact hb2
      rintro H18 ⟨hb2, s18⟩
      rw [List.take_of_length_le (by omega)] at hb2
      have hdx18 := s18 _ _ hdx
      have tdx18 := tdx.mono (TSm.of_same s18)
      have cl := cssl i
      -- wants.extend
      refine ⟨_, rfl, .inl ⟨rfl, _, SqL.of hdx18⟩, _, rfl, (by decide : (1 : Nat) ≤ sizeLine), fun n1 hn1 => ?_⟩
      have s19 := same_new (Same.refl H18) hn1 (o := .lst [V.int 0])
      have hn19 : upd H18 n1 (.lst [V.int 0]) n1 = some (.lst [V.int 0]) := upd_same
      have hb19 := s19 _ _ hb2
      generalize upd H18 n1 (.lst [V.int 0]) = H19 at *
      refine ⟨B2, n1, _, _, rfl, rfl, hb19, hn19, le_line (by rw [List.length_map, List.length_map, List.length_singleton]; omega), fun ct hct => ?_⟩
      have s20 := same_new (Same.refl H19) hct (o := .lst (((cssOf Cm i).map fun c : Nat => (c : Int)).map V.int ++ [V.int 0]))
      have hct20 : upd H19 ct (.lst (((cssOf Cm i).map fun c : Nat => (c : Int)).map V.int ++ [V.int 0])) ct = some (.lst ((((cssOf Cm i).map fun c : Nat => (c : Int)) ++ [0]).map V.int)) := by rw [upd_same, List.map_append]; rfl
      have hb20 := s20 _ _ hb19
      have s1820 := s19.trans s20
      generalize upd H19 ct (.lst (((cssOf Cm i).map fun c : Nat => (c : Int)).map V.int ++ [V.int 0])) = H20 at *
      refine ⟨ct, _, rfl, SqL.of hct20, by simp, fun mx h1 h2 => ?_⟩
      obtain ⟨emx, lo, hi2⟩ := max_is0 h1 h2
      have tli := topl i
      refine ⟨_, rfl, (by omega), (by omega), fun B4 hB4 => ?_⟩
      refine lc_range (lo := 0) (n := mx.toNat) (fun j H' => ∃ ys, H' B4 = some (.lst ys) ∧ TDs H' ys ((wantL (cssOf Cm i) (fun _ => false) j).map fun c => mD (i, c)) ∧ Same H20 H') ⟨[], upd_same, .nil, same_new (Same.refl _) hB4⟩ ?_ ?_
      · rintro j H21 hj ⟨ys, hy, ty, s21⟩
        simp only [Int.zero_add]
        have hin := inV_nats (c := j) (cssOf Cm i)
        have hyl : ys.length ≤ 8000 := by
          rw [ty.length, List.length_map]
          have := want_len (cssOf Cm i) (fun _ => false) j
          omega
        refine ⟨rfl, _, rfl, _, rfl, B2, _, rfl, .inl (SqL.of (s21 _ _ hb20)), rfl, (by simp [flatV]), _, rfl, ?_⟩
        show if (!inV (V.int ((j : Nat) : Int)) (((cssOf Cm i).map fun c : Nat => (c : Int)).map V.int)) = true then _ else _
        rw [List.map_map]
        have hin2 : inV (V.int ((j : Nat) : Int)) ((cssOf Cm i).map (V.int ∘ fun c : Nat => (c : Int))) = decide (j ∈ cssOf Cm i) := hin
        rw [hin2]
        refine ite2 (fun ek => ?_) (fun ek => ?_)
        · refine ⟨_, rfl, _, rfl, (by decide : (2 : Nat) ≤ sizeLine), fun b hb => ?_⟩
          have nDb : B4 ≠ b := ne_of_none hy hb
          have t1 := TSm.of_same (same_new (Same.refl H21) hb (o := .tup [.int ((i : Nat) : Int), .int ((j : Nat) : Int)]))
          refine ⟨ys, by rw [upd_ne nDb]; exact hy, lt_line (by omega), ys ++ [.ref b], upd_same, ?_, same_mut (same_new s21 hb) hB4⟩
          rw [want_yes (by rw [Bool.not_false, Bool.and_true]; exact ek), List.map_append]
          exact ((ty.mono t1).app (.one (.tup upd_same (.cons (.int _) (.cons (.int _) .nil))))).mono (ts_upd (TSm.refl _) (NoT.lst (by rw [upd_ne nDb]; exact hy)))
        · refine ⟨ys, hy, ?_, s21⟩
          rw [want_no (by rw [Bool.not_false, Bool.and_true]; simpa using ek)]
          exact ty
      rintro H21 ⟨ys, hy, ty, s21⟩
      have hyl : ys.length ≤ 8000 := by
        rw [ty.length, List.length_map]
        have := want_len (cssOf Cm i) (fun _ => false) mx.toNat
        omega
      have s1821 := s1820.trans s21
      have hdx21 := s1821 _ _ hdx18
      have tt : TSm H21 (upd H21 wa (.lst (xs ++ ys))) := ts_upd (TSm.refl _) (NoT.lst hdx21)
      refine ⟨wa, B4, xs, ys, rfl, rfl, hdx21, hy, le_line (by omega), ?_⟩
      have s22 : Same H16 (upd H21 wa (.lst (xs ++ ys))) := same_mut ((s17.trans s18).trans s1821) hwa
      have hx22 : upd H21 wa (.lst (xs ++ ys)) wa = some (.lst (xs ++ ys)) := upd_same
      have tx22 : TDs (upd H21 wa (.lst (xs ++ ys))) (xs ++ ys) ((DU (cssOf Cm) (i + 1)).map mD) := by
        rw [emx] at ty
        rw [DU_succ, List.map_append, List.map_map]
        exact ((tdx18.mono (TSm.of_same s1821)).mono tt).app (ty.mono tt)
      have hb22 : upd H21 wa (.lst (xs ++ ys)) B2 = some (.lst (((cssOf Cm i).map fun c : Nat => (c : Int)).map V.int)) := by rw [upd_ne nB2.symm]; exact s21 _ _ hb20
      generalize upd H21 wa (.lst (xs ++ ys)) = H22 at *
      have hW22 := hW16.same s22
      clear hy ty tt hdx21 s1821 s1820 s19 s20 s21 hct20 hb20 hb19 hn19 hdx18 tdx18 hb2 s18 hdx tdx hB4 hct hn1 hB2 s17 hW17
      -- rows
      obtain ⟨da, hda⟩ : ∃ da, ds[i]? = some da := ⟨ds[i]'(by rw [hW22.hG.four]; exact hi), List.getElem?_eq_getElem _⟩
      obtain ⟨kvs, hkv⟩ : ∃ kvs, cm[i]? = some kvs := ⟨cm[i]'(by rw [hW22.hG.cl]; exact hi), List.getElem?_eq_getElem _⟩
      have hb1 : ∀ c ∈ cssOf Cm i, c ≤ 9999 ∧ c * z + z ≤ (Nf i).length := fun c hc => hCE (i, c) (hE _ (hW16.inE _ (mem_css.mp hc)))
      have hNi := hNl i
      have hLi := hLl i
      have hLb : ∀ x ∈ Lf i, x.1 ≤ 1000000 ∧ x.2.length ≤ 1000 := by
        intro x hx
        obtain ⟨j, hj, e⟩ := List.getElem_of_mem hx
        obtain ⟨g1, _, g3⟩ := (hLz i).item j x.1 x.2 (by rw [List.getElem?_eq_getElem hj, e])
        have := g3.2.1
        omega
      refine ⟨_, rfl, g, dx, _, rfl, hW22.hG.o, nohear _ (by decide), _, rfl, g, dx, lc, nv, da, ds, z, i, Nf i, Lf i, cssOf Cm i, cm, nev, kvs, rfl, hW22.hG, hda, hkv, (by rw [List.map_map]; exact (hW22.ck _ _ hkv).2), hLz i, hz8, hz24, hb1, (by omega), (by omega), (by omega), fun R rs H23 hR tR nR s23 => ?_⟩
      have hW23 := hW22.same s23
      refine ⟨_, rfl, _, rfl, D, _, _, .ref (sA i), rfl, rfl, SqL.of hW23.hB.ht, atI_nat (at_stream hi), _, rfl, sA i, nA i, lA i, B2, z, Nf i, Lf i, cssOf Cm i, rfl, hW23.hB.hS i hi, (by have := s23 _ _ hb22; rw [List.map_map] at this; exact this), (by omega), (by omega), (by omega), hLb, fun R2 rs2 H24 hR2 tR2 nR2 s24 => ?_⟩
      have tll : (toldL z (Lf i) (cssOf Cm i)).length ≤ 1000000 := by
        unfold toldL
        have := List.length_filter_le (toldJ z (Lf i) (cssOf Cm i)) (List.range (Lf i).length)
        rw [List.length_range] at this
        omega
      refine ⟨_, _, _, rfl, .lst (SqL.of (s24 _ _ hR)) (tR.mono (TSm.of_same s24)).dp, .lst (SqL.of hR2) tR2.dp, dok_rows tll (fun x hx => (hLb x hx).2), fun H25 s25 => ⟨true, rfl, iteF ?_⟩⟩
      have s2225 := (s23.trans s24).trans s25
      exact ⟨_, _, _, _, xs ++ ys, rfl, s2225 _ _ hx22, tx22.mono (TSm.of_same s2225), s22.trans s2225⟩
    rintro σ H17 ⟨w3, w12, w15, w16, xs, rfl, hdx, tdx, s17⟩
    have hW17 := hW16.same s17
    have sm4 : ∀ x ∈ Cm, x.1 < 4 ∧ x.2 < 10000 := fun x hx => by have := hCmE x hx; omega
    have hxl : xs.length ≤ 40000 := by
      rw [tdx.length, List.length_map]
      have := DU_len (css := cssOf Cm) (fun i => by have := topl i; omega) 4
      omega
    -- found
    refine ⟨_, rfl, g, dx, _, rfl, hW17.hG.o, nohear _ (by decide), g, dx, lc, nv, ds, z, cm, nev, cssOf Cm, ssOf Cm, rfl, hW17.hG, fun i kvs e => (hW17.ck i kvs e).1, fun i => ⟨css_nodup hW17.un, ss_rise Cm i, fun c => (mem_ss fun x hx => (sm4 x hx).2).trans mem_css.symm, by have := ss_len Cm i; omega⟩, fun R1 rs1 H18 hR1 tR1 nR1 s18 => ?_⟩
    have hW18 := hW17.same s18
    rw [← HL_data] at tR1
    refine ⟨_, rfl, g, dx, _, rfl, hW18.hG.o, nohear _ (by decide), g, dx, lc, nv, ds, z, cm, nev, cssOf Cm, fun i => topN (cssOf Cm i), fun s c => decide ((s, c) ∈ O), rfl, hW18.hG, fun i kvs e => (hW18.ck i kvs e).1, fun i => ⟨fun e => by show topN (cssOf Cm i) = 0; rw [e]; rfl, fun c hc => top_le hc, fun e => top_mem e, by have := topl i; show topN (cssOf Cm i) ≤ 100000; omega⟩, hW18.nw, fun R2 rs2 H19 hR2 tR2 nR2 s19 => ?_⟩
    refine ⟨(by decide : (2 : Nat) ≤ sizeLine), fun fd hfd => ?_⟩
    have s20 := same_new (Same.refl H19) hfd (o := .lst [V.ref R1, V.ref R2])
    have hfd20 : upd H19 fd (.lst [V.ref R1, V.ref R2]) fd = some (.lst [V.ref R1, V.ref R2]) := upd_same
    have s1720 := (s18.trans s19).trans s20
    have hW20 := hW17.same s1720
    have hdx20 := s1720 _ _ hdx
    have tdx20 := tdx.mono (TSm.of_same s1720)
    have hR120 := (s19.trans s20) _ _ hR1
    have tR120 := tR1.mono (TSm.of_same (s19.trans s20))
    have hR220 := s20 _ _ hR2
    have tR220 := tR2.mono (TSm.of_same s20)
    have nR1R2 : R1 ≠ R2 := ne_of_none hR1 nR2
    have nfd1 : fd ≠ R1 := (ne_of_none (s19 _ _ hR1) hfd).symm
    have nfd2 : fd ≠ R2 := (ne_of_none hR2 hfd).symm
    have fR1 : H16 R1 = none := s17.free nR1
    have fR2 : H16 R2 = none := (s17.trans s18).free nR2
    have s1620 := s17.trans s1720
    generalize upd H19 fd (.lst [V.ref R1, V.ref R2]) = H20 at *
    clear hW18 s18 s19 s20 hR1 tR1 nR1 hR2 tR2 nR2 hdx tdx hfd s1720 hW17
    -- alike
    refine ⟨_, rfl, _, rfl, c0, cs, kOf H20, rfl, SqL.of hW20.hc, fun x hx => ?_, fun ys pp hsrt hstb hpp => ?_⟩
    · obtain ⟨d, hd, td⟩ := tds_all hW20.tc x hx
      obtain ⟨k', _, rfl⟩ := List.mem_map.mp hd
      exact (kOf_mk td).1
    have tY := sorted_marks hW20.tc hW20.un sm4 hsrt hstb
    have s21 := same_new (Same.refl H20) hpp (o := .lst ys)
    have hpp21 : upd H20 pp (.lst ys) pp = some (.lst ys) := upd_same
    have hW21 := hW20.same s21
    have tY21 := tY.mono (TSm.of_same s21)
    have hdx21 := s21 _ _ hdx20
    have tdx21 := tdx20.mono (TSm.of_same s21)
    generalize upd H20 pp (.lst ys) = H21 at *
    refine ⟨_, rfl, wa, rfl, ⟨_, SqL.of hdx21⟩, fun B3 hB3 => ?_⟩
    refine lc_list (K := K) (a := wa) (xs := xs) (fun j H' => ∃ zs, H' B3 = some (.lst zs) ∧ TDs H' zs ((((DU (cssOf Cm) 4).take j).filter fun k => !decide (k ∈ O)).map mD) ∧ zs.length ≤ j ∧ Same H21 H') ⟨[], upd_same, by simpa using TDs.nil, Nat.le_refl _, same_new (Same.refl _) hB3⟩ (fun j H' _ ⟨_, _, _, _, s⟩ => SqL.of (s _ _ hdx21)) ?_ ?_
    · rintro j y H22 hy ⟨zs, hzs, tzs, hzl, s22⟩
      obtain ⟨d, hd, td⟩ := tdx21.get hy
      obtain ⟨k6, hk6, rfl⟩ := map_get hd
      have hjl : j < xs.length := (List.getElem?_eq_some_iff.mp hy).1
      have hW22 := hW21.same s22
      have td22 := td.mono (TSm.of_same s22)
      refine ⟨rfl, _, rfl, _, rfl, _, _, td22.dp, .lst (SqL.of hW22.ho) hW22.to.dp, (lay_mk k6).shaped (by decide), (lay_mks O).shaped (by decide), _, rfl, ?_⟩
      rw [any_mk]
      rw [List.take_add_one, hk6, Option.toList_some, List.filter_append]
      refine ite2 (fun ek => ?_) (fun ek => ?_)
      · have tt : TSm H22 (upd H22 B3 (.lst (zs ++ [y]))) := ts_upd (TSm.refl _) (NoT.lst hzs)
        refine ⟨_, rfl, zs, hzs, lt_line (by omega), zs ++ [y], upd_same, ?_, by rw [List.length_append]; exact Nat.succ_le_succ hzl, same_mut s22 hB3⟩
        rw [List.filter_cons_of_pos (p := fun k => !decide (k ∈ O)) ek, List.filter_nil, List.map_append]
        exact (tzs.mono tt).app (.one (td22.mono tt))
      · refine ⟨zs, hzs, ?_, Nat.le_succ_of_le hzl, s22⟩
        rw [List.filter_cons_of_neg (p := fun k => !decide (k ∈ O)) ek, List.filter_nil, List.append_nil]
        exact tzs
    rintro H22 ⟨zs, hzs, tzs, hzl, s22⟩
    rw [List.take_of_length_le (by rw [tdx21.length, List.length_map]; exact Nat.le_refl _), want_eq] at tzs
    refine ⟨(by decide : (2 : Nat) ≤ sizeLine), fun f2 hf2 => ?_⟩
    have s23 := same_new (Same.refl H22) hf2 (o := .lst [V.ref pp, V.ref B3])
    have s2023 := (s21.trans s22).trans s23
    have tok : ∀ k : Nat × Nat, DOk 1 (mD k) := fun k => DOk.tuple (show 2 ≤ 10000000 by decide) fun e he => by
      rcases List.mem_cons.mp he with e | e
      · rw [e]; exact DOk.int _
      · rw [List.mem_singleton.mp e]; exact DOk.int _
    have d1 : DOk 2 (.list ((HL Cm).map mD)) := DOk.list (by rw [← tY.length]; have := hstb.perm.length_eq; omega) fun e he => by
      obtain ⟨k, _, rfl⟩ := List.mem_map.mp he
      exact tok k
    have d2 : DOk 2 (.list ((List.range 4).flatMap fun i => (wantL (cssOf Cm i) (fun c => decide ((i, c) ∈ O)) (topN (cssOf Cm i))).map (mkD i))) := by
      refine DOk.list (by rw [← tzs.length]; omega) fun e he => ?_
      obtain ⟨i, _, he⟩ := List.mem_flatMap.mp he
      obtain ⟨c, _, rfl⟩ := List.mem_map.mp he
      exact tok (i, c)
    have dd : DOk 3 (.list [.list ((HL Cm).map mD), .list ((List.range 4).flatMap fun i => (wantL (cssOf Cm i) (fun c => decide ((i, c) ∈ O)) (topN (cssOf Cm i))).map (mkD i))]) := DOk.list (show 2 ≤ 10000000 by decide) fun e he => by
      rcases List.mem_cons.mp he with e | e
      · rw [e]; exact d1
      · rw [List.mem_singleton.mp e]; exact d2
    refine ⟨_, _, _, rfl, .lst (SqL.of (s2023 _ _ hfd20)) (.cons (.lst (SqL.of (s2023 _ _ hR120)) (tR120.mono (TSm.of_same s2023)).dp) (.cons (.lst (SqL.of (s2023 _ _ hR220)) (tR220.mono (TSm.of_same s2023)).dp) .nil)),
      .lst (SqL.of upd_same) (.cons (.lst (SqL.of ((s22.trans s23) _ _ hpp21)) (tY21.mono (TSm.of_same (s22.trans s23))).dp) (.cons (.lst (SqL.of (s23 _ _ hzs)) (tzs.mono (TSm.of_same s23)).dp) .nil)), dd, fun H24 s24 => ⟨true, rfl, iteF ?_⟩⟩
    have s2024 := s2023.trans s24
    have s1624 := s1620.trans s2024
    have hfd24 := s2024 _ _ hfd20
    have hR124 := s2024 _ _ hR120
    have hR224 := s2024 _ _ hR220
    have lR1 : rs1.length ≤ 50000 := by
      have h1 := tR120.length
      have h2 := tY.length
      have h3 := hstb.perm.length_eq
      omega
    have lR2 : rs2.length ≤ 50000 := by
      have h1 := tR220.length
      have h2 := tzs.length
      rw [h1, ← h2]
      omega
    -- for one in found: one.append(())
    refine ⟨_, rfl, fd, rfl, ⟨_, SqL.of hfd24⟩, ?_⟩
    refine for_list (K := K) (a := fd) (xs := [V.ref R1, V.ref R2]) (fun i σ H' => ∃ (w14 : Option V), σ = [some (.ref a), some (.ref p), some (.int (z : Nat)), w3, some (.ref D), some (.int (0 + (turn : Nat))), some (.ref e0), some (.ref g), some (.ref c0), some (.ref ov), some mv, some (.ref wa), w12, some (.ref fd), w14, w15, w16] ∧
      H' fd = some (.lst [V.ref R1, V.ref R2]) ∧ (∃ xs, H' R1 = some (.lst xs) ∧ xs.length ≤ 50000 + i) ∧ (∃ xs, H' R2 = some (.lst xs) ∧ xs.length ≤ 50000 + i) ∧ Same H16 H') ⟨_, rfl, hfd24, ⟨_, hR124, lR1⟩, ⟨_, hR224, lR2⟩, s1624⟩ (fun i σ H' _ ⟨_, _, h, _⟩ => SqL.of h) ?_ ?_
    · rintro i y σ H25 hy ⟨w14, rfl, hfd25, ⟨x1, h1, l1⟩, ⟨x2, h2, l2⟩, s25⟩
      have hi2 : i < 2 := (List.getElem?_eq_some_iff.mp hy).1
      have hcase : y = .ref R1 ∨ y = .ref R2 := by
        have := List.mem_of_getElem? hy
        simpa using this
      rcases hcase with rfl | rfl
      · refine ⟨_, rfl, .inl ⟨rfl, _, SqL.of h1⟩, (by decide : (0 : Nat) ≤ sizeLine), fun b hb => ?_⟩
        have nb1 : R1 ≠ b := ne_of_none h1 hb
        have nb2 : R2 ≠ b := ne_of_none h2 hb
        have nbf : fd ≠ b := ne_of_none hfd25 hb
        refine ⟨R1, x1, _, rfl, rfl, by rw [upd_ne nb1]; exact h1, lt_line (by omega), ?_⟩
        exact ⟨_, rfl, by rw [upd_ne nfd1, upd_ne nbf]; exact hfd25, ⟨_, upd_same, by rw [List.length_append, List.length_singleton]; omega⟩, ⟨x2, by rw [upd_ne nR1R2.symm, upd_ne nb2]; exact h2, by omega⟩, same_mut (same_new s25 hb) fR1⟩
      · refine ⟨_, rfl, .inl ⟨rfl, _, SqL.of h2⟩, (by decide : (0 : Nat) ≤ sizeLine), fun b hb => ?_⟩
        have nb1 : R1 ≠ b := ne_of_none h1 hb
        have nb2 : R2 ≠ b := ne_of_none h2 hb
        have nbf : fd ≠ b := ne_of_none hfd25 hb
        refine ⟨R2, x2, _, rfl, rfl, by rw [upd_ne nb2]; exact h2, lt_line (by omega), ?_⟩
        exact ⟨_, rfl, by rw [upd_ne nfd2, upd_ne nbf]; exact hfd25, ⟨x1, by rw [upd_ne nR1R2, upd_ne nb1]; exact h1, by omega⟩, ⟨_, upd_same, by rw [List.length_append, List.length_singleton]; omega⟩, same_mut (same_new s25 hb) fR2⟩
    · rintro σ H25 ⟨w14, rfl, _, _, _, s25⟩
      exact ⟨_, _, _, _, _, _, _, _, _, c0, ov, cm, nev, cs, os, Cm, O, rfl, hW16.same s25, hCl, hOl, hnl⟩
end
end K5

namespace K5
open PySem PySem.Spec PyProof.Rows L2 Sky
/-- the facts of the top, put together -/
def mkTx {K : PySem.W.Frag} {h : Heap} {mg : Str → Option Value} (X : K.In h) (G : h.Ns mainGlobals mg)
    {A_Ground f_is_number f_is_stream f_holds_numbers f_is_mark f_is_frame f_check_stream f_check_size f_check_marks f_rows_of f_check_frames f_told_in f_beginnings f_laid_at f_Ground_init f_Ground_hear f_Ground_never f_Ground_rows f_Ground_has f_Ground_wants f_law_mix f_law_next f_law_alike f_law_data f_law_fresh f_law_lay f_law_fill f_law_many f_law_frame f_law_rows f_law : Addr} {od_is_number an_is_number od_is_stream an_is_stream od_holds_numbers an_holds_numbers od_is_mark an_is_mark od_is_frame an_is_frame od_check_stream an_check_stream od_check_size an_check_size od_check_marks an_check_marks od_rows_of an_rows_of od_check_frames an_check_frames od_told_in an_told_in od_beginnings an_beginnings od_laid_at an_laid_at od_Ground_init an_Ground_init od_Ground_hear an_Ground_hear od_Ground_never an_Ground_never od_Ground_rows an_Ground_rows od_Ground_has an_Ground_has od_Ground_wants an_Ground_wants od_law_mix an_law_mix od_law_next an_law_next od_law_alike an_law_alike od_law_data an_law_data od_law_fresh an_law_fresh od_law_lay an_law_lay od_law_fill an_law_fill od_law_many an_law_many od_law_frame an_law_frame od_law_rows an_law_rows od_law an_law : Option Addr} {sl_is_number sl_is_stream sl_holds_numbers sl_is_mark sl_is_frame sl_check_stream sl_check_size sl_check_marks sl_rows_of sl_check_frames sl_told_in sl_beginnings sl_laid_at sl_Ground_init sl_Ground_hear sl_Ground_never sl_Ground_rows sl_Ground_has sl_Ground_wants sl_law_mix sl_law_next sl_law_alike sl_law_data sl_law_fresh sl_law_lay sl_law_fill sl_law_many sl_law_frame sl_law_rows sl_law : Array (Option Value)}
    {oc_is_number kV_is_number dc_is_number pm_is_number cd_is_number ct_is_number oc_is_stream kV_is_stream dc_is_stream pm_is_stream cd_is_stream ct_is_stream oc_holds_numbers kV_holds_numbers dc_holds_numbers pm_holds_numbers cd_holds_numbers ct_holds_numbers oc_is_mark kV_is_mark dc_is_mark pm_is_mark cd_is_mark ct_is_mark oc_is_frame kV_is_frame dc_is_frame pm_is_frame cd_is_frame ct_is_frame oc_check_stream kV_check_stream dc_check_stream pm_check_stream cd_check_stream ct_check_stream oc_check_size kV_check_size dc_check_size pm_check_size cd_check_size ct_check_size oc_check_marks kV_check_marks dc_check_marks pm_check_marks cd_check_marks ct_check_marks oc_rows_of kV_rows_of dc_rows_of pm_rows_of cd_rows_of ct_rows_of oc_check_frames kV_check_frames dc_check_frames pm_check_frames cd_check_frames ct_check_frames oc_told_in kV_told_in dc_told_in pm_told_in cd_told_in ct_told_in oc_beginnings kV_beginnings dc_beginnings pm_beginnings cd_beginnings ct_beginnings oc_laid_at kV_laid_at dc_laid_at pm_laid_at cd_laid_at ct_laid_at oc_Ground_init kV_Ground_init dc_Ground_init pm_Ground_init cd_Ground_init ct_Ground_init oc_Ground_hear kV_Ground_hear dc_Ground_hear pm_Ground_hear cd_Ground_hear ct_Ground_hear oc_Ground_never kV_Ground_never dc_Ground_never pm_Ground_never cd_Ground_never ct_Ground_never oc_Ground_rows kV_Ground_rows dc_Ground_rows pm_Ground_rows cd_Ground_rows ct_Ground_rows oc_Ground_has kV_Ground_has dc_Ground_has pm_Ground_has cd_Ground_has ct_Ground_has oc_Ground_wants kV_Ground_wants dc_Ground_wants pm_Ground_wants cd_Ground_wants ct_Ground_wants oc_law_mix kV_law_mix dc_law_mix pm_law_mix cd_law_mix ct_law_mix oc_law_next kV_law_next dc_law_next pm_law_next cd_law_next ct_law_next oc_law_alike kV_law_alike dc_law_alike pm_law_alike cd_law_alike ct_law_alike oc_law_data kV_law_data dc_law_data pm_law_data cd_law_data ct_law_data oc_law_fresh kV_law_fresh dc_law_fresh pm_law_fresh cd_law_fresh ct_law_fresh oc_law_lay kV_law_lay dc_law_lay pm_law_lay cd_law_lay ct_law_lay oc_law_fill kV_law_fill dc_law_fill pm_law_fill cd_law_fill ct_law_fill oc_law_many kV_law_many dc_law_many pm_law_many cd_law_many ct_law_many oc_law_frame kV_law_frame dc_law_frame pm_law_frame cd_law_frame ct_law_frame oc_law_rows kV_law_rows dc_law_rows pm_law_rows cd_law_rows ct_law_rows oc_law kV_law dc_law pm_law cd_law ct_law : Value} {t_STREAMS t_LEAST_SIZE t_MOST_SIZE t_MOST_COUNT t_HEAD t_HUNDRED : Tok}
    (hA_Ground : PySem.W.nsIn K mainGlobals "Ground" = some (some (.ref A_Ground)))
    (h_is_number : PySem.W.nsIn K mainGlobals "is_number" = some (some (.ref f_is_number)))
    (l_is_number : K.lookup f_is_number = some ⟨oc_is_number, od_is_number, .func (PySem.W.fnOf "is_number" "is_number" (defArgs s_is_number) (defBody s_is_number) (defScope s_is_number) .none kV_is_number dc_is_number pm_is_number an_is_number cd_is_number ct_is_number), sl_is_number⟩)
    (c_is_number : PySem.W.codeIn K cd_is_number "is_number" = true)
    (k_is_number : PySem.W.keepIn K (.ref f_is_number) = true)
    (h_is_stream : PySem.W.nsIn K mainGlobals "is_stream" = some (some (.ref f_is_stream)))
    (l_is_stream : K.lookup f_is_stream = some ⟨oc_is_stream, od_is_stream, .func (PySem.W.fnOf "is_stream" "is_stream" (defArgs s_is_stream) (defBody s_is_stream) (defScope s_is_stream) .none kV_is_stream dc_is_stream pm_is_stream an_is_stream cd_is_stream ct_is_stream), sl_is_stream⟩)
    (c_is_stream : PySem.W.codeIn K cd_is_stream "is_stream" = true)
    (k_is_stream : PySem.W.keepIn K (.ref f_is_stream) = true)
    (h_holds_numbers : PySem.W.nsIn K mainGlobals "holds_numbers" = some (some (.ref f_holds_numbers)))
    (l_holds_numbers : K.lookup f_holds_numbers = some ⟨oc_holds_numbers, od_holds_numbers, .func (PySem.W.fnOf "holds_numbers" "holds_numbers" (defArgs s_holds_numbers) (defBody s_holds_numbers) (defScope s_holds_numbers) .none kV_holds_numbers dc_holds_numbers pm_holds_numbers an_holds_numbers cd_holds_numbers ct_holds_numbers), sl_holds_numbers⟩)
    (c_holds_numbers : PySem.W.codeIn K cd_holds_numbers "holds_numbers" = true)
    (k_holds_numbers : PySem.W.keepIn K (.ref f_holds_numbers) = true)
    (h_is_mark : PySem.W.nsIn K mainGlobals "is_mark" = some (some (.ref f_is_mark)))
    (l_is_mark : K.lookup f_is_mark = some ⟨oc_is_mark, od_is_mark, .func (PySem.W.fnOf "is_mark" "is_mark" (defArgs s_is_mark) (defBody s_is_mark) (defScope s_is_mark) .none kV_is_mark dc_is_mark pm_is_mark an_is_mark cd_is_mark ct_is_mark), sl_is_mark⟩)
    (c_is_mark : PySem.W.codeIn K cd_is_mark "is_mark" = true)
    (k_is_mark : PySem.W.keepIn K (.ref f_is_mark) = true)
    (h_is_frame : PySem.W.nsIn K mainGlobals "is_frame" = some (some (.ref f_is_frame)))
    (l_is_frame : K.lookup f_is_frame = some ⟨oc_is_frame, od_is_frame, .func (PySem.W.fnOf "is_frame" "is_frame" (defArgs s_is_frame) (defBody s_is_frame) (defScope s_is_frame) .none kV_is_frame dc_is_frame pm_is_frame an_is_frame cd_is_frame ct_is_frame), sl_is_frame⟩)
    (c_is_frame : PySem.W.codeIn K cd_is_frame "is_frame" = true)
    (k_is_frame : PySem.W.keepIn K (.ref f_is_frame) = true)
    (h_check_stream : PySem.W.nsIn K mainGlobals "check_stream" = some (some (.ref f_check_stream)))
    (l_check_stream : K.lookup f_check_stream = some ⟨oc_check_stream, od_check_stream, .func (PySem.W.fnOf "check_stream" "check_stream" (defArgs s_check_stream) (defBody s_check_stream) (defScope s_check_stream) .none kV_check_stream dc_check_stream pm_check_stream an_check_stream cd_check_stream ct_check_stream), sl_check_stream⟩)
    (c_check_stream : PySem.W.codeIn K cd_check_stream "check_stream" = true)
    (k_check_stream : PySem.W.keepIn K (.ref f_check_stream) = true)
    (h_check_size : PySem.W.nsIn K mainGlobals "check_size" = some (some (.ref f_check_size)))
    (l_check_size : K.lookup f_check_size = some ⟨oc_check_size, od_check_size, .func (PySem.W.fnOf "check_size" "check_size" (defArgs s_check_size) (defBody s_check_size) (defScope s_check_size) .none kV_check_size dc_check_size pm_check_size an_check_size cd_check_size ct_check_size), sl_check_size⟩)
    (c_check_size : PySem.W.codeIn K cd_check_size "check_size" = true)
    (k_check_size : PySem.W.keepIn K (.ref f_check_size) = true)
    (h_check_marks : PySem.W.nsIn K mainGlobals "check_marks" = some (some (.ref f_check_marks)))
    (l_check_marks : K.lookup f_check_marks = some ⟨oc_check_marks, od_check_marks, .func (PySem.W.fnOf "check_marks" "check_marks" (defArgs s_check_marks) (defBody s_check_marks) (defScope s_check_marks) .none kV_check_marks dc_check_marks pm_check_marks an_check_marks cd_check_marks ct_check_marks), sl_check_marks⟩)
    (c_check_marks : PySem.W.codeIn K cd_check_marks "check_marks" = true)
    (k_check_marks : PySem.W.keepIn K (.ref f_check_marks) = true)
    (h_rows_of : PySem.W.nsIn K mainGlobals "rows_of" = some (some (.ref f_rows_of)))
    (l_rows_of : K.lookup f_rows_of = some ⟨oc_rows_of, od_rows_of, .func (PySem.W.fnOf "rows_of" "rows_of" (defArgs s_rows_of) (defBody s_rows_of) (defScope s_rows_of) .none kV_rows_of dc_rows_of pm_rows_of an_rows_of cd_rows_of ct_rows_of), sl_rows_of⟩)
    (c_rows_of : PySem.W.codeIn K cd_rows_of "rows_of" = true)
    (k_rows_of : PySem.W.keepIn K (.ref f_rows_of) = true)
    (h_check_frames : PySem.W.nsIn K mainGlobals "_check_frames" = some (some (.ref f_check_frames)))
    (l_check_frames : K.lookup f_check_frames = some ⟨oc_check_frames, od_check_frames, .func (PySem.W.fnOf "_check_frames" "_check_frames" (defArgs s_check_frames) (defBody s_check_frames) (defScope s_check_frames) .none kV_check_frames dc_check_frames pm_check_frames an_check_frames cd_check_frames ct_check_frames), sl_check_frames⟩)
    (c_check_frames : PySem.W.codeIn K cd_check_frames "_check_frames" = true)
    (k_check_frames : PySem.W.keepIn K (.ref f_check_frames) = true)
    (h_told_in : PySem.W.nsIn K mainGlobals "_told_in" = some (some (.ref f_told_in)))
    (l_told_in : K.lookup f_told_in = some ⟨oc_told_in, od_told_in, .func (PySem.W.fnOf "_told_in" "_told_in" (defArgs s_told_in) (defBody s_told_in) (defScope s_told_in) .none kV_told_in dc_told_in pm_told_in an_told_in cd_told_in ct_told_in), sl_told_in⟩)
    (c_told_in : PySem.W.codeIn K cd_told_in "_told_in" = true)
    (k_told_in : PySem.W.keepIn K (.ref f_told_in) = true)
    (h_beginnings : PySem.W.nsIn K mainGlobals "_beginnings" = some (some (.ref f_beginnings)))
    (l_beginnings : K.lookup f_beginnings = some ⟨oc_beginnings, od_beginnings, .func (PySem.W.fnOf "_beginnings" "_beginnings" (defArgs s_beginnings) (defBody s_beginnings) (defScope s_beginnings) .none kV_beginnings dc_beginnings pm_beginnings an_beginnings cd_beginnings ct_beginnings), sl_beginnings⟩)
    (c_beginnings : PySem.W.codeIn K cd_beginnings "_beginnings" = true)
    (k_beginnings : PySem.W.keepIn K (.ref f_beginnings) = true)
    (h_laid_at : PySem.W.nsIn K mainGlobals "_laid_at" = some (some (.ref f_laid_at)))
    (l_laid_at : K.lookup f_laid_at = some ⟨oc_laid_at, od_laid_at, .func (PySem.W.fnOf "_laid_at" "_laid_at" (defArgs s_laid_at) (defBody s_laid_at) (defScope s_laid_at) .none kV_laid_at dc_laid_at pm_laid_at an_laid_at cd_laid_at ct_laid_at), sl_laid_at⟩)
    (c_laid_at : PySem.W.codeIn K cd_laid_at "_laid_at" = true)
    (k_laid_at : PySem.W.keepIn K (.ref f_laid_at) = true)
    (h_Ground_init : PySem.W.findIn K (.ref A_Ground) "__init__" = some (some (.ref f_Ground_init)))
    (i_Ground_init : PySem.W.isFn K (.ref f_Ground_init) = true)
    (l_Ground_init : K.lookup f_Ground_init = some ⟨oc_Ground_init, od_Ground_init, .func (PySem.W.fnOf "__init__" "Ground.__init__" (defArgs s_Ground_init) (defBody s_Ground_init) (defScope s_Ground_init) .none kV_Ground_init dc_Ground_init pm_Ground_init an_Ground_init cd_Ground_init ct_Ground_init), sl_Ground_init⟩)
    (c_Ground_init : PySem.W.codeIn K cd_Ground_init "Ground.__init__" = true)
    (k_Ground_init : PySem.W.keepIn K (.ref f_Ground_init) = true)
    (h_Ground_hear : PySem.W.findIn K (.ref A_Ground) "hear" = some (some (.ref f_Ground_hear)))
    (i_Ground_hear : PySem.W.isFn K (.ref f_Ground_hear) = true)
    (l_Ground_hear : K.lookup f_Ground_hear = some ⟨oc_Ground_hear, od_Ground_hear, .func (PySem.W.fnOf "hear" "Ground.hear" (defArgs s_Ground_hear) (defBody s_Ground_hear) (defScope s_Ground_hear) .none kV_Ground_hear dc_Ground_hear pm_Ground_hear an_Ground_hear cd_Ground_hear ct_Ground_hear), sl_Ground_hear⟩)
    (c_Ground_hear : PySem.W.codeIn K cd_Ground_hear "Ground.hear" = true)
    (k_Ground_hear : PySem.W.keepIn K (.ref f_Ground_hear) = true)
    (h_Ground_never : PySem.W.findIn K (.ref A_Ground) "never" = some (some (.ref f_Ground_never)))
    (i_Ground_never : PySem.W.isFn K (.ref f_Ground_never) = true)
    (l_Ground_never : K.lookup f_Ground_never = some ⟨oc_Ground_never, od_Ground_never, .func (PySem.W.fnOf "never" "Ground.never" (defArgs s_Ground_never) (defBody s_Ground_never) (defScope s_Ground_never) .none kV_Ground_never dc_Ground_never pm_Ground_never an_Ground_never cd_Ground_never ct_Ground_never), sl_Ground_never⟩)
    (c_Ground_never : PySem.W.codeIn K cd_Ground_never "Ground.never" = true)
    (k_Ground_never : PySem.W.keepIn K (.ref f_Ground_never) = true)
    (h_Ground_rows : PySem.W.findIn K (.ref A_Ground) "rows" = some (some (.ref f_Ground_rows)))
    (i_Ground_rows : PySem.W.isFn K (.ref f_Ground_rows) = true)
    (l_Ground_rows : K.lookup f_Ground_rows = some ⟨oc_Ground_rows, od_Ground_rows, .func (PySem.W.fnOf "rows" "Ground.rows" (defArgs s_Ground_rows) (defBody s_Ground_rows) (defScope s_Ground_rows) .none kV_Ground_rows dc_Ground_rows pm_Ground_rows an_Ground_rows cd_Ground_rows ct_Ground_rows), sl_Ground_rows⟩)
    (c_Ground_rows : PySem.W.codeIn K cd_Ground_rows "Ground.rows" = true)
    (k_Ground_rows : PySem.W.keepIn K (.ref f_Ground_rows) = true)
    (h_Ground_has : PySem.W.findIn K (.ref A_Ground) "has" = some (some (.ref f_Ground_has)))
    (i_Ground_has : PySem.W.isFn K (.ref f_Ground_has) = true)
    (l_Ground_has : K.lookup f_Ground_has = some ⟨oc_Ground_has, od_Ground_has, .func (PySem.W.fnOf "has" "Ground.has" (defArgs s_Ground_has) (defBody s_Ground_has) (defScope s_Ground_has) .none kV_Ground_has dc_Ground_has pm_Ground_has an_Ground_has cd_Ground_has ct_Ground_has), sl_Ground_has⟩)
    (c_Ground_has : PySem.W.codeIn K cd_Ground_has "Ground.has" = true)
    (k_Ground_has : PySem.W.keepIn K (.ref f_Ground_has) = true)
    (h_Ground_wants : PySem.W.findIn K (.ref A_Ground) "wants" = some (some (.ref f_Ground_wants)))
    (i_Ground_wants : PySem.W.isFn K (.ref f_Ground_wants) = true)
    (l_Ground_wants : K.lookup f_Ground_wants = some ⟨oc_Ground_wants, od_Ground_wants, .func (PySem.W.fnOf "wants" "Ground.wants" (defArgs s_Ground_wants) (defBody s_Ground_wants) (defScope s_Ground_wants) .none kV_Ground_wants dc_Ground_wants pm_Ground_wants an_Ground_wants cd_Ground_wants ct_Ground_wants), sl_Ground_wants⟩)
    (c_Ground_wants : PySem.W.codeIn K cd_Ground_wants "Ground.wants" = true)
    (k_Ground_wants : PySem.W.keepIn K (.ref f_Ground_wants) = true)
    (h_law_mix : PySem.W.nsIn K mainGlobals "_law_mix" = some (some (.ref f_law_mix)))
    (l_law_mix : K.lookup f_law_mix = some ⟨oc_law_mix, od_law_mix, .func (PySem.W.fnOf "_law_mix" "_law_mix" (defArgs s_law_mix) (defBody s_law_mix) (defScope s_law_mix) .none kV_law_mix dc_law_mix pm_law_mix an_law_mix cd_law_mix ct_law_mix), sl_law_mix⟩)
    (c_law_mix : PySem.W.codeIn K cd_law_mix "_law_mix" = true)
    (k_law_mix : PySem.W.keepIn K (.ref f_law_mix) = true)
    (h_law_next : PySem.W.nsIn K mainGlobals "_law_next" = some (some (.ref f_law_next)))
    (l_law_next : K.lookup f_law_next = some ⟨oc_law_next, od_law_next, .func (PySem.W.fnOf "_law_next" "_law_next" (defArgs s_law_next) (defBody s_law_next) (defScope s_law_next) .none kV_law_next dc_law_next pm_law_next an_law_next cd_law_next ct_law_next), sl_law_next⟩)
    (c_law_next : PySem.W.codeIn K cd_law_next "_law_next" = true)
    (k_law_next : PySem.W.keepIn K (.ref f_law_next) = true)
    (h_law_alike : PySem.W.nsIn K mainGlobals "_law_alike" = some (some (.ref f_law_alike)))
    (l_law_alike : K.lookup f_law_alike = some ⟨oc_law_alike, od_law_alike, .func (PySem.W.fnOf "_law_alike" "_law_alike" (defArgs s_law_alike) (defBody s_law_alike) (defScope s_law_alike) .none kV_law_alike dc_law_alike pm_law_alike an_law_alike cd_law_alike ct_law_alike), sl_law_alike⟩)
    (c_law_alike : PySem.W.codeIn K cd_law_alike "_law_alike" = true)
    (k_law_alike : PySem.W.keepIn K (.ref f_law_alike) = true)
    (h_law_data : PySem.W.nsIn K mainGlobals "_law_data" = some (some (.ref f_law_data)))
    (l_law_data : K.lookup f_law_data = some ⟨oc_law_data, od_law_data, .func (PySem.W.fnOf "_law_data" "_law_data" (defArgs s_law_data) (defBody s_law_data) (defScope s_law_data) .none kV_law_data dc_law_data pm_law_data an_law_data cd_law_data ct_law_data), sl_law_data⟩)
    (c_law_data : PySem.W.codeIn K cd_law_data "_law_data" = true)
    (k_law_data : PySem.W.keepIn K (.ref f_law_data) = true)
    (h_law_fresh : PySem.W.nsIn K mainGlobals "_law_fresh" = some (some (.ref f_law_fresh)))
    (l_law_fresh : K.lookup f_law_fresh = some ⟨oc_law_fresh, od_law_fresh, .func (PySem.W.fnOf "_law_fresh" "_law_fresh" (defArgs s_law_fresh) (defBody s_law_fresh) (defScope s_law_fresh) .none kV_law_fresh dc_law_fresh pm_law_fresh an_law_fresh cd_law_fresh ct_law_fresh), sl_law_fresh⟩)
    (c_law_fresh : PySem.W.codeIn K cd_law_fresh "_law_fresh" = true)
    (k_law_fresh : PySem.W.keepIn K (.ref f_law_fresh) = true)
    (h_law_lay : PySem.W.nsIn K mainGlobals "_law_lay" = some (some (.ref f_law_lay)))
    (l_law_lay : K.lookup f_law_lay = some ⟨oc_law_lay, od_law_lay, .func (PySem.W.fnOf "_law_lay" "_law_lay" (defArgs s_law_lay) (defBody s_law_lay) (defScope s_law_lay) .none kV_law_lay dc_law_lay pm_law_lay an_law_lay cd_law_lay ct_law_lay), sl_law_lay⟩)
    (c_law_lay : PySem.W.codeIn K cd_law_lay "_law_lay" = true)
    (k_law_lay : PySem.W.keepIn K (.ref f_law_lay) = true)
    (h_law_fill : PySem.W.nsIn K mainGlobals "_law_fill" = some (some (.ref f_law_fill)))
    (l_law_fill : K.lookup f_law_fill = some ⟨oc_law_fill, od_law_fill, .func (PySem.W.fnOf "_law_fill" "_law_fill" (defArgs s_law_fill) (defBody s_law_fill) (defScope s_law_fill) .none kV_law_fill dc_law_fill pm_law_fill an_law_fill cd_law_fill ct_law_fill), sl_law_fill⟩)
    (c_law_fill : PySem.W.codeIn K cd_law_fill "_law_fill" = true)
    (k_law_fill : PySem.W.keepIn K (.ref f_law_fill) = true)
    (h_law_many : PySem.W.nsIn K mainGlobals "_law_many" = some (some (.ref f_law_many)))
    (l_law_many : K.lookup f_law_many = some ⟨oc_law_many, od_law_many, .func (PySem.W.fnOf "_law_many" "_law_many" (defArgs s_law_many) (defBody s_law_many) (defScope s_law_many) .none kV_law_many dc_law_many pm_law_many an_law_many cd_law_many ct_law_many), sl_law_many⟩)
    (c_law_many : PySem.W.codeIn K cd_law_many "_law_many" = true)
    (k_law_many : PySem.W.keepIn K (.ref f_law_many) = true)
    (h_law_frame : PySem.W.nsIn K mainGlobals "_law_frame" = some (some (.ref f_law_frame)))
    (l_law_frame : K.lookup f_law_frame = some ⟨oc_law_frame, od_law_frame, .func (PySem.W.fnOf "_law_frame" "_law_frame" (defArgs s_law_frame) (defBody s_law_frame) (defScope s_law_frame) .none kV_law_frame dc_law_frame pm_law_frame an_law_frame cd_law_frame ct_law_frame), sl_law_frame⟩)
    (c_law_frame : PySem.W.codeIn K cd_law_frame "_law_frame" = true)
    (k_law_frame : PySem.W.keepIn K (.ref f_law_frame) = true)
    (h_law_rows : PySem.W.nsIn K mainGlobals "_law_rows" = some (some (.ref f_law_rows)))
    (l_law_rows : K.lookup f_law_rows = some ⟨oc_law_rows, od_law_rows, .func (PySem.W.fnOf "_law_rows" "_law_rows" (defArgs s_law_rows) (defBody s_law_rows) (defScope s_law_rows) .none kV_law_rows dc_law_rows pm_law_rows an_law_rows cd_law_rows ct_law_rows), sl_law_rows⟩)
    (c_law_rows : PySem.W.codeIn K cd_law_rows "_law_rows" = true)
    (k_law_rows : PySem.W.keepIn K (.ref f_law_rows) = true)
    (h_law : PySem.W.nsIn K mainGlobals "law" = some (some (.ref f_law)))
    (l_law : K.lookup f_law = some ⟨oc_law, od_law, .func (PySem.W.fnOf "law" "law" (defArgs s_law) (defBody s_law) (defScope s_law) .none kV_law dc_law pm_law an_law cd_law ct_law), sl_law⟩)
    (c_law : PySem.W.codeIn K cd_law "law" = true)
    (k_law : PySem.W.keepIn K (.ref f_law) = true)
    (pg_Ground : PySem.W.plainGet K A_Ground Str.empty = true)
    (hd_Ground : PySem.W.hasDictIn K A_Ground = true)
    (po_Ground : PySem.W.plainOver K A_Ground = true)
    (sa_Ground : PySem.W.findIn K (.ref A_Ground) "__setattr__" = some (some (.builtin "object.__setattr__")))
    (mk_Ground : PySem.W.makesIn K A_Ground = true)
    (kc_Ground : PySem.W.keepIn K (.ref A_Ground) = true)
    (n_Ground_came : PySem.W.findIn K (.ref A_Ground) "_came" = some none)
    (n_Ground_never : PySem.W.findIn K (.ref A_Ground) "_never" = some none)
    (n_Ground_size : PySem.W.findIn K (.ref A_Ground) "_size" = some none)
    (z_all : PySem.W.nsIn K mainGlobals "all" = some none)
    (z_bool : PySem.W.nsIn K mainGlobals "bool" = some none)
    (z_enumerate : PySem.W.nsIn K mainGlobals "enumerate" = some none)
    (z_int : PySem.W.nsIn K mainGlobals "int" = some none)
    (z_isinstance : PySem.W.nsIn K mainGlobals "isinstance" = some none)
    (z_len : PySem.W.nsIn K mainGlobals "len" = some none)
    (z_list : PySem.W.nsIn K mainGlobals "list" = some none)
    (z_max : PySem.W.nsIn K mainGlobals "max" = some none)
    (z_min : PySem.W.nsIn K mainGlobals "min" = some none)
    (z_range : PySem.W.nsIn K mainGlobals "range" = some none)
    (z_sorted : PySem.W.nsIn K mainGlobals "sorted" = some none)
    (z_str : PySem.W.nsIn K mainGlobals "str" = some none)
    (z_tuple : PySem.W.nsIn K mainGlobals "tuple" = some none)
    (c_STREAMS : PySem.W.nsIn K mainGlobals "STREAMS" = some (some (.int 4 t_STREAMS)))
    (c_LEAST_SIZE : PySem.W.nsIn K mainGlobals "LEAST_SIZE" = some (some (.int 8 t_LEAST_SIZE)))
    (c_MOST_SIZE : PySem.W.nsIn K mainGlobals "MOST_SIZE" = some (some (.int 24 t_MOST_SIZE)))
    (c_MOST_COUNT : PySem.W.nsIn K mainGlobals "MOST_COUNT" = some (some (.int 9999 t_MOST_COUNT)))
    (c_HEAD : PySem.W.nsIn K mainGlobals "HEAD" = some (some (.int 3 t_HEAD)))
    (c_HUNDRED : PySem.W.nsIn K mainGlobals "HUNDRED" = some (some (.int 256 t_HUNDRED)))
    : Tx K mg where
  A_Ground := A_Ground
  a_is_number := f_is_number
  d_is_number := PySem.W.fnOf "is_number" "is_number" (defArgs s_is_number) (defBody s_is_number) (defScope s_is_number) .none kV_is_number dc_is_number pm_is_number an_is_number cd_is_number ct_is_number
  F_is_number := fun_mk (st := s_is_number) l_is_number c_is_number k_is_number
  b_is_number := (fun_mk (st := s_is_number) l_is_number c_is_number k_is_number).binds (ps := ["value", "low", "high"]) fun _ _ _ _ _ _ us hl => match us, hl with | [_, _, _], _ => rfl
  m_is_number := PySem.W.mg_of X G h_is_number
  a_is_stream := f_is_stream
  d_is_stream := PySem.W.fnOf "is_stream" "is_stream" (defArgs s_is_stream) (defBody s_is_stream) (defScope s_is_stream) .none kV_is_stream dc_is_stream pm_is_stream an_is_stream cd_is_stream ct_is_stream
  F_is_stream := fun_mk (st := s_is_stream) l_is_stream c_is_stream k_is_stream
  b_is_stream := (fun_mk (st := s_is_stream) l_is_stream c_is_stream k_is_stream).binds (ps := ["value"]) fun _ _ _ _ _ _ us hl => match us, hl with | [_], _ => rfl
  m_is_stream := PySem.W.mg_of X G h_is_stream
  a_holds_numbers := f_holds_numbers
  d_holds_numbers := PySem.W.fnOf "holds_numbers" "holds_numbers" (defArgs s_holds_numbers) (defBody s_holds_numbers) (defScope s_holds_numbers) .none kV_holds_numbers dc_holds_numbers pm_holds_numbers an_holds_numbers cd_holds_numbers ct_holds_numbers
  F_holds_numbers := fun_mk (st := s_holds_numbers) l_holds_numbers c_holds_numbers k_holds_numbers
  b_holds_numbers := (fun_mk (st := s_holds_numbers) l_holds_numbers c_holds_numbers k_holds_numbers).binds (ps := ["value"]) fun _ _ _ _ _ _ us hl => match us, hl with | [_], _ => rfl
  m_holds_numbers := PySem.W.mg_of X G h_holds_numbers
  a_is_mark := f_is_mark
  d_is_mark := PySem.W.fnOf "is_mark" "is_mark" (defArgs s_is_mark) (defBody s_is_mark) (defScope s_is_mark) .none kV_is_mark dc_is_mark pm_is_mark an_is_mark cd_is_mark ct_is_mark
  F_is_mark := fun_mk (st := s_is_mark) l_is_mark c_is_mark k_is_mark
  b_is_mark := (fun_mk (st := s_is_mark) l_is_mark c_is_mark k_is_mark).binds (ps := ["value"]) fun _ _ _ _ _ _ us hl => match us, hl with | [_], _ => rfl
  m_is_mark := PySem.W.mg_of X G h_is_mark
  a_is_frame := f_is_frame
  d_is_frame := PySem.W.fnOf "is_frame" "is_frame" (defArgs s_is_frame) (defBody s_is_frame) (defScope s_is_frame) .none kV_is_frame dc_is_frame pm_is_frame an_is_frame cd_is_frame ct_is_frame
  F_is_frame := fun_mk (st := s_is_frame) l_is_frame c_is_frame k_is_frame
  b_is_frame := (fun_mk (st := s_is_frame) l_is_frame c_is_frame k_is_frame).binds (ps := ["value", "size"]) fun _ _ _ _ _ _ us hl => match us, hl with | [_, _], _ => rfl
  m_is_frame := PySem.W.mg_of X G h_is_frame
  a_check_stream := f_check_stream
  d_check_stream := PySem.W.fnOf "check_stream" "check_stream" (defArgs s_check_stream) (defBody s_check_stream) (defScope s_check_stream) .none kV_check_stream dc_check_stream pm_check_stream an_check_stream cd_check_stream ct_check_stream
  F_check_stream := fun_mk (st := s_check_stream) l_check_stream c_check_stream k_check_stream
  b_check_stream := (fun_mk (st := s_check_stream) l_check_stream c_check_stream k_check_stream).binds (ps := ["stream"]) fun _ _ _ _ _ _ us hl => match us, hl with | [_], _ => rfl
  m_check_stream := PySem.W.mg_of X G h_check_stream
  a_check_size := f_check_size
  d_check_size := PySem.W.fnOf "check_size" "check_size" (defArgs s_check_size) (defBody s_check_size) (defScope s_check_size) .none kV_check_size dc_check_size pm_check_size an_check_size cd_check_size ct_check_size
  F_check_size := fun_mk (st := s_check_size) l_check_size c_check_size k_check_size
  b_check_size := (fun_mk (st := s_check_size) l_check_size c_check_size k_check_size).binds (ps := ["size"]) fun _ _ _ _ _ _ us hl => match us, hl with | [_], _ => rfl
  m_check_size := PySem.W.mg_of X G h_check_size
  a_check_marks := f_check_marks
  d_check_marks := PySem.W.fnOf "check_marks" "check_marks" (defArgs s_check_marks) (defBody s_check_marks) (defScope s_check_marks) .none kV_check_marks dc_check_marks pm_check_marks an_check_marks cd_check_marks ct_check_marks
  F_check_marks := fun_mk (st := s_check_marks) l_check_marks c_check_marks k_check_marks
  b_check_marks := (fun_mk (st := s_check_marks) l_check_marks c_check_marks k_check_marks).binds (ps := ["marks"]) fun _ _ _ _ _ _ us hl => match us, hl with | [_], _ => rfl
  m_check_marks := PySem.W.mg_of X G h_check_marks
  a_rows_of := f_rows_of
  d_rows_of := PySem.W.fnOf "rows_of" "rows_of" (defArgs s_rows_of) (defBody s_rows_of) (defScope s_rows_of) .none kV_rows_of dc_rows_of pm_rows_of an_rows_of cd_rows_of ct_rows_of
  F_rows_of := fun_mk (st := s_rows_of) l_rows_of c_rows_of k_rows_of
  b_rows_of := (fun_mk (st := s_rows_of) l_rows_of c_rows_of k_rows_of).binds (ps := ["frames", "size"]) fun _ _ _ _ _ _ us hl => match us, hl with | [_, _], _ => rfl
  m_rows_of := PySem.W.mg_of X G h_rows_of
  a_check_frames := f_check_frames
  d_check_frames := PySem.W.fnOf "_check_frames" "_check_frames" (defArgs s_check_frames) (defBody s_check_frames) (defScope s_check_frames) .none kV_check_frames dc_check_frames pm_check_frames an_check_frames cd_check_frames ct_check_frames
  F_check_frames := fun_mk (st := s_check_frames) l_check_frames c_check_frames k_check_frames
  b_check_frames := (fun_mk (st := s_check_frames) l_check_frames c_check_frames k_check_frames).binds (ps := ["frames", "size"]) fun _ _ _ _ _ _ us hl => match us, hl with | [_, _], _ => rfl
  m_check_frames := PySem.W.mg_of X G h_check_frames
  a_told_in := f_told_in
  d_told_in := PySem.W.fnOf "_told_in" "_told_in" (defArgs s_told_in) (defBody s_told_in) (defScope s_told_in) .none kV_told_in dc_told_in pm_told_in an_told_in cd_told_in ct_told_in
  F_told_in := fun_mk (st := s_told_in) l_told_in c_told_in k_told_in
  b_told_in := (fun_mk (st := s_told_in) l_told_in c_told_in k_told_in).binds (ps := ["frames", "size"]) fun _ _ _ _ _ _ us hl => match us, hl with | [_, _], _ => rfl
  m_told_in := PySem.W.mg_of X G h_told_in
  a_beginnings := f_beginnings
  d_beginnings := PySem.W.fnOf "_beginnings" "_beginnings" (defArgs s_beginnings) (defBody s_beginnings) (defScope s_beginnings) .none kV_beginnings dc_beginnings pm_beginnings an_beginnings cd_beginnings ct_beginnings
  F_beginnings := fun_mk (st := s_beginnings) l_beginnings c_beginnings k_beginnings
  b_beginnings := (fun_mk (st := s_beginnings) l_beginnings c_beginnings k_beginnings).binds (ps := ["frame", "size"]) fun _ _ _ _ _ _ us hl => match us, hl with | [_, _], _ => rfl
  m_beginnings := PySem.W.mg_of X G h_beginnings
  a_laid_at := f_laid_at
  d_laid_at := PySem.W.fnOf "_laid_at" "_laid_at" (defArgs s_laid_at) (defBody s_laid_at) (defScope s_laid_at) .none kV_laid_at dc_laid_at pm_laid_at an_laid_at cd_laid_at ct_laid_at
  F_laid_at := fun_mk (st := s_laid_at) l_laid_at c_laid_at k_laid_at
  b_laid_at := (fun_mk (st := s_laid_at) l_laid_at c_laid_at k_laid_at).binds (ps := ["bodies", "place", "size"]) fun _ _ _ _ _ _ us hl => match us, hl with | [_, _, _], _ => rfl
  m_laid_at := PySem.W.mg_of X G h_laid_at
  a_Ground_init := f_Ground_init
  d_Ground_init := PySem.W.fnOf "__init__" "Ground.__init__" (defArgs s_Ground_init) (defBody s_Ground_init) (defScope s_Ground_init) .none kV_Ground_init dc_Ground_init pm_Ground_init an_Ground_init cd_Ground_init ct_Ground_init
  F_Ground_init := fun_mk (st := s_Ground_init) l_Ground_init c_Ground_init k_Ground_init
  b_Ground_init := (fun_mk (st := s_Ground_init) l_Ground_init c_Ground_init k_Ground_init).binds (ps := ["self", "size"]) fun _ _ _ _ _ _ us hl => match us, hl with | [_, _], _ => rfl
  a_Ground_hear := f_Ground_hear
  d_Ground_hear := PySem.W.fnOf "hear" "Ground.hear" (defArgs s_Ground_hear) (defBody s_Ground_hear) (defScope s_Ground_hear) .none kV_Ground_hear dc_Ground_hear pm_Ground_hear an_Ground_hear cd_Ground_hear ct_Ground_hear
  F_Ground_hear := fun_mk (st := s_Ground_hear) l_Ground_hear c_Ground_hear k_Ground_hear
  b_Ground_hear := (fun_mk (st := s_Ground_hear) l_Ground_hear c_Ground_hear k_Ground_hear).binds (ps := ["self", "frame"]) fun _ _ _ _ _ _ us hl => match us, hl with | [_, _], _ => rfl
  M_Ground_hear := ⟨h_Ground_hear, i_Ground_hear, k_Ground_hear⟩
  a_Ground_never := f_Ground_never
  d_Ground_never := PySem.W.fnOf "never" "Ground.never" (defArgs s_Ground_never) (defBody s_Ground_never) (defScope s_Ground_never) .none kV_Ground_never dc_Ground_never pm_Ground_never an_Ground_never cd_Ground_never ct_Ground_never
  F_Ground_never := fun_mk (st := s_Ground_never) l_Ground_never c_Ground_never k_Ground_never
  b_Ground_never := (fun_mk (st := s_Ground_never) l_Ground_never c_Ground_never k_Ground_never).binds (ps := ["self", "marks"]) fun _ _ _ _ _ _ us hl => match us, hl with | [_, _], _ => rfl
  M_Ground_never := ⟨h_Ground_never, i_Ground_never, k_Ground_never⟩
  a_Ground_rows := f_Ground_rows
  d_Ground_rows := PySem.W.fnOf "rows" "Ground.rows" (defArgs s_Ground_rows) (defBody s_Ground_rows) (defScope s_Ground_rows) .none kV_Ground_rows dc_Ground_rows pm_Ground_rows an_Ground_rows cd_Ground_rows ct_Ground_rows
  F_Ground_rows := fun_mk (st := s_Ground_rows) l_Ground_rows c_Ground_rows k_Ground_rows
  b_Ground_rows := (fun_mk (st := s_Ground_rows) l_Ground_rows c_Ground_rows k_Ground_rows).binds (ps := ["self", "stream"]) fun _ _ _ _ _ _ us hl => match us, hl with | [_, _], _ => rfl
  M_Ground_rows := ⟨h_Ground_rows, i_Ground_rows, k_Ground_rows⟩
  a_Ground_has := f_Ground_has
  d_Ground_has := PySem.W.fnOf "has" "Ground.has" (defArgs s_Ground_has) (defBody s_Ground_has) (defScope s_Ground_has) .none kV_Ground_has dc_Ground_has pm_Ground_has an_Ground_has cd_Ground_has ct_Ground_has
  F_Ground_has := fun_mk (st := s_Ground_has) l_Ground_has c_Ground_has k_Ground_has
  b_Ground_has := (fun_mk (st := s_Ground_has) l_Ground_has c_Ground_has k_Ground_has).binds (ps := ["self"]) fun _ _ _ _ _ _ us hl => match us, hl with | [_], _ => rfl
  M_Ground_has := ⟨h_Ground_has, i_Ground_has, k_Ground_has⟩
  a_Ground_wants := f_Ground_wants
  d_Ground_wants := PySem.W.fnOf "wants" "Ground.wants" (defArgs s_Ground_wants) (defBody s_Ground_wants) (defScope s_Ground_wants) .none kV_Ground_wants dc_Ground_wants pm_Ground_wants an_Ground_wants cd_Ground_wants ct_Ground_wants
  F_Ground_wants := fun_mk (st := s_Ground_wants) l_Ground_wants c_Ground_wants k_Ground_wants
  b_Ground_wants := (fun_mk (st := s_Ground_wants) l_Ground_wants c_Ground_wants k_Ground_wants).binds (ps := ["self"]) fun _ _ _ _ _ _ us hl => match us, hl with | [_], _ => rfl
  M_Ground_wants := ⟨h_Ground_wants, i_Ground_wants, k_Ground_wants⟩
  a_law_mix := f_law_mix
  d_law_mix := PySem.W.fnOf "_law_mix" "_law_mix" (defArgs s_law_mix) (defBody s_law_mix) (defScope s_law_mix) .none kV_law_mix dc_law_mix pm_law_mix an_law_mix cd_law_mix ct_law_mix
  F_law_mix := fun_mk (st := s_law_mix) l_law_mix c_law_mix k_law_mix
  b_law_mix := (fun_mk (st := s_law_mix) l_law_mix c_law_mix k_law_mix).binds (ps := ["_law_script", "_law_seed"]) fun _ _ _ _ _ _ us hl => match us, hl with | [_, _], _ => rfl
  m_law_mix := PySem.W.mg_of X G h_law_mix
  a_law_next := f_law_next
  d_law_next := PySem.W.fnOf "_law_next" "_law_next" (defArgs s_law_next) (defBody s_law_next) (defScope s_law_next) .none kV_law_next dc_law_next pm_law_next an_law_next cd_law_next ct_law_next
  F_law_next := fun_mk (st := s_law_next) l_law_next c_law_next k_law_next
  b_law_next := (fun_mk (st := s_law_next) l_law_next c_law_next k_law_next).binds (ps := ["_law_h", "_law_many_here"]) fun _ _ _ _ _ _ us hl => match us, hl with | [_, _], _ => rfl
  m_law_next := PySem.W.mg_of X G h_law_next
  a_law_alike := f_law_alike
  d_law_alike := PySem.W.fnOf "_law_alike" "_law_alike" (defArgs s_law_alike) (defBody s_law_alike) (defScope s_law_alike) .none kV_law_alike dc_law_alike pm_law_alike an_law_alike cd_law_alike ct_law_alike
  F_law_alike := fun_mk (st := s_law_alike) l_law_alike c_law_alike k_law_alike
  b_law_alike := (fun_mk (st := s_law_alike) l_law_alike c_law_alike k_law_alike).binds (ps := ["_law_found", "_law_due"]) fun _ _ _ _ _ _ us hl => match us, hl with | [_, _], _ => rfl
  m_law_alike := PySem.W.mg_of X G h_law_alike
  a_law_data := f_law_data
  d_law_data := PySem.W.fnOf "_law_data" "_law_data" (defArgs s_law_data) (defBody s_law_data) (defScope s_law_data) .none kV_law_data dc_law_data pm_law_data an_law_data cd_law_data ct_law_data
  F_law_data := fun_mk (st := s_law_data) l_law_data c_law_data k_law_data
  b_law_data := (fun_mk (st := s_law_data) l_law_data c_law_data k_law_data).binds (ps := ["_law_h"]) fun _ _ _ _ _ _ us hl => match us, hl with | [_], _ => rfl
  m_law_data := PySem.W.mg_of X G h_law_data
  a_law_fresh := f_law_fresh
  d_law_fresh := PySem.W.fnOf "_law_fresh" "_law_fresh" (defArgs s_law_fresh) (defBody s_law_fresh) (defScope s_law_fresh) .none kV_law_fresh dc_law_fresh pm_law_fresh an_law_fresh cd_law_fresh ct_law_fresh
  F_law_fresh := fun_mk (st := s_law_fresh) l_law_fresh c_law_fresh k_law_fresh
  b_law_fresh := (fun_mk (st := s_law_fresh) l_law_fresh c_law_fresh k_law_fresh).binds (ps := ["_law_size"]) fun _ _ _ _ _ _ us hl => match us, hl with | [_], _ => rfl
  m_law_fresh := PySem.W.mg_of X G h_law_fresh
  a_law_lay := f_law_lay
  d_law_lay := PySem.W.fnOf "_law_lay" "_law_lay" (defArgs s_law_lay) (defBody s_law_lay) (defScope s_law_lay) .none kV_law_lay dc_law_lay pm_law_lay an_law_lay cd_law_lay ct_law_lay
  F_law_lay := fun_mk (st := s_law_lay) l_law_lay c_law_lay k_law_lay
  b_law_lay := (fun_mk (st := s_law_lay) l_law_lay c_law_lay k_law_lay).binds (ps := ["_law_s", "_law_data_here"]) fun _ _ _ _ _ _ us hl => match us, hl with | [_, _], _ => rfl
  m_law_lay := PySem.W.mg_of X G h_law_lay
  a_law_fill := f_law_fill
  d_law_fill := PySem.W.fnOf "_law_fill" "_law_fill" (defArgs s_law_fill) (defBody s_law_fill) (defScope s_law_fill) .none kV_law_fill dc_law_fill pm_law_fill an_law_fill cd_law_fill ct_law_fill
  F_law_fill := fun_mk (st := s_law_fill) l_law_fill c_law_fill k_law_fill
  b_law_fill := (fun_mk (st := s_law_fill) l_law_fill c_law_fill k_law_fill).binds (ps := ["_law_s"]) fun _ _ _ _ _ _ us hl => match us, hl with | [_], _ => rfl
  m_law_fill := PySem.W.mg_of X G h_law_fill
  a_law_many := f_law_many
  d_law_many := PySem.W.fnOf "_law_many" "_law_many" (defArgs s_law_many) (defBody s_law_many) (defScope s_law_many) .none kV_law_many dc_law_many pm_law_many an_law_many cd_law_many ct_law_many
  F_law_many := fun_mk (st := s_law_many) l_law_many c_law_many k_law_many
  b_law_many := (fun_mk (st := s_law_many) l_law_many c_law_many k_law_many).binds (ps := ["_law_s"]) fun _ _ _ _ _ _ us hl => match us, hl with | [_], _ => rfl
  m_law_many := PySem.W.mg_of X G h_law_many
  a_law_frame := f_law_frame
  d_law_frame := PySem.W.fnOf "_law_frame" "_law_frame" (defArgs s_law_frame) (defBody s_law_frame) (defScope s_law_frame) .none kV_law_frame dc_law_frame pm_law_frame an_law_frame cd_law_frame ct_law_frame
  F_law_frame := fun_mk (st := s_law_frame) l_law_frame c_law_frame k_law_frame
  b_law_frame := (fun_mk (st := s_law_frame) l_law_frame c_law_frame k_law_frame).binds (ps := ["_law_s", "_law_stream", "_law_count"]) fun _ _ _ _ _ _ us hl => match us, hl with | [_, _, _], _ => rfl
  m_law_frame := PySem.W.mg_of X G h_law_frame
  a_law_rows := f_law_rows
  d_law_rows := PySem.W.fnOf "_law_rows" "_law_rows" (defArgs s_law_rows) (defBody s_law_rows) (defScope s_law_rows) .none kV_law_rows dc_law_rows pm_law_rows an_law_rows cd_law_rows ct_law_rows
  F_law_rows := fun_mk (st := s_law_rows) l_law_rows c_law_rows k_law_rows
  b_law_rows := (fun_mk (st := s_law_rows) l_law_rows c_law_rows k_law_rows).binds (ps := ["_law_s", "_law_counts"]) fun _ _ _ _ _ _ us hl => match us, hl with | [_, _], _ => rfl
  m_law_rows := PySem.W.mg_of X G h_law_rows
  a_law := f_law
  d_law := PySem.W.fnOf "law" "law" (defArgs s_law) (defBody s_law) (defScope s_law) .none kV_law dc_law pm_law an_law cd_law ct_law
  F_law := fun_mk (st := s_law) l_law c_law k_law
  b_law := (fun_mk (st := s_law) l_law c_law k_law).binds (ps := ["_law_script"]) fun _ _ _ _ _ _ us hl => match us, hl with | [_], _ => rfl
  m_law := PySem.W.mg_of X G h_law
  cl_Ground := ⟨pg_Ground, hd_Ground, po_Ground, sa_Ground⟩
  m_Ground := PySem.W.mg_of X G hA_Ground
  mk_Ground := ⟨mk_Ground, h_Ground_init, i_Ground_init, kc_Ground⟩
  n_Ground_came := n_Ground_came
  n_Ground_never := n_Ground_never
  n_Ground_size := n_Ground_size
  z_all := PySem.W.mg_none_of X G z_all
  z_bool := PySem.W.mg_none_of X G z_bool
  z_enumerate := PySem.W.mg_none_of X G z_enumerate
  z_int := PySem.W.mg_none_of X G z_int
  z_isinstance := PySem.W.mg_none_of X G z_isinstance
  z_len := PySem.W.mg_none_of X G z_len
  z_list := PySem.W.mg_none_of X G z_list
  z_max := PySem.W.mg_none_of X G z_max
  z_min := PySem.W.mg_none_of X G z_min
  z_range := PySem.W.mg_none_of X G z_range
  z_sorted := PySem.W.mg_none_of X G z_sorted
  z_str := PySem.W.mg_none_of X G z_str
  z_tuple := PySem.W.mg_none_of X G z_tuple
  t_STREAMS := t_STREAMS
  c_STREAMS := PySem.W.mg_of X G c_STREAMS
  t_LEAST_SIZE := t_LEAST_SIZE
  c_LEAST_SIZE := PySem.W.mg_of X G c_LEAST_SIZE
  t_MOST_SIZE := t_MOST_SIZE
  c_MOST_SIZE := PySem.W.mg_of X G c_MOST_SIZE
  t_MOST_COUNT := t_MOST_COUNT
  c_MOST_COUNT := PySem.W.mg_of X G c_MOST_COUNT
  t_HEAD := t_HEAD
  c_HEAD := PySem.W.mg_of X G c_HEAD
  t_HUNDRED := t_HUNDRED
  c_HUNDRED := PySem.W.mg_of X G c_HUNDRED
theorem all_mk {l : PySem.W.OpenLaw} {w : World} {K : PySem.W.Frag} {h : Heap} {mg : Str → Option Value} {fa : Addr} (X : K.In h) (G : h.Ns mainGlobals mg) (hfa : mg "law" = some (.ref fa)) (T : Tx K mg) :
    ∃ fd : FuncData, (∀ (s : Shared) (v : Value), BindsTo s fd ⟨[v], []⟩ [("_law_script", v)]) ∧ ∀ base : Heap, K.In base → base.Ns mainGlobals mg → FnOk l.prog w K mg base CX0 8 fa fd ["_law_script"] (sp_law K) := by
  have e := hfa.symm.trans T.m_law
  cases e
  obtain ⟨oc, od, kV, doc, pm, an, cdv, ct, osl, efd, lk, hcd⟩ := T.F_law.ex
  exact ⟨T.d_law, fun s v => by rw [efd]; exact .of_eq rfl, fun base _ _ => ok_law T⟩
end K5
open PySem PySem.W PyProof.Rows in
set_option maxRecDepth 100000 in
set_option maxHeartbeats 0 in
theorem PySem.Challenge.cw_skyframes_k05_the_ground_step_by_step_holds : PySem.Challenge.rw_skyframes_k05_the_ground_step_by_step.Holds := by
  w_on; o_law; k_head; (case hw => w_witness2)
  k_fill
  refine L2.walk_of (l := PySem.Challenge.rw_skyframes_k05_the_ground_step_by_step) (n := 63) (k := 8) (x := "_law_script") (CX := fun _ => L2.CX0) (sp := fun w => K5.sp_law _) rfl (by decide) rfl ⟨rfl, by decide, by decide⟩ (fun w h Y => PySem.W.kIn_of Y) ?F (fun _ _ a ns hl _ hS => ⟨a, ns, rfl, hS, hl, fun _ => rfl⟩) (fun _ _ _ _ _ h => h)
  case F =>
    intro w mg fa h KX G hmg
    refine' K5.all_mk KX G hmg (K5.mkTx KX G ?hA_Ground ?h_is_number ?l_is_number ?c_is_number ?k_is_number ?h_is_stream ?l_is_stream ?c_is_stream ?k_is_stream ?h_holds_numbers ?l_holds_numbers ?c_holds_numbers ?k_holds_numbers ?h_is_mark ?l_is_mark ?c_is_mark ?k_is_mark ?h_is_frame ?l_is_frame ?c_is_frame ?k_is_frame ?h_check_stream ?l_check_stream ?c_check_stream ?k_check_stream ?h_check_size ?l_check_size ?c_check_size ?k_check_size ?h_check_marks ?l_check_marks ?c_check_marks ?k_check_marks ?h_rows_of ?l_rows_of ?c_rows_of ?k_rows_of ?h_check_frames ?l_check_frames ?c_check_frames ?k_check_frames ?h_told_in ?l_told_in ?c_told_in ?k_told_in ?h_beginnings ?l_beginnings ?c_beginnings ?k_beginnings ?h_laid_at ?l_laid_at ?c_laid_at ?k_laid_at ?h_Ground_init ?i_Ground_init ?l_Ground_init ?c_Ground_init ?k_Ground_init ?h_Ground_hear ?i_Ground_hear ?l_Ground_hear ?c_Ground_hear ?k_Ground_hear ?h_Ground_never ?i_Ground_never ?l_Ground_never ?c_Ground_never ?k_Ground_never ?h_Ground_rows ?i_Ground_rows ?l_Ground_rows ?c_Ground_rows ?k_Ground_rows ?h_Ground_has ?i_Ground_has ?l_Ground_has ?c_Ground_has ?k_Ground_has ?h_Ground_wants ?i_Ground_wants ?l_Ground_wants ?c_Ground_wants ?k_Ground_wants ?h_law_mix ?l_law_mix ?c_law_mix ?k_law_mix ?h_law_next ?l_law_next ?c_law_next ?k_law_next ?h_law_alike ?l_law_alike ?c_law_alike ?k_law_alike ?h_law_data ?l_law_data ?c_law_data ?k_law_data ?h_law_fresh ?l_law_fresh ?c_law_fresh ?k_law_fresh ?h_law_lay ?l_law_lay ?c_law_lay ?k_law_lay ?h_law_fill ?l_law_fill ?c_law_fill ?k_law_fill ?h_law_many ?l_law_many ?c_law_many ?k_law_many ?h_law_frame ?l_law_frame ?c_law_frame ?k_law_frame ?h_law_rows ?l_law_rows ?c_law_rows ?k_law_rows ?h_law ?l_law ?c_law ?k_law ?pg_Ground ?hd_Ground ?po_Ground ?sa_Ground ?mk_Ground ?kc_Ground ?n_Ground_came ?n_Ground_never ?n_Ground_size ?z_all ?z_bool ?z_enumerate ?z_int ?z_isinstance ?z_len ?z_list ?z_max ?z_min ?z_range ?z_sorted ?z_str ?z_tuple ?c_STREAMS ?c_LEAST_SIZE ?c_MOST_SIZE ?c_MOST_COUNT ?c_HEAD ?c_HUNDRED)
    (case hA_Ground => k_is)
    (case h_is_number => k_is)
    (case l_is_number => k_is)
    (case c_is_number => k_is)
    (case k_is_number => k_is)
    (case h_is_stream => k_is)
    (case l_is_stream => k_is)
    (case c_is_stream => k_is)
    (case k_is_stream => k_is)
    (case h_holds_numbers => k_is)
    (case l_holds_numbers => k_is)
    (case c_holds_numbers => k_is)
    (case k_holds_numbers => k_is)
    (case h_is_mark => k_is)
    (case l_is_mark => k_is)
    (case c_is_mark => k_is)
    (case k_is_mark => k_is)
    (case h_is_frame => k_is)
    (case l_is_frame => k_is)
    (case c_is_frame => k_is)
    (case k_is_frame => k_is)
    (case h_check_stream => k_is)
    (case l_check_stream => k_is)
    (case c_check_stream => k_is)
    (case k_check_stream => k_is)
    (case h_check_size => k_is)
    (case l_check_size => k_is)
    (case c_check_size => k_is)
    (case k_check_size => k_is)
    (case h_check_marks => k_is)
    (case l_check_marks => k_is)
    (case c_check_marks => k_is)
    (case k_check_marks => k_is)
    (case h_rows_of => k_is)
    (case l_rows_of => k_is)
    (case c_rows_of => k_is)
    (case k_rows_of => k_is)
    (case h_check_frames => k_is)
    (case l_check_frames => k_is)
    (case c_check_frames => k_is)
    (case k_check_frames => k_is)
    (case h_told_in => k_is)
    (case l_told_in => k_is)
    (case c_told_in => k_is)
    (case k_told_in => k_is)
    (case h_beginnings => k_is)
    (case l_beginnings => k_is)
    (case c_beginnings => k_is)
    (case k_beginnings => k_is)
    (case h_laid_at => k_is)
    (case l_laid_at => k_is)
    (case c_laid_at => k_is)
    (case k_laid_at => k_is)
    (case h_Ground_init => k_is)
    (case i_Ground_init => k_is)
    (case l_Ground_init => k_is)
    (case c_Ground_init => k_is)
    (case k_Ground_init => k_is)
    (case h_Ground_hear => k_is)
    (case i_Ground_hear => k_is)
    (case l_Ground_hear => k_is)
    (case c_Ground_hear => k_is)
    (case k_Ground_hear => k_is)
    (case h_Ground_never => k_is)
    (case i_Ground_never => k_is)
    (case l_Ground_never => k_is)
    (case c_Ground_never => k_is)
    (case k_Ground_never => k_is)
    (case h_Ground_rows => k_is)
    (case i_Ground_rows => k_is)
    (case l_Ground_rows => k_is)
    (case c_Ground_rows => k_is)
    (case k_Ground_rows => k_is)
    (case h_Ground_has => k_is)
    (case i_Ground_has => k_is)
    (case l_Ground_has => k_is)
    (case c_Ground_has => k_is)
    (case k_Ground_has => k_is)
    (case h_Ground_wants => k_is)
    (case i_Ground_wants => k_is)
    (case l_Ground_wants => k_is)
    (case c_Ground_wants => k_is)
    (case k_Ground_wants => k_is)
    (case h_law_mix => k_is)
    (case l_law_mix => k_is)
    (case c_law_mix => k_is)
    (case k_law_mix => k_is)
    (case h_law_next => k_is)
    (case l_law_next => k_is)
    (case c_law_next => k_is)
    (case k_law_next => k_is)
    (case h_law_alike => k_is)
    (case l_law_alike => k_is)
    (case c_law_alike => k_is)
    (case k_law_alike => k_is)
    (case h_law_data => k_is)
    (case l_law_data => k_is)
    (case c_law_data => k_is)
    (case k_law_data => k_is)
    (case h_law_fresh => k_is)
    (case l_law_fresh => k_is)
    (case c_law_fresh => k_is)
    (case k_law_fresh => k_is)
    (case h_law_lay => k_is)
    (case l_law_lay => k_is)
    (case c_law_lay => k_is)
    (case k_law_lay => k_is)
    (case h_law_fill => k_is)
    (case l_law_fill => k_is)
    (case c_law_fill => k_is)
    (case k_law_fill => k_is)
    (case h_law_many => k_is)
    (case l_law_many => k_is)
    (case c_law_many => k_is)
    (case k_law_many => k_is)
    (case h_law_frame => k_is)
    (case l_law_frame => k_is)
    (case c_law_frame => k_is)
    (case k_law_frame => k_is)
    (case h_law_rows => k_is)
    (case l_law_rows => k_is)
    (case c_law_rows => k_is)
    (case k_law_rows => k_is)
    (case h_law => k_is)
    (case l_law => k_is)
    (case c_law => k_is)
    (case k_law => k_is)
    (case pg_Ground => k_is)
    (case hd_Ground => k_is)
    (case po_Ground => k_is)
    (case sa_Ground => k_is)
    (case mk_Ground => k_is)
    (case kc_Ground => k_is)
    (case n_Ground_came => k_is)
    (case n_Ground_never => k_is)
    (case n_Ground_size => k_is)
    (case z_all => k_is)
    (case z_bool => k_is)
    (case z_enumerate => k_is)
    (case z_int => k_is)
    (case z_isinstance => k_is)
    (case z_len => k_is)
    (case z_list => k_is)
    (case z_max => k_is)
    (case z_min => k_is)
    (case z_range => k_is)
    (case z_sorted => k_is)
    (case z_str => k_is)
    (case z_tuple => k_is)
    (case c_STREAMS => k_is)
    (case c_LEAST_SIZE => k_is)
    (case c_MOST_SIZE => k_is)
    (case c_MOST_COUNT => k_is)
    (case c_HEAD => k_is)
    (case c_HUNDRED => k_is)
