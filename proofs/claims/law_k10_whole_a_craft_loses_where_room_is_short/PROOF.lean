import PyProof.Rows.All
import Wide.All
import OpenK.AllK
import Wide.FinOn
import HandS.ForMost
import HandS.IsInst
import HandS.Conv
import HandS.Star
import HandS.Flow
import HandS.Style
import HandS.DictComp
import HandS.SortInts
import HandS.SetKeys
import HandS.Deep
import KE.DataMinMax
import HandS.SortKw
import HandS.SortRule
import KE.GoesEnum
import HandS.TupAny
import HandS.Rev
import KE.KTupSum
import HandS.DictTup
import HandS.TupLen
import HandS.Walk
import PyProof.DictMoreH
import HandS.TupMul
import PySem.Challenge.RW_skyframes_k10_whole_a_craft_loses_where
set_option Elab.async false
set_option linter.all false
set_option maxRecDepth 100000
set_option maxHeartbeats 4000000
/-! Heaps: tuples stay, what is not named stays; data made of tuples; fields by their places. -/
namespace Sky
open PySem PySem.Spec PyProof.Rows L2

/-- all but what stands at M is as it was -/
def Keep (M : List Addr) (H H' : Hp) : Prop := ∀ b o, b ∉ M → H b = some o → H' b = some o
/-- tuples stay -/
def TSm (H H' : Hp) : Prop := ∀ a xs, H a = some (.tup xs) → H' a = some (.tup xs)
theorem Keep.refl (M : List Addr) (H : Hp) : Keep M H H := fun _ _ _ h => h
theorem Keep.trans {M : List Addr} {H H1 H2 : Hp} (a : Keep M H H1) (b : Keep M H1 H2) : Keep M H H2 := fun c o n h => b c o n (a c o n h)
theorem Keep.of_same {M : List Addr} {H H' : Hp} (a : Same H H') : Keep M H H' := fun c o _ h => a c o h
theorem Keep.mono {M N : List Addr} {H H' : Hp} (a : Keep M H H') (h : ∀ m, m ∈ M → m ∈ N) : Keep N H H' := fun c o n q => a c o (fun z => n (h c z)) q
theorem Keep.same {M : List Addr} {S H H' : Hp} (k : Keep M H H') (s : Same S H) (h : ∀ m ∈ M, S m = none) : Same S H' := fun b o e => by
  refine k b o (fun hb => ?_) (s b o e)
  rw [h b hb] at e
  cases e
theorem Keep.nil {H H' : Hp} (k : Keep [] H H') : Same H H' := fun b o e => k b o (by simp) e
theorem keep_upd {M : List Addr} {H H' : Hp} {a : Addr} {o : HO} (k : Keep M H H') (h : a ∈ M) : Keep M H (upd H' a o) := fun b u n e => by
  rw [upd_ne (show b ≠ a from fun z => n (by rw [z]; exact h))]
  exact k b u n e
theorem keep_new {M : List Addr} {H H' : Hp} {a : Addr} {o : HO} (k : Keep M H H') (h : H a = none) : Keep M H (upd H' a o) := fun b u n e => by
  rw [upd_ne (ne_of_none e h)]
  exact k b u n e
/-- a new object, fresh in the heap just ahead of it -/
theorem keep_new' {M : List Addr} {H H' : Hp} {a : Addr} {o : HO} (k : Keep M H H') (h : H' a = none) : Keep M H (upd H' a o) := fun b u n e => by
  rw [upd_ne (ne_of_none (k b u n e) h)]
  exact k b u n e
/-- a changed object that was fresh at the start -/
theorem keep_mut {M : List Addr} {H H' : Hp} {a : Addr} {o : HO} (k : Keep M H H') (h : H a = none) : Keep M H (upd H' a o) := keep_new k h
theorem same_new {H H' : Hp} {a : Addr} {o : HO} (k : Same H H') (h : H' a = none) : Same H (upd H' a o) := fun b u e => by
  rw [upd_ne (ne_of_none (k b u e) h)]
  exact k b u e
theorem same_mut {H H' : Hp} {a : Addr} {o : HO} (k : Same H H') (h : H a = none) : Same H (upd H' a o) := fun b u e => by
  rw [upd_ne (ne_of_none e h)]
  exact k b u e
theorem TSm.refl (H : Hp) : TSm H H := fun _ _ h => h
theorem TSm.trans {H H1 H2 : Hp} (a : TSm H H1) (b : TSm H1 H2) : TSm H H2 := fun c o h => b c o (a c o h)
theorem TSm.of_same {H H' : Hp} (a : Same H H') : TSm H H' := fun c o h => a c _ h
/-- no tuple -/
def NoT (H : Hp) (a : Addr) : Prop := ∀ xs, H a ≠ some (.tup xs)
theorem NoT.none {H : Hp} {a : Addr} (h : H a = none) : NoT H a := fun xs e => by
  rw [h] at e
  cases e
theorem NoT.lst {H : Hp} {a : Addr} {xs : List V} (h : H a = some (.lst xs)) : NoT H a := fun ys e => by
  rw [h] at e
  cases e
theorem NoT.dK {H : Hp} {a : Addr} {xs : List (Key × V)} (h : H a = some (.dK xs)) : NoT H a := fun ys e => by
  rw [h] at e
  cases e
theorem NoT.dT {H : Hp} {a : Addr} {xs : List (List Key × V)} (h : H a = some (.dT xs)) : NoT H a := fun ys e => by
  rw [h] at e
  cases e
theorem NoT.ins {H : Hp} {a C dx : Addr} {fs : List (Str × V)} (h : H a = some (.ins C dx fs)) : NoT H a := fun ys e => by
  rw [h] at e
  cases e
theorem ts_upd {H H' : Hp} {a : Addr} {o : HO} (k : TSm H H') (h : NoT H' a) : TSm H (upd H' a o) := fun b u e => by
  have q := k b u e
  rw [upd_ne (show b ≠ a from fun z => h u (by rw [← z]; exact q))]
  exact q
theorem Keep.ts {M : List Addr} {H H' : Hp} (k : Keep M H H') (h : ∀ m ∈ M, NoT H m) : TSm H H' := fun a xs e => k a _ (fun z => h a z xs e) e
/-- an address that is there is not a new one -/
theorem ne_new {H : Hp} {a b : Addr} {o : HO} (h : H a = some o) (h' : H b = none) : a ≠ b := ne_of_none h h'

/-! ### data made of tuples -/
mutual
inductive TD (H : Hp) : V → PyData → Prop
  | non : TD H .non .none
  | bl (b : Bool) : TD H (.bl b) (.bool b)
  | int (i : Int) : TD H (.int i) (.int i)
  | str (x : Str) : TD H (.str x) (.str x)
  | tup {a : Addr} {xs : List V} {ds : List PyData} : H a = some (.tup xs) → TDs H xs ds → TD H (.ref a) (.tuple ds)
inductive TDs (H : Hp) : List V → List PyData → Prop
  | nil : TDs H [] []
  | cons {v : V} {vs : List V} {d : PyData} {ds : List PyData} : TD H v d → TDs H vs ds → TDs H (v :: vs) (d :: ds)
end
mutual
theorem TD.mono {H H' : Hp} (k : TSm H H') : ∀ {d : PyData} {v : V}, TD H v d → TD H' v d
  | _, _, .non => .non
  | _, _, .bl b => .bl b
  | _, _, .int i => .int i
  | _, _, .str x => .str x
  | _, _, .tup h t => .tup (k _ _ h) (TDs.mono k t)
theorem TDs.mono {H H' : Hp} (k : TSm H H') : ∀ {ds : List PyData} {vs : List V}, TDs H vs ds → TDs H' vs ds
  | _, _, .nil => .nil
  | _, _, .cons h t => .cons (TD.mono k h) (TDs.mono k t)
end
mutual
theorem TD.dp {K : PySem.W.Frag} {H : Hp} : ∀ {d : PyData} {v : V}, TD H v d → Dp K H v d
  | _, _, .non => .non
  | _, _, .bl b => .bl b
  | _, _, .int i => .int i
  | _, _, .str x => .str x
  | _, _, .tup h t => .tup (SqT.of h) (TDs.dp t)
theorem TDs.dp {K : PySem.W.Frag} {H : Hp} : ∀ {ds : List PyData} {vs : List V}, TDs H vs ds → DpAll K H vs ds
  | _, _, .nil => .nil
  | _, _, .cons h t => .cons (TD.dp h) (TDs.dp t)
end
theorem TDs.length {H : Hp} : ∀ {vs : List V} {ds : List PyData}, TDs H vs ds → vs.length = ds.length
  | _, _, .nil => rfl
  | _, _, .cons _ t => by simp [TDs.length t]
theorem TDs.app {H : Hp} : ∀ {vs us : List V} {ds es : List PyData}, TDs H vs ds → TDs H us es → TDs H (vs ++ us) (ds ++ es)
  | _, _, _, _, .nil, s => s
  | _, _, _, _, .cons h t, s => .cons h (TDs.app t s)
theorem TDs.get {H : Hp} : ∀ {vs : List V} {ds : List PyData} {i : Nat} {v : V}, TDs H vs ds → vs[i]? = some v → ∃ d, ds[i]? = some d ∧ TD H v d
  | _, _, _, _, .nil, e => by simp at e
  | _, _, 0, _, .cons h _, e => by simp at e; subst e; exact ⟨_, rfl, h⟩
  | _, _, i + 1, _, .cons _ t, e => by
    obtain ⟨d, h1, h2⟩ := TDs.get (i := i) t (by simpa using e)
    exact ⟨d, by simpa using h1, h2⟩
theorem TDs.getD {H : Hp} : ∀ {vs : List V} {ds : List PyData} {i : Nat} {d : PyData}, TDs H vs ds → ds[i]? = some d → ∃ v, vs[i]? = some v ∧ TD H v d
  | _, _, _, _, .nil, e => by simp at e
  | _, _, 0, _, .cons h _, e => by simp at e; subst e; exact ⟨_, rfl, h⟩
  | _, _, i + 1, _, .cons _ t, e => by
    obtain ⟨d, h1, h2⟩ := TDs.getD (i := i) t (by simpa using e)
    exact ⟨d, by simpa using h1, h2⟩
theorem TDs.ints {H : Hp} : ∀ (ns : List Int), TDs H (ns.map V.int) (ns.map PyData.int)
  | [] => .nil
  | n :: r => .cons (.int n) (TDs.ints r)
theorem TDs.one {H : Hp} {v : V} {d : PyData} (h : TD H v d) : TDs H [v] [d] := .cons h .nil
theorem TDs.of_ints {H : Hp} : ∀ {ns : List Int} {vs : List V}, TDs H vs (ns.map PyData.int) → vs = ns.map V.int
  | [], _, .nil => rfl
  | n :: r, _, .cons h t => by
    cases h
    rw [TDs.of_ints t]
    rfl
/-- an int's | None's data -/
def optD : Option Nat → PyData
  | none => .none
  | some n => .int n
def optV : Option Nat → V
  | none => .non
  | some n => .int n
theorem TD.opt {H : Hp} : ∀ o : Option Nat, TD H (optV o) (optD o)
  | none => .non
  | some n => .int n
/-- a telling's data -/
abbrev tlD (t : List Int) : PyData := .tuple (t.map PyData.int)
theorem TD.tl {H : Hp} {a : Addr} {t : List Int} (h : H a = some (.tup (t.map V.int))) : TD H (.ref a) (tlD t) := .tup h (TDs.ints t)
theorem TD.of_tl {H : Hp} {v : V} {t : List Int} (h : TD H v (tlD t)) : ∃ a, v = .ref a ∧ H a = some (.tup (t.map V.int)) := by
  cases h with
  | tup h t =>
    have e := TDs.of_ints t
    subst e
    exact ⟨_, rfl, h⟩

mutual
theorem dp_same {K : PySem.W.Frag} {H H' : Hp} (k : Same H H') : ∀ {d : PyData} {v : V}, Dp K H v d → Dp K H' v d
  | _, _, .non => .non
  | _, _, .bl b => .bl b
  | _, _, .int i => .int i
  | _, _, .str x => .str x
  | _, _, .lst h t => .lst (k.seq h) (dps_same k t)
  | _, _, .tup h t => .tup (by
      rcases h with (h | ⟨o, h⟩) | h
      · exact .inl (.inl (k _ _ h))
      · exact .inl (.inr ⟨o, k _ _ h⟩)
      · exact .inr h) (dps_same k t)
theorem dps_same {K : PySem.W.Frag} {H H' : Hp} (k : Same H H') : ∀ {ds : List PyData} {vs : List V}, DpAll K H vs ds → DpAll K H' vs ds
  | _, _, .nil => .nil
  | _, _, .cons h t => .cons (dp_same k h) (dps_same k t)
end
theorem DpAll.len {K : PySem.W.Frag} {H : Hp} : ∀ {vs : List V} {ds : List PyData}, DpAll K H vs ds → vs.length = ds.length
  | _, _, .nil => rfl
  | _, _, .cons _ t => by simp [DpAll.len t]
theorem DpAll.at {K : PySem.W.Frag} {H : Hp} : ∀ {vs : List V} {ds : List PyData} {i : Nat} {d : PyData}, DpAll K H vs ds → ds[i]? = some d → ∃ v, vs[i]? = some v ∧ Dp K H v d
  | _, _, _, _, .nil, e => by simp at e
  | _, _, 0, _, .cons h _, e => by simp at e; subst e; exact ⟨_, rfl, h⟩
  | _, _, i + 1, _, .cons _ t, e => by
    obtain ⟨v, h1, h2⟩ := DpAll.at (i := i) t (by simpa using e)
    exact ⟨v, by simpa using h1, h2⟩
/-- a value's type by its data -/
def tyN : PyData → String
  | .none => "NoneType"
  | .bool _ => "bool"
  | .int _ => "int"
  | .str _ => "str"
  | .list _ => "list"
  | .tuple _ => "tuple"
  | .dict _ => "dict"
theorem dp_ty {K : PySem.W.Frag} {H : Hp} {v : V} {d : PyData} (h : Dp K H v d) : TyX K H v (.type (tyN d)) := by
  cases h with
  | non => exact .base .non
  | bl b => exact .base (.bl b)
  | int i => exact .base (.int i)
  | str x => exact .base (.str x)
  | lst h t =>
    rcases h with (h | ⟨o, h⟩) | ⟨o, its, n, hk, hc, _⟩
    · exact .base (.lst h)
    · exact .base (.frz h)
    · exact .kList hk hc
  | tup h t =>
    rcases h with (h | ⟨o, h⟩) | ⟨o, its, n, hk, hc, _⟩
    · exact .base (.tup h)
    · exact .fTuple h
    · exact .kTuple hk hc
/-- data of so many levels, no level too long -/
def DOk : Nat → PyData → Prop
  | 0, d => (d = .none ∨ (∃ i, d = .int i) ∨ (∃ b, d = .bool b) ∨ ∃ x, d = .str x)
  | n + 1, d => (d = .none ∨ (∃ i, d = .int i) ∨ (∃ b, d = .bool b) ∨ ∃ x, d = .str x) ∨ ∃ ds : List PyData, (d = .list ds ∨ d = .tuple ds) ∧ ds.length ≤ 10000000 ∧ ∀ e ∈ ds, DOk n e
theorem DOk.sc {n : Nat} {d : PyData} (h : d = .none ∨ (∃ i, d = .int i) ∨ (∃ b, d = .bool b) ∨ ∃ x, d = .str x) : DOk n d := by
  cases n with
  | zero => exact h
  | succ n => exact .inl h
theorem DOk.int {n : Nat} (i : Int) : DOk n (.int i) := .sc (.inr (.inl ⟨i, rfl⟩))
theorem DOk.none {n : Nat} : DOk n .none := .sc (.inl rfl)
theorem DOk.tuple {n : Nat} {ds : List PyData} (l : ds.length ≤ 10000000) (h : ∀ e ∈ ds, DOk n e) : DOk (n + 1) (.tuple ds) := .inr ⟨ds, .inr rfl, l, h⟩
theorem DOk.list {n : Nat} {ds : List PyData} (l : ds.length ≤ 10000000) (h : ∀ e ∈ ds, DOk n e) : DOk (n + 1) (.list ds) := .inr ⟨ds, .inl rfl, l, h⟩
theorem DOk.opt {n : Nat} (o : Option Nat) : DOk n (optD o) := by
  cases o with
  | none => exact DOk.none
  | some x => exact DOk.int _
theorem DOk.tl {n : Nat} {t : List Int} (l : t.length ≤ 10000000) : DOk (n + 1) (tlD t) := DOk.tuple (by rw [List.length_map]; exact l) fun e he => by
  obtain ⟨x, _, rfl⟩ := List.mem_map.mp he
  exact DOk.int x
theorem kit2F {K : PySem.W.Frag} {a b c : String} (h1 : kitB a b = some false) (h2 : kitB a c = some false) : PySem.W.kitAny K (.type a) [.type b, .type c] = some false :=
  kitAny_cons (kit_ty h1) (fun _ => kitAny_cons (kit_ty h2) (fun _ => kitAny_nil) (fun z => nomatch z)) (fun z => nomatch z)
theorem kit2T {K : PySem.W.Frag} {a b c : String} (h1 : kitB a b = some true) : PySem.W.kitAny K (.type a) [.type b, .type c] = some true :=
  kitAny_cons (kit_ty h1) (fun z => nomatch z) (fun _ => rfl)
theorem kit2T' {K : PySem.W.Frag} {a b c : String} (h1 : kitB a b = some false) (h2 : kitB a c = some true) : PySem.W.kitAny K (.type a) [.type b, .type c] = some true :=
  kitAny_cons (kit_ty h1) (fun _ => kitAny_cons (kit_ty h2) (fun z => nomatch z) (fun _ => rfl)) (fun _ => rfl)

/-! ### fields by their places -/
theorem lookup_zip : ∀ (ks : List Str) (vs : List V) (i : Nat) (f : Str), ks.Nodup → ks.length = vs.length → ks[i]? = some f → (ks.zip vs).lookup f = vs[i]?
  | [], _, _, _, _, _, h => by simp at h
  | k :: ks, [], _, _, _, h, _ => by simp at h
  | k :: ks, v :: vs, 0, f, _, _, h => by
    simp at h
    subst h
    simp [List.lookup]
  | k :: ks, v :: vs, i + 1, f, nd, l, h => by
    have nd' := List.nodup_cons.mp nd
    have hm : f ∈ ks := List.mem_of_getElem? (by simpa using h)
    have ne : (f == k) = false := by
      rw [beq_eq_false_iff_ne]
      intro e
      exact nd'.1 (e ▸ hm)
    show List.lookup f ((k, v) :: ks.zip vs) = _
    rw [List.lookup_cons, ne]
    simpa using lookup_zip ks vs i f nd'.2 (by simpa using l) (by simpa using h)
theorem lookup_zip_none : ∀ (ks : List Str) (vs : List V) (f : Str), f ∉ ks → (ks.zip vs).lookup f = none
  | [], _, _, _ => by simp
  | k :: ks, [], _, _ => by simp
  | k :: ks, v :: vs, f, h => by
    have ne : (f == k) = false := by
      rw [beq_eq_false_iff_ne]
      intro e
      exact h (e ▸ List.mem_cons_self ..)
    show List.lookup f ((k, v) :: ks.zip vs) = _
    rw [List.lookup_cons, ne]
    exact lookup_zip_none ks vs f fun z => h (List.mem_cons_of_mem _ z)
theorem putF_zip : ∀ (ks : List Str) (vs : List V) (i : Nat) (f : Str) (x : V), ks.Nodup → ks.length = vs.length → ks[i]? = some f → putF f x (ks.zip vs) = ks.zip (vs.set i x)
  | [], _, _, _, _, _, _, h => by simp at h
  | k :: ks, [], _, _, _, _, h, _ => by simp at h
  | k :: ks, v :: vs, 0, f, x, _, _, h => by
    simp at h
    subst h
    show (if k = k then (k, x) :: ks.zip vs else _) = _
    rw [if_pos rfl]
    rfl
  | k :: ks, v :: vs, i + 1, f, x, nd, l, h => by
    have nd' := List.nodup_cons.mp nd
    have hm : f ∈ ks := List.mem_of_getElem? (by simpa using h)
    have ne : ¬ k = f := fun e => nd'.1 (e ▸ hm)
    show (if k = f then (k, x) :: ks.zip vs else (k, v) :: putF f x (ks.zip vs)) = _
    rw [if_neg ne, putF_zip ks vs i f x nd'.2 (by simpa using l) (by simpa using h)]
    rfl
theorem putF_zip_new : ∀ (ks : List Str) (vs : List V) (f : Str) (x : V), ks.length = vs.length → f ∉ ks → putF f x (ks.zip vs) = (ks ++ [f]).zip (vs ++ [x])
  | [], [], f, x, _, _ => rfl
  | [], v :: vs, _, _, h, _ => by simp at h
  | k :: ks, [], _, _, h, _ => by simp at h
  | k :: ks, v :: vs, f, x, l, h => by
    have ne : ¬ k = f := fun e => h (e ▸ List.mem_cons_self ..)
    show (if k = f then (k, x) :: ks.zip vs else (k, v) :: putF f x (ks.zip vs)) = _
    rw [if_neg ne, putF_zip_new ks vs f x (by simpa using l) fun z => h (List.mem_cons_of_mem _ z)]
    rfl
theorem putF_take {ks : List Str} {vs : List V} {i : Nat} {f : Str} {x : V} (nd : ks.Nodup) (h : ks[i]? = some f) (l : vs.length = i) : putF f x ((ks.take i).zip vs) = (ks.take (i + 1)).zip (vs ++ [x]) := by
  have hi : i < ks.length := (List.getElem?_eq_some_iff.mp h).1
  rw [List.take_add_one, h]
  refine putF_zip_new (ks.take i) vs f x ?_ ?_
  · rw [List.length_take, l]
    omega
  · intro hm
    obtain ⟨j, hj, e⟩ := List.mem_take_iff_getElem.mp hm
    have h1 : ks[j]? = some f := by
      rw [List.getElem?_eq_getElem (by omega), e]
    have := nodup_ix nd h1 h
    omega
theorem Keep.join {M N : List Addr} {H0 Hb H : Hp} (a : Keep M H0 Hb) (b : Keep N Hb H) (h : ∀ n ∈ N, n ∈ M ∨ H0 n = none) : Keep M H0 H := fun c o n e => by
  refine b c o (fun hc => ?_) (a c o n e)
  rcases h c hc with q | q
  · exact n q
  · rw [q] at e
    cases e
theorem fresh_of {M : List Addr} {H H1 : Hp} {b : Addr} (k : Keep M H H1) (h : ∀ m ∈ M, ∃ o, H1 m = some o) (n : H1 b = none) : H b = none := by
  cases e : H b with
  | none => rfl
  | some o =>
    by_cases e1 : b ∈ M
    · obtain ⟨u, hu⟩ := h b e1
      rw [hu] at n
      cases n
    · rw [k _ _ e1 e] at n
      cases n
/-- what was there is there -/
def Dom (H H' : Hp) : Prop := ∀ b, H' b = none → H b = none
theorem Dom.refl (H : Hp) : Dom H H := fun _ h => h
theorem Dom.trans {H H1 H2 : Hp} (a : Dom H H1) (b : Dom H1 H2) : Dom H H2 := fun c h => a c (b c h)
theorem dom_upd (H : Hp) (a : Addr) (o : HO) : Dom H (upd H a o) := fun b h => by
  by_cases e : b = a
  · rw [e, upd_same] at h
    cases h
  · rw [upd_ne e] at h
    exact h
theorem Dom.upd {H H' : Hp} (k : Dom H H') (a : Addr) (o : HO) : Dom H (L2.upd H' a o) := k.trans (dom_upd _ _ _)
theorem Dom.of_keep {M : List Addr} {H H1 : Hp} (k : Keep M H H1) (h : ∀ m ∈ M, ∃ o, H1 m = some o) : Dom H H1 := fun _ n => fresh_of k h n
theorem Dom.of_same {H H1 : Hp} (k : Same H H1) : Dom H H1 := fun _ n => k.free n
/-- a plain if without an else, its rest once -/
theorem if_skip {c : Prop} [Decidable c] {t : L2.TS} {D : Ends} {σ : L2.St} {H : Hp} (Cd : Hp → Prop) (rest : ∀ H1, Cd H1 → D.nx σ H1) (h1 : c → (∀ H1, Cd H1 → D.nx σ H1) → t D σ H) (h2 : ¬ c → Cd H) :
    if c then t D σ H else tNext D σ H := by
  by_cases hc : c
  · rw [if_pos hc]
    exact h1 hc rest
  · rw [if_neg hc]
    exact rest H (h2 hc)
/-- a if c else b, its rest once -/
theorem ife_skip {c : Prop} [Decidable c] {ta tb : TE} {σ : L2.St} {H : Hp} {Q : VK} (R : V → Hp → Prop) (rest : ∀ v H1, R v H1 → Q v H1) (h1 : c → (∀ v H1, R v H1 → Q v H1) → ta σ H Q) (h2 : ¬ c → (∀ v H1, R v H1 → Q v H1) → tb σ H Q) :
    if c then ta σ H Q else tb σ H Q := by
  by_cases hc : c
  · rw [if_pos hc]
    exact h1 hc rest
  · rw [if_neg hc]
    exact h2 hc rest
theorem zip_len (ks : List Str) (vs : List V) : (ks.zip vs).length ≤ ks.length := by
  rw [List.length_zip]
  exact Nat.min_le_left _ _
theorem canLayAll_of {α : Type} {f : α → PyData} : ∀ {xs : List α}, (∀ x ∈ xs, (f x).canLay0 = true) → PyData.canLayAll0 (xs.map f) = true
  | [], _ => by simp [PyData.canLayAll0]
  | x :: r, h => by
    simp only [List.map_cons, PyData.canLayAll0, Bool.and_eq_true]
    exact ⟨h x (List.mem_cons_self ..), canLayAll_of fun y hy => h y (List.mem_cons_of_mem _ hy)⟩
theorem depthAll_of {α : Type} {f : α → PyData} {k : Nat} : ∀ {xs : List α}, (∀ x ∈ xs, (f x).depth ≤ k) → PyData.depthAll (xs.map f) ≤ k
  | [], _ => by simp [PyData.depthAll]
  | x :: r, h => by
    simp only [List.map_cons, PyData.depthAll]
    exact Nat.max_le.mpr ⟨h x (List.mem_cons_self ..), depthAll_of fun y hy => h y (List.mem_cons_of_mem _ hy)⟩
/-- data that can be compared: how deep -/
def Lay (k : Nat) (d : PyData) : Prop := d.canLay0 = true ∧ d.depth ≤ k
theorem Lay.shaped {k : Nat} {d : PyData} (h : Lay k d) (hk : k ≤ 64) : SeqAt.shaped d = true := by
  unfold SeqAt.shaped
  rw [Bool.and_eq_true]
  exact ⟨h.1, decide_eq_true (Nat.le_trans h.2 hk)⟩
theorem Lay.mono {j k : Nat} {d : PyData} (h : Lay j d) (hk : j ≤ k) : Lay k d := ⟨h.1, Nat.le_trans h.2 hk⟩
theorem Lay.int (i : Int) : Lay 0 (.int i) := ⟨by simp [PyData.canLay0], by simp [PyData.depth]⟩
theorem Lay.none : Lay 0 .none := ⟨by simp [PyData.canLay0], by simp [PyData.depth]⟩
theorem Lay.bool (b : Bool) : Lay 0 (.bool b) := ⟨by simp [PyData.canLay0], by simp [PyData.depth]⟩
theorem Lay.list {α : Type} {f : α → PyData} {k : Nat} {xs : List α} (h : ∀ x ∈ xs, Lay k (f x)) : Lay (k + 1) (.list (xs.map f)) := by
  refine ⟨?_, ?_⟩
  · rw [PyData.canLay0]
    exact canLayAll_of fun x hx => (h x hx).1
  · rw [PyData.depth]
    exact Nat.succ_le_succ (depthAll_of fun x hx => (h x hx).2)
theorem Lay.tuple {α : Type} {f : α → PyData} {k : Nat} {xs : List α} (h : ∀ x ∈ xs, Lay k (f x)) : Lay (k + 1) (.tuple (xs.map f)) := by
  refine ⟨?_, ?_⟩
  · rw [PyData.canLay0]
    exact canLayAll_of fun x hx => (h x hx).1
  · rw [PyData.depth]
    exact Nat.succ_le_succ (depthAll_of fun x hx => (h x hx).2)
theorem Lay.nil : Lay 1 (.list []) := Lay.list (f := PyData.int) (xs := []) (k := 0) (by simp)
theorem Lay.tl (t : List Int) : Lay 1 (tlD t) := Lay.tuple fun x _ => Lay.int x
theorem Lay.refl {k : Nat} {d : PyData} (h : Lay k d) : PyData.eqv d d = true := SeqAt.eqv_refl d h.1
theorem eqv_nil (ds : List PyData) : PyData.eqv (.list ds) (.list []) = ds.isEmpty := by
  cases ds with
  | nil => simp [PyData.eqv, PyData.eqvAll]
  | cons x r => simp [PyData.eqv, PyData.eqvAll]
theorem dpAll_ints {K : PySem.W.Frag} {H : Hp} (ns : List Int) : DpAll K H (ns.map V.int) (ns.map PyData.int) := (TDs.ints ns).dp
theorem fmod_nat (a b : Nat) : ((a : Nat) : Int).fmod ((b : Nat) : Int) = ((a % b : Nat) : Int) := by
  rw [Int.fmod_eq_emod_of_nonneg _ (by omega)]
  rfl
theorem fdiv_nat (a b : Nat) : ((a : Nat) : Int).fdiv ((b : Nat) : Int) = ((a / b : Nat) : Int) := by
  rw [Int.fdiv_eq_ediv_of_nonneg _ (by omega)]
  rfl
theorem cut_nat {xs : List V} {a b : Nat} (ha : a ≤ xs.length) (hb : b ≤ xs.length) : cutV xs (some ((a : Nat) : Int)) (some ((b : Nat) : Int)) = (xs.drop a).take (b - a) := by
  unfold cutV
  rw [HT.sIx_nat, HT.sIx_nat, Nat.min_eq_left ha, Nat.min_eq_left hb]
/-! ### rules within a comprehension: the written part is told -/
section
variable {X : Cx} {K : PySem.W.Frag}
theorem ix_listK (h : X.K = K) : IxR X (rIxL K) := h ▸ ix_list
theorem ix_tupK (h : X.K = K) : IxR X (rIxT K) := h ▸ ix_tup
theorem ix_seqK (h : X.K = K) : IxR X (rIx K) := h ▸ ix_seq
def rLenSq (K : PySem.W.Frag) : List V → Hp → VK → Prop := fun xs H Q => ∃ p ys, xs = [.ref p] ∧ (SqL K H p ys ∨ SqT K H p ys) ∧ Q (.int ys.length) H
theorem call_lenK (h : X.K = K) : CallR X (.builtin "len") (rLenSq K) := h ▸ call_len_seq
theorem op_eqDK (h : X.K = K) (hu : X.A.units + 64 < cLine) : OpR X (compareOp .Eq) (rEqD K) := h ▸ op_eqD hu
theorem op_neDK (h : X.K = K) (hu : X.A.units + 64 < cLine) : OpR X (compareOp .NotEq) (rNeD K) := h ▸ op_neD hu
theorem op_in_seqK (h : X.K = K) : OpR X (compareOp .In) (rIn K false) := h ▸ op_in_seq
theorem op_notIn_seqK (h : X.K = K) : OpR X (compareOp .NotIn) (rIn K true) := h ▸ op_notIn_seq
theorem sl_listK (h : X.K = K) : SlR X (rSlL K) := h ▸ sl_list
theorem sl_tupK (h : X.K = K) : SlR X (rSlT K) := h ▸ sl_tup
theorem call_isiK' (h : X.K = K) : CallR X (.builtin "isinstance") (rIsi K) := h ▸ call_isi
theorem pe_fldK {e : Expr} {f : Str} {pos : Pos} {ta : TE} (h : X.K = K) (he : PE X e ta) (hb : attributeBase e f X.env (eval e X.env) = eval e X.env) : PE X (.Attribute e f pos) (tFld K ta f) := h ▸ pe_fld he hb
theorem pe_bmK {o e : Expr} {es : List Expr} {to : TE} {t : TA} {name : Str} {apos cpos : Pos} {T id : String} {r : V → List V → Hp → VK → Prop} (hK : X.K = K)
    (pa : PlainAttrs T) (sl : Slot T name id) (ty : typeOf (.builtin id) = pure (.type "method_descriptor")) (m : MtR X id r) (po : PE X o to) (args : PA X (e :: es) t)
    (h1 : attributeBase o name X.env (eval o X.env) = eval o X.env := by rfl)
    (h2 : ((backTo cpos (starEach (e :: es) X.env)).all (fun x => !x.1) && (backToKw cpos (keywordEach [] X.env)).all (fun x => x.1.isSome) && decide ((e :: es).length + ([] : List Keyword).length + (if ([] : List Keyword).isEmpty then 0 else 1) < 30)) = true := by rfl)
    (h3 : (apos.endLine == cpos.line) = true := by rfl)
    (h4 : starEach (e :: es) X.env = (false, eval e X.env) :: starEach es X.env := by rfl)
    (h5 : (backTo cpos (starEach es X.env)).any (·.1) = false := by rfl) :
    PE X (.Call (.Attribute o name apos) (e :: es) [] cpos) (tBM K T r to t) := hK ▸ pe_bm pa sl ty m po args h1 h2 h3 h4 h5
theorem pg_tupK {es : List Expr} {k : Nat} {pos : Pos} {t : TGs} {n : Nat} (hK : X.K = K) (hc : X.calm = true) (h : PGs X es t) (hn : (assignEach es X.env).length = n := by rfl) (hst : (assignEach es X.env).findIdx? (·.1) = none := by rfl) :
    PG X (.Tuple es k pos) (gTup K n t) := hK ▸ pg_tup hc h hn hst
end
theorem le_line {n : Nat} (h : n ≤ 16000000) : n ≤ sizeLine := Nat.le_trans h (by decide)
theorem lt_line {n : Nat} (h : n < 16000000) : n < sizeLine := Nat.lt_of_lt_of_le h (by decide)
theorem bl_of {c : Prop} [Decidable c] {Q : V → Hp → Prop} {H : Hp} (hc : c) (h : Q (.bl true) H) : Q (.bl (decide c)) H := by
  rw [decide_eq_true hc]
  exact h
theorem dT {c : Prop} [Decidable c] (h : c) : V.bl (decide c) = V.bl true := by rw [decide_eq_true h]
theorem dF {c : Prop} [Decidable c] (h : ¬ c) : V.bl (decide c) = V.bl false := by rw [decide_eq_false h]
theorem ndT {c : Prop} [Decidable c] (h : ¬ c) : V.bl (!decide c) = V.bl true := by rw [decide_eq_false h]; rfl
theorem ndF {c : Prop} [Decidable c] (h : c) : V.bl (!decide c) = V.bl false := by rw [decide_eq_true h]; rfl
theorem map_get {α β : Type} {f : α → β} {xs : List α} {i : Nat} {y : β} (h : (xs.map f)[i]? = some y) : ∃ x, xs[i]? = some x ∧ y = f x := by
  rw [List.getElem?_map] at h
  cases e : xs[i]? with
  | none => rw [e] at h; cases h
  | some x => rw [e] at h; exact ⟨x, rfl, (Option.some.inj h).symm⟩
end Sky

/-! Tellings laid into frames: the numbers, the frames of them. -/
namespace Sky
open PySem PySem.Spec PyProof.Rows L2
def tellOk (t : List Int) : Prop := 1 ≤ t.length ∧ t.length ≤ 20 ∧ ∀ x ∈ t, 0 ≤ x ∧ x ≤ 255
/-- a frame: count, first, body -/
abbrev Frm := Nat × Option Nat × List Int
def inFr (z c s : Nat) : Bool := decide (c * z ≤ s) && decide (s < c * z + z)
def firstOf (z c : Nat) (S : List Nat) : Option Nat := ((S.filter (inFr z c)).map (· - c * z)).head?
def frm (z : Nat) (N : List Int) (S : List Nat) (c : Nat) : Frm := (c, firstOf z c S, (N.drop (c * z)).take z)
def frms (z : Nat) (N : List Int) (S : List Nat) : List Frm := (List.range (N.length / z)).map (frm z N S)
def frmD (st : Int) (f : Frm) : PyData := .tuple [.int st, .int f.1, optD f.2.1, tlD f.2.2]
def laidN (m : Int) (t : List Int) : List Int := (t.length : Int) :: m.fdiv 256 :: m.fmod 256 :: t
def lay1 (x : List Int × List Nat) (t : List Int) : List Int × List Nat := (x.1 ++ laidN (x.2.length : Int) t, x.2 ++ [x.1.length])
def layAll (ts : List (List Int)) : List Int × List Nat := ts.foldl lay1 ([], [])
def padN (z : Nat) (N : List Int) : List Int := if N.length % z = 0 then N else N ++ List.replicate (z - N.length % z) 0
theorem laidN_length (m : Int) (t : List Int) : (laidN m t).length = t.length + 3 := by simp [laidN]
theorem layAll_snoc (ts : List (List Int)) (t : List Int) : layAll (ts ++ [t]) = lay1 (layAll ts) t := by
  unfold layAll
  rw [List.foldl_append]
  rfl
theorem layAll_take {ts : List (List Int)} {i : Nat} {t : List Int} (h : ts[i]? = some t) : layAll (ts.take (i + 1)) = lay1 (layAll (ts.take i)) t := by
  rw [List.take_add_one, h]
  exact layAll_snoc _ _
/-- what holds of the numbers and the starts of such -/
structure Laid (N : List Int) (S : List Nat) : Prop where
  le : ∀ s ∈ S, s ≤ N.length
  asc : S.Pairwise (· ≤ ·)
theorem Laid.nil : Laid [] [] := ⟨by simp, by simp⟩
theorem Laid.start {N : List Int} {S : List Nat} (h : Laid N S) : Laid N (S ++ [N.length]) := by
  refine ⟨fun s hs => ?_, ?_⟩
  · rcases List.mem_append.mp hs with q | q
    · exact h.le s q
    · rw [List.mem_singleton.mp q]
      exact Nat.le_refl _
  · rw [List.pairwise_append]
    refine ⟨h.asc, by simp, fun a ha b hb => ?_⟩
    rw [List.mem_singleton.mp hb]
    exact h.le a ha
theorem Laid.more {N : List Int} {S : List Nat} (h : Laid N S) (xs : List Int) : Laid (N ++ xs) S := ⟨fun s hs => by
  rw [List.length_append]
  exact Nat.le_trans (h.le s hs) (Nat.le_add_right _ _), h.asc⟩
theorem Laid.lay1 {x : List Int × List Nat} (h : Laid x.1 x.2) (t : List Int) : Laid (lay1 x t).1 (lay1 x t).2 := (h.start).more _
theorem laid_all : ∀ ts : List (List Int), Laid (layAll ts).1 (layAll ts).2 := fun ts => by
  unfold layAll
  suffices h : ∀ (ts : List (List Int)) (x : List Int × List Nat), Laid x.1 x.2 → Laid (ts.foldl Sky.lay1 x).1 (ts.foldl Sky.lay1 x).2 from h ts _ Laid.nil
  intro ts
  induction ts with
  | nil => exact fun x h => h
  | cons t r ih => exact fun x h => ih _ (h.lay1 t)
theorem firstOf_app (z c : Nat) (S : List Nat) (n : Nat) : firstOf z c (S ++ [n]) = (firstOf z c S).or (if inFr z c n = true then some (n - c * z) else none) := by
  unfold firstOf
  rw [List.filter_append, List.map_append, List.head?_append]
  congr 1
  by_cases h : inFr z c n = true
  · rw [if_pos h, List.filter_cons_of_pos h]
    rfl
  · rw [if_neg h, List.filter_cons_of_neg h]
    rfl
theorem firstOf_none {z c : Nat} {S : List Nat} (h : ∀ s ∈ S, s < c * z) : firstOf z c S = none := by
  unfold firstOf
  have e : S.filter (inFr z c) = [] := by
    rw [List.filter_eq_nil_iff]
    intro s hs
    have := h s hs
    unfold inFr
    simp
    omega
  rw [e]
  rfl
theorem div_eq {z n c : Nat} (h1 : c * z ≤ n) (h2 : n < c * z + z) : n / z = c := by
  apply Nat.div_eq_of_lt_le h1
  rw [Nat.succ_mul]
  exact h2
theorem div_lo (z n : Nat) : n / z * z ≤ n := Nat.div_mul_le_self n z
theorem div_hi {z : Nat} (hz : 0 < z) (n : Nat) : n < n / z * z + z := by
  have := Nat.lt_div_mul_add hz (a := n)
  omega
theorem div_mod (z n : Nat) : n / z * z + n % z = n := by
  have := Nat.div_add_mod n z
  rw [Nat.mul_comm] at this
  exact this
/-- the frames that are full depend neither on later numbers nor on later starts -/
theorem frm_more {z c : Nat} {N xs : List Int} {S : List Nat} (h : c * z + z ≤ N.length) : frm z (N ++ xs) S c = frm z N S c := by
  unfold frm
  rw [List.drop_append_of_le_length (by omega), List.take_append_of_le_length (by rw [List.length_drop]; omega)]
theorem frm_start {z c : Nat} {N : List Int} {S : List Nat} {n : Nat} (h : c * z + z ≤ n) : frm z N (S ++ [n]) c = frm z N S c := by
  unfold frm
  rw [firstOf_app, if_neg, Option.or_none]
  unfold inFr
  simp
  omega
theorem frms_start (z : Nat) (N : List Int) (S : List Nat) : frms z N (S ++ [N.length]) = frms z N S := by
  unfold frms
  refine List.map_congr_left fun c hc => ?_
  have h1 : c < N.length / z := List.mem_range.mp hc
  refine frm_start ?_
  have := Nat.mul_le_mul_right z (show c + 1 ≤ N.length / z from h1)
  rw [Nat.succ_mul] at this
  have := div_lo z N.length
  omega
theorem frms_low {z : Nat} {N xs : List Int} {S : List Nat} : (List.range (N.length / z)).map (frm z (N ++ xs) S) = frms z N S := by
  unfold frms
  refine List.map_congr_left fun c hc => frm_more ?_
  have h1 : c < N.length / z := List.mem_range.mp hc
  have := Nat.mul_le_mul_right z (show c + 1 ≤ N.length / z from h1)
  rw [Nat.succ_mul] at this
  have := div_lo z N.length
  omega
theorem frms_same {z : Nat} (hz : 0 < z) {N xs : List Int} {S : List Nat} (h : N.length + xs.length < N.length / z * z + z) : frms z (N ++ xs) S = frms z N S := by
  have e : (N ++ xs).length / z = N.length / z := by
    rw [List.length_append]
    refine div_eq ?_ h
    have := div_lo z N.length
    omega
  unfold frms
  rw [e]
  exact frms_low
/-- some numbers that just fill the frame -/
theorem frms_full {z : Nat} (hz : 0 < z) {N xs : List Int} {S : List Nat} (h : N.length + xs.length = N.length / z * z + z) :
    frms z (N ++ xs) S = frms z N S ++ [(N.length / z, firstOf z (N.length / z) S, N.drop (N.length / z * z) ++ xs)] := by
  have e : (N ++ xs).length / z = N.length / z + 1 := by
    rw [List.length_append, h]
    refine div_eq ?_ ?_ <;> rw [Nat.succ_mul] <;> omega
  have := div_lo z N.length
  show (List.range ((N ++ xs).length / z)).map (frm z (N ++ xs) S) = _
  rw [e, List.range_succ, List.map_append, frms_low]
  congr 1
  show [frm z (N ++ xs) S (N.length / z)] = _
  unfold frm
  rw [List.drop_append_of_le_length this, List.take_of_length_le]
  rw [List.length_append, List.length_drop]
  omega
theorem frms_pad {z : Nat} (hz : 0 < z) {N : List Int} {S : List Nat} (h : N.length % z ≠ 0) :
    frms z (padN z N) S = frms z N S ++ [(N.length / z, firstOf z (N.length / z) S, N.drop (N.length / z * z) ++ List.replicate (z - N.length % z) 0)] := by
  unfold padN
  rw [if_neg h]
  refine frms_full hz ?_
  rw [List.length_replicate]
  have := div_mod z N.length
  have := Nat.mod_lt N.length hz
  omega
theorem frms_pad0 {z : Nat} {N : List Int} {S : List Nat} (h : N.length % z = 0) : frms z (padN z N) S = frms z N S := by
  unfold padN
  rw [if_pos h]
theorem body_length (z : Nat) (N : List Int) : (N.drop (N.length / z * z)).length = N.length % z := by
  rw [List.length_drop]
  have := div_mod z N.length
  omega
theorem step_full {z : Nat} (hz : 0 < z) {N : List Int} {x : Int} (h : N.length % z + 1 = z) :
    N.length + 1 = N.length / z * z + z ∧ (N ++ [x]).length / z = N.length / z + 1 ∧ (N ++ [x]).drop ((N.length / z + 1) * z) = [] := by
  have h1 := div_mod z N.length
  have h2 : N.length + 1 = N.length / z * z + z := by omega
  refine ⟨h2, ?_, ?_⟩
  · rw [List.length_append, List.length_singleton, h2]
    refine div_eq ?_ ?_ <;> rw [Nat.succ_mul] <;> omega
  · apply List.drop_eq_nil_of_le
    rw [List.length_append, List.length_singleton, h2, Nat.succ_mul]
    exact Nat.le_refl _
theorem step_not {z : Nat} (hz : 0 < z) {N : List Int} {x : Int} (h : N.length % z + 1 ≠ z) :
    N.length + 1 < N.length / z * z + z ∧ (N ++ [x]).length / z = N.length / z ∧ (N ++ [x]).drop (N.length / z * z) = N.drop (N.length / z * z) ++ [x] := by
  have h1 := div_mod z N.length
  have h3 := Nat.mod_lt N.length hz
  have h2 : N.length + 1 < N.length / z * z + z := by omega
  refine ⟨h2, ?_, ?_⟩
  · rw [List.length_append, List.length_singleton]
    exact div_eq (by omega) h2
  · exact List.drop_append_of_le_length (by omega)
theorem first_start {z : Nat} (hz : 0 < z) (N : List Int) (S : List Nat) : firstOf z (N.length / z) (S ++ [N.length]) = (firstOf z (N.length / z) S).or (some (N.length % z)) := by
  have h1 := div_mod z N.length
  have h2 := div_hi hz N.length
  rw [firstOf_app, if_pos (by unfold inFr; simp; omega)]
  congr 2
  omega
theorem frms_length (z : Nat) (N : List Int) (S : List Nat) : (frms z N S).length = N.length / z := by simp [frms]
theorem frms_lay {z : Nat} (x : List Int × List Nat) (t : List Int) :
    frms z x.1 x.2 ++ (frms z (lay1 x t).1 (lay1 x t).2).drop (x.1.length / z) = frms z (lay1 x t).1 (lay1 x t).2 := by
  have e : (frms z (lay1 x t).1 (lay1 x t).2).take (x.1.length / z) = frms z x.1 x.2 := by
    have h : x.1.length / z ≤ (lay1 x t).1.length / z := Nat.div_le_div_right (by unfold lay1; rw [List.length_append]; exact Nat.le_add_right _ _)
    unfold frms
    rw [← List.map_take, List.take_range, Nat.min_eq_left h]
    show (List.range (x.1.length / z)).map (frm z (x.1 ++ laidN (x.2.length : Int) t) (x.2 ++ [x.1.length])) = _
    rw [frms_low, frms_start]
    rfl
  rw [← e]
  exact List.take_append_drop _ _
theorem layAll_le : ∀ (ts : List (List Int)), (∀ t ∈ ts, t.length ≤ 20) → (layAll ts).1.length ≤ 23 * ts.length := by
  intro ts h
  unfold layAll
  suffices g : ∀ (ts : List (List Int)) (x : List Int × List Nat), (∀ t ∈ ts, t.length ≤ 20) → (ts.foldl lay1 x).1.length ≤ x.1.length + 23 * ts.length by
    have := g ts ([], []) h
    simpa using this
  intro ts
  induction ts with
  | nil => intro x _; exact Nat.le_refl _
  | cons t r ih =>
    intro x hx
    have h1 := ih (lay1 x t) fun u hu => hx u (List.mem_cons_of_mem _ hu)
    have h2 := hx t (List.mem_cons_self ..)
    have h3 : (lay1 x t).1.length = x.1.length + (t.length + 3) := by unfold lay1; rw [List.length_append, laidN_length]
    rw [List.foldl_cons, List.length_cons]
    omega
theorem layAll_len : ∀ (ts : List (List Int)), (layAll ts).2.length = ts.length := by
  intro ts
  unfold layAll
  suffices g : ∀ (ts : List (List Int)) (x : List Int × List Nat), (ts.foldl lay1 x).2.length = x.2.length + ts.length by
    have := g ts ([], [])
    simpa using this
  intro ts
  induction ts with
  | nil => intro x; rfl
  | cons t r ih =>
    intro x
    rw [List.foldl_cons, ih, List.length_cons]
    unfold lay1
    rw [List.length_append, List.length_singleton]
    omega
/-- the first of ascending ones is the least -/
theorem head_least : ∀ {ns : List Nat} {m : Nat}, ns.Pairwise (· ≤ ·) → m ∈ ns → (∀ y ∈ ns, m ≤ y) → ns.head? = some m
  | x :: r, m, p, hm, hl => by
    have h1 : m ≤ x := hl x (List.mem_cons_self ..)
    have h2 : x ≤ m := by
      rcases List.mem_cons.mp hm with e | e
      · exact Nat.le_of_eq e.symm
      · exact (List.pairwise_cons.mp p).1 m e
    show some x = some m
    rw [Nat.le_antisymm h2 h1]
theorem firstOf_least {z c : Nat} {S : List Nat} {m : Nat} (p : S.Pairwise (· ≤ ·)) (hm : m ∈ (S.filter (inFr z c)).map (· - c * z)) (hl : ∀ y ∈ (S.filter (inFr z c)).map (· - c * z), m ≤ y) : firstOf z c S = some m := by
  refine head_least ?_ hm hl
  refine List.Pairwise.map _ (fun a b h => ?_) (p.filter _)
  show a - c * z ≤ b - c * z
  exact Nat.sub_le_sub_right h _
end Sky

/-! What is read from frames: tellings by their starts, the places in a frame at which some begin, the rows. -/
namespace Sky
open PySem PySem.Spec PyProof.Rows L2
/-- numbers N in which tellings begin at places, one behind the other or behind a filled-up frame -/
structure Lays (z : Nat) (N : List Int) (L : List (Nat × List Int)) : Prop where
  item : ∀ j a t, L[j]? = some (a, t) → a + (t.length + 3) ≤ N.length ∧ (N.drop a).take (t.length + 3) = laidN (j : Nat) t ∧ tellOk t
  next : ∀ j a t a' t', L[j]? = some (a, t) → L[j + 1]? = some (a', t') → a' = a + (t.length + 3) ∨ (N[a + (t.length + 3)]? = some 0 ∧ (a + (t.length + 3)) / z * z + z ≤ a')
  last : ∀ j a t, L[j]? = some (a, t) → L[j + 1]? = none → a + (t.length + 3) = N.length ∨ (N[a + (t.length + 3)]? = some 0 ∧ (a + (t.length + 3)) / z * z + z ≤ N.length)
  laid : Laid N (L.map (·.1))
  nums : ∀ x ∈ N, 0 ≤ x ∧ x ≤ 255
theorem Lays.nil (z : Nat) : Lays z [] [] := ⟨by simp, by simp, by simp, Laid.nil, by simp⟩
theorem Lays.lay {z : Nat} {N : List Int} {L : List (Nat × List Int)} {t : List Int} (h : Lays z N L) (ok : tellOk t) (few : L.length < 65536) : Lays z (N ++ laidN (L.length : Nat) t) (L ++ [(N.length, t)]) := by
  have hll : (laidN (L.length : Nat) t).length = t.length + 3 := laidN_length _ _
  refine ⟨fun j a u e => ?_, fun j a u a' u' e e' => ?_, fun j a u e e' => ?_, ?_, fun x hx => ?_⟩
  · by_cases hj : j < L.length
    · rw [List.getElem?_append_left hj] at e
      obtain ⟨h1, h2, h3⟩ := h.item j a u e
      refine ⟨by rw [List.length_append]; omega, ?_, h3⟩
      rw [List.drop_append_of_le_length (by omega), List.take_append_of_le_length (by rw [List.length_drop]; omega)]
      exact h2
    · have hj' : j = L.length := by
        have := (List.getElem?_eq_some_iff.mp e).1
        rw [List.length_append, List.length_singleton] at this
        omega
      subst hj'
      rw [List.getElem?_append_right (Nat.le_refl _), Nat.sub_self] at e
      have e2 : (N.length, t) = (a, u) := Option.some.inj e
      injection e2 with e3 e4
      subst e3 e4
      refine ⟨by rw [List.length_append, hll]; omega, ?_, ok⟩
      rw [List.drop_append_of_le_length (Nat.le_refl _), List.drop_length, List.nil_append, List.take_of_length_le (by omega)]
  · by_cases hj : j + 1 < L.length
    · rw [List.getElem?_append_left (by omega)] at e
      rw [List.getElem?_append_left hj] at e'
      rcases h.next j a u a' u' e e' with q | ⟨q, r⟩
      · exact .inl q
      · refine .inr ⟨?_, r⟩
        rw [List.getElem?_append_left (List.getElem?_eq_some_iff.mp q).1]
        exact q
    · have hj' : j + 1 = L.length := by
        have := (List.getElem?_eq_some_iff.mp e').1
        rw [List.length_append, List.length_singleton] at this
        omega
      rw [List.getElem?_append_left (by omega)] at e
      rw [hj', List.getElem?_append_right (Nat.le_refl _), Nat.sub_self] at e'
      have e2 : (N.length, t) = (a', u') := Option.some.inj e'
      injection e2 with e3 e4
      subst e3
      rcases h.last j a u e (List.getElem?_eq_none (by omega)) with q | ⟨q, r⟩
      · exact .inl q.symm
      · refine .inr ⟨?_, r⟩
        rw [List.getElem?_append_left (List.getElem?_eq_some_iff.mp q).1]
        exact q
  · have hj' : j = L.length := by
      have h1 := (List.getElem?_eq_some_iff.mp e).1
      have h2 := List.getElem?_eq_none_iff.mp e'
      rw [List.length_append, List.length_singleton] at h1 h2
      omega
    subst hj'
    rw [List.getElem?_append_right (Nat.le_refl _), Nat.sub_self] at e
    have e2 : (N.length, t) = (a, u) := Option.some.inj e
    injection e2 with e3 e4
    subst e3 e4
    left
    rw [List.length_append, hll]
  · rw [List.map_append]
    exact h.laid.start.more _
  · rcases List.mem_append.mp hx with q | q
    · exact h.nums x q
    · unfold laidN at q
      simp only [List.mem_cons] at q
      have h1 := ok.1
      have h2 := ok.2.1
      rcases q with e | e | e | e
      · omega
      · rw [e, Int.fdiv_eq_ediv_of_nonneg _ (by omega)]
        omega
      · rw [e, Int.fmod_eq_emod_of_nonneg _ (by omega)]
        omega
      · exact ok.2.2 x e
theorem padN_length {z : Nat} (hz : 0 < z) (N : List Int) : (padN z N).length = if N.length % z = 0 then N.length else N.length / z * z + z := by
  unfold padN
  have := div_mod z N.length
  have := Nat.mod_lt N.length hz
  split
  · rfl
  · rw [List.length_append, List.length_replicate]
    omega
theorem Lays.pad {z : Nat} {N : List Int} {L : List (Nat × List Int)} (hz : 0 < z) (h : Lays z N L) : Lays z (padN z N) L := by
  by_cases h0 : N.length % z = 0
  · unfold padN
    rw [if_pos h0]
    exact h
  · have hp : padN z N = N ++ List.replicate (z - N.length % z) 0 := by unfold padN; rw [if_neg h0]
    have hl : (padN z N).length = N.length / z * z + z := by rw [padN_length hz, if_neg h0]
    have hm := div_mod z N.length
    have hmz := Nat.mod_lt N.length hz
    refine ⟨fun j a t e => ?_, fun j a t a' t' e e' => ?_, fun j a t e e' => ?_, ?_, fun x hx => ?_⟩
    · obtain ⟨h1, h2, h3⟩ := h.item j a t e
      refine ⟨by omega, ?_, h3⟩
      rw [hp, List.drop_append_of_le_length (by omega), List.take_append_of_le_length (by rw [List.length_drop]; omega)]
      exact h2
    · rcases h.next j a t a' t' e e' with q | ⟨q, r⟩
      · exact .inl q
      · refine .inr ⟨?_, r⟩
        rw [hp, List.getElem?_append_left (List.getElem?_eq_some_iff.mp q).1]
        exact q
    · right
      rcases h.last j a t e e' with q | ⟨q, r⟩
      · rw [q]
        refine ⟨?_, by omega⟩
        rw [hp, List.getElem?_append_right (Nat.le_refl _), Nat.sub_self]
        rw [List.getElem?_replicate, if_pos (by omega)]
      · refine ⟨?_, by omega⟩
        rw [hp, List.getElem?_append_left (List.getElem?_eq_some_iff.mp q).1]
        exact q
    · rw [hp]
      exact h.laid.more _
    · rw [hp] at hx
      rcases List.mem_append.mp hx with q | q
      · exact h.nums x q
      · rw [List.eq_of_mem_replicate q]
        decide
theorem Lays.at {z : Nat} {N : List Int} {L : List (Nat × List Int)} (h : Lays z N L) {j a : Nat} {t : List Int} (e : L[j]? = some (a, t)) : N[a]? = some (t.length : Int) := by
  obtain ⟨h1, h2, h3⟩ := h.item j a t e
  have e1 : ((N.drop a).take (t.length + 3))[0]? = (laidN (j : Nat) t)[0]? := by rw [h2]
  rw [List.getElem?_take_of_lt (by omega), List.getElem?_drop, Nat.add_zero] at e1
  exact e1
theorem Lays.S_at {z : Nat} {N : List Int} {L : List (Nat × List Int)} (h : Lays z N L) {i j : Nat} {x y : Nat} (hij : i ≤ j) (e : (L.map (·.1))[i]? = some x) (e' : (L.map (·.1))[j]? = some y) : x ≤ y := by
  rcases Nat.lt_or_eq_of_le hij with q | q
  · have hi := (List.getElem?_eq_some_iff.mp e)
    have hj := (List.getElem?_eq_some_iff.mp e')
    obtain ⟨hi1, hi2⟩ := hi
    obtain ⟨hj1, hj2⟩ := hj
    rw [← hi2, ← hj2]
    exact List.pairwise_iff_getElem.mp h.laid.asc i j hi1 hj1 q
  · subst q
    rw [e] at e'
    cases e'
    exact Nat.le_refl _
theorem Lays.lt {z : Nat} {N : List Int} {L : List (Nat × List Int)} (h : Lays z N L) {j a a' : Nat} {t t' : List Int} (e : L[j]? = some (a, t)) (e' : L[j + 1]? = some (a', t')) : a < a' := by
  rcases h.next j a t a' t' e e' with q | ⟨_, q⟩
  · omega
  · have h1 := (h.item j a t e).1
    rcases Nat.eq_zero_or_pos z with hz | hz
    · subst hz
      have h2 : a ≤ a' := h.S_at (Nat.le_succ j) (by rw [List.getElem?_map, e]; rfl) (by rw [List.getElem?_map, e']; rfl)
      rcases Nat.lt_or_eq_of_le h2 with r | r
      · exact r
      · exfalso
        subst r
        have h3 := (h.item (j + 1) a t' e')
        have h4 := (h.item j a t e)
        have e1 : (laidN ((j : Nat) : Int) t)[0]? = (laidN ((j + 1 : Nat) : Int) t')[0]? := by
          rw [← h4.2.1, ← h3.2.1, List.getElem?_take_of_lt (by omega), List.getElem?_take_of_lt (by omega)]
        have e2 : (t.length : Int) = t'.length := Option.some.inj e1
        have e3 : laidN ((j : Nat) : Int) t = laidN ((j + 1 : Nat) : Int) t' := by
          rw [← h4.2.1, ← h3.2.1, show t.length = t'.length by omega]
        unfold laidN at e3
        injection e3 with _ e3
        injection e3 with e4 e3
        injection e3 with e5 e3
        rw [Int.fdiv_eq_ediv_of_nonneg _ (by omega), Int.fdiv_eq_ediv_of_nonneg _ (by omega)] at e4
        rw [Int.fmod_eq_emod_of_nonneg _ (by omega), Int.fmod_eq_emod_of_nonneg _ (by omega)] at e5
        omega
    · have h2 := div_hi hz (a + (t.length + 3))
      omega
theorem Lays.rise {z : Nat} {N : List Int} {L : List (Nat × List Int)} (h : Lays z N L) {j a : Nat} {t : List Int} (e : L[j]? = some (a, t)) : ∀ (k : Nat) (a' : Nat) (t' : List Int), L[j + 1 + k]? = some (a', t') → a < a'
  | 0, a', t', e' => h.lt e e'
  | k + 1, a', t', e' => by
    have hl := (List.getElem?_eq_some_iff.mp e').1
    have e1 : L[j + 1 + k]? = some (L[j + 1 + k]'(by omega)) := List.getElem?_eq_getElem (by omega)
    have h1 := h.rise e k _ _ e1
    have h2 := h.lt e1 e'
    omega
/-- no two begin at one place -/
theorem Lays.one {z : Nat} {N : List Int} {L : List (Nat × List Int)} (h : Lays z N L) {i j a : Nat} {t t' : List Int} (e : L[i]? = some (a, t)) (e' : L[j]? = some (a, t')) : i = j := by
  rcases Nat.lt_trichotomy i j with q | q | q
  · have := h.rise e (j - (i + 1)) a t' (by rw [show i + 1 + (j - (i + 1)) = j by omega]; exact e')
    omega
  · exact q
  · have := h.rise e' (i - (j + 1)) a t (by rw [show j + 1 + (i - (j + 1)) = i by omega]; exact e)
    omega
/-- from a start to the next one, within a frame -/
theorem Lays.step {z : Nat} {N : List Int} {L : List (Nat × List Int)} (h : Lays z N L) {c p j a : Nat} {t : List Int} (hz : 0 < z) (hc : c * z + z ≤ N.length) (e : L[j]? = some (a, t)) (ea : a = c * z + p) (hp : p < z) :
    (∃ a' t', L[j + 1]? = some (a', t') ∧ a' = c * z + (p + (3 + t.length))) ∨
    ((∀ i, j + 1 ≤ i → ∀ x, (L.map (·.1))[i]? = some x → c * z + z ≤ x) ∧ (z ≤ p + (3 + t.length) ∨ N[c * z + (p + (3 + t.length))]? = some 0)) := by
  have ee : a + (t.length + 3) = c * z + (p + (3 + t.length)) := by omega
  cases e1 : L[j + 1]? with
  | some x =>
    obtain ⟨a', t'⟩ := x
    rcases h.next j a t a' t' e e1 with q | ⟨q, r⟩
    · exact .inl ⟨a', t', rfl, by omega⟩
    · rw [ee] at q r
      refine .inr ⟨fun i hi x hx => ?_, ?_⟩
      · have h1 : a' ≤ x := h.S_at hi (by rw [List.getElem?_map, e1]; rfl) hx
        have h2 := div_lo z (c * z + (p + (3 + t.length)))
        have h3 := div_hi hz (c * z + (p + (3 + t.length)))
        by_cases h4 : p + (3 + t.length) < z
        · have : (c * z + (p + (3 + t.length))) / z = c := div_eq (by omega) (by omega)
          rw [this] at r
          omega
        · omega
      · exact .inr q
  | none =>
    refine .inr ⟨fun i hi x hx => ?_, ?_⟩
    · have h1 := (List.getElem?_eq_some_iff.mp hx).1
      have h2 := List.getElem?_eq_none_iff.mp e1
      rw [List.length_map] at h1
      omega
    · rcases h.last j a t e e1 with q | ⟨q, r⟩
      · rw [ee] at q
        exact .inl (by omega)
      · rw [ee] at q
        exact .inr q
theorem filter_take_all {p : Nat → Bool} : ∀ {S : List Nat} {j : Nat}, (∀ i, j ≤ i → ∀ x, S[i]? = some x → p x = false) → (S.take j).filter p = S.filter p
  | [], _, _ => by simp
  | x :: r, 0, h => by
    rw [List.take_zero, List.filter_nil]
    symm
    rw [List.filter_eq_nil_iff]
    intro y hy
    obtain ⟨i, hi, e⟩ := List.getElem_of_mem hy
    rw [h i (Nat.zero_le _) y (by rw [← e]; exact List.getElem?_eq_getElem hi)]
    simp
  | x :: r, j + 1, h => by
    have ih := filter_take_all (p := p) (S := r) (j := j) fun i hi y hy => h (i + 1) (by omega) y (by simpa using hy)
    rw [List.take_succ_cons, List.filter_cons, List.filter_cons, ih]
theorem filter_head {p : Nat → Bool} : ∀ {S : List Nat} {y : Nat}, (S.filter p).head? = some y → ∃ j, S[j]? = some y ∧ (S.take j).filter p = []
  | [], _, h => by simp at h
  | x :: r, y, h => by
    by_cases hp : p x = true
    · rw [List.filter_cons_of_pos hp] at h
      exact ⟨0, h, rfl⟩
    · rw [List.filter_cons_of_neg hp] at h
      obtain ⟨j, h1, h2⟩ := filter_head h
      refine ⟨j + 1, by simpa using h1, ?_⟩
      rw [List.take_succ_cons, List.filter_cons_of_neg hp]
      exact h2
theorem first_at {z c : Nat} {S : List Nat} {x : Nat} (h : firstOf z c S = some x) : ∃ j, S[j]? = some (c * z + x) ∧ (S.take j).filter (inFr z c) = [] ∧ x < z := by
  unfold firstOf at h
  rw [List.head?_map] at h
  cases e : (S.filter (inFr z c)).head? with
  | none => rw [e] at h; cases h
  | some y =>
    rw [e] at h
    have ex : y - c * z = x := Option.some.inj h
    obtain ⟨j, h1, h2⟩ := filter_head e
    have hm : y ∈ S.filter (inFr z c) := List.mem_of_head? e
    have hp := (List.mem_filter.mp hm).2
    unfold inFr at hp
    simp at hp
    exact ⟨j, by rw [h1, ← ex]; congr 1; omega, h2, by omega⟩
theorem first_no {z c : Nat} {S : List Nat} (h : firstOf z c S = none) : S.filter (inFr z c) = [] := by
  unfold firstOf at h
  rw [List.head?_map] at h
  cases e : S.filter (inFr z c) with
  | nil => rfl
  | cons x r => rw [e] at h; cases h
/-- which numbers of a telling lie in frames that there are -/
def covers (z : Nat) (cs : List Nat) (a n : Nat) : Bool := (List.range n).all fun k => decide ((a + k) / z ∈ cs)
def toldJ (z : Nat) (L : List (Nat × List Int)) (cs : List Nat) (j : Nat) : Bool := match L[j]? with
  | some x => covers z cs x.1 (x.2.length + 3)
  | none => false
def toldL (z : Nat) (L : List (Nat × List Int)) (cs : List Nat) : List Nat := (List.range L.length).filter (toldJ z L cs)
def gapD (lo hi : Nat) : PyData := .tuple [.str "gap", .int lo, .int hi]
def toldD (j : Nat) (t : List Int) : PyData := .tuple [.str "told", .int j, tlD t]
def textOf (L : List (Nat × List Int)) (j : Nat) : List Int := match L[j]? with
  | some x => x.2
  | none => []
def rowsD (L : List (Nat × List Int)) : Nat → List Nat → List PyData
  | _, [] => []
  | lo, j :: r => (if lo < j then [gapD lo (j - 1)] else []) ++ (toldD j (textOf L j) :: rowsD L (j + 1) r)
theorem rowsD_snoc (L : List (Nat × List Int)) : ∀ (js : List Nat) (lo j : Nat), rowsD L lo (js ++ [j]) = rowsD L lo js ++ rowsD L (js.foldl (fun _ x => x + 1) lo) [j]
  | [], lo, j => rfl
  | x :: r, lo, j => by
    rw [List.cons_append]
    show (if lo < x then [gapD lo (x - 1)] else []) ++ (toldD x (textOf L x) :: rowsD L (x + 1) (r ++ [j])) = _
    rw [rowsD_snoc L r (x + 1) j]
    show _ = ((if lo < x then [gapD lo (x - 1)] else []) ++ (toldD x (textOf L x) :: rowsD L (x + 1) r)) ++ _
    rw [List.append_assoc]
    rfl
theorem lo_snoc (js : List Nat) (lo j : Nat) : (js ++ [j]).foldl (fun _ x => x + 1) lo = j + 1 := by rw [List.foldl_append]; rfl
theorem covers_iff {z a n : Nat} {cs : List Nat} : covers z cs a n = true ↔ ∀ k, k < n → (a + k) / z ∈ cs := by
  unfold covers
  rw [List.all_eq_true]
  exact ⟨fun h k hk => of_decide_eq_true (h k (List.mem_range.mpr hk)), fun h k hk => decide_eq_true (h k (List.mem_range.mp hk))⟩
/-- by the frames from the first to the last of them -/
theorem covers_range {z a n : Nat} {cs : List Nat} (hz : 0 < z) (hn : 0 < n) : covers z cs a n = true ↔ ∀ c, a / z ≤ c → c ≤ (a + (n - 1)) / z → c ∈ cs := by
  rw [covers_iff]
  refine ⟨fun h c h1 h2 => ?_, fun h k hk => h _ (Nat.div_le_div_right (by omega)) (Nat.div_le_div_right (by omega))⟩
  by_cases h3 : c * z ≤ a
  · have e : a / z = c := by
      have := (Nat.le_div_iff_mul_le hz).mpr h3
      omega
    have := h 0 hn
    rw [Nat.add_zero, e] at this
    exact this
  · have h4 : c * z ≤ a + (n - 1) := (Nat.le_div_iff_mul_le hz).mp h2
    have := h (c * z - a) (by omega)
    rw [show a + (c * z - a) = c * z by omega, Nat.mul_div_cancel _ hz] at this
    exact this
/-- two rising lists without equal ones that hold the same are one -/
theorem rising_same : ∀ {xs ys : List Int}, xs.Pairwise (· < ·) → ys.Pairwise (· < ·) → (∀ x, x ∈ xs ↔ x ∈ ys) → xs = ys
  | [], [], _, _, _ => rfl
  | [], y :: r, _, _, h => absurd ((h y).mpr (List.mem_cons_self ..)) (by simp)
  | x :: r, [], _, _, h => absurd ((h x).mp (List.mem_cons_self ..)) (by simp)
  | x :: xs, y :: ys, hx, hy, h => by
    have hx' := List.pairwise_cons.mp hx
    have hy' := List.pairwise_cons.mp hy
    have e : x = y := by
      rcases List.mem_cons.mp ((h x).mp (List.mem_cons_self ..)) with q | q
      · exact q
      · rcases List.mem_cons.mp ((h y).mpr (List.mem_cons_self ..)) with q' | q'
        · exact q'.symm
        · have := hy'.1 x q
          have := hx'.1 y q'
          omega
    subst e
    congr 1
    refine rising_same hx'.2 hy'.2 fun u => ⟨fun hu => ?_, fun hu => ?_⟩
    · rcases List.mem_cons.mp ((h u).mp (List.mem_cons_of_mem _ hu)) with q | q
      · have := hx'.1 u hu
        omega
      · exact q
    · rcases List.mem_cons.mp ((h u).mpr (List.mem_cons_of_mem _ hu)) with q | q
      · have := hy'.1 u hu
        omega
      · exact q
/-- all of a list of tellings -/
def lays1 (x : List Int × List (Nat × List Int)) (t : List Int) : List Int × List (Nat × List Int) := (x.1 ++ laidN (x.2.length : Nat) t, x.2 ++ [(x.1.length, t)])
def laysAll (ts : List (List Int)) : List Int × List (Nat × List Int) := ts.foldl lays1 ([], [])
theorem laysAll_take {ts : List (List Int)} {i : Nat} {t : List Int} (h : ts[i]? = some t) : laysAll (ts.take (i + 1)) = lays1 (laysAll (ts.take i)) t := by
  rw [List.take_add_one, h]
  show laysAll (ts.take i ++ [t]) = _
  unfold laysAll
  rw [List.foldl_append]
  rfl
theorem laysAll_lay (ts : List (List Int)) : layAll ts = ((laysAll ts).1, (laysAll ts).2.map (·.1)) := by
  unfold layAll laysAll
  suffices g : ∀ (ts : List (List Int)) (x : List Int × List (Nat × List Int)), ts.foldl lay1 (x.1, x.2.map (·.1)) = ((ts.foldl lays1 x).1, (ts.foldl lays1 x).2.map (·.1)) from g ts ([], [])
  intro ts
  induction ts with
  | nil => intro x; rfl
  | cons t r ih =>
    intro x
    rw [List.foldl_cons, List.foldl_cons, ← ih]
    congr 1
    unfold lay1 lays1
    rw [List.map_append, List.length_map]
    rfl
theorem laysAll_texts (ts : List (List Int)) : (laysAll ts).2.map (·.2) = ts := by
  unfold laysAll
  suffices g : ∀ (ts : List (List Int)) (x : List Int × List (Nat × List Int)), (ts.foldl lays1 x).2.map (·.2) = x.2.map (·.2) ++ ts from g ts ([], [])
  intro ts
  induction ts with
  | nil => intro x; simp
  | cons t r ih =>
    intro x
    rw [List.foldl_cons, ih]
    unfold lays1
    rw [List.map_append, List.append_assoc]
    rfl
theorem laysAll_len (ts : List (List Int)) : (laysAll ts).2.length = ts.length := by
  have := congrArg List.length (laysAll_texts ts)
  rw [List.length_map] at this
  exact this
theorem laysAll_ok {z : Nat} {ts : List (List Int)} (ok : ∀ t ∈ ts, tellOk t) (few : ts.length ≤ 65536) : Lays z (laysAll ts).1 (laysAll ts).2 := by
  suffices g : ∀ i, i ≤ ts.length → Lays z (laysAll (ts.take i)).1 (laysAll (ts.take i)).2 by
    have := g ts.length (Nat.le_refl _)
    rw [List.take_length] at this
    exact this
  intro i
  induction i with
  | zero => intro _; rw [List.take_zero]; exact Lays.nil z
  | succ i ih =>
    intro hi
    have ht : ts[i]? = some ts[i] := List.getElem?_eq_getElem (by omega)
    rw [laysAll_take ht]
    exact (ih (by omega)).lay (ok _ (List.getElem_mem _)) (by rw [laysAll_len, List.length_take]; omega)
theorem rows_len' (L : List (Nat × List Int)) : ∀ (js : List Nat) (lo : Nat), (rowsD L lo js).length ≤ 2 * js.length
  | [], _ => Nat.le_refl _
  | j :: r, lo => by
    have ih := rows_len' L r (j + 1)
    show ((if lo < j then [gapD lo (j - 1)] else []) ++ (toldD j (textOf L j) :: rowsD L (j + 1) r)).length ≤ _
    rw [List.length_append, List.length_cons, List.length_cons]
    split
    · rw [List.length_singleton]; omega
    · rw [List.length_nil]; omega
/-! ### rows as data -/
def isTold : PyData → Bool
  | .tuple (.str x :: _) => decide (x = ("told" : Str))
  | _ => false
theorem gap_told : ¬ (("gap" : Str) = "told") := by decide +kernel
theorem isTold_told (j : Nat) (t : List Int) : isTold (toldD j t) = true := by
  show decide (("told" : Str) = "told") = true
  exact decide_eq_true rfl
theorem isTold_gap (lo hi : Nat) : isTold (gapD lo hi) = false := by
  show decide (("gap" : Str) = "told") = false
  exact decide_eq_false gap_told
theorem rows_mem {L : List (Nat × List Int)} : ∀ {js : List Nat} {lo : Nat} {d : PyData}, d ∈ rowsD L lo js → (∃ a b, d = gapD a b) ∨ ∃ j ∈ js, d = toldD j (textOf L j)
  | [], _, _, h => by cases h
  | j :: r, lo, d, h => by
    have h' : d ∈ (if lo < j then [gapD lo (j - 1)] else []) ++ (toldD j (textOf L j) :: rowsD L (j + 1) r) := h
    rcases List.mem_append.mp h' with q | q
    · split at q
      · exact .inl ⟨_, _, List.mem_singleton.mp q⟩
      · cases q
    · rcases List.mem_cons.mp q with q | q
      · exact .inr ⟨j, List.mem_cons_self .., q⟩
      · rcases rows_mem q with q | ⟨k, hk, e⟩
        · exact .inl q
        · exact .inr ⟨k, List.mem_cons_of_mem _ hk, e⟩
theorem told_mem {L : List (Nat × List Int)} : ∀ {js : List Nat} {lo j : Nat}, j ∈ js → toldD j (textOf L j) ∈ rowsD L lo js
  | [], _, _, h => by cases h
  | i :: r, lo, j, h => by
    show _ ∈ (if lo < i then [gapD lo (i - 1)] else []) ++ (toldD i (textOf L i) :: rowsD L (i + 1) r)
    refine List.mem_append_right _ ?_
    rcases List.mem_cons.mp h with q | q
    · rw [q]; exact List.mem_cons_self ..
    · exact List.mem_cons_of_mem _ (told_mem q)
theorem rows_all (L : List (Nat × List Int)) : ∀ (n lo : Nat), rowsD L lo (List.range' lo n) = (List.range' lo n).map fun k => toldD k (textOf L k)
  | 0, lo => rfl
  | n + 1, lo => by
    rw [List.range'_succ]
    show (if lo < lo then [gapD lo (lo - 1)] else []) ++ (toldD lo (textOf L lo) :: rowsD L (lo + 1) (List.range' (lo + 1) n)) = _
    rw [if_neg (Nat.lt_irrefl _), List.nil_append, rows_all L n (lo + 1)]
    rfl
theorem rows_range (L : List (Nat × List Int)) (n : Nat) : rowsD L 0 (List.range n) = (List.range n).map fun k => toldD k (textOf L k) := by
  rw [List.range_eq_range']
  exact rows_all L n 0
theorem toldL_congr {z : Nat} {L : List (Nat × List Int)} {cs cs' : List Nat} (h : ∀ c, c ∈ cs ↔ c ∈ cs') : toldL z L cs = toldL z L cs' := by
  unfold toldL
  congr 1
  funext j
  unfold toldJ
  cases L[j]? with
  | none => rfl
  | some x =>
    show covers z cs _ _ = covers z cs' _ _
    rw [Bool.eq_iff_iff, covers_iff, covers_iff]
    exact ⟨fun g k hk => (h _).mp (g k hk), fun g k hk => (h _).mpr (g k hk)⟩
theorem toldL_mono {z : Nat} {L : List (Nat × List Int)} {cs cs' : List Nat} (h : ∀ c, c ∈ cs → c ∈ cs') {j : Nat} (hj : j ∈ toldL z L cs) : j ∈ toldL z L cs' := by
  unfold toldL at hj ⊢
  rw [List.mem_filter] at hj ⊢
  refine ⟨hj.1, ?_⟩
  have := hj.2
  unfold toldJ at this ⊢
  cases e : L[j]? with
  | none => rw [e] at this; cases this
  | some x =>
    rw [e] at this
    exact covers_iff.mpr fun k hk => h _ (covers_iff.mp this k hk)
/-- all frames that there are tell all -/
theorem toldL_all {z : Nat} {N : List Int} {L : List (Nat × List Int)} (h : Lays z N L) (hz : 0 < z) (full : N.length % z = 0) : toldL z L (List.range (N.length / z)) = List.range L.length := by
  unfold toldL
  rw [List.filter_eq_self]
  intro j hj
  have hj' := List.mem_range.mp hj
  unfold toldJ
  rw [List.getElem?_eq_getElem hj']
  refine covers_iff.mpr fun k hk => List.mem_range.mpr ?_
  have h1 := (h.item j L[j].1 L[j].2 (List.getElem?_eq_getElem hj')).1
  have h2 := div_mod z N.length
  rw [Nat.div_lt_iff_lt_mul hz]
  omega
theorem pad_full {z : Nat} (hz : 0 < z) (N : List Int) : (padN z N).length % z = 0 := by
  rw [padN_length hz]
  split
  · assumption
  · rw [Nat.add_mod_right, Nat.mul_mod_left]
theorem Lay.strT : Lay 0 (.str "told") := ⟨by decide +kernel, by simp [PyData.depth]⟩
theorem Lay.strG : Lay 0 (.str "gap") := ⟨by decide +kernel, by simp [PyData.depth]⟩
theorem lay_told (j : Nat) (t : List Int) : Lay 2 (toldD j t) := by
  have h := Lay.tuple (f := fun d : PyData => d) (k := 1) (xs := [.str "told", .int (j : Nat), tlD t]) (by
    intro x hx
    simp only [List.mem_cons, List.not_mem_nil, or_false] at hx
    rcases hx with rfl | rfl | rfl
    · exact Lay.strT.mono (by decide)
    · exact (Lay.int _).mono (by decide)
    · exact Lay.tl _)
  rw [List.map_id'] at h
  exact h
theorem lay_gap (a b : Nat) : Lay 2 (gapD a b) := by
  have h := Lay.tuple (f := fun d : PyData => d) (k := 1) (xs := [.str "gap", .int (a : Nat), .int (b : Nat)]) (by
    intro x hx
    simp only [List.mem_cons, List.not_mem_nil, or_false] at hx
    rcases hx with rfl | rfl | rfl
    · exact Lay.strG.mono (by decide)
    · exact (Lay.int _).mono (by decide)
    · exact (Lay.int _).mono (by decide))
  rw [List.map_id'] at h
  exact h
theorem Lay.of_list {k : Nat} {ds : List PyData} (h : ∀ d ∈ ds, Lay k d) : Lay (k + 1) (.list ds) := by
  have := Lay.list (f := fun d : PyData => d) (xs := ds) h
  rw [List.map_id'] at this
  exact this
theorem lay_rows (L : List (Nat × List Int)) (js : List Nat) (lo : Nat) : Lay 3 (.list (rowsD L lo js)) := Lay.of_list fun d hd => by
  rcases rows_mem hd with ⟨a, b, rfl⟩ | ⟨j, _, rfl⟩
  · exact lay_gap a b
  · exact lay_told j _
theorem dok_told (j : Nat) {t : List Int} (h : t.length ≤ 10000000) : DOk 2 (toldD j t) := DOk.tuple (show 3 ≤ 10000000 by decide) fun e he => by
  simp only [List.mem_cons, List.not_mem_nil, or_false] at he
  rcases he with rfl | rfl | rfl
  · exact .sc (.inr (.inr (.inr ⟨_, rfl⟩)))
  · exact DOk.int _
  · exact DOk.tl h
theorem dok_gap (a b : Nat) : DOk 2 (gapD a b) := DOk.tuple (show 3 ≤ 10000000 by decide) fun e he => by
  simp only [List.mem_cons, List.not_mem_nil, or_false] at he
  rcases he with rfl | rfl | rfl
  · exact .sc (.inr (.inr (.inr ⟨_, rfl⟩)))
  · exact DOk.int _
  · exact DOk.int _
theorem dok_rows {L : List (Nat × List Int)} {js : List Nat} {lo : Nat} (h : js.length ≤ 1000000) (hL : ∀ x ∈ L, x.2.length ≤ 1000) : DOk 3 (.list (rowsD L lo js)) := by
  refine DOk.list (by have := rows_len' L js lo; omega) fun d hd => ?_
  rcases rows_mem hd with ⟨a, b, rfl⟩ | ⟨j, _, rfl⟩
  · exact dok_gap a b
  · refine dok_told j ?_
    unfold textOf
    cases e : L[j]? with
    | none => exact Nat.zero_le _
    | some x => exact Nat.le_trans (hL x (List.mem_of_getElem? e)) (by decide)
theorem TDs.erase {H : Hp} : ∀ {vs : List V} {ds : List PyData} (k : Nat), TDs H vs ds → TDs H (vs.eraseIdx k) (ds.eraseIdx k)
  | _, _, _, .nil => .nil
  | _, _, 0, .cons _ t => t
  | _, _, k + 1, .cons h t => .cons h (TDs.erase k t)
theorem erase_map {α β : Type} (f : α → β) : ∀ (xs : List α) (k : Nat), (xs.map f).eraseIdx k = (xs.eraseIdx k).map f
  | [], _ => rfl
  | _ :: _, 0 => rfl
  | x :: xs, k + 1 => by
    show f x :: (xs.map f).eraseIdx k = f x :: (xs.eraseIdx k).map f
    rw [erase_map f xs k]
theorem perm_erase {α : Type} : ∀ {xs : List α} {k : Nat} {x : α}, xs[k]? = some x → (x :: xs.eraseIdx k).Perm xs
  | [], _, _, h => by simp at h
  | y :: ys, 0, x, h => by
    have e : y = x := Option.some.inj h
    rw [e]
    exact List.Perm.refl _
  | y :: ys, k + 1, x, h => by
    have ih := perm_erase (xs := ys) (k := k) (x := x) (by simpa using h)
    exact (List.Perm.swap y x _).trans (ih.cons y)
theorem rising_of {ys ks : List Int} (hp : ys.Perm ks) (hs : ys.Pairwise (· ≤ ·)) (nd : ks.Nodup) : ys.Pairwise (· < ·) := by
  have h1 : ys.Nodup := hp.nodup_iff.mpr nd
  refine List.Pairwise.imp₂ (fun a b h1 h2 => ?_) hs h1
  omega
end Sky

/-! Frames of the first tellings; what gaps are; runs of frames. -/
namespace Sky
open PySem PySem.Spec PyProof.Rows L2
theorem lays_more' : ∀ (ss : List (List Int)) (x : List Int × List (Nat × List Int)), ∃ xs M, (ss.foldl lays1 x).1 = x.1 ++ xs ∧ (ss.foldl lays1 x).2.map (·.1) = x.2.map (·.1) ++ M ∧ ∀ s ∈ M, x.1.length ≤ s
  | [], x => ⟨[], [], by simp, by simp, by simp⟩
  | t :: r, x => by
    obtain ⟨xs, M, h1, h2, h3⟩ := lays_more' r (lays1 x t)
    refine ⟨laidN (x.2.length : Nat) t ++ xs, x.1.length :: M, ?_, ?_, ?_⟩
    · show (r.foldl lays1 (lays1 x t)).1 = _
      rw [h1, ← List.append_assoc]
      rfl
    · show (r.foldl lays1 (lays1 x t)).2.map (·.1) = _
      rw [h2]
      show (x.2 ++ [(x.1.length, t)]).map (·.1) ++ M = _
      rw [List.map_append, List.append_assoc]
      rfl
    · intro s hs
      rcases List.mem_cons.mp hs with e | e
      · omega
      · have := h3 s e
        have e2 : (lays1 x t).1.length = x.1.length + (t.length + 3) := by
          show (x.1 ++ laidN _ t).length = _
          rw [List.length_append, laidN_length]
        omega
theorem lays_more (ts ss : List (List Int)) : ∃ xs M, (laysAll (ts ++ ss)).1 = (laysAll ts).1 ++ xs ∧ (laysAll (ts ++ ss)).2.map (·.1) = (laysAll ts).2.map (·.1) ++ M ∧ ∀ s ∈ M, (laysAll ts).1.length ≤ s := by
  have := lays_more' ss (laysAll ts)
  unfold laysAll at *
  rw [List.foldl_append]
  exact this
theorem pad_app (z : Nat) (N : List Int) : ∃ p, padN z N = N ++ p := by
  unfold padN
  split
  · exact ⟨[], by simp⟩
  · exact ⟨_, rfl⟩
theorem firstOf_more {z c : Nat} (S M : List Nat) : firstOf z c (S ++ M) = (firstOf z c S).or (firstOf z c M) := by
  unfold firstOf
  rw [List.filter_append, List.map_append, List.head?_append]
theorem firstOf_late {z c : Nat} {M : List Nat} (h : ∀ s ∈ M, c * z + z ≤ s) : firstOf z c M = none := by
  unfold firstOf
  have e : M.filter (inFr z c) = [] := by
    rw [List.filter_eq_nil_iff]
    intro s hs
    have := h s hs
    unfold inFr
    simp
    omega
  rw [e]
  rfl
/-- the frames of the first tellings, but the last of them, are frames of all -/
theorem frm_first {z c : Nat} {N N' xs : List Int} {S M : List Nat} (hc : c * z + z ≤ N.length) (e : N' = N ++ xs) (hM : ∀ s ∈ M, N.length ≤ s) :
    frm z (padN z N) S c = frm z (padN z N') (S ++ M) c := by
  obtain ⟨p, e1⟩ := pad_app z N
  obtain ⟨p', e2⟩ := pad_app z N'
  rw [e1, e2, e, List.append_assoc, frm_more hc, frm_more hc]
  unfold frm
  rw [firstOf_more, firstOf_late (M := M) (fun s hs => by have := hM s hs; omega), Option.or_none]
theorem first_first {z c x : Nat} {S M : List Nat} (h : firstOf z c S = some x) : firstOf z c (S ++ M) = some x := by
  rw [firstOf_more, h]
  rfl
theorem count_le {z a b na nb : Nat} (hz : 0 < z) (hab : a ≤ b) (h1 : na * z < a + z) (h2 : b ≤ nb * z) : na ≤ nb := by
  have h3 : na * z < (nb + 1) * z := by rw [Nat.succ_mul]; omega
  have := Nat.lt_of_mul_lt_mul_right h3
  omega
/-! ### gaps -/
inductive Gaps : Nat → List PyData → Prop
  | nil (lo : Nat) : Gaps lo []
  | gap {lo hi : Nat} {d : PyData} {r : List PyData} : lo ≤ hi → Gaps (hi + 1) (d :: r) → Gaps lo (gapD lo hi :: d :: r)
  | told {j : Nat} {t : List Int} {r : List PyData} : Gaps (j + 1) r → Gaps j (toldD j t :: r)
theorem gaps_rows (L : List (Nat × List Int)) : ∀ (js : List Nat) (lo : Nat), js.Pairwise (· < ·) → (∀ j ∈ js, lo ≤ j) → Gaps lo (rowsD L lo js)
  | [], lo, _, _ => .nil lo
  | j :: r, lo, p, h => by
    have hj := h j (List.mem_cons_self)
    have ih := gaps_rows L r (j + 1) (List.pairwise_cons.mp p).2 fun k hk => (List.pairwise_cons.mp p).1 k hk
    show Gaps lo ((if lo < j then [gapD lo (j - 1)] else []) ++ (toldD j (textOf L j) :: rowsD L (j + 1) r))
    by_cases e : lo < j
    · rw [if_pos e]
      refine Gaps.gap (by omega) ?_
      rw [show j - 1 + 1 = j by omega]
      exact .told ih
    · rw [if_neg e]
      have e2 : lo = j := by omega
      rw [e2]
      exact .told ih
theorem gaps_told (z : Nat) (L : List (Nat × List Int)) (cs : List Nat) : Gaps 0 (rowsD L 0 (toldL z L cs)) :=
  gaps_rows L _ 0 (List.Pairwise.filter _ List.pairwise_lt_range) fun _ _ => Nat.zero_le _
theorem gaps_last : ∀ {lo : Nat} {ds : List PyData}, Gaps lo ds → ds ≠ [] → ∃ j t, ds.getLast? = some (toldD j t)
  | _, _, .nil _, h => absurd rfl h
  | _, _, .gap _ g, _ => by
    obtain ⟨j, t, e⟩ := gaps_last g (by simp)
    exact ⟨j, t, by rw [List.getLast?_cons_cons]; exact e⟩
  | _, _, .told (r := []) g, _ => ⟨_, _, rfl⟩
  | _, _, .told (r := d :: r) g, _ => by
    obtain ⟨j, t, e⟩ := gaps_last g (by simp)
    exact ⟨j, t, by rw [List.getLast?_cons_cons]; exact e⟩
/-! ### the first frames tell the first tellings -/
theorem filter_down {p : Nat → Bool} : ∀ n : Nat, (∀ i j, i ≤ j → j < n → p j = true → p i = true) → (List.range n).filter p = List.range ((List.range n).filter p).length
  | 0, _ => rfl
  | n + 1, h => by
    rw [List.range_succ, List.filter_append]
    by_cases e : p n = true
    · have e1 : (List.range n).filter p = List.range n := List.filter_eq_self.mpr fun i hi => h i n (Nat.le_of_lt (List.mem_range.mp hi)) (by omega) e
      rw [e1, List.filter_cons_of_pos e, List.filter_nil, List.length_append, List.length_range, ← List.range_succ]
      rfl
    · rw [List.filter_cons_of_neg e, List.filter_nil, List.append_nil]
      exact filter_down n fun i j h1 h2 => h i j h1 (by omega)
theorem told_down {z : Nat} {N : List Int} {L : List (Nat × List Int)} (hz : 0 < z) (h : Lays z N L) {low i j : Nat} (hij : i ≤ j) (hj : toldJ z L (List.range low) j = true) : toldJ z L (List.range low) i = true := by
  rcases Nat.eq_or_lt_of_le hij with e | e
  · rw [e]; exact hj
  unfold toldJ at hj ⊢
  cases ej : L[j]? with
  | none => rw [ej] at hj; cases hj
  | some x =>
    rw [ej] at hj
    have hjl := (List.getElem?_eq_some_iff.mp ej).1
    have hil : i < L.length := by omega
    have hi1 : i + 1 < L.length := by omega
    have ei := List.getElem?_eq_getElem hil
    have ei1 := List.getElem?_eq_getElem hi1
    rw [ei]
    have h1 := covers_iff.mp hj 0 (by omega)
    have h2 : L[i].1 + (L[i].2.length + 3) ≤ L[i + 1].1 := by
      rcases h.next i _ _ _ _ (by rw [ei]) (by rw [ei1]) with e | ⟨_, e⟩
      · omega
      · have := div_hi hz (L[i].1 + (L[i].2.length + 3))
        omega
    have h3 : L[i + 1].1 ≤ x.1 := h.S_at (show i + 1 ≤ j by omega) (by rw [List.getElem?_map, ei1]; rfl) (by rw [List.getElem?_map, ej]; rfl)
    refine covers_iff.mpr fun k hk => List.mem_range.mpr ?_
    have h4 := List.mem_range.mp h1
    exact Nat.lt_of_le_of_lt (Nat.div_le_div_right (by omega)) h4
theorem told_first {z : Nat} {N : List Int} {L : List (Nat × List Int)} (hz : 0 < z) (h : Lays z N L) (low : Nat) : toldL z L (List.range low) = List.range (toldL z L (List.range low)).length :=
  filter_down _ fun i j hij _ hj => told_down hz h hij hj
/-- apart -/
theorem told_apart {z : Nat} {L : List (Nat × List Int)} {cs cs' : List Nat} (h : ∀ c, c ∈ cs → c ∉ cs') {j : Nat} (hj : j ∈ toldL z L cs) (hj' : j ∈ toldL z L cs') : False := by
  have h1 := (List.mem_filter.mp hj).2
  have h2 := (List.mem_filter.mp hj').2
  unfold toldJ at h1 h2
  cases e : L[j]? with
  | none => rw [e] at h1; cases h1
  | some x =>
    rw [e] at h1 h2
    exact h _ (covers_iff.mp h1 0 (by omega)) (covers_iff.mp h2 0 (by omega))
theorem eqv_gap_told (a b j : Nat) (t : List Int) : PyData.eqv (gapD a b) (toldD j t) = false := by
  have e : (("gap" : Str) == "told") = false := by decide +kernel
  unfold gapD toldD
  simp [PyData.eqv, PyData.eqvAll, e]
theorem eqv_told_told {i j : Nat} (h : i ≠ j) (t u : List Int) : PyData.eqv (toldD i u) (toldD j t) = false := by
  have e : (((i : Nat) : Int) == ((j : Nat) : Int)) = false := by
    rw [beq_eq_false_iff_ne]
    omega
  unfold toldD
  simp only [PyData.eqv, PyData.eqvAll, e, Bool.false_and, Bool.and_false]
theorem rows_apart {z : Nat} {L : List (Nat × List Int)} {cs cs' : List Nat} (h : ∀ c, c ∈ cs → c ∉ cs') {j : Nat} (hj : j ∈ toldL z L cs) : ((rowsD L 0 (toldL z L cs')).any fun w => PyData.eqv w (toldD j (textOf L j))) = false := by
  rw [List.any_eq_false]
  intro w hw
  rcases rows_mem hw with ⟨a, b, rfl⟩ | ⟨k, hk, rfl⟩
  · rw [eqv_gap_told]; decide
  · rw [eqv_told_told (fun e => told_apart h hj (by rw [← e]; exact hk))]; decide
theorem TDs.drop {H : Hp} : ∀ {vs : List V} {ds : List PyData} (k : Nat), TDs H vs ds → TDs H (vs.drop k) (ds.drop k)
  | _, _, 0, h => h
  | _, _, _ + 1, .nil => .nil
  | _, _, k + 1, .cons _ t => TDs.drop k t
theorem TDs.take {H : Hp} : ∀ {vs : List V} {ds : List PyData} (k : Nat), TDs H vs ds → TDs H (vs.take k) (ds.take k)
  | _, _, 0, _ => .nil
  | _, _, _ + 1, .nil => .nil
  | _, _, k + 1, .cons h t => .cons h (TDs.take k t)
end Sky

/-! Rules of my own: a dict comprehension over a list, stored in a name; sorted of a dict with any number of ints for keys. -/
namespace Sky
open PySem PySem.Spec PyProof.Rows L2
section
variable {K : PySem.W.Frag}
/-- a dict comprehension's turns over a list that stands still -/
theorem dc_list {l : Addr} {ys : List V} {g : TG} {tt : TT} {tk tv : TE} {ws : List Nat} {τ : L2.St} {G : Hp} {dd : Addr} {fin : Hp → Prop} (Pv : Nat → Hp → Prop)
    (start : Pv 0 (upd G dd (.dK []))) (stays : ∀ i H, i ≤ ys.length → Pv i H → SqL K H l ys)
    (turn : ∀ i x H, ys[i]? = some x → Pv i H → g x (wipe τ ws) H fun σ2 H2 => wipe σ2 ws = wipe τ ws ∧ tt σ2 H2 fun b H3 =>
      if b = true then (tk σ2 H3 fun y H4 => tv σ2 H4 fun z H5 => ∃ kvs k, y = kV k ∧ H5 dd = some (.dK kvs) ∧ kvs.length < sizeLine ∧ Pv (i + 1) (upd H5 dd (.dK (putK kvs k z))))
      else Pv (i + 1) H3)
    (last : ∀ H, Pv ys.length H → fin H) :
    ∃ W : Nat → Nat → Hp → Prop, (∃ m, W 0 m (upd G dd (.dK []))) ∧ ∀ i m H, W i m H →
      ((Itl K l).stop i H ∧ fin H) ∨ ((Itl K l).go i H ∧ ∃ Nx : Hp → Prop, (∀ H', Nx H' → ∃ m', m' < m ∧ W (i + 1) m' H') ∧
        ∀ x H', (Itl K l).yld i H x H' → g x (wipe τ ws) H' fun σ2 H2 => wipe σ2 ws = wipe τ ws ∧ tt σ2 H2 fun b H3 =>
          if b = true then (tk σ2 H3 fun y H4 => tv σ2 H4 fun z H5 => ∃ kvs k, y = kV k ∧ H5 dd = some (.dK kvs) ∧ kvs.length < sizeLine ∧ Nx (upd H5 dd (.dK (putK kvs k z)))) else Nx H3) := by
  refine ⟨fun i m H => i ≤ ys.length ∧ m = ys.length - i ∧ Pv i H, ⟨ys.length, Nat.zero_le _, (Nat.sub_zero _).symm, start⟩, ?_⟩
  rintro i m H ⟨le, rfl, hv⟩
  have there := stays i H le hv
  by_cases lt : i < ys.length
  · refine .inr ⟨⟨ys, ys[i], there, List.getElem?_eq_getElem lt⟩, Pv (i + 1), fun H' w => ⟨ys.length - (i + 1), by omega, lt, rfl, w⟩, ?_⟩
    rintro x H' ⟨e, hy⟩
    subst e
    exact turn i x _ (hy ys there) hv
  · have e : i = ys.length := by omega
    subst e
    exact .inl ⟨⟨ys, there, Nat.le_refl _⟩, last H hv⟩
/-- enumerate(ys): each turn a new pair -/
theorem for_enum {l : Addr} {ys : List V} {g : TG} {tb : L2.TS} {D : Ends} {τ : L2.St} {G : Hp} (Pv : Nat → L2.St → Hp → Prop) (start : Pv 0 τ G) (stays : ∀ i σ H, i ≤ ys.length → Pv i σ H → SqL K H l ys)
    (turn : ∀ i x σ H T, ys[i]? = some x → Pv i σ H → H T = none → g (.ref T) σ (upd H T (.tup [.int (i : Nat), x])) fun σ2 H2 => tb { D with nx := Pv (i + 1), ct := Pv (i + 1), bk := D.nx } σ2 H2)
    (last : ∀ σ H, Pv ys.length σ H → D.nx σ H) :
    ∃ W : Nat → Nat → L2.St → Hp → Prop, (∃ m, W 0 m τ G) ∧ ∀ i m σ H, W i m σ H →
      ((Ite K l).stop i H ∧ D.nx σ H) ∨ ((Ite K l).go i H ∧ ∃ N : L2.St → Hp → Prop, (∀ σ' H', N σ' H' → ∃ m', m' < m ∧ W (i + 1) m' σ' H') ∧
        ∀ x H', (Ite K l).yld i H x H' → g x σ H' fun σ2 H2 => tb { D with nx := N, ct := N, bk := D.nx } σ2 H2) := by
  refine ⟨fun i m σ H => i ≤ ys.length ∧ m = ys.length - i ∧ Pv i σ H, ⟨ys.length, Nat.zero_le _, (Nat.sub_zero _).symm, start⟩, ?_⟩
  rintro i m σ H ⟨le, rfl, hv⟩
  have there := stays i σ H le hv
  by_cases lt : i < ys.length
  · refine .inr ⟨⟨ys, ys[i], there, List.getElem?_eq_getElem lt⟩, Pv (i + 1), fun σ' H' w => ⟨ys.length - (i + 1), by omega, lt, rfl, w⟩, ?_⟩
    rintro x H' ⟨T, y, rfl, hT, rfl, hy⟩
    exact turn i y σ H T (hy ys there) hv hT
  · have e : i = ys.length := by omega
    subst e
    exact .inl ⟨⟨ys, there, Nat.le_refl _⟩, last σ H hv⟩
/-! ### the keys of a dict -/
theorem len_of_sub {α : Type} [DecidableEq α] : ∀ {xs l : List α}, xs.Nodup → (∀ x ∈ xs, x ∈ l) → xs.length ≤ l.length
  | [], _, _, _ => Nat.zero_le _
  | x :: xs, l, nd, h => by
    have nd' := List.nodup_cons.mp nd
    have hx := h x (List.mem_cons_self ..)
    have ih := len_of_sub (l := l.erase x) nd'.2 fun y hy => (List.mem_erase_of_ne (fun e => nd'.1 (by rw [← e]; exact hy))).mpr (h y (List.mem_cons_of_mem _ hy))
    have h2 := List.length_erase_of_mem hx
    have h3 := List.length_pos_of_mem hx
    rw [List.length_cons]
    omega
theorem mem_keys {kvs : List (Key × V)} {k : Key} : k ∈ kvs.map (·.1) ↔ (valV kvs k).isSome = true := by
  rw [← valV_any, List.any_eq_true, List.mem_map]
  exact ⟨fun ⟨kv, hm, e⟩ => ⟨kv, hm, decide_eq_true e⟩, fun ⟨kv, hm, e⟩ => ⟨kv, hm, of_decide_eq_true e⟩⟩
theorem keys_put {kvs : List (Key × V)} {k : Key} {v : V} (nd : (kvs.map (·.1)).Nodup) : ((putK kvs k v).map (·.1)).Nodup := by
  cases e : valV kvs k with
  | none =>
    rw [L2.putK_new v e, List.map_append]
    refine List.nodup_append.mpr ⟨nd, by simp, fun a ha b hb => ?_⟩
    rw [List.mem_singleton.mp hb]
    intro q
    subst q
    have := mem_keys.mp ha
    rw [e] at this
    cases this
  | some x =>
    have h : (kvs.any fun kv => decide (kv.1 = k)) = true := by rw [valV_any, e]; rfl
    unfold putK
    rw [if_pos h, List.map_map]
    have : ((fun x : Key × V => x.1) ∘ fun kv : Key × V => if kv.1 = k then (kv.1, v) else kv) = fun x => x.1 := by
      funext kv
      show (if kv.1 = k then (kv.1, v) else kv).1 = kv.1
      split <;> rfl
    rw [this]
    exact nd
theorem keys_ints' : ∀ {kvs : List (Key × V)}, (∀ k ∈ kvs.map (·.1), ∃ i : Int, k = Sum.inl i) → ∃ ks : List Int, kvs.map (·.1) = ks.map Sum.inl
  | [], _ => ⟨[], rfl⟩
  | kv :: r, h => by
    obtain ⟨i, e⟩ := h kv.1 (by simp)
    obtain ⟨ks, e'⟩ := keys_ints' (kvs := r) fun k hk => h k (by rw [List.map_cons]; exact List.mem_cons_of_mem _ hk)
    exact ⟨i :: ks, by rw [List.map_cons, List.map_cons, e, e']⟩
end
section
variable {X : Cx}
theorem sw_trueD {kx vx : Expr} {gs : List Comprehension} {sc : Scope} {pos py : Pos} {y : Str} {l : Nat} {env : Env}
    (kind : env.scope.kind = .function) (isl : env.scope.names.lookup y = some .local) (line : (py.line == pos.line) = true)
    (free : (sc.names.any fun (n, k) => n == y && (k == .local || k == .cell)) = false) :
    swapsWith (.DictComp kx vx gs sc pos) (some (.Name y py)) l env = pure true := by
  have k1 : env.kindOf y = some .local := isl
  have k2 : env.blockKind = .function := by
    unfold Env.blockKind
    rw [kind]
    rfl
  unfold swapsWith
  simp only [k2, k1, free, Expr.pos, line]
  rfl
/-- name = {k: v for ..} on one line, the name a local -/
theorem ps_setDc {i : Nat} {y : Str} {py : Pos} {kx vx tg iter : Expr} {ifs : List Expr} {scope : Scope} {own : List (Str × Nat)} {pos spos : Pos} {wi : TI} {g : TG} {tt : TT} {tk tv : TE}
    (calm : X.calm = true) (hN : X.N.Nodup) (hy : X.N[i]? = some y) (loc : X.env.scope.names.lookup y = some .local)
    (sw : swapsWith (.DictComp kx vx [⟨tg, iter, ifs, 0⟩] scope pos) (some (.Name y py)) spos.line X.env = pure true)
    (hi : PI X tg iter wi) (ok : BlkOk X.N X.env.scope scope own)
    (hg : ∀ (s : Shared) (H : Hp) (C : Addr) (cl : List (Str × Addr)) (fp : List Addr), PG (X.blk s H scope (compEnvC scope cl C X.env) fp) tg g)
    (ht : ∀ (s : Shared) (H : Hp) (C : Addr) (cl : List (Str × Addr)) (fp : List Addr), PTs (X.blk s H scope (compEnvC scope cl C X.env) fp) ifs tt)
    (hk : ∀ (s : Shared) (H : Hp) (C : Addr) (cl : List (Str × Addr)) (fp : List Addr), PE (X.blk s H scope (compEnvC scope cl C X.env) fp) kx tk)
    (he : ∀ (s : Shared) (H : Hp) (C : Addr) (cl : List (Str × Addr)) (fp : List Addr), PE (X.blk s H scope (compEnvC scope cl C X.env) fp) vx tv)
    (hs : ∀ x, foldedSetIterable iter X.env x = pure x := by intro _; rfl) :
    PS X (.Assign [.Name y py] (.DictComp kx vx [⟨tg, iter, ifs, 0⟩] scope pos) spos) (tAsg (tDc wi g tt tk tv (own.map (·.2))) (gName i)) := by
  constructor
  intro pins s σ H D I h
  rw [exec_Assign_Name_used _ _ _ _ sw]
  apply wpAny_bind
  apply wpAny_standAt
  apply wpAny_bind
  have want : tDc wi g tt tk tv (own.map (·.2)) σ H (fun x H1 => gName i x σ H1 D.nx) := h
  show wpAny _ X.A (do
    let _ ← comprehension (.DictComp kx vx [⟨tg, iter, ifs, 0⟩] scope pos) scope X.env (firstIterPos [⟨tg, iter, ifs, 0⟩] pos) newDict false (eval iter X.env) (some (assign (.Name y py) X.env))) _ _ s
  apply wpAny_bind
  refine thn (dc_core (Qf := fun _ s' => SP X pins D .next s') calm hN I hi ok hg ht hk he hs want ?_) fun _ s' q => wpAny_pure (wpAny_pure q)
  intro L C s' m H' J q hn fp
  show wpAny _ _ (assign (.Name y py) X.env (.ref L)) _ _ _
  refine wpAny_assign_Name (store_ok2 (v := V.ref L) J hN hy (.inl loc) rfl ?_ (.inr loc))
  rintro s2 J2 ⟨a, sb, ha⟩
  obtain ⟨u0, u1, u2, u3, u4, u5⟩ := fp
  have apart : C ≠ a := by
    rcases ha with z | z
    · rw [z]
      exact u1
    · exact fun e => u4 y a z e.symm
  refine ⟨m, hn.sameBut sb apart, fun h3 sb3 => ⟨_, H', ?_, q⟩⟩
  exact J2.turned (t' := s2.toks) (fun b o hb e => (sb3.2 b hb).trans e) u0 u1 u3 u4 u5
theorem u65 {k : Nat} {A : Around} (r : Room k A) : A.units + 65 < cLine := by
  have := r.un
  omega
theorem op_notInDK {K : PySem.W.Frag} (h : X.K = K) (hu : X.A.units + 65 < cLine) : OpR X (compareOp .NotIn) (rNotInD K) := h ▸ op_notInD hu
theorem op_catTK {K : PySem.W.Frag} (h : X.K = K) : OpR X (binaryOp .Add) (rCatT K) := h ▸ op_catT
theorem op_inDK {K : PySem.W.Frag} (h : X.K = K) (hu : X.A.units + 65 < cLine) : OpR X (compareOp .In) (rInD K) := h ▸ op_inD hu
/-- sorted(d): the keys all ints, any number of them -/
def rSortDk : List V → Hp → VK → Prop := fun xs H Q => ∃ (a : Addr) (kvs : List (Key × V)) (ks : List Int), xs = [.ref a] ∧ H a = some (.dK kvs) ∧ kvs.map (·.1) = ks.map Sum.inl ∧
  ∀ (ys : List Int) (p : Addr), ys.Perm ks → ys.Pairwise (· ≤ ·) → H p = none → Q (.ref p) (upd H p (.lst (ys.map V.int)))
theorem keys_ints {P : Program} {w : World} : ∀ {vs : List (Key × Value)} {us : List Value} {ks : List Int}, vs.map (·.1) = ks.map Sum.inl → us.length = vs.length →
    (∀ (j : Nat) (v : Value), us[j]? = some v → ∃ k x, vs[j]? = some (k, x) ∧ (mixKind P w).is k v = true) → IntsAre us ks
  | [], [], [], _, _, _ => .nil
  | [], [], _ :: _, e, _, _ => by simp at e
  | _ :: _, _, [], e, _, _ => by simp at e
  | [], _ :: _, _, _, e, _ => by simp at e
  | _ :: _, [], _, _, e, _ => by simp at e
  | (k, x) :: vs, u :: us, n :: ks, e, l, h => by
    rw [List.map_cons, List.map_cons] at e
    injection e with e1 e2
    obtain ⟨k', x', a, b⟩ := h 0 u rfl
    have ek : (k, x) = (k', x') := Option.some.inj a
    injection ek with ek _
    subst ek
    have ek : k = Sum.inl n := e1
    subst ek
    rcases keyIs_shape (show keyIs (Sum.inl n) u = true from b) with ⟨i, t, q, eu⟩ | ⟨z, t, q, eu⟩
    · cases q
      subst eu
      exact .cons _ _ (keys_ints (P := P) (w := w) e2 (by simpa using l) fun j v hv => by
        obtain ⟨k2, x2, c, d⟩ := h (j + 1) v (by simpa using hv)
        exact ⟨k2, x2, by simpa using c, d⟩)
    · cases q
theorem call_sortedDk (calm : X.calm = true) : CallR X (.builtin "sorted") rSortDk := by
  intro pins s σ H xs us Q I r h
  obtain ⟨a, kvs, ks, rfl, hd, hks, fin⟩ := h
  obtain ⟨u, rfl, ru⟩ := vals1 r
  cases ru
  obtain ⟨small, lo, vs, rel, held⟩ := dk_rd I.hok (Rd.of hd)
  obtain ⟨ep, there⟩ := held.dictAt
  have keys : vs.map (·.1) = ks.map Sum.inl := rel.keys.symm.trans hks
  have many : vs.length = ks.length := by
    have e := congrArg List.length keys
    rwa [List.length_map, List.length_map] at e
  have kvl : kvs.length = ks.length := by
    have e := congrArg List.length hks
    rwa [List.length_map, List.length_map] at e
  have line : vs.length ≤ sizeLine := by rw [many, ← kvl]; exact small
  refine Calls.call_function_entry kind_sorted plain_sorted entry_sorted (args_sorted1 _) ?_
  unfold Builtin.«sorted»
  apply wpAny_bind (m := checkCount "sorted" 1 1 _)
  apply wpAny_pure
  apply wpAny_bind
  refine PySem.W.kdu_collect (A := X.A.in1) (PySem.W.kdl_dict (knd := mixKind X.prog X.w) (kvs := vs) (ep := ep) lo) (I.ok.hd calm) there line ?_
  intro h1 tk acc kept items
  have len : acc.toList.length = vs.length := by rw [Array.length_toList]; exact items.1
  have nums : IntsAre acc.toList ks := keys_ints (P := X.prog) (w := X.w) keys len fun j v e => by
    obtain ⟨k, x, e1, e2⟩ := items.2 j v (by rw [← Array.getElem?_toList]; exact e)
    exact ⟨k, x, e1, e2⟩
  have J : Inv X pins σ H { s with heap := h1, toks := tk } := I.kept kept
  have line' : acc.toList.length ≤ sizeLine := by rw [len]; exact line
  apply wpAny_bind
  refine wpAny_newList ?_ line'
  have laid : (h1.push (seqObj "list" acc.toList.toArray 0)).get? h1.objs.size = some (seqObj "list" acc.toList.toArray 0) := Heap.get?_push_size _ rfl
  show wpAny _ _ _ _ _ { s with heap := h1.push (seqObj "list" acc.toList.toArray 0), toks := tk }
  apply wpAny_bind
  apply wpAny_holding
  refine wpAny_call_entry slot_list_sort ⟨_, laid, rfl⟩ entry_list_sort ?_ (args_list_sort _)
  refine SrtO.list_sort_ord (s := { s with heap := h1.push (seqObj "list" acc.toList.toArray 0), toks := tk }) SrtO.swo_int laid line' (fun two => SrtO.ints_sortable nums two) ?_
  intro out srt stb
  refine ⟨_, rfl, ?_⟩
  obtain ⟨g1, g2, g3⟩ := SrtO.ints_out nums srt stb
  obtain ⟨e', at'⟩ := sortedHeap_at (vs := acc.toList) (out := out.toArray) laid
  have fits : ((out.map SrtO.iv).map V.int).length ≤ sizeLine := by
    rw [List.length_map, g2.length_eq, ← kvl]
    exact small
  refine wpAny_pure ⟨_, rfl, .ref h1.objs.size, upd H h1.objs.size (.lst ((out.map SrtO.iv).map V.int)), ?_, rfl, fin _ _ g2 g3 (J.hok.fresh (Nat.le_refl _))⟩
  refine J.laid (t' := tk) ?_ (Nat.le_refl _) ⟨fits, out, e', vals_of_ints g1, at'⟩
  intro b o e
  have lt : b < h1.objs.size := Heap.lt_size e
  rw [sortedHeap_old (Nat.ne_of_lt lt) (by rw [size_push']; exact Nat.lt_succ_of_lt lt)]
  exact Heap.get?_push_of_some _ e
end
end Sky

/-! list(d.values()) -/
namespace L2
open PySem PySem.Spec PyProof.Rows
section
variable {X : Cx} {o : Expr} {p pos apos mpos : Pos} {td : TE}
/-- list(o.values()): the values as they stand -/
def tListVals (td : TE) : TE := fun σ H Q => td σ H fun x H1 => ∃ a kvs, x = V.ref a ∧ H1 a = some (.dK kvs) ∧ ∀ q, H1 q = none → Q (.ref q) (upd H1 q (.lst (kvs.map (·.2))))
/-- the view that o.values() lays down -/
abbrev viewObj (a : Addr) : Obj := { cls := .type "dict_values", data := .fields #[.ref a] }
abbrev valuesCall (o : Expr) (pa pm : Pos) : Expr := .Call (.Attribute o "values" pa) [] [] pm
theorem pe_listVals (calm : X.calm = true) (free : Gl X "list") (unset : X.mg "list" = none) (sub : PE X o td)
    (plain : attributeBase o "values" X.env (eval o X.env) = eval o X.env := by rfl) (line : (apos.endLine == mpos.line) = true := by rfl)
    (star : starEach [valuesCall o apos mpos] X.env = [(false, eval (valuesCall o apos mpos) X.env)] := by rfl) :
    PE X (.Call (.Name "list" p) [valuesCall o apos mpos] [] pos) (tListVals td) := by
  constructor
  intro pins s σ G R inv told
  refine wpAny_Call_Name_kw (ld_blt inv free unset (u := .type "list") (by first | rfl | decide +kernel) ?_ (by decide +kernel) (by decide +kernel))
  rw [star]
  refine PySem.callWith_type1 (wpAny_Call_method0_late plain line ?_)
  refine thn (sub.run pins s σ G _ inv told) ?_
  rintro v t ⟨x, G1, inv1, rx, a, kvs, rfl, isD, fin⟩
  cases rx
  obtain ⟨few, low, ws, rel, held⟩ := dk_of inv1.hok isD
  obtain ⟨ep, stands⟩ := held.dictAt
  have copy := stands
  obtain ⟨ob, _, at', exact', _⟩ := copy
  refine ⟨"dict", "dict.values", F.plainAttrs_dict, F.slot_dict_values,
    F.type_dict_values, ⟨ob, at', exact'.1⟩, ?_, Calls.callWith_builtin rfl (PySem.evalArgs_none ?_)⟩
  · intro _ same
    cases same
    exact ⟨ob, at', exact'.2.1⟩
  refine call_meetsIn F.slot_dict_values ⟨ob, at', exact'.1⟩
    F.entry_dict_values (F.args_dict_values_1 _)
    (meets_dict_values (mixKind X.prog X.w) a low) ⟨⟨ws, held⟩, ?_⟩
  have grown : ∀ b u, t.heap.get? b = some u → (t.heap.push (viewObj a)).get? b = some u := fun _ _ => Heap.get?_push_of_some _
  have still : (t.heap.push (viewObj a)).DictAt (mixKind X.prog X.w) a ws ep := stands.keep grown
  have many : kvs.length = ws.length := KV.length rel
  have more : (t.heap.push (viewObj a)).objs.size = t.heap.objs.size + 1 := Heap.size_push _ _
  have behind : t.heap.objs.size ≤ (t.heap.push (viewObj a)).objs.size := by omega
  refine PySem.W.kdl_call (PySem.W.kdl_values (knd := mixKind X.prog X.w) (kvs := ws) (ep := ep))
    (inv.ok.hd calm) ⟨⟨_, Heap.get?_push_size _ rfl, rfl, rfl⟩, still⟩ (by rw [← many]; exact few) ?_
  intro h2 tk acc c kept laid items
  have ok : ObjOk X.prog X.w (upd G1 (t.heap.push (viewObj a)).objs.size (.lst (kvs.map (·.2)))) h2 (t.heap.push (viewObj a)).objs.size (.lst (kvs.map (·.2))) := by
    refine ⟨by rw [List.length_map]; exact few, acc.toList, c, ?_, by rw [Array.toArray_toList]; exact laid⟩
    have size : acc.toList.length = acc.size := by simp
    apply vals_of_at
    · rw [List.length_map, size, items.1, many]
    · intro j x u ex eu
      obtain ⟨k, ek⟩ := items.2 j u (by rw [← Array.getElem?_toList]; exact eu)
      obtain ⟨y, ey, ry⟩ := KV.at' rel ek
      rw [List.getElem?_map, ey] at ex
      cases ex
      exact ry
  exact ⟨.ref _, _, inv1.laid (fun b u e => kept b u (grown b u e)) behind ok, rfl, fin _ (inv1.hok.fresh behind)⟩
/-! max(d, default=n) of a dict whose keys are ints -/
def rMaxDk : List V → List V → Hp → VK → Prop := fun vs zs H Q => ∃ (a : Addr) (kvs : List (Key × V)) (ks : List Int) (d : Int), vs = [V.ref a] ∧ zs = [V.int d] ∧ H a = some (.dK kvs) ∧ kvs.map (·.1) = ks.map Sum.inl ∧ (ks = [] → Q (.int d) H) ∧ ∀ m, m ∈ ks → (∀ j ∈ ks, j ≤ m) → Q (.int m) H
theorem argBest_gt (f : Nat → Int) : ∀ n : Nat, PySem.argBest (fun i j => decide (f i > f j)) n ≤ n ∧ ∀ i, i ≤ n → f i ≤ f (PySem.argBest (fun i j => decide (f i > f j)) n)
  | 0 => ⟨Nat.le_refl _, fun i hi => by
      have : i = 0 := by omega
      subst this
      exact Int.le_refl _⟩
  | n + 1 => by
    obtain ⟨h1, h2⟩ := argBest_gt f n
    have e : PySem.argBest (fun i j => decide (f i > f j)) (n + 1) = if decide (f (n + 1) > f (PySem.argBest (fun i j => decide (f i > f j)) n)) = true then n + 1 else PySem.argBest (fun i j => decide (f i > f j)) n := rfl
    rw [e]
    by_cases c : f (n + 1) > f (PySem.argBest (fun i j => decide (f i > f j)) n)
    · rw [if_pos (decide_eq_true c)]
      refine ⟨Nat.le_refl _, fun i hi => ?_⟩
      rcases Nat.lt_or_ge i (n + 1) with z | z
      · have := h2 i (by omega)
        omega
      · have : i = n + 1 := by omega
        subst this
        exact Int.le_refl _
    · rw [if_neg (by rw [decide_eq_true_eq]; exact c)]
      refine ⟨by omega, fun i hi => ?_⟩
      rcases Nat.lt_or_ge i (n + 1) with z | z
      · exact h2 i (by omega)
      · have : i = n + 1 := by omega
        subst this
        omega
theorem cr_maxDk (hc : X.calm = true) : CallRK X (.builtin "max") [Str.ofString "default"] rMaxDk := by
  intro pins s σ H vs zs us ws Q I r rz h
  obtain ⟨a, kvs, ks, d, rfl, rfl, ha, hks, q0, q1⟩ := h
  obtain rfl := Vals.ref1 r
  obtain ⟨w1, rfl, e1⟩ := vals1 rz
  obtain ⟨td, rfl⟩ : ∃ t, w1 = Value.int d t := e1
  obtain ⟨z, lo, vs, rel, held⟩ := dk_rd I.hok (Rd.of ha)
  obtain ⟨ep, there⟩ := held.dictAt
  have keys : vs.map (·.1) = ks.map Sum.inl := rel.keys.symm.trans hks
  have many : vs.length = ks.length := by
    have e := congrArg List.length keys
    rwa [List.length_map, List.length_map] at e
  have hval : ∀ (i : Nat) (v : Value), (∃ k x, vs[i]? = some (k, x) ∧ (mixKind X.prog X.w).is k v = true) → ∃ t, v = Value.int (ks.getD i 0) t := fun i v ⟨k, x, e1, e2⟩ => by
    have h1 : (vs.map (·.1))[i]? = some k := by rw [List.getElem?_map, e1] <;> rfl
    rw [keys, List.getElem?_map] at h1
    obtain ⟨j, hj, ek⟩ := Option.map_eq_some_iff.mp h1
    subst ek
    rcases keyIs_shape (k := Sum.inl j) (v := v) e2 with ⟨i', t, g1, g2⟩ | ⟨x', t, g1, g2⟩
    · injection g1 with g1
      subst g1
      exact ⟨t, by rw [g2, List.getD_eq_getElem?_getD, hj] <;> rfl⟩
    · cases g1
  obtain ⟨oI, St, hit, W, st0⟩ := (PySem.W.kdl_dict (prog := X.prog) (w := X.w) (knd := mixKind X.prog X.w) (kvs := vs) (ep := ep) lo).iter X.A.in1 s (I.ok.hd hc) there
  have hlt := there.lt_size
  refine PySem.call_max_walkD (hit _ _ ⟨_, _, _, _, _, _, _, s.heap, (fun i j => decide (ks.getD i 0 > ks.getD j 0)), rfl, W.toS, st0, fun b hb => ?_, fun b o e hb => ?_, fun b o e => Heap.get?_push_of_some _ e, fun hz s' m => ?_, fun hp => ⟨fun i j vi vj s2 Q E _ hi hj hq => CmpOf.ints_gt (fun i => ks.getD i 0) hval i j vi vj s2 Q E hi hj hq, fun v s' hP m => ?_⟩⟩)
  · show b < (s.heap.push _).objs.size
    rw [Heap.size_push]
    rcases List.mem_cons.mp hb with e | hb
    · rw [e]
      exact Nat.lt_succ_self _
    · rw [List.mem_singleton.mp hb]
      exact Nat.lt_succ_of_lt hlt
  · exact absurd (Heap.lt_size e) ((List.mem_singleton.mp hb) ▸ Nat.lt_irrefl _)
  · obtain ⟨h', tk, rfl, hk'⟩ := PySem.W.moved_old rfl rfl m
    exact ⟨.int d, H, I.kept (t' := tk) hk', ⟨td, rfl⟩, q0 (List.eq_nil_of_length_eq_zero (by omega))⟩
  · obtain ⟨h', tk, rfl, hk'⟩ := PySem.W.moved_old rfl rfl m
    obtain ⟨t, rfl⟩ := hval _ v hP
    obtain ⟨b1, b2⟩ := argBest_gt (fun i => ks.getD i 0) (vs.length - 1)
    have hb : PySem.argBest (fun i j => decide (ks.getD i 0 > ks.getD j 0)) (vs.length - 1) < ks.length := by omega
    refine ⟨.int _, H, I.kept (t' := tk) hk', ⟨t, rfl⟩, q1 _ ?_ fun j hj => ?_⟩
    · rw [List.getD_eq_getElem?_getD, List.getElem?_eq_getElem hb]
      exact List.getElem_mem hb
    · obtain ⟨i, hi, e⟩ := List.mem_iff_getElem.mp hj
      have e2 : ks.getD i 0 = j := by rw [List.getD_eq_getElem?_getD, List.getElem?_eq_getElem hi, ← e] <;> rfl
      rw [← e2]
      exact b2 i (by omega)
/-! a list walked within a comprehension: the written part is told -/
theorem pi_listK {K : PySem.W.Frag} {X : Cx} {tg e : Expr} {te : TE} (h : X.K = K) (he : PE X e te) : PI X tg e (iList K te) := h ▸ pi_list he
end
end L2

/-! A rule of my own: name = {k: v for .. in .. for .. in ..}, keys ints or texts, no tests. -/
namespace Sky
open PySem PySem.Spec PyProof.Rows L2
/-- the comprehension -/
abbrev dc2 (kx vx ta ia tb ib : Expr) (sc : Scope) (ps : Pos) : Expr := .DictComp kx vx [⟨ta, ia, [], 0⟩, ⟨tb, ib, [], 0⟩] sc ps
section
variable (kx vx ta ia tb ib : Expr) (sc : Scope) (ps : Pos) (it acc : Value) (D : Addr) (en : Env)
theorem dc2_outer : compTurn (dc2 kx vx ta ia tb ib sc ps) 0 it acc en = (do
    standAt ia.pos
    let nx ← pyNext it
    match nx with
    | none => pure (.done .next)
    | some v => do
      letOwnedTupleGo ta it v
      assign ta en v
      let x ← eval ib en
      standAt ib.pos
      let x2 ← foldedSetIterable ib en x
      let j ← holding [x2] (pyIter x2)
      let _ ← runOwn (.compStart (dc2 kx vx ta ia tb ib sc ps) 1 j acc en) en
      again (.compLoop (dc2 kx vx ta ia tb ib sc ps) 0 it acc en)) := by rfl
theorem dc2_inner : compTurn (dc2 kx vx ta ia tb ib sc ps) 1 it (.ref D) en = (do
    standAt ib.pos
    let nx ← pyNext it
    match nx with
    | none => pure (.done .next)
    | some v => do
      letOwnedTupleGo tb it v
      assign tb en v
      (do
        let kv ← eval kx en
        let vv ← holding [kv] (eval vx en)
        standAt { kx.pos with endLine := vx.pos.endLine, endCol := vx.pos.endCol }
        holding [kv, vv] (dictSet D kv vv))
      again (.compLoop (dc2 kx vx ta ia tb ib sc ps) 1 it (.ref D) en)) := by rfl
end
section
variable {prog : Program} {w : World} {A : Around} {R : Result → Shared → Prop} {s : Shared} {kx vx ta ia tb ib : Expr} {sc : Scope} {ps : Pos} {it acc : Value} {D : Addr} {en : Env}
/-- what a raise within does -/
abbrev off (prog : Program) (w : World) (A : Around) (en : Env) (R : Result → Shared → Prop) : Value → Shared → Prop := notedBy (model prog w) A en fun x t => R (.error x) t
theorem dc2_walk (fold : ∀ x, foldedSetIterable ib en x = pure x) (J : Nat → Shared → Prop)
    (step : ∀ n t, J n t → wpAny (model prog w) A (pyNext it) (fun got t1 => match got with
      | none => R (.ok .next) t1
      | some v => wpAny (model prog w) A (letOwnedTupleGo ta it v) (fun _ t2 => wpAny (model prog w) A (assign ta en v) (fun _ t3 =>
          wpAny (model prog w) A (eval ib en) (fun x t4 => wpAny (model prog w) A (pyIter x) (fun jt t5 =>
            codeAny (model prog w) A (.compStart (dc2 kx vx ta ia tb ib sc ps) 1 jt acc en) (fun r t6 => match r with
              | .ok _ => ∃ k, k < n ∧ J k t6
              | .error _ => False) t5) (off prog w A en R) t4) (off prog w A en R) t3) (off prog w A en R) t2) (off prog w A en R) t1) (off prog w A en R) t)
    (n : Nat) (start : J n s) : codeAny (model prog w) A (.compLoop (dc2 kx vx ta ia tb ib sc ps) 0 it acc en) R s := by
  apply codeAny_loop rfl J _ n start
  intro n t hJ
  show wpAny _ A ((compTurn (dc2 kx vx ta ia tb ib sc ps) 0 it acc en).onRaise (fun x => do noteFrame x en; theTreesLotGoes x)) _ _ t
  apply wpAny_noted
  rw [dc2_outer]
  apply wpAny_bind; apply wpAny_standAt; apply wpAny_bind
  refine wpAny_mono (step n t hJ) (fun got t1 h1 => ?_) fun _ _ z => z
  match got, h1 with
  | none, h1 => exact wpAny_pure h1
  | some v, h1 =>
    apply wpAny_bind
    refine wpAny_mono h1 (fun _ t2 h2 => ?_) fun _ _ z => z
    apply wpAny_bind
    refine wpAny_mono h2 (fun _ t3 h3 => ?_) fun _ _ z => z
    apply wpAny_bind
    refine wpAny_mono h3 (fun x t4 h4 => ?_) fun _ _ z => z
    apply wpAny_bind; apply wpAny_standAt; apply wpAny_bind
    refine wpAny_of_eq (fold x) ?_
    apply wpAny_bind; apply wpAny_holding
    refine wpAny_mono h4 (fun jt t5 h5 => ?_) fun _ _ z => z
    apply wpAny_bind
    refine wpAny_runOwn ?_
    rw [Around.mark_none]
    refine codeAny_mono h5 fun r t6 h6 => ?_
    match r, h6 with
    | .ok f, h6 => exact wpAny_pure ⟨rfl, h6⟩
    | .error e, h6 => exact False.elim h6
theorem dc2_walk1 (J : Nat → Shared → Prop)
    (step : ∀ n t, J n t → wpAny (model prog w) A (pyNext it) (fun got t1 => match got with
      | none => R (.ok .next) t1
      | some v => wpAny (model prog w) A (letOwnedTupleGo tb it v) (fun _ t2 => wpAny (model prog w) A (assign tb en v) (fun _ t3 =>
          wpAny (model prog w) A (eval kx en) (fun a t4 => wpAny (model prog w) A (eval vx en) (fun b t5 =>
            wpAny (model prog w) A (dictSet D a b) (fun _ t6 => ∃ k, k < n ∧ J k t6) (off prog w A en R) t5) (off prog w A en R) t4) (off prog w A en R) t3) (off prog w A en R) t2) (off prog w A en R) t1) (off prog w A en R) t)
    (n : Nat) (start : J n s) : codeAny (model prog w) A (.compLoop (dc2 kx vx ta ia tb ib sc ps) 1 it (.ref D) en) R s := by
  apply codeAny_loop rfl J _ n start
  intro n t hJ
  show wpAny _ A ((compTurn (dc2 kx vx ta ia tb ib sc ps) 1 it (.ref D) en).onRaise (fun x => do noteFrame x en; theTreesLotGoes x)) _ _ t
  apply wpAny_noted
  rw [dc2_inner]
  apply wpAny_bind; apply wpAny_standAt; apply wpAny_bind
  refine wpAny_mono (step n t hJ) (fun got t1 h1 => ?_) fun _ _ z => z
  match got, h1 with
  | none, h1 => exact wpAny_pure h1
  | some v, h1 =>
    apply wpAny_bind
    refine wpAny_mono h1 (fun _ t2 h2 => ?_) fun _ _ z => z
    apply wpAny_bind
    refine wpAny_mono h2 (fun _ t3 h3 => ?_) fun _ _ z => z
    apply wpAny_bind; apply wpAny_bind
    refine wpAny_mono h3 (fun a t4 h4 => ?_) fun _ _ z => z
    apply wpAny_bind; apply wpAny_holding
    refine wpAny_mono h4 (fun b t5 h5 => ?_) fun _ _ z => z
    apply wpAny_bind; apply wpAny_standAt; apply wpAny_holding
    refine wpAny_mono h5 (fun _ t6 h6 => ?_) fun _ _ z => z
    exact wpAny_pure ⟨rfl, h6⟩
/-- the inner clause begins -/
theorem dc2_start1 (self : codeAny (model prog w) A (.compLoop (dc2 kx vx ta ia tb ib sc ps) 1 it acc en) R s)
    (other : wpAny (model prog w) A (pyIter it) (fun jt t => codeAny (model prog w) A (.compLoop (dc2 kx vx ta ia tb ib sc ps) 1 jt acc en) R t) (off prog w A en R) s) :
    codeAny (model prog w) A (.compStart (dc2 kx vx ta ia tb ib sc ps) 1 it acc en) R s := by
  apply codeAny_of_tree
  show wpAny _ _ ((compStart (dc2 kx vx ta ia tb ib sc ps) 1 it acc en).onRaise (fun x => do noteFrame x en; standAt theWindowsPlace)) _ _ s
  apply wpAny_notedAt
  unfold compStart
  show wpAny _ _ (ask >>= _) _ _ s
  apply wpAny_bind; apply wpAny_askSetting; apply wpAny_ite
  split
  · exact wpAny_bind (wpAny_pure (wpAny_pure (And.intro rfl self)))
  · apply wpAny_bind; apply wpAny_rule
    show wpAny _ _ (standAt ib.pos >>= _) _ _ s
    apply wpAny_bind; apply wpAny_standAt; apply wpAny_bind
    exact wpAny_mono other (fun jt t h => wpAny_pure (And.intro rfl h)) fun _ _ z => z
end
section
variable {X : Cx}
/-- the reading: for each item of the first source the second source's own loop, from which the first's next turn is reached -/
def tDc2 (wi : TI) (ga : TG) (wj : TI) (gb : TG) (tk tv : TE) (va vb : List Nat) : TE := fun σ H Q =>
  wi σ H fun J G1 => ∀ D, G1 D = none →
    ∃ W : Nat → Nat → Hp → Prop, (∃ m, W 0 m (upd G1 D (.dK []))) ∧ ∀ i m G, W i m G →
      (J.stop i G ∧ Q (.ref D) G) ∨
      (J.go i G ∧ ∃ Nx : Hp → Prop, (∀ G', Nx G' → ∃ m', m' < m ∧ W (i + 1) m' G') ∧ ∀ x G', J.yld i G x G' →
        ga x (wipe σ va) G' fun τ G2 => wipe τ va = wipe σ va ∧
          wj τ G2 fun L G3 => ∃ V1 : Nat → Nat → Hp → Prop, (∃ k, V1 0 k G3) ∧ ∀ j k F, V1 j k F →
            (L.stop j F ∧ Nx F) ∨
            (L.go j F ∧ ∃ Ny : Hp → Prop, (∀ F', Ny F' → ∃ k', k' < k ∧ V1 (j + 1) k' F') ∧ ∀ y F', L.yld j F y F' →
              gb y (wipe τ vb) F' fun ρ F2 => wipe ρ vb = wipe τ vb ∧
                tk ρ F2 fun a F3 => tv ρ F3 fun b F4 => ∃ kvs key, a = kV key ∧ F4 D = some (.dK kvs) ∧ kvs.length < sizeLine ∧ Ny (upd F4 D (.dK (putK kvs key b)))))
theorem dc2_all {pins : List (Addr × Obj)} {u : Shared} {σ : L2.St} {H : Hp} {Q : VK} {kx vx ta ia tb ib : Expr} {sc : Scope} {own : List (Str × Nat)} {vb : List Nat} {ps pf : Pos} {wi wj : TI} {ga gb : TG} {tk tv : TE} {use : Option (Value → Sem Unit)} {Qf : Value → Shared → Prop}
    (calm : X.calm = true) (nd : X.N.Nodup) (I0 : Inv X pins σ H u) (pa : PI X ta ia wi) (ok : BlkOk X.N X.env.scope sc own) (sub : ∀ i ∈ vb, i ∈ own.map (·.2))
    (pga : ∀ (u : Shared) (G : Hp) (C : Addr) (cl : List (Str × Addr)) (fp : List Addr), PG (X.blk u G sc (compEnvC sc cl C X.env) fp) ta ga)
    (pb : ∀ (u : Shared) (G : Hp) (C : Addr) (cl : List (Str × Addr)) (fp : List Addr), PI (X.blk u G sc (compEnvC sc cl C X.env) fp) tb ib wj)
    (pgb : ∀ (u : Shared) (G : Hp) (C : Addr) (cl : List (Str × Addr)) (fp : List Addr), PG (X.blk u G sc (compEnvC sc cl C X.env) fp) tb gb)
    (pk : ∀ (u : Shared) (G : Hp) (C : Addr) (cl : List (Str × Addr)) (fp : List Addr), PE (X.blk u G sc (compEnvC sc cl C X.env) fp) kx tk)
    (pv : ∀ (u : Shared) (G : Hp) (C : Addr) (cl : List (Str × Addr)) (fp : List Addr), PE (X.blk u G sc (compEnvC sc cl C X.env) fp) vx tv)
    (fa : ∀ x, foldedSetIterable ia X.env x = pure x) (fb : ∀ en x, foldedSetIterable ib en x = pure x)
    (want : tDc2 wi ga wj gb tk tv (own.map (·.2)) vb σ H Q)
    (last : ∀ D C u' m G', Inv X pins σ G' u' → Q (.ref D) G' → u'.heap.Ns C m → FpOk X pins G' C → compPost (model X.prog X.w) X.A X.xe use Qf (.ref D) C (.ok .next) u') :
    wpAny (model X.prog X.w) X.A (comprehension (dc2 kx vx ta ia tb ib sc ps) sc X.env pf newDict false (eval ia X.env) use) Qf X.xe u := by
  have outer : ∀ y ∈ sc.names, y.2 = .free → ∃ c, X.env.cells.lookup y.1 = some c := by
    intro y hy e
    rcases ok.free y hy e with z | z
    · exact I0.ok.has _ (.inl z)
    · exact I0.ok.has _ (.inr z)
  refine wpAny_comprehension_free (use := use) rfl fa (closure_ok outer) ok.kind (fun y hy e => by rw [ok.uniq y hy, e]) ?_
  refine thn (pa.run pins u σ H _ I0 want) fun _ u1 h1 => thn h1 fun _ u2 h2 => ?_
  obtain ⟨src, fp, tn, J, G2, rfl, I2, T, at2, foot2, q⟩ := h2
  refine wpAny_newObj_type (newEnv_comp ?_)
  generalize eD : u2.heap.objs.size = D
  have freeD : G2 D = none := I2.hok.fresh (Nat.le_of_eq eD)
  obtain ⟨W, ⟨m0, begin0⟩, turn⟩ := q D freeD
  -- the dict that is filled
  generalize e3 : ({ u2 with heap := u2.heap.push { cls := .type "dict", data := .dict #[] } } : Shared) = u3
  have I3 : Inv X pins σ (upd G2 D (.dK [])) u3 := by
    subst e3
    refine I2.laid (t' := u2.toks) (fun b o e => Heap.get?_push_of_some _ e) (Nat.le_of_eq eD) ?_
    subst eD
    exact dk_empty u2.heap I2.big
  have push3 : u3.heap = u2.heap.push { cls := .type "dict", data := .dict #[] } := by subst e3; rfl
  have low : ∀ b ∈ fp, b < u2.heap.objs.size := by
    intro b hb
    obtain ⟨o, e, _⟩ := T.obj _ _ at2 b hb
    exact Heap.lt_size e
  have foot3 : ∀ b ∈ fp, FpOk X pins (upd G2 D (.dK [])) b ∧ b < u3.heap.objs.size := by
    intro b hb
    have lt := low b hb
    refine ⟨⟨?_, (foot2 b hb).2⟩, ?_⟩
    · have nb : b ≠ D := by subst eD; exact Nat.ne_of_lt lt
      rw [upd_ne nb]
      exact (foot2 b hb).1
    · rw [push3, Heap.size_push]
      exact Nat.lt_succ_of_lt lt
  have at3 : tn 0 u3.heap := by
    refine T.keep _ _ _ at2 fun b _ o e => ?_
    rw [push3]
    exact Heap.get?_push_of_some _ e
  have I4 := block_start I3 ok nd foot3
  show codeAny _ _ (.compStart (dc2 kx vx ta ia tb ib sc ps) 0 (.ref src) (.ref D) (compEnvC sc (cellsFrom (u3.heap.objs.size + 1) sc.names (cloFrom X.env.cells sc.names [])) u3.heap.objs.size X.env))
    (compPost (model X.prog X.w) X.A X.xe use Qf (.ref D) u3.heap.objs.size) ({ u3 with heap := pushCells (u3.heap.push { cls := .type "dict", data := .dict #[] }) sc.names } : Shared)
  generalize eC : u3.heap.objs.size = C at I4 foot3 ⊢
  generalize ecl : cellsFrom (C + 1) sc.names (cloFrom X.env.cells sc.names []) = cl at I4 ⊢
  generalize eG : upd G2 D (.dK []) = G3 at I3 I4 foot3 begin0
  have qa := pga u3 G3 C cl fp
  have qb := pb u3 G3 C cl fp
  have qgb := pgb u3 G3 C cl fp
  have qk := pk u3 G3 C cl fp
  have qv := pv u3 G3 C cl fp
  have un : ∀ b ∈ fp, G3 b = none := fun b hb => (foot3 b hb).1.1
  have here : (compEnvC sc cl C X.env).locals = C := rfl
  generalize compEnvC sc cl C X.env = en at *
  generalize e4 : ({ u3 with heap := pushCells (u3.heap.push { cls := .type "dict", data := .dict #[] }) sc.names } : Shared) = u4 at *
  have at4 : tn 0 u4.heap := by
    refine T.keep _ _ _ at3 fun b _ o e => ?_
    subst e4
    exact pushCells_keeps _ _ _ _ (Heap.get?_push_of_some _ e)
  have foot : ∀ {τ : L2.St} {G : Hp} {t : Shared}, Inv (X.blk u3 G3 sc en fp) [] τ G t → (∀ b ∈ fp, G b = none) → ∀ b ∈ fp, FpOk (X.blk u3 G3 sc en fp) [] G b := by
    intro τ G t Iv no b hb
    refine ⟨no b hb, (Iv.ok.exf b hb).1, Iv.ok.exfs b hb, .inl hb, fun x c e => (Iv.ok.exf b hb).2 x c e, fun z hz => ?_⟩
    have hz' : z ∈ ([] : List (Addr × Obj)) ++ [] := hz
    simp at hz'
  have whole : codeAny (model X.prog X.w) X.A (.compLoop (dc2 kx vx ta ia tb ib sc ps) 0 (.ref src) (.ref D) en) (compPost (model X.prog X.w) X.A X.xe use Qf (.ref D) C) u4 := by
    refine dc2_walk (fb en) (fun n t => ∃ i G, Inv (X.blk u3 G3 sc en fp) [] (wipe σ (own.map (·.2))) G t ∧ tn i t.heap ∧ (∀ b ∈ fp, G b = none) ∧ W i n G) ?_ m0 ⟨0, G3, I4, at4, un, begin0⟩
    rintro n t5 ⟨i, G5, I5, at5, un5, w5⟩
    rcases turn i n G5 w5 with ⟨stop, done⟩ | ⟨goes, Nx, down, one⟩
    · -- none is left: back in the def
      refine thnF (T.done (X.blk u3 G3 sc en fp) rfl rfl rfl calm i [] t5 _ G5 (fun _ _ => False) I5 (foot I5 un5) at5 stop) fun r t6 ⟨er, I6⟩ => ?_
      subst er
      have I7 : Inv X pins σ G5 t6 := I3.call' (ch := fp) I6.os I6.base I6.hok I6.bare fun b hb => by
        obtain ⟨⟨_, z2, z3, z4, z5, z6⟩, _⟩ := foot3 b hb
        exact ⟨z4, z2, z5, z6⟩
      have noC : G5 C = none := by
        have z : G5 en.locals = none := I6.free
        rw [here] at z
        exact z
      obtain ⟨m, ns, _⟩ := I6.loc
      have ns' : t6.heap.Ns en.locals m := ns
      rw [here] at ns'
      exact last D C t6 m G5 I7 done ns' (I3.fpOk (Nat.le_of_eq eC) noC)
    · refine thnF (T.item (X.blk u3 G3 sc en fp) rfl rfl rfl calm i [] t5 _ G5 (fun _ _ => False) I5 (foot I5 un5) at5 goes) fun r t6 ⟨v, er, h6⟩ => ?_
      subst er
      refine thnF h6 fun _ t7 ⟨x, G7, I7, rx, yl, at7, un7⟩ => ?_
      have I7p := I7.pinned (foot I7 un7) (T.obj _ _ at7)
      refine thnF (qa.run _ t7 _ G7 x v _ I7p rx (one x G7 yl)) fun _ t8 ⟨τ, G8, I8, ewipe, q8⟩ => ?_
      have lenτ : (wipe σ (own.map (·.2))).length = τ.length := by rw [← ewipe, wipe_length]
      have keepτ : ∀ (j : Nat) v, (wipe σ (own.map (·.2)))[j]? = some (some v) → (wipe τ vb)[j]? = some (some v) := by
        intro j v e
        rw [← ewipe] at e
        obtain ⟨z1, z2⟩ := wipe_some e
        rw [wipe_out fun z => z2 (sub j z)]
        exact z1
      -- the turn is done
      have next : ∀ {ρ : L2.St} {t : Shared} {G : Hp}, Inv (X.blk u3 G3 sc en fp) ([] ++ pinsAt fp t7.heap) ρ G t → (wipe σ (own.map (·.2))).length = ρ.length → (∀ (j : Nat) v, (wipe σ (own.map (·.2)))[j]? = some (some v) → ρ[j]? = some (some v)) → Nx G →
          ∃ m, m < n ∧ ∃ i G, Inv (X.blk u3 G3 sc en fp) [] (wipe σ (own.map (·.2))) G t ∧ tn i t.heap ∧ (∀ b ∈ fp, G b = none) ∧ W i m G := by
        intro ρ t G Iv len keep nx
        obtain ⟨m, less, w'⟩ := down G nx
        have pinned : ∀ b ∈ fp, ∀ o, t7.heap.get? b = some o → t.heap.get? b = some o ∧ G b = none := by
          intro b hb o e
          have z := Iv.pin (b, o) (List.mem_append_right _ (List.mem_append_right _ (mem_pinsAt hb e)))
          exact ⟨z.1, z.2.1⟩
        refine ⟨m, less, i + 1, G, (Iv.unpinned (pins := [])).weak len keep, T.keep _ _ _ at7 fun b hb o e => (pinned b hb o e).1, fun b hb => ?_, w'⟩
        obtain ⟨o, e, _⟩ := T.obj _ _ at7 b hb
        exact (pinned b hb o e).2
      refine thnF (qb.run _ t8 τ G8 _ I8 q8) fun _ t9 h9 => thnF h9 fun _ t10 h10 => ?_
      obtain ⟨src2, fp2, tn2, L, G10, rfl, I10, T2, at10, foot10, V1, ⟨k0, begin1⟩, turn1⟩ := h10
      have foot2 : ∀ {G : Hp}, (∀ b ∈ fp2, G b = none) → ∀ b ∈ fp2, FpOk (X.blk u3 G3 sc en fp) ([] ++ pinsAt fp t7.heap) G b := fun no b hb => ⟨no b hb, (foot10 b hb).2⟩
      have inner : codeAny (model X.prog X.w) X.A (.compLoop (dc2 kx vx ta ia tb ib sc ps) 1 (.ref src2) (.ref D) en)
          (fun r t => match r with
            | .ok _ => ∃ m, m < n ∧ ∃ i G, Inv (X.blk u3 G3 sc en fp) [] (wipe σ (own.map (·.2))) G t ∧ tn i t.heap ∧ (∀ b ∈ fp, G b = none) ∧ W i m G
            | .error _ => False) t10 := by
        refine dc2_walk1 (fun k t => ∃ j G, Inv (X.blk u3 G3 sc en fp) ([] ++ pinsAt fp t7.heap) (wipe τ vb) G t ∧ tn2 j t.heap ∧ (∀ b ∈ fp2, G b = none) ∧ V1 j k G) ?_ k0 ⟨0, G10, I10.weak (wipe_length _ _) (fun j v e => (wipe_some e).1), at10, fun b hb => (foot10 b hb).1, begin1⟩
        rintro k t11 ⟨j, G11, I11, at11, un11, w11⟩
        rcases turn1 j k G11 w11 with ⟨stop1, nx⟩ | ⟨goes1, Ny, down1, one1⟩
        · refine thnF (T2.done (X.blk u3 G3 sc en fp) rfl rfl rfl calm j _ t11 (wipe τ vb) G11 (fun _ _ => False) I11 (foot2 un11) at11 stop1) fun r t12 ⟨er, I12⟩ => ?_
          subst er
          exact next I12 (lenτ.trans (wipe_length τ vb).symm) keepτ nx
        · refine thnF (T2.item (X.blk u3 G3 sc en fp) rfl rfl rfl calm j _ t11 (wipe τ vb) G11 (fun _ _ => False) I11 (foot2 un11) at11 goes1) fun r t12 ⟨v1, er, h12⟩ => ?_
          subst er
          refine thnF h12 fun _ t13 ⟨y, G13, I13, ry, yl1, at13, un13⟩ => ?_
          have I13p := I13.pinned (foot2 un13) (T2.obj _ _ at13)
          refine thnF (qgb.run _ t13 (wipe τ vb) G13 y v1 _ I13p ry (one1 y G13 yl1)) fun _ t14 ⟨ρ, G14, I14, ewipe1, q14⟩ => ?_
          refine thnF (qk.run _ t14 ρ G14 _ I14 q14) fun ka t15 ⟨a, G15, I15, ra, q15⟩ => ?_
          refine thnF (qv.run _ t15 ρ G15 _ I15 q15) fun kb t16 ⟨b, G16, I16, rb, kvs, key, ea, hd16, few, nx⟩ => ?_
          subst ea
          refine d_dictSet (X := X.blk u3 G3 sc en fp) I16 hd16 few ra rb fun t17 I17 => ?_
          obtain ⟨k', less, w'⟩ := down1 _ nx
          have pinned : ∀ c ∈ fp2, ∀ o, t13.heap.get? c = some o → t17.heap.get? c = some o ∧ (upd G16 D (.dK (putK kvs key b))) c = none := by
            intro c hc o e
            have z := I17.pin (c, o) (List.mem_append_right _ (List.mem_append_right _ (mem_pinsAt hc e)))
            exact ⟨z.1, z.2.1⟩
          refine ⟨k', less, j + 1, _, I17.unpinned.weak ?_ (fun n v e => ?_), T2.keep _ _ _ at13 fun c hc o e => (pinned c hc o e).1, fun c hc => ?_, w'⟩
          · rw [← ewipe1, wipe_length]
          · rw [← ewipe1] at e
            exact (wipe_some e).1
          · obtain ⟨o, e, _⟩ := T2.obj _ _ at13 c hc
            exact (pinned c hc o e).2
      exact dc2_start1 inner (T2.self X.A 0 _ _ _ at10 inner)
  exact codeAny_compStart_dict whole (T.self X.A 0 _ _ _ at4 whole)
end
section
variable {X : Cx}
/-- name = {k: v for .. for ..} on one line, the name a local -/
theorem ps_setDc2 {i : Nat} {y : Str} {py : Pos} {kx vx ta ia tb ib : Expr} {sc : Scope} {own : List (Str × Nat)} {vb : List Nat} {ps sp : Pos} {wi wj : TI} {ga gb : TG} {tk tv : TE}
    (calm : X.calm = true) (nd : X.N.Nodup) (hy : X.N[i]? = some y) (loc : X.env.scope.names.lookup y = some .local)
    (sw : swapsWith (dc2 kx vx ta ia tb ib sc ps) (some (.Name y py)) sp.line X.env = pure true)
    (pa : PI X ta ia wi) (ok : BlkOk X.N X.env.scope sc own) (sub : ∀ i ∈ vb, i ∈ own.map (·.2))
    (pga : ∀ (u : Shared) (G : Hp) (C : Addr) (cl : List (Str × Addr)) (fp : List Addr), PG (X.blk u G sc (compEnvC sc cl C X.env) fp) ta ga)
    (pb : ∀ (u : Shared) (G : Hp) (C : Addr) (cl : List (Str × Addr)) (fp : List Addr), PI (X.blk u G sc (compEnvC sc cl C X.env) fp) tb ib wj)
    (pgb : ∀ (u : Shared) (G : Hp) (C : Addr) (cl : List (Str × Addr)) (fp : List Addr), PG (X.blk u G sc (compEnvC sc cl C X.env) fp) tb gb)
    (pk : ∀ (u : Shared) (G : Hp) (C : Addr) (cl : List (Str × Addr)) (fp : List Addr), PE (X.blk u G sc (compEnvC sc cl C X.env) fp) kx tk)
    (pv : ∀ (u : Shared) (G : Hp) (C : Addr) (cl : List (Str × Addr)) (fp : List Addr), PE (X.blk u G sc (compEnvC sc cl C X.env) fp) vx tv)
    (fa : ∀ x, foldedSetIterable ia X.env x = pure x := by intro _; rfl) (fb : ∀ en x, foldedSetIterable ib en x = pure x := by intro _ _; rfl) :
    PS X (.Assign [.Name y py] (.DictComp kx vx [⟨ta, ia, [], 0⟩, ⟨tb, ib, [], 0⟩] sc ps) sp) (tAsg (tDc2 wi ga wj gb tk tv (own.map (·.2)) vb) (gName i)) := by
  constructor
  intro pins u σ H D I h
  have want : tDc2 wi ga wj gb tk tv (own.map (·.2)) vb σ H (fun x G => gName i x σ G D.nx) := h
  rw [exec_Assign_Name_used _ _ _ _ sw]
  apply wpAny_bind; apply wpAny_standAt; apply wpAny_bind
  show wpAny _ X.A (do
    let _ ← comprehension (dc2 kx vx ta ia tb ib sc ps) sc X.env (firstIterPos [⟨ta, ia, [], 0⟩, ⟨tb, ib, [], 0⟩] ps) newDict false (eval ia X.env) (some (assign (.Name y py) X.env))) _ _ u
  apply wpAny_bind
  refine thn (dc2_all (Qf := fun _ t => SP X pins D .next t) calm nd I pa ok sub pga pb pgb pk pv fa fb want ?_) fun _ t q => wpAny_pure (wpAny_pure q)
  intro L C t m G J q ns fp
  show wpAny _ _ (assign (.Name y py) X.env (.ref L)) _ _ _
  refine wpAny_assign_Name (store_ok2 (v := V.ref L) J nd hy (.inl loc) rfl ?_ (.inr loc))
  rintro t2 J2 ⟨a, sb, ha⟩
  obtain ⟨z0, z1, z2, z3, z4, z5⟩ := fp
  have apart : C ≠ a := by
    rcases ha with z | z
    · rw [z]
      exact z1
    · exact fun e => z4 y a z e.symm
  refine ⟨m, ns.sameBut sb apart, fun h3 sb3 => ⟨_, G, ?_, q⟩⟩
  exact J2.turned (t' := t2.toks) (fun b o hb e => (sb3.2 b hb).trans e) z0 z1 z3 z4 z5
/-! max(xs, default=n) of a list of ints -/
def rMaxL (K : PySem.W.Frag) : List V → List V → Hp → VK → Prop := fun vs zs H Q => ∃ (a : Addr) (ns : List Int) (d : Int), vs = [V.ref a] ∧ zs = [V.int d] ∧ SqL K H a (ns.map V.int) ∧ (ns = [] → Q (.int d) H) ∧ ∀ m, m ∈ ns → (∀ j ∈ ns, j ≤ m) → Q (.int m) H
theorem fold_max : ∀ (ns : List Int) (n : Int), (ns.foldl max n = n ∨ ns.foldl max n ∈ ns) ∧ n ≤ ns.foldl max n ∧ ∀ j ∈ ns, j ≤ ns.foldl max n
  | [], n => ⟨.inl rfl, Int.le_refl _, by simp⟩
  | x :: r, n => by
    obtain ⟨h1, h2, h3⟩ := fold_max r (max n x)
    rw [List.foldl_cons]
    refine ⟨?_, by omega, fun j hj => ?_⟩
    · rcases h1 with e | e
      · rw [e]
        rcases Int.le_total n x with z | z
        · right; rw [Int.max_eq_right z]; exact List.mem_cons_self
        · left; exact Int.max_eq_left z
      · exact .inr (List.mem_cons_of_mem _ e)
    · rcases List.mem_cons.mp hj with e | e
      · rw [e]; omega
      · exact h3 j e
theorem cr_maxL (calm : X.calm = true) (few : X.A.units + 65 < cLine) : CallRK X (.builtin "max") [Str.ofString "default"] (rMaxL X.K) := by
  intro pins u σ H vs zs us ws Q I r rz h
  obtain ⟨a, ns, d, rfl, rfl, hs, q0, q1⟩ := h
  obtain ⟨its, rv, hl, _⟩ := I.list hs
  obtain rfl := Vals.ref1 r
  obtain ⟨w1, rfl, e1⟩ := vals1 rz
  obtain ⟨td, rfl⟩ : ∃ t, w1 = Value.int d t := e1
  have all : PySem.ReadsAll u.heap its.toArray.toList (ns.map .int) [] := IntsAre.reads u.heap rv.ints
  have alike : PySem.W.AlikeAll (ns.map PyData.int) := by
    refine ⟨fun x hx y hy => ?_, fun x hx => ?_⟩
    · obtain ⟨i, _, rfl⟩ := List.mem_map.mp hx
      obtain ⟨j, _, rfl⟩ := List.mem_map.mp hy
      rfl
    · obtain ⟨i, _, rfl⟩ := List.mem_map.mp hx
      intro e
      cases e
  have flat : PyData.depthAll (ns.map PyData.int) = 0 := by
    have := depthAll_of (f := PyData.int) (k := 0) (xs := ns) fun x _ => by simp [PyData.depth]
    omega
  refine PySem.W.max_list_default (I.ok.hd calm) hl.isList all alike (by rw [flat]; omega) (fun e h' tk hk => ?_) fun y ys i v h' tk bs e hv hr hk => ?_
  · exact ⟨.int d, H, I.kept (t' := tk) hk, ⟨td, rfl⟩, q0 (List.map_eq_nil_iff.mp e)⟩
  · cases ns with
    | nil => cases e
    | cons n r =>
      injection e with e1 e2
      subst e1 e2
      rw [PySem.W.maxD_ints] at hr
      obtain ⟨g1, g2, g3⟩ := fold_max r n
      cases hr
      refine ⟨.int _, H, I.kept (t' := tk) hk, ⟨_, rfl⟩, q1 _ ?_ fun j hj => ?_⟩
      · rcases g1 with z | z
        · rw [z]; exact List.mem_cons_self
        · exact List.mem_cons_of_mem _ z
      · rcases List.mem_cons.mp hj with z | z
        · rw [z]; exact g2
        · exact g3 j z
end
end Sky

/-! A rule of my own: for i, x in enumerate(t), t a tuple. -/
namespace Sky
open PySem PySem.Spec PyProof.Rows L2 PySem.W
theorem new_enum {v : Value} {o : Obj} {Z : Heap → Prop} (B : Begins v o Z) :
    Meets (Builtin.«enumerate.__new__» ⟨[.type "enumerate", v], []⟩) (fun _ R u => Z u.heap ∧
      R (.ok (.ret (.ref (u.heap.push o).objs.size))) ({ u with heap := (u.heap.push o).push { cls := .type "enumerate", data := .fields #[.none, .bool false, .ref u.heap.objs.size, rawInt 0, .none, .none] } } : Shared)) := by
  refine .of_wp fun prog w A R u both => ?_
  obtain ⟨hp, g, d, tk, os⟩ := u
  obtain ⟨z, fin⟩ := both
  have sub := sub_enumerate
  have goes : ∀ {A2 : Around} {E2 : Value → Shared → Prop} {Q2 : Value → Shared → Prop}, Q2 (.ref hp.objs.size) ⟨hp.push o, g, d, tk, os⟩ → wpAny (model prog w) A2 (pyIter v) Q2 E2 ⟨hp, g, d, tk, os⟩ := by
    intro A2 E2 Q2 q
    exact B.iter prog w A2 E2 ⟨hp, g, d, tk, os⟩ Q2 z q
  wp_walk using goes
  refine wpAny_stack_any fun st => wpAny_pure ?_
  split
  · rename_i c _ _ _ _ _
    cases c == Value.type "enumerate" <;> (wp_walk using goes; exact ⟨_, rfl, fin⟩)
  · wp_walk using goes
    exact ⟨_, rfl, fin⟩
section
variable {prog : Program} {w : World} {A : Around} {E : Value → Shared → Prop} {u : Shared}
theorem call_enum {v : Value} {o : Obj} {Z : Heap → Prop} {Q : Value → Shared → Prop} (B : Begins v o Z) (z : Z u.heap)
    (fin : ∀ g, IsEnum g (u.heap.objs.size + 1) u.heap.objs.size 0 .none → g.get? u.heap.objs.size = some o → g.objs.size = u.heap.objs.size + 2 → (∀ b x, u.heap.get? b = some x → g.get? b = some x) → Q (.ref (u.heap.objs.size + 1)) { u with heap := g }) :
    wpAny (model prog w) A (call (.type "enumerate") [v]) Q E u := by
  refine callType_new F.called_enumerate (by decide) (F.typeCall_enumerate_1 _) (F.newCall_enumerate_1 _) (fun ob => F.args_object_init_2 ob _) F.entry_enumerate_new (new_enum B) ⟨z, ?_⟩
  have size1 : (u.heap.push o).objs.size = u.heap.objs.size + 1 := Heap.size_push ..
  show _ ∧ _
  rw [size1]
  have made : IsEnum ((u.heap.push o).push { cls := .type "enumerate", data := .fields #[.none, .bool false, .ref u.heap.objs.size, rawInt 0, .none, .none] }) (u.heap.objs.size + 1) u.heap.objs.size 0 .none := by
    have e := Heap.get?_push_size (u.heap.push o) (o := { cls := .type "enumerate", data := .fields #[.none, .bool false, .ref u.heap.objs.size, rawInt 0, .none, .none] }) rfl
    rw [size1] at e
    exact e
  refine ⟨⟨_, made, rfl⟩, fin _ made ?_ (by rw [Heap.size_push, size1]) fun b x e => ?_⟩
  · exact Heap.get?_push_of_some _ (Heap.get?_push_size _ B.free)
  · exact Heap.get?_push_of_some _ (Heap.get?_push_of_some _ e)
end
/-- the tuple at a, each item in a new pair -/
def Iet (K : PySem.W.Frag) (a : Addr) : It where
  go i H := ∃ (xs : List V) (x : V), SqT K H a xs ∧ xs[i]? = some x
  yld i H v H' := ∃ T x, v = .ref T ∧ H T = none ∧ H' = upd H T (.tup [.int (i : Nat), x]) ∧ ∀ xs, SqT K H a xs → xs[i]? = some x
  stop i H := ∃ xs : List V, SqT K H a xs ∧ xs.length ≤ i
theorem enum_ne {h : Heap} {e it a : Addr} {k : Int} {old : Value} {items : Array Value} (x : IsEnum h e it k old) (y : h.IsTuple a items) : e ≠ a := by
  intro z
  subst z
  obtain ⟨o, e1, e2, _⟩ := y
  have e3 := e1.symm.trans x
  injection e3 with e3
  rw [e3] at e2
  injection e2 with e4
  exact absurd e4 (by decide)
theorem iter_ne {h : Heap} {it a : Addr} {k : Nat} {items : Array Value} (x : h.IsTupleIter it a k) (y : h.IsTuple a items) : a ≠ it := by
  intro z
  subst z
  obtain ⟨o, e1, e2, _⟩ := y
  obtain ⟨o2, e3, e4, _⟩ := x
  have e5 := e1.symm.trans e3
  injection e5 with e5
  rw [e5, e4] at e2
  injection e2 with e6
  exact absurd e6 (by decide)
theorem turn_iet {P : Program} {w : World} {K : PySem.W.Frag} {elts : List Expr} {kk : Nat} {tpos : Pos} (a e it : Addr) :
    Turn P w K (.Tuple elts kk tpos) (Iet K a) [e, it] e (fun i h => (∃ old, IsEnum h e it ((i : Nat) : Int) old) ∧ h.IsTupleIter it a i ∧ e ≠ it) where
  mem := List.mem_cons_self
  obj := by
    intro i h st b hb
    obtain ⟨⟨old, he⟩, ⟨o, ho, hc, hd⟩, _⟩ := st
    rcases List.mem_cons.mp hb with z | z
    · subst z; exact ⟨_, he, fun v q => nomatch q⟩
    · rw [List.mem_singleton.mp z]; exact ⟨o, ho, fun v q => by rw [hd] at q; cases q⟩
  keep := by
    intro i h h' st k
    obtain ⟨⟨old, he⟩, hi, hne⟩ := st
    exact ⟨⟨old, k e (by simp) _ he⟩, hi.at fun o q => k it (by simp) o q, hne⟩
  item := by
    intro X hP hw hK hc i pins u σ H E I hf st hg
    subst hP hw hK
    obtain ⟨⟨old, he⟩, hit, hne⟩ := st
    obtain ⟨xs, x, hq, hx⟩ := hg
    obtain ⟨its, rv, p, _⟩ := I.tuple hq
    obtain ⟨v, hv, rx⟩ := rv.get hx
    have pt : u.heap.IsTuple a its.toArray := p
    have lowe : e < u.heap.objs.size := Heap.lt_size he
    have lowi : it < u.heap.objs.size := by obtain ⟨_, q, _⟩ := hit; exact Heap.lt_size q
    have nea := enum_ne he pt
    have draws := Draws.tuple (prog := X.prog) (w := X.w) (A := X.A.in1) (I.ok.hd hc) it a (iter_ne hit pt) its.toArray
    have hil : i < its.toArray.size := by
      have := (List.getElem?_eq_some_iff.mp hv).1
      simpa using this
    refine wpAny_pyNext_enum_itemD draws he ⟨hit, pt⟩ hil hne (by simp [hne, nea]) fun v2 g tk hv2 out st2 hT hsz kept => ?_
    have ev : v2 = v := by
      rw [show its.toArray[i]? = some v by simpa using hv] at hv2
      exact (Option.some.inj hv2).symm
    subst ev
    refine ⟨_, rfl, wpAny_letOwnedTupleGo_enum (s := { u with heap := g, toks := tk + 1 }) out fun g2 he2 sb => ?_⟩
    have tup : g2.get? u.heap.objs.size = some { cls := .type "tuple", data := .seq #[.int i tk, v2] } := (sb.2 _ (Nat.ne_of_gt lowe)).trans hT
    have new : ObjOk X.prog X.w (upd H u.heap.objs.size (.tup [.int (i : Nat), x])) g2 u.heap.objs.size (.tup [.int (i : Nat), x]) := by
      refine ⟨?_, [.int i tk, v2], .cons ⟨_, rfl⟩ (.cons rx .nil), ⟨_, tup, rfl, _, rfl⟩⟩
      show 2 ≤ sizeLine
      decide
    have J : Inv X pins σ (upd H u.heap.objs.size (.tup [.int (i : Nat), x])) { u with heap := g2, toks := tk + 1 } := by
      refine I.turnedNew (ch := [e, it]) (fun b ob hb q => ?_) hf (Nat.le_refl _) new
      have b1 : b ≠ e := fun z => hb (by simp [z])
      have b2 : b ≠ it := fun z => hb (by simp [z])
      exact (sb.2 b b1).trans (kept b ob b1 b2 q)
    refine ⟨.ref u.heap.objs.size, _, J, rfl, ⟨_, x, rfl, I.hok.fresh (Nat.le_refl _), rfl, fun ys hy => by rw [I.tuple_inj hy hq]; exact hx⟩, ⟨⟨v2, ?_⟩, st2.1.at fun o q => (sb.2 it (Ne.symm hne)).trans q, hne⟩, fun b hb => ?_⟩
    · rw [show ((i + 1 : Nat) : Int) = (i : Int) + 1 by omega]
      exact he2
    · have low : b < u.heap.objs.size := by
        rcases List.mem_cons.mp hb with z | z
        · rw [z]; exact lowe
        · rw [List.mem_singleton.mp z]; exact lowi
      rw [upd_ne (Nat.ne_of_lt low)]
      exact (hf b hb).1
  done := by
    intro X hP hw hK hc i pins u σ H E I hf st hg
    subst hP hw hK
    obtain ⟨⟨old, he⟩, hit, hne⟩ := st
    obtain ⟨xs, hq, hx⟩ := hg
    obtain ⟨its, rv, p, _⟩ := I.tuple hq
    have pt : u.heap.IsTuple a its.toArray := p
    obtain ⟨f0, f1, f2, f3, f4, f5⟩ := hf it (by simp)
    have hl := rv.length
    have ends : Draws X.prog X.w X.A.in1 it [it, a] i (fun _ _ => True) (fun j h => j = i ∧ h.IsTupleIter it a i ∧ h.IsTuple a its.toArray) := by
      refine ⟨fun _ _ z => ?_, fun _ _ _ z k => ?_, fun j _ _ _ lt z => ?_, fun t Q2 E2 z q => ?_⟩
      · obtain ⟨_, ⟨o, ho, _⟩, _⟩ := z
        exact ⟨o, ho⟩
      · exact ⟨z.1, z.2.1.at fun o e => k it (by simp) o e, z.2.2.at fun o e => k a (by simp) o e⟩
      · have := z.1
        omega
      · exact wpAny_nextOf_tuple_end (I.ok.hd hc) z.2.1 z.2.2 (by simp; omega) q
    exact wpAny_pyNext_enum_endD ends he ⟨rfl, hit, pt⟩ fun g eb => ⟨rfl, I.turned (t' := u.toks) (fun b o hb q => eb b o hb q) f0 f1 f3 f4 f5⟩
  self := by
    intro A i u Q E st h
    obtain ⟨⟨_, he⟩, _⟩ := st
    exact wpAny_pyIter_enum he h
def iEnumT (K : PySem.W.Frag) (ta : TA) : TI := fun σ H R => ta σ H fun vs G => ∃ a xs, vs = [.ref a] ∧ SqT K G a xs ∧ R (Iet K a) G
theorem pi_enumT {X : Cx} {e : Expr} {ta : TA} {p pos tpos : Pos} {elts : List Expr} {kk : Nat} (glob : Gl X "enumerate") (unset : X.mg "enumerate" = none) (arg : PA X [e] ta) (one : starEach [e] X.env = [(false, eval e X.env)] := by rfl) :
    PI X (.Tuple elts kk tpos) (.Call (.Name "enumerate" p) [e] [] pos) (iEnumT X.K ta) := by
  constructor
  intro pins u σ H R I h
  refine Call_ (ld_blt I glob unset boot_enumerate (PyProof.Rows.callWith_type1 (thn (arg.run pos pins u σ H _ I h) fun us u1 ⟨vs, G, I1, r1, q1⟩ => ?_) one rfl))
  obtain ⟨a, xs, ex, hq, q⟩ := q1
  subst ex
  obtain rfl := Vals.ref1 r1
  obtain ⟨its, rv, pt, _⟩ := I1.tuple hq
  refine call_enum (begins_tuple a its.toArray) (show u1.heap.IsTuple a its.toArray from pt) fun g he hit hsz hk => wpAny_pyIter_enum he ?_
  have I2 : Inv X pins σ G { u1 with heap := g } := I1.kept (t' := u1.toks) hk
  refine ⟨u1.heap.objs.size + 1, [u1.heap.objs.size + 1, u1.heap.objs.size], _, _, G, rfl, I2, turn_iet a (u1.heap.objs.size + 1) u1.heap.objs.size, ⟨⟨.none, he⟩, ⟨_, hit, rfl, rfl⟩, Nat.succ_ne_self _⟩, fun b hb => ?_, q⟩
  have low : u1.heap.objs.size ≤ b := by
    rcases List.mem_cons.mp hb with z | z
    · rw [z]; exact Nat.le_add_right _ _
    · rw [List.mem_singleton.mp z]; exact Nat.le_refl _
  exact I1.fpOk low (I1.hok.fresh low)
/-- enumerate(t): each turn a new pair -/
theorem for_enumT {K : PySem.W.Frag} {l : Addr} {ys : List V} {g : TG} {tb : L2.TS} {D : Ends} {τ : L2.St} {G : Hp} (Pv : Nat → L2.St → Hp → Prop) (start : Pv 0 τ G) (stays : ∀ i σ H, i ≤ ys.length → Pv i σ H → SqT K H l ys)
    (turn : ∀ i x σ H T, ys[i]? = some x → Pv i σ H → H T = none → g (.ref T) σ (upd H T (.tup [.int (i : Nat), x])) fun σ2 H2 => tb { D with nx := Pv (i + 1), ct := Pv (i + 1), bk := D.nx } σ2 H2)
    (last : ∀ σ H, Pv ys.length σ H → D.nx σ H) :
    ∃ W : Nat → Nat → L2.St → Hp → Prop, (∃ m, W 0 m τ G) ∧ ∀ i m σ H, W i m σ H →
      ((Iet K l).stop i H ∧ D.nx σ H) ∨ ((Iet K l).go i H ∧ ∃ N : L2.St → Hp → Prop, (∀ σ' H', N σ' H' → ∃ m', m' < m ∧ W (i + 1) m' σ' H') ∧
        ∀ x H', (Iet K l).yld i H x H' → g x σ H' fun σ2 H2 => tb { D with nx := N, ct := N, bk := D.nx } σ2 H2) := by
  refine ⟨fun i m σ H => i ≤ ys.length ∧ m = ys.length - i ∧ Pv i σ H, ⟨ys.length, Nat.zero_le _, (Nat.sub_zero _).symm, start⟩, ?_⟩
  rintro i m σ H ⟨le, rfl, hv⟩
  have there := stays i σ H le hv
  by_cases lt : i < ys.length
  · refine .inr ⟨⟨ys, ys[i], there, List.getElem?_eq_getElem lt⟩, Pv (i + 1), fun σ' H' w => ⟨ys.length - (i + 1), by omega, lt, rfl, w⟩, ?_⟩
    rintro x H' ⟨T, y, rfl, hT, rfl, hy⟩
    exact turn i y σ H T (hy ys there) hv hT
  · have e : i = ys.length := by omega
    subst e
    exact .inl ⟨⟨ys, there, Nat.le_refl _⟩, last σ H hv⟩
/-- the outer walk of a two-for dict comprehension over a tuple that stays -/
theorem dc2_tup {K : PySem.W.Frag} {a : Addr} {xs : List V} {ga : TG} {wj : TI} {gb : TG} {tk tv : TE} {va vb : List Nat} {σ : L2.St} {G1 : Hp} {D : Addr} {fin : Hp → Prop} (Pv : Nat → Hp → Prop) (start : Pv 0 (upd G1 D (.dK []))) (stays : ∀ i H, i ≤ xs.length → Pv i H → SqT K H a xs)
    (turn : ∀ i x H, xs[i]? = some x → Pv i H → ga x (wipe σ va) H fun τ G2 => wipe τ va = wipe σ va ∧ wj τ G2 fun L G3 => ∃ V1 : Nat → Nat → Hp → Prop, (∃ k, V1 0 k G3) ∧ ∀ j k F, V1 j k F →
      (L.stop j F ∧ Pv (i + 1) F) ∨ (L.go j F ∧ ∃ Ny : Hp → Prop, (∀ F', Ny F' → ∃ k', k' < k ∧ V1 (j + 1) k' F') ∧ ∀ y F', L.yld j F y F' →
        gb y (wipe τ vb) F' fun ρ F2 => wipe ρ vb = wipe τ vb ∧ tk ρ F2 fun a F3 => tv ρ F3 fun b F4 => ∃ kvs key, a = kV key ∧ F4 D = some (.dK kvs) ∧ kvs.length < sizeLine ∧ Ny (upd F4 D (.dK (putK kvs key b)))))
    (last : ∀ H, Pv xs.length H → fin H) :
    ∃ W : Nat → Nat → Hp → Prop, (∃ m, W 0 m (upd G1 D (.dK []))) ∧ ∀ i m G, W i m G →
      ((Itt K a).stop i G ∧ fin G) ∨
      ((Itt K a).go i G ∧ ∃ Nx : Hp → Prop, (∀ G', Nx G' → ∃ m', m' < m ∧ W (i + 1) m' G') ∧ ∀ x G', (Itt K a).yld i G x G' →
        ga x (wipe σ va) G' fun τ G2 => wipe τ va = wipe σ va ∧
          wj τ G2 fun L G3 => ∃ V1 : Nat → Nat → Hp → Prop, (∃ k, V1 0 k G3) ∧ ∀ j k F, V1 j k F →
            (L.stop j F ∧ Nx F) ∨
            (L.go j F ∧ ∃ Ny : Hp → Prop, (∀ F', Ny F' → ∃ k', k' < k ∧ V1 (j + 1) k' F') ∧ ∀ y F', L.yld j F y F' →
              gb y (wipe τ vb) F' fun ρ F2 => wipe ρ vb = wipe τ vb ∧
                tk ρ F2 fun a F3 => tv ρ F3 fun b F4 => ∃ kvs key, a = kV key ∧ F4 D = some (.dK kvs) ∧ kvs.length < sizeLine ∧ Ny (upd F4 D (.dK (putK kvs key b))))) := by
  refine ⟨fun i m H => i ≤ xs.length ∧ m = xs.length - i ∧ Pv i H, ⟨xs.length, Nat.zero_le _, (Nat.sub_zero _).symm, start⟩, ?_⟩
  rintro i m H ⟨le, rfl, hv⟩
  have there := stays i H le hv
  by_cases lt : i < xs.length
  · refine .inr ⟨⟨xs, xs[i], there, List.getElem?_eq_getElem lt⟩, Pv (i + 1), fun H' w => ⟨xs.length - (i + 1), by omega, lt, rfl, w⟩, ?_⟩
    rintro x H' ⟨e, hy⟩
    subst e
    exact turn i x _ (hy xs there) hv
  · have e : i = xs.length := by omega
    subst e
    exact .inl ⟨⟨xs, there, Nat.le_refl _⟩, last H hv⟩
/-- its inner walk over a range -/
theorem dc2_range {lo : Int} {n : Nat} {gb : TG} {tk tv : TE} {vb : List Nat} {τ : L2.St} {F0 : Hp} {D : Addr} {fin : Hp → Prop} (Pv : Nat → Hp → Prop) (start : Pv 0 F0)
    (turn : ∀ j F, j < n → Pv j F → gb (.int (lo + j)) (wipe τ vb) F fun ρ F2 => wipe ρ vb = wipe τ vb ∧ tk ρ F2 fun a F3 => tv ρ F3 fun b F4 => ∃ kvs key, a = kV key ∧ F4 D = some (.dK kvs) ∧ kvs.length < sizeLine ∧ Pv (j + 1) (upd F4 D (.dK (putK kvs key b))))
    (last : ∀ F, Pv n F → fin F) :
    ∃ V1 : Nat → Nat → Hp → Prop, (∃ k, V1 0 k F0) ∧ ∀ j k F, V1 j k F →
      ((Itr lo n).stop j F ∧ fin F) ∨ ((Itr lo n).go j F ∧ ∃ Ny : Hp → Prop, (∀ F', Ny F' → ∃ k', k' < k ∧ V1 (j + 1) k' F') ∧ ∀ y F', (Itr lo n).yld j F y F' →
        gb y (wipe τ vb) F' fun ρ F2 => wipe ρ vb = wipe τ vb ∧ tk ρ F2 fun a F3 => tv ρ F3 fun b F4 => ∃ kvs key, a = kV key ∧ F4 D = some (.dK kvs) ∧ kvs.length < sizeLine ∧ Ny (upd F4 D (.dK (putK kvs key b)))) := by
  refine ⟨fun j left F => left + j = n ∧ Pv j F, ⟨n, rfl, start⟩, ?_⟩
  rintro j left F ⟨sum, hv⟩
  cases left with
  | zero =>
    have all : j = n := by omega
    exact .inl ⟨by rw [all]; exact Nat.le_refl n, last F (by rw [← all]; exact hv)⟩
  | succ left =>
    have less : j < n := by omega
    refine .inr ⟨less, Pv (j + 1), fun F' h => ⟨left, by omega, by omega, h⟩, ?_⟩
    rintro _ _ ⟨rfl, rfl⟩
    exact turn j _ less hv
end Sky

/-! Rules of my own: sum of a tuple of ints; within a comprehension. -/
namespace Sky
open PySem PySem.Spec PyProof.Rows L2
def rSumT (K : PySem.W.Frag) : List V → Hp → VK → Prop := fun vs H Q => ∃ (a : Addr) (ns : List Int), vs = [V.ref a] ∧ SqT K H a (ns.map V.int) ∧ Q (.int ns.sum) H
section
variable {X : Cx}
theorem cr_sumT (calm : X.calm = true) : CallR X (.builtin "sum") (rSumT X.K) := by
  intro pins u σ H vs us Q I r h
  obtain ⟨a, ns, rfl, hs, q⟩ := h
  obtain ⟨its, rv, pt, _⟩ := I.tuple hs
  rw [Vals.ref1 r]
  have hints := rv.ints
  obtain ⟨xs, ex⟩ := hints.allInts.items
  have en : numsOf (intItems xs).toList = ns := by rw [← ex]; exact hints.numsOf
  rw [nums_intItems] at en
  have pt2 : u.heap.IsTuple a its.toArray := pt
  rw [ex] at pt2
  refine PySem.W.ktm_sumG (I.ok.hd calm) pt2 fun h' tk t' hk => ?_
  rw [preSum_eq, List.take_of_length_le (by simp), en]
  exact ⟨.int _, H, I.kept (t' := tk) hk, ⟨_, rfl⟩, q⟩
theorem cr_sumTK {K : PySem.W.Frag} (h : X.K = K) (calm : X.calm = true) : CallR X (.builtin "sum") (rSumT K) := h ▸ cr_sumT calm
theorem sl_tupAK {K : PySem.W.Frag} (h : X.K = K) : SlR X (rSlA K) := h ▸ sl_tupA
end
end Sky

/-! Rules of my own: max of a tuple of ints; sum of a list, walks of tuples within comprehensions. -/
namespace Sky
open PySem PySem.Spec PyProof.Rows L2
def rMaxT (K : PySem.W.Frag) : List V → Hp → VK → Prop := fun vs H Q => ∃ (a : Addr) (ns : List Int), vs = [V.ref a] ∧ SqT K H a (ns.map V.int) ∧ ns ≠ [] ∧ ∀ m, m ∈ ns → (∀ j ∈ ns, j ≤ m) → Q (.int m) H
section
variable {X : Cx}
theorem cr_maxT (calm : X.calm = true) (few : X.A.units + 65 < cLine) : CallR X (.builtin "max") (rMaxT X.K) := by
  intro pins u σ H vs us Q I r h
  obtain ⟨a, ns, rfl, hs, hne, q1⟩ := h
  obtain ⟨its, rv, pt, _⟩ := I.tuple hs
  rw [Vals.ref1 r]
  have all : PySem.ReadsAll u.heap its.toArray.toList (ns.map .int) [] := IntsAre.reads u.heap rv.ints
  have flat : PyData.depthAll (ns.map PyData.int) = 0 := by
    have := depthAll_of (f := PyData.int) (k := 0) (xs := ns) fun x _ => by simp [PyData.depth]
    omega
  have alike : PySem.W.AlikeAll (ns.map PyData.int) := by
    refine ⟨fun x hx y hy => ?_, fun x hx => ?_⟩
    · obtain ⟨i, _, rfl⟩ := List.mem_map.mp hx
      obtain ⟨j, _, rfl⟩ := List.mem_map.mp hy
      rfl
    · obtain ⟨i, _, rfl⟩ := List.mem_map.mp hx
      intro e
      cases e
  cases ns with
  | nil => exact absurd rfl hne
  | cons n r =>
    refine PySem.W.max_tuple_data (I.ok.hd calm) (show u.heap.IsTuple a its.toArray from pt) all alike (by rw [show PyData.int n :: r.map PyData.int = (n :: r).map PyData.int from rfl, flat]; omega) fun i v h' tk bs hv hr hk => ?_
    rw [PySem.W.maxD_ints] at hr
    obtain ⟨g1, g2, g3⟩ := fold_max r n
    cases hr
    refine ⟨.int _, H, I.kept (t' := tk) hk, ⟨_, rfl⟩, q1 _ ?_ fun j hj => ?_⟩
    · rcases g1 with z | z
      · rw [z]; exact List.mem_cons_self
      · exact List.mem_cons_of_mem _ z
    · rcases List.mem_cons.mp hj with z | z
      · rw [z]; exact g2
      · exact g3 j z
theorem cr_sumK {K : PySem.W.Frag} (h : X.K = K) (calm : X.calm = true) : CallR X (.builtin "sum") (rSum K) := h ▸ cr_sum calm
theorem pi_tupK {K : PySem.W.Frag} {tg l : Expr} {tl : TE} (h : X.K = K) (hl : PE X l tl) : PI X tg l (iTup K tl) := h ▸ pi_tup hl
end
end Sky

/-! Rules of my own: dicts whose keys are tuples: del, setdefault, pop with a default; walks over their keys. -/
namespace Sky
open PySem PySem.Spec PyProof.Rows L2
/-- del d[y], y a tuple -/
def sDDelT (td ty : TE) : L2.TS := fun D σ H => td σ H fun x H1 => ty σ H1 fun y H2 => ∃ (a b : Addr) (kvs : List (List Key × V)) (k : List Key), x = .ref a ∧ y = .ref b ∧ H2 a = some (.dT kvs) ∧ H2 b = some (.tup (k.map kV)) ∧ (valV kvs k).isSome = true ∧ D.nx σ (upd H2 a (.dT (dropK kvs k)))
/-- d.setdefault(y, z), y a tuple -/
def tDSetdT (td ty tx : TE) : TE := fun σ H Q => td σ H fun x H1 => ∃ a, x = .ref a ∧ IsD H1 a ∧ ty σ H1 fun y H2 => tx σ H2 fun z H3 => ∃ (kvs : List (List Key × V)) (k : List Key) (b : Addr), H3 a = some (.dT kvs) ∧ y = .ref b ∧ H3 b = some (.tup (k.map kV)) ∧ kvs.length < sizeLine ∧
  (∀ v, valV kvs k = some v → Q v H3) ∧ (valV kvs k = none → Q z (upd H3 a (.dT (putK kvs k z))))
section
variable {X : Cx} {o i e f : Expr} {pos tpos apos cpos : Pos} {td ty tx : TE}
theorem ps_ddelT (hu : X.A.units + 1 < cLine) (ho : PE X o td) (hi : PE X i ty) : PS X (.Delete [.Subscript o i tpos] pos) (sDDelT td ty) := by
  refine ⟨fun pins s σ H D I h => ?_⟩
  refine wpAny_Delete (wpAny_deleteEach_cons (wpAny_delete_Subscript (thn (ho.run pins s σ H _ I h) fun u s1 ⟨x, H1, I1, rx, q1⟩ => thn (hi.run pins s1 σ H1 _ I1 q1) fun iv s2 ⟨y, H2, I2, ry, a, b, kvs, k, ex, ey, e, eb, l, q2⟩ => ?_)))
  subst ex ey
  obtain rfl : u = Value.ref a := rx
  obtain rfl : iv = Value.ref b := ry
  obtain ⟨z, hd, xs, rel, dd⟩ := dt_of I2.hok e
  have hz : xs.length ≤ sizeLine := by rw [← Paired.length rel]; exact z
  have q := (rel.val k).isSome_eq
  rw [l, Option.isSome_map] at q
  obtain ⟨p, hp⟩ := Option.isSome_iff_exists.mp q.symm
  refine wpAny_delItem_heap (tupleKind_room_in1 hu) (key_of I2.hok eb) hd dd hp (fun h' dd' hs => ?_) hz
  refine wpAny_deleteEach_nil ⟨σ, _, ?_, q2⟩
  obtain ⟨oo, es, ep, hq, h2, h3, h4, _, h5⟩ := dd'
  exact d_write I2 (by rw [e]; exact True.intro) hs ⟨oo, hq⟩ ⟨Nat.le_trans (dropK_le kvs k) z, hd, _, (L2.DX.KT_drop k rel).keeps (fun c ys ec => (by rw [upd_ne (ne_of ec e (fun z => nomatch z))]; exact ec)), oo, es, ep, hq, h2, h3, h4, h5⟩
theorem pe_dsetdT (hu : X.A.units + 1 < cLine) (ho : PE X o td) (he : PE X e ty) (hf : PE X f tx) (m : M2 X o "setdefault" apos e f cpos) : PE X (.Call (.Attribute o "setdefault" apos) [e, f] [] cpos) (tDSetdT td ty tx) := by
  refine ⟨fun pins s σ H Q I h => ?_⟩
  refine wpAny_Call_method m.base m.few m.line PySem.F.plainAttrs_dict PySem.F.slot_dict_setdefault PySem.F.type_dict_setdefault (thn (ho.run pins s σ H _ I h) fun u s1 ⟨x, H1, I1, rx, a, ex, d, q1⟩ => ?_)
  subst ex
  obtain rfl : u = Value.ref a := rx
  obtain ⟨t1, t2, _⟩ := isD_at I1 d
  refine ⟨t1, t2, ?_⟩
  rw [m.trees]
  refine Calls.callWith_builtin rfl (Calls.evalArgs_plain (Calls.spliced_cons (thn (he.run pins s1 σ H1 _ I1 q1) fun iv s2 ⟨y, H2, I2, ry, q2⟩ =>
    Calls.spliced_cons (thn (hf.run pins s2 σ H2 _ I2 q2) fun fv s3 ⟨z, H3, I3, rz, kvs, k, b, ea, ey, eb, hl, q3, q4⟩ => Calls.spliced_nil ?_))))
  subst ey
  obtain rfl : iv = Value.ref b := ry
  obtain ⟨zz, hd, xs, rel, dd⟩ := dt_of I3.hok ea
  have hz : xs.length ≤ sizeLine := by rw [← Paired.length rel]; exact zz
  refine call_setdefault_heap (tupleKind_room_in1 hu) (key_of I3.hok eb) hd dd (fun p hp => ?_) (fun hn h' dd' hs => ?_) hz
  · have q := rel.val k
    rw [hp] at q
    cases q0 : valV kvs k with
    | none =>
      rw [q0] at q
      exact (show False from q).elim
    | some v0 =>
      rw [q0] at q
      exact ⟨v0, _, I3.tok _, q, q3 v0 q0⟩
  · have q := rel.val k
    rw [hn] at q
    cases q0 : valV kvs k with
    | some v0 =>
      rw [q0] at q
      exact (show False from q).elim
    | none =>
      have hl2 : (putK kvs k z).length ≤ sizeLine := by
        have := length_putK kvs k z
        omega
      obtain ⟨oo, es, ep, hq, h2, h3, h4, _, h5⟩ := dd'
      have hk := (KT.put rel k eb rz)
      refine ⟨z, _, d_write (ob := .dT (putK kvs k z)) I3 (by rw [ea]; exact True.intro) hs ⟨oo, hq⟩ ⟨hl2, hd, _, hk.keeps (fun c ys ec => (by rw [upd_ne (ne_of ec ea (fun z => nomatch z))]; exact ec)), oo, es, ep, hq, h2, h3, h4, h5⟩, rz, q4 q0⟩
/-- a comprehension over the keys of a dict -/
theorem lc_keysT {d : Addr} {od : Obj} {kvs : List (List Key × V)} {g : TG} {tt : TT} {te : TE} {vs : List Nat} {σ : L2.St} {H1 : Hp} {D : Addr} {Qd : Hp → Prop} (Pv : Nat → Hp → Prop) (h0 : Pv 0 (upd H1 D (.lst []))) (hG : ∀ i H, i ≤ kvs.length → Pv i H → H d = some (.frz od (.dT kvs)))
    (hs : ∀ i k v q H, kvs[i]? = some (k, v) → H q = some (.tup (k.map kV)) → Pv i H → g (.ref q) (wipe σ vs) H fun σ2 H2 => wipe σ2 vs = wipe σ vs ∧ tt σ2 H2 fun b H3 =>
      if b = true then te σ2 H3 fun y H4 => ∃ acc, H4 D = some (.lst acc) ∧ acc.length < sizeLine ∧ Pv (i + 1) (upd H4 D (.lst (acc ++ [y]))) else Pv (i + 1) H3) (hd : ∀ H, Pv kvs.length H → Qd H) :
    ∃ W : Nat → Nat → Hp → Prop, (∃ m, W 0 m (upd H1 D (.lst []))) ∧ ∀ i m H, W i m H →
      ((Itkt d od kvs).stop i H ∧ Qd H) ∨ ((Itkt d od kvs).go i H ∧ ∃ Nx : Hp → Prop, (∀ H', Nx H' → ∃ m', m' < m ∧ W (i + 1) m' H') ∧ ∀ x H', (Itkt d od kvs).yld i H x H' → g x (wipe σ vs) H' fun σ2 H2 => wipe σ2 vs = wipe σ vs ∧ tt σ2 H2 fun b H3 =>
        if b = true then te σ2 H3 fun y H4 => ∃ acc, H4 D = some (.lst acc) ∧ acc.length < sizeLine ∧ Nx (upd H4 D (.lst (acc ++ [y]))) else Nx H3) :=
  lc_it (walk_keysT (d := d) (o := od) (kvs := kvs)) Pv h0 hG (fun i x H H' hi p y => by
    obtain ⟨rfl, k, v, q, h1, rfl, h2⟩ := y
    exact hs i k v q _ h1 h2 p) hd
/-- a loop over the keys of a dict -/
theorem for_keysT {d : Addr} {od : Obj} {kvs : List (List Key × V)} {g : TG} {tb : L2.TS} {D : Ends} {σ : L2.St} {H : Hp} (Pv : Nat → L2.St → Hp → Prop) (h0 : Pv 0 σ H) (hG : ∀ i σ H, i ≤ kvs.length → Pv i σ H → H d = some (.frz od (.dT kvs)))
    (hs : ∀ i k v q σ H, kvs[i]? = some (k, v) → H q = some (.tup (k.map kV)) → Pv i σ H → g (.ref q) σ H fun σ2 H2 => tb { D with nx := Pv (i + 1), ct := Pv (i + 1), bk := D.nx } σ2 H2) (hd : ∀ σ H, Pv kvs.length σ H → D.nx σ H) :
    ∃ W : Nat → Nat → L2.St → Hp → Prop, (∃ m, W 0 m σ H) ∧ ∀ i m σ H, W i m σ H →
      ((Itkt d od kvs).stop i H ∧ D.nx σ H) ∨ ((Itkt d od kvs).go i H ∧ ∃ N : L2.St → Hp → Prop, (∀ σ' H', N σ' H' → ∃ m', m' < m ∧ W (i + 1) m' σ' H') ∧ ∀ x H', (Itkt d od kvs).yld i H x H' → g x σ H' fun σ2 H2 => tb { D with nx := N, ct := N, bk := D.nx } σ2 H2) :=
  for_it (walk_keysT (d := d) (o := od) (kvs := kvs)) Pv h0 hG (fun i x σ H H' hi p y => by
    obtain ⟨rfl, k, v, q, h1, rfl, h2⟩ := y
    exact hs i k v q σ _ h1 h2 p) hd
end
/-- d.pop(y, z), y a tuple: whatever is told, the key is out -/
def rPopW : V → List V → Hp → VK → Prop := fun x xs H Q => ∃ (a : Addr) (kvs : List (List Key × V)) (k : List Key) (b : Addr) (d : V), x = .ref a ∧ xs = [.ref b, d] ∧ H a = some (.dT kvs) ∧ H b = some (.tup (k.map kV)) ∧
  ∀ v H', H' a = some (.dT (dropK kvs k)) → Keep [a] H H' → Dom H H' → Q v H'
theorem dropK_none {κ : Type} [DecidableEq κ] {kvs : List (κ × V)} {k : κ} (h : valV kvs k = none) : dropK kvs k = kvs := by
  unfold dropK
  refine List.filter_eq_self.mpr fun p hp => decide_eq_true fun e => ?_
  exact valV_not h (List.mem_map.mpr ⟨p, hp, e⟩)
theorem mt_popW {X : Cx} (hu : X.A.units + 1 < cLine) : MtR X "dict.pop" rPopW := by
  intro pins s σ H x xs v us Q I rx rxs h
  obtain ⟨a, kvs, k, b, d, rfl, rfl, ha, hb, q⟩ := h
  refine L2.DX.mt_popT hu pins s σ H _ _ v us Q I rx rxs ⟨a, kvs, k, b, d, rfl, rfl, ha, hb, fun v hv => ?_, fun hv => ?_⟩
  · exact q _ _ upd_same (keep_upd (Keep.refl _ _) (by simp)) (dom_upd _ _ _)
  · exact q _ _ (by rw [dropK_none hv]; exact ha) (Keep.refl _ _) (Dom.refl _)
/-- the lock is off again -/
theorem unlock {H H' : Hp} {d : Addr} {u : HO} (k : Keep [d] H H') (h : H d = some u) : Same H (upd H' d u) := fun b o e => by
  by_cases z : b = d
  · subst z
    rw [upd_same, ← h]
    exact e
  · rw [upd_ne z]
    exact k b o (by simpa using z) e
end Sky

/-! Cuts in walks: what holds behind a statement. -/
namespace Sky
open PySem PySem.Spec PyProof.Rows L2
section
variable {X b : L2.TS} {t : TT} {tb : L2.TS} {D : Ends} {σ : L2.St} {H : Hp} {i : Nat} {x : V} {r : VK} {k c : L2.St → Hp → Prop}
theorem seq_cut (R : L2.St → Hp → Prop) (rest : ∀ σ' H', R σ' H' → b D σ' H') (h : ∀ D' : Ends, (∀ σ' H', R σ' H' → D'.nx σ' H') → X D' σ H) : tSeq X b D σ H := h _ rest
theorem nx_cut (R : L2.St → Hp → Prop) (rest : ∀ σ' H', R σ' H' → b D σ' H') (h : ∀ D' : Ends, (∀ σ' H', R σ' H' → D'.nx σ' H') → X D' σ H) : Ends.nx ⟨tSeq X b D, r, k, c⟩ σ H := h _ rest
theorem gn_cut (R : L2.St → Hp → Prop) (rest : ∀ σ' H', R σ' H' → b D σ' H') (h : ∀ D' : Ends, (∀ σ' H', R σ' H' → D'.nx σ' H') → X D' (σ.set i (some x)) H) : gName i x σ H (Ends.nx ⟨tSeq X b D, r, k, c⟩) := h _ rest
theorem gb_cut (R : L2.St → Hp → Prop) (rest : ∀ σ' H', R σ' H' → b D σ' H') (h : ∀ D' : Ends, (∀ σ' H', R σ' H' → D'.nx σ' H') → X D' (σ.set i (some x)) H) : gName i x σ H (fun σ2 H2 => tSeq X b D σ2 H2) := h _ rest
theorem seq_ifs (Cd : Hp → Prop) (rest : ∀ H1, Cd H1 → b D σ H1) (h : ∀ Q : Bool → Hp → Prop, (∀ H1, Cd H1 → Q false H1) → t σ H Q) : tSeq (tIfS t tb tNext) b D σ H := h _ fun H1 c => iteF (rest H1 c)
theorem gn_ifs (Cd : Hp → Prop) (rest : ∀ H1, Cd H1 → b D (σ.set i (some x)) H1) (h : ∀ Q : Bool → Hp → Prop, (∀ H1, Cd H1 → Q false H1) → t (σ.set i (some x)) H Q) : gName i x σ H (Ends.nx ⟨tSeq (tIfS t tb tNext) b D, r, k, c⟩) := h _ fun H1 c => iteF (rest H1 c)
theorem nx_ifs (Cd : Hp → Prop) (rest : ∀ H1, Cd H1 → b D σ H1) (h : ∀ Q : Bool → Hp → Prop, (∀ H1, Cd H1 → Q false H1) → t σ H Q) : Ends.nx ⟨tSeq (tIfS t tb tNext) b D, r, k, c⟩ σ H := h _ fun H1 c => iteF (rest H1 c)
end
end Sky

namespace K10
open PySem PySem.Spec PyProof.Rows L2 Sky
def topS (i : Nat) : Stmt := PySem.Challenge.pw_skyframes_k10_whole_a_craft_loses_where.main.body.getD i (.Pass ⟨0, 0, 0, 0⟩)
abbrev s_is_number : Stmt := topS 18
abbrev N_is_number : List Str := ["value", "low", "high"]
theorem sc_is_number : FnScope N_is_number ["value", "low", "high"] (defScope s_is_number) := ⟨rfl, rfl, rfl, by decide +kernel, rfl, by decide +kernel, by decide +kernel⟩
abbrev s_is_stream : Stmt := topS 19
abbrev N_is_stream : List Str := ["value"]
theorem sc_is_stream : FnScope N_is_stream ["value"] (defScope s_is_stream) := ⟨rfl, rfl, rfl, by decide +kernel, rfl, by decide +kernel, by decide +kernel⟩
abbrev s_holds_numbers : Stmt := topS 20
abbrev N_holds_numbers : List Str := ["value", "number"]
theorem sc_holds_numbers : FnScope N_holds_numbers ["value"] (defScope s_holds_numbers) := ⟨rfl, rfl, rfl, by decide +kernel, rfl, by decide +kernel, by decide +kernel⟩
abbrev s_is_telling : Stmt := topS 21
abbrev N_is_telling : List Str := ["value"]
theorem sc_is_telling : FnScope N_is_telling ["value"] (defScope s_is_telling) := ⟨rfl, rfl, rfl, by decide +kernel, rfl, by decide +kernel, by decide +kernel⟩
abbrev s_is_mark : Stmt := topS 22
abbrev N_is_mark : List Str := ["value", "stream", "count"]
theorem sc_is_mark : FnScope N_is_mark ["value"] (defScope s_is_mark) := ⟨rfl, rfl, rfl, by decide +kernel, rfl, by decide +kernel, by decide +kernel⟩
abbrev s_is_window : Stmt := topS 23
abbrev N_is_window : List Str := ["value", "low", "high", "begin", "end"]
theorem sc_is_window : FnScope N_is_window ["value", "low", "high"] (defScope s_is_window) := ⟨rfl, rfl, rfl, by decide +kernel, rfl, by decide +kernel, by decide +kernel⟩
abbrev s_check_stream : Stmt := topS 24
abbrev N_check_stream : List Str := ["stream"]
theorem sc_check_stream : FnScope N_check_stream ["stream"] (defScope s_check_stream) := ⟨rfl, rfl, rfl, by decide +kernel, rfl, by decide +kernel, by decide +kernel⟩
abbrev s_check_telling : Stmt := topS 25
abbrev N_check_telling : List Str := ["telling"]
theorem sc_check_telling : FnScope N_check_telling ["telling"] (defScope s_check_telling) := ⟨rfl, rfl, rfl, by decide +kernel, rfl, by decide +kernel, by decide +kernel⟩
abbrev s_check_size : Stmt := topS 26
abbrev N_check_size : List Str := ["size"]
theorem sc_check_size : FnScope N_check_size ["size"] (defScope s_check_size) := ⟨rfl, rfl, rfl, by decide +kernel, rfl, by decide +kernel, by decide +kernel⟩
abbrev s_check_room : Stmt := topS 27
abbrev N_check_room : List Str := ["room"]
theorem sc_check_room : FnScope N_check_room ["room"] (defScope s_check_room) := ⟨rfl, rfl, rfl, by decide +kernel, rfl, by decide +kernel, by decide +kernel⟩
abbrev s_check_marks : Stmt := topS 28
abbrev N_check_marks : List Str := ["marks", "at", "mark"]
theorem sc_check_marks : FnScope N_check_marks ["marks"] (defScope s_check_marks) := ⟨rfl, rfl, rfl, by decide +kernel, rfl, by decide +kernel, by decide +kernel⟩
abbrev s_check_makes : Stmt := topS 29
abbrev N_check_makes : List Str := ["makes", "many"]
theorem sc_check_makes : FnScope N_check_makes ["makes"] (defScope s_check_makes) := ⟨rfl, rfl, rfl, by decide +kernel, rfl, by decide +kernel, by decide +kernel⟩
abbrev s_check_windows : Stmt := topS 30
abbrev N_check_windows : List Str := ["windows", "beats", "low", "window"]
theorem sc_check_windows : FnScope N_check_windows ["windows", "beats"] (defScope s_check_windows) := ⟨rfl, rfl, rfl, by decide +kernel, rfl, by decide +kernel, by decide +kernel⟩
abbrev s_Laying_init : Stmt := inClass (topS 33) 0
abbrev N_Laying_init : List Str := ["self", "stream", "size"]
theorem sc_Laying_init : FnScope N_Laying_init ["self", "stream", "size"] (defScope s_Laying_init) := ⟨rfl, rfl, rfl, by decide +kernel, rfl, by decide +kernel, by decide +kernel⟩
abbrev s_Laying_lay : Stmt := inClass (topS 33) 1
abbrev N_Laying_lay : List Str := ["self", "telling", "laid", "full", "number"]
theorem sc_Laying_lay : FnScope N_Laying_lay ["self", "telling"] (defScope s_Laying_lay) := ⟨rfl, rfl, rfl, by decide +kernel, rfl, by decide +kernel, by decide +kernel⟩
abbrev s_Laying_fill : Stmt := inClass (topS 33) 2
abbrev N_Laying_fill : List Str := ["self"]
theorem sc_Laying_fill : FnScope N_Laying_fill ["self"] (defScope s_Laying_fill) := ⟨rfl, rfl, rfl, by decide +kernel, rfl, by decide +kernel, by decide +kernel⟩
abbrev s_Laying_done : Stmt := inClass (topS 33) 3
abbrev N_Laying_done : List Str := ["self", "frame"]
theorem sc_Laying_done : FnScope N_Laying_done ["self"] (defScope s_Laying_done) := ⟨rfl, rfl, rfl, by decide +kernel, rfl, by decide +kernel, by decide +kernel⟩
abbrev s_Craft_init : Stmt := inClass (topS 35) 0
abbrev N_Craft_init : List Str := ["self", "size", "room", "stream"]
theorem sc_Craft_init : FnScope N_Craft_init ["self", "size", "room"] (defScope s_Craft_init) := ⟨rfl, rfl, rfl, by decide +kernel, rfl, by decide +kernel, by decide +kernel⟩
abbrev s_Craft_tell : Stmt := inClass (topS 35) 1
abbrev N_Craft_tell : List Str := ["self", "stream", "data", "laying", "number", "frame"]
theorem sc_Craft_tell : FnScope N_Craft_tell ["self", "stream", "data"] (defScope s_Craft_tell) := ⟨rfl, rfl, rfl, by decide +kernel, rfl, by decide +kernel, by decide +kernel⟩
abbrev s_Craft_close : Stmt := inClass (topS 35) 2
abbrev N_Craft_close : List Str := ["self", "stream", "frame"]
theorem sc_Craft_close : FnScope N_Craft_close ["self", "stream"] (defScope s_Craft_close) := ⟨rfl, rfl, rfl, by decide +kernel, rfl, by decide +kernel, by decide +kernel⟩
abbrev s_Craft_begin : Stmt := inClass (topS 35) 3
abbrev N_Craft_begin : List Str := ["self", "fresh"]
theorem sc_Craft_begin : FnScope N_Craft_begin ["self"] (defScope s_Craft_begin) := ⟨rfl, rfl, rfl, by decide +kernel, rfl, by decide +kernel, by decide +kernel⟩
abbrev s_Craft_shut : Stmt := inClass (topS 35) 4
abbrev N_Craft_shut : List Str := ["self", "ended"]
theorem sc_Craft_shut : FnScope N_Craft_shut ["self"] (defScope s_Craft_shut) := ⟨rfl, rfl, rfl, by decide +kernel, rfl, by decide +kernel, by decide +kernel⟩
abbrev s_Craft_beat : Stmt := inClass (topS 35) 5
abbrev N_Craft_beat : List Str := ["self", "mark"]
theorem sc_Craft_beat : FnScope N_Craft_beat ["self"] (defScope s_Craft_beat) := ⟨rfl, rfl, rfl, by decide +kernel, rfl, by decide +kernel, by decide +kernel⟩
abbrev s_Craft_known : Stmt := inClass (topS 35) 6
abbrev N_Craft_known : List Str := ["self", "marks", "many", "mark"]
theorem sc_Craft_known : FnScope N_Craft_known ["self", "marks"] (defScope s_Craft_known) := ⟨rfl, rfl, rfl, by decide +kernel, rfl, by decide +kernel, by decide +kernel⟩
abbrev s_Craft_kept : Stmt := inClass (topS 35) 8
abbrev N_Craft_kept : List Str := ["self", "rows", "stream", "count", "state"]
theorem sc_Craft_kept : FnScope N_Craft_kept ["self"] (defScope s_Craft_kept) := ⟨rfl, rfl, rfl, by decide +kernel, rfl, by decide +kernel, by decide +kernel⟩
abbrev s_Craft_lost : Stmt := inClass (topS 35) 9
abbrev N_Craft_lost : List Str := ["self"]
theorem sc_Craft_lost : FnScope N_Craft_lost ["self"] (defScope s_Craft_lost) := ⟨rfl, rfl, rfl, by decide +kernel, rfl, by decide +kernel, by decide +kernel⟩
abbrev s_Craft_next_mark : Stmt := inClass (topS 35) 11
abbrev N_Craft_next_mark : List Str := ["self", "fresh", "line", "mark"]
theorem sc_Craft_next_mark : FnScope N_Craft_next_mark ["self"] (defScope s_Craft_next_mark) := ⟨rfl, rfl, rfl, by decide +kernel, rfl, by decide +kernel, by decide +kernel⟩
abbrev s_Craft_keep : Stmt := inClass (topS 35) 12
abbrev N_Craft_keep : List Str := ["self", "frame"]
theorem sc_Craft_keep : FnScope N_Craft_keep ["self", "frame"] (defScope s_Craft_keep) := ⟨rfl, rfl, rfl, by decide +kernel, rfl, by decide +kernel, by decide +kernel⟩
abbrev s_Craft_make_room : Stmt := inClass (topS 35) 13
abbrev N_Craft_make_room : List Str := ["self", "sent", "oldest", "mark"]
theorem sc_Craft_make_room : FnScope N_Craft_make_room ["self"] (defScope s_Craft_make_room) := ⟨rfl, rfl, rfl, by decide +kernel, rfl, by decide +kernel, by decide +kernel⟩
abbrev s_Craft_let_go : Stmt := inClass (topS 35) 14
abbrev N_Craft_let_go : List Str := ["self", "mark"]
theorem sc_Craft_let_go : FnScope N_Craft_let_go ["self", "mark"] (defScope s_Craft_let_go) := ⟨rfl, rfl, rfl, by decide +kernel, rfl, by decide +kernel, by decide +kernel⟩
abbrev s_most_kept : Stmt := topS 37
abbrev N_most_kept : List Str := ["makes", "windows"]
theorem sc_most_kept : FnScope N_most_kept ["makes", "windows"] (defScope s_most_kept) := ⟨rfl, rfl, rfl, by decide +kernel, rfl, by decide +kernel, by decide +kernel⟩
abbrev s_short_at : Stmt := topS 38
abbrev N_short_at : List Str := ["makes", "windows", "room"]
theorem sc_short_at : FnScope N_short_at ["makes", "windows", "room"] (defScope s_short_at) := ⟨rfl, rfl, rfl, by decide +kernel, rfl, by decide +kernel, by decide +kernel⟩
abbrev s_kept_at_beats : Stmt := topS 39
abbrev N_kept_at_beats : List Str := ["makes", "windows", "beat", "sends", "rows", "kept", "many", "begin", "end"]
theorem sc_kept_at_beats : FnScope N_kept_at_beats ["makes", "windows"] (defScope s_kept_at_beats) := ⟨rfl, rfl, rfl, by decide +kernel, rfl, by decide +kernel, by decide +kernel⟩
abbrev s_first_short : Stmt := topS 40
abbrev N_first_short : List Str := ["makes", "windows", "room", "beat", "kept"]
theorem sc_first_short : FnScope N_first_short ["makes", "windows", "room"] (defScope s_first_short) := ⟨rfl, rfl, rfl, by decide +kernel, rfl, by decide +kernel, by decide +kernel⟩
abbrev s_law_mix : Stmt := topS 42
abbrev N_law_mix : List Str := ["_law_script", "_law_seed", "_law_mixed", "_law_cell"]
theorem sc_law_mix : FnScope N_law_mix ["_law_script", "_law_seed"] (defScope s_law_mix) := ⟨rfl, rfl, rfl, by decide +kernel, rfl, by decide +kernel, by decide +kernel⟩
abbrev s_law_next : Stmt := topS 43
abbrev N_law_next : List Str := ["_law_h", "_law_many", "_law_at", "_law_cell"]
theorem sc_law_next : FnScope N_law_next ["_law_h", "_law_many"] (defScope s_law_next) := ⟨rfl, rfl, rfl, by decide +kernel, rfl, by decide +kernel, by decide +kernel⟩
abbrev s_law_alike : Stmt := topS 44
abbrev N_law_alike : List Str := ["_law_found", "_law_due", "_law_k"]
theorem sc_law_alike : FnScope N_law_alike ["_law_found", "_law_due"] (defScope s_law_alike) := ⟨rfl, rfl, rfl, by decide +kernel, rfl, by decide +kernel, by decide +kernel⟩
abbrev s_law_windows : Stmt := topS 45
abbrev N_law_windows : List Str := ["_law_h", "_law_many", "_law_found", "_law_last", "_law_begin", "_law_end"]
theorem sc_law_windows : FnScope N_law_windows ["_law_h", "_law_many"] (defScope s_law_windows) := ⟨rfl, rfl, rfl, by decide +kernel, rfl, by decide +kernel, by decide +kernel⟩
abbrev s_law : Stmt := topS 46
abbrev N_law : List Str := ["_law_script", "_law_h", "_law_often", "_law_k", "_law_makes", "_law_windows_here", "_law_size", "_law_most", "_law_room", "_law_craft", "_law_first", "_law_greatest", "_law_beat", "_law_frame", "_law_pair"]
theorem sc_law : FnScope N_law ["_law_script"] (defScope s_law) := ⟨rfl, rfl, rfl, by decide +kernel, rfl, by decide +kernel, by decide +kernel⟩
structure Tx (K : PySem.W.Frag) (mg : Str → Option Value) where
  A_Laying : Addr
  A_Craft : Addr
  a_is_number : Addr
  d_is_number : FuncData
  F_is_number : Fun K "is_number" "is_number" s_is_number a_is_number d_is_number
  b_is_number : Binds K d_is_number ["value", "low", "high"] []
  m_is_number : mg "is_number" = some (.ref a_is_number)
  a_is_stream : Addr
  d_is_stream : FuncData
  F_is_stream : Fun K "is_stream" "is_stream" s_is_stream a_is_stream d_is_stream
  b_is_stream : Binds K d_is_stream ["value"] []
  m_is_stream : mg "is_stream" = some (.ref a_is_stream)
  a_holds_numbers : Addr
  d_holds_numbers : FuncData
  F_holds_numbers : Fun K "holds_numbers" "holds_numbers" s_holds_numbers a_holds_numbers d_holds_numbers
  b_holds_numbers : Binds K d_holds_numbers ["value"] []
  m_holds_numbers : mg "holds_numbers" = some (.ref a_holds_numbers)
  a_is_telling : Addr
  d_is_telling : FuncData
  F_is_telling : Fun K "is_telling" "is_telling" s_is_telling a_is_telling d_is_telling
  b_is_telling : Binds K d_is_telling ["value"] []
  m_is_telling : mg "is_telling" = some (.ref a_is_telling)
  a_is_mark : Addr
  d_is_mark : FuncData
  F_is_mark : Fun K "is_mark" "is_mark" s_is_mark a_is_mark d_is_mark
  b_is_mark : Binds K d_is_mark ["value"] []
  m_is_mark : mg "is_mark" = some (.ref a_is_mark)
  a_is_window : Addr
  d_is_window : FuncData
  F_is_window : Fun K "is_window" "is_window" s_is_window a_is_window d_is_window
  b_is_window : Binds K d_is_window ["value", "low", "high"] []
  m_is_window : mg "is_window" = some (.ref a_is_window)
  a_check_stream : Addr
  d_check_stream : FuncData
  F_check_stream : Fun K "check_stream" "check_stream" s_check_stream a_check_stream d_check_stream
  b_check_stream : Binds K d_check_stream ["stream"] []
  m_check_stream : mg "check_stream" = some (.ref a_check_stream)
  a_check_telling : Addr
  d_check_telling : FuncData
  F_check_telling : Fun K "check_telling" "check_telling" s_check_telling a_check_telling d_check_telling
  b_check_telling : Binds K d_check_telling ["telling"] []
  m_check_telling : mg "check_telling" = some (.ref a_check_telling)
  a_check_size : Addr
  d_check_size : FuncData
  F_check_size : Fun K "check_size" "check_size" s_check_size a_check_size d_check_size
  b_check_size : Binds K d_check_size ["size"] []
  m_check_size : mg "check_size" = some (.ref a_check_size)
  a_check_room : Addr
  d_check_room : FuncData
  F_check_room : Fun K "check_room" "check_room" s_check_room a_check_room d_check_room
  b_check_room : Binds K d_check_room ["room"] []
  m_check_room : mg "check_room" = some (.ref a_check_room)
  a_check_marks : Addr
  d_check_marks : FuncData
  F_check_marks : Fun K "check_marks" "check_marks" s_check_marks a_check_marks d_check_marks
  b_check_marks : Binds K d_check_marks ["marks"] []
  m_check_marks : mg "check_marks" = some (.ref a_check_marks)
  a_check_makes : Addr
  d_check_makes : FuncData
  F_check_makes : Fun K "check_makes" "check_makes" s_check_makes a_check_makes d_check_makes
  b_check_makes : Binds K d_check_makes ["makes"] []
  m_check_makes : mg "check_makes" = some (.ref a_check_makes)
  a_check_windows : Addr
  d_check_windows : FuncData
  F_check_windows : Fun K "check_windows" "check_windows" s_check_windows a_check_windows d_check_windows
  b_check_windows : Binds K d_check_windows ["windows", "beats"] []
  m_check_windows : mg "check_windows" = some (.ref a_check_windows)
  a_Laying_init : Addr
  d_Laying_init : FuncData
  F_Laying_init : Fun K "__init__" "Laying.__init__" s_Laying_init a_Laying_init d_Laying_init
  b_Laying_init : Binds K d_Laying_init ["self", "stream", "size"] []
  a_Laying_lay : Addr
  d_Laying_lay : FuncData
  F_Laying_lay : Fun K "lay" "Laying.lay" s_Laying_lay a_Laying_lay d_Laying_lay
  b_Laying_lay : Binds K d_Laying_lay ["self", "telling"] []
  M_Laying_lay : Meth K A_Laying "lay" a_Laying_lay
  a_Laying_fill : Addr
  d_Laying_fill : FuncData
  F_Laying_fill : Fun K "fill" "Laying.fill" s_Laying_fill a_Laying_fill d_Laying_fill
  b_Laying_fill : Binds K d_Laying_fill ["self"] []
  M_Laying_fill : Meth K A_Laying "fill" a_Laying_fill
  a_Laying_done : Addr
  d_Laying_done : FuncData
  F_Laying_done : Fun K "_done" "Laying._done" s_Laying_done a_Laying_done d_Laying_done
  b_Laying_done : Binds K d_Laying_done ["self"] []
  M_Laying_done : Meth K A_Laying "_done" a_Laying_done
  a_Craft_init : Addr
  d_Craft_init : FuncData
  F_Craft_init : Fun K "__init__" "Craft.__init__" s_Craft_init a_Craft_init d_Craft_init
  b_Craft_init : Binds K d_Craft_init ["self", "size", "room"] []
  a_Craft_tell : Addr
  d_Craft_tell : FuncData
  F_Craft_tell : Fun K "tell" "Craft.tell" s_Craft_tell a_Craft_tell d_Craft_tell
  b_Craft_tell : Binds K d_Craft_tell ["self", "stream", "data"] []
  M_Craft_tell : Meth K A_Craft "tell" a_Craft_tell
  a_Craft_close : Addr
  d_Craft_close : FuncData
  F_Craft_close : Fun K "close" "Craft.close" s_Craft_close a_Craft_close d_Craft_close
  b_Craft_close : Binds K d_Craft_close ["self", "stream"] []
  M_Craft_close : Meth K A_Craft "close" a_Craft_close
  a_Craft_begin : Addr
  d_Craft_begin : FuncData
  F_Craft_begin : Fun K "begin" "Craft.begin" s_Craft_begin a_Craft_begin d_Craft_begin
  b_Craft_begin : Binds K d_Craft_begin ["self"] []
  M_Craft_begin : Meth K A_Craft "begin" a_Craft_begin
  a_Craft_shut : Addr
  d_Craft_shut : FuncData
  F_Craft_shut : Fun K "shut" "Craft.shut" s_Craft_shut a_Craft_shut d_Craft_shut
  b_Craft_shut : Binds K d_Craft_shut ["self"] []
  M_Craft_shut : Meth K A_Craft "shut" a_Craft_shut
  a_Craft_beat : Addr
  d_Craft_beat : FuncData
  F_Craft_beat : Fun K "beat" "Craft.beat" s_Craft_beat a_Craft_beat d_Craft_beat
  b_Craft_beat : Binds K d_Craft_beat ["self"] []
  M_Craft_beat : Meth K A_Craft "beat" a_Craft_beat
  a_Craft_known : Addr
  d_Craft_known : FuncData
  F_Craft_known : Fun K "known" "Craft.known" s_Craft_known a_Craft_known d_Craft_known
  b_Craft_known : Binds K d_Craft_known ["self", "marks"] []
  M_Craft_known : Meth K A_Craft "known" a_Craft_known
  a_Craft_kept : Addr
  d_Craft_kept : FuncData
  F_Craft_kept : Fun K "kept" "Craft.kept" s_Craft_kept a_Craft_kept d_Craft_kept
  b_Craft_kept : Binds K d_Craft_kept ["self"] []
  M_Craft_kept : Meth K A_Craft "kept" a_Craft_kept
  a_Craft_lost : Addr
  d_Craft_lost : FuncData
  F_Craft_lost : Fun K "lost" "Craft.lost" s_Craft_lost a_Craft_lost d_Craft_lost
  b_Craft_lost : Binds K d_Craft_lost ["self"] []
  M_Craft_lost : Meth K A_Craft "lost" a_Craft_lost
  a_Craft_next_mark : Addr
  d_Craft_next_mark : FuncData
  F_Craft_next_mark : Fun K "_next_mark" "Craft._next_mark" s_Craft_next_mark a_Craft_next_mark d_Craft_next_mark
  b_Craft_next_mark : Binds K d_Craft_next_mark ["self"] []
  M_Craft_next_mark : Meth K A_Craft "_next_mark" a_Craft_next_mark
  a_Craft_keep : Addr
  d_Craft_keep : FuncData
  F_Craft_keep : Fun K "_keep" "Craft._keep" s_Craft_keep a_Craft_keep d_Craft_keep
  b_Craft_keep : Binds K d_Craft_keep ["self", "frame"] []
  M_Craft_keep : Meth K A_Craft "_keep" a_Craft_keep
  a_Craft_make_room : Addr
  d_Craft_make_room : FuncData
  F_Craft_make_room : Fun K "_make_room" "Craft._make_room" s_Craft_make_room a_Craft_make_room d_Craft_make_room
  b_Craft_make_room : Binds K d_Craft_make_room ["self"] []
  M_Craft_make_room : Meth K A_Craft "_make_room" a_Craft_make_room
  a_Craft_let_go : Addr
  d_Craft_let_go : FuncData
  F_Craft_let_go : Fun K "_let_go" "Craft._let_go" s_Craft_let_go a_Craft_let_go d_Craft_let_go
  b_Craft_let_go : Binds K d_Craft_let_go ["self", "mark"] []
  M_Craft_let_go : Meth K A_Craft "_let_go" a_Craft_let_go
  a_most_kept : Addr
  d_most_kept : FuncData
  F_most_kept : Fun K "most_kept" "most_kept" s_most_kept a_most_kept d_most_kept
  b_most_kept : Binds K d_most_kept ["makes", "windows"] []
  m_most_kept : mg "most_kept" = some (.ref a_most_kept)
  a_short_at : Addr
  d_short_at : FuncData
  F_short_at : Fun K "short_at" "short_at" s_short_at a_short_at d_short_at
  b_short_at : Binds K d_short_at ["makes", "windows", "room"] []
  m_short_at : mg "short_at" = some (.ref a_short_at)
  a_kept_at_beats : Addr
  d_kept_at_beats : FuncData
  F_kept_at_beats : Fun K "_kept_at_beats" "_kept_at_beats" s_kept_at_beats a_kept_at_beats d_kept_at_beats
  b_kept_at_beats : Binds K d_kept_at_beats ["makes", "windows"] []
  m_kept_at_beats : mg "_kept_at_beats" = some (.ref a_kept_at_beats)
  a_first_short : Addr
  d_first_short : FuncData
  F_first_short : Fun K "_first_short" "_first_short" s_first_short a_first_short d_first_short
  b_first_short : Binds K d_first_short ["makes", "windows", "room"] []
  m_first_short : mg "_first_short" = some (.ref a_first_short)
  a_law_mix : Addr
  d_law_mix : FuncData
  F_law_mix : Fun K "_law_mix" "_law_mix" s_law_mix a_law_mix d_law_mix
  b_law_mix : Binds K d_law_mix ["_law_script", "_law_seed"] []
  m_law_mix : mg "_law_mix" = some (.ref a_law_mix)
  a_law_next : Addr
  d_law_next : FuncData
  F_law_next : Fun K "_law_next" "_law_next" s_law_next a_law_next d_law_next
  b_law_next : Binds K d_law_next ["_law_h", "_law_many"] []
  m_law_next : mg "_law_next" = some (.ref a_law_next)
  a_law_alike : Addr
  d_law_alike : FuncData
  F_law_alike : Fun K "_law_alike" "_law_alike" s_law_alike a_law_alike d_law_alike
  b_law_alike : Binds K d_law_alike ["_law_found", "_law_due"] []
  m_law_alike : mg "_law_alike" = some (.ref a_law_alike)
  a_law_windows : Addr
  d_law_windows : FuncData
  F_law_windows : Fun K "_law_windows" "_law_windows" s_law_windows a_law_windows d_law_windows
  b_law_windows : Binds K d_law_windows ["_law_h", "_law_many"] []
  m_law_windows : mg "_law_windows" = some (.ref a_law_windows)
  a_law : Addr
  d_law : FuncData
  F_law : Fun K "law" "law" s_law a_law d_law
  b_law : Binds K d_law ["_law_script"] []
  m_law : mg "law" = some (.ref a_law)
  cl_Laying : Cls K A_Laying
  m_Laying : mg "Laying" = some (.ref A_Laying)
  mk_Laying : Mk K A_Laying a_Laying_init
  n_Laying_body : NoAttr K A_Laying "_body"
  n_Laying_count : NoAttr K A_Laying "_count"
  n_Laying_first : NoAttr K A_Laying "_first"
  n_Laying_size : NoAttr K A_Laying "_size"
  n_Laying_stream : NoAttr K A_Laying "_stream"
  n_Laying_many : NoAttr K A_Laying "many"
  cl_Craft : Cls K A_Craft
  m_Craft : mg "Craft" = some (.ref A_Craft)
  mk_Craft : Mk K A_Craft a_Craft_init
  n_Craft_asked : NoAttr K A_Craft "_asked"
  n_Craft_frames : NoAttr K A_Craft "_frames"
  n_Craft_gone : NoAttr K A_Craft "_gone"
  n_Craft_layings : NoAttr K A_Craft "_layings"
  n_Craft_room : NoAttr K A_Craft "_room"
  n_Craft_sent : NoAttr K A_Craft "_sent"
  n_Craft_window : NoAttr K A_Craft "_window"
  z_all : mg "all" = none
  z_bool : mg "bool" = none
  z_enumerate : mg "enumerate" = none
  z_int : mg "int" = none
  z_isinstance : mg "isinstance" = none
  z_len : mg "len" = none
  z_list : mg "list" = none
  z_max : mg "max" = none
  z_min : mg "min" = none
  z_range : mg "range" = none
  z_str : mg "str" = none
  z_tuple : mg "tuple" = none
  t_STREAMS : Tok
  c_STREAMS : mg "STREAMS" = some (.int 4 t_STREAMS)
  t_MOST_NUMBERS : Tok
  c_MOST_NUMBERS : mg "MOST_NUMBERS" = some (.int 20 t_MOST_NUMBERS)
  t_LEAST_SIZE : Tok
  c_LEAST_SIZE : mg "LEAST_SIZE" = some (.int 8 t_LEAST_SIZE)
  t_MOST_SIZE : Tok
  c_MOST_SIZE : mg "MOST_SIZE" = some (.int 24 t_MOST_SIZE)
  t_MOST_ROOM : Tok
  c_MOST_ROOM : mg "MOST_ROOM" = some (.int 60 t_MOST_ROOM)
  t_MOST_COUNT : Tok
  c_MOST_COUNT : mg "MOST_COUNT" = some (.int 9999 t_MOST_COUNT)
  t_MOST_BEATS : Tok
  c_MOST_BEATS : mg "MOST_BEATS" = some (.int 200 t_MOST_BEATS)
  t_MOST_MADE : Tok
  c_MOST_MADE : mg "MOST_MADE" = some (.int 6 t_MOST_MADE)
  t_HUNDRED : Tok
  c_HUNDRED : mg "HUNDRED" = some (.int 256 t_HUNDRED)
end K10

namespace K10
open PySem PySem.Spec PyProof.Rows L2 Sky
section
variable {P : Program} {w : World} {K : PySem.W.Frag} {mg : Str → Option Value} {base : Heap}
/-! ### what may be handed in -/
def sp_is_number : Sp := fun vs H Q _ => ∃ n lo hi : Int, vs = [.int n, .int lo, .int hi] ∧ Q (.bl (decide (lo ≤ n) && decide (n ≤ hi))) H
theorem ok_is_number (T : Tx K mg) : FnOk P w K mg base CX0 1 T.a_is_number T.d_is_number ["value", "low", "high"] sp_is_number := by
  have nd := sc_is_number.nd
  refine T.F_is_number.ok sc_is_number (fun vs H Q E h => ?_) (fun cdv A outer s H vs Q E hr h => ?_)
  · obtain ⟨n, lo, hi, rfl, _⟩ := h
    rfl
  · obtain ⟨n, lo, hi, rfl, q⟩ := h
    refine ⟨_, (pss_one (ps_ret (pe_and (pe_callB call_isi (by rfl) T.z_isinstance (by decide +kernel) (pa_cons (pv 0) (pa_cons (pe_bltn (v := .ty "int") (u := .type "int") (by rfl) T.z_int (by decide +kernel) rfl) pa_nil))) (pe_and (pe_not (pe_callB call_isi (by rfl) T.z_isinstance (by decide +kernel) (pa_cons (pv 0) (pa_cons (pe_bltn (v := .ty "bool") (u := .type "bool") (by rfl) T.z_bool (by decide +kernel) rfl) pa_nil)))) (pe_one (pe_chain op_le op_le (pv 1) (pv 0) (pv 2))))))), ?_⟩
    refine ⟨_, rfl, _, _, _, _, true, rfl, .ty "int", .base (.int n), kit_ty (by decide +kernel), true, rfl, iteT ?_⟩
    refine ⟨_, rfl, _, _, _, _, false, rfl, .ty "bool", .base (.int n), kit_ty (by decide +kernel), false, rfl, true, rfl, iteT ?_⟩
    refine ⟨_, rfl, _, rfl, _, _, rfl, rfl, _, rfl, ite2 (fun a => ?_) (fun a => ?_)⟩
    · refine ⟨_, rfl, _, _, rfl, rfl, ?_⟩
      rw [a, Bool.true_and] at q
      exact q
    · rw [Bool.eq_false_iff.mpr a, Bool.false_and] at q
      exact q
end
end K10

namespace K10
open PySem PySem.Spec PyProof.Rows L2 Sky
section
variable {P : Program} {w : World} {K : PySem.W.Frag} {mg : Str → Option Value} {base : Heap}
def sp_is_stream : Sp := fun vs H Q _ => ∃ n : Int, vs = [.int n] ∧ Q (.bl (decide (0 ≤ n) && decide (n ≤ 3))) H
theorem ok_is_stream (T : Tx K mg) : FnOk P w K mg base CX0 2 T.a_is_stream T.d_is_stream ["value"] sp_is_stream := by
  have nd := sc_is_stream.nd
  refine T.F_is_stream.ok sc_is_stream (fun vs H Q E h => ?_) (fun cdv A outer s H vs Q E hr h => ?_)
  · obtain ⟨n, rfl, _⟩ := h
    rfl
  · obtain ⟨n, rfl, q⟩ := h
    refine ⟨_, (pss_one (ps_ret (pe_call (ok_is_number T) (hr.mono (by decide)) (by rfl) T.m_is_number T.F_is_number.kp T.b_is_number .nil pass0 (pa_cons (pv 0) (pa_cons pe_int (pa_cons (pe_op op_sub (pe_glob (v := .int 4) (by rfl) T.c_STREAMS ⟨_, rfl⟩) pe_int) pa_nil)))))), ?_⟩
    exact ⟨_, rfl, 4, 1, rfl, rfl, n, 0, 3, rfl, q⟩
def sp_check_stream : Sp := fun vs H Q _ => ∃ n : Int, vs = [.int n] ∧ 0 ≤ n ∧ n ≤ 3 ∧ Q .non H
theorem ok_check_stream (T : Tx K mg) : FnOk P w K mg base CX0 3 T.a_check_stream T.d_check_stream ["stream"] sp_check_stream := by
  have nd := sc_check_stream.nd
  refine T.F_check_stream.ok sc_check_stream (fun vs H Q E h => ?_) (fun cdv A outer s H vs Q E hr h => ?_)
  · obtain ⟨n, rfl, _⟩ := h
    rfl
  · obtain ⟨n, rfl, h0, h3, q⟩ := h
    refine ⟨_, (pss_one (ps_if (pt_not (pt_val (pe_call (ok_is_stream T) (hr.mono (by decide)) (by rfl) T.m_is_stream T.F_is_stream.kp T.b_is_stream .nil pass0 (pa_cons (pv 0) pa_nil)))) (pss_one ps_never) pss_nil)), ?_⟩
    refine ⟨_, rfl, n, rfl, ?_⟩
    rw [decide_eq_true h0, decide_eq_true h3]
    exact ⟨true, rfl, iteF q⟩
def sp_check_size : Sp := fun vs H Q _ => ∃ n : Int, vs = [.int n] ∧ 8 ≤ n ∧ n ≤ 24 ∧ Q .non H
theorem ok_check_size (T : Tx K mg) : FnOk P w K mg base CX0 2 T.a_check_size T.d_check_size ["size"] sp_check_size := by
  have nd := sc_check_size.nd
  refine T.F_check_size.ok sc_check_size (fun vs H Q E h => ?_) (fun cdv A outer s H vs Q E hr h => ?_)
  · obtain ⟨n, rfl, _⟩ := h
    rfl
  · obtain ⟨n, rfl, h0, h3, q⟩ := h
    refine ⟨_, (pss_one (ps_if (pt_not (pt_val (pe_call (ok_is_number T) (hr.mono (by decide)) (by rfl) T.m_is_number T.F_is_number.kp T.b_is_number .nil pass0 (pa_cons (pv 0) (pa_cons (pe_glob (v := .int 8) (by rfl) T.c_LEAST_SIZE ⟨_, rfl⟩) (pa_cons (pe_glob (v := .int 24) (by rfl) T.c_MOST_SIZE ⟨_, rfl⟩) pa_nil)))))) (pss_one ps_never) pss_nil)), ?_⟩
    refine ⟨_, rfl, n, 8, 24, rfl, ?_⟩
    rw [decide_eq_true h0, decide_eq_true h3]
    exact ⟨true, rfl, iteF q⟩
def sp_holds_numbers : Sp := fun vs H Q _ => ∃ (a : Addr) (xs : List Int), vs = [.ref a] ∧ H a = some (.tup (xs.map V.int)) ∧ (∀ x ∈ xs, 0 ≤ x ∧ x ≤ 255) ∧ xs.length ≤ 100000 ∧ ∀ H', Same H H' → Q (.bl true) H'
theorem ok_holds_numbers (T : Tx K mg) : FnOk P w K mg base CX0 2 T.a_holds_numbers T.d_holds_numbers ["value"] sp_holds_numbers := by
  have nd := sc_holds_numbers.nd
  refine T.F_holds_numbers.ok sc_holds_numbers (fun vs H Q E h => ?_) (fun cdv A outer s H vs Q E hr h => ?_)
  · obtain ⟨n, _, rfl, _⟩ := h
    rfl
  · obtain ⟨a, xs, rfl, ha, hx, hl, q⟩ := h
    refine ⟨_, (pss_one (ps_ret (pe_and (pe_callB call_isi (by rfl) T.z_isinstance (by decide +kernel) (pa_cons (pv 0) (pa_cons (pe_bltn (v := .ty "tuple") (u := .type "tuple") (by rfl) T.z_tuple (by decide +kernel) rfl) pa_nil))) (pe_one (pe_callB (cr_all rfl) (by rfl) T.z_all (by decide +kernel) (pa_cons (pe_lc (own := [("number", 1)]) rfl nd (pi_tup (pv 0)) (blkOk_by (own := [("number", 1)]) (N := N_holds_numbers) (sc := defScope s_holds_numbers) (by decide +kernel)) (fun _ _ _ _ _ => (pg_name (i := 1) nd rfl (Or.inl rfl))) (fun _ _ _ _ _ => pts_nil) (fun _ _ _ _ _ => (pe_call (ok_is_number T) (hr.mono (by decide)) (by rfl) T.m_is_number T.F_is_number.kp T.b_is_number .nil pass0 (pa_cons (pv 1) (pa_cons pe_int (pa_cons pe_int pa_nil)))))) pa_nil)))))), ?_⟩
    refine ⟨_, rfl, _, _, _, _, true, rfl, .ty "tuple", .base (.tup ha), kit_ty (by decide +kernel), true, rfl, iteT ?_⟩
    refine ⟨_, rfl, a, rfl, ⟨_, SqT.of ha⟩, fun D hD => ?_⟩
    refine lc_tup (K := K) (a := a) (xs := xs.map V.int) (fun i H' => Same H H' ∧ H' D = some (.lst ((List.replicate i true).map V.bl))) ⟨same_new (Same.refl H) hD, upd_same⟩ (fun i H' _ p => SqT.of (p.1 _ _ ha)) ?_ ?_
    · intro i x H' hi p
      obtain ⟨n, hn, rfl⟩ := map_get hi
      have hlt : i < xs.length := (List.getElem?_eq_some_iff.mp hn).1
      have hb := hx n (List.mem_of_getElem? hn)
      refine ⟨rfl, _, rfl, n, 0, 255, rfl, ?_⟩
      rw [decide_eq_true hb.1, decide_eq_true hb.2]
      refine ⟨_, p.2, ?_, same_mut p.1 hD, ?_⟩
      · rw [List.length_map, List.length_replicate]
        exact lt_line (by omega)
      · rw [upd_same, List.replicate_succ', List.map_append]
        rfl
    · intro H' p
      refine ⟨D, List.replicate (xs.map V.int).length true, rfl, SqL.of p.2, ?_⟩
      have e : (List.replicate (xs.map V.int).length true).all id = true := by simp
      rw [e]
      exact q _ p.1
end
end K10

namespace K10
open PySem PySem.Spec PyProof.Rows L2 Sky
section
variable {P : Program} {w : World} {K : PySem.W.Frag} {mg : Str → Option Value} {base : Heap}
def sp_is_telling : Sp := fun vs H Q _ => ∃ (a : Addr) (xs : List Int), vs = [.ref a] ∧ H a = some (.tup (xs.map V.int)) ∧ tellOk xs ∧ ∀ H', Same H H' → Q (.bl true) H'
theorem ok_is_telling (T : Tx K mg) : FnOk P w K mg base CX0 3 T.a_is_telling T.d_is_telling ["value"] sp_is_telling := by
  have nd := sc_is_telling.nd
  refine T.F_is_telling.ok sc_is_telling (fun vs H Q E h => ?_) (fun cdv A outer s H vs Q E hr h => ?_)
  · obtain ⟨n, _, rfl, _⟩ := h
    rfl
  · obtain ⟨a, xs, rfl, ha, ⟨h1, h2, h3⟩, q⟩ := h
    refine ⟨_, (pss_one (ps_ret (pe_and (pe_call (ok_holds_numbers T) (hr.mono (by decide)) (by rfl) T.m_holds_numbers T.F_holds_numbers.kp T.b_holds_numbers .nil pass0 (pa_cons (pv 0) pa_nil)) (pe_one (pe_chain op_le op_le pe_int (pe_callB call_len_seq (by rfl) T.z_len PySem.boot_len (pa_cons (pv 0) pa_nil)) (pe_glob (v := .int 20) (by rfl) T.c_MOST_NUMBERS ⟨_, rfl⟩)))))), ?_⟩
    refine ⟨_, rfl, a, xs, rfl, ha, h3, by omega, fun H1 s1 => ⟨true, rfl, iteT ?_⟩⟩
    refine ⟨_, rfl, _, _, rfl, .inr (SqT.of (s1 _ _ ha)), _, _, rfl, rfl, true, dT (by rw [List.length_map]; omega), iteT ?_⟩
    refine ⟨_, 20, rfl, rfl, ?_⟩
    show Q (.bl (decide (((xs.map V.int).length : Int) ≤ 20))) H1
    rw [decide_eq_true (show ((xs.map V.int).length : Int) ≤ 20 by rw [List.length_map]; omega)]
    exact q _ s1
def sp_check_telling : Sp := fun vs H Q _ => ∃ (a : Addr) (xs : List Int), vs = [.ref a] ∧ H a = some (.tup (xs.map V.int)) ∧ tellOk xs ∧ ∀ H', Same H H' → Q .non H'
theorem ok_check_telling (T : Tx K mg) : FnOk P w K mg base CX0 4 T.a_check_telling T.d_check_telling ["telling"] sp_check_telling := by
  have nd := sc_check_telling.nd
  refine T.F_check_telling.ok sc_check_telling (fun vs H Q E h => ?_) (fun cdv A outer s H vs Q E hr h => ?_)
  · obtain ⟨n, _, rfl, _⟩ := h
    rfl
  · obtain ⟨a, xs, rfl, ha, ⟨h1, h2, h3⟩, q⟩ := h
    refine ⟨_, (pss_one (ps_if (pt_not (pt_val (pe_call (ok_is_telling T) (hr.mono (by decide)) (by rfl) T.m_is_telling T.F_is_telling.kp T.b_is_telling .nil pass0 (pa_cons (pv 0) pa_nil)))) (pss_one ps_never) pss_nil)), ?_⟩
    exact ⟨_, rfl, a, xs, rfl, ha, ⟨h1, h2, h3⟩, fun H1 s1 => ⟨true, rfl, iteF (q _ s1)⟩⟩
end
end K10

namespace K10
open PySem PySem.Spec PyProof.Rows L2 Sky
section
variable {P : Program} {w : World} {K : PySem.W.Frag} {mg : Str → Option Value} {base : Heap}
def sp_is_mark : Sp := fun vs H Q _ => ∃ (m : Addr) (st c : Int), vs = [.ref m] ∧ H m = some (.tup [.int st, .int c]) ∧ 0 ≤ st ∧ st ≤ 3 ∧ 0 ≤ c ∧ c ≤ 9999 ∧ Q (.bl true) H
theorem ok_is_mark (T : Tx K mg) : FnOk P w K mg base CX0 3 T.a_is_mark T.d_is_mark ["value"] sp_is_mark := by
  have nd := sc_is_mark.nd
  refine T.F_is_mark.ok sc_is_mark (fun vs H Q E h => ?_) (fun cdv A outer s H vs Q E hr h => ?_)
  · obtain ⟨_, _, _, rfl, _⟩ := h
    rfl
  · obtain ⟨m, st, c, rfl, hm, h0, h3, c0, c9, q⟩ := h
    refine ⟨_, (pss_cons (ps_if (PW.pt (pw_or (pt_not (pt_val (pe_callB call_isi (by rfl) T.z_isinstance (by decide +kernel) (pa_cons (pv 0) (pa_cons (pe_bltn (v := .ty "tuple") (u := .type "tuple") (by rfl) T.z_tuple (by decide +kernel) rfl) pa_nil))))) (pw_or1 (pt_cmpR op_ne (pe_callB call_len_seq (by rfl) T.z_len PySem.boot_len (pa_cons (pv 0) pa_nil)) pe_int (nomark _))))) (pss_one (ps_ret pe_bl)) pss_nil) (pss_cons (ps_asg (pv 0) (pg_tup rfl (pgs_cons (pg_name (i := 1) nd rfl (Or.inl rfl)) (pgs_cons (pg_name (i := 2) nd rfl (Or.inl rfl)) pgs_nil)))) (pss_one (ps_ret (pe_and (pe_call (ok_is_stream T) (hr.mono (by decide)) (by rfl) T.m_is_stream T.F_is_stream.kp T.b_is_stream .nil pass0 (pa_cons (pv 1) pa_nil)) (pe_one (pe_call (ok_is_number T) (hr.mono (by decide)) (by rfl) T.m_is_number T.F_is_number.kp T.b_is_number .nil pass0 (pa_cons (pv 2) (pa_cons pe_int (pa_cons (pe_glob (v := .int 9999) (by rfl) T.c_MOST_COUNT ⟨_, rfl⟩) pa_nil)))))))))), ?_⟩
    refine ⟨_, rfl, _, _, _, _, true, rfl, .ty "tuple", .base (.tup hm), kit_ty (by decide +kernel), true, rfl, iteF ?_⟩
    refine ⟨_, rfl, m, _, rfl, .inr (SqT.of hm), rfl, false, ndF rfl, iteF ?_⟩
    refine ⟨_, rfl, m, _, rfl, SqT.of hm, rfl, _, _, rfl, _, _, rfl, rfl, ?_⟩
    refine ⟨_, rfl, st, rfl, ?_⟩
    rw [decide_eq_true h0, decide_eq_true h3]
    refine ⟨true, rfl, iteT ?_⟩
    refine ⟨_, rfl, c, 0, 9999, rfl, ?_⟩
    rw [decide_eq_true c0, decide_eq_true c9]
    exact q
/-- a frame of a size, of a stream -/
structure FOk (z : Nat) (st : Int) (f : Frm) : Prop where
  st0 : 0 ≤ st
  st3 : st ≤ 3
  few : f.1 ≤ 9999
  first : ∀ x, f.2.1 = some x → x < z
  len : f.2.2.length = z
  nums : ∀ b ∈ f.2.2, 0 ≤ b ∧ b ≤ 255
theorem td_frm {H : Hp} {v : V} {st : Int} {f : Frm} (h : TD H v (frmD st f)) : ∃ a b, v = .ref a ∧ H a = some (.tup [.int st, .int (f.1 : Nat), optV f.2.1, .ref b]) ∧ H b = some (.tup (f.2.2.map V.int)) := by
  unfold frmD at h
  cases h with
  | tup h t =>
    cases t with
    | cons t1 t =>
      cases t with
      | cons t2 t =>
        cases t with
        | cons t3 t =>
          cases t with
          | cons t4 t =>
            cases t
            cases t1
            cases t2
            obtain ⟨b, rfl, hb⟩ := t4.of_tl
            refine ⟨_, b, rfl, ?_, hb⟩
            cases e : f.2.1 with
            | none =>
              rw [e] at t3
              cases t3
              exact h
            | some x =>
              rw [e] at t3
              cases t3
              exact h
end
end K10

namespace K10
open PySem PySem.Spec PyProof.Rows L2 Sky
section
variable {P : Program} {w : World} {K : PySem.W.Frag} {mg : Str → Option Value} {base : Heap}
/-! ### marks -/
def mkD (s c : Nat) : PyData := .tuple [.int (s : Nat), .int (c : Nat)]
theorem td_mk {H : Hp} {v : V} {s c : Nat} (h : TD H v (mkD s c)) : ∃ p, v = .ref p ∧ H p = some (.tup [.int (s : Nat), .int (c : Nat)]) := by
  cases h with
  | tup h t =>
    cases t with
    | cons t1 t =>
      cases t1
      cases t with
      | cons t2 t =>
        cases t2
        cases t
        exact ⟨_, rfl, h⟩
def sp_check_marks : Sp := fun vs H Q _ => ∃ (lm : Addr) (ms : List V) (ks : List (Nat × Nat)), vs = [.ref lm] ∧ H lm = some (.lst ms) ∧ TDs H ms (ks.map fun k => mkD k.1 k.2) ∧ (∀ k ∈ ks, k.1 ≤ 3 ∧ k.2 ≤ 9999) ∧ ∀ H', Same H H' → Q .non H'
theorem ok_check_marks (T : Tx K mg) : FnOk P w K mg base CX0 4 T.a_check_marks T.d_check_marks ["marks"] sp_check_marks := by
  have nd := sc_check_marks.nd
  refine T.F_check_marks.ok sc_check_marks (fun vs H Q E h => ?_) (fun cdv A outer s H vs Q E hr h => ?_)
  · obtain ⟨_, _, _, rfl, _⟩ := h
    rfl
  · obtain ⟨lm, ms, ks, rfl, hl, tds, hok, fin⟩ := h
    refine ⟨_, (pss_one (ps_for PassesOwn.never rfl (pi_enum (by rfl) T.z_enumerate (pa_cons (pv 0) pa_nil)) (pg_tup rfl (pgs_cons (pg_name (i := 1) nd rfl (Or.inl rfl)) (pgs_cons (pg_name (i := 2) nd rfl (Or.inl rfl)) pgs_nil))) (pss_one (ps_if (pt_not (pt_val (pe_call (ok_is_mark T) (hr.mono (by decide)) (by rfl) T.m_is_mark T.F_is_mark.kp T.b_is_mark .nil pass0 (pa_cons (pv 2) pa_nil)))) (pss_one ps_never) pss_nil)))), ?_⟩
    refine ⟨_, rfl, lm, ms, rfl, SqL.of hl, ?_⟩
    refine for_enum (K := K) (l := lm) (ys := ms) (fun i σ H' => ∃ (v1 v2 : Option V), σ = [some (.ref lm), v1, v2] ∧ Same H H') ⟨none, none, rfl, Same.refl _⟩ (fun i σ H' _ ⟨_, _, _, s'⟩ => SqL.of (s' _ _ hl)) ?_ ?_
    · rintro i y σ H' t hy ⟨v1, v2, rfl, s'⟩ ht
      obtain ⟨d, hd, td⟩ := tds.get hy
      obtain ⟨k, hk, rfl⟩ := map_get hd
      have hkm := hok k (List.mem_of_getElem? hk)
      have s1 := same_new (Same.refl H') ht (o := .tup [.int ((i : Nat) : Int), y])
      obtain ⟨b, rfl, hb⟩ := td_mk ((td.mono (TSm.of_same s')).mono (TSm.of_same s1))
      refine ⟨t, _, rfl, SqT.of upd_same, rfl, _, _, rfl, _, _, rfl, rfl, ?_⟩
      exact ⟨_, rfl, b, _, _, rfl, hb, (by omega), (by omega), (by omega), (by omega), true, rfl, iteF ⟨_, _, rfl, s'.trans s1⟩⟩
    · rintro σ H' ⟨v1, v2, rfl, s'⟩
      exact fin _ s'
end
end K10

namespace K10
open PySem PySem.Spec PyProof.Rows L2 Sky
section
variable {P : Program} {w : World} {K : PySem.W.Frag} {mg : Str → Option Value} {base : Heap}
def sp_check_room : Sp := fun vs H Q _ => ∃ r : Nat, vs = [.int (r : Nat)] ∧ 1 ≤ r ∧ r ≤ 60 ∧ Q .non H
theorem ok_check_room (T : Tx K mg) : FnOk P w K mg base CX0 2 T.a_check_room T.d_check_room ["room"] sp_check_room := by
  have nd := sc_check_room.nd
  refine T.F_check_room.ok sc_check_room (fun vs H Q E h => ?_) (fun cdv A outer s H vs Q E hr h => ?_)
  · obtain ⟨_, rfl, _⟩ := h
    rfl
  · obtain ⟨r, rfl, h1, h2, q⟩ := h
    refine ⟨_, (pss_one (ps_if (pt_not (pt_val (pe_call (ok_is_number T) (hr.mono (by decide)) (by rfl) T.m_is_number T.F_is_number.kp T.b_is_number .nil pass0 (pa_cons (pv 0) (pa_cons pe_int (pa_cons (pe_glob (v := .int 60) (by rfl) T.c_MOST_ROOM ⟨_, rfl⟩) pa_nil)))))) (pss_one ps_never) pss_nil)), ?_⟩
    refine ⟨_, rfl, _, 1, 60, rfl, ?_⟩
    rw [decide_eq_true (show (1 : Int) ≤ ((r : Nat) : Int) by omega), decide_eq_true (show ((r : Nat) : Int) ≤ 60 by omega)]
    exact ⟨true, rfl, iteF q⟩
end
end K10

namespace K10
open PySem PySem.Spec PyProof.Rows L2 Sky
/-! ### plans, in numbers: ms, how many frames are made at each beat; iw, whether one goes at a beat; ws, windows -/
def inZ (ws : List (Int × Int)) (b : Int) : Bool := ws.any fun w => decide (w.1 ≤ b) && decide (b < w.2)
def inB (ws : List (Int × Int)) (b : Nat) : Bool := inZ ws (b : Nat)
/-- what is kept ahead of a beat -/
def keptB (ms : List Nat) (iw : Nat → Bool) : Nat → Nat
  | 0 => 0
  | i + 1 => keptB ms iw i + ms.getD i 0 - (if iw i = true then 1 else 0)
def rowB (ms : List Nat) (iw : Nat → Bool) (i : Nat) : Nat := keptB ms iw i + ms.getD i 0
def rowsB (ms : List Nat) (iw : Nat → Bool) : List Nat := (List.range ms.length).map (rowB ms iw)
/-- the first at which more than r -/
def firstN (l : List Nat) (r : Nat) : Option Nat := ((List.range l.length).filter fun i => decide (r < l.getD i 0)).head?
structure PlanZ (n : Nat) (ws : List (Int × Int)) : Prop where
  ok : ∀ w ∈ ws, 0 ≤ w.1 ∧ w.1 < w.2 ∧ w.2 ≤ (n : Nat)
  asc : ws.Pairwise fun a b => a.2 ≤ b.1
theorem six_at {ms : List Nat} (h : ∀ m ∈ ms, m ≤ 6) (i : Nat) : ms.getD i 0 ≤ 6 := by
  rw [List.getD_eq_getElem?_getD]
  cases e : ms[i]? with
  | none => exact Nat.zero_le _
  | some x => exact h x (List.mem_of_getElem? e)
theorem keptB_le (ms : List Nat) (iw : Nat → Bool) (h : ∀ m ∈ ms, m ≤ 6) : ∀ i, keptB ms iw i ≤ 6 * i
  | 0 => Nat.le_refl _
  | i + 1 => by
    have h1 := keptB_le ms iw h i
    have h2 := six_at h i
    show keptB ms iw i + ms.getD i 0 - _ ≤ _
    omega
theorem rowB_le (ms : List Nat) (iw : Nat → Bool) (h : ∀ m ∈ ms, m ≤ 6) (i : Nat) : rowB ms iw i ≤ 6 * i + 6 := by
  have h1 := keptB_le ms iw h i
  have h2 := six_at h i
  unfold rowB
  omega
theorem firstN_hit {l : List Nat} {r i : Nat} (hi : i < l.length) (h : r < l.getD i 0) (no : ∀ j, j < i → ¬ r < l.getD j 0) : firstN l r = some i := by
  unfold firstN
  refine head_least ((List.Pairwise.filter _ List.pairwise_lt_range).imp fun h => Nat.le_of_lt h) (List.mem_filter.mpr ⟨List.mem_range.mpr hi, decide_eq_true h⟩) fun y hy => ?_
  rcases Nat.lt_or_ge y i with z | z
  · exact absurd (of_decide_eq_true (List.mem_filter.mp hy).2) (no y z)
  · exact z
theorem firstN_none {l : List Nat} {r : Nat} (no : ∀ j, j < l.length → ¬ r < l.getD j 0) : firstN l r = none := by
  unfold firstN
  rw [List.head?_eq_none_iff, List.filter_eq_nil_iff]
  intro j hj h
  exact no j (List.mem_range.mp hj) (of_decide_eq_true h)
def wZ (w : Int × Int) : PyData := .tuple [.int w.1, .int w.2]
theorem td_w {H : Hp} {v : V} {w : Int × Int} (h : TD H v (wZ w)) : ∃ p, v = .ref p ∧ H p = some (.tup [.int w.1, .int w.2]) := by
  cases h with
  | tup h t =>
    cases t with
    | cons t1 t =>
      cases t1
      cases t with
      | cons t2 t =>
        cases t2
        cases t
        exact ⟨_, rfl, h⟩
/-- numbers of a plan lie in a tuple -/
structure MsAt (H : Hp) (am : Addr) (ms : List Nat) : Prop where
  m : H am = some (.tup ((ms.map fun x : Nat => (x : Int)).map V.int))
  six : ∀ x ∈ ms, x ≤ 6
  few : ms.length ≤ 200
theorem MsAt.ts {H H' : Hp} {am : Addr} {ms : List Nat} (h : MsAt H am ms) (s : TSm H H') : MsAt H' am ms := ⟨s _ _ h.m, h.six, h.few⟩
theorem MsAt.same {H H' : Hp} {am : Addr} {ms : List Nat} (h : MsAt H am ms) (s : Same H H') : MsAt H' am ms := h.ts (TSm.of_same s)
/-- windows lie in a tuple, near 0 -/
structure WsAt (H : Hp) (aw : Addr) (vs : List V) (ws : List (Int × Int)) : Prop where
  w : H aw = some (.tup vs)
  t : TDs H vs (ws.map wZ)
  lim : ∀ w ∈ ws, -3000 ≤ w.1 ∧ w.1 ≤ w.2 ∧ w.2 ≤ 3000
  wl : ws.length ≤ 2000
theorem WsAt.ts {H H' : Hp} {aw : Addr} {vs : List V} {ws : List (Int × Int)} (h : WsAt H aw vs ws) (s : TSm H H') : WsAt H' aw vs ws := ⟨s _ _ h.w, h.t.mono s, h.lim, h.wl⟩
theorem WsAt.same {H H' : Hp} {aw : Addr} {vs : List V} {ws : List (Int × Int)} (h : WsAt H aw vs ws) (s : Same H H') : WsAt H' aw vs ws := h.ts (TSm.of_same s)
theorem WsAt.len {H : Hp} {aw : Addr} {vs : List V} {ws : List (Int × Int)} (h : WsAt H aw vs ws) : vs.length = ws.length := by rw [h.t.length, List.length_map]
section
variable {P : Program} {w : World} {K : PySem.W.Frag} {mg : Str → Option Value} {base : Heap}
/-! ### what may be handed in -/
def sp_is_window : Sp := fun vs H Q _ => ∃ (p : Addr) (b e lo hi : Int), vs = [.ref p, .int lo, .int hi] ∧ H p = some (.tup [.int b, .int e]) ∧ lo ≤ b ∧ b < e ∧ e ≤ hi ∧ Q (.bl true) H
theorem ok_is_window (T : Tx K mg) : FnOk P w K mg base CX0 2 T.a_is_window T.d_is_window ["value", "low", "high"] sp_is_window := by
  have nd := sc_is_window.nd
  refine T.F_is_window.ok sc_is_window (fun vs H Q E h => ?_) (fun cdv A outer s H vs Q E hr h => ?_)
  · obtain ⟨_, _, _, _, _, rfl, _⟩ := h
    rfl
  · obtain ⟨p, b, e, lo, hi, rfl, hp, h1, h2, h3, q⟩ := h
    refine ⟨_, (pss_cons (ps_if (PW.pt (pw_or (pt_not (pt_val (pe_callB call_isi (by rfl) T.z_isinstance (by decide +kernel) (pa_cons (pv 0) (pa_cons (pe_bltn (v := .ty "tuple") (u := .type "tuple") (by rfl) T.z_tuple (by decide +kernel) rfl) pa_nil))))) (pw_or1 (pt_cmpR op_ne (pe_callB call_len_seq (by rfl) T.z_len PySem.boot_len (pa_cons (pv 0) pa_nil)) pe_int (nomark _))))) (pss_one (ps_ret pe_bl)) pss_nil) (pss_cons (ps_asg (pv 0) (pg_tup rfl (pgs_cons (pg_name (i := 3) nd rfl (Or.inl rfl)) (pgs_cons (pg_name (i := 4) nd rfl (Or.inl rfl)) pgs_nil)))) (pss_one (ps_ret (pe_and (pe_call (ok_is_number T) (hr.mono (by decide)) (by rfl) T.m_is_number T.F_is_number.kp T.b_is_number .nil pass0 (pa_cons (pv 3) (pa_cons (pv 1) (pa_cons (pv 2) pa_nil)))) (pe_one (pe_call (ok_is_number T) (hr.mono (by decide)) (by rfl) T.m_is_number T.F_is_number.kp T.b_is_number .nil pass0 (pa_cons (pv 4) (pa_cons (pe_op op_add (pv 3) pe_int) (pa_cons (pv 2) pa_nil)))))))))), ?_⟩
    refine ⟨_, rfl, _, _, _, _, true, rfl, .ty "tuple", .base (.tup hp), kit_ty (by decide +kernel), true, rfl, iteF ?_⟩
    refine ⟨_, rfl, _, _, rfl, .inr (SqT.of hp), rfl, _, rfl, iteF ?_⟩
    refine ⟨_, rfl, p, _, rfl, SqT.of hp, rfl, _, _, rfl, _, _, rfl, rfl, ?_⟩
    refine ⟨_, rfl, _, rfl, _, rfl, _, _, _, rfl, ?_⟩
    rw [decide_eq_true (show lo ≤ b by omega), decide_eq_true (show b ≤ hi by omega)]
    refine ⟨true, rfl, iteT ?_⟩
    refine ⟨_, rfl, _, rfl, _, 1, rfl, rfl, _, rfl, _, _, _, rfl, ?_⟩
    rw [decide_eq_true (show b + 1 ≤ e by omega), decide_eq_true (show e ≤ hi by omega)]
    exact q
def sp_check_makes : Sp := fun vs H Q _ => ∃ (a : Addr) (ms : List Nat), vs = [.ref a] ∧ H a = some (.tup ((ms.map fun x : Nat => (x : Int)).map V.int)) ∧ (∀ x ∈ ms, x ≤ 6) ∧ ms.length ≤ 200 ∧ ∀ H', Same H H' → Q .non H'
theorem ok_check_makes (T : Tx K mg) : FnOk P w K mg base CX0 2 T.a_check_makes T.d_check_makes ["makes"] sp_check_makes := by
  have nd := sc_check_makes.nd
  refine T.F_check_makes.ok sc_check_makes (fun vs H Q E h => ?_) (fun cdv A outer s H vs Q E hr h => ?_)
  · obtain ⟨_, _, rfl, _⟩ := h
    rfl
  · obtain ⟨a, ms, rfl, ha, hx, hl, q⟩ := h
    refine ⟨_, (pss_cons (ps_if (PW.pt (pw_or (pt_not (pt_val (pe_callB call_isi (by rfl) T.z_isinstance (by decide +kernel) (pa_cons (pv 0) (pa_cons (pe_bltn (v := .ty "tuple") (u := .type "tuple") (by rfl) T.z_tuple (by decide +kernel) rfl) pa_nil))))) (pw_or1 (pt_cmpR op_gt (pe_callB call_len_seq (by rfl) T.z_len PySem.boot_len (pa_cons (pv 0) pa_nil)) (pe_glob (v := .int 200) (by rfl) T.c_MOST_BEATS ⟨_, rfl⟩) (nomark _))))) (pss_one ps_never) pss_nil) (pss_one (ps_if (pt_not (pt_val (pe_callB (cr_all rfl) (by rfl) T.z_all (by decide +kernel) (pa_cons (pe_lc (own := [("many", 1)]) rfl nd (pi_tup (pv 0)) (blkOk_by (own := [("many", 1)]) (N := N_check_makes) (sc := defScope s_check_makes) (by decide +kernel)) (fun _ _ _ _ _ => (pg_name (i := 1) nd rfl (Or.inl rfl))) (fun _ _ _ _ _ => pts_nil) (fun _ _ _ _ _ => (pe_call (ok_is_number T) (hr.mono (by decide)) (by rfl) T.m_is_number T.F_is_number.kp T.b_is_number .nil pass0 (pa_cons (pv 1) (pa_cons pe_int (pa_cons (pe_glob (v := .int 6) (by rfl) T.c_MOST_MADE ⟨_, rfl⟩) pa_nil)))))) pa_nil)))) (pss_one ps_never) pss_nil))), ?_⟩
    refine ⟨_, rfl, _, _, _, _, true, rfl, .ty "tuple", .base (.tup ha), kit_ty (by decide +kernel), true, rfl, iteF ?_⟩
    refine ⟨_, rfl, _, _, rfl, .inr (SqT.of ha), _, 200, rfl, rfl, false, dF (by rw [List.length_map, List.length_map]; omega), iteF ?_⟩
    refine ⟨_, rfl, a, rfl, ⟨_, SqT.of ha⟩, fun D hD => ?_⟩
    refine lc_tup (K := K) (a := a) (xs := (ms.map fun x : Nat => (x : Int)).map V.int) (fun i H' => Same H H' ∧ H' D = some (.lst ((List.replicate i true).map V.bl))) ⟨same_new (Same.refl H) hD, upd_same⟩ (fun i H' _ p => SqT.of (p.1 _ _ ha)) ?_ ?_
    · intro i x H' hi p
      obtain ⟨n, hn, rfl⟩ := map_get hi
      obtain ⟨m, hm, rfl⟩ := map_get hn
      have hlt : i < ms.length := (List.getElem?_eq_some_iff.mp hm).1
      have hb := hx m (List.mem_of_getElem? hm)
      refine ⟨rfl, _, rfl, ((m : Nat) : Int), 0, 6, rfl, ?_⟩
      rw [decide_eq_true (show (0 : Int) ≤ ((m : Nat) : Int) by omega), decide_eq_true (show ((m : Nat) : Int) ≤ 6 by omega)]
      refine ⟨_, p.2, ?_, same_mut p.1 hD, ?_⟩
      · rw [List.length_map, List.length_replicate]
        exact lt_line (by omega)
      · rw [upd_same, List.replicate_succ', List.map_append]
        rfl
    · intro H' p
      refine ⟨D, List.replicate ((ms.map fun x : Nat => (x : Int)).map V.int).length true, rfl, SqL.of p.2, ?_⟩
      have e : (List.replicate ((ms.map fun x : Nat => (x : Int)).map V.int).length true).all id = true := by simp
      rw [e]
      exact ⟨true, rfl, iteF (q _ p.1)⟩
def sp_check_windows : Sp := fun vs H Q _ => ∃ (a : Addr) (us : List V) (n : Nat) (ws : List (Int × Int)), vs = [.ref a, .int (n : Nat)] ∧ H a = some (.tup us) ∧ TDs H us (ws.map wZ) ∧ PlanZ n ws ∧ Q .non H
theorem ok_check_windows (T : Tx K mg) : FnOk P w K mg base CX0 3 T.a_check_windows T.d_check_windows ["windows", "beats"] sp_check_windows := by
  have nd := sc_check_windows.nd
  refine T.F_check_windows.ok sc_check_windows (fun vs H Q E h => ?_) (fun cdv A outer s H vs Q E hr h => ?_)
  · obtain ⟨_, _, _, _, rfl, _⟩ := h
    rfl
  · obtain ⟨a, us, n, ws, rfl, ha, tu, hW, q⟩ := h
    have hul : us.length = ws.length := by rw [tu.length, List.length_map]
    refine ⟨_, (pss_cons (ps_if (pt_not (pt_val (pe_callB call_isi (by rfl) T.z_isinstance (by decide +kernel) (pa_cons (pv 0) (pa_cons (pe_bltn (v := .ty "tuple") (u := .type "tuple") (by rfl) T.z_tuple (by decide +kernel) rfl) pa_nil))))) (pss_one ps_never) pss_nil) (pss_cons (ps_set (i := 2) nd rfl (Or.inl rfl) pe_int) (pss_one (ps_for PassesOwn.never rfl (pi_tup (pv 0)) (pg_name (i := 3) nd rfl (Or.inl rfl)) (pss_cons (ps_if (pt_not (pt_val (pe_call (ok_is_window T) (hr.mono (by decide)) (by rfl) T.m_is_window T.F_is_window.kp T.b_is_window .nil pass0 (pa_cons (pv 3) (pa_cons (pv 2) (pa_cons (pv 1) pa_nil)))))) (pss_one ps_never) pss_nil) (pss_one (ps_set (i := 2) nd rfl (Or.inl rfl) (pe_ix ix_tup (pv 3) pe_int (fun _ _ => rfl))))))))), ?_⟩
    refine ⟨_, rfl, _, _, _, _, true, rfl, .ty "tuple", .base (.tup ha), kit_ty (by decide +kernel), true, rfl, iteF ?_⟩
    refine ⟨_, rfl, a, rfl, ⟨_, SqT.of ha⟩, ?_⟩
    refine for_tup (K := K) (a := a) (xs := us) (fun i σ H' => ∃ (lo : Int) (v3 : Option V), σ = [some (.ref a), some (.int (n : Nat)), some (.int lo), v3] ∧ (∀ w, ws[i]? = some w → lo ≤ w.1) ∧ H' = H) ⟨0, none, rfl, fun w hw => (hW.ok w (List.mem_of_getElem? hw)).1, rfl⟩ (fun i σ H' _ ⟨_, _, _, _, e⟩ => by rw [e]; exact SqT.of ha) ?_ ?_
    · rintro i y σ H' hy ⟨lo, v3, rfl, hlo, rfl⟩
      obtain ⟨d, hd, td⟩ := tu.get hy
      obtain ⟨w, hw, rfl⟩ := map_get hd
      obtain ⟨p, rfl, hp⟩ := td_w td
      obtain ⟨_, h1, h2⟩ := hW.ok w (List.mem_of_getElem? hw)
      refine ⟨_, rfl, _, rfl, _, rfl, p, w.1, w.2, lo, n, rfl, hp, hlo w hw, h1, h2, true, rfl, iteF ?_⟩
      refine ⟨_, rfl, p, _, 1, _, rfl, rfl, SqT.of hp, atI_nat (j := 1) rfl, w.2, _, rfl, fun w2 hw2 => ?_, rfl⟩
      obtain ⟨l1, e1⟩ := List.getElem?_eq_some_iff.mp hw
      obtain ⟨l2, e2⟩ := List.getElem?_eq_some_iff.mp hw2
      have := List.pairwise_iff_getElem.mp hW.asc i (i + 1) l1 l2 (Nat.lt_succ_self _)
      rw [e1, e2] at this
      exact this
    · rintro σ H' ⟨lo, v3, rfl, _, rfl⟩
      exact q
end
end K10

namespace K10
open PySem PySem.Spec PyProof.Rows L2 Sky
section
variable {P : Program} {w : World} {K : PySem.W.Frag} {mg : Str → Option Value} {base : Heap}
theorem getD_nat {ms : List Nat} {i : Nat} {x : Nat} (h : ms[i]? = some x) : ms.getD i 0 = x := by rw [List.getD_eq_getElem?_getD, h]; rfl
/-- the keys of the dict of beats that windows hold -/
theorem sends_key {ws : List (Int × Int)} {b : Int} {i : Nat} {x : Int × Int} (h : ws[i]? = some x) : inZ (ws.take (i + 1)) b = (inZ (ws.take i) b || (decide (x.1 ≤ b) && decide (b < x.2))) := by
  unfold inZ
  rw [List.take_add_one, h, Option.toList_some, List.any_append]
  simp
theorem putK_len9 {κ : Type} [DecidableEq κ] (kvs : List (κ × V)) (k : κ) (v : V) : (putK kvs k v).length ≤ kvs.length + 1 := by
  unfold putK
  split
  · rw [List.length_map]; omega
  · rw [List.length_append, List.length_singleton]; exact Nat.le_refl _
def sp_kept : Sp := fun vs H Q _ => ∃ (am aw : Addr) (us : List V) (ms : List Nat) (ws : List (Int × Int)), vs = [.ref am, .ref aw] ∧ MsAt H am ms ∧ WsAt H aw us ws ∧
  ∀ r H', H' r = some (.lst (((rowsB ms (inB ws)).map fun x : Nat => (x : Int)).map V.int)) → H r = none → Same H H' → Q (.ref r) H'
theorem ok_kept_at_beats (T : Tx K mg) : FnOk P w K mg base CX0 1 T.a_kept_at_beats T.d_kept_at_beats ["makes", "windows"] sp_kept := by
  have nd := sc_kept_at_beats.nd
  refine T.F_kept_at_beats.ok sc_kept_at_beats (fun vs H Q E h => ?_) (fun cdv A outer s H vs Q E hr h => ?_)
  · obtain ⟨_, _, _, _, _, rfl, _⟩ := h
    rfl
  · obtain ⟨am, aw, us, ms, ws, rfl, hM, hP, fin⟩ := h
    have hul : us.length = ws.length := hP.len
    refine ⟨_, (pss_cons (ps_setDc2 (i := 3) (own := [("begin", 7), ("end", 8), ("beat", 2)]) (vb := [2]) rfl nd rfl rfl (sw_trueD rfl rfl rfl (by decide +kernel)) (pi_tup (pv 1)) (blkOk_by (own := [("begin", 7), ("end", 8), ("beat", 2)]) (N := N_kept_at_beats) (sc := defScope s_kept_at_beats) (by decide +kernel)) (by decide) (fun _ _ _ _ _ => (pg_tupK (K := K) (n := 2) rfl rfl (pgs_cons (pg_name (i := 7) nd rfl (Or.inl rfl)) (pgs_cons (pg_name (i := 8) nd rfl (Or.inl rfl)) pgs_nil)))) (fun _ _ _ _ _ => (pi_range2 rfl T.z_range (pa_cons (pv 7) (pa_cons (pv 8) pa_nil)))) (fun _ _ _ _ _ => (pg_name (i := 2) nd rfl (Or.inl rfl))) (fun _ _ _ _ _ => (pv 2)) (fun _ _ _ _ _ => pe_bl)) (pss_cons (ps_set (i := 4) nd rfl (Or.inl rfl) (pe_lst pa_nil)) (pss_cons (ps_set (i := 5) nd rfl (Or.inl rfl) pe_int) (pss_cons (ps_for PassesOwn.never rfl (pi_enumT (by rfl) T.z_enumerate (pa_cons (pv 0) pa_nil)) (pg_tup rfl (pgs_cons (pg_name (i := 2) nd rfl (Or.inl rfl)) (pgs_cons (pg_name (i := 6) nd rfl (Or.inl rfl)) pgs_nil))) (pss_cons (ps_aug (i := 5) nd rfl (Or.inl rfl) (pv 6) ip_add) (pss_cons (ps_expr (pe_bm PySem.F.plainAttrs_list PySem.F.slot_list_append PySem.F.type_list_append mt_append (pv 4) (pa_cons (pv 5) pa_nil))) (pss_one (ps_if (PW.pt (pw_and (pt_cmpR op_gt (pv 5) pe_int (nomark _)) (pw_and1 (pt_cmp (pc_din (hu_of hr) (pv 2) (pv 3)))))) (pss_one (ps_aug (i := 5) nd rfl (Or.inl rfl) pe_int ip_sub)) pss_nil))))) (pss_one (ps_ret (pv 4))))))), ?_⟩
    -- sends
    refine ⟨_, rfl, aw, rfl, ⟨_, SqT.of hP.w⟩, fun D hD => ?_⟩
    refine dc2_tup (K := K) (a := aw) (xs := us) (fun i H' => ∃ kvs : List (Key × V), H' D = some (.dK kvs) ∧ (∀ b : Int, (valV kvs (Sum.inl b)).isSome = inZ (ws.take i) b) ∧ kvs.length ≤ 6000 * i ∧ Same H H') ⟨[], upd_same, fun b => rfl, Nat.le_refl _, same_new (Same.refl _) hD⟩ (fun i H' _ ⟨_, _, _, _, s⟩ => SqT.of (s _ _ hP.w)) ?_ ?_
    · rintro i y H1 hy ⟨kvs, hk, hkv, hkl, s1⟩
      obtain ⟨d, hd, td⟩ := hP.t.get hy
      obtain ⟨x, hx, rfl⟩ := map_get hd
      obtain ⟨p, rfl, hp⟩ := td_w (td.mono (TSm.of_same s1))
      obtain ⟨hx1, hx2, hx3⟩ := hP.lim x (List.mem_of_getElem? hx)
      have hil : i < ws.length := (List.getElem?_eq_some_iff.mp hx).1
      have hwl := hP.wl
      refine ⟨p, _, rfl, SqT.of hp, rfl, _, _, rfl, _, _, rfl, rfl, rfl, ?_⟩
      refine ⟨_, rfl, _, rfl, _, _, rfl, ⟨by omega, by omega, by omega, by omega⟩, ?_⟩
      refine dc2_range (lo := x.1) (n := (x.2 - x.1).toNat) (fun j H' => ∃ kvs : List (Key × V), H' D = some (.dK kvs) ∧ (∀ b : Int, (valV kvs (Sum.inl b)).isSome = (inZ (ws.take i) b || (decide (x.1 ≤ b) && decide (b < x.1 + (j : Nat))))) ∧ kvs.length ≤ 6000 * i + j ∧ Same H H') ⟨kvs, hk, fun b => ?_, by omega, s1⟩ ?_ ?_
      · rw [hkv]
        by_cases h : x.1 ≤ b
        · rw [decide_eq_false (show ¬ b < x.1 + ((0 : Nat) : Int) by omega), Bool.and_false, Bool.or_false]
        · rw [decide_eq_false h, Bool.false_and, Bool.or_false]
      · rintro j H2 hj ⟨kvs, hk, hkv, hkl, s2⟩
        refine ⟨rfl, _, rfl, kvs, Sum.inl (x.1 + ((j : Nat) : Int)), rfl, hk, lt_line (by omega), putK kvs (Sum.inl (x.1 + ((j : Nat) : Int))) (.bl true), upd_same, fun b => ?_, Nat.le_trans (putK_len9 _ _ _) (by omega), same_mut s2 hD⟩
        rw [valV_put]
        by_cases e : b = x.1 + ((j : Nat) : Int)
        · subst e
          rw [if_pos rfl, decide_eq_true (show x.1 ≤ x.1 + ((j : Nat) : Int) by omega), decide_eq_true (show x.1 + ((j : Nat) : Int) < x.1 + ((j + 1 : Nat) : Int) by omega)]
          simp
        · rw [if_neg (fun z => e (by injection z)), hkv]
          by_cases h : x.1 ≤ b
          · rw [decide_eq_true h]
            by_cases h2 : b < x.1 + ((j : Nat) : Int)
            · rw [decide_eq_true h2, decide_eq_true (show b < x.1 + ((j + 1 : Nat) : Int) by omega)]
            · rw [decide_eq_false h2, decide_eq_false (show ¬ b < x.1 + ((j + 1 : Nat) : Int) by omega)]
          · rw [decide_eq_false h, Bool.false_and, Bool.false_and]
      · rintro H2 ⟨kvs, hk, hkv, hkl, s2⟩
        refine ⟨kvs, hk, fun b => ?_, by omega, s2⟩
        rw [hkv, sends_key hx, show x.1 + (((x.2 - x.1).toNat : Nat) : Int) = x.2 by omega]
    rintro H1 ⟨kvs, hk, hkv, hkl, s1⟩
    rw [List.take_of_length_le (by omega)] at hkv
    -- rows, kept
    refine ⟨Nat.zero_le _, fun R hR => ?_⟩
    have nDR : D ≠ R := ne_of_none hk hR
    have s2 := same_new (Same.refl H1) hR (o := .lst [])
    have hR2 : upd H1 R (.lst []) R = some (.lst []) := upd_same
    have hk2 := s2 _ _ hk
    have fR : H R = none := s1.free hR
    have s02 := s1.trans s2
    generalize upd H1 R (.lst []) = H2 at *
    refine ⟨_, rfl, am, _, rfl, SqT.of (s02 _ _ hM.m), ?_⟩
    refine for_enumT (K := K) (l := am) (ys := (ms.map fun x : Nat => (x : Int)).map V.int) (fun i σ H' => ∃ (v2 v6 v7 v8 : Option V), σ = [some (.ref am), some (.ref aw), v2, some (.ref D), some (.ref R), some (.int ((keptB ms (inB ws) i : Nat) : Int)), v6, v7, v8] ∧
      H' R = some (.lst (((((List.range i).map (rowB ms (inB ws))).map fun x : Nat => (x : Int)).map V.int))) ∧ H' D = some (.dK kvs) ∧ Same H H') ⟨_, _, _, _, rfl, hR2, hk2, s02⟩ (fun i σ H' _ ⟨_, _, _, _, _, _, _, s⟩ => SqT.of (s _ _ hM.m)) ?_ ?_
    · rintro i y σ H3 t hy ⟨v2, v6, v7, v8, rfl, hR3, hk3, s3⟩ ht
      obtain ⟨n, hn, rfl⟩ := map_get hy
      obtain ⟨m, hm, rfl⟩ := map_get hn
      have hil : i < ms.length := (List.getElem?_eq_some_iff.mp hm).1
      have hfew := hM.few
      have nRt : R ≠ t := ne_of_none hR3 ht
      have nDt : D ≠ t := ne_of_none hk3 ht
      have s4 := s3.trans (same_new (Same.refl H3) ht (o := .tup [.int ((i : Nat) : Int), .int ((m : Nat) : Int)]))
      have hR4 : upd H3 t (.tup [.int ((i : Nat) : Int), .int ((m : Nat) : Int)]) R = some (.lst (((((List.range i).map (rowB ms (inB ws))).map fun x : Nat => (x : Int)).map V.int))) := by rw [upd_ne nRt]; exact hR3
      have hk4 : upd H3 t (.tup [.int ((i : Nat) : Int), .int ((m : Nat) : Int)]) D = some (.dK kvs) := by rw [upd_ne nDt]; exact hk3
      refine ⟨t, _, rfl, SqT.of upd_same, rfl, _, _, rfl, _, _, rfl, rfl, ?_⟩
      generalize upd H3 t (.tup [.int ((i : Nat) : Int), .int ((m : Nat) : Int)]) = H4 at *
      have erow : ((keptB ms (inB ws) i : Nat) : Int) + ((m : Nat) : Int) = ((rowB ms (inB ws) i : Nat) : Int) := by
        unfold rowB
        rw [getD_nat hm]
        omega
      refine ⟨_, rfl, _, rfl, _, _, rfl, rfl, ?_⟩
      simp only [erow]
      refine ⟨_, rfl, .inl ⟨rfl, _, SqL.of hR4⟩, _, rfl, R, _, _, rfl, rfl, hR4, lt_line (by rw [List.length_map, List.length_map, List.length_map, List.length_range]; omega), ?_⟩
      have hR5 : upd H4 R (.lst ((((List.range i).map (rowB ms (inB ws))).map fun x : Nat => (x : Int)).map V.int ++ [.int ((rowB ms (inB ws) i : Nat) : Int)])) R = some (.lst ((((List.range (i + 1)).map (rowB ms (inB ws))).map fun x : Nat => (x : Int)).map V.int)) := by
        rw [upd_same, List.range_succ, List.map_append, List.map_append, List.map_append]
        rfl
      have hk5 : upd H4 R (.lst ((((List.range i).map (rowB ms (inB ws))).map fun x : Nat => (x : Int)).map V.int ++ [.int ((rowB ms (inB ws) i : Nat) : Int)])) D = some (.dK kvs) := by rw [upd_ne nDR]; exact hk4
      have s5 : Same H (upd H4 R (.lst ((((List.range i).map (rowB ms (inB ws))).map fun x : Nat => (x : Int)).map V.int ++ [.int ((rowB ms (inB ws) i : Nat) : Int)]))) := same_mut s4 fR
      generalize upd H4 R (.lst ((((List.range i).map (rowB ms (inB ws))).map fun x : Nat => (x : Int)).map V.int ++ [.int ((rowB ms (inB ws) i : Nat) : Int)])) = H5 at *
      -- if kept > 0 and beat in sends
      have enext : keptB ms (inB ws) (i + 1) = rowB ms (inB ws) i - (if inB ws i = true then 1 else 0) := rfl
      refine ⟨_, rfl, _, _, rfl, rfl, _, rfl, ?_⟩
      by_cases c1 : (0 : Int) < ((rowB ms (inB ws) i : Nat) : Int)
      · rw [decide_eq_true c1]
        refine iteT ⟨_, rfl, _, rfl, D, _, rfl, DGet.k (k := Sum.inl ((i : Nat) : Int)) hk5, _, rfl, ?_⟩
        rw [show (valV kvs (Sum.inl ((i : Nat) : Int))).isSome = inB ws i from hkv _]
        by_cases c2 : inB ws i = true
        · rw [c2]
          refine iteT ⟨_, rfl, _, 1, rfl, rfl, ?_⟩
          refine ⟨some (.int ((i : Nat) : Int)), some (.int ((m : Nat) : Int)), v7, v8, ?_, hR5, hk5, s5⟩
          rw [enext, if_pos c2, show ((rowB ms (inB ws) i - 1 : Nat) : Int) = ((rowB ms (inB ws) i : Nat) : Int) - 1 by omega]
          rfl
        · have c3 : inB ws i = false := by simpa using c2
          rw [c3]
          refine iteF ⟨some (.int ((i : Nat) : Int)), some (.int ((m : Nat) : Int)), v7, v8, ?_, hR5, hk5, s5⟩
          rw [enext, if_neg c2, Nat.sub_zero]
          rfl
      · rw [decide_eq_false c1]
        refine iteF (iteF ⟨some (.int ((i : Nat) : Int)), some (.int ((m : Nat) : Int)), v7, v8, ?_, hR5, hk5, s5⟩)
        have e0 : rowB ms (inB ws) i = 0 := by omega
        rw [enext, e0, Nat.zero_sub]
        rfl
    · rintro σ H3 ⟨v2, v6, v7, v8, rfl, hR3, hk3, s3⟩
      refine ⟨_, rfl, fin R H3 ?_ fR s3⟩
      rw [hR3, List.length_map, List.length_map]
      rfl
theorem rowsB_len (ms : List Nat) (ws : List (Int × Int)) : (rowsB ms (inB ws)).length = ms.length := by unfold rowsB; rw [List.length_map, List.length_range]
theorem rowsB_at {ms : List Nat} {ws : List (Int × Int)} {i : Nat} (h : i < ms.length) : (rowsB ms (inB ws))[i]? = some (rowB ms (inB ws) i) := by unfold rowsB; rw [List.getElem?_map, List.getElem?_range h]; rfl
/-- the most of all rows -/
def mostN : List Nat → Nat
  | [] => 0
  | x :: l => max x (mostN l)
theorem mostN_le : ∀ {l : List Nat} {c : Nat}, c ∈ l → c ≤ mostN l
  | x :: l, c, h => by
    rcases List.mem_cons.mp h with e | e
    · rw [e]; exact Nat.le_max_left _ _
    · exact Nat.le_trans (mostN_le e) (Nat.le_max_right _ _)
theorem mostN_mem : ∀ {l : List Nat}, l ≠ [] → mostN l ∈ l
  | [], h => absurd rfl h
  | [x], _ => by show max x 0 ∈ [x]; rw [Nat.max_eq_left (Nat.zero_le _)]; exact List.mem_singleton.mpr rfl
  | x :: y :: l, _ => by
    show max x (mostN (y :: l)) ∈ x :: y :: l
    have h := mostN_mem (l := y :: l) (by simp)
    rcases Nat.le_total x (mostN (y :: l)) with e | e
    · rw [Nat.max_eq_right e]; exact List.mem_cons_of_mem _ h
    · rw [Nat.max_eq_left e]; exact List.mem_cons_self
theorem mostN_is {l : List Nat} {m : Int} (h1 : m ∈ l.map fun x : Nat => (x : Int)) (h2 : ∀ j ∈ l.map fun x : Nat => (x : Int), j ≤ m) : m = ((mostN l : Nat) : Int) := by
  obtain ⟨c, hc, rfl⟩ := List.mem_map.mp h1
  have e : l ≠ [] := fun e => by rw [e] at hc; cases hc
  have h3 := h2 _ (List.mem_map.mpr ⟨mostN l, mostN_mem e, rfl⟩)
  have h4 := mostN_le hc
  omega
def sp_first_short : Sp := fun vs H Q _ => ∃ (am aw : Addr) (us : List V) (ms : List Nat) (ws : List (Int × Int)) (r : Nat), vs = [.ref am, .ref aw, .int (r : Nat)] ∧ MsAt H am ms ∧ WsAt H aw us ws ∧ ∀ H', Same H H' → Q (optV (firstN (rowsB ms (inB ws)) r)) H'
theorem ok_first_short (T : Tx K mg) : FnOk P w K mg base CX0 2 T.a_first_short T.d_first_short ["makes", "windows", "room"] sp_first_short := by
  have nd := sc_first_short.nd
  refine T.F_first_short.ok sc_first_short (fun vs H Q E h => ?_) (fun cdv A outer s H vs Q E hr h => ?_)
  · obtain ⟨_, _, _, _, _, _, rfl, _⟩ := h
    rfl
  · obtain ⟨am, aw, us, ms, ws, r, rfl, hM, hP, fin⟩ := h
    refine ⟨_, (pss_cons (ps_for PassesOwn.never rfl (pi_enum (by rfl) T.z_enumerate (pa_cons (pe_call (ok_kept_at_beats T) (hr.mono (by decide)) (by rfl) T.m_kept_at_beats T.F_kept_at_beats.kp T.b_kept_at_beats .nil pass0 (pa_cons (pv 0) (pa_cons (pv 1) pa_nil))) pa_nil)) (pg_tup rfl (pgs_cons (pg_name (i := 3) nd rfl (Or.inl rfl)) (pgs_cons (pg_name (i := 4) nd rfl (Or.inl rfl)) pgs_nil))) (pss_one (ps_if (pt_cmpR op_gt (pv 4) (pv 2) (nomark _)) (pss_one (ps_ret (pv 3))) pss_nil))) (pss_one (ps_ret pe_non))), ?_⟩
    refine ⟨_, rfl, _, rfl, am, aw, us, ms, ws, rfl, hM, hP, fun R H1 hR nR s1 => ?_⟩
    refine ⟨R, _, rfl, SqL.of hR, ?_⟩
    refine for_enum (K := K) (l := R) (ys := ((rowsB ms (inB ws)).map fun x : Nat => (x : Int)).map V.int) (fun i σ H' => ∃ (v3 v4 : Option V), σ = [some (.ref am), some (.ref aw), some (.int (r : Nat)), v3, v4] ∧ (∀ j, j < i → ¬ r < (rowsB ms (inB ws)).getD j 0) ∧ Same H1 H') ⟨_, _, rfl, fun j hj => absurd hj (Nat.not_lt_zero _), Same.refl _⟩ (fun i σ H' _ ⟨_, _, _, _, s⟩ => SqL.of (s _ _ hR)) ?_ ?_
    · rintro i y σ H2 t hy ⟨v3, v4, rfl, hno, s2⟩ ht
      obtain ⟨n, hn, rfl⟩ := map_get hy
      obtain ⟨m, hm, rfl⟩ := map_get hn
      have s3 := s2.trans (same_new (Same.refl H2) ht (o := .tup [.int ((i : Nat) : Int), .int ((m : Nat) : Int)]))
      refine ⟨t, _, rfl, SqT.of upd_same, rfl, _, _, rfl, _, _, rfl, rfl, ?_⟩
      refine ⟨_, rfl, _, rfl, _, _, rfl, rfl, _, rfl, ?_⟩
      by_cases c : r < m
      · rw [decide_eq_true (show ((m : Nat) : Int) > ((r : Nat) : Int) by omega)]
        refine iteT ⟨_, rfl, ?_⟩
        have := fin _ (s1.trans s3)
        rw [firstN_hit (i := i) (List.getElem?_eq_some_iff.mp hm).1 (by rw [getD_nat hm]; exact c) hno] at this
        exact this
      · rw [decide_eq_false (show ¬ ((m : Nat) : Int) > ((r : Nat) : Int) by omega)]
        refine iteF ⟨_, _, rfl, fun j hj => ?_, s3⟩
        rcases Nat.lt_or_ge j i with z | z
        · exact hno j z
        · have : j = i := by omega
          subst this
          rw [getD_nat hm]
          exact c
    · rintro σ H2 ⟨v3, v4, rfl, hno, s2⟩
      rw [List.length_map, List.length_map] at hno
      have := fin _ (s1.trans s2)
      rw [firstN_none hno] at this
      exact this
def sp_short_at : Sp := fun vs H Q _ => ∃ (am aw : Addr) (us : List V) (ms : List Nat) (ws : List (Int × Int)) (r : Nat), vs = [.ref am, .ref aw, .int (r : Nat)] ∧ MsAt H am ms ∧ WsAt H aw us ws ∧ PlanZ ms.length ws ∧ 1 ≤ r ∧ r ≤ 60 ∧ ∀ H', Same H H' → Q (optV (firstN (rowsB ms (inB ws)) r)) H'
theorem ok_short_at (T : Tx K mg) : FnOk P w K mg base CX0 4 T.a_short_at T.d_short_at ["makes", "windows", "room"] sp_short_at := by
  have nd := sc_short_at.nd
  refine T.F_short_at.ok sc_short_at (fun vs H Q E h => ?_) (fun cdv A outer s H vs Q E hr h => ?_)
  · obtain ⟨_, _, _, _, _, _, rfl, _⟩ := h
    rfl
  · obtain ⟨am, aw, us, ms, ws, r, rfl, hM, hP, hpl, h1, h2, fin⟩ := h
    refine ⟨_, (pss_cons (ps_expr (pe_call (ok_check_makes T) (hr.mono (by decide)) (by rfl) T.m_check_makes T.F_check_makes.kp T.b_check_makes .nil pass0 (pa_cons (pv 0) pa_nil))) (pss_cons (ps_expr (pe_call (ok_check_windows T) (hr.mono (by decide)) (by rfl) T.m_check_windows T.F_check_windows.kp T.b_check_windows .nil pass0 (pa_cons (pv 1) (pa_cons (pe_callB call_len_seq (by rfl) T.z_len PySem.boot_len (pa_cons (pv 0) pa_nil)) pa_nil)))) (pss_cons (ps_expr (pe_call (ok_check_room T) (hr.mono (by decide)) (by rfl) T.m_check_room T.F_check_room.kp T.b_check_room .nil pass0 (pa_cons (pv 2) pa_nil))) (pss_one (ps_ret (pe_call (ok_first_short T) (hr.mono (by decide)) (by rfl) T.m_first_short T.F_first_short.kp T.b_first_short .nil pass0 (pa_cons (pv 0) (pa_cons (pv 1) (pa_cons (pv 2) pa_nil))))))))), ?_⟩
    refine ⟨_, rfl, am, ms, rfl, hM.m, hM.six, hM.few, fun H1 s1 => ?_⟩
    have hP1 := hP.same s1
    have hM1 := hM.same s1
    refine ⟨_, rfl, _, rfl, am, _, rfl, .inr (SqT.of hM1.m), aw, us, ms.length, ws, ?_, hP1.w, hP1.t, hpl, ?_⟩
    · rw [List.length_map, List.length_map]; rfl
    refine ⟨_, rfl, r, rfl, h1, h2, ?_⟩
    exact ⟨_, rfl, _, rfl, _, rfl, am, aw, us, ms, ws, r, rfl, hM1, hP1, fun H2 s2 => fin H2 (s1.trans s2)⟩
end
end K10

namespace K10
open PySem PySem.Spec PyProof.Rows L2 Sky
section
variable {P : Program} {w : World} {K : PySem.W.Frag} {mg : Str → Option Value} {base : Heap}
def sp_most_kept : Sp := fun vs H Q _ => ∃ (am aw : Addr) (us : List V) (ms : List Nat) (ws : List (Int × Int)), vs = [.ref am, .ref aw] ∧ MsAt H am ms ∧ WsAt H aw us ws ∧ PlanZ ms.length ws ∧ ∀ H', Same H H' → Q (.int ((mostN (rowsB ms (inB ws)) : Nat) : Int)) H'
theorem ok_most_kept (T : Tx K mg) : FnOk P w K mg base CX0 4 T.a_most_kept T.d_most_kept ["makes", "windows"] sp_most_kept := by
  have nd := sc_most_kept.nd
  refine T.F_most_kept.ok sc_most_kept (fun vs H Q E h => ?_) (fun cdv A outer s H vs Q E hr h => ?_)
  · obtain ⟨_, _, _, _, _, rfl, _⟩ := h
    rfl
  · obtain ⟨am, aw, us, ms, ws, rfl, hM, hP, hpl, fin⟩ := h
    refine ⟨_, (pss_cons (ps_expr (pe_call (ok_check_makes T) (hr.mono (by decide)) (by rfl) T.m_check_makes T.F_check_makes.kp T.b_check_makes .nil pass0 (pa_cons (pv 0) pa_nil))) (pss_cons (ps_expr (pe_call (ok_check_windows T) (hr.mono (by decide)) (by rfl) T.m_check_windows T.F_check_windows.kp T.b_check_windows .nil pass0 (pa_cons (pv 1) (pa_cons (pe_callB call_len_seq (by rfl) T.z_len PySem.boot_len (pa_cons (pv 0) pa_nil)) pa_nil)))) (pss_one (ps_ret (pe_callBK (cr_maxL rfl (u65 hr)) (by rfl) T.z_max (by decide +kernel) (pa_cons (pe_call (ok_kept_at_beats T) (hr.mono (by decide)) (by rfl) T.m_kept_at_beats T.F_kept_at_beats.kp T.b_kept_at_beats .nil pass0 (pa_cons (pv 0) (pa_cons (pv 1) pa_nil))) pa_nil) (pk_cons pe_int pk_nil)))))), ?_⟩
    refine ⟨_, rfl, am, ms, rfl, hM.m, hM.six, hM.few, fun H1 s1 => ?_⟩
    have hP1 := hP.same s1
    have hM1 := hM.same s1
    refine ⟨_, rfl, _, rfl, am, _, rfl, .inr (SqT.of hM1.m), aw, us, ms.length, ws, ?_, hP1.w, hP1.t, hpl, ?_⟩
    · rw [List.length_map, List.length_map]; rfl
    refine ⟨_, rfl, _, rfl, am, aw, us, ms, ws, rfl, hM1, hP1, fun r H2 hr2 nr s2 => ?_⟩
    refine ⟨r, _, 0, rfl, rfl, SqL.of hr2, fun e => ?_, fun m h1 h2 => ?_⟩
    · have e2 : rowsB ms (inB ws) = [] := List.map_eq_nil_iff.mp e
      have := fin H2 (s1.trans s2)
      rw [e2] at this
      exact this
    · rw [mostN_is h1 h2]
      exact fin H2 (s1.trans s2)
end
end K10

namespace K10
open PySem PySem.Spec PyProof.Rows L2 Sky
/-! ### the latest beats, in numbers -/
def preN (ms : List Nat) : Nat → Nat
  | 0 => 0
  | i + 1 => preN ms i + ms.getD i 0
theorem preN_mono (ms : List Nat) {i j : Nat} (h : i ≤ j) : preN ms i ≤ preN ms j := by
  induction j with
  | zero => have : i = 0 := by omega
            subst this; exact Nat.le_refl _
  | succ j ih =>
    by_cases e : i = j + 1
    · subst e; exact Nat.le_refl _
    · have := ih (by omega)
      show _ ≤ preN ms j + _
      omega
/-- how many of the d beats from lo on are taken -/
def cntB (iw : Nat → Bool) (lo : Nat) : Nat → Nat
  | 0 => 0
  | d + 1 => cntB iw lo d + (if iw (lo + d) = true then 1 else 0)
theorem cntB_le (iw : Nat → Bool) (lo : Nat) : ∀ d, cntB iw lo d ≤ d
  | 0 => Nat.le_refl _
  | d + 1 => by
    have := cntB_le iw lo d
    show cntB iw lo d + _ ≤ _
    split <;> omega
theorem cntB_add (iw : Nat → Bool) (j : Nat) : ∀ d, cntB iw 0 (j + d) = cntB iw 0 j + cntB iw j d
  | 0 => rfl
  | d + 1 => by
    have := cntB_add iw j d
    show cntB iw 0 (j + d) + (if iw (0 + (j + d)) = true then 1 else 0) = cntB iw 0 j + (cntB iw j d + (if iw (j + d) = true then 1 else 0))
    rw [this, Nat.zero_add]
    omega
theorem cntB_filter (iw : Nat → Bool) : ∀ i, cntB iw 0 i = ((List.range i).filter iw).length
  | 0 => rfl
  | i + 1 => by
    rw [List.range_succ, List.filter_append, List.length_append, ← cntB_filter iw i]
    show cntB iw 0 i + (if iw (0 + i) = true then 1 else 0) = _
    rw [Nat.zero_add]
    by_cases h : iw i = true
    · rw [if_pos h, List.filter_cons_of_pos h]; rfl
    · rw [if_neg h, List.filter_cons_of_neg h]; rfl
theorem kept_low (ms : List Nat) (iw : Nat → Bool) (j : Nat) : ∀ d, preN ms (j + d) ≤ preN ms j + cntB iw j d + keptB ms iw (j + d)
  | 0 => by show preN ms j ≤ preN ms j + 0 + _; omega
  | d + 1 => by
    have := kept_low ms iw j d
    show preN ms (j + d) + ms.getD (j + d) 0 ≤ preN ms j + (cntB iw j d + (if iw (j + d) = true then 1 else 0)) + (keptB ms iw (j + d) + ms.getD (j + d) 0 - (if iw (j + d) = true then 1 else 0))
    split <;> omega
theorem kept_eq (ms : List Nat) (iw : Nat → Bool) : ∀ i, ∃ j d, j + d = i ∧ preN ms i = preN ms j + cntB iw j d + keptB ms iw i
  | 0 => ⟨0, 0, rfl, rfl⟩
  | i + 1 => by
    obtain ⟨j, d, e, h⟩ := kept_eq ms iw i
    have hk : keptB ms iw (i + 1) = keptB ms iw i + ms.getD i 0 - (if iw i = true then 1 else 0) := rfl
    have hp : preN ms (i + 1) = preN ms i + ms.getD i 0 := rfl
    have hc : cntB iw j (d + 1) = cntB iw j d + (if iw (j + d) = true then 1 else 0) := rfl
    rw [e] at hc
    by_cases c : iw i = true
    · rw [if_pos c] at hk hc
      by_cases z : keptB ms iw i + ms.getD i 0 = 0
      · refine ⟨i + 1, 0, rfl, ?_⟩
        show _ = preN ms (i + 1) + 0 + _
        omega
      · exact ⟨j, d + 1, by omega, by omega⟩
    · rw [if_neg c] at hk hc
      exact ⟨j, d + 1, by omega, by omega⟩
theorem kept_mono {ms : List Nat} {iw iw' : Nat → Bool} (h : ∀ t, iw t = true → iw' t = true) : ∀ i, keptB ms iw' i ≤ keptB ms iw i
  | 0 => Nat.le_refl _
  | i + 1 => by
    have ih := kept_mono (ms := ms) h i
    show keptB ms iw' i + ms.getD i 0 - (if iw' i = true then 1 else 0) ≤ keptB ms iw i + ms.getD i 0 - (if iw i = true then 1 else 0)
    by_cases c : iw i = true
    · rw [if_pos c, if_pos (h i c)]; omega
    · rw [if_neg c]
      split <;> omega
/-- of each frame that has to go the first beat at which it is one too many -/
def dueR (ms : List Nat) (r : Nat) : Nat → List Nat
  | 0 => []
  | i + 1 => dueR ms r i ++ List.replicate (preN ms (i + 1) - r - (dueR ms r i).length) i
theorem due_facts (ms : List Nat) (r : Nat) : ∀ i, (∀ c d, (dueR ms r i)[c]? = some d → d < i ∧ r + c + 1 ≤ preN ms (d + 1) ∧ preN ms d ≤ r + c) ∧ ∀ j, j ≤ i → preN ms j ≤ r + (dueR ms r i).length
  | 0 => ⟨fun c d h => by simp [dueR] at h, fun j hj => by
      have : j = 0 := by omega
      subst this
      exact Nat.zero_le _⟩
  | i + 1 => by
    obtain ⟨h1, h2⟩ := due_facts ms r i
    have e : dueR ms r (i + 1) = dueR ms r i ++ List.replicate (preN ms (i + 1) - r - (dueR ms r i).length) i := rfl
    have h3 := h2 i (Nat.le_refl _)
    refine ⟨fun c d h => ?_, fun j hj => ?_⟩
    · rw [e] at h
      by_cases hc : c < (dueR ms r i).length
      · rw [List.getElem?_append_left hc] at h
        obtain ⟨a1, a2, a3⟩ := h1 c d h
        exact ⟨by omega, a2, a3⟩
      · rw [List.getElem?_append_right (by omega)] at h
        have hl := (List.getElem?_eq_some_iff.mp h).1
        rw [List.length_replicate] at hl
        have hd : d = i := (List.mem_replicate.mp (List.mem_of_getElem? h)).2
        subst hd
        exact ⟨Nat.lt_succ_self _, by omega, by omega⟩
    · rw [e, List.length_append, List.length_replicate]
      by_cases hj2 : j ≤ i
      · have := h2 j hj2
        omega
      · have : j = i + 1 := by omega
        subst this
        omega
theorem due_prefix (ms : List Nat) (r : Nat) {i n : Nat} (h : i ≤ n) : ∃ t, dueR ms r n = dueR ms r i ++ t := by
  induction n with
  | zero =>
    have : i = 0 := by omega
    subst this
    exact ⟨[], by simp⟩
  | succ n ih =>
    by_cases e : i = n + 1
    · subst e; exact ⟨[], by simp⟩
    · obtain ⟨t, ht⟩ := ih (by omega)
      exact ⟨t ++ List.replicate (preN ms (n + 1) - r - (dueR ms r n).length) n, by show dueR ms r n ++ _ = _; rw [← List.append_assoc, ← ht]⟩
theorem due_by {ms : List Nat} {r i n c : Nat} (hi : i < n) (h : r + c < preN ms (i + 1)) : ∃ d, (dueR ms r n)[c]? = some d ∧ d ≤ i := by
  have h1 := (due_facts ms r (i + 1)).2 (i + 1) (Nat.le_refl _)
  have hc : c < (dueR ms r (i + 1)).length := by omega
  obtain ⟨t, ht⟩ := due_prefix ms r (i := i + 1) (n := n) (by omega)
  have h2 := List.getElem?_eq_getElem hc
  have h3 := ((due_facts ms r (i + 1)).1 c _ h2).1
  exact ⟨_, by rw [ht, List.getElem?_append_left hc]; exact h2, by omega⟩
def hdF (n : Int) : List Int → Int
  | [] => n
  | b :: _ => b
def latF (n : Int) : List Nat → List Int
  | [] => []
  | d :: ds => (min (d : Int) (hdF n (latF n ds)) - 1) :: latF n ds
theorem latF_len (n : Int) : ∀ ds : List Nat, (latF n ds).length = ds.length
  | [] => rfl
  | d :: ds => by show (latF n ds).length + 1 = _; rw [latF_len n ds]; rfl
theorem latF_drop (n : Int) : ∀ (ds : List Nat) (c : Nat), latF n (ds.drop c) = (latF n ds).drop c
  | ds, 0 => by simp
  | [], c + 1 => by simp [latF]
  | d :: ds, c + 1 => by show latF n (ds.drop c) = (latF n ds).drop c; exact latF_drop n ds c
theorem latF_asc (n : Int) : ∀ ds : List Nat, (latF n ds).Pairwise (· < ·)
  | [] => List.Pairwise.nil
  | d :: ds => by
    have ih := latF_asc n ds
    refine List.pairwise_cons.mpr ⟨fun b hb => ?_, ih⟩
    cases e : latF n ds with
    | nil => rw [e] at hb; cases hb
    | cons x l =>
      rw [e] at hb ih
      show min (d : Int) x - 1 < b
      rcases List.mem_cons.mp hb with z | z
      · rw [z]; omega
      · have := (List.pairwise_cons.mp ih).1 b z
        omega
theorem latF_head {n : Int} {ds : List Nat} (h : ds ≠ []) : (latF n ds)[0]? = some (hdF n (latF n ds)) := by
  cases ds with
  | nil => exact absurd rfl h
  | cons d ds => rfl
theorem latF_lt {n : Int} : ∀ {ds : List Nat} {c : Nat} {b : Int} {d : Nat}, (latF n ds)[c]? = some b → ds[c]? = some d → b < d
  | d :: ds, 0, b, d', h1, h2 => by
    have e1 : min (d : Int) (hdF n (latF n ds)) - 1 = b := Option.some.inj h1
    have e2 : d = d' := Option.some.inj h2
    subst e1 e2
    omega
  | _ :: ds, c + 1, b, d', h1, h2 => latF_lt (n := n) (ds := ds) (c := c) (by simpa [latF] using h1) (by simpa using h2)
theorem latF_step {n : Int} : ∀ {ds : List Nat} {c : Nat} {b : Int} {d : Nat}, (∀ d ∈ ds, (d : Int) ≤ n) → (latF n ds)[c]? = some b → ds[c]? = some d → b = d - 1 ∨ ∃ b', (latF n ds)[c + 1]? = some b' ∧ b = b' - 1
  | d :: ds, 0, b, d', hn, h1, h2 => by
    have e1 : min (d : Int) (hdF n (latF n ds)) - 1 = b := Option.some.inj h1
    have e2 : d = d' := Option.some.inj h2
    subst e1 e2
    have hd := hn d List.mem_cons_self
    cases ds with
    | nil =>
      left
      show min (d : Int) n - 1 = _
      omega
    | cons x l =>
      by_cases z : (d : Int) ≤ hdF n (latF n (x :: l))
      · left; omega
      · right
        exact ⟨hdF n (latF n (x :: l)), rfl, by omega⟩
  | _ :: ds, c + 1, b, d', hn, h1, h2 => by
    rcases latF_step (n := n) (ds := ds) (c := c) (fun d hd => hn d (List.mem_cons_of_mem _ hd)) (by simpa [latF] using h1) (by simpa using h2) with z | ⟨b', z1, z2⟩
    · exact .inl z
    · exact .inr ⟨b', by simpa [latF] using z1, z2⟩
theorem latF_chain {n : Int} : ∀ {ds : List Nat}, (∀ d ∈ ds, (d : Int) ≤ n) → ds ≠ [] → ∃ (e d : Nat), ds[e]? = some d ∧ (latF n ds)[e]? = some ((d : Int) - 1) ∧ (d : Int) - 1 = hdF n (latF n ds) + (e : Int)
  | [], _, h => absurd rfl h
  | [d], hn, _ => by
    have hd := hn d List.mem_cons_self
    have e : (latF n [d]) = [(d : Int) - 1] := by
      show [min (d : Int) n - 1] = _
      rw [show min (d : Int) n = d by omega]
    refine ⟨0, d, rfl, by rw [e]; rfl, by rw [e]; show (d : Int) - 1 = (d : Int) - 1 + ((0 : Nat) : Int); omega⟩
  | d :: x :: l, hn, _ => by
    have hh : hdF n (latF n (d :: x :: l)) = min (d : Int) (hdF n (latF n (x :: l))) - 1 := rfl
    by_cases z : (d : Int) ≤ hdF n (latF n (x :: l))
    · refine ⟨0, d, rfl, ?_, by rw [hh]; omega⟩
      show some (min (d : Int) (hdF n (latF n (x :: l))) - 1) = _
      rw [show min (d : Int) (hdF n (latF n (x :: l))) = d by omega]
    · obtain ⟨e, d', h1, h2, h3⟩ := latF_chain (n := n) (ds := x :: l) (fun d hd => hn d (List.mem_cons_of_mem _ hd)) (by simp)
      exact ⟨e + 1, d', h1, h2, by rw [hh]; omega⟩
/-- the beats are taken -/
def iwB (B : List Int) (t : Nat) : Bool := decide ((t : Int) ∈ B)
theorem cnt_ge {B : List Int} {c i : Nat} {b : Int} (asc : B.Pairwise (· < ·)) (pos : ∀ x ∈ B, 0 ≤ x) (h : B[c]? = some b) (hb : b < i) : c + 1 ≤ cntB (iwB B) 0 i := by
  rw [cntB_filter]
  have hl := (List.getElem?_eq_some_iff.mp h).1
  have e : ((B.take (c + 1)).map Int.toNat).length = c + 1 := by rw [List.length_map, List.length_take]; omega
  rw [← e]
  have pos2 : ∀ x ∈ B.take (c + 1), 0 ≤ x := fun x hx => pos x (List.mem_of_mem_take hx)
  refine len_of_sub ?_ fun t ht => ?_
  · refine List.pairwise_map.mpr (List.Pairwise.imp_of_mem (R := (· < ·)) (fun {a b} ha hb' hab e => ?_) (List.Pairwise.sublist (List.take_sublist _ _) asc))
    have := pos2 a ha
    have := pos2 b hb'
    omega
  · obtain ⟨x, hx, rfl⟩ := List.mem_map.mp ht
    have p := pos2 x hx
    obtain ⟨k, hk⟩ := List.getElem?_of_mem hx
    have hkl := (List.getElem?_eq_some_iff.mp hk).1
    rw [List.length_take] at hkl
    rw [List.getElem?_take_of_lt (by omega)] at hk
    have hle : x ≤ b := by
      by_cases z : k = c
      · subst z; rw [hk] at h; rw [Option.some.inj h]; exact Int.le_refl _
      · obtain ⟨l1, e1⟩ := List.getElem?_eq_some_iff.mp hk
        obtain ⟨l2, e2⟩ := List.getElem?_eq_some_iff.mp h
        have := List.pairwise_iff_getElem.mp asc k c l1 l2 (by omega)
        rw [e1, e2] at this
        omega
    refine List.mem_filter.mpr ⟨List.mem_range.mpr (by omega), decide_eq_true ?_⟩
    rw [Int.toNat_of_nonneg p]
    exact List.mem_of_mem_take hx
theorem cnt_lt {B : List Int} {c i : Nat} (asc : B.Pairwise (· < ·)) (h : ∀ b, B[c]? = some b → (i : Int) ≤ b) : cntB (iwB B) 0 i ≤ c := by
  rw [cntB_filter]
  have e1 : (((List.range i).filter (iwB B)).map fun t : Nat => (t : Int)).length = ((List.range i).filter (iwB B)).length := List.length_map _
  rw [← e1]
  refine Nat.le_trans (len_of_sub (l := B.take c) ?_ fun x hx => ?_) (by rw [List.length_take]; omega)
  · refine List.pairwise_map.mpr (List.Pairwise.imp (R := (· < ·)) (fun {a b} h e => ?_) (List.Pairwise.filter _ List.pairwise_lt_range))
    omega
  · obtain ⟨t, ht, rfl⟩ := List.mem_map.mp hx
    obtain ⟨h1, h2⟩ := List.mem_filter.mp ht
    have hti := List.mem_range.mp h1
    have hm : (t : Int) ∈ B := of_decide_eq_true h2
    obtain ⟨k, hk⟩ := List.getElem?_of_mem hm
    obtain ⟨l1, e1⟩ := List.getElem?_eq_some_iff.mp hk
    have hkc : k < c := by
      apply Classical.byContradiction
      intro z
      have l2 : c < B.length := by omega
      have h3 := h _ (List.getElem?_eq_getElem l2)
      by_cases z2 : k = c
      · subst z2
        rw [e1] at h3
        omega
      · have := List.pairwise_iff_getElem.mp asc c k l2 l1 (by omega)
        rw [e1] at this
        omega
    rw [List.mem_iff_getElem?]
    exact ⟨k, by rw [List.getElem?_take_of_lt hkc]; exact hk⟩
/-- the latest beats -/
def latB (ms : List Nat) (r : Nat) : List Int := latF (ms.length : Nat) (dueR ms r ms.length)
section
variable {ms : List Nat} {r : Nat}
theorem due_le : ∀ d ∈ dueR ms r ms.length, (d : Int) ≤ (ms.length : Nat) := fun d hd => by
  obtain ⟨c, hc⟩ := List.getElem?_of_mem hd
  have := ((due_facts ms r ms.length).1 c d hc).1
  omega
theorem latB_asc : (latB ms r).Pairwise (· < ·) := latF_asc _ _
theorem latB_due {c : Nat} {b : Int} (h : (latB ms r)[c]? = some b) : ∃ d, (dueR ms r ms.length)[c]? = some d ∧ b < d ∧ d < ms.length ∧ r + c + 1 ≤ preN ms (d + 1) := by
  have hl := (List.getElem?_eq_some_iff.mp h).1
  unfold latB at hl
  rw [latF_len] at hl
  have hd := List.getElem?_eq_getElem hl
  obtain ⟨h1, h2, _⟩ := (due_facts ms r ms.length).1 c _ hd
  exact ⟨_, hd, latF_lt h hd, h1, h2⟩
theorem latB_lt {c : Nat} {b : Int} (h : (latB ms r)[c]? = some b) : b < (ms.length : Nat) - 1 ∨ b + 1 < (ms.length : Nat) := by
  obtain ⟨d, _, h1, h2, _⟩ := latB_due h
  right; omega
/-- from each beat on, one behind the other, up to one that is due -/
theorem latB_chain {c : Nat} {b : Int} (h : (latB ms r)[c]? = some b) : ∃ (e d : Nat), c ≤ e ∧ (dueR ms r ms.length)[e]? = some d ∧ (d : Int) - 1 = b + ((e : Int) - (c : Int)) := by
  have hl := (List.getElem?_eq_some_iff.mp h).1
  unfold latB at hl
  rw [latF_len] at hl
  have hne : (dueR ms r ms.length).drop c ≠ [] := by
    intro e
    have := congrArg List.length e
    rw [List.length_drop, List.length_nil] at this
    omega
  obtain ⟨e, d, h1, _, h3⟩ := latF_chain (n := (ms.length : Nat)) (ds := (dueR ms r ms.length).drop c) (fun d hd => due_le d (List.mem_of_mem_drop hd)) hne
  have h4 := latF_head (n := (ms.length : Nat)) hne
  rw [latF_drop, List.getElem?_drop, Nat.add_zero] at h4
  have h5 : hdF (ms.length : Nat) (latF (ms.length : Nat) ((dueR ms r ms.length).drop c)) = b := by
    have h6 : (latF (ms.length : Nat) (dueR ms r ms.length))[c]? = some b := h
    rw [h6] at h4
    rw [latF_drop]
    exact (Option.some.inj h4).symm
  rw [h5] at h3
  rw [List.getElem?_drop] at h1
  exact ⟨c + e, d, by omega, h1, by omega⟩
theorem row_pre {iw : Nat → Bool} {i : Nat} : rowB ms iw i = keptB ms iw i + (preN ms (i + 1) - preN ms i) := by
  unfold rowB
  have : preN ms (i + 1) = preN ms i + ms.getD i 0 := rfl
  omega
/-- where the whole time is enough, no beat lies ahead of all -/
theorem latB_pos (ev : ∀ i, i < ms.length → rowB ms (fun _ => true) i ≤ r) {c : Nat} {b : Int} (h : (latB ms r)[c]? = some b) : 0 ≤ b := by
  apply Classical.byContradiction
  intro neg
  obtain ⟨e, d, hce, hd, hb⟩ := latB_chain h
  obtain ⟨h1, h2, _⟩ := (due_facts ms r ms.length).1 e d hd
  have h3 := ev d h1
  rw [row_pre] at h3
  have h4 := kept_low ms (fun _ => true) 0 d
  have h5 := cntB_le (fun _ => true) 0 d
  rw [Nat.zero_add] at h4
  have h6 : preN ms 0 = 0 := rfl
  have h7 := preN_mono ms (show d ≤ d + 1 by omega)
  omega
/-- and the latest beats are enough -/
theorem latB_ok (ev : ∀ i, i < ms.length → rowB ms (fun _ => true) i ≤ r) {i : Nat} (hi : i < ms.length) : rowB ms (iwB (latB ms r)) i ≤ r := by
  apply Classical.byContradiction
  intro short
  have pos : ∀ x ∈ latB ms r, 0 ≤ x := fun x hx => by
    obtain ⟨k, hk⟩ := List.getElem?_of_mem hx
    exact latB_pos ev hk
  obtain ⟨j, d0, ej, hk⟩ := kept_eq ms (iwB (latB ms r)) i
  rw [row_pre] at short
  have hm := preN_mono ms (show i ≤ i + 1 by omega)
  have hji := preN_mono ms (show j ≤ i by omega)
  -- as many beats lie ahead of i as have to
  have hcnt : preN ms (i + 1) - r ≤ cntB (iwB (latB ms r)) 0 i := by
    by_cases z : preN ms (i + 1) ≤ r
    · omega
    · obtain ⟨d, hd, hdi⟩ := due_by (ms := ms) (r := r) (i := i) (n := ms.length) (c := preN ms (i + 1) - r - 1) hi (by omega)
      have hl := (List.getElem?_eq_some_iff.mp hd).1
      have hl2 : preN ms (i + 1) - r - 1 < (latB ms r).length := by unfold latB; rw [latF_len]; exact hl
      have hb := List.getElem?_eq_getElem hl2
      have hlt := latF_lt (n := (ms.length : Nat)) (show (latF (ms.length : Nat) (dueR ms r ms.length))[preN ms (i + 1) - r - 1]? = some _ from hb) hd
      have := cnt_ge latB_asc pos hb (i := i) (by omega)
      omega
  have hadd := cntB_add (iwB (latB ms r)) j d0
  rw [ej] at hadd
  have hc0 : preN ms j + 1 ≤ cntB (iwB (latB ms r)) 0 j := by omega
  -- so one lies ahead of j
  have hex : ∃ b, (latB ms r)[preN ms j]? = some b ∧ b < (j : Int) := by
    apply Classical.byContradiction
    intro no
    have := cnt_lt (B := latB ms r) (c := preN ms j) (i := j) latB_asc fun b hb => by
      apply Classical.byContradiction
      intro z
      exact no ⟨b, hb, by omega⟩
    omega
  obtain ⟨b, hb, hbj⟩ := hex
  obtain ⟨e, d, hce, hd, hbe⟩ := latB_chain hb
  obtain ⟨h1, h2, _⟩ := (due_facts ms r ms.length).1 e d hd
  have hjd : j ≤ d := by
    apply Classical.byContradiction
    intro z
    have := preN_mono ms (show d + 1 ≤ j by omega)
    omega
  have h3 := ev d h1
  rw [row_pre] at h3
  have h4 := kept_low ms (fun _ => true) j (d - j)
  rw [show j + (d - j) = d by omega] at h4
  have h5 := cntB_le (fun _ => true) j (d - j)
  have h7 := preN_mono ms (show d ≤ d + 1 by omega)
  omega
/-- one beat later: too late -/
theorem latB_late {c : Nat} {b : Int} (h : (latB ms r)[c]? = some b) (hno : b + 1 ∉ latB ms r) {iw : Nat → Bool} (hiw : ∀ t : Nat, (t : Int) ≤ b → iw t = true → ∃ k b', k < c ∧ (latB ms r)[k]? = some b' ∧ b' = (t : Int)) : ∃ i, i < ms.length ∧ r < rowB ms iw i := by
  obtain ⟨d, hd, _, h1, h2⟩ := latB_due h
  have hb : b = (d : Int) - 1 := by
    rcases latF_step (n := (ms.length : Nat)) due_le h hd with z | ⟨b', z1, z2⟩
    · exact z
    · exact absurd (List.mem_of_getElem? z1) (by rw [show b' = b + 1 by omega]; exact hno)
  refine ⟨d, h1, ?_⟩
  rw [row_pre]
  have h4 := kept_low ms iw 0 d
  rw [Nat.zero_add] at h4
  have h5 : cntB iw 0 d ≤ c := by
    rw [cntB_filter]
    have e1 : (((List.range d).filter iw).map fun t : Nat => (t : Int)).length = ((List.range d).filter iw).length := List.length_map _
    rw [← e1]
    refine Nat.le_trans (len_of_sub (l := (latB ms r).take c) ?_ fun x hx => ?_) (by rw [List.length_take]; omega)
    · refine List.pairwise_map.mpr (List.Pairwise.imp (R := (· < ·)) (fun {a b} h e => ?_) (List.Pairwise.filter _ List.pairwise_lt_range))
      omega
    · obtain ⟨t, ht, rfl⟩ := List.mem_map.mp hx
      obtain ⟨g1, g2⟩ := List.mem_filter.mp ht
      have := List.mem_range.mp g1
      obtain ⟨k, b', hk, hkb, e⟩ := hiw t (by omega) g2
      rw [List.mem_iff_getElem?]
      exact ⟨k, by rw [List.getElem?_take_of_lt hk, hkb, e]⟩
  have h6 : preN ms 0 = 0 := rfl
  have h7 := preN_mono ms (show d ≤ d + 1 by omega)
  omega
theorem firstB_none {iw : Nat → Bool} : firstN (rowsB ms iw) r = none ↔ ∀ i, i < ms.length → rowB ms iw i ≤ r := by
  have hl : (rowsB ms iw).length = ms.length := by unfold rowsB; rw [List.length_map, List.length_range]
  have hg : ∀ i, i < ms.length → (rowsB ms iw).getD i 0 = rowB ms iw i := fun i hi => by
    rw [List.getD_eq_getElem?_getD]
    unfold rowsB
    rw [List.getElem?_map, List.getElem?_range hi]
    rfl
  constructor
  · intro h i hi
    unfold firstN at h
    rw [List.head?_eq_none_iff, List.filter_eq_nil_iff] at h
    have := h i (List.mem_range.mpr (by omega))
    rw [hg i hi, decide_eq_true_iff] at this
    omega
  · intro h
    refine firstN_none fun j hj => ?_
    rw [hg j (by omega)]
    have := h j (by omega)
    omega
/-- the latest beats are enough just where the whole time is -/
theorem latB_iff : firstN (rowsB ms (iwB (latB ms r))) r = none ↔ firstN (rowsB ms (fun _ => true)) r = none := by
  rw [firstB_none, firstB_none]
  constructor
  · intro h i hi
    have h1 := h i hi
    have h2 := kept_mono (ms := ms) (iw := iwB (latB ms r)) (iw' := fun _ => true) (fun _ _ => rfl) i
    unfold rowB at h1 ⊢
    omega
  · intro h i hi
    exact latB_ok h hi
end
end K10

namespace K10
open PySem PySem.Spec PyProof.Rows L2 Sky
def LF : List Str := ["many", "_stream", "_size", "_count", "_first", "_body"]
theorem LF_nd : LF.Nodup := by decide +kernel
def lf (m st z c : Int) (fo : Option Nat) (l : Addr) : List (Str × V) := LF.zip [.int m, .int st, .int z, .int c, optV fo, .ref l]
section
variable {m st z c x : Int} {fo : Option Nat} {l l' : Addr}
theorem lf_many : (lf m st z c fo l).lookup ("many" : Str) = some (.int m) := lookup_zip LF _ 0 _ LF_nd rfl rfl
theorem lf_stream : (lf m st z c fo l).lookup ("_stream" : Str) = some (.int st) := lookup_zip LF _ 1 _ LF_nd rfl rfl
theorem lf_size : (lf m st z c fo l).lookup ("_size" : Str) = some (.int z) := lookup_zip LF _ 2 _ LF_nd rfl rfl
theorem lf_count : (lf m st z c fo l).lookup ("_count" : Str) = some (.int c) := lookup_zip LF _ 3 _ LF_nd rfl rfl
theorem lf_first : (lf m st z c fo l).lookup ("_first" : Str) = some (optV fo) := lookup_zip LF _ 4 _ LF_nd rfl rfl
theorem lf_body : (lf m st z c fo l).lookup ("_body" : Str) = some (.ref l) := lookup_zip LF _ 5 _ LF_nd rfl rfl
theorem lf_no {f : Str} (h : f ∉ LF) : (lf m st z c fo l).lookup f = none := lookup_zip_none LF _ _ h
theorem pf_many : putF "many" (.int x) (lf m st z c fo l) = lf x st z c fo l := putF_zip LF _ 0 _ _ LF_nd rfl rfl
theorem pf_count : putF "_count" (.int x) (lf m st z c fo l) = lf m st z x fo l := putF_zip LF _ 3 _ _ LF_nd rfl rfl
theorem pf_first {o : Option Nat} : putF "_first" (optV o) (lf m st z c fo l) = lf m st z c o l := putF_zip LF _ 4 _ _ LF_nd rfl rfl
theorem pf_body : putF "_body" (.ref l') (lf m st z c fo l) = lf m st z c fo l' := putF_zip LF _ 5 _ _ LF_nd rfl rfl
theorem lf_few : (lf m st z c fo l).length < 1000 := Nat.lt_of_le_of_lt (zip_len LF _) (by decide)
end
section
variable {P : Program} {w : World} {K : PySem.W.Frag} {mg : Str → Option Value} {base : Heap}
/-! ### _done -/
def sp_done (C : Addr) : Sp := fun vs H Q _ => ∃ (p dx l : Addr) (m st z c : Int) (fo : Option Nat) (b : List Int), vs = [.ref p] ∧ H p = some (.ins C dx (lf m st z c fo l)) ∧ H l = some (.lst (b.map V.int)) ∧
  ∀ f H' l', TD H' (.ref f) (.tuple [.int st, .int c, optD fo, tlD b]) → H' p = some (.ins C dx (lf m st z (c + 1) none l')) → H' l' = some (.lst []) → H l' = none → H f = none → Keep [p] H H' → Q (.ref f) H'
theorem ok_Laying_done (T : Tx K mg) : FnOk P w K mg base CX0 1 T.a_Laying_done T.d_Laying_done ["self"] (sp_done T.A_Laying) := by
  have nd := sc_Laying_done.nd
  refine T.F_Laying_done.ok sc_Laying_done (fun vs H Q E h => ?_) (fun cdv A outer s H vs Q E hr h => ?_)
  · obtain ⟨p, _, _, _, _, _, _, _, _, rfl, _⟩ := h
    rfl
  · obtain ⟨p, dx, l, m, st, z, c, fo, b, rfl, hp, hl, q⟩ := h
    refine ⟨_, (pss_cons (ps_set (i := 1) nd rfl (Or.inl rfl) (pe_tup (pa_cons (pe_fld (pv 0) rfl) (pa_cons (pe_fld (pv 0) rfl) (pa_cons (pe_fld (pv 0) rfl) (pa_cons (pe_tupleOf (by rfl) T.z_tuple (pe_fld (pv 0) rfl)) pa_nil)))))) (pss_cons (ps_fldaug (pv 0) pe_int in_add) (pss_cons (ps_fld (pv 0) pe_non rfl) (pss_cons (ps_fld (pv 0) (pe_lst pa_nil) rfl) (pss_one (ps_ret (pv 1))))))), ?_⟩
    refine ⟨_, rfl, p, _, dx, _, _, rfl, hp, T.cl_Laying, T.n_Laying_stream, lf_stream, ?_⟩
    refine ⟨_, rfl, p, _, dx, _, _, rfl, hp, T.cl_Laying, T.n_Laying_count, lf_count, ?_⟩
    refine ⟨_, rfl, p, _, dx, _, _, rfl, hp, T.cl_Laying, T.n_Laying_first, lf_first, ?_⟩
    refine ⟨_, rfl, p, _, dx, _, _, rfl, hp, T.cl_Laying, T.n_Laying_body, lf_body, .inl ⟨l, _, rfl, SqL.of hl, fun b' hb' => ?_⟩⟩
    refine ⟨(by decide : (4 : Nat) ≤ sizeLine), fun f hf => ?_⟩
    have hf' : H f = none := (same_new (Same.refl H) hb').free hf
    have npb : p ≠ b' := ne_of_none hp hb'
    have npf : p ≠ f := ne_of_none hp hf'
    have nbf : b' ≠ f := ne_of_none upd_same hf
    have k1 : Keep [p] H (upd (upd H b' (.tup (b.map V.int))) f (.tup [.int st, .int c, optV fo, .ref b'])) := keep_new (keep_new (Keep.refl _ _) hb') hf'
    generalize hH1 : upd (upd H b' (.tup (b.map V.int))) f (.tup [.int st, .int c, optV fo, .ref b']) = H1 at *
    have p1 : H1 p = some (.ins T.A_Laying dx (lf m st z c fo l)) := by rw [← hH1, upd_ne npf, upd_ne npb]; exact hp
    have t1 : TD H1 (.ref f) (.tuple [.int st, .int c, optD fo, tlD b]) := by
      refine .tup (by rw [← hH1]; exact upd_same) (.cons (.int _) (.cons (.int _) (.cons (TD.opt _) (.cons (TD.tl ?_) .nil))))
      rw [← hH1, upd_ne nbf]
      exact upd_same
    -- self._count += 1
    refine ⟨_, rfl, p, _, dx, _, _, rfl, p1, T.cl_Laying, T.n_Laying_count, lf_count, c, 1, rfl, rfl, dx, _, p1, lf_few, ?_⟩
    rw [pf_count]
    refine ⟨_, rfl, p, _, dx, _, rfl, upd_same, T.cl_Laying, T.n_Laying_first, lf_few, ?_⟩
    rw [show putF "_first" V.non _ = _ from pf_first (o := none), upd_upd]
    refine ⟨Nat.zero_le _, fun l' hl' => ?_⟩
    have npl : p ≠ l' := ne_of_none upd_same hl'
    have hl1 : H1 l' = none := by rw [upd_ne npl.symm] at hl'; exact hl'
    refine ⟨_, rfl, p, _, dx, _, rfl, (by rw [upd_ne npl]; exact upd_same), T.cl_Laying, T.n_Laying_body, lf_few, ?_⟩
    rw [pf_body]
    have hl0 : H l' = none := by
      rw [← hH1] at hl1
      have := (same_new (Same.refl _) hf).free hl1
      exact (same_new (Same.refl _) hb').free this
    refine ⟨_, rfl, q f _ l' ?_ upd_same (by rw [upd_ne npl.symm]; exact upd_same) hl0 hf' ?_⟩
    · refine t1.mono (ts_upd (ts_upd (ts_upd (TSm.refl _) (NoT.ins p1)) (NoT.none hl')) (NoT.ins (by rw [upd_ne npl]; exact upd_same)))
    · exact keep_upd (keep_new (keep_upd k1 (by simp)) hl0) (by simp)
/-! ### __init__ -/
def sp_init (C : Addr) : Sp := fun vs H Q _ => ∃ (p dx : Addr) (st z : Int), vs = [.ref p, .int st, .int z] ∧ H p = some (.ins C dx []) ∧
  ∀ H' l, H' p = some (.ins C dx (lf 0 st z 0 none l)) → H' l = some (.lst []) → H l = none → Keep [p] H H' → Q .non H'
theorem ok_Laying_init (T : Tx K mg) : FnOk P w K mg base CX0 1 T.a_Laying_init T.d_Laying_init ["self", "stream", "size"] (sp_init T.A_Laying) := by
  have nd := sc_Laying_init.nd
  refine T.F_Laying_init.ok sc_Laying_init (fun vs H Q E h => ?_) (fun cdv A outer s H vs Q E hr h => ?_)
  · obtain ⟨p, _, _, _, rfl, _⟩ := h
    rfl
  · obtain ⟨p, dx, st, z, rfl, hp, q⟩ := h
    refine ⟨_, (pss_cons (ps_fld (pv 0) pe_int rfl) (pss_cons (ps_fld (pv 0) (pv 1) rfl) (pss_cons (ps_fld (pv 0) (pv 2) rfl) (pss_cons (ps_fld (pv 0) pe_int rfl) (pss_cons (ps_fld (pv 0) pe_non rfl) (pss_one (ps_fld (pv 0) (pe_lst pa_nil) rfl))))))), ?_⟩
    refine ⟨_, rfl, p, _, dx, _, rfl, hp, T.cl_Laying, T.n_Laying_many, (by decide), ?_⟩
    rw [show putF "many" (V.int 0) [] = (LF.take 1).zip [.int 0] from rfl]
    refine ⟨_, rfl, _, rfl, p, _, dx, _, rfl, upd_same, T.cl_Laying, T.n_Laying_stream, (Nat.lt_of_le_of_lt (zip_len _ _) (by decide)), ?_⟩
    rw [upd_upd, putF_take (i := 1) LF_nd rfl rfl]
    refine ⟨_, rfl, _, rfl, p, _, dx, _, rfl, upd_same, T.cl_Laying, T.n_Laying_size, (Nat.lt_of_le_of_lt (zip_len _ _) (by decide)), ?_⟩
    rw [upd_upd, putF_take (i := 2) LF_nd rfl rfl]
    refine ⟨_, rfl, p, _, dx, _, rfl, upd_same, T.cl_Laying, T.n_Laying_count, (Nat.lt_of_le_of_lt (zip_len _ _) (by decide)), ?_⟩
    rw [upd_upd, putF_take (i := 3) LF_nd rfl rfl]
    refine ⟨_, rfl, p, _, dx, _, rfl, upd_same, T.cl_Laying, T.n_Laying_first, (Nat.lt_of_le_of_lt (zip_len _ _) (by decide)), ?_⟩
    rw [upd_upd, putF_take (i := 4) LF_nd rfl rfl]
    refine ⟨Nat.zero_le _, fun l hl => ?_⟩
    have npl : p ≠ l := ne_of_none upd_same hl
    have hl0 : H l = none := by rw [upd_ne npl.symm] at hl; exact hl
    refine ⟨_, rfl, p, _, dx, _, rfl, (by rw [upd_ne npl]; exact upd_same), T.cl_Laying, T.n_Laying_body, (Nat.lt_of_le_of_lt (zip_len _ _) (by decide)), ?_⟩
    rw [putF_take (i := 5) LF_nd rfl rfl]
    exact q _ l upd_same (by rw [upd_ne npl.symm]; exact upd_same) hl0 (keep_upd (keep_new (keep_upd (Keep.refl _ _) (by simp)) hl0) (by simp))
/-! ### the object as it stands -/
def LAt (C : Addr) (H : Hp) (p dx l : Addr) (st : Int) (z : Nat) (N : List Int) (S : List Nat) : Prop :=
  H p = some (.ins C dx (lf (S.length : Nat) st (z : Nat) (N.length / z : Nat) (firstOf z (N.length / z) S) l)) ∧ H l = some (.lst ((N.drop (N.length / z * z)).map V.int))
/-! ### fill -/
def sp_fill (C : Addr) : Sp := fun vs H Q _ => ∃ (p dx l : Addr) (st : Int) (z : Nat) (N : List Int) (S : List Nat), vs = [.ref p] ∧ LAt C H p dx l st z N S ∧ 0 < z ∧ z ≤ 100 ∧ Laid N S ∧
  (N.length % z = 0 → Q .non H) ∧
  (N.length % z ≠ 0 → ∀ f H' l', TD H' (.ref f) (frmD st (N.length / z, firstOf z (N.length / z) S, N.drop (N.length / z * z) ++ List.replicate (z - N.length % z) 0)) → LAt C H' p dx l' st z (padN z N) S → H l' = none → H f = none → Keep [p, l] H H' → Q (.ref f) H')
theorem ok_Laying_fill (T : Tx K mg) : FnOk P w K mg base CX0 2 T.a_Laying_fill T.d_Laying_fill ["self"] (sp_fill T.A_Laying) := by
  have nd := sc_Laying_fill.nd
  refine T.F_Laying_fill.ok sc_Laying_fill (fun vs H Q E h => ?_) (fun cdv A outer s H vs Q E hr h => ?_)
  · obtain ⟨p, _, _, _, _, _, _, rfl, _⟩ := h
    rfl
  · obtain ⟨p, dx, l, st, z, N, S, rfl, ⟨hp, hl⟩, hz, hz1, hL, q0, q1⟩ := h
    refine ⟨_, (pss_cons (ps_if (pt_not (pt_truth (pe_fld (pv 0) rfl) (by intro _; rfl))) (pss_one (ps_ret pe_non)) pss_nil) (pss_cons (ps_expr (pe_bm PySem.F.plainAttrs_list PySem.F.slot_list_extend PySem.F.type_list_extend mt_extend (pe_fld (pv 0) rfl) (pa_cons (pe_op op_rep (pe_lst (pa_cons pe_int pa_nil)) (pe_op op_sub (pe_fld (pv 0) rfl) (pe_callB call_len_seq (by rfl) T.z_len PySem.boot_len (pa_cons (pe_fld (pv 0) rfl) pa_nil)))) pa_nil))) (pss_one (ps_ret (pe_meth0 (pv 0) T.cl_Laying T.M_Laying_done (ok_Laying_done T) (hr.mono (by decide)) T.b_Laying_done .nil pass0))))), ?_⟩
    refine ⟨_, rfl, p, _, dx, _, _, rfl, hp, T.cl_Laying, T.n_Laying_body, lf_body, _, .inl ⟨_, SqL.of hl, rfl⟩, ?_⟩
    have hbl := body_length z N
    by_cases hm : N.length % z = 0
    · have e : N.drop (N.length / z * z) = [] := List.eq_nil_of_length_eq_zero (by omega)
      rw [e]
      exact q0 hm
    · have e : (!(!((N.drop (N.length / z * z)).map V.int).isEmpty)) = false := by
        cases hd : N.drop (N.length / z * z) with
        | nil => rw [hd] at hbl; simp at hbl; omega
        | cons x r => rfl
      show (if (!(!((N.drop (N.length / z * z)).map V.int).isEmpty)) = true then _ else _)
      rw [e]
      refine iteF ?_
      -- self._body.extend([0] * (self._size - len(self._body)))
      refine ⟨_, rfl, p, _, dx, _, _, rfl, hp, T.cl_Laying, T.n_Laying_body, lf_body, .inl ⟨rfl, _, SqL.of hl⟩, ?_⟩
      refine ⟨(by decide : (1 : Nat) ≤ sizeLine), fun a ha => ?_⟩
      have k1 : Keep [p, l] H (upd H a (.lst [.int 0])) := keep_new (Keep.refl _ _) ha
      have npa : p ≠ a := ne_of_none hp ha
      have nla : l ≠ a := ne_of_none hl ha
      have hp1 : upd H a (.lst [.int 0]) p = some (.ins T.A_Laying dx (lf (S.length : Nat) st (z : Nat) (N.length / z : Nat) (firstOf z (N.length / z) S) l)) := by rw [upd_ne npa]; exact hp
      have hl1 : upd H a (.lst [.int 0]) l = some (.lst ((N.drop (N.length / z * z)).map V.int)) := by rw [upd_ne nla]; exact hl
      refine ⟨_, rfl, p, _, dx, _, _, rfl, hp1, T.cl_Laying, T.n_Laying_size, lf_size, ?_⟩
      refine ⟨_, rfl, p, _, dx, _, _, rfl, hp1, T.cl_Laying, T.n_Laying_body, lf_body, l, _, rfl, .inl (SqL.of hl1), _, _, rfl, rfl, ?_⟩
      have hlen : ((N.drop (N.length / z * z)).map V.int).length = N.length % z := by rw [List.length_map, hbl]
      have hmz := Nat.mod_lt N.length hz
      refine ⟨a, _, _, rfl, rfl, upd_same, (by omega), (by omega), le_line (by rw [List.length_singleton]; omega), fun b hb => ?_⟩
      have hb0 : H b = none := (same_new (Same.refl _) ha).free hb
      have nlb : l ≠ b := ne_of_none hl hb0
      have npb : p ≠ b := ne_of_none hp hb0
      have ez : (List.replicate (((z : Nat) : Int) - ((((N.drop (N.length / z * z)).map V.int).length : Nat) : Int)).toNat [V.int 0]).flatten = (List.replicate (z - N.length % z) (0 : Int)).map V.int := by
        rw [hlen, show (((z : Nat) : Int) - ((N.length % z : Nat) : Int)).toNat = z - N.length % z by omega]
        induction (z - N.length % z) with
        | zero => rfl
        | succ n ih => rw [List.replicate_succ, List.replicate_succ, List.flatten_cons, ih]; rfl
      rw [ez]
      refine ⟨l, b, _, _, rfl, rfl, (by rw [upd_ne nlb]; exact hl1), upd_same, le_line (by rw [List.length_map, List.length_map, List.length_replicate, hbl]; omega), ?_⟩
      rw [← List.map_append]
      have npl : p ≠ l := ne_of hp hl (by intro e; cases e)
      have hp2 : upd (upd (upd H a (.lst [.int 0])) b (.lst ((List.replicate (z - N.length % z) (0 : Int)).map V.int))) l (.lst ((N.drop (N.length / z * z) ++ List.replicate (z - N.length % z) 0).map V.int)) p = some (.ins T.A_Laying dx (lf (S.length : Nat) st (z : Nat) (N.length / z : Nat) (firstOf z (N.length / z) S) l)) := by
        rw [upd_ne npl, upd_ne npb]
        exact hp1
      have k2 := keep_upd (o := .lst ((N.drop (N.length / z * z) ++ List.replicate (z - N.length % z) 0).map V.int)) (keep_new (o := .lst ((List.replicate (z - N.length % z) (0 : Int)).map V.int)) k1 hb0) (show l ∈ [p, l] by simp)
      refine ⟨_, rfl, p, dx, _, rfl, hp2, lf_no (by decide +kernel), p, dx, l, _, _, _, _, _, _, rfl, hp2, upd_same, fun f H' l' tf hp' hl' nl nf k => ?_⟩
      have nl0 : H l' = none := by
        cases e : H l' with
        | none => rfl
        | some o =>
          by_cases e1 : l' ∈ [p, l]
          · rcases List.mem_cons.mp e1 with z1 | z1
            · subst z1; rw [hp2] at nl; cases nl
            · rw [List.mem_singleton.mp z1, upd_same] at nl; cases nl
          · rw [k2 _ _ e1 e] at nl; cases nl
      have nf0 : H f = none := by
        cases e : H f with
        | none => rfl
        | some o =>
          by_cases e1 : f ∈ [p, l]
          · rcases List.mem_cons.mp e1 with z1 | z1
            · subst z1; rw [hp2] at nf; cases nf
            · rw [List.mem_singleton.mp z1, upd_same] at nf; cases nf
          · rw [k2 _ _ e1 e] at nf; cases nf
      refine q1 hm f H' l' tf ⟨?_, ?_⟩ nl0 nf0 (k2.trans (k.mono (by simp)))
      · have e1 : (padN z N).length = (N.length / z + 1) * z := by
          unfold padN
          rw [if_neg hm, List.length_append, List.length_replicate, Nat.succ_mul]
          have := div_mod z N.length
          omega
        have e2 : (padN z N).length / z = N.length / z + 1 := by rw [e1, Nat.mul_div_cancel _ hz]
        rw [e2, firstOf_none (fun s hs => ?_)]
        · exact hp'
        · have := hL.le s hs
          have := div_hi hz N.length
          rw [Nat.succ_mul]
          omega
      · have e1 : (padN z N).length = (N.length / z + 1) * z := by
          unfold padN
          rw [if_neg hm, List.length_append, List.length_replicate, Nat.succ_mul]
          have := div_mod z N.length
          omega
        have e2 : (padN z N).length / z * z = (padN z N).length := by rw [e1, Nat.mul_div_cancel _ hz]
        rw [e2, List.drop_length]
        exact hl'
end
end K10

namespace K10
open PySem PySem.Spec PyProof.Rows L2 Sky
section
variable {P : Program} {w : World} {K : PySem.W.Frag} {mg : Str → Option Value} {base : Heap}
/-! ### lay -/
def sp_lay (C : Addr) : Sp := fun vs H Q _ => ∃ (p dx l a : Addr) (st : Int) (z : Nat) (N : List Int) (S : List Nat) (t : List Int), vs = [.ref p, .ref a] ∧ LAt C H p dx l st z N S ∧ 0 < z ∧ z ≤ 100 ∧ Laid N S ∧
  H a = some (.tup (t.map V.int)) ∧ t.length ≤ 1000 ∧
  ∀ r us H' l', H' r = some (.lst us) → TDs H' us (((frms z (lay1 (N, S) t).1 (lay1 (N, S) t).2).drop (N.length / z)).map (frmD st)) → LAt C H' p dx l' st z (lay1 (N, S) t).1 (lay1 (N, S) t).2 →
    (l' = l ∨ H l' = none) → H r = none → Keep [p, l] H H' → Dom H H' → Q (.ref r) H'
theorem ok_Laying_lay (T : Tx K mg) : FnOk P w K mg base CX0 2 T.a_Laying_lay T.d_Laying_lay ["self", "telling"] (sp_lay T.A_Laying) := by
  have nd := sc_Laying_lay.nd
  refine T.F_Laying_lay.ok sc_Laying_lay (fun vs H Q E h => ?_) (fun cdv A outer s H vs Q E hr h => ?_)
  · obtain ⟨p, _, _, _, _, _, _, _, _, rfl, _⟩ := h
    rfl
  · obtain ⟨p, dx, l, a, st, z, N, S, t, rfl, ⟨hp, hl⟩, hz, hz1, hL, ha, ht, q⟩ := h
    have npl : p ≠ l := ne_of hp hl (by intro e; cases e)
    have nap : a ≠ p := ne_of ha hp (by intro e; cases e)
    have nal : a ≠ l := ne_of ha hl (by intro e; cases e)
    have hbl := body_length z N
    refine ⟨_, (pss_cons (ps_if (pt_cmpR op_isN (pe_fld (pv 0) rfl) pe_non (nomark _)) (pss_one (ps_fld (pv 0) (pe_callB call_len_seq (by rfl) T.z_len PySem.boot_len (pa_cons (pe_fld (pv 0) rfl) pa_nil)) rfl)) pss_nil) (pss_cons (ps_set (i := 2) nd rfl (Or.inl rfl) (pe_lst (pa_cons (pe_callB call_len_seq (by rfl) T.z_len PySem.boot_len (pa_cons (pv 1) pa_nil)) (pa_cons (pe_op op_fdivN (pe_fld (pv 0) rfl) (pe_glob (v := .int 256) (by rfl) T.c_HUNDRED ⟨_, rfl⟩)) (pa_cons (pe_op op_modN (pe_fld (pv 0) rfl) (pe_glob (v := .int 256) (by rfl) T.c_HUNDRED ⟨_, rfl⟩)) (StX.pa_star (pv 1) pa_nil)))))) (pss_cons (ps_fldaug (pv 0) pe_int in_add) (pss_cons (ps_set (i := 3) nd rfl (Or.inl rfl) (pe_lst pa_nil)) (pss_cons (ps_for PassesOwn.never rfl (pi_list (pv 2)) (pg_name (i := 4) nd rfl (Or.inl rfl)) (pss_cons (ps_expr (pe_bm PySem.F.plainAttrs_list PySem.F.slot_list_append PySem.F.type_list_append mt_append (pe_fld (pv 0) rfl) (pa_cons (pv 4) pa_nil))) (pss_one (ps_if (pt_cmpR op_eq (pe_callB call_len_seq (by rfl) T.z_len PySem.boot_len (pa_cons (pe_fld (pv 0) rfl) pa_nil)) (pe_fld (pv 0) rfl) (nomark _)) (pss_one (ps_expr (pe_bm PySem.F.plainAttrs_list PySem.F.slot_list_append PySem.F.type_list_append mt_append (pv 3) (pa_cons (pe_meth0 (pv 0) T.cl_Laying T.M_Laying_done (ok_Laying_done T) (hr.mono (by decide)) T.b_Laying_done .nil pass0) pa_nil)))) pss_nil)))) (pss_one (ps_ret (pv 3)))))))), ?_⟩
    -- if self._first is None: self._first = len(self._body)
    refine ⟨_, rfl, p, _, dx, _, _, rfl, hp, T.cl_Laying, T.n_Laying_first, lf_first, rfl, _, rfl, ?_⟩
    refine if_skip (fun H1 => H1 p = some (.ins T.A_Laying dx (lf (S.length : Nat) st (z : Nat) (N.length / z : Nat) (firstOf z (N.length / z) (S ++ [N.length])) l)) ∧ H1 l = some (.lst ((N.drop (N.length / z * z)).map V.int)) ∧ Keep [p, l] H H1 ∧ Dom H H1)
      (fun H1 ⟨hp1, hl1, k1, d1⟩ => ?_) (fun e rest => ?_) (fun e => ?_)
    case refine_2.refine_2 =>
      refine ⟨_, rfl, p, _, dx, _, _, rfl, hp, T.cl_Laying, T.n_Laying_body, lf_body, l, _, rfl, .inl (SqL.of hl), _, rfl, p, _, dx, _, rfl, hp, T.cl_Laying, T.n_Laying_first, lf_few, ?_⟩
      have e0 : firstOf z (N.length / z) S = none := by
        have := of_decide_eq_true e
        cases h : firstOf z (N.length / z) S with
        | none => rfl
        | some x => rw [h] at this; cases this
      have e1 : V.int (((N.drop (N.length / z * z)).map V.int).length : Nat) = optV (some (N.length % z)) := by rw [List.length_map, hbl]; rfl
      rw [e1, pf_first]
      refine rest _ ⟨?_, by rw [upd_ne npl.symm]; exact hl, keep_upd (Keep.refl _ _) (by simp), dom_upd _ _ _⟩
      rw [upd_same, first_start hz, e0]
      rfl
    case refine_2.refine_3 =>
      refine ⟨?_, hl, Keep.refl _ _, Dom.refl _⟩
      rw [hp, first_start hz]
      cases h : firstOf z (N.length / z) S with
      | none => rw [h] at e; exact absurd (decide_eq_true rfl) e
      | some x => rfl
    -- laid = [..]
    have ha1 : H1 a = some (.tup (t.map V.int)) := k1 _ _ (by simp [nap, nal]) ha
    refine ⟨_, rfl, a, _, rfl, .inr (SqT.of ha1), ?_⟩
    refine ⟨_, rfl, p, _, dx, _, _, rfl, hp1, T.cl_Laying, T.n_Laying_many, lf_many, _, 256, rfl, rfl, (show CDivN _ 256 from ⟨by decide, by decide⟩), ?_⟩
    refine ⟨_, rfl, p, _, dx, _, _, rfl, hp1, T.cl_Laying, T.n_Laying_many, lf_many, _, 256, rfl, rfl, (by decide : (256 : Int) ≠ 0), ?_⟩
    refine ⟨_, rfl, a, _, rfl, .inl (SqT.of ha1), ?_⟩
    have elaid : (V.int (((t.map V.int).length : Nat) : Int) :: V.int (((S.length : Nat) : Int).fdiv 256) :: V.int (((S.length : Nat) : Int).fmod 256) :: (t.map V.int ++ [])) = (laidN (S.length : Nat) t).map V.int := by
      unfold laidN
      rw [List.append_nil, List.length_map]
      rfl
    refine ⟨?_, fun ll hll => ?_⟩
    · show (V.int (((t.map V.int).length : Nat) : Int) :: V.int (((S.length : Nat) : Int).fdiv 256) :: V.int (((S.length : Nat) : Int).fmod 256) :: (t.map V.int ++ [])).length ≤ sizeLine
      rw [elaid, List.length_map, laidN_length]
      exact le_line (by omega)
    show tSeq _ _ _ (L2.start N_Laying_lay [V.ref p, V.ref a] |>.set 2 (some (.ref ll))) (upd H1 ll (.lst (V.int (((t.map V.int).length : Nat) : Int) :: V.int (((S.length : Nat) : Int).fdiv 256) :: V.int (((S.length : Nat) : Int).fmod 256) :: (t.map V.int ++ []))))
    rw [elaid]
    have nll0 : H ll = none := d1 _ hll
    have nlp : p ≠ ll := ne_of_none hp1 hll
    have nlb : l ≠ ll := ne_of_none hl1 hll
    -- self.many += 1
    refine ⟨_, rfl, p, _, dx, _, _, rfl, (by rw [upd_ne nlp]; exact hp1), T.cl_Laying, T.n_Laying_many, lf_many, _, 1, rfl, rfl, dx, _, (by rw [upd_ne nlp]; exact hp1), lf_few, ?_⟩
    rw [pf_many]
    -- full = []
    refine ⟨Nat.zero_le _, fun fl hfl => ?_⟩
    have nfp : p ≠ fl := ne_of_none upd_same hfl
    have hfl1 := hfl
    rw [upd_ne nfp.symm] at hfl1
    have nfl : ll ≠ fl := ne_of_none upd_same hfl1
    rw [upd_ne nfl.symm] at hfl1
    have nfb : l ≠ fl := ne_of_none hl1 hfl1
    have nfl0 : H fl = none := d1 _ hfl1
    have nff : a ≠ fl := ne_of_none ha1 hfl1
    have nfa : a ≠ ll := ne_of_none ha1 hll
    have kb : Keep [p, l] H (upd (upd (upd H1 ll (.lst ((laidN (S.length : Nat) t).map V.int))) p (.ins T.A_Laying dx (lf ((S.length : Nat) + 1) st (z : Nat) (N.length / z : Nat) (firstOf z (N.length / z) (S ++ [N.length])) l))) fl (.lst [])) :=
      keep_new (keep_upd (keep_new k1 nll0) (by simp)) nfl0
    have db : Dom H (upd (upd (upd H1 ll (.lst ((laidN (S.length : Nat) t).map V.int))) p (.ins T.A_Laying dx (lf ((S.length : Nat) + 1) st (z : Nat) (N.length / z : Nat) (firstOf z (N.length / z) (S ++ [N.length])) l))) fl (.lst [])) := ((d1.upd _ _).upd _ _).upd _ _
    have hpb : (upd (upd (upd H1 ll (.lst ((laidN (S.length : Nat) t).map V.int))) p (.ins T.A_Laying dx (lf ((S.length : Nat) + 1) st (z : Nat) (N.length / z : Nat) (firstOf z (N.length / z) (S ++ [N.length])) l))) fl (.lst [])) p = some (.ins T.A_Laying dx (lf ((S ++ [N.length]).length : Nat) st (z : Nat) (N.length / z : Nat) (firstOf z (N.length / z) (S ++ [N.length])) l)) := by
      rw [upd_ne nfp, upd_same, List.length_append]
      rfl
    have hlb : (upd (upd (upd H1 ll (.lst ((laidN (S.length : Nat) t).map V.int))) p (.ins T.A_Laying dx (lf ((S.length : Nat) + 1) st (z : Nat) (N.length / z : Nat) (firstOf z (N.length / z) (S ++ [N.length])) l))) fl (.lst [])) l = some (.lst ((N.drop (N.length / z * z)).map V.int)) := by
      rw [upd_ne nfb, upd_ne npl.symm, upd_ne nlb]
      exact hl1
    have hllb : (upd (upd (upd H1 ll (.lst ((laidN (S.length : Nat) t).map V.int))) p (.ins T.A_Laying dx (lf ((S.length : Nat) + 1) st (z : Nat) (N.length / z : Nat) (firstOf z (N.length / z) (S ++ [N.length])) l))) fl (.lst [])) ll = some (.lst ((laidN (S.length : Nat) t).map V.int)) := by
      rw [upd_ne nfl, upd_ne nlp.symm, upd_same]
    have hflb : (upd (upd (upd H1 ll (.lst ((laidN (S.length : Nat) t).map V.int))) p (.ins T.A_Laying dx (lf ((S.length : Nat) + 1) st (z : Nat) (N.length / z : Nat) (firstOf z (N.length / z) (S ++ [N.length])) l))) fl (.lst [])) fl = some (.lst []) := upd_same
    generalize (upd (upd (upd H1 ll (.lst ((laidN (S.length : Nat) t).map V.int))) p (.ins T.A_Laying dx (lf ((S.length : Nat) + 1) st (z : Nat) (N.length / z : Nat) (firstOf z (N.length / z) (S ++ [N.length])) l))) fl (.lst [])) = Hb at *
    -- the loop
    refine ⟨_, rfl, ll, rfl, ⟨_, SqL.of hllb⟩, ?_⟩
    refine for_list (K := K) (a := ll) (xs := (laidN (S.length : Nat) t).map V.int) (fun i σ H' => ∃ (v : Option V) (l' : Addr) (us : List V), σ = [some (.ref p), some (.ref a), some (.ref ll), some (.ref fl), v] ∧ (l' = l ∨ Hb l' = none) ∧
      LAt T.A_Laying H' p dx l' st z (N ++ (laidN (S.length : Nat) t).take i) (S ++ [N.length]) ∧ H' fl = some (.lst us) ∧ TDs H' us (((frms z (N ++ (laidN (S.length : Nat) t).take i) (S ++ [N.length])).drop (N.length / z)).map (frmD st)) ∧ Keep [p, l, fl] Hb H' ∧ Dom Hb H' ∧ us.length ≤ i) ?_ ?_ ?_ ?_
    · refine ⟨none, l, [], rfl, .inl rfl, ?_, hflb, ?_, Keep.refl _ _, Dom.refl _, Nat.le_refl _⟩
      · rw [List.take_zero, List.append_nil]
        exact ⟨hpb, hlb⟩
      · rw [List.take_zero, List.append_nil, frms_start, List.drop_of_length_le (by rw [frms_length]; exact Nat.le_refl _)]
        exact .nil
    · rintro i σ H' _ ⟨v, l', us, _, _, _, _, _, k, _, _⟩
      exact SqL.of (k _ _ (by simp [nlp.symm, nlb.symm, nfl]) hllb)
    · rintro i y σ H' hi ⟨v, l', us, rfl, hl', ⟨hp', hb'⟩, hf', hu, k, d, hus⟩
      obtain ⟨x, hx, rfl⟩ := map_get hi
      have hi3 : i < t.length + 3 := by rw [← laidN_length (S.length : Nat) t]; exact (List.getElem?_eq_some_iff.mp hx).1
      have npl' : p ≠ l' := ne_of hp' hb' (by intro e; cases e)
      have nfl' : fl ≠ l' := by
        rcases hl' with e | e
        · rw [e]; exact nfb.symm
        · exact ne_of_none hflb e
      have etake : N ++ (laidN (S.length : Nat) t).take (i + 1) = (N ++ (laidN (S.length : Nat) t).take i) ++ [x] := by rw [List.take_add_one, hx, List.append_assoc]; rfl
      have hLi : Laid (N ++ (laidN (S.length : Nat) t).take i) (S ++ [N.length]) := (hL.start).more _
      have hN0 : N.length ≤ (N ++ (laidN (S.length : Nat) t).take i).length := by rw [List.length_append]; exact Nat.le_add_right _ _
      have hS0 : ∀ s ∈ S ++ [N.length], s ≤ N.length := hL.start.le
      rw [etake]
      generalize N ++ (laidN (S.length : Nat) t).take i = Ni at *
      have hbi := body_length z Ni
      -- self._body.append(number)
      refine ⟨_, rfl, p, _, dx, _, _, rfl, hp', T.cl_Laying, T.n_Laying_body, lf_body, .inl ⟨rfl, _, SqL.of hb'⟩, _, rfl, l', _, _, rfl, rfl, hb', lt_line (by rw [List.length_map, hbi]; have := Nat.mod_lt Ni.length hz; omega), ?_⟩
      rw [show (Ni.drop (Ni.length / z * z)).map V.int ++ [V.int x] = (Ni.drop (Ni.length / z * z) ++ [x]).map V.int by rw [List.map_append]; rfl]
      have hp2 : upd H' l' (.lst ((Ni.drop (Ni.length / z * z) ++ [x]).map V.int)) p = some (.ins T.A_Laying dx (lf ((S ++ [N.length]).length : Nat) st (z : Nat) (Ni.length / z : Nat) (firstOf z (Ni.length / z) (S ++ [N.length])) l')) := by rw [upd_ne npl']; exact hp'
      have hf2 : upd H' l' (.lst ((Ni.drop (Ni.length / z * z) ++ [x]).map V.int)) fl = some (.lst us) := by rw [upd_ne nfl']; exact hf'
      have hu2 : TDs (upd H' l' (.lst ((Ni.drop (Ni.length / z * z) ++ [x]).map V.int))) us (((frms z Ni (S ++ [N.length])).drop (N.length / z)).map (frmD st)) := hu.mono (ts_upd (TSm.refl _) (NoT.lst hb'))
      have k2 : Keep [p, l, fl] Hb (upd H' l' (.lst ((Ni.drop (Ni.length / z * z) ++ [x]).map V.int))) := by
        rcases hl' with e | e
        · exact keep_upd k (by simp [e])
        · exact keep_mut k e
      have d2 : Dom Hb (upd H' l' (.lst ((Ni.drop (Ni.length / z * z) ++ [x]).map V.int))) := d.upd _ _
      have hb2 : upd H' l' (.lst ((Ni.drop (Ni.length / z * z) ++ [x]).map V.int)) l' = some (.lst ((Ni.drop (Ni.length / z * z) ++ [x]).map V.int)) := upd_same
      generalize upd H' l' (.lst ((Ni.drop (Ni.length / z * z) ++ [x]).map V.int)) = H2 at *
      -- if len(self._body) == self._size
      refine ⟨_, rfl, p, _, dx, _, _, rfl, hp2, T.cl_Laying, T.n_Laying_body, lf_body, l', _, rfl, .inl (SqL.of hb2), _, rfl, p, _, dx, _, _, rfl, hp2, T.cl_Laying, T.n_Laying_size, lf_size, rfl, _, rfl, ?_⟩
      have hlen : ((Ni.drop (Ni.length / z * z) ++ [x]).map V.int).length = Ni.length % z + 1 := by rw [List.length_map, List.length_append, hbi]; rfl
      refine ite2 (fun e => ?_) (fun e => ?_)
      · have e0 : Ni.length % z + 1 = z := by
          have := of_decide_eq_true e
          rw [hlen] at this
          injection this with this
          exact Int.ofNat.inj this
        obtain ⟨g1, g2, g3⟩ := step_full hz e0 (x := x)
        -- full.append(self._done())
        refine ⟨_, rfl, .inl ⟨rfl, _, SqL.of hf2⟩, _, rfl, p, dx, _, rfl, hp2, lf_no (by decide +kernel), p, dx, l', _, _, _, _, _, _, rfl, hp2, hb2, fun f H3 l3 tf hp3 hl3 nl3 nf3 k3 => ?_⟩
        have npf2 : fl ≠ p := nfp.symm
        have hf3 : H3 fl = some (.lst us) := k3 _ _ (by simp [npf2]) hf2
        have ts3 : TSm H2 H3 := k3.ts (fun m hm => by rw [List.mem_singleton.mp hm]; exact NoT.ins hp2)
        have hu3 := hu2.mono ts3
        refine ⟨fl, us, _, rfl, rfl, hf3, ?_, ?_⟩
        · exact lt_line (by omega)
        · refine ⟨some (.int x), l3, us ++ [.ref f], rfl, .inr (d2 _ nl3), ⟨?_, ?_⟩, upd_same, ?_, ?_, (d2.trans (Dom.of_keep k3 (by intro m hm; rw [List.mem_singleton.mp hm]; exact ⟨_, hp3⟩))).upd _ _, by rw [List.length_append]; exact Nat.succ_le_succ hus⟩
          · rw [upd_ne nfp, g2, firstOf_none (fun s hs => by have := hS0 s hs; rw [Nat.succ_mul]; omega)]
            exact hp3
          · have n3f : l3 ≠ fl := (ne_of_none hf2 nl3).symm
            rw [upd_ne n3f, g2, g3]
            exact hl3
          · rw [frms_full hz (by rw [List.length_singleton]; exact g1), List.drop_append_of_le_length (by rw [frms_length]; exact Nat.div_le_div_right hN0), List.map_append]
            exact (hu3.app (.one tf)).mono (ts_upd (TSm.refl _) (NoT.lst hf3))
          · exact keep_upd (k2.trans (k3.mono (by simp))) (by simp)
      · have e0 : Ni.length % z + 1 ≠ z := fun z1 => e (decide_eq_true (by rw [hlen, z1]))
        obtain ⟨g1, g2, g3⟩ := step_not hz e0 (x := x)
        refine ⟨some (.int x), l', us, rfl, hl', ⟨?_, ?_⟩, hf2, ?_, k2, d2, Nat.le_succ_of_le hus⟩
        · rw [g2]; exact hp2
        · rw [g2, g3]; exact hb2
        · rw [frms_same hz (by rw [List.length_singleton]; exact g1)]; exact hu2
    · rintro σ H' ⟨v, l', us, rfl, hl', hA, hf', hu, k, d, _⟩
      rw [List.take_of_length_le (by rw [List.length_map]; exact Nat.le_refl _)] at hA hu
      refine ⟨_, rfl, q fl us H' l' hf' hu hA ?_ nfl0 (kb.join k (by simp [nfl0])) (db.trans d)⟩
      rcases hl' with e | e
      · exact .inl e
      · exact .inr (db _ e)
end
end K10

namespace K10
open PySem PySem.Spec PyProof.Rows L2 Sky
/-! ### dicts by marks, in lists -/
def mkK (m : Nat × Nat) : List Key := [Sum.inl ((m.1 : Nat) : Int), Sum.inl ((m.2 : Nat) : Int)]
theorem mkK_inj {a b : Nat × Nat} : mkK a = mkK b ↔ a = b := by
  constructor
  · intro h
    unfold mkK at h
    injection h with h1 h2
    injection h2 with h2 _
    injection h1 with h1
    injection h2 with h2
    exact Prod.ext (by omega) (by omega)
  · intro h; rw [h]
def keysD {α : Type} (f : α → Nat × Nat) (g : α → V) (l : List α) : List (List Key × V) := l.map fun x => (mkK (f x), g x)
section
variable {α : Type} {f : α → Nat × Nat} {g : α → V}
theorem val_some {l : List α} {x : α} (nd : (l.map f).Nodup) (h : x ∈ l) : valV (keysD f g l) (mkK (f x)) = some (g x) := by
  induction l with
  | nil => cases h
  | cons y l ih =>
    rw [List.map_cons, List.nodup_cons] at nd
    by_cases e : f y = f x
    · rcases List.mem_cons.mp h with z | z
      · subst z
        exact valV_pos rfl
      · exact absurd (List.mem_map.mpr ⟨x, z, e.symm⟩) nd.1
    · rcases List.mem_cons.mp h with z | z
      · subst z; exact absurd rfl e
      · unfold keysD
        rw [List.map_cons, valV_neg (fun q => e (mkK_inj.mp q))]
        exact ih nd.2 z
theorem val_none {l : List α} {m : Nat × Nat} (h : m ∉ l.map f) : valV (keysD f g l) (mkK m) = none := by
  induction l with
  | nil => rfl
  | cons y l ih =>
    rw [List.map_cons, List.mem_cons, not_or] at h
    unfold keysD
    rw [List.map_cons, valV_neg (fun q => h.1 (mkK_inj.mp q).symm)]
    exact ih h.2
theorem val_isSome {l : List α} {m : Nat × Nat} : (valV (keysD f g l) (mkK m)).isSome = decide (m ∈ l.map f) := by
  by_cases h : m ∈ l.map f
  · rw [decide_eq_true h]
    induction l with
    | nil => cases h
    | cons y l ih =>
      unfold keysD
      rw [List.map_cons]
      by_cases e : f y = m
      · rw [valV_pos (mkK_inj.mpr e)]; rfl
      · rw [valV_neg (fun q => e (mkK_inj.mp q))]
        rw [List.map_cons, List.mem_cons] at h
        rcases h with z | z
        · exact absurd z.symm e
        · exact ih z
  · rw [val_none h, decide_eq_false h]; rfl
theorem drop_keys {l : List α} {m : Nat × Nat} : dropK (keysD f g l) (mkK m) = keysD f g (l.filter fun x => decide (f x ≠ m)) := by
  unfold dropK keysD
  rw [List.filter_map]
  congr 1
  refine List.filter_congr fun x _ => ?_
  show decide (mkK (f x) ≠ mkK m) = decide (f x ≠ m)
  exact decide_eq_decide.mpr (not_congr mkK_inj)
theorem put_new {l : List α} {m : Nat × Nat} {v : V} (h : m ∉ l.map f) : putK (keysD f g l) (mkK m) v = keysD f g l ++ [(mkK m, v)] := putK_new _ (val_none h)
theorem keysD_len (l : List α) : (keysD f g l).length = l.length := by unfold keysD; rw [List.length_map]
end
def trueD (l : List (Nat × Nat)) : List (List Key × V) := keysD id (fun _ => .bl true) l
theorem true_in {l : List (Nat × Nat)} {m : Nat × Nat} : (valV (trueD l) (mkK m)).isSome = decide (m ∈ l) := by
  unfold trueD
  rw [val_isSome, List.map_id]
theorem true_drop {l : List (Nat × Nat)} {m : Nat × Nat} : dropK (trueD l) (mkK m) = trueD (l.filter fun x => decide (x ≠ m)) := drop_keys
theorem true_put {l : List (Nat × Nat)} {m : Nat × Nat} : putK (trueD l) (mkK m) (.bl true) = trueD (if m ∈ l then l else l ++ [m]) := by
  by_cases h : m ∈ l
  · rw [if_pos h]
    unfold putK
    rw [if_pos (by rw [valV_any, true_in]; exact decide_eq_true h)]
    unfold trueD keysD
    rw [List.map_map]
    refine List.map_congr_left fun x _ => ?_
    show (if mkK x = mkK m then (mkK x, V.bl true) else (mkK x, V.bl true)) = _
    split <;> rfl
  · rw [if_neg h]
    unfold trueD
    rw [put_new (by rw [List.map_id]; exact h)]
    unfold keysD
    rw [List.map_append]
    rfl
theorem trueD_len (l : List (Nat × Nat)) : (trueD l).length = l.length := keysD_len l
/-! ### a craft, in numbers -/
def mkOf (x : Nat × Frm) : Nat × Nat := (x.1, x.2.1)
structure Cr where
  q : List (Nat × Frm)
  sent : List (Nat × Nat)
  asked : List (Nat × Nat)
  gone : List (Nat × Nat)
  win : Bool
def Cr.marks (m : Cr) : List (Nat × Nat) := m.q.map mkOf
def Cr.new : Cr := ⟨[], [], [], [], false⟩
def Cr.letGo (m : Cr) (k : Nat × Nat) : Cr := { m with q := m.q.filter (fun x => decide (mkOf x ≠ k)), sent := m.sent.filter (fun j => decide (j ≠ k)), asked := m.asked.filter (fun j => decide (j ≠ k)) }
def Cr.old (m : Cr) : List (Nat × Nat) := m.marks.filter fun k => decide (k ∈ m.sent)
def Cr.fresh (m : Cr) : List (Nat × Nat) := m.marks.filter fun k => !decide (k ∈ m.sent)
def Cr.makeRoom (m : Cr) : Cr := match m.old with
  | k :: _ => m.letGo k
  | [] => match m.marks with
    | k :: _ => { m.letGo k with gone := m.gone ++ [k] }
    | [] => m
def Cr.put (m : Cr) (x : Nat × Frm) : Cr := { m with q := m.q ++ [x] }
def Cr.keep (room : Nat) (m : Cr) (x : Nat × Frm) : Cr := if m.q.length = room then m.makeRoom.put x else m.put x
def Cr.next (m : Cr) : Option (Nat × Nat) := (m.asked ++ m.fresh).head?
def Cr.sends (m : Cr) (k : Nat × Nat) : Cr := { m with asked := m.asked.filter (fun j => decide (j ≠ k)), sent := if k ∈ m.sent then m.sent else m.sent ++ [k] }
def Cr.knows (m : Cr) (ks : List (Nat × Nat)) : Cr := ks.foldl (fun m k => if k ∈ m.marks then m.letGo k else m) m
structure Cr.Ok (room : Nat) (m : Cr) : Prop where
  nd : m.marks.Nodup
  few : m.q.length ≤ room
  sn : m.sent.Nodup
  ss : ∀ k ∈ m.sent, k ∈ m.marks
  an : m.asked.Nodup
  as : ∀ k ∈ m.asked, k ∈ m.marks
theorem letGo_marks (m : Cr) (k : Nat × Nat) : (m.letGo k).marks = m.marks.filter fun j => decide (j ≠ k) := by
  unfold Cr.marks Cr.letGo
  rw [List.filter_map]
  rfl
theorem Cr.Ok.letGo {room : Nat} {m : Cr} (h : m.Ok room) (k : Nat × Nat) : (m.letGo k).Ok room := by
  refine ⟨?_, Nat.le_trans (List.length_filter_le _ _) h.few, List.Nodup.sublist List.filter_sublist h.sn, fun j hj => ?_, List.Nodup.sublist List.filter_sublist h.an, fun j hj => ?_⟩
  · rw [letGo_marks]; exact List.Nodup.sublist List.filter_sublist h.nd
  · rw [letGo_marks]
    have := List.mem_filter.mp hj
    exact List.mem_filter.mpr ⟨h.ss j this.1, this.2⟩
  · rw [letGo_marks]
    have := List.mem_filter.mp hj
    exact List.mem_filter.mpr ⟨h.as j this.1, this.2⟩
theorem filter_less {l : List (Nat × Frm)} {k : Nat × Nat} (h : k ∈ l.map mkOf) : (l.filter fun x => decide (mkOf x ≠ k)).length < l.length := by
  induction l with
  | nil => cases h
  | cons x l ih =>
    by_cases e : mkOf x = k
    · rw [List.filter_cons_of_neg (by simpa using e)]
      have := List.length_filter_le (fun x => decide (mkOf x ≠ k)) l
      rw [List.length_cons]
      omega
    · rw [List.filter_cons_of_pos (by simpa using e), List.length_cons, List.length_cons]
      rw [List.map_cons, List.mem_cons] at h
      rcases h with z | z
      · exact absurd z.symm e
      · have := ih z
        omega
theorem makeRoom_gone_le (m : Cr) : m.makeRoom.gone.length ≤ m.gone.length + 1 := by
  unfold Cr.makeRoom
  split
  · exact Nat.le_succ _
  · split
    · show (m.gone ++ _).length ≤ _
      rw [List.length_append]
      exact Nat.le_refl _
    · exact Nat.le_succ _
theorem Cr.Ok.room {room : Nat} {m : Cr} (h : m.Ok room) (ne : m.q ≠ []) : m.makeRoom.Ok room ∧ m.makeRoom.q.length < room ∧ (∀ k ∈ m.makeRoom.marks, k ∈ m.marks) ∧ m.makeRoom.win = m.win := by
  have hm : m.marks ≠ [] := by unfold Cr.marks; simpa using ne
  have hl := h.few
  have go : ∀ k ∈ m.marks, (m.letGo k).Ok room ∧ (m.letGo k).q.length < room ∧ (∀ j ∈ (m.letGo k).marks, j ∈ m.marks) := fun k hk => by
    refine ⟨h.letGo k, ?_, fun j hj => ?_⟩
    · have := filter_less (l := m.q) hk
      show (m.q.filter _).length < room
      omega
    · rw [letGo_marks] at hj
      exact (List.mem_filter.mp hj).1
  unfold Cr.makeRoom
  split
  · rename_i k r e
    have hk : k ∈ m.marks := (List.mem_filter.mp (show k ∈ m.old by rw [e]; exact List.mem_cons_self)).1
    obtain ⟨h1, h2, h3⟩ := go k hk
    exact ⟨h1, h2, h3, rfl⟩
  · split
    · rename_i k r e
      have hk : k ∈ m.marks := by rw [e]; exact List.mem_cons_self
      obtain ⟨h1, h2, h3⟩ := go k hk
      exact ⟨⟨h1.nd, h1.few, h1.sn, h1.ss, h1.an, h1.as⟩, h2, h3, rfl⟩
    · rename_i e
      exact absurd e hm
theorem Cr.Ok.put {room : Nat} {m : Cr} (h : m.Ok room) {x : Nat × Frm} (new : mkOf x ∉ m.marks) (less : m.q.length < room) : (m.put x).Ok room := by
  have e : (m.put x).marks = m.marks ++ [mkOf x] := by
    unfold Cr.marks Cr.put
    rw [List.map_append]
    rfl
  refine ⟨?_, ?_, h.sn, fun k hk => ?_, h.an, fun k hk => ?_⟩
  · rw [e, List.nodup_append]
    refine ⟨h.nd, by simp, fun a ha b hb => ?_⟩
    rw [List.mem_singleton.mp hb]
    exact fun z => new (by rw [← z]; exact ha)
  · show (m.q ++ [x]).length ≤ room
    rw [List.length_append, List.length_singleton]
    omega
  · rw [e]; exact List.mem_append_left _ (h.ss k hk)
  · rw [e]; exact List.mem_append_left _ (h.as k hk)
theorem Cr.Ok.sends {room : Nat} {m : Cr} (h : m.Ok room) {k : Nat × Nat} (hk : k ∈ m.marks) : (m.sends k).Ok room := by
  refine ⟨h.nd, h.few, ?_, fun j hj => ?_, List.Nodup.sublist List.filter_sublist h.an, fun j hj => h.as j (List.mem_filter.mp hj).1⟩
  · show (if k ∈ m.sent then m.sent else m.sent ++ [k]).Nodup
    split
    · exact h.sn
    · rename_i z
      rw [List.nodup_append]
      refine ⟨h.sn, by simp, fun a ha b hb => ?_⟩
      rw [List.mem_singleton.mp hb]
      exact fun e => z (by rw [← e]; exact ha)
  · have hj : j ∈ (if k ∈ m.sent then m.sent else m.sent ++ [k]) := hj
    split at hj
    · exact h.ss j hj
    · rcases List.mem_append.mp hj with z | z
      · exact h.ss j z
      · rw [List.mem_singleton.mp z]; exact hk
theorem Cr.Ok.lens {room : Nat} {m : Cr} (h : m.Ok room) : m.sent.length ≤ room ∧ m.asked.length ≤ room := by
  have hq : m.marks.length = m.q.length := List.length_map _
  have h1 := len_of_sub h.sn h.ss
  have h2 := len_of_sub h.an h.as
  have h3 := h.few
  omega
theorem Cr.Ok.next {room : Nat} {m : Cr} (h : m.Ok room) {k : Nat × Nat} (e : m.next = some k) : k ∈ m.marks := by
  rcases List.mem_append.mp (List.mem_of_head? e) with z | z
  · exact h.as k z
  · exact (List.mem_filter.mp z).1
theorem Cr.Ok.new (room : Nat) : Cr.new.Ok room := ⟨List.nodup_nil, Nat.zero_le _, List.nodup_nil, (by intro k hk; exact absurd hk List.not_mem_nil), List.nodup_nil, (by intro k hk; exact absurd hk List.not_mem_nil)⟩
/-! ### the object -/
def mD2 (k : Nat × Nat) : PyData := mkD k.1 k.2
def CF : List Str := ["_room", "_layings", "_window", "_frames", "_sent", "_asked", "_gone"]
theorem CF_nd : CF.Nodup := by decide +kernel
structure Ca where
  c : Addr
  dx : Addr
  la : Addr
  fr : Addr
  se : Addr
  ak : Addr
  go : Addr
def cf (room : Nat) (w : Bool) (A : Ca) : List (Str × V) := CF.zip [.int (room : Nat), .ref A.la, .bl w, .ref A.fr, .ref A.se, .ref A.ak, .ref A.go]
section
variable {room : Nat} {w : Bool} {A : Ca}
theorem cf_room : (cf room w A).lookup ("_room" : Str) = some (.int (room : Nat)) := lookup_zip CF _ 0 _ CF_nd rfl rfl
theorem cf_layings : (cf room w A).lookup ("_layings" : Str) = some (.ref A.la) := lookup_zip CF _ 1 _ CF_nd rfl rfl
theorem cf_window : (cf room w A).lookup ("_window" : Str) = some (.bl w) := lookup_zip CF _ 2 _ CF_nd rfl rfl
theorem cf_frames : (cf room w A).lookup ("_frames" : Str) = some (.ref A.fr) := lookup_zip CF _ 3 _ CF_nd rfl rfl
theorem cf_sent : (cf room w A).lookup ("_sent" : Str) = some (.ref A.se) := lookup_zip CF _ 4 _ CF_nd rfl rfl
theorem cf_asked : (cf room w A).lookup ("_asked" : Str) = some (.ref A.ak) := lookup_zip CF _ 5 _ CF_nd rfl rfl
theorem cf_gone : (cf room w A).lookup ("_gone" : Str) = some (.ref A.go) := lookup_zip CF _ 6 _ CF_nd rfl rfl
theorem cf_no {f : Str} (h : f ∉ CF) : (cf room w A).lookup f = none := lookup_zip_none CF _ _ h
theorem cf_few : (cf room w A).length < 1000 := Nat.lt_of_le_of_lt (zip_len CF _) (by decide)
theorem cf_put {b : Bool} : putF "_window" (.bl b) (cf room w A) = cf room b A := putF_zip CF _ 2 _ _ CF_nd rfl rfl
end
abbrev KF := (Nat × Frm) × V
def framesD (qv : List KF) : List (List Key × V) := keysD (fun x : KF => mkOf x.1) (fun x => x.2) qv
/-- a craft stands -/
structure CAt (C CL : Addr) (H : Hp) (A : Ca) (ps : List (Addr × Addr × Addr)) (room z : Nat) (ns : List (List Int × List Nat)) (m : Cr) (qv : List KF) (gs : List V) : Prop where
  o : H A.c = some (.ins C A.dx (cf room m.win A))
  la : H A.la = some (.lst (ps.map fun p => V.ref p.1))
  pl : ps.length = 4
  nl : ns.length = 4
  lay : ∀ (i : Nat) (p : Addr × Addr × Addr) (n : List Int × List Nat), ps[i]? = some p → ns[i]? = some n → LAt CL H p.1 p.2.1 p.2.2 ((i : Nat) : Int) z n.1 n.2 ∧ Laid n.1 n.2
  fr : H A.fr = some (.dT (framesD qv))
  qe : qv.map (·.1) = m.q
  ft : ∀ x ∈ qv, TD H x.2 (frmD ((x.1.1 : Nat) : Int) x.1.2)
  se : H A.se = some (.dT (trueD m.sent))
  ak : H A.ak = some (.dT (trueD m.asked))
  go : H A.go = some (.lst gs)
  gt : TDs H gs (m.gone.map mD2)
  ok : m.Ok room
  r60 : 1 ≤ room ∧ room ≤ 60
  d1 : A.fr ≠ A.se
  d2 : A.fr ≠ A.ak
  d3 : A.se ≠ A.ak
  d4 : A.la ≠ A.go
  pc : ∀ p ∈ ps, p.1 ≠ A.c ∧ p.2.2 ≠ A.la ∧ p.2.2 ≠ A.go
  pd : (ps.map (·.1)).Nodup
  ld : (ps.map (·.2.2)).Nodup
/-- all that may change -/
def cM (A : Ca) (ps : List (Addr × Addr × Addr)) : List Addr := [A.c, A.la, A.fr, A.se, A.ak, A.go] ++ ps.map (·.1) ++ ps.map (·.2.2)
section
variable {C CL : Addr} {H H' : Hp} {A : Ca} {ps : List (Addr × Addr × Addr)} {room z : Nat} {ns : List (List Int × List Nat)} {m : Cr} {qv : List KF} {gs : List V}
theorem CAt.marksq (h : CAt C CL H A ps room z ns m qv gs) : qv.map (fun x : KF => mkOf x.1) = m.marks := by
  unfold Cr.marks
  rw [← h.qe, List.map_map]
  rfl
theorem CAt.qlen (h : CAt C CL H A ps room z ns m qv gs) : qv.length = m.q.length := by rw [← h.qe, List.length_map]
theorem CAt.nec (h : CAt C CL H A ps room z ns m qv gs) : A.c ≠ A.fr ∧ A.c ≠ A.se ∧ A.c ≠ A.ak ∧ A.c ≠ A.go ∧ A.c ≠ A.la :=
  ⟨ne_of h.o h.fr (by intro e; cases e), ne_of h.o h.se (by intro e; cases e), ne_of h.o h.ak (by intro e; cases e), ne_of h.o h.go (by intro e; cases e), ne_of h.o h.la (by intro e; cases e)⟩
theorem CAt.neg (h : CAt C CL H A ps room z ns m qv gs) : A.go ≠ A.fr ∧ A.go ≠ A.se ∧ A.go ≠ A.ak :=
  ⟨ne_of h.go h.fr (by intro e; cases e), ne_of h.go h.se (by intro e; cases e), ne_of h.go h.ak (by intro e; cases e)⟩
theorem CAt.nel (h : CAt C CL H A ps room z ns m qv gs) : A.la ≠ A.fr ∧ A.la ≠ A.se ∧ A.la ≠ A.ak :=
  ⟨ne_of h.la h.fr (by intro e; cases e), ne_of h.la h.se (by intro e; cases e), ne_of h.la h.ak (by intro e; cases e)⟩
theorem CAt.lays (h : CAt C CL H A ps room z ns m qv gs) {p : Addr × Addr × Addr} (hp : p ∈ ps) : ∃ (C' dx : Addr) (f : List (Str × V)) (xs : List V), H p.1 = some (.ins C' dx f) ∧ H p.2.2 = some (.lst xs) := by
  obtain ⟨i, hi⟩ := List.getElem?_of_mem hp
  have hl := (List.getElem?_eq_some_iff.mp hi).1
  have hn : i < ns.length := by rw [h.nl, ← h.pl]; exact hl
  obtain ⟨⟨h1, h2⟩, _⟩ := h.lay i p ns[i] hi (List.getElem?_eq_getElem hn)
  exact ⟨_, _, _, _, h1, h2⟩
/-- the dicts and the list of the lost ones change -/
theorem CAt.step (h : CAt C CL H A ps room z ns m qv gs) (k : Keep [A.fr, A.se, A.ak, A.go] H H') {m' : Cr} {qv' : List KF} {gs' : List V} (hw : m'.win = m.win) (hok : m'.Ok room) (hq : qv'.map (·.1) = m'.q) (e1 : H' A.fr = some (.dT (framesD qv'))) (e2 : H' A.se = some (.dT (trueD m'.sent))) (e3 : H' A.ak = some (.dT (trueD m'.asked)))
    (e4 : H' A.go = some (.lst gs')) (t1 : ∀ x ∈ qv', TD H' x.2 (frmD ((x.1.1 : Nat) : Int) x.1.2)) (t2 : TDs H' gs' (m'.gone.map mD2)) : CAt C CL H' A ps room z ns m' qv' gs' := by
  obtain ⟨c1, c2, c3, c4, c5⟩ := h.nec
  obtain ⟨l1, l2, l3⟩ := h.nel
  refine ⟨by rw [hw]; exact k _ _ (by simp [c1, c2, c3, c4]) h.o, k _ _ (by simp [l1, l2, l3, h.d4]) h.la, h.pl, h.nl, fun i p n hp hn => ?_, e1, hq, t1, e2, e3, e4, t2, hok, h.r60, h.d1, h.d2, h.d3, h.d4, h.pc, h.pd, h.ld⟩
  obtain ⟨⟨h1, h2⟩, h3⟩ := h.lay i p n hp hn
  have hpc := h.pc p (List.mem_of_getElem? hp)
  refine ⟨⟨k _ _ ?_ h1, k _ _ ?_ h2⟩, h3⟩
  · simp [ne_of h1 h.fr (by intro e; cases e), ne_of h1 h.se (by intro e; cases e), ne_of h1 h.ak (by intro e; cases e), ne_of h1 h.go (by intro e; cases e)]
  · simp [ne_of h2 h.fr (by intro e; cases e), ne_of h2 h.se (by intro e; cases e), ne_of h2 h.ak (by intro e; cases e), hpc.2.2]
/-- something else changes -/
theorem CAt.else (h : CAt C CL H A ps room z ns m qv gs) {N : List Addr} (k : Keep N H H') (ts : TSm H H') (n : ∀ a ∈ cM A ps, a ∉ N) : CAt C CL H' A ps room z ns m qv gs := by
  have g : ∀ a, a ∈ cM A ps → ∀ o, H a = some o → H' a = some o := fun a ha o e => k a o (n a ha) e
  refine ⟨g _ (by simp [cM]) _ h.o, g _ (by simp [cM]) _ h.la, h.pl, h.nl, fun i p q hp hq => ?_, g _ (by simp [cM]) _ h.fr, h.qe, fun x hx => (h.ft x hx).mono ts, g _ (by simp [cM]) _ h.se, g _ (by simp [cM]) _ h.ak, g _ (by simp [cM]) _ h.go, h.gt.mono ts, h.ok, h.r60, h.d1, h.d2, h.d3, h.d4, h.pc, h.pd, h.ld⟩
  obtain ⟨⟨h1, h2⟩, h3⟩ := h.lay i p q hp hq
  have hm := List.mem_of_getElem? hp
  exact ⟨⟨g _ (List.mem_append_left _ (List.mem_append_right _ (List.mem_map.mpr ⟨p, hm, rfl⟩))) _ h1, g _ (List.mem_append_right _ (List.mem_map.mpr ⟨p, hm, rfl⟩)) _ h2⟩, h3⟩
theorem CAt.same (h : CAt C CL H A ps room z ns m qv gs) (s : Same H H') : CAt C CL H' A ps room z ns m qv gs := h.else (Keep.of_same (M := []) s) (TSm.of_same s) (by simp)
theorem CAt.noT4 (h : CAt C CL H A ps room z ns m qv gs) : ∀ a ∈ [A.fr, A.se, A.ak, A.go], NoT H a := by
  intro a ha
  simp only [List.mem_cons, List.not_mem_nil, or_false] at ha
  rcases ha with e | e | e | e
  · rw [e]; exact NoT.dT h.fr
  · rw [e]; exact NoT.dT h.se
  · rw [e]; exact NoT.dT h.ak
  · rw [e]; exact NoT.lst h.go
end
end K10

namespace K10
open PySem PySem.Spec PyProof.Rows L2 Sky
section
variable {P : Program} {w : World} {K : PySem.W.Frag} {mg : Str → Option Value} {base : Heap}
/-! ### _let_go -/
def sp_let_go (C CL : Addr) : Sp := fun vs H Q _ => ∃ (A : Ca) (ps : List (Addr × Addr × Addr)) (room z : Nat) (ns : List (List Int × List Nat)) (m : Cr) (qv : List KF) (gs : List V) (b : Addr) (k : Nat × Nat), vs = [.ref A.c, .ref b] ∧ CAt C CL H A ps room z ns m qv gs ∧
  H b = some (.tup [.int ((k.1 : Nat) : Int), .int ((k.2 : Nat) : Int)]) ∧ k ∈ m.marks ∧ ∀ H' qv', CAt C CL H' A ps room z ns (m.letGo k) qv' gs → Keep [A.fr, A.se, A.ak] H H' → Dom H H' → Q .non H'
theorem ok_Craft_let_go (T : Tx K mg) : FnOk P w K mg base CX0 1 T.a_Craft_let_go T.d_Craft_let_go ["self", "mark"] (sp_let_go T.A_Craft T.A_Laying) := by
  have nd := sc_Craft_let_go.nd
  refine T.F_Craft_let_go.ok sc_Craft_let_go (fun vs H Q E h => ?_) (fun cdv A0 outer s H vs Q E hr h => ?_)
  · obtain ⟨_, _, _, _, _, _, _, _, _, _, rfl, _⟩ := h
    rfl
  · obtain ⟨A, ps, room, z, ns, m, qv, gs, b, k, rfl, hC, hb, hk, fin⟩ := h
    obtain ⟨c1, c2, c3, c4, c5⟩ := hC.nec
    have b1 : b ≠ A.fr := ne_of hb hC.fr (by intro e; cases e)
    have b2 : b ≠ A.se := ne_of hb hC.se (by intro e; cases e)
    have b3 : b ≠ A.ak := ne_of hb hC.ak (by intro e; cases e)
    refine ⟨_, (pss_cons (ps_ddelT (hu_of hr) (pe_fld (pv 0) rfl) (pv 1)) (pss_cons (ps_expr (pe_bm PySem.F.plainAttrs_dict PySem.F.slot_dict_pop PySem.F.type_dict_pop (mt_popW (hu_of hr)) (pe_fld (pv 0) rfl) (pa_cons (pv 1) (pa_cons pe_non pa_nil)))) (pss_one (ps_expr (pe_bm PySem.F.plainAttrs_dict PySem.F.slot_dict_pop PySem.F.type_dict_pop (mt_popW (hu_of hr)) (pe_fld (pv 0) rfl) (pa_cons (pv 1) (pa_cons pe_non pa_nil))))))), ?_⟩
    refine ⟨_, rfl, A.c, _, A.dx, _, _, rfl, hC.o, T.cl_Craft, T.n_Craft_frames, cf_frames, _, rfl, A.fr, b, framesD qv, mkK k, rfl, rfl, hC.fr, hb, ?_, ?_⟩
    · unfold framesD
      rw [val_isSome, hC.marksq]
      exact decide_eq_true hk
    have e1 : dropK (framesD qv) (mkK k) = framesD (qv.filter fun x => decide (mkOf x.1 ≠ k)) := drop_keys
    rw [e1]
    have k1 : Keep [A.fr, A.se, A.ak] H (upd H A.fr (.dT (framesD (qv.filter fun x => decide (mkOf x.1 ≠ k))))) := keep_upd (Keep.refl _ _) (by simp)
    have D1 : Dom H (upd H A.fr (.dT (framesD (qv.filter fun x => decide (mkOf x.1 ≠ k))))) := dom_upd _ _ _
    have f1 : upd H A.fr (.dT (framesD (qv.filter fun x => decide (mkOf x.1 ≠ k)))) A.fr = some (.dT (framesD (qv.filter fun x => decide (mkOf x.1 ≠ k)))) := upd_same
    have s1 : upd H A.fr (.dT (framesD (qv.filter fun x => decide (mkOf x.1 ≠ k)))) A.se = some (.dT (trueD m.sent)) := by rw [upd_ne hC.d1.symm]; exact hC.se
    have a1 : upd H A.fr (.dT (framesD (qv.filter fun x => decide (mkOf x.1 ≠ k)))) A.ak = some (.dT (trueD m.asked)) := by rw [upd_ne hC.d2.symm]; exact hC.ak
    generalize upd H A.fr (.dT (framesD (qv.filter fun x => decide (mkOf x.1 ≠ k)))) = H1 at *
    have g1 : ∀ x o, x ∉ [A.fr, A.se, A.ak] → H x = some o → H1 x = some o := fun x o n e => k1 x o n e
    refine ⟨_, rfl, A.c, _, A.dx, _, _, rfl, g1 _ _ (by simp [c1, c2, c3]) hC.o, T.cl_Craft, T.n_Craft_sent, cf_sent, .inr (.inr (.inl ⟨rfl, .inr ⟨_, s1⟩⟩)), _, rfl, ?_⟩
    refine ⟨A.se, _, mkK k, b, _, rfl, rfl, s1, g1 _ _ (by simp [b1, b2, b3]) hb, fun _ H2 s2 k2 D2 => ?_⟩
    rw [true_drop] at s2
    have f2 := k2 _ _ (by simp [hC.d1]) f1
    have a2 := k2 _ _ (by simp [hC.d3.symm]) a1
    have k12 : Keep [A.fr, A.se, A.ak] H H2 := k1.trans (k2.mono (by simp))
    refine ⟨_, rfl, A.c, _, A.dx, _, _, rfl, k12 _ _ (by simp [c1, c2, c3]) hC.o, T.cl_Craft, T.n_Craft_asked, cf_asked, .inr (.inr (.inl ⟨rfl, .inr ⟨_, a2⟩⟩)), _, rfl, ?_⟩
    refine ⟨A.ak, _, mkK k, b, _, rfl, rfl, a2, k12 _ _ (by simp [b1, b2, b3]) hb, fun _ H3 a3 k3 D3 => ?_⟩
    rw [true_drop] at a3
    have f3 := k3 _ _ (by simp [hC.d2]) f2
    have s3 := k3 _ _ (by simp [hC.d3]) s2
    have k13 : Keep [A.fr, A.se, A.ak] H H3 := k12.trans (k3.mono (by simp))
    have k13' : Keep [A.fr, A.se, A.ak, A.go] H H3 := k13.mono fun x hx => List.mem_append_left [A.go] hx
    have ts := k13'.ts hC.noT4
    obtain ⟨n1, n2, n3⟩ := hC.neg
    refine fin H3 _ (hC.step k13' (m' := m.letGo k) rfl (hC.ok.letGo k) ?_ f3 s3 a3 (k13 _ _ (by simp [n1, n2, n3]) hC.go) (fun x hx => ?_) (hC.gt.mono ts)) k13 ((D1.trans D2).trans D3)
    · show _ = m.q.filter _
      rw [← hC.qe, List.filter_map]
      rfl
    · exact (hC.ft x (List.mem_filter.mp hx).1).mono ts
/-! ### _make_room -/
theorem mark_key {x : List Key} {l : List KF} {v : V} {i : Nat} (h : (framesD l)[i]? = some (x, v)) : ∃ y, l[i]? = some y ∧ x = mkK (mkOf y.1) ∧ v = y.2 := by
  unfold framesD keysD at h
  obtain ⟨y, hy, e⟩ := map_get h
  injection e with e1 e2
  exact ⟨y, hy, e1, e2⟩
/-- the marks of a dict, told as a list, those that pass -/
theorem walked {α : Type} {l : List α} {p : α → Bool} {i : Nat} {x : α} (h : l[i]? = some x) : (l.take (i + 1)).filter p = (l.take i).filter p ++ (if p x = true then [x] else []) := by
  rw [List.take_add_one, h, Option.toList_some, List.filter_append]
  congr 1
  by_cases c : p x = true
  · rw [if_pos c, List.filter_cons_of_pos c]; rfl
  · rw [if_neg c, List.filter_cons_of_neg c]; rfl
theorem td_key {H : Hp} {q : Addr} {k : Nat × Nat} (h : H q = some (.tup ((mkK k).map kV))) : TD H (.ref q) (mD2 k) := .tup h (.cons (.int _) (.cons (.int _) .nil))
theorem key_td {H : Hp} {v : V} {k : Nat × Nat} (h : TD H v (mD2 k)) : ∃ q, v = .ref q ∧ H q = some (.tup [.int ((k.1 : Nat) : Int), .int ((k.2 : Nat) : Int)]) := td_mk h
theorem keys_td {H : Hp} {l : List KF} {bs : List Addr} (h : IsKeys H (framesD l) bs) : TDs H (bs.map V.ref) ((l.map fun x : KF => mkOf x.1).map mD2) := by
  induction l generalizing bs with
  | nil => cases h; exact .nil
  | cons x l ih =>
    cases h with
    | cons h t => exact .cons (td_key h) (ih t)
theorem truek_td {H : Hp} {l : List (Nat × Nat)} {bs : List Addr} (h : IsKeys H (trueD l) bs) : TDs H (bs.map V.ref) (l.map mD2) := by
  induction l generalizing bs with
  | nil => cases h; exact .nil
  | cons x l ih =>
    cases h with
    | cons h t => exact .cons (td_key h) (ih t)
def sp_make_room (C CL : Addr) : Sp := fun vs H Q _ => ∃ (A : Ca) (ps : List (Addr × Addr × Addr)) (room z : Nat) (ns : List (List Int × List Nat)) (m : Cr) (qv : List KF) (gs : List V), vs = [.ref A.c] ∧ CAt C CL H A ps room z ns m qv gs ∧ m.q ≠ [] ∧ m.gone.length ≤ 1000000 ∧
  ∀ H' qv' gs', CAt C CL H' A ps room z ns m.makeRoom qv' gs' → Keep [A.fr, A.se, A.ak, A.go] H H' → Dom H H' → Q .non H'
theorem ok_Craft_make_room (T : Tx K mg) : FnOk P w K mg base CX0 2 T.a_Craft_make_room T.d_Craft_make_room ["self"] (sp_make_room T.A_Craft T.A_Laying) := by
  have nd := sc_Craft_make_room.nd
  refine T.F_Craft_make_room.ok sc_Craft_make_room (fun vs H Q E h => ?_) (fun cdv A0 outer s H vs Q E hr h => ?_)
  · obtain ⟨_, _, _, _, _, _, _, _, rfl, _⟩ := h
    rfl
  · obtain ⟨A, ps, room, z, ns, m, qv, gs, rfl, hC, hne, hgl, fin⟩ := h
    obtain ⟨c1, c2, c3, c4, c5⟩ := hC.nec
    have hqm := hC.marksq
    have hql := hC.qlen
    have hfew := hC.ok.few
    have hr60 := hC.r60.2
    refine ⟨_, (pss_cons (ps_lock (ps_setLc (i := 1) (own := [("mark", 3)]) rfl nd rfl rfl (sw_true rfl rfl rfl (by decide +kernel)) (pi_keys (pe_fld (pv 0) rfl)) (blkOk_by (own := [("mark", 3)]) (N := N_Craft_make_room) (sc := defScope s_Craft_make_room) (by decide +kernel)) (fun _ _ _ _ _ => (pg_name (i := 3) nd rfl (Or.inl rfl))) (fun _ _ _ _ _ => (pts_one (pt_cmp (pc_din (hu_of hr) (pv 3) (pe_fldK (K := K) rfl (pv 0) rfl))))) (fun _ _ _ _ _ => (pv 3)))) (pss_one (ps_if (pt_truth (pv 1) (by intro _; rfl)) (pss_one (ps_expr (pe_meth (pv 0) T.cl_Craft T.M_Craft_let_go (ok_Craft_let_go T) (hr.mono (by decide)) T.b_Craft_let_go .nil pass0 (pa_cons (pe_ix ix_list (pv 1) pe_int (fun _ _ => rfl)) pa_nil)))) (pss_cons (ps_set (i := 2) nd rfl (Or.inl rfl) (pe_ix ix_list (pe_callTy (call_list_dT rfl) (by rfl) T.z_list (by decide +kernel) (pa_cons (pe_fld (pv 0) rfl) pa_nil)) pe_int (fun _ _ => rfl))) (pss_cons (ps_expr (pe_meth (pv 0) T.cl_Craft T.M_Craft_let_go (ok_Craft_let_go T) (hr.mono (by decide)) T.b_Craft_let_go .nil pass0 (pa_cons (pv 2) pa_nil))) (pss_one (ps_expr (pe_bm PySem.F.plainAttrs_list PySem.F.slot_list_append PySem.F.type_list_append mt_append (pe_fld (pv 0) rfl) (pa_cons (pv 2) pa_nil))))))))), ?_⟩
    -- sent
    refine ⟨A.fr, _, hC.fr, True.intro, fun od => ?_⟩
    have k1 : Keep [A.fr] H (upd H A.fr (.frz od (.dT (framesD qv)))) := keep_upd (Keep.refl _ _) (by simp)
    have f1 : upd H A.fr (.frz od (.dT (framesD qv))) A.fr = some (.frz od (.dT (framesD qv))) := upd_same
    generalize upd H A.fr (.frz od (.dT (framesD qv))) = H1 at *
    refine ⟨_, rfl, A.c, _, A.dx, _, _, rfl, k1 _ _ (by simp [c1]) hC.o, T.cl_Craft, T.n_Craft_frames, cf_frames, A.fr, od, rfl, .inr ⟨_, f1, fun D hD => ?_⟩⟩
    have nfD : A.fr ≠ D := ne_of_none f1 hD
    have hD0 : H D = none := by
      cases e : H D with
      | none => rfl
      | some o =>
        have := k1 _ _ (by simp [nfD.symm]) e
        rw [hD] at this; cases this
    refine lc_keysT (d := A.fr) (od := od) (kvs := framesD qv) (fun i H' => ∃ xs, H' D = some (.lst xs) ∧ TDs H' xs ((((qv.map fun x : KF => mkOf x.1).take i).filter fun k => decide (k ∈ m.sent)).map mD2) ∧ H' A.fr = some (.frz od (.dT (framesD qv))) ∧ Keep [A.fr] H H') ⟨[], upd_same, .nil, by rw [upd_ne nfD]; exact f1, keep_new' k1 hD⟩ (fun i H' _ ⟨_, _, _, e, _⟩ => e) ?_ ?_
    · rintro i kk v q H2 hi hq ⟨xs, hL, tL, f2, k2⟩
      obtain ⟨y, hy, rfl, rfl⟩ := mark_key hi
      have hy2 : (qv.map fun x : KF => mkOf x.1)[i]? = some (mkOf y.1) := by rw [List.getElem?_map, hy]; rfl
      have hil := (List.getElem?_eq_some_iff.mp hy).1
      have hxl : xs.length ≤ i := by
        rw [tL.length, List.length_map]
        refine Nat.le_trans (List.length_filter_le _ _) ?_
        rw [List.length_take]; omega
      rw [walked hy2]
      refine ⟨rfl, _, rfl, _, rfl, A.c, _, A.dx, _, _, rfl, k2 _ _ (by simp [c1]) hC.o, T.cl_Craft, T.n_Craft_sent, cf_sent, A.se, _, rfl, DGet.t (k := mkK (mkOf y.1)) (k2 _ _ (by simp [hC.d1.symm]) hC.se) hq, _, rfl, ?_⟩
      rw [true_in]
      by_cases c : mkOf y.1 ∈ m.sent
      · rw [decide_eq_true c]
        refine iteT ?_
        refine ⟨_, rfl, xs, hL, lt_line (by omega), _, upd_same, ?_, by rw [upd_ne nfD]; exact f2, keep_mut k2 hD0⟩
        rw [if_pos rfl, List.map_append]
        have t7 : TSm H2 (upd H2 D (.lst (xs ++ [.ref q]))) := ts_upd (TSm.refl _) (NoT.lst hL)
        exact (tL.mono t7).app (.one ((td_key hq).mono t7))
      · rw [decide_eq_false c]
        refine iteF ⟨xs, hL, ?_, f2, k2⟩
        rw [if_neg (by decide), List.append_nil]
        exact tL
    · rintro H2 ⟨xs, hL, tL, f2, k2⟩
      rw [show (framesD qv).length = qv.length from keysD_len qv, List.take_of_length_le (by rw [List.length_map]; exact Nat.le_refl _), hqm] at tL
      refine ⟨f2, ?_⟩
      have s3 : Same H (upd H2 A.fr (.dT (framesD qv))) := unlock k2 hC.fr
      have hL3 : upd H2 A.fr (.dT (framesD qv)) D = some (.lst xs) := by rw [upd_ne nfD.symm]; exact hL
      have tL3 := tL.mono (ts_upd (TSm.refl H2) (a := A.fr) (o := .dT (framesD qv)) (fun ys e => by rw [f2] at e; cases e))
      generalize upd H2 A.fr (.dT (framesD qv)) = H3 at *
      have hC3 := hC.same s3
      have k3 : Keep [A.fr, A.se, A.ak, A.go] H H3 := Keep.of_same s3
      have d3 : Dom H H3 := Dom.of_same s3
      change TDs H3 xs (m.old.map mD2) at tL3
      cases e : m.old with
      | cons k r =>
        rw [e] at tL3
        cases tL3 with
        | cons tk tr =>
          obtain ⟨b, rfl, hb⟩ := key_td tk
          refine ⟨_, rfl, true, .inl ⟨_, SqL.of hL3, rfl⟩, iteT ?_⟩
          have hk : k ∈ m.marks := (List.mem_filter.mp (show k ∈ m.old by rw [e]; exact List.mem_cons_self)).1
          refine ⟨_, rfl, A.c, A.dx, _, rfl, hC3.o, cf_no (by decide), _, rfl, D, _, 0, .ref b, rfl, rfl, SqL.of hL3, atI_nat (j := 0) rfl, A, ps, room, z, ns, m, qv, gs, b, k, rfl, hC3, hb, hk, fun H4 qv' hC4 k4 d4 => ?_⟩
          have em : m.makeRoom = m.letGo k := by unfold Cr.makeRoom; rw [e]
          refine fin H4 qv' gs (by rw [em]; exact hC4) (k3.trans (k4.mono fun x hx => List.mem_append_left [A.go] hx)) (d3.trans d4)
      | nil =>
        rw [e] at tL3
        cases tL3
        refine ⟨_, rfl, false, .inl ⟨_, SqL.of hL3, rfl⟩, iteF ?_⟩
        -- the oldest
        refine ⟨_, rfl, A.c, _, A.dx, _, _, rfl, hC3.o, T.cl_Craft, T.n_Craft_frames, cf_frames, A.fr, _, rfl, Rd.of hC3.fr, fun p bs hp hbs => ?_⟩
        have tb := keys_td hbs
        rw [hqm] at tb
        cases e2 : m.marks with
        | nil =>
          have : m.q = [] := by unfold Cr.marks at e2; simpa using e2
          exact absurd this hne
        | cons k r =>
          rw [e2] at tb
          have s4 := same_new (Same.refl H3) hp (o := .lst (bs.map V.ref))
          cases bs with
          | nil => cases tb
          | cons b bs =>
            rw [List.map_cons] at tb
            have tk : TD H3 (.ref b) (mD2 k) := by cases tb with | cons h _ => exact h
            have hp4 : upd H3 p (.lst ((b :: bs).map V.ref)) p = some (.lst ((b :: bs).map V.ref)) := upd_same
            obtain ⟨b', eb, hb⟩ := key_td (tk.mono (TSm.of_same s4))
            cases eb
            have hC4 := hC3.same s4
            have k4 : Keep [A.fr, A.se, A.ak, A.go] H (upd H3 p (.lst ((b :: bs).map V.ref))) := k3.trans (Keep.of_same s4)
            have d4 := d3.trans (Dom.of_same s4)
            generalize upd H3 p (.lst ((b :: bs).map V.ref)) = H4 at *
            have hk : k ∈ m.marks := by rw [e2]; exact List.mem_cons_self
            refine ⟨p, _, 0, .ref b, rfl, rfl, SqL.of hp4, atI_nat (j := 0) rfl, ?_⟩
            refine ⟨_, rfl, A.c, A.dx, _, rfl, hC4.o, cf_no (by decide), _, rfl, A, ps, room, z, ns, m, qv, gs, b, k, rfl, hC4, hb, hk, fun H5 qv' hC5 k5 d5 => ?_⟩
            have k05 := k4.trans (k5.mono fun x hx => List.mem_append_left [A.go] hx)
            have hb5 : H5 b = some (.tup [.int ((k.1 : Nat) : Int), .int ((k.2 : Nat) : Int)]) := k5 _ _ (by simp [ne_of hb hC4.fr (by intro e; cases e), ne_of hb hC4.se (by intro e; cases e), ne_of hb hC4.ak (by intro e; cases e)]) hb
            have hgo5 := hC5.go
            have hgl5 : gs.length = m.gone.length := by rw [hC.gt.length, List.length_map]
            refine ⟨_, rfl, A.c, _, A.dx, _, _, rfl, hC5.o, T.cl_Craft, T.n_Craft_gone, cf_gone, .inl ⟨rfl, _, SqL.of hgo5⟩, _, rfl, A.go, gs, _, rfl, rfl, hgo5, lt_line (by omega), ?_⟩
            have t6 : TSm H5 (upd H5 A.go (.lst (gs ++ [.ref b]))) := ts_upd (TSm.refl _) (NoT.lst hgo5)
            obtain ⟨n1, n2, n3⟩ := hC5.neg
            have em : m.makeRoom = { m.letGo k with gone := m.gone ++ [k] } := by unfold Cr.makeRoom; rw [e, e2]
            have ok5 := hC5.ok
            refine fin _ qv' (gs ++ [.ref b]) ?_ (keep_upd k05 (by simp)) ((d4.trans d5).upd _ _)
            rw [em]
            refine hC5.step (keep_upd (Keep.refl _ _) (by simp)) rfl ⟨ok5.nd, ok5.few, ok5.sn, ok5.ss, ok5.an, ok5.as⟩ hC5.qe (by rw [upd_ne n1.symm]; exact hC5.fr) (by rw [upd_ne n2.symm]; exact hC5.se) (by rw [upd_ne n3.symm]; exact hC5.ak) upd_same (fun x hx => (hC5.ft x hx).mono t6) ?_
            show TDs _ _ ((m.gone ++ [k]).map mD2)
            rw [List.map_append]
            exact (hC5.gt.mono t6).app (.one ((TD.tup hb5 (.cons (.int _) (.cons (.int _) .nil))).mono t6))
end
end K10

namespace K10
open PySem PySem.Spec PyProof.Rows L2 Sky
section
variable {P : Program} {w : World} {K : PySem.W.Frag} {mg : Str → Option Value} {base : Heap}
/-! ### _keep -/
def sp_keep (C CL : Addr) : Sp := fun vs H Q _ => ∃ (A : Ca) (ps : List (Addr × Addr × Addr)) (room z : Nat) (ns : List (List Int × List Nat)) (m : Cr) (qv : List KF) (gs : List V) (v : V) (x : Nat × Frm), vs = [.ref A.c, v] ∧ CAt C CL H A ps room z ns m qv gs ∧ TD H v (frmD ((x.1 : Nat) : Int) x.2) ∧ mkOf x ∉ m.marks ∧ m.gone.length ≤ 1000000 ∧
  ∀ H' qv' gs', CAt C CL H' A ps room z ns (m.keep room x) qv' gs' → Keep [A.fr, A.se, A.ak, A.go] H H' → Dom H H' → Q .non H'
theorem ok_Craft_keep (T : Tx K mg) : FnOk P w K mg base CX0 3 T.a_Craft_keep T.d_Craft_keep ["self", "frame"] (sp_keep T.A_Craft T.A_Laying) := by
  have nd := sc_Craft_keep.nd
  refine T.F_Craft_keep.ok sc_Craft_keep (fun vs H Q E h => ?_) (fun cdv A0 outer s H vs Q E hr h => ?_)
  · obtain ⟨_, _, _, _, _, _, _, _, _, _, rfl, _⟩ := h
    rfl
  · obtain ⟨A, ps, room, z, ns, m, qv, gs, v, x, rfl, hC, tv, hnew, hgl, fin⟩ := h
    have hfew := hC.ok.few
    have hql := hC.qlen
    obtain ⟨hr1, hr60⟩ := hC.r60
    refine ⟨_, (pss_cons (ps_if (pt_cmpR op_eq (pe_callB call_len_dT (by rfl) T.z_len PySem.boot_len (pa_cons (pe_fld (pv 0) rfl) pa_nil)) (pe_fld (pv 0) rfl) (nomark _)) (pss_one (ps_expr (pe_meth0 (pv 0) T.cl_Craft T.M_Craft_make_room (ok_Craft_make_room T) (hr.mono (by decide)) T.b_Craft_make_room .nil pass0))) pss_nil) (pss_one (ps_dput (hu_of hr) (pe_fld (pv 0) rfl) (pe_tup (pa_cons (pe_ix ix_tup (pv 1) pe_int (fun _ _ => rfl)) (pa_cons (pe_ix ix_tup (pv 1) pe_int (fun _ _ => rfl)) pa_nil))) (pv 1) rfl))), ?_⟩
    refine ⟨_, rfl, A.c, _, A.dx, _, _, rfl, hC.o, T.cl_Craft, T.n_Craft_frames, cf_frames, A.fr, _, rfl, hC.fr, _, rfl, A.c, _, A.dx, _, _, rfl, hC.o, T.cl_Craft, T.n_Craft_room, cf_room, rfl, _, rfl, ?_⟩
    have elen : (framesD qv).length = m.q.length := by rw [show (framesD qv).length = qv.length from keysD_len qv, hql]
    rw [elen]
    have rest : ∀ (m1 : Cr) (qv1 : List KF) (gs1 : List V) (H1 : Hp), CAt T.A_Craft T.A_Laying H1 A ps room z ns m1 qv1 gs1 → m1.q.length < room → mkOf x ∉ m1.marks → m1.put x = m.keep room x → Keep [A.fr, A.se, A.ak, A.go] H H1 → Dom H H1 →
        ∀ b, H1 b = none → ∀ H2, H2 = upd (upd H1 b (.tup [.int ((x.1 : Nat) : Int), .int ((x.2.1 : Nat) : Int)])) A.fr (.dT (putK (framesD qv1) (mkK (mkOf x)) v)) → Q .non H2 := by
      intro m1 qv1 gs1 H1 hC1 less new1 em k1 d1 b hb H2 e2
      have hC2 := hC1.same (same_new (Same.refl H1) hb (o := .tup [.int ((x.1 : Nat) : Int), .int ((x.2.1 : Nat) : Int)]))
      have k2 : Keep [A.fr, A.se, A.ak, A.go] H (upd H1 b (.tup [.int ((x.1 : Nat) : Int), .int ((x.2.1 : Nat) : Int)])) := k1.trans (Keep.of_same (same_new (Same.refl H1) hb))
      have d2 := d1.trans (Dom.of_same (same_new (Same.refl H1) hb (o := .tup [.int ((x.1 : Nat) : Int), .int ((x.2.1 : Nat) : Int)])))
      generalize upd H1 b (.tup [.int ((x.1 : Nat) : Int), .int ((x.2.1 : Nat) : Int)]) = H1' at *
      have hq1 := hC2.marksq
      have ep : putK (framesD qv1) (mkK (mkOf x)) v = framesD (qv1 ++ [(x, v)]) := by
        unfold framesD
        rw [put_new (by rw [hq1]; exact new1)]
        unfold keysD
        rw [List.map_append]
        rfl
      rw [ep] at e2
      obtain ⟨n1, n2, n3⟩ := hC2.neg
      have tv2 : TD H1' v (frmD ((x.1 : Nat) : Int) x.2) := tv.mono (k2.ts hC.noT4)
      have t3 : TSm H1' H2 := by rw [e2]; exact ts_upd (TSm.refl _) (NoT.dT hC2.fr)
      subst e2
      refine fin _ (qv1 ++ [(x, v)]) gs1 ?_ (keep_upd k2 (by simp)) (d2.upd _ _)
      rw [← em]
      refine hC2.step (keep_upd (Keep.refl _ _) (by simp)) rfl (hC2.ok.put new1 less) ?_ upd_same (by rw [upd_ne hC2.d1.symm]; exact hC2.se) (by rw [upd_ne hC2.d2.symm]; exact hC2.ak) (by rw [upd_ne n1]; exact hC2.go) (fun y hy => ?_) (hC2.gt.mono t3)
      · show _ = m1.q ++ [x]
        rw [List.map_append, hC2.qe]
        rfl
      · rcases List.mem_append.mp hy with e | e
        · exact (hC2.ft y e).mono t3
        · rw [List.mem_singleton.mp e]; exact tv2.mono t3
    refine if_skip (fun H1 => ∃ (m1 : Cr) (qv1 : List KF) (gs1 : List V), CAt T.A_Craft T.A_Laying H1 A ps room z ns m1 qv1 gs1 ∧ m1.q.length < room ∧ mkOf x ∉ m1.marks ∧ m1.put x = m.keep room x ∧ Keep [A.fr, A.se, A.ak, A.go] H H1 ∧ Dom H H1) (fun H1 ⟨m1, qv1, gs1, hC1, less, new1, em, k1, d1⟩ => ?_) (fun e go => ?_) (fun e => ?_)
    · -- self._frames[..] = frame
      have tv1 := tv.mono (k1.ts hC.noT4)
      obtain ⟨a, bb, rfl, ha, hbb⟩ := td_frm tv1
      refine ⟨_, rfl, _, rfl, A.c, _, A.dx, _, _, rfl, hC1.o, T.cl_Craft, T.n_Craft_frames, cf_frames, ?_⟩
      refine ⟨_, rfl, a, _, 0, _, rfl, rfl, SqT.of ha, atI_nat (j := 0) rfl, _, rfl, a, _, 1, _, rfl, rfl, SqT.of ha, atI_nat (j := 1) rfl, (by decide : (2 : Nat) ≤ sizeLine), fun b hb => ?_⟩
      have nfb : A.fr ≠ b := ne_of_none hC1.fr hb
      have ql1 := hC1.qlen
      refine ⟨A.fr, _, rfl, DPut.t (k := mkK (mkOf x)) (by rw [upd_ne nfb]; exact hC1.fr) upd_same (lt_line (by rw [show (framesD qv1).length = qv1.length from keysD_len qv1]; omega)), ?_⟩
      exact rest m1 qv1 gs1 H1 hC1 less new1 em k1 d1 b hb _ rfl
    · have hroom : m.q.length = room := by
        have := of_decide_eq_true e
        injection this with this
        omega
      refine ⟨_, rfl, A.c, A.dx, _, rfl, hC.o, cf_no (by decide), A, ps, room, z, ns, m, qv, gs, rfl, hC, (fun z => by rw [z] at hroom; simp at hroom; omega), hgl, fun H1 qv1 gs1 hC1 k1 d1 => ?_⟩
      obtain ⟨h1, h2, h3, h4⟩ := hC.ok.room (fun z => by rw [z] at hroom; simp at hroom; omega)
      refine go _ ⟨m.makeRoom, qv1, gs1, hC1, h2, fun z => hnew (h3 _ z), ?_, k1, d1⟩
      unfold Cr.keep
      rw [if_pos hroom]
    · have hroom : m.q.length ≠ room := fun z => e (decide_eq_true (by rw [z]))
      refine ⟨m, qv, gs, hC, by omega, hnew, ?_, Keep.refl _ _, Dom.refl _⟩
      unfold Cr.keep
      rw [if_neg hroom]
/-! ### _next_mark -/
def sp_next_mark (C CL : Addr) : Sp := fun vs H Q _ => ∃ (A : Ca) (ps : List (Addr × Addr × Addr)) (room z : Nat) (ns : List (List Int × List Nat)) (m : Cr) (qv : List KF) (gs : List V), vs = [.ref A.c] ∧ CAt C CL H A ps room z ns m qv gs ∧
  (m.next = none → ∀ H', Same H H' → Q .non H') ∧ (∀ k, m.next = some k → ∀ b H', Same H H' → H' b = some (.tup [.int ((k.1 : Nat) : Int), .int ((k.2 : Nat) : Int)]) → Q (.ref b) H')
theorem ok_Craft_next_mark (T : Tx K mg) : FnOk P w K mg base CX0 1 T.a_Craft_next_mark T.d_Craft_next_mark ["self"] (sp_next_mark T.A_Craft T.A_Laying) := by
  have nd := sc_Craft_next_mark.nd
  refine T.F_Craft_next_mark.ok sc_Craft_next_mark (fun vs H Q E h => ?_) (fun cdv A0 outer s H vs Q E hr h => ?_)
  · obtain ⟨_, _, _, _, _, _, _, _, rfl, _⟩ := h
    rfl
  · obtain ⟨A, ps, room, z, ns, m, qv, gs, rfl, hC, no, yes⟩ := h
    obtain ⟨c1, c2, c3, c4, c5⟩ := hC.nec
    have hqm := hC.marksq
    have hql := hC.qlen
    have hfew := hC.ok.few
    have hr60 := hC.r60.2
    have hlens := hC.ok.lens
    refine ⟨_, (pss_cons (ps_lock (ps_setLc (i := 1) (own := [("mark", 3)]) rfl nd rfl rfl (sw_true rfl rfl rfl (by decide +kernel)) (pi_keys (pe_fld (pv 0) rfl)) (blkOk_by (own := [("mark", 3)]) (N := N_Craft_next_mark) (sc := defScope s_Craft_next_mark) (by decide +kernel)) (fun _ _ _ _ _ => (pg_name (i := 3) nd rfl (Or.inl rfl))) (fun _ _ _ _ _ => (pts_one (pt_cmp (pc_dnotin (hu_of hr) (pv 3) (pe_fldK (K := K) rfl (pv 0) rfl))))) (fun _ _ _ _ _ => (pv 3)))) (pss_cons (ps_set (i := 2) nd rfl (Or.inl rfl) (pe_op op_cat (pe_callTy (call_list_dT rfl) (by rfl) T.z_list (by decide +kernel) (pa_cons (pe_fld (pv 0) rfl) pa_nil)) (pv 1))) (pss_one (ps_ret (pe_ifExp (pt_truth (pv 2) (by intro _; rfl)) (pe_ix ix_list (pv 2) pe_int (fun _ _ => rfl)) pe_non))))), ?_⟩
    refine ⟨A.fr, _, hC.fr, True.intro, fun od => ?_⟩
    have k1 : Keep [A.fr] H (upd H A.fr (.frz od (.dT (framesD qv)))) := keep_upd (Keep.refl _ _) (by simp)
    have f1 : upd H A.fr (.frz od (.dT (framesD qv))) A.fr = some (.frz od (.dT (framesD qv))) := upd_same
    generalize upd H A.fr (.frz od (.dT (framesD qv))) = H1 at *
    refine ⟨_, rfl, A.c, _, A.dx, _, _, rfl, k1 _ _ (by simp [c1]) hC.o, T.cl_Craft, T.n_Craft_frames, cf_frames, A.fr, od, rfl, .inr ⟨_, f1, fun D hD => ?_⟩⟩
    have nfD : A.fr ≠ D := ne_of_none f1 hD
    have hD0 : H D = none := by
      cases e : H D with
      | none => rfl
      | some o =>
        have := k1 _ _ (by simp [nfD.symm]) e
        rw [hD] at this; cases this
    refine lc_keysT (d := A.fr) (od := od) (kvs := framesD qv) (fun i H' => ∃ xs, H' D = some (.lst xs) ∧ TDs H' xs ((((qv.map fun x : KF => mkOf x.1).take i).filter fun k => !decide (k ∈ m.sent)).map mD2) ∧ H' A.fr = some (.frz od (.dT (framesD qv))) ∧ Keep [A.fr] H H') ⟨[], upd_same, .nil, by rw [upd_ne nfD]; exact f1, keep_new' k1 hD⟩ (fun i H' _ ⟨_, _, _, e, _⟩ => e) ?_ ?_
    · rintro i kk v q H2 hi hq ⟨xs, hL, tL, f2, k2⟩
      obtain ⟨y, hy, rfl, rfl⟩ := mark_key hi
      have hy2 : (qv.map fun x : KF => mkOf x.1)[i]? = some (mkOf y.1) := by rw [List.getElem?_map, hy]; rfl
      have hil := (List.getElem?_eq_some_iff.mp hy).1
      have hxl : xs.length ≤ i := by
        rw [tL.length, List.length_map]
        refine Nat.le_trans (List.length_filter_le _ _) ?_
        rw [List.length_take]; omega
      rw [walked hy2]
      refine ⟨rfl, _, rfl, _, rfl, A.c, _, A.dx, _, _, rfl, k2 _ _ (by simp [c1]) hC.o, T.cl_Craft, T.n_Craft_sent, cf_sent, A.se, _, rfl, DGet.t (k := mkK (mkOf y.1)) (k2 _ _ (by simp [hC.d1.symm]) hC.se) hq, _, rfl, ?_⟩
      rw [true_in]
      by_cases c : mkOf y.1 ∈ m.sent
      · rw [decide_eq_true c]
        refine iteF ⟨xs, hL, ?_, f2, k2⟩
        rw [if_neg (by decide), List.append_nil]
        exact tL
      · rw [decide_eq_false c]
        refine iteT ?_
        refine ⟨_, rfl, xs, hL, lt_line (by omega), _, upd_same, ?_, by rw [upd_ne nfD]; exact f2, keep_mut k2 hD0⟩
        rw [if_pos (show (!false) = true from rfl), List.map_append]
        have t7 : TSm H2 (upd H2 D (.lst (xs ++ [.ref q]))) := ts_upd (TSm.refl _) (NoT.lst hL)
        exact (tL.mono t7).app (.one ((td_key hq).mono t7))
    · rintro H2 ⟨xs, hL, tL, f2, k2⟩
      rw [show (framesD qv).length = qv.length from keysD_len qv, List.take_of_length_le (by rw [List.length_map]; exact Nat.le_refl _), hqm] at tL
      refine ⟨f2, ?_⟩
      have s3 : Same H (upd H2 A.fr (.dT (framesD qv))) := unlock k2 hC.fr
      have hL3 : upd H2 A.fr (.dT (framesD qv)) D = some (.lst xs) := by rw [upd_ne nfD.symm]; exact hL
      have tL3 := tL.mono (ts_upd (TSm.refl H2) (a := A.fr) (o := .dT (framesD qv)) (fun ys e => by rw [f2] at e; cases e))
      generalize upd H2 A.fr (.dT (framesD qv)) = H3 at *
      have hC3 := hC.same s3
      change TDs H3 xs (m.fresh.map mD2) at tL3
      have hfl : m.fresh.length ≤ 60 := by
        have := List.length_filter_le (fun k => !decide (k ∈ m.sent)) m.marks
        have e : m.marks.length = m.q.length := List.length_map _
        show (m.marks.filter _).length ≤ 60
        omega
      -- line
      refine ⟨_, rfl, A.c, _, A.dx, _, _, rfl, hC3.o, T.cl_Craft, T.n_Craft_asked, cf_asked, A.ak, _, rfl, Rd.of hC3.ak, fun p bs hp hbs => ?_⟩
      have tb := truek_td hbs
      have hbl : bs.length = m.asked.length := by
        have := tb.length
        rw [List.length_map, List.length_map] at this
        exact this
      have s4 := same_new (Same.refl H3) hp (o := .lst (bs.map V.ref))
      have hp4 : upd H3 p (.lst (bs.map V.ref)) p = some (.lst (bs.map V.ref)) := upd_same
      have hL4 := s4 _ _ hL3
      have tb4 := tb.mono (TSm.of_same s4)
      have tL4 := tL3.mono (TSm.of_same s4)
      have s04 := s3.trans s4
      generalize upd H3 p (.lst (bs.map V.ref)) = H4 at *
      have hxl : xs.length = m.fresh.length := by rw [tL3.length, List.length_map]
      refine ⟨_, rfl, p, D, _, xs, rfl, rfl, hp4, hL4, le_line (by rw [List.length_map]; omega), fun r hr2 => ?_⟩
      have tr := (tb4.app tL4).mono (TSm.of_same (same_new (Same.refl H4) hr2 (o := .lst (bs.map V.ref ++ xs))))
      rw [← List.map_append] at tr
      have hr5 : upd H4 r (.lst (bs.map V.ref ++ xs)) r = some (.lst (bs.map V.ref ++ xs)) := upd_same
      have s05 := s04.trans (same_new (Same.refl H4) hr2 (o := .lst (bs.map V.ref ++ xs)))
      generalize upd H4 r (.lst (bs.map V.ref ++ xs)) = H5 at *
      cases e : m.asked ++ m.fresh with
      | nil =>
        rw [e] at tr
        generalize bs.map V.ref ++ xs = ys at *
        cases tr
        refine ⟨_, rfl, false, .inl ⟨_, SqL.of hr5, rfl⟩, iteF ?_⟩
        exact no (by unfold Cr.next; rw [e]; rfl) _ s05
      | cons k l =>
        rw [e] at tr
        generalize bs.map V.ref ++ xs = ys at *
        cases tr with
        | cons tk tl =>
          obtain ⟨b, rfl, hb⟩ := key_td tk
          refine ⟨_, rfl, true, .inl ⟨_, SqL.of hr5, rfl⟩, iteT ?_⟩
          refine ⟨_, rfl, r, _, 0, .ref b, rfl, rfl, SqL.of hr5, atI_nat (j := 0) rfl, ?_⟩
          exact yes k (by unfold Cr.next; rw [e]; rfl) b _ s05 hb
/-! ### beat -/
def sp_beat (C CL : Addr) : Sp := fun vs H Q _ => ∃ (A : Ca) (ps : List (Addr × Addr × Addr)) (room z : Nat) (ns : List (List Int × List Nat)) (m : Cr) (qv : List KF) (gs : List V), vs = [.ref A.c] ∧ CAt C CL H A ps room z ns m qv gs ∧
  (m.win = false ∨ m.next = none → ∀ H', Same H H' → Q .non H') ∧
  (∀ k x, m.win = true → m.next = some k → x ∈ m.q → mkOf x = k → ∀ v H', CAt C CL H' A ps room z ns (m.sends k) qv gs → TD H' v (frmD ((x.1 : Nat) : Int) x.2) → Keep [A.se, A.ak] H H' → Dom H H' → Q v H')
theorem ok_Craft_beat (T : Tx K mg) : FnOk P w K mg base CX0 2 T.a_Craft_beat T.d_Craft_beat ["self"] (sp_beat T.A_Craft T.A_Laying) := by
  have nd := sc_Craft_beat.nd
  refine T.F_Craft_beat.ok sc_Craft_beat (fun vs H Q E h => ?_) (fun cdv A0 outer s H vs Q E hr h => ?_)
  · obtain ⟨_, _, _, _, _, _, _, _, rfl, _⟩ := h
    rfl
  · obtain ⟨A, ps, room, z, ns, m, qv, gs, rfl, hC, no, yes⟩ := h
    have hlens := hC.ok.lens
    have hr60 := hC.r60.2
    refine ⟨_, (pss_cons (ps_set (i := 1) nd rfl (Or.inl rfl) (pe_ifExp (pt_truth (pe_fld (pv 0) rfl) (by intro _; rfl)) (pe_meth0 (pv 0) T.cl_Craft T.M_Craft_next_mark (ok_Craft_next_mark T) (hr.mono (by decide)) T.b_Craft_next_mark .nil pass0) pe_non)) (pss_cons (ps_if (pt_cmpR op_isN (pv 1) pe_non (nomark _)) (pss_one (ps_ret pe_non)) pss_nil) (pss_cons (ps_expr (pe_bm PySem.F.plainAttrs_dict PySem.F.slot_dict_pop PySem.F.type_dict_pop (mt_popW (hu_of hr)) (pe_fld (pv 0) rfl) (pa_cons (pv 1) (pa_cons pe_non pa_nil)))) (pss_cons (ps_dput (hu_of hr) (pe_fld (pv 0) rfl) (pv 1) pe_bl rfl) (pss_one (ps_ret (pe_dget (hu_of hr) (pe_fld (pv 0) rfl) (pv 1) (fun _ _ => rfl)))))))), ?_⟩
    refine ⟨_, rfl, A.c, _, A.dx, _, _, rfl, hC.o, T.cl_Craft, T.n_Craft_window, cf_window, m.win, rfl, ?_⟩
    cases ew : m.win with
    | false =>
      refine iteF ?_
      exact ⟨_, rfl, rfl, _, rfl, iteT (no (.inl ew) H (Same.refl _))⟩
    | true =>
      refine iteT ?_
      refine ⟨_, rfl, A.c, A.dx, _, rfl, hC.o, cf_no (by decide), A, ps, room, z, ns, m, qv, gs, rfl, hC, fun e H1 s1 => ?_, fun k e b H1 s1 hb => ?_⟩
      · exact ⟨_, rfl, rfl, _, rfl, iteT (no (.inr e) H1 s1)⟩
      · refine ⟨_, rfl, rfl, _, rfl, iteF ?_⟩
        have hC1 := hC.same s1
        have hk := hC.ok.next e
        obtain ⟨c1, c2, c3, c4, c5⟩ := hC1.nec
        have b2 : b ≠ A.se := ne_of hb hC1.se (by intro e; cases e)
        have b3 : b ≠ A.ak := ne_of hb hC1.ak (by intro e; cases e)
        refine ⟨_, rfl, A.c, _, A.dx, _, _, rfl, hC1.o, T.cl_Craft, T.n_Craft_asked, cf_asked, .inr (.inr (.inl ⟨rfl, .inr ⟨_, hC1.ak⟩⟩)), _, rfl, A.ak, _, mkK k, b, _, rfl, rfl, hC1.ak, hb, fun _ H2 a2 k2 D2 => ?_⟩
        rw [true_drop] at a2
        have s2 := k2 _ _ (by simp [hC1.d3]) hC1.se
        have hb2 := k2 _ _ (by simp [b3]) hb
        have o2 := k2 _ _ (by simp [c3]) hC1.o
        refine ⟨_, rfl, A.c, _, A.dx, _, _, rfl, o2, T.cl_Craft, T.n_Craft_sent, cf_sent, _, rfl, A.se, _, rfl, DPut.t (k := mkK k) s2 hb2 (lt_line (by rw [trueD_len]; omega)), ?_⟩
        rw [true_put]
        have k3 : Keep [A.se, A.ak] H1 (upd H2 A.se (.dT (trueD (if k ∈ m.sent then m.sent else m.sent ++ [k])))) := keep_upd (k2.mono (by simp)) (by simp)
        have d3 : Dom H1 (upd H2 A.se (.dT (trueD (if k ∈ m.sent then m.sent else m.sent ++ [k])))) := D2.upd _ _
        have s3 : upd H2 A.se (.dT (trueD (if k ∈ m.sent then m.sent else m.sent ++ [k]))) A.se = some (.dT (trueD (m.sends k).sent)) := upd_same
        have a3 : upd H2 A.se (.dT (trueD (if k ∈ m.sent then m.sent else m.sent ++ [k]))) A.ak = some (.dT (trueD (m.sends k).asked)) := by rw [upd_ne hC1.d3.symm]; exact a2
        generalize upd H2 A.se (.dT (trueD (if k ∈ m.sent then m.sent else m.sent ++ [k]))) = H3 at *
        have k3' : Keep [A.fr, A.se, A.ak, A.go] H1 H3 := k3.mono (by intro x hx; simp at hx ⊢; rcases hx with e | e <;> simp [e])
        have f3 := k3 _ _ (by simp [hC1.d1, hC1.d2]) hC1.fr
        have g3 := k3 _ _ (by simp [hC1.neg.2.1, hC1.neg.2.2]) hC1.go
        have o3 := k3 _ _ (by simp [c2, c3]) hC1.o
        have ts := k3'.ts hC1.noT4
        have hC3 := hC1.step k3' (m' := m.sends k) rfl (hC1.ok.sends hk) hC1.qe f3 s3 a3 g3 (fun y hy => (hC1.ft y hy).mono ts) (hC1.gt.mono ts)
        have hkq : k ∈ qv.map fun x : KF => mkOf x.1 := by rw [hC1.marksq]; exact hk
        obtain ⟨y, hy, ey⟩ := List.mem_map.mp hkq
        have hb3 := k3 _ _ (by simp [b2, b3]) hb
        have hv : valV (framesD qv) (mkK k) = some y.2 := by
          rw [← ey]
          exact val_some (f := fun x : KF => mkOf x.1) (g := fun x => x.2) (by rw [hC1.marksq]; exact hC1.ok.nd) hy
        refine ⟨_, rfl, A.c, _, A.dx, _, _, rfl, o3, T.cl_Craft, T.n_Craft_frames, cf_frames, _, rfl, A.fr, y.2, rfl, ?_, ?_⟩
        · rw [← hv]; exact DGet.t (k := mkK k) f3 hb3
        · exact yes k y.1 ew e (by rw [← hC1.qe]; exact List.mem_map.mpr ⟨y, hy, rfl⟩) ey y.2 H3 hC3 ((hC1.ft y hy).mono ts) ((Keep.of_same s1).trans k3) ((Dom.of_same s1).trans d3)
/-! ### begin, shut -/
theorem CAt.window {C CL : Addr} {H : Hp} {A : Ca} {ps : List (Addr × Addr × Addr)} {room z : Nat} {ns : List (List Int × List Nat)} {m : Cr} {qv : List KF} {gs : List V} (h : CAt C CL H A ps room z ns m qv gs) (b : Bool) :
    CAt C CL (upd H A.c (.ins C A.dx (cf room b A))) A ps room z ns { m with win := b } qv gs := by
  obtain ⟨c1, c2, c3, c4, c5⟩ := h.nec
  have t : TSm H (upd H A.c (.ins C A.dx (cf room b A))) := ts_upd (TSm.refl _) (NoT.ins h.o)
  refine ⟨upd_same, by rw [upd_ne c5.symm]; exact h.la, h.pl, h.nl, fun i p n hp hn => ?_, by rw [upd_ne c1.symm]; exact h.fr, h.qe, fun x hx => (h.ft x hx).mono t, by rw [upd_ne c2.symm]; exact h.se, by rw [upd_ne c3.symm]; exact h.ak, by rw [upd_ne c4.symm]; exact h.go, h.gt.mono t, ⟨h.ok.nd, h.ok.few, h.ok.sn, h.ok.ss, h.ok.an, h.ok.as⟩, h.r60, h.d1, h.d2, h.d3, h.d4, h.pc, h.pd, h.ld⟩
  obtain ⟨⟨h1, h2⟩, h3⟩ := h.lay i p n hp hn
  have hpc := h.pc p (List.mem_of_getElem? hp)
  exact ⟨⟨by rw [upd_ne hpc.1]; exact h1, by rw [upd_ne (ne_of h2 h.o (by intro e; cases e))]; exact h2⟩, h3⟩
def sp_begin (C CL : Addr) : Sp := fun vs H Q _ => ∃ (A : Ca) (ps : List (Addr × Addr × Addr)) (room z : Nat) (ns : List (List Int × List Nat)) (m : Cr) (qv : List KF) (gs : List V), vs = [.ref A.c] ∧ CAt C CL H A ps room z ns m qv gs ∧
  ∀ H', CAt C CL H' A ps room z ns { m with win := true } qv gs → Keep [A.c] H H' → Dom H H' → Q (.bl (!m.win)) H'
theorem ok_Craft_begin (T : Tx K mg) : FnOk P w K mg base CX0 1 T.a_Craft_begin T.d_Craft_begin ["self"] (sp_begin T.A_Craft T.A_Laying) := by
  have nd := sc_Craft_begin.nd
  refine T.F_Craft_begin.ok sc_Craft_begin (fun vs H Q E h => ?_) (fun cdv A0 outer s H vs Q E hr h => ?_)
  · obtain ⟨_, _, _, _, _, _, _, _, rfl, _⟩ := h
    rfl
  · obtain ⟨A, ps, room, z, ns, m, qv, gs, rfl, hC, fin⟩ := h
    refine ⟨_, (pss_cons (ps_set (i := 1) nd rfl (Or.inl rfl) (pe_not (pe_fld (pv 0) rfl))) (pss_cons (ps_fld (pv 0) pe_bl rfl) (pss_one (ps_ret (pv 1))))), ?_⟩
    refine ⟨_, rfl, A.c, _, A.dx, _, _, rfl, hC.o, T.cl_Craft, T.n_Craft_window, cf_window, m.win, rfl, ?_⟩
    refine ⟨_, rfl, A.c, _, A.dx, _, rfl, hC.o, T.cl_Craft, T.n_Craft_window, cf_few, ?_⟩
    rw [cf_put]
    exact ⟨_, rfl, fin _ (hC.window true) (keep_upd (Keep.refl _ _) (by simp)) (dom_upd _ _ _)⟩
def sp_shut (C CL : Addr) : Sp := fun vs H Q _ => ∃ (A : Ca) (ps : List (Addr × Addr × Addr)) (room z : Nat) (ns : List (List Int × List Nat)) (m : Cr) (qv : List KF) (gs : List V), vs = [.ref A.c] ∧ CAt C CL H A ps room z ns m qv gs ∧
  ∀ H', CAt C CL H' A ps room z ns { m with win := false } qv gs → Keep [A.c] H H' → Dom H H' → Q (.bl m.win) H'
theorem ok_Craft_shut (T : Tx K mg) : FnOk P w K mg base CX0 1 T.a_Craft_shut T.d_Craft_shut ["self"] (sp_shut T.A_Craft T.A_Laying) := by
  have nd := sc_Craft_shut.nd
  refine T.F_Craft_shut.ok sc_Craft_shut (fun vs H Q E h => ?_) (fun cdv A0 outer s H vs Q E hr h => ?_)
  · obtain ⟨_, _, _, _, _, _, _, _, rfl, _⟩ := h
    rfl
  · obtain ⟨A, ps, room, z, ns, m, qv, gs, rfl, hC, fin⟩ := h
    refine ⟨_, (pss_cons (ps_set (i := 1) nd rfl (Or.inl rfl) (pe_fld (pv 0) rfl)) (pss_cons (ps_fld (pv 0) pe_bl rfl) (pss_one (ps_ret (pv 1))))), ?_⟩
    refine ⟨_, rfl, A.c, _, A.dx, _, _, rfl, hC.o, T.cl_Craft, T.n_Craft_window, cf_window, ?_⟩
    refine ⟨_, rfl, A.c, _, A.dx, _, rfl, hC.o, T.cl_Craft, T.n_Craft_window, cf_few, ?_⟩
    rw [cf_put]
    exact ⟨_, rfl, fin _ (hC.window false) (keep_upd (Keep.refl _ _) (by simp)) (dom_upd _ _ _)⟩
/-! ### lost -/
def sp_lost (C CL : Addr) : Sp := fun vs H Q _ => ∃ (A : Ca) (ps : List (Addr × Addr × Addr)) (room z : Nat) (ns : List (List Int × List Nat)) (m : Cr) (qv : List KF) (gs : List V), vs = [.ref A.c] ∧ CAt C CL H A ps room z ns m qv gs ∧
  ∀ p H', H' p = some (.lst gs) → TDs H' gs (m.gone.map mD2) → H p = none → Same H H' → Q (.ref p) H'
theorem ok_Craft_lost (T : Tx K mg) : FnOk P w K mg base CX0 1 T.a_Craft_lost T.d_Craft_lost ["self"] (sp_lost T.A_Craft T.A_Laying) := by
  have nd := sc_Craft_lost.nd
  refine T.F_Craft_lost.ok sc_Craft_lost (fun vs H Q E h => ?_) (fun cdv A0 outer s H vs Q E hr h => ?_)
  · obtain ⟨_, _, _, _, _, _, _, _, rfl, _⟩ := h
    rfl
  · obtain ⟨A, ps, room, z, ns, m, qv, gs, rfl, hC, fin⟩ := h
    refine ⟨_, (pss_one (ps_ret (pe_callTy call_list_of (by rfl) T.z_list (by decide +kernel) (pa_cons (pe_fld (pv 0) rfl) pa_nil)))), ?_⟩
    refine ⟨_, rfl, A.c, _, A.dx, _, _, rfl, hC.o, T.cl_Craft, T.n_Craft_gone, cf_gone, A.go, _, rfl, .inl (SqL.of hC.go), fun p hp => ?_⟩
    exact fin p _ upd_same (hC.gt.mono (TSm.of_same (same_new (Same.refl _) hp))) hp (same_new (Same.refl _) hp)
end
end K10

namespace K10
open PySem PySem.Spec PyProof.Rows L2 Sky
section
variable {P : Program} {w : World} {K : PySem.W.Frag} {mg : Str → Option Value} {base : Heap}
/-! ### known -/
theorem filter_one {l : List (Nat × Frm)} {k : Nat × Nat} (nd : (l.map mkOf).Nodup) (h : k ∈ l.map mkOf) : (l.filter fun x => decide (mkOf x ≠ k)).length + 1 = l.length := by
  induction l with
  | nil => cases h
  | cons x l ih =>
    rw [List.map_cons, List.nodup_cons] at nd
    by_cases e : mkOf x = k
    · rw [List.filter_cons_of_neg (by simpa using e), List.length_cons]
      congr 1
      congr 1
      refine List.filter_eq_self.mpr fun y hy => decide_eq_true fun z => ?_
      exact nd.1 (by rw [e, ← z]; exact List.mem_map.mpr ⟨y, hy, rfl⟩)
    · rw [List.filter_cons_of_pos (by simpa using e), List.length_cons, List.length_cons]
      rw [List.map_cons, List.mem_cons] at h
      rcases h with z | z
      · exact absurd z.symm e
      · rw [ih nd.2 z]
def Cr.know1 (m : Cr) (k : Nat × Nat) : Cr := if k ∈ m.marks then m.letGo k else m
theorem knows_snoc (m : Cr) (ks : List (Nat × Nat)) (k : Nat × Nat) : m.knows (ks ++ [k]) = (m.knows ks).know1 k := by
  unfold Cr.knows
  rw [List.foldl_append]
  rfl
theorem Cr.Ok.knows {room : Nat} {m : Cr} (h : m.Ok room) (ks : List (Nat × Nat)) : (m.knows ks).Ok room := by
  unfold Cr.knows
  induction ks generalizing m with
  | nil => exact h
  | cons k ks ih =>
    rw [List.foldl_cons]
    split
    · exact ih (h.letGo k)
    · exact ih h
def sp_known (C CL : Addr) : Sp := fun vs H Q _ => ∃ (A : Ca) (ps : List (Addr × Addr × Addr)) (room z : Nat) (ns : List (List Int × List Nat)) (m : Cr) (qv : List KF) (gs : List V) (lm : Addr) (us : List V) (ks : List (Nat × Nat)), vs = [.ref A.c, .ref lm] ∧ CAt C CL H A ps room z ns m qv gs ∧
  H lm = some (.lst us) ∧ TDs H us (ks.map mD2) ∧ (∀ k ∈ ks, k.1 ≤ 3 ∧ k.2 ≤ 9999) ∧ lm ≠ A.go ∧
  ∀ H' qv', CAt C CL H' A ps room z ns (m.knows ks) qv' gs → Keep [A.fr, A.se, A.ak] H H' → Dom H H' → Q (.int (((m.q.length - (m.knows ks).q.length : Nat)) : Int)) H'
theorem ok_Craft_known (T : Tx K mg) : FnOk P w K mg base CX0 5 T.a_Craft_known T.d_Craft_known ["self", "marks"] (sp_known T.A_Craft T.A_Laying) := by
  have nd := sc_Craft_known.nd
  refine T.F_Craft_known.ok sc_Craft_known (fun vs H Q E h => ?_) (fun cdv A0 outer s H vs Q E hr h => ?_)
  · obtain ⟨_, _, _, _, _, _, _, _, _, _, _, rfl, _⟩ := h
    rfl
  · obtain ⟨A, ps, room, z, ns, m, qv, gs, lm, us, ks, rfl, hC, hl, tu, hok, nlg, fin⟩ := h
    have hul : us.length = ks.length := by rw [tu.length, List.length_map]
    have l1 : lm ≠ A.fr := ne_of hl hC.fr (by intro e; cases e)
    have l2 : lm ≠ A.se := ne_of hl hC.se (by intro e; cases e)
    have l3 : lm ≠ A.ak := ne_of hl hC.ak (by intro e; cases e)
    refine ⟨_, (pss_cons (ps_expr (pe_call (ok_check_marks T) (hr.mono (by decide)) (by rfl) T.m_check_marks T.F_check_marks.kp T.b_check_marks .nil pass0 (pa_cons (pv 1) pa_nil))) (pss_cons (ps_set (i := 2) nd rfl (Or.inl rfl) pe_int) (pss_cons (ps_for PassesOwn.never rfl (pi_list (pv 1)) (pg_name (i := 3) nd rfl (Or.inl rfl)) (pss_one (ps_if (pt_cmp (pc_din (hu_of hr) (pv 3) (pe_fld (pv 0) rfl))) (pss_cons (ps_expr (pe_meth (pv 0) T.cl_Craft T.M_Craft_let_go (ok_Craft_let_go T) (hr.mono (by decide)) T.b_Craft_let_go .nil pass0 (pa_cons (pv 3) pa_nil))) (pss_one (ps_aug (i := 2) nd rfl (Or.inl rfl) pe_int ip_add))) pss_nil))) (pss_one (ps_ret (pv 2)))))), ?_⟩
    refine ⟨_, rfl, lm, us, ks, rfl, hl, tu, hok, fun H1 s1 => ?_⟩
    have hC1 := hC.same s1
    have hl1 := s1 _ _ hl
    refine ⟨_, rfl, lm, rfl, ⟨_, SqL.of hl1⟩, ?_⟩
    refine for_list (K := K) (a := lm) (xs := us) (fun i σ H' => ∃ (n : Nat) (v3 : Option V) (qv' : List KF), σ = [some (.ref A.c), some (.ref lm), some (.int ((n : Nat) : Int)), v3] ∧ n + (m.knows (ks.take i)).q.length = m.q.length ∧ CAt T.A_Craft T.A_Laying H' A ps room z ns (m.knows (ks.take i)) qv' gs ∧ Keep [A.fr, A.se, A.ak] H1 H' ∧ Dom H1 H') ⟨0, none, qv, rfl, (by show 0 + m.q.length = _; omega), hC1, Keep.refl _ _, Dom.refl _⟩ (fun i σ H' _ ⟨_, _, _, _, _, _, k, _⟩ => SqL.of (k _ _ (by simp [l1, l2, l3]) hl1)) ?_ ?_
    · rintro i y σ H2 hy ⟨n, v3, qv', rfl, hn, hC2, k2, d2⟩
      obtain ⟨d, hd, td⟩ := tu.get hy
      obtain ⟨k, hk, rfl⟩ := map_get hd
      have ts : TSm H H2 := (TSm.of_same s1).trans (k2.ts fun a ha => hC1.noT4 a (List.mem_append_left [A.go] ha))
      obtain ⟨b, rfl, hb⟩ := key_td (td.mono ts)
      have esn : ks.take (i + 1) = ks.take i ++ [k] := by rw [List.take_add_one, hk]; rfl
      rw [esn, knows_snoc]
      generalize m.knows (ks.take i) = mi at *
      refine ⟨_, rfl, _, rfl, A.c, _, A.dx, _, _, rfl, hC2.o, T.cl_Craft, T.n_Craft_frames, cf_frames, A.fr, _, rfl, DGet.t (k := mkK k) hC2.fr hb, _, rfl, ?_⟩
      have ein : (valV (framesD qv') (mkK k)).isSome = decide (k ∈ mi.marks) := by unfold framesD; rw [val_isSome, hC2.marksq]
      rw [ein]
      by_cases c : k ∈ mi.marks
      · rw [decide_eq_true c]
        refine iteT ?_
        have e1 : mi.know1 k = mi.letGo k := if_pos c
        rw [e1]
        refine ⟨_, rfl, A.c, A.dx, _, rfl, hC2.o, cf_no (by decide), _, rfl, A, ps, room, z, ns, mi, qv', gs, b, k, rfl, hC2, hb, c, fun H3 qv3 hC3 k3 d3 => ?_⟩
        refine ⟨_, rfl, _, 1, rfl, rfl, ?_⟩
        have h1 := filter_one hC2.ok.nd c
        refine ⟨n + 1, _, qv3, rfl, ?_, hC3, k2.trans k3, d2.trans d3⟩
        show n + 1 + (mi.q.filter _).length = _
        omega
      · rw [decide_eq_false c]
        have e1 : mi.know1 k = mi := if_neg c
        rw [e1]
        exact iteF ⟨n, _, qv', rfl, hn, hC2, k2, d2⟩
    · rintro σ H2 ⟨n, v3, qv', rfl, hn, hC2, k2, d2⟩
      rw [hul, List.take_length] at hn hC2
      refine ⟨_, rfl, ?_⟩
      have e : n = m.q.length - (m.knows ks).q.length := by omega
      rw [e]
      exact fin H2 qv' hC2 ((Keep.of_same s1).trans k2) ((Dom.of_same s1).trans d2)
/-! ### kept -/
def keptD (m : Cr) (x : Nat × Frm) : PyData := .tuple [.int ((x.1 : Nat) : Int), .int ((x.2.1 : Nat) : Int), .str (if mkOf x ∈ m.sent then "sent" else "fresh")]
def sp_ckept (C CL : Addr) : Sp := fun vs H Q _ => ∃ (A : Ca) (ps : List (Addr × Addr × Addr)) (room z : Nat) (ns : List (List Int × List Nat)) (m : Cr) (qv : List KF) (gs : List V), vs = [.ref A.c] ∧ CAt C CL H A ps room z ns m qv gs ∧
  ∀ p us H', H' p = some (.lst us) → TDs H' us (m.q.map (keptD m)) → H p = none → Same H H' → Q (.ref p) H'
theorem ok_Craft_kept (T : Tx K mg) : FnOk P w K mg base CX0 1 T.a_Craft_kept T.d_Craft_kept ["self"] (sp_ckept T.A_Craft T.A_Laying) := by
  have nd := sc_Craft_kept.nd
  refine T.F_Craft_kept.ok sc_Craft_kept (fun vs H Q E h => ?_) (fun cdv A0 outer s H vs Q E hr h => ?_)
  · obtain ⟨_, _, _, _, _, _, _, _, rfl, _⟩ := h
    rfl
  · obtain ⟨A, ps, room, z, ns, m, qv, gs, rfl, hC, fin⟩ := h
    obtain ⟨c1, c2, c3, c4, c5⟩ := hC.nec
    have hql := hC.qlen
    have hfew := hC.ok.few
    have hr60 := hC.r60.2
    refine ⟨_, (pss_cons (ps_set (i := 1) nd rfl (Or.inl rfl) (pe_lst pa_nil)) (pss_cons (ps_lock (ps_for PassesOwn.never rfl (pi_keys (pe_fld (pv 0) rfl)) (pg_tup rfl (pgs_cons (pg_name (i := 2) nd rfl (Or.inl rfl)) (pgs_cons (pg_name (i := 3) nd rfl (Or.inl rfl)) pgs_nil))) (pss_cons (ps_set (i := 4) nd rfl (Or.inl rfl) (pe_ifExp (pt_cmp (pc_din (hu_of hr) (pe_tup (pa_cons (pv 2) (pa_cons (pv 3) pa_nil))) (pe_fld (pv 0) rfl))) pe_str pe_str)) (pss_one (ps_expr (pe_bm PySem.F.plainAttrs_list PySem.F.slot_list_append PySem.F.type_list_append mt_append (pv 1) (pa_cons (pe_tup (pa_cons (pv 2) (pa_cons (pv 3) (pa_cons (pv 4) pa_nil)))) pa_nil))))))) (pss_one (ps_ret (pv 1))))), ?_⟩
    refine ⟨Nat.zero_le _, fun D hD0 => ?_⟩
    have nfD : A.fr ≠ D := ne_of_none hC.fr hD0
    have s1 := same_new (Same.refl H) hD0 (o := .lst [])
    have hD1 : upd H D (.lst []) D = some (.lst []) := upd_same
    have hC1 := hC.same s1
    generalize upd H D (.lst []) = H1 at *
    refine ⟨A.fr, _, hC1.fr, True.intro, fun od => ?_⟩
    have k2 : Keep [A.fr] H1 (upd H1 A.fr (.frz od (.dT (framesD qv)))) := keep_upd (Keep.refl _ _) (by simp)
    have f2 : upd H1 A.fr (.frz od (.dT (framesD qv))) A.fr = some (.frz od (.dT (framesD qv))) := upd_same
    have hD2 : upd H1 A.fr (.frz od (.dT (framesD qv))) D = some (.lst []) := by rw [upd_ne nfD.symm]; exact hD1
    generalize upd H1 A.fr (.frz od (.dT (framesD qv))) = H2 at *
    refine ⟨_, rfl, A.c, _, A.dx, _, _, rfl, k2 _ _ (by simp [c1]) hC1.o, T.cl_Craft, T.n_Craft_frames, cf_frames, A.fr, od, rfl, .inr ⟨_, f2, ?_⟩⟩
    refine for_keysT (d := A.fr) (od := od) (kvs := framesD qv) (fun i σ H' => ∃ (v2 v3 v4 : Option V) (xs : List V), σ = [some (.ref A.c), some (.ref D), v2, v3, v4] ∧ H' D = some (.lst xs) ∧ TDs H' xs ((m.q.take i).map (keptD m)) ∧ H' A.fr = some (.frz od (.dT (framesD qv))) ∧ Keep [A.fr, D] H1 H') ⟨_, _, _, [], rfl, hD2, .nil, f2, k2.mono (by simp)⟩ (fun i σ H' _ ⟨_, _, _, _, _, _, _, e, _⟩ => e) ?_ ?_
    · rintro i kk v q σ H3 hi hq ⟨v2, v3, v4, xs, rfl, hL, tL, f3, k3⟩
      obtain ⟨y, hy, rfl, rfl⟩ := mark_key hi
      have hyq : m.q[i]? = some y.1 := by rw [← hC.qe, List.getElem?_map, hy]; rfl
      have hil := (List.getElem?_eq_some_iff.mp hy).1
      have hxl : xs.length ≤ i := by rw [tL.length, List.length_map, List.length_take]; omega
      refine ⟨q, _, rfl, SqT.of hq, rfl, _, _, rfl, _, _, rfl, rfl, ?_⟩
      refine ⟨_, rfl, _, rfl, (by decide : (2 : Nat) ≤ sizeLine), fun t ht => ?_⟩
      have nDt : D ≠ t := ne_of_none hL ht
      have nft : A.fr ≠ t := ne_of_none f3 ht
      have s4 := same_new (Same.refl H3) ht (o := .tup [kV (Sum.inl (((mkOf y.1).1 : Nat) : Int)), kV (Sum.inl (((mkOf y.1).2 : Nat) : Int))])
      have ht4 : upd H3 t (.tup [kV (Sum.inl (((mkOf y.1).1 : Nat) : Int)), kV (Sum.inl (((mkOf y.1).2 : Nat) : Int))]) t = some (.tup ((mkK (mkOf y.1)).map kV)) := upd_same
      have hL4 := s4 _ _ hL
      have f4 := s4 _ _ f3
      have tL4 := tL.mono (TSm.of_same s4)
      have k4 := k3.trans (Keep.of_same s4)
      generalize upd H3 t (.tup [kV (Sum.inl (((mkOf y.1).1 : Nat) : Int)), kV (Sum.inl (((mkOf y.1).2 : Nat) : Int))]) = H4 at *
      refine ⟨_, rfl, A.c, _, A.dx, _, _, rfl, k4 _ _ (by simp [c1, ne_of hC1.o hD1 (by intro e; cases e)]) hC1.o, T.cl_Craft, T.n_Craft_sent, cf_sent, A.se, _, rfl, DGet.t (k := mkK (mkOf y.1)) (k4 _ _ (by simp [hC.d1.symm, ne_of hC1.se hD1 (by intro e; cases e)]) hC1.se) ht4, _, rfl, ?_⟩
      rw [true_in]
      refine ife_skip (fun u H5 => u = .str (if mkOf y.1 ∈ m.sent then "sent" else "fresh") ∧ H5 = H4) (fun u H5 ⟨eu, e5⟩ => ?_) (fun e rest => ?_) (fun e rest => ?_)
      · subst eu e5
        refine ⟨_, rfl, .inl ⟨rfl, _, SqL.of hL4⟩, _, rfl, _, rfl, _, rfl, (by decide : (3 : Nat) ≤ sizeLine), fun t2 ht2 => ?_⟩
        have nDt2 : D ≠ t2 := ne_of_none hL4 ht2
        have nft2 : A.fr ≠ t2 := ne_of_none f4 ht2
        generalize hst : (V.str (if mkOf y.1 ∈ m.sent then "sent" else "fresh")) = sv at *
        have t5 := TSm.of_same (same_new (Same.refl H5) ht2 (o := .tup [.int ((y.1.1 : Nat) : Int), .int ((y.1.2.1 : Nat) : Int), sv]))
        refine ⟨D, xs, _, rfl, rfl, by rw [upd_ne nDt2]; exact hL4, lt_line (by omega), _, _, _, _, rfl, upd_same, ?_, by rw [upd_ne nfD, upd_ne nft2]; exact f4, keep_upd (keep_new' k4 ht2) (by simp)⟩
        have t6 : TSm (upd H5 t2 (.tup [.int ((y.1.1 : Nat) : Int), .int ((y.1.2.1 : Nat) : Int), sv])) (upd (upd H5 t2 (.tup [.int ((y.1.1 : Nat) : Int), .int ((y.1.2.1 : Nat) : Int), sv])) D (.lst (xs ++ [.ref t2]))) := ts_upd (TSm.refl _) (NoT.lst (by rw [upd_ne nDt2]; exact hL4))
        rw [List.take_add_one, hyq, Option.toList_some, List.map_append]
        refine ((tL4.mono t5).mono t6).app (.one (TD.mono t6 (.tup upd_same (.cons (.int _) (.cons (.int _) (.cons ?_ .nil))))))
        rw [← hst]
        exact .str _
      · exact rest _ _ ⟨by rw [if_pos (of_decide_eq_true e)], rfl⟩
      · exact rest _ _ ⟨by rw [if_neg (fun z => e (decide_eq_true z))], rfl⟩
    · rintro σ H3 ⟨v2, v3, v4, xs, rfl, hL, tL, f3, k3⟩
      rw [show (framesD qv).length = qv.length from keysD_len qv, hql, List.take_length] at tL
      refine ⟨f3, ?_⟩
      have s4 : Same H (upd H3 A.fr (.dT (framesD qv))) := fun b o e => by
        by_cases zf : b = A.fr
        · subst zf
          rw [upd_same, ← hC.fr]
          exact e
        · rw [upd_ne zf]
          refine k3 b o ?_ (s1 _ _ e)
          simp only [List.mem_cons, List.not_mem_nil, or_false, not_or]
          exact ⟨zf, ne_of_none e hD0⟩
      have t5 : TSm H3 (upd H3 A.fr (.dT (framesD qv))) := ts_upd (TSm.refl _) (fun ys e => by rw [f3] at e; cases e)
      exact ⟨_, rfl, fin D xs _ (by rw [upd_ne nfD.symm]; exact hL) (tL.mono t5) hD0 s4⟩
end
end K10

namespace K10
open PySem PySem.Spec PyProof.Rows L2 Sky
theorem set_same {α : Type} : ∀ {l : List α} {i : Nat} {x : α}, l[i]? = some x → l.set i x = l
  | [], _, _, h => by simp at h
  | y :: l, 0, x, h => by
    have e : y = x := Option.some.inj h
    rw [e]; rfl
  | y :: l, i + 1, x, h => by
    show y :: l.set i x = y :: l
    rw [set_same (by simpa using h)]
theorem nodup_set {l : List Addr} (nd : l.Nodup) {i : Nat} {x : Addr} (h : x ∉ l ∨ l[i]? = some x) : (l.set i x).Nodup := by
  rcases h with h | h
  · refine List.pairwise_iff_getElem.mpr fun j k hj hk hjk => ?_
    rw [List.length_set] at hj hk
    rw [List.getElem_set, List.getElem_set]
    have hjk2 := List.pairwise_iff_getElem.mp nd j k hj hk hjk
    split
    · split
      · omega
      · intro e; exact h (by rw [e]; exact List.getElem_mem hk)
    · split
      · intro e; exact h (by rw [← e]; exact List.getElem_mem hj)
      · exact hjk2
  · rw [set_same h]; exact nd
def tFrames (z : Nat) (n : List Int × List Nat) (t : List Int) : List Frm := (frms z (lay1 n t).1 (lay1 n t).2).drop (n.1.length / z)
def Cr.keeps (room : Nat) (m : Cr) (s : Nat) (fs : List Frm) : Cr := fs.foldl (fun m f => m.keep room (s, f)) m
theorem keeps_snoc (room : Nat) (m : Cr) (s : Nat) (fs : List Frm) (f : Frm) : m.keeps room s (fs ++ [f]) = (m.keeps room s fs).keep room (s, f) := by
  unfold Cr.keeps
  rw [List.foldl_append]
  rfl
theorem makeRoom_q {m : Cr} {x : Nat × Frm} (h : x ∈ m.makeRoom.q) : x ∈ m.q := by
  unfold Cr.makeRoom at h
  split at h
  · exact (List.mem_filter.mp h).1
  · split at h
    · exact (List.mem_filter.mp h).1
    · exact h
theorem keep_q {room : Nat} {m : Cr} {x y : Nat × Frm} (h : x ∈ (m.keep room y).q) : x ∈ m.q ∨ x = y := by
  unfold Cr.keep at h
  split at h
  · rcases List.mem_append.mp h with z | z
    · exact .inl (makeRoom_q z)
    · exact .inr (List.mem_singleton.mp z)
  · rcases List.mem_append.mp h with z | z
    · exact .inl z
    · exact .inr (List.mem_singleton.mp z)
theorem keep_gone (room : Nat) (m : Cr) (y : Nat × Frm) : (m.keep room y).gone.length ≤ m.gone.length + 1 := by
  unfold Cr.keep
  split
  · exact makeRoom_gone_le m
  · exact Nat.le_succ _
/-- what is kept was made -/
def Below (m : Cr) (z : Nat) (ns : List (List Int × List Nat)) : Prop := ∀ x ∈ m.q, ∃ n, ns[x.1]? = some n ∧ x.2.1 < n.1.length / z
theorem tFrames_at {z : Nat} {n : List Int × List Nat} {t : List Int} {i : Nat} {f : Frm} (h : (tFrames z n t)[i]? = some f) : f.1 = n.1.length / z + i ∧ f.1 < (lay1 n t).1.length / z := by
  unfold tFrames frms at h
  rw [List.getElem?_drop] at h
  obtain ⟨c, hc, rfl⟩ := map_get h
  have hl := (List.getElem?_eq_some_iff.mp hc).1
  rw [List.length_range] at hl
  rw [List.getElem?_range hl] at hc
  have e : n.1.length / z + i = c := Option.some.inj hc
  subst e
  exact ⟨rfl, hl⟩
theorem lay1_len (n : List Int × List Nat) (t : List Int) : (lay1 n t).1.length = n.1.length + (t.length + 3) := by
  show (n.1 ++ laidN _ t).length = _
  rw [List.length_append, laidN_length]
theorem div_more {z a b : Nat} (hz : 0 < z) : (a + b) / z ≤ a / z + b := by
  have h1 := div_hi hz a
  have h2 : b ≤ b * z := Nat.le_mul_of_pos_right b hz
  have h3 : (a + b) / z < a / z + b + 1 := by
    rw [Nat.div_lt_iff_lt_mul hz, Nat.add_mul, Nat.add_mul, Nat.one_mul]
    omega
  omega
theorem tFrames_len {z : Nat} {n : List Int × List Nat} {t : List Int} (hz : 0 < z) (ht : t.length ≤ 20) : (tFrames z n t).length ≤ 23 := by
  unfold tFrames
  rw [List.length_drop, frms_length, lay1_len]
  have := div_more (a := n.1.length) (b := t.length + 3) hz
  omega
theorem laid_grow {z : Nat} {n : List Int × List Nat} {t : List Int} : n.1.length / z ≤ (lay1 n t).1.length / z := by
  rw [lay1_len]
  exact Nat.div_le_div_right (by omega)
theorem CAt.relay {C CL : Addr} {H H' : Hp} {A : Ca} {ps : List (Addr × Addr × Addr)} {room z : Nat} {ns : List (List Int × List Nat)} {m : Cr} {qv : List KF} {gs : List V} (h : CAt C CL H A ps room z ns m qv gs) {s : Nat} {p : Addr × Addr × Addr} {n n' : List Int × List Nat} (hp : ps[s]? = some p) (hn : ns[s]? = some n) {l' : Addr}
    (k : Keep [p.1, p.2.2] H H') (hl : LAt CL H' p.1 p.2.1 l' ((s : Nat) : Int) z n'.1 n'.2) (laid : Laid n'.1 n'.2) (fresh : l' = p.2.2 ∨ H l' = none) : CAt C CL H' A (ps.set s (p.1, p.2.1, l')) room z (ns.set s n') m qv gs := by
  have hpm := List.mem_of_getElem? hp
  obtain ⟨⟨hi, hls⟩, _⟩ := h.lay s p n hp hn
  obtain ⟨pc1, pc2, pc3⟩ := h.pc p hpm
  have ts : TSm H H' := k.ts fun a ha => by
    rcases List.mem_cons.mp ha with e | e
    · rw [e]; exact NoT.ins hi
    · rw [List.mem_singleton.mp e]; exact NoT.lst hls
  have g : ∀ a o, H a = some o → a ≠ p.1 → a ≠ p.2.2 → H' a = some o := fun a o e n1 n2 => k a o (by simp [n1, n2]) e
  have e1 : (ps.set s (p.1, p.2.1, l')).map (fun p => p.1) = ps.map fun p => p.1 := by
    rw [List.map_set]
    exact set_same (by rw [List.getElem?_map, hp]; rfl)
  have e1r : (ps.set s (p.1, p.2.1, l')).map (fun p => V.ref p.1) = ps.map fun p => V.ref p.1 := by
    rw [List.map_set]
    exact set_same (by rw [List.getElem?_map, hp]; rfl)
  have hlen := (List.getElem?_eq_some_iff.mp hp).1
  have hlenn := (List.getElem?_eq_some_iff.mp hn).1
  refine ⟨g _ _ h.o pc1.symm (ne_of h.o hls (by intro e; cases e)), by rw [e1r]; exact g _ _ h.la (ne_of h.la hi (by intro e; cases e)) pc2.symm, by rw [List.length_set]; exact h.pl, by rw [List.length_set]; exact h.nl, fun i q r hq hr => ?_, g _ _ h.fr (ne_of h.fr hi (by intro e; cases e)) (ne_of h.fr hls (by intro e; cases e)), h.qe, fun x hx => (h.ft x hx).mono ts, g _ _ h.se (ne_of h.se hi (by intro e; cases e)) (ne_of h.se hls (by intro e; cases e)), g _ _ h.ak (ne_of h.ak hi (by intro e; cases e)) (ne_of h.ak hls (by intro e; cases e)), g _ _ h.go (ne_of h.go hi (by intro e; cases e)) pc3.symm, h.gt.mono ts, h.ok, h.r60, h.d1, h.d2, h.d3, h.d4, fun q hq => ?_, by rw [e1]; exact h.pd, ?_⟩
  · by_cases e : i = s
    · subst e
      rw [List.getElem?_set_self hlen] at hq
      rw [List.getElem?_set_self hlenn] at hr
      rw [← Option.some.inj hq, ← Option.some.inj hr]
      exact ⟨hl, laid⟩
    · rw [List.getElem?_set_ne (fun z => e z.symm)] at hq hr
      obtain ⟨⟨h1, h2⟩, h3⟩ := h.lay i q r hq hr
      have il := (List.getElem?_eq_some_iff.mp hq).1
      have n1 : q.1 ≠ p.1 := fun z => by
        have a1 : (ps.map (·.1))[i]? = some q.1 := by rw [List.getElem?_map, hq]; rfl
        have a2 : (ps.map (·.1))[s]? = some p.1 := by rw [List.getElem?_map, hp]; rfl
        exact e ((List.getElem?_inj (by rw [List.length_map]; exact il) h.pd).mp (by rw [a1, a2, z]))
      have n2 : q.2.2 ≠ p.2.2 := fun z => by
        have a1 : (ps.map (·.2.2))[i]? = some q.2.2 := by rw [List.getElem?_map, hq]; rfl
        have a2 : (ps.map (·.2.2))[s]? = some p.2.2 := by rw [List.getElem?_map, hp]; rfl
        exact e ((List.getElem?_inj (by rw [List.length_map]; exact il) h.ld).mp (by rw [a1, a2, z]))
      exact ⟨⟨g _ _ h1 n1 (ne_of h1 hls (by intro e; cases e)), g _ _ h2 (ne_of h2 hi (by intro e; cases e)) n2⟩, h3⟩
  · rcases List.mem_or_eq_of_mem_set hq with e | e
    · exact h.pc q e
    · rw [e]
      refine ⟨pc1, ?_, ?_⟩
      · rcases fresh with f | f
        · show l' ≠ _; rw [f]; exact pc2
        · exact (ne_of_none h.la f).symm
      · rcases fresh with f | f
        · show l' ≠ _; rw [f]; exact pc3
        · exact (ne_of_none h.go f).symm
  · rw [List.map_set]
    refine nodup_set h.ld ?_
    rcases fresh with f | f
    · right; show _ = some l'; rw [f, List.getElem?_map, hp]; rfl
    · left
      intro hm
      obtain ⟨q, hq, eq⟩ := List.mem_map.mp hm
      obtain ⟨_, _, _, _, _, q2⟩ := h.lays hq
      rw [show q.2.2 = l' from eq, f] at q2
      cases q2
theorem cM_set {A : Ca} {ps : List (Addr × Addr × Addr)} {s : Nat} {p : Addr × Addr × Addr} {l' x : Addr} (hp : ps[s]? = some p) (h : x ∈ cM A (ps.set s (p.1, p.2.1, l'))) : x ∈ cM A ps ∨ x = l' := by
  unfold cM at *
  rcases List.mem_append.mp h with h | h
  · rcases List.mem_append.mp h with h | h
    · exact .inl (List.mem_append_left _ (List.mem_append_left _ h))
    · obtain ⟨q, hq, rfl⟩ := List.mem_map.mp h
      rcases List.mem_or_eq_of_mem_set hq with e | e
      · exact .inl (List.mem_append_left _ (List.mem_append_right _ (List.mem_map.mpr ⟨q, e, rfl⟩)))
      · rw [e]
        exact .inl (List.mem_append_left _ (List.mem_append_right _ (List.mem_map.mpr ⟨p, List.mem_of_getElem? hp, rfl⟩)))
  · obtain ⟨q, hq, rfl⟩ := List.mem_map.mp h
    rcases List.mem_or_eq_of_mem_set hq with e | e
    · exact .inl (List.mem_append_right _ (List.mem_map.mpr ⟨q, e, rfl⟩))
    · rw [e]; exact .inr rfl
section
variable {P : Program} {w : World} {K : PySem.W.Frag} {mg : Str → Option Value} {base : Heap}
theorem cM4 {A : Ca} {ps : List (Addr × Addr × Addr)} : ∀ x ∈ [A.fr, A.se, A.ak, A.go], x ∈ cM A ps := by
  intro x hx
  unfold cM
  refine List.mem_append_left _ (List.mem_append_left _ ?_)
  simp only [List.mem_cons, List.not_mem_nil, or_false] at hx ⊢
  rcases hx with e | e | e | e <;> simp [e]
theorem cMp {A : Ca} {ps : List (Addr × Addr × Addr)} {p : Addr × Addr × Addr} (hp : p ∈ ps) : ∀ x ∈ [p.1, p.2.2], x ∈ cM A ps := by
  intro x hx
  unfold cM
  rcases List.mem_cons.mp hx with e | e
  · rw [e]; exact List.mem_append_left _ (List.mem_append_right _ (List.mem_map.mpr ⟨p, hp, rfl⟩))
  · rw [List.mem_singleton.mp e]; exact List.mem_append_right _ (List.mem_map.mpr ⟨p, hp, rfl⟩)
/-! ### tell -/
def sp_tell (C CL : Addr) : Sp := fun vs H Q _ => ∃ (A : Ca) (ps : List (Addr × Addr × Addr)) (room z : Nat) (ns : List (List Int × List Nat)) (m : Cr) (qv : List KF) (gs : List V) (s : Nat) (n : List Int × List Nat) (a : Addr) (t : List Int), vs = [.ref A.c, .int ((s : Nat) : Int), .ref a] ∧ CAt C CL H A ps room z ns m qv gs ∧ Below m z ns ∧
  ns[s]? = some n ∧ H a = some (.tup (t.map V.int)) ∧ tellOk t ∧ 8 ≤ z ∧ z ≤ 24 ∧ m.gone.length + 30 ≤ 1000000 ∧
  ∀ H' ps' qv' gs', CAt C CL H' A ps' room z (ns.set s (lay1 n t)) (m.keeps room s (tFrames z n t)) qv' gs' → Below (m.keeps room s (tFrames z n t)) z (ns.set s (lay1 n t)) → (m.keeps room s (tFrames z n t)).gone.length ≤ m.gone.length + 23 → (∀ x ∈ cM A ps', x ∈ cM A ps ∨ H x = none) → Keep (cM A ps) H H' → Dom H H' → Q (.int ((n.2.length : Nat) : Int)) H'
theorem ok_Craft_tell (T : Tx K mg) : FnOk P w K mg base CX0 5 T.a_Craft_tell T.d_Craft_tell ["self", "stream", "data"] (sp_tell T.A_Craft T.A_Laying) := by
  have nd := sc_Craft_tell.nd
  refine T.F_Craft_tell.ok sc_Craft_tell (fun vs H Q E h => ?_) (fun cdv A0 outer s0 H vs Q E hr h => ?_)
  · obtain ⟨_, _, _, _, _, _, _, _, _, _, _, _, rfl, _⟩ := h
    rfl
  · obtain ⟨A, ps, room, z, ns, m, qv, gs, s, n, a, t, rfl, hC, hB, hn, ha, ht, hz8, hz24, hgl, fin⟩ := h
    have hs4 : s < 4 := by
      have := (List.getElem?_eq_some_iff.mp hn).1
      rw [hC.nl] at this
      exact this
    obtain ⟨p, hp⟩ : ∃ p, ps[s]? = some p := ⟨_, List.getElem?_eq_getElem (by rw [hC.pl]; exact hs4)⟩
    have hpm := List.mem_of_getElem? hp
    refine ⟨_, (pss_cons (ps_expr (pe_call (ok_check_stream T) (hr.mono (by decide)) (by rfl) T.m_check_stream T.F_check_stream.kp T.b_check_stream .nil pass0 (pa_cons (pv 1) pa_nil))) (pss_cons (ps_expr (pe_call (ok_check_telling T) (hr.mono (by decide)) (by rfl) T.m_check_telling T.F_check_telling.kp T.b_check_telling .nil pass0 (pa_cons (pv 2) pa_nil))) (pss_cons (ps_set (i := 3) nd rfl (Or.inl rfl) (pe_ix ix_list (pe_fld (pv 0) rfl) (pv 1) (fun _ _ => rfl))) (pss_cons (ps_set (i := 4) nd rfl (Or.inl rfl) (pe_fld (pv 3) rfl)) (pss_cons (ps_for PassesOwn.never rfl (pi_list (pe_meth (pv 3) T.cl_Laying T.M_Laying_lay (ok_Laying_lay T) (hr.mono (by decide)) T.b_Laying_lay .nil pass0 (pa_cons (pv 2) pa_nil))) (pg_name (i := 5) nd rfl (Or.inl rfl)) (pss_one (ps_expr (pe_meth (pv 0) T.cl_Craft T.M_Craft_keep (ok_Craft_keep T) (hr.mono (by decide)) T.b_Craft_keep .nil pass0 (pa_cons (pv 5) pa_nil))))) (pss_one (ps_ret (pv 4)))))))), ?_⟩
    refine ⟨_, rfl, ((s : Nat) : Int), rfl, by omega, by omega, ?_⟩
    refine ⟨_, rfl, a, t, rfl, ha, ht, fun H1 s1 => ?_⟩
    have hC1 := hC.same s1
    have hpv : (ps.map fun p => V.ref p.1)[s]? = some (.ref p.1) := by rw [List.getElem?_map, hp]; rfl
    refine ⟨_, rfl, A.c, _, A.dx, _, _, rfl, hC1.o, T.cl_Craft, T.n_Craft_layings, cf_layings, _, rfl, A.la, _, ((s : Nat) : Int), _, rfl, rfl, SqL.of hC1.la, atI_nat hpv, ?_⟩
    obtain ⟨⟨hi, hls⟩, laid⟩ := hC1.lay s p n hp hn
    refine ⟨_, rfl, p.1, _, p.2.1, _, _, rfl, hi, T.cl_Laying, T.n_Laying_many, lf_many, ?_⟩
    refine ⟨_, rfl, p.1, p.2.1, _, rfl, hi, lf_no (by decide), _, rfl, p.1, p.2.1, p.2.2, a, ((s : Nat) : Int), z, n.1, n.2, t, rfl, ⟨hi, hls⟩, by omega, by omega, laid, s1 _ _ ha, by have := ht.2.1; omega, fun r us H2 l' hr2 tu hL2 fr2 nr k2 d2 => ?_⟩
    have hC2 := hC1.relay hp hn k2 hL2 (laid.lay1 t) fr2
    have k02 : Keep (cM A ps) H H2 := (Keep.of_same s1).trans (k2.mono (cMp hpm))
    have d02 : Dom H H2 := (Dom.of_same s1).trans d2
    have hcM : ∀ x ∈ cM A (ps.set s (p.1, p.2.1, l')), x ∈ cM A ps ∨ H x = none := fun x hx => by
      rcases cM_set hp hx with e | e
      · exact .inl e
      · rw [e]
        rcases fr2 with f | f
        · rw [f]; exact .inl (cMp hpm _ (by simp))
        · exact .inr (s1.free f)
    have nfr : A.fr ≠ r := ne_of_none hC1.fr nr
    have nse : A.se ≠ r := ne_of_none hC1.se nr
    have nak : A.ak ≠ r := ne_of_none hC1.ak nr
    have ngo : A.go ≠ r := ne_of_none hC1.go nr
    change TDs H2 us ((tFrames z n t).map (frmD ((s : Nat) : Int))) at tu
    change CAt T.A_Craft T.A_Laying H2 A (ps.set s (p.1, p.2.1, l')) room z (ns.set s (lay1 n t)) m qv gs at hC2
    have hfl := tFrames_len (n := n) (t := t) (show 0 < z by omega) ht.2.1
    have hul : us.length = (tFrames z n t).length := by rw [tu.length, List.length_map]
    have hFs : ∀ i f, (tFrames z n t)[i]? = some f → f.1 = n.1.length / z + i ∧ f.1 < (lay1 n t).1.length / z := fun i f h => tFrames_at h
    have hgrow := laid_grow (z := z) (n := n) (t := t)
    generalize tFrames z n t = fs at *
    generalize ps.set s (p.1, p.2.1, l') = ps2 at *
    refine ⟨r, rfl, ⟨_, SqL.of hr2⟩, ?_⟩
    refine for_list (K := K) (a := r) (xs := us) (fun i σ H' => ∃ (v5 : Option V) (qv' : List KF) (gs' : List V), σ = [some (.ref A.c), some (.int ((s : Nat) : Int)), some (.ref a), some (.ref p.1), some (.int ((n.2.length : Nat) : Int)), v5] ∧ CAt T.A_Craft T.A_Laying H' A ps2 room z (ns.set s (lay1 n t)) (m.keeps room s (fs.take i)) qv' gs' ∧
      (∀ x ∈ (m.keeps room s (fs.take i)).q, x ∈ m.q ∨ (x.1 = s ∧ x.2.1 < n.1.length / z + i ∧ x.2.1 < (lay1 n t).1.length / z)) ∧ (m.keeps room s (fs.take i)).gone.length ≤ m.gone.length + i ∧ Keep [A.fr, A.se, A.ak, A.go] H2 H' ∧ Dom H2 H') ⟨_, qv, gs, rfl, hC2, fun x hx => .inl hx, Nat.le_refl _, Keep.refl _ _, Dom.refl _⟩ (fun i σ H' _ ⟨_, _, _, _, _, _, _, k, _⟩ => SqL.of (k _ _ (by simp [nfr.symm, nse.symm, nak.symm, ngo.symm]) hr2)) ?_ ?_
    · rintro i y σ H3 hy ⟨v5, qv3, gs3, rfl, hC3, hin, hg3, k3, d3⟩
      obtain ⟨d, hd, td⟩ := tu.get hy
      obtain ⟨f, hf, rfl⟩ := map_get hd
      obtain ⟨f1, f2⟩ := hFs i f hf
      have hil := (List.getElem?_eq_some_iff.mp hf).1
      have esn : fs.take (i + 1) = fs.take i ++ [f] := by rw [List.take_add_one, hf]; rfl
      rw [esn, keeps_snoc]
      generalize m.keeps room s (fs.take i) = mi at *
      have hnew : mkOf (s, f) ∉ mi.marks := by
        intro hm
        obtain ⟨x, hx, ex⟩ := List.mem_map.mp hm
        have e1 : x.1 = s := congrArg Prod.fst ex
        have e2 : x.2.1 = f.1 := congrArg Prod.snd ex
        rcases hin x hx with z1 | z1
        · obtain ⟨n2, h1, h2⟩ := hB x z1
          rw [e1, hn] at h1
          rw [← Option.some.inj h1] at h2
          omega
        · omega
      refine ⟨_, rfl, A.c, A.dx, _, rfl, hC3.o, cf_no (by decide), _, rfl, A, ps2, room, z, ns.set s (lay1 n t), mi, qv3, gs3, y, (s, f), rfl, hC3, td.mono (k3.ts hC2.noT4), hnew, by omega, fun H4 qv4 gs4 hC4 k4 d4 => ?_⟩
      refine ⟨_, qv4, gs4, rfl, hC4, fun x hx => ?_, ?_, k3.trans k4, d3.trans d4⟩
      · rcases keep_q hx with e | e
        · rcases hin x e with z1 | z1
          · exact .inl z1
          · exact .inr ⟨z1.1, by omega, z1.2.2⟩
        · right
          rw [e]
          exact ⟨rfl, by show f.1 < _; omega, f2⟩
      · have := keep_gone room mi (s, f)
        omega
    · rintro σ H3 ⟨v5, qv3, gs3, rfl, hC3, hin, hg3, k3, d3⟩
      rw [hul, List.take_length] at hC3 hin hg3
      refine ⟨_, rfl, fin H3 ps2 qv3 gs3 hC3 (fun x hx => ?_) (by omega) hcM (k02.trans (k3.mono cM4)) (d02.trans d3)⟩
      have hlenn := (List.getElem?_eq_some_iff.mp hn).1
      rcases hin x hx with e | e
      · obtain ⟨n2, h1, h2⟩ := hB x e
        by_cases c : x.1 = s
        · rw [c, hn] at h1
          rw [← Option.some.inj h1] at h2
          exact ⟨lay1 n t, by rw [c]; exact List.getElem?_set_self hlenn, by omega⟩
        · exact ⟨n2, by rw [List.getElem?_set_ne (fun z => c z.symm)]; exact h1, h2⟩
      · exact ⟨lay1 n t, by rw [e.1]; exact List.getElem?_set_self hlenn, e.2.2⟩
end
end K10

namespace K10
open PySem PySem.Spec PyProof.Rows L2 Sky
section
variable {P : Program} {w : World} {K : PySem.W.Frag} {mg : Str → Option Value} {base : Heap}
/-! ### __init__ -/
def sp_cinit (C CL : Addr) : Sp := fun vs H Q _ => ∃ (c dx : Addr) (z room : Nat), vs = [.ref c, .int (z : Nat), .int (room : Nat)] ∧ H c = some (.ins C dx []) ∧ 8 ≤ z ∧ z ≤ 24 ∧ 1 ≤ room ∧ room ≤ 60 ∧
  ∀ (A : Ca) ps H', A.c = c → CAt C CL H' A ps room z (List.replicate 4 ([], [])) Cr.new [] [] → (∀ x ∈ cM A ps, x = c ∨ H x = none) → Keep [c] H H' → Dom H H' → Q .non H'
theorem ok_Craft_init (T : Tx K mg) : FnOk P w K mg base CX0 3 T.a_Craft_init T.d_Craft_init ["self", "size", "room"] (sp_cinit T.A_Craft T.A_Laying) := by
  have nd := sc_Craft_init.nd
  refine T.F_Craft_init.ok sc_Craft_init (fun vs H Q E h => ?_) (fun cdv A0 outer s0 H vs Q E hr h => ?_)
  · obtain ⟨_, _, _, _, rfl, _⟩ := h
    rfl
  · obtain ⟨c, dx, z, room, rfl, hc, hz8, hz24, hr1, hr60, fin⟩ := h
    refine ⟨_, (pss_cons (ps_expr (pe_call (ok_check_size T) (hr.mono (by decide)) (by rfl) T.m_check_size T.F_check_size.kp T.b_check_size .nil pass0 (pa_cons (pv 1) pa_nil))) (pss_cons (ps_expr (pe_call (ok_check_room T) (hr.mono (by decide)) (by rfl) T.m_check_room T.F_check_room.kp T.b_check_room .nil pass0 (pa_cons (pv 2) pa_nil))) (pss_cons (ps_fld (pv 0) (pv 2) rfl) (pss_cons (ps_fld (pv 0) (pe_lc (own := [("stream", 3)]) rfl nd (pi_range1 rfl T.z_range (pa_cons (pe_glob (v := .int 4) (by rfl) T.c_STREAMS ⟨_, rfl⟩) pa_nil)) (blkOk_by (own := [("stream", 3)]) (N := N_Craft_init) (sc := defScope s_Craft_init) (by decide +kernel)) (fun _ _ _ _ _ => (pg_name (i := 3) nd rfl (Or.inl rfl))) (fun _ _ _ _ _ => pts_nil) (fun _ _ _ _ _ => (pe_make T.mk_Laying (ok_Laying_init T) (hr.mono (by decide)) (by rfl) T.m_Laying T.b_Laying_init .nil pass0 (pa_cons (pv 3) (pa_cons (pv 1) pa_nil))))) rfl) (pss_cons (ps_fld (pv 0) pe_bl rfl) (pss_cons (ps_fld (pv 0) pe_dnewT rfl) (pss_cons (ps_fld (pv 0) pe_dnewT rfl) (pss_cons (ps_fld (pv 0) pe_dnewT rfl) (pss_one (ps_fld (pv 0) (pe_lst pa_nil) rfl)))))))))), ?_⟩
    refine ⟨_, rfl, ((z : Nat) : Int), rfl, by omega, by omega, ?_⟩
    refine ⟨_, rfl, room, rfl, hr1, hr60, ?_⟩
    refine ⟨_, rfl, _, rfl, c, _, dx, _, rfl, hc, T.cl_Craft, T.n_Craft_room, (by decide), ?_⟩
    rw [show putF "_room" (V.int ((room : Nat) : Int)) [] = (CF.take 1).zip [.int ((room : Nat) : Int)] from rfl]
    have k1 : Keep [c] H (upd H c (.ins T.A_Craft dx ((CF.take 1).zip [.int ((room : Nat) : Int)]))) := keep_upd (Keep.refl _ _) (by simp)
    have d1 : Dom H (upd H c (.ins T.A_Craft dx ((CF.take 1).zip [.int ((room : Nat) : Int)]))) := dom_upd _ _ _
    have hc1 : upd H c (.ins T.A_Craft dx ((CF.take 1).zip [.int ((room : Nat) : Int)])) c = some (.ins T.A_Craft dx ((CF.take 1).zip [.int ((room : Nat) : Int)])) := upd_same
    generalize upd H c (.ins T.A_Craft dx ((CF.take 1).zip [.int ((room : Nat) : Int)])) = H1 at *
    -- the layings
    refine ⟨4, rfl, by decide, by decide, fun D hD => ?_⟩
    have ncD : c ≠ D := ne_of_none hc1 hD
    refine lc_range (lo := 0) (n := 4) (fun i H' => ∃ ps : List (Addr × Addr × Addr), H' D = some (.lst (ps.map fun p => V.ref p.1)) ∧ ps.length = i ∧ (∀ (j : Nat) p, ps[j]? = some p → LAt T.A_Laying H' p.1 p.2.1 p.2.2 ((j : Nat) : Int) z [] [] ∧ H1 p.1 = none ∧ H1 p.2.2 = none ∧ p.2.2 ≠ D) ∧ (ps.map (·.1)).Nodup ∧ (ps.map (·.2.2)).Nodup ∧ Same H1 H') ⟨[], upd_same, rfl, by simp, by simp, by simp, same_new (Same.refl _) hD⟩ ?_ ?_
    · rintro i H2 hi ⟨ps, hL, hl, hall, n1, n2, s2⟩
      refine ⟨rfl, _, rfl, _, rfl, fun x dx2 hx hdx nxd => ?_⟩
      have hx1 : H1 x = none := s2.free hx
      have s3 : Same H2 (upd (upd H2 dx2 (.own x)) x (.ins T.A_Laying dx2 [])) := same_mut (same_new (Same.refl _) hdx) hx
      refine ⟨x, dx2, _, ((z : Nat) : Int), rfl, upd_same, fun H4 l hp4 hl4 nl4 k4 => ⟨rfl, ?_⟩⟩
      have nDx : D ≠ x := ne_of_none hL hx
      have hL3 := s3 _ _ hL
      have hx3 : upd (upd H2 dx2 (.own x)) x (.ins T.A_Laying dx2 []) x = some (.ins T.A_Laying dx2 []) := upd_same
      generalize upd (upd H2 dx2 (.own x)) x (.ins T.A_Laying dx2 []) = H3 at *
      have hl2 : H2 l = none := s3.free nl4
      have s4 : Same H2 H4 := k4.same s3 (by intro m hm; rw [List.mem_singleton.mp hm]; exact hx)
      have hL4 := s4 _ _ hL
      have nDl : D ≠ l := ne_of_none hL3 nl4
      have nxl : x ≠ l := ne_of_none hx3 nl4
      simp only [Int.zero_add] at hp4
      refine ⟨_, hL4, lt_line (by rw [List.length_map]; omega), ps ++ [(x, dx2, l)], by rw [upd_same, List.map_append]; rfl, by rw [List.length_append, hl]; rfl, fun j p hj => ?_, ?_, ?_, same_mut (s2.trans s4) hD⟩
      · by_cases hj2 : j < i
        · rw [List.getElem?_append_left (by omega)] at hj
          obtain ⟨⟨h1, h2⟩, h3, h4, h5⟩ := hall j p hj
          have e1 := s4 _ _ h1
          have e2 := s4 _ _ h2
          exact ⟨⟨by rw [upd_ne (ne_of e1 hL4 (by intro e; cases e))]; exact e1, by rw [upd_ne h5]; exact e2⟩, h3, h4, h5⟩
        · have hjl := (List.getElem?_eq_some_iff.mp hj).1
          rw [List.length_append, List.length_singleton] at hjl
          have ej : j = i := by omega
          subst ej
          rw [List.getElem?_append_right (by omega), hl, Nat.sub_self] at hj
          rw [← Option.some.inj hj]
          refine ⟨⟨?_, ?_⟩, hx1, s2.free hl2, nDl.symm⟩
          · show upd H4 D _ x = _
            rw [upd_ne nDx.symm, hp4]
            show _ = some (HO.ins T.A_Laying dx2 (lf (((0 : Nat) : Nat) : Int) ((j : Nat) : Int) ((z : Nat) : Int) (((0 / z : Nat) : Nat) : Int) (firstOf z (0 / z) []) l))
            rw [Nat.zero_div]
            rfl
          · show upd H4 D _ l = _
            rw [upd_ne nDl.symm, hl4, List.drop_nil]
            rfl
      · rw [List.map_append, List.nodup_append]
        refine ⟨n1, by simp, fun a ha b hb => ?_⟩
        rw [List.mem_singleton.mp hb]
        obtain ⟨q, hq, rfl⟩ := List.mem_map.mp ha
        obtain ⟨j, hj⟩ := List.getElem?_of_mem hq
        exact ne_of_none (hall j q hj).1.1 hx
      · rw [List.map_append, List.nodup_append]
        refine ⟨n2, by simp, fun a ha b hb => ?_⟩
        rw [List.mem_singleton.mp hb]
        obtain ⟨q, hq, rfl⟩ := List.mem_map.mp ha
        obtain ⟨j, hj⟩ := List.getElem?_of_mem hq
        exact ne_of_none (hall j q hj).1.2 hl2
    · rintro H2 ⟨ps, hL, hl, hall, n1, n2, s2⟩
      have hc2 := s2 _ _ hc1
      refine ⟨_, rfl, c, _, dx, _, rfl, hc2, T.cl_Craft, T.n_Craft_layings, (Nat.lt_of_le_of_lt (zip_len _ _) (by decide)), ?_⟩
      rw [putF_take (i := 1) CF_nd rfl rfl]
      refine ⟨_, rfl, c, _, dx, _, rfl, upd_same, T.cl_Craft, T.n_Craft_window, (Nat.lt_of_le_of_lt (zip_len _ _) (by decide)), ?_⟩
      rw [upd_upd, putF_take (i := 2) CF_nd rfl rfl]
      have hc3 : upd H2 c (.ins T.A_Craft dx ((CF.take (2 + 1)).zip ([.int ((room : Nat) : Int)] ++ [.ref D] ++ [.bl false]))) c = some (.ins T.A_Craft dx ((CF.take (2 + 1)).zip ([.int ((room : Nat) : Int)] ++ [.ref D] ++ [.bl false]))) := upd_same
      have k3 : Keep [c] H2 (upd H2 c (.ins T.A_Craft dx ((CF.take (2 + 1)).zip ([.int ((room : Nat) : Int)] ++ [.ref D] ++ [.bl false])))) := keep_upd (Keep.refl _ _) (by simp)
      have d3 : Dom H2 (upd H2 c (.ins T.A_Craft dx ((CF.take (2 + 1)).zip ([.int ((room : Nat) : Int)] ++ [.ref D] ++ [.bl false])))) := dom_upd _ _ _
      generalize upd H2 c (.ins T.A_Craft dx ((CF.take (2 + 1)).zip ([.int ((room : Nat) : Int)] ++ [.ref D] ++ [.bl false]))) = H3 at *
      -- the dicts
      have hDc : D ≠ c := ncD.symm
      have hL3 := k3 _ _ (by simp [hDc]) hL
      have hall3 : ∀ (j : Nat) p, ps[j]? = some p → LAt T.A_Laying H3 p.1 p.2.1 p.2.2 ((j : Nat) : Int) z [] [] ∧ p.1 ≠ c ∧ p.2.2 ≠ c := fun j p hj => by
        obtain ⟨⟨h1, h2⟩, h3, h4, h5⟩ := hall j p hj
        have e1 : p.1 ≠ c := fun z => by rw [z, hc1] at h3; cases h3
        have e2 : p.2.2 ≠ c := ne_of h2 hc2 (by intro e; cases e)
        exact ⟨⟨k3 _ _ (by simp [e1]) h1, k3 _ _ (by simp [e2]) h2⟩, e1, e2⟩
      clear hL
      intro fr hfr
      have ncf : c ≠ fr := ne_of_none hc3 hfr
      refine ⟨_, rfl, c, _, dx, _, rfl, (by rw [upd_ne ncf]; exact hc3), T.cl_Craft, T.n_Craft_frames, (Nat.lt_of_le_of_lt (zip_len _ _) (by decide)), ?_⟩
      rw [putF_take (i := 3) CF_nd rfl rfl]
      generalize hv3 : ([V.int ((room : Nat) : Int)] ++ [V.ref D] ++ [V.bl false] : List V) = v3 at *
      have lv3 : v3.length = 3 := by rw [← hv3]; rfl
      have kf : Keep [c] H3 (upd (upd H3 fr (.dT [])) c (.ins T.A_Craft dx ((CF.take (3 + 1)).zip (v3 ++ [.ref fr])))) := keep_upd (keep_new' (Keep.refl _ _) hfr) (by simp)
      have df : Dom H3 (upd (upd H3 fr (.dT [])) c (.ins T.A_Craft dx ((CF.take (3 + 1)).zip (v3 ++ [.ref fr])))) := ((Dom.refl _).upd _ _).upd _ _
      have hf4 : upd (upd H3 fr (.dT [])) c (.ins T.A_Craft dx ((CF.take (3 + 1)).zip (v3 ++ [.ref fr]))) fr = some (.dT []) := by rw [upd_ne ncf.symm]; exact upd_same
      have hc4 : upd (upd H3 fr (.dT [])) c (.ins T.A_Craft dx ((CF.take (3 + 1)).zip (v3 ++ [.ref fr]))) c = some (.ins T.A_Craft dx ((CF.take (3 + 1)).zip (v3 ++ [.ref fr]))) := upd_same
      generalize upd (upd H3 fr (.dT [])) c (.ins T.A_Craft dx ((CF.take (3 + 1)).zip (v3 ++ [.ref fr]))) = H4 at *
      intro se hse
      have nce : c ≠ se := ne_of_none hc4 hse
      have nfe : fr ≠ se := ne_of_none hf4 hse
      refine ⟨_, rfl, c, _, dx, _, rfl, (by rw [upd_ne nce]; exact hc4), T.cl_Craft, T.n_Craft_sent, (Nat.lt_of_le_of_lt (zip_len _ _) (by decide)), ?_⟩
      rw [putF_take (i := 4) CF_nd rfl (by rw [List.length_append, lv3]; rfl)]
      have ke : Keep [c] H4 (upd (upd H4 se (.dT [])) c (.ins T.A_Craft dx ((CF.take (4 + 1)).zip (v3 ++ [.ref fr] ++ [.ref se])))) := keep_upd (keep_new' (Keep.refl _ _) hse) (by simp)
      have de : Dom H4 (upd (upd H4 se (.dT [])) c (.ins T.A_Craft dx ((CF.take (4 + 1)).zip (v3 ++ [.ref fr] ++ [.ref se])))) := ((Dom.refl _).upd _ _).upd _ _
      have he5 : upd (upd H4 se (.dT [])) c (.ins T.A_Craft dx ((CF.take (4 + 1)).zip (v3 ++ [.ref fr] ++ [.ref se]))) se = some (.dT []) := by rw [upd_ne nce.symm]; exact upd_same
      have hc5 : upd (upd H4 se (.dT [])) c (.ins T.A_Craft dx ((CF.take (4 + 1)).zip (v3 ++ [.ref fr] ++ [.ref se]))) c = some (.ins T.A_Craft dx ((CF.take (4 + 1)).zip (v3 ++ [.ref fr] ++ [.ref se]))) := upd_same
      generalize upd (upd H4 se (.dT [])) c (.ins T.A_Craft dx ((CF.take (4 + 1)).zip (v3 ++ [.ref fr] ++ [.ref se]))) = H5 at *
      have hf5 := ke _ _ (by simp [ncf.symm]) hf4
      intro ak hak
      have nca : c ≠ ak := ne_of_none hc5 hak
      have nfa : fr ≠ ak := ne_of_none hf5 hak
      have nea : se ≠ ak := ne_of_none he5 hak
      refine ⟨_, rfl, c, _, dx, _, rfl, (by rw [upd_ne nca]; exact hc5), T.cl_Craft, T.n_Craft_asked, (Nat.lt_of_le_of_lt (zip_len _ _) (by decide)), ?_⟩
      rw [putF_take (i := 5) CF_nd rfl (by rw [List.length_append, List.length_append, lv3]; rfl)]
      have ka : Keep [c] H5 (upd (upd H5 ak (.dT [])) c (.ins T.A_Craft dx ((CF.take (5 + 1)).zip (v3 ++ [.ref fr] ++ [.ref se] ++ [.ref ak])))) := keep_upd (keep_new' (Keep.refl _ _) hak) (by simp)
      have da : Dom H5 (upd (upd H5 ak (.dT [])) c (.ins T.A_Craft dx ((CF.take (5 + 1)).zip (v3 ++ [.ref fr] ++ [.ref se] ++ [.ref ak])))) := ((Dom.refl _).upd _ _).upd _ _
      have ha6 : upd (upd H5 ak (.dT [])) c (.ins T.A_Craft dx ((CF.take (5 + 1)).zip (v3 ++ [.ref fr] ++ [.ref se] ++ [.ref ak]))) ak = some (.dT []) := by rw [upd_ne nca.symm]; exact upd_same
      have hc6 : upd (upd H5 ak (.dT [])) c (.ins T.A_Craft dx ((CF.take (5 + 1)).zip (v3 ++ [.ref fr] ++ [.ref se] ++ [.ref ak]))) c = some (.ins T.A_Craft dx ((CF.take (5 + 1)).zip (v3 ++ [.ref fr] ++ [.ref se] ++ [.ref ak]))) := upd_same
      generalize upd (upd H5 ak (.dT [])) c (.ins T.A_Craft dx ((CF.take (5 + 1)).zip (v3 ++ [.ref fr] ++ [.ref se] ++ [.ref ak]))) = H6 at *
      have hf6 := ka _ _ (by simp [ncf.symm]) hf5
      have he6 := ka _ _ (by simp [nce.symm]) he5
      refine ⟨Nat.zero_le _, fun go hgo => ?_⟩
      have ncg : c ≠ go := ne_of_none hc6 hgo
      refine ⟨_, rfl, c, _, dx, _, rfl, (by rw [upd_ne ncg]; exact hc6), T.cl_Craft, T.n_Craft_gone, (Nat.lt_of_le_of_lt (zip_len _ _) (by decide)), ?_⟩
      rw [putF_take (i := 6) CF_nd rfl (by rw [List.length_append, List.length_append, List.length_append, lv3]; rfl)]
      have kg : Keep [c] H6 (upd (upd H6 go (.lst [])) c (.ins T.A_Craft dx ((CF.take (6 + 1)).zip (v3 ++ [.ref fr] ++ [.ref se] ++ [.ref ak] ++ [.ref go])))) := keep_upd (keep_new' (Keep.refl _ _) hgo) (by simp)
      have dg : Dom H6 (upd (upd H6 go (.lst [])) c (.ins T.A_Craft dx ((CF.take (6 + 1)).zip (v3 ++ [.ref fr] ++ [.ref se] ++ [.ref ak] ++ [.ref go])))) := ((Dom.refl _).upd _ _).upd _ _
      have hg7 : upd (upd H6 go (.lst [])) c (.ins T.A_Craft dx ((CF.take (6 + 1)).zip (v3 ++ [.ref fr] ++ [.ref se] ++ [.ref ak] ++ [.ref go]))) go = some (.lst []) := by rw [upd_ne ncg.symm]; exact upd_same
      have hc7 : upd (upd H6 go (.lst [])) c (.ins T.A_Craft dx ((CF.take (6 + 1)).zip (v3 ++ [.ref fr] ++ [.ref se] ++ [.ref ak] ++ [.ref go]))) c = some (.ins T.A_Craft dx ((CF.take (6 + 1)).zip (v3 ++ [.ref fr] ++ [.ref se] ++ [.ref ak] ++ [.ref go]))) := upd_same
      generalize upd (upd H6 go (.lst [])) c (.ins T.A_Craft dx ((CF.take (6 + 1)).zip (v3 ++ [.ref fr] ++ [.ref se] ++ [.ref ak] ++ [.ref go]))) = H7 at *
      have hf7 := kg _ _ (by simp [ncf.symm]) hf6
      have he7 := kg _ _ (by simp [nce.symm]) he6
      have ha7 := kg _ _ (by simp [nca.symm]) ha6
      have k37 : Keep [c] H3 H7 := ((kf.trans ke).trans ka).trans kg
      have d37 : Dom H3 H7 := ((df.trans de).trans da).trans dg
      have hL7 := k37 _ _ (by simp [hDc]) hL3
      have k07 : Keep [c] H H7 := ((k1.trans (Keep.of_same s2)).trans k3).trans k37
      have d03 : Dom H H3 := (d1.trans (Dom.of_same s2)).trans d3
      have hgo6 : H3 go = none := ((df.trans de).trans da) _ hgo
      have ngD : D ≠ go := ne_of_none hL3 hgo6
      refine fin ⟨c, dx, D, fr, se, ak, go⟩ ps H7 rfl ⟨by rw [hc7, ← hv3]; rfl, hL7, hl, rfl, fun i p n hp hn => ?_, hf7, rfl, by simp, he7, ha7, hg7, .nil, Cr.Ok.new room, ⟨hr1, hr60⟩, nfe, nfa, nea, ngD, fun p hp => ?_, n1, n2⟩ (fun x hx => ?_) k07 (d03.trans d37)
      · obtain ⟨⟨h1, h2⟩, h3, h4⟩ := hall3 i p hp
        have hi4 : i < 4 := by
          have := (List.getElem?_eq_some_iff.mp hn).1
          rw [List.length_replicate] at this
          exact this
        rw [List.getElem?_replicate, if_pos hi4] at hn
        rw [← Option.some.inj hn]
        exact ⟨⟨k37 _ _ (by simp [h3]) h1, k37 _ _ (by simp [h4]) h2⟩, Laid.nil⟩
      · obtain ⟨j, hj⟩ := List.getElem?_of_mem hp
        obtain ⟨⟨h1, h2⟩, h3, h4⟩ := hall3 j p hj
        exact ⟨h3, (hall j p hj).2.2.2, ne_of_none h2 hgo6⟩
      · unfold cM at hx
        rcases List.mem_append.mp hx with hx | hx
        · rcases List.mem_append.mp hx with hx | hx
          · simp only [List.mem_cons, List.not_mem_nil, or_false] at hx
            rcases hx with e | e | e | e | e | e
            · exact .inl e
            · rw [e]; exact .inr (d1 _ hD)
            · rw [e]; exact .inr (d03 _ hfr)
            · rw [e]; exact .inr (d03 _ (df _ hse))
            · rw [e]; exact .inr (d03 _ ((df.trans de) _ hak))
            · rw [e]; exact .inr (d03 _ hgo6)
          · obtain ⟨p, hp, rfl⟩ := List.mem_map.mp hx
            obtain ⟨j, hj⟩ := List.getElem?_of_mem hp
            exact .inr (d1 _ (hall j p hj).2.1)
        · obtain ⟨p, hp, rfl⟩ := List.mem_map.mp hx
          obtain ⟨j, hj⟩ := List.getElem?_of_mem hp
          exact .inr (d1 _ (hall j p hj).2.2.1)
end
end K10

namespace K10
open PySem PySem.Spec PyProof.Rows L2 Sky
section
variable {P : Program} {w : World} {K : PySem.W.Frag} {mg : Str → Option Value} {base : Heap}
/-- the drawing list: [mixed, the script's rest, which is next] -/
def HAt (H : Hp) (p q : Addr) : Prop := ∃ (m k : Int) (ns : List Int), p ≠ q ∧ H p = some (.lst [.int m, .ref q, .int k]) ∧ H q = some (.lst (ns.map V.int)) ∧ 0 ≤ m ∧ m < 2147483647 ∧ 0 ≤ k ∧ ns.length ≤ 63
theorem fmod_nn {a b : Int} (hb : 0 < b) : 0 ≤ a.fmod b := Int.fmod_nonneg_of_pos a hb
theorem fmod_lt {a b : Int} (hb : 0 < b) : a.fmod b < b := Int.fmod_lt_of_pos a hb
def sp_mix (K : PySem.W.Frag) : Sp := fun vs H Q _ => ∃ (a : Addr) (ns : List Int) (seed : Int), vs = [.ref a, .int seed] ∧ SqL K H a (ns.map V.int) ∧ 0 ≤ seed ∧ seed < 2147483647 ∧ ns.length ≤ 63 ∧
  ∀ p q H', HAt H' p q → H p = none → H q = none → Same H H' → Q (.ref p) H'
theorem ok_law_mix (T : Tx K mg) : FnOk P w K mg base CX0 1 T.a_law_mix T.d_law_mix ["_law_script", "_law_seed"] (sp_mix K) := by
  have nd := sc_law_mix.nd
  refine T.F_law_mix.ok sc_law_mix (fun vs H Q E h => ?_) (fun cdv A outer s H vs Q E hr h => ?_)
  · obtain ⟨_, _, _, rfl, _⟩ := h
    rfl
  · obtain ⟨a, ns, seed, rfl, hS, s0, s1, hns, k⟩ := h
    refine ⟨_, (pss_cons (ps_set (i := 2) nd rfl (Or.inl rfl) (pv 1)) (pss_cons (ps_for PassesOwn.never rfl (pi_list (pv 0)) (pg_name (i := 3) nd rfl (Or.inl rfl)) (pss_one (ps_set (i := 2) nd rfl (Or.inl rfl) (pe_op op_modN (pe_op op_add (pe_op op_add (pe_op op_mul (pv 2) pe_int) (pe_op op_modN (pv 3) pe_int)) pe_int) pe_int)))) (pss_one (ps_ret (pe_lst (pa_cons (pv 2) (pa_cons (pe_callTy call_list_of (by rfl) T.z_list (by decide +kernel) (pa_cons (pv 0) pa_nil)) (pa_cons pe_int pa_nil)))))))), ?_⟩
    refine ⟨_, rfl, _, rfl, a, rfl, ⟨_, hS⟩, ?_⟩
    refine for_list (K := K) (a := a) (xs := ns.map V.int) (fun i σ H' => ∃ (m : Int) (v : Option V), σ = [some (.ref a), some (.int seed), some (.int m), v] ∧ 0 ≤ m ∧ m < 2147483647 ∧ H' = H) ⟨seed, none, rfl, s0, s1, rfl⟩ (fun i σ H' _ ⟨_, _, _, _, _, e⟩ => by rw [e]; exact hS) ?_ ?_
    · rintro i y σ H' hy ⟨m, v, rfl, m0, m1, rfl⟩
      obtain ⟨x, hx, rfl⟩ := map_get hy
      refine ⟨_, rfl, m, 48271, rfl, rfl, .inr (by decide), ?_⟩
      refine ⟨_, rfl, x, 2147483629, rfl, rfl, (by decide : (2147483629 : Int) ≠ 0), _, _, rfl, rfl, _, 1, rfl, rfl, _, 2147483647, rfl, rfl, (by decide : (2147483647 : Int) ≠ 0), ?_⟩
      exact ⟨_, _, rfl, fmod_nn (by decide), fmod_lt (by decide), rfl⟩
    · rintro σ H' ⟨m, v, rfl, m0, m1, rfl⟩
      refine ⟨_, rfl, _, rfl, a, _, rfl, .inl hS, fun q hq => ⟨(by decide : (3 : Nat) ≤ sizeLine), fun p hp => ?_⟩⟩
      have nqp : q ≠ p := ne_of_none upd_same hp
      have hp0 : H' p = none := by rw [upd_ne nqp.symm] at hp; exact hp
      exact k p q _ ⟨m, 0, ns, nqp.symm, upd_same, by rw [upd_ne nqp]; exact upd_same, m0, m1, Int.le_refl _, hns⟩ hp0 hq (same_mut (same_new (Same.refl _) hq) hp0)
def sp_next : Sp := fun vs H Q _ => ∃ (p q : Addr) (n : Int), vs = [.ref p, .int n] ∧ HAt H p q ∧ 0 < n ∧ n < 1000000 ∧ ∀ r H', 0 ≤ r → r < n → HAt H' p q → Keep [p, q] H H' → Dom H H' → Q (.int r) H'
theorem ok_law_next (T : Tx K mg) : FnOk P w K mg base CX0 1 T.a_law_next T.d_law_next ["_law_h", "_law_many"] sp_next := by
  have nd := sc_law_next.nd
  refine T.F_law_next.ok sc_law_next (fun vs H Q E h => ?_) (fun cdv A outer s H vs Q E hr h => ?_)
  · obtain ⟨_, _, _, rfl, _⟩ := h
    rfl
  · obtain ⟨p, q, n, rfl, ⟨m, k, ns, npq, hp, hq, m0, m1, k0, hns⟩, n0, n1, fin⟩ := h
    refine ⟨_, (pss_cons (ps_set (i := 2) nd rfl (Or.inl rfl) (pe_op op_modN (pe_ix ix_list (pv 0) pe_int (fun _ _ => rfl)) (pe_callB (call_max2 rfl) (by rfl) T.z_max (by decide +kernel) (pa_cons pe_int (pa_cons (pe_callB call_len_seq (by rfl) T.z_len PySem.boot_len (pa_cons (pe_ix ix_list (pv 0) pe_int (fun _ _ => rfl)) pa_nil)) pa_nil))))) (pss_cons (ps_set (i := 3) nd rfl (Or.inl rfl) (pe_ifExp (pt_cmpR (op_neD hr.units) (pe_ix ix_list (pv 0) pe_int (fun _ _ => rfl)) (pe_lst pa_nil) (nomark _)) (pe_ix ix_list (pe_ix ix_list (pv 0) pe_int (fun _ _ => rfl)) (pv 2) (fun _ _ => rfl)) pe_int)) (pss_cons (ps_if (pt_cmpR op_ge (pv 3) (pe_op op_pow pe_int pe_int) (nomark _)) (pss_cons (ps_asg (pe_op op_fdivN (pv 3) (pv 1)) (pg_sub (pe_ix ix_list (pv 0) pe_int (fun _ _ => rfl)) (pv 2) set_list)) (pss_one (ps_ret (pe_op op_modN (pv 3) (pv 1))))) pss_nil) (pss_cons (ps_asg (pe_op op_modN (pe_op op_add (pe_op op_add (pe_op op_mul (pe_ix ix_list (pv 0) pe_int (fun _ _ => rfl)) pe_int) (pe_op op_mul (pv 3) pe_int)) pe_int) pe_int) (pg_sub (pv 0) pe_int set_list)) (pss_cons (ps_asg (pe_op op_add (pe_ix ix_list (pv 0) pe_int (fun _ _ => rfl)) pe_int) (pg_sub (pv 0) pe_int set_list)) (pss_one (ps_ret (pe_op op_modN (pe_op op_fdivN (pe_ix ix_list (pv 0) pe_int (fun _ _ => rfl)) pe_int) (pv 1))))))))), ?_⟩
    -- at
    refine ⟨_, rfl, p, _, 2, .int k, rfl, rfl, SqL.of hp, atI_nat (j := 2) rfl, ?_⟩
    refine ⟨_, rfl, p, _, 1, .ref q, rfl, rfl, SqL.of hp, atI_nat (j := 1) rfl, q, _, rfl, .inl (SqL.of hq), 1, _, rfl, ?_⟩
    have hlen : ((ns.map V.int).length : Int) = (ns.length : Int) := by rw [List.length_map]
    rw [hlen]
    have hx : (if ((ns.length : Nat) : Int) > 1 then ((ns.length : Nat) : Int) else 1) = ((max 1 ns.length : Nat) : Int) := by
      split <;> omega
    show ∃ i j, V.int k = .int i ∧ V.int (if ((ns.length : Nat) : Int) > 1 then ((ns.length : Nat) : Int) else 1) = .int j ∧ _
    rw [hx]
    refine ⟨_, _, rfl, rfl, (by show ((max 1 ns.length : Nat) : Int) ≠ 0; omega), ?_⟩
    have hat0 : 0 ≤ k.fmod ((max 1 ns.length : Nat) : Int) := fmod_nn (by omega)
    have hat1 : k.fmod ((max 1 ns.length : Nat) : Int) < ((max 1 ns.length : Nat) : Int) := fmod_lt (by omega)
    obtain ⟨at', eat⟩ : ∃ at' : Nat, k.fmod ((max 1 ns.length : Nat) : Int) = (at' : Int) := ⟨_, (Int.toNat_of_nonneg hat0).symm⟩
    show tSeq _ _ _ (L2.start N_law_next [V.ref p, V.int n] |>.set 2 (some (.int (k.fmod ((max 1 ns.length : Nat) : Int))))) H
    rw [eat] at hat1 ⊢
    have hat2 : at' < max 1 ns.length := Int.ofNat_lt.mp hat1
    -- cell
    refine ⟨_, rfl, p, _, 1, .ref q, rfl, rfl, SqL.of hp, atI_nat (j := 1) rfl, Nat.zero_le _, fun e he => ?_⟩
    have npe : p ≠ e := ne_of_none hp he
    have nqe : q ≠ e := ne_of_none hq he
    have hp1 : upd H e (.lst []) p = some (.lst [.int m, .ref q, .int k]) := by rw [upd_ne npe]; exact hp
    have hq1 : upd H e (.lst []) q = some (.lst (ns.map V.int)) := by rw [upd_ne nqe]; exact hq
    have k1 : Keep [p, q] H (upd H e (.lst [])) := keep_new (Keep.refl _ _) he
    have d1 : Dom H (upd H e (.lst [])) := dom_upd _ _ _
    have de : Dp K (upd H e (.lst [])) (.ref e) (.list []) := .lst (SqL.of upd_same) .nil
    generalize upd H e (.lst []) = H1 at *
    refine ⟨.list (ns.map PyData.int), .list [], .lst (SqL.of hq1) (dpAll_ints ns), de, (Lay.list (k := 0) fun x _ => Lay.int x).shaped (by decide), Lay.nil.shaped (by decide), _, rfl, ?_⟩
    rw [eqv_nil]
    refine ife_skip (fun v H2 => ∃ cell : Int, v = .int cell ∧ H2 = H1 ∧ ((1000000000000000000 : Int) ≤ cell → ns[at']? = some cell)) (fun v H2 ⟨cell, ev, eh, hcell⟩ => ?_) (fun e rest => ?_) (fun e rest => ?_)
    case refine_2 =>
      have hne : ns ≠ [] := fun z => by subst z; exact absurd e (by decide)
      have hl0 : 0 < ns.length := List.length_pos_iff.mpr hne
      have hlt : at' < ns.length := by omega
      refine ⟨_, rfl, p, _, 1, .ref q, rfl, rfl, SqL.of hp1, atI_nat (j := 1) rfl, _, rfl, q, _, at', .int ns[at'], rfl, rfl, SqL.of hq1, atI_nat (by rw [List.getElem?_map, List.getElem?_eq_getElem hlt]; rfl), ?_⟩
      exact rest _ _ ⟨_, rfl, rfl, fun _ => List.getElem?_eq_getElem hlt⟩
    case refine_3 => exact rest _ _ ⟨0, rfl, rfl, fun z => absurd z (by decide)⟩
    subst ev eh
    refine ⟨_, rfl, 10, 18, rfl, rfl, ⟨by decide, by decide, by decide⟩, _, _, rfl, rfl, _, rfl, ite2 (fun e => ?_) (fun e => ?_)⟩
    · have hc : (1000000000000000000 : Int) ≤ cell := of_decide_eq_true e
      have hg := hcell hc
      have hlt : at' < ns.length := (List.getElem?_eq_some_iff.mp hg).1
      have hcq : CDivN cell n := ⟨by omega, by omega⟩
      refine ⟨_, rfl, _, rfl, cell, n, rfl, rfl, hcq, _, rfl, p, _, 1, .ref q, rfl, rfl, SqL.of hp1, atI_nat (j := 1) rfl, _, rfl, q, _, _, at', rfl, rfl, hq1, ?_, ?_⟩
      · unfold ixN
        rw [List.length_map, if_pos (by omega), if_pos (by omega)]
        simp
      · refine ⟨_, rfl, _, rfl, cell, n, rfl, rfl, (by show n ≠ 0; omega), ?_⟩
        rw [show (ns.map V.int).set at' (V.int (cell.fdiv n)) = (ns.set at' (cell.fdiv n)).map V.int by rw [List.map_set]]
        refine fin _ _ (fmod_nn n0) (fmod_lt n0) ⟨m, k, _, npq, by rw [upd_ne npq]; exact hp1, upd_same, m0, m1, k0, by rw [List.length_set]; exact hns⟩ (keep_upd k1 (by simp)) (d1.upd _ _)
    · -- h[0] = ..
      refine ⟨_, rfl, p, _, 0, .int m, rfl, rfl, SqL.of hp1, atI_nat (j := 0) rfl, m, 48271, rfl, rfl, .inr (by decide), ?_⟩
      refine ⟨_, rfl, cell, 69621, rfl, rfl, .inr (by decide), _, _, rfl, rfl, _, 11, rfl, rfl, _, 2147483647, rfl, rfl, (by decide : (2147483647 : Int) ≠ 0), ?_⟩
      refine ⟨_, rfl, p, _, 0, 0, rfl, rfl, hp1, rfl, ?_⟩
      have hm0 : 0 ≤ (m * 48271 + cell * 69621 + 11).fmod 2147483647 := fmod_nn (by decide)
      have hm1 : (m * 48271 + cell * 69621 + 11).fmod 2147483647 < 2147483647 := fmod_lt (by decide)
      show tSeq _ _ _ _ (upd H2 p (.lst [.int ((m * 48271 + cell * 69621 + 11).fmod 2147483647), .ref q, .int k]))
      generalize (m * 48271 + cell * 69621 + 11).fmod 2147483647 = m' at *
      -- h[2] = h[2] + 1
      refine ⟨_, rfl, p, _, 2, .int k, rfl, rfl, SqL.of upd_same, atI_nat (j := 2) rfl, k, 1, rfl, rfl, _, rfl, p, _, 2, 2, rfl, rfl, upd_same, rfl, ?_⟩
      rw [upd_upd]
      -- return h[0] // 7 % many
      refine ⟨_, rfl, p, _, 0, .int m', rfl, rfl, SqL.of upd_same, atI_nat (j := 0) rfl, m', 7, rfl, rfl, ⟨by decide, by decide⟩, _, rfl, _, n, rfl, rfl, (by show n ≠ 0; omega), ?_⟩
      exact fin _ _ (fmod_nn n0) (fmod_lt n0) ⟨m', k + 1, ns, npq, upd_same, by rw [upd_ne npq.symm]; exact hq1, hm0, hm1, by omega, hns⟩ (keep_upd k1 (by simp)) (d1.upd _ _)
end
end K10

namespace K10
open PySem PySem.Spec PyProof.Rows L2 Sky
section
variable {P : Program} {w : World} {K : PySem.W.Frag} {mg : Str → Option Value} {base : Heap}
theorem HAt.keepS {H H' : Hp} {p q : Addr} (h : HAt H p q) (k : Same H H') : HAt H' p q := by
  obtain ⟨m, k', ns, npq, hp, hq, r⟩ := h
  exact ⟨m, k', ns, npq, k _ _ hp, k _ _ hq, r⟩
theorem at_of {xs : List V} {r : Int} {R : V → Prop} (h0 : 0 ≤ r) (h1 : r < (xs.length : Int)) (h : ∀ v ∈ xs, R v) : ∃ v, atI xs r = some v ∧ R v := by
  obtain ⟨n, rfl⟩ : ∃ n : Nat, r = (n : Int) := ⟨r.toNat, (Int.toNat_of_nonneg h0).symm⟩
  have hl : n < xs.length := by omega
  exact ⟨xs[n], atI_nat (List.getElem?_eq_getElem hl), h _ (List.getElem_mem hl)⟩
theorem HAt.new {H : Hp} {p q a : Addr} {o : HO} (h : HAt H p q) (n : H a = none) : HAt (upd H a o) p q := h.keepS (same_new (Same.refl _) n)
theorem HAt.fresh {H : Hp} {p q a : Addr} (h : HAt H p q) (n : H a = none) : a ≠ p ∧ a ≠ q := by
  obtain ⟨m, k, ns, npq, hp, hq, r⟩ := h
  exact ⟨(ne_of_none hp n).symm, (ne_of_none hq n).symm⟩
theorem HAt.ne {H : Hp} {p q a : Addr} {o : HO} (h : HAt H p q) (n : a ≠ p) (n' : a ≠ q) : HAt (upd H a o) p q := by
  obtain ⟨m, k, ns, npq, hp, hq, r⟩ := h
  exact ⟨m, k, ns, npq, by rw [upd_ne n.symm]; exact hp, by rw [upd_ne n'.symm]; exact hq, r⟩
theorem HAt.noT {H : Hp} {p q : Addr} (h : HAt H p q) : ∀ m ∈ [p, q], NoT H m := by
  obtain ⟨m, k, ns, npq, hp, hq, r⟩ := h
  intro x hx
  rcases List.mem_cons.mp hx with e | e
  · rw [e]; exact NoT.lst hp
  · rw [List.mem_singleton.mp e]; exact NoT.lst hq
/-- one of a few written numbers, drawn -/
theorem pick {xs : List Int} {r : Int} (h0 : 0 ≤ r) (h1 : r < (xs.length : Int)) (b : Int) (hb : ∀ x ∈ xs, 0 < x ∧ x ≤ b) : ∃ n, atI (xs.map V.int) r = some (.int n) ∧ 0 < n ∧ n ≤ b := by
  obtain ⟨v, hv, n, rfl, h2⟩ := at_of (xs := xs.map V.int) (R := fun v => ∃ n : Int, v = .int n ∧ 0 < n ∧ n ≤ b) h0 (by rw [List.length_map]; exact h1) (fun v hv => by
    obtain ⟨x, hx, rfl⟩ := List.mem_map.mp hv
    exact ⟨x, rfl, hb x hx⟩)
  exact ⟨n, hv, h2⟩
end
end K10

namespace K10
open PySem PySem.Spec PyProof.Rows L2 Sky
theorem mostN_all {l : List Nat} {c : Nat} : mostN l ≤ c ↔ ∀ x ∈ l, x ≤ c := by
  constructor
  · intro h x hx
    exact Nat.le_trans (mostN_le hx) h
  · intro h
    by_cases e : l = []
    · subst e; exact Nat.zero_le _
    · exact h _ (mostN_mem e)
theorem rows_mem {ms : List Nat} {iw : Nat → Bool} {x : Nat} : x ∈ rowsB ms iw ↔ ∃ i, i < ms.length ∧ rowB ms iw i = x := by
  unfold rowsB
  rw [List.mem_map]
  constructor
  · rintro ⟨i, hi, e⟩; exact ⟨i, List.mem_range.mp hi, e⟩
  · rintro ⟨i, hi, e⟩; exact ⟨i, List.mem_range.mpr hi, e⟩
theorem most_rows {ms : List Nat} {iw : Nat → Bool} {c : Nat} : mostN (rowsB ms iw) ≤ c ↔ ∀ i, i < ms.length → rowB ms iw i ≤ c := by
  rw [mostN_all]
  constructor
  · intro h i hi; exact h _ (rows_mem.mpr ⟨i, hi, rfl⟩)
  · intro h x hx
    obtain ⟨i, hi, rfl⟩ := rows_mem.mp hx
    exact h i hi
theorem first_most {ms : List Nat} {iw : Nat → Bool} {r : Nat} : firstN (rowsB ms iw) r = none ↔ mostN (rowsB ms iw) ≤ r := by
  rw [firstB_none, most_rows]
theorem first_some {ms : List Nat} {iw : Nat → Bool} {r i : Nat} (h : firstN (rowsB ms iw) r = some i) : i < ms.length ∧ ∀ j, j < i → rowB ms iw j ≤ r := by
  have hl : (rowsB ms iw).length = ms.length := by unfold rowsB; rw [List.length_map, List.length_range]
  have hg : ∀ j, j < ms.length → (rowsB ms iw).getD j 0 = rowB ms iw j := fun j hj => by
    rw [List.getD_eq_getElem?_getD]
    unfold rowsB
    rw [List.getElem?_map, List.getElem?_range hj]
    rfl
  unfold firstN at h
  rw [hl] at h
  have hm := List.mem_filter.mp (List.mem_of_head? h)
  have hi := List.mem_range.mp hm.1
  refine ⟨hi, fun j hj => ?_⟩
  apply Classical.byContradiction
  intro z
  have hjm : j ∈ (List.range ms.length).filter fun i => decide (r < (rowsB ms iw).getD i 0) := List.mem_filter.mpr ⟨List.mem_range.mpr (by omega), decide_eq_true (by rw [hg j (by omega)]; omega)⟩
  have hp : ((List.range ms.length).filter fun i => decide (r < (rowsB ms iw).getD i 0)).Pairwise (· < ·) := List.Pairwise.filter _ List.pairwise_lt_range
  generalize (List.range ms.length).filter (fun i => decide (r < (rowsB ms iw).getD i 0)) = l at h hjm hp
  cases l with
  | nil => cases h
  | cons x l =>
    have e : x = i := Option.some.inj h
    subst e
    rcases List.mem_cons.mp hjm with e | e
    · omega
    · have := (List.pairwise_cons.mp hp).1 j e
      omega
theorem most_mono {ms : List Nat} {iw iw' : Nat → Bool} (h : ∀ t, iw t = true → iw' t = true) : mostN (rowsB ms iw') ≤ mostN (rowsB ms iw) := by
  rw [most_rows]
  intro i hi
  have h1 := kept_mono (ms := ms) h i
  have h2 := most_rows.mp (Nat.le_refl (mostN (rowsB ms iw))) i hi
  unfold rowB at *
  omega
theorem kept_none (ms : List Nat) : ∀ i, keptB ms (inB []) i = preN ms i
  | 0 => rfl
  | i + 1 => by
    show keptB ms (inB []) i + ms.getD i 0 - 0 = preN ms i + ms.getD i 0
    rw [kept_none ms i]
    omega
theorem most_none (ms : List Nat) : mostN (rowsB ms (inB [])) = preN ms ms.length := by
  refine Nat.le_antisymm (most_rows.mpr fun i hi => ?_) ?_
  · unfold rowB
    rw [kept_none]
    exact preN_mono ms (show i + 1 ≤ ms.length by omega)
  · cases e : ms.length with
    | zero => exact Nat.zero_le _
    | succ n =>
      have := most_rows.mp (Nat.le_refl (mostN (rowsB ms (inB [])))) n (by omega)
      unfold rowB at this
      rw [kept_none] at this
      exact this
theorem most_make {ms : List Nat} {iw : Nat → Bool} {m : Nat} (h : m ∈ ms) : m ≤ mostN (rowsB ms iw) := by
  obtain ⟨i, hi, rfl⟩ := List.mem_iff_getElem.mp h
  have := most_rows.mp (Nat.le_refl (mostN (rowsB ms iw))) i hi
  unfold rowB at this
  rw [List.getD_eq_getElem?_getD, List.getElem?_eq_getElem hi] at this
  have e : (some ms[i]).getD 0 = ms[i] := rfl
  omega
end K10

namespace K10
open PySem PySem.Spec PyProof.Rows L2 Sky
section
variable {P : Program} {w : World} {K : PySem.W.Frag} {mg : Str → Option Value} {base : Heap}
/-! ### windows, drawn -/
def sp_windows : Sp := fun vs H Q _ => ∃ (p q : Addr) (n : Nat), vs = [.ref p, .int (n : Nat)] ∧ n ≤ 200 ∧ HAt H p q ∧ ∀ aw us ws H', WsAt H' aw us ws → PlanZ n ws → ws.length ≤ 200 → HAt H' p q → TSm H H' → Q (.ref aw) H'
theorem ok_law_windows (T : Tx K mg) : FnOk P w K mg base CX0 2 T.a_law_windows T.d_law_windows ["_law_h", "_law_many"] sp_windows := by
  have nd := sc_law_windows.nd
  refine T.F_law_windows.ok sc_law_windows (fun vs H Q E h => ?_) (fun cdv A outer s H vs Q E hr h => ?_)
  · obtain ⟨_, _, _, rfl, _⟩ := h
    rfl
  · obtain ⟨p, q, n, rfl, hn, hA0, fin⟩ := h
    refine ⟨_, (pss_cons (ps_par (i := 2) (j := 3) rfl nd rfl rfl (by decide) rfl rfl (pa_cons (pe_lst pa_nil) (pa_cons pe_int pa_nil)) (by rfl)) (pss_cons (ps_while PassesOwn.never (pt_cmpR op_lt (pv 3) (pv 1) (nomark _)) (pss_cons (ps_set (i := 4) nd rfl (Or.inl rfl) (pe_op op_add (pv 3) (pe_call (ok_law_next T) (hr.mono (by decide)) (by rfl) T.m_law_next T.F_law_next.kp T.b_law_next .nil pass0 (pa_cons (pv 0) (pa_cons pe_int pa_nil))))) (pss_cons (ps_set (i := 5) nd rfl (Or.inl rfl) (pe_op op_add (pe_op op_add (pv 4) pe_int) (pe_call (ok_law_next T) (hr.mono (by decide)) (by rfl) T.m_law_next T.F_law_next.kp T.b_law_next .nil pass0 (pa_cons (pv 0) (pa_cons (pe_ix ix_list (pe_lst (pa_cons pe_int (pa_cons pe_int pa_nil))) (pe_call (ok_law_next T) (hr.mono (by decide)) (by rfl) T.m_law_next T.F_law_next.kp T.b_law_next .nil pass0 (pa_cons (pv 0) (pa_cons pe_int pa_nil))) (fun _ _ => rfl)) pa_nil))))) (pss_cons (ps_if (pt_cmpR op_le (pv 5) (pv 1) (nomark _)) (pss_one (ps_expr (pe_bm PySem.F.plainAttrs_list PySem.F.slot_list_append PySem.F.type_list_append mt_append (pv 2) (pa_cons (pe_tup (pa_cons (pv 4) (pa_cons (pv 5) pa_nil))) pa_nil)))) pss_nil) (pss_one (ps_set (i := 3) nd rfl (Or.inl rfl) (pv 5))))))) (pss_one (ps_ret (pe_tupleOf (by rfl) T.z_tuple (pv 2)))))), ?_⟩
    refine ⟨Nat.zero_le _, fun wl hwl => ⟨_, _, rfl, ?_⟩⟩
    have nwl := hA0.fresh hwl
    have hA6 := hA0.new (o := .lst []) hwl
    have t06 := TSm.of_same (same_new (Same.refl H) hwl (o := .lst []))
    have hwl6 : upd H wl (.lst []) wl = some (.lst []) := upd_same
    generalize upd H wl (.lst []) = H6 at *
    refine ⟨fun m σ H' => ∃ (v4 v5 : Option V) (last : Nat) (us : List V) (ws : List (Int × Int)), σ = [some (.ref p), some (.int ((n : Nat) : Int)), some (.ref wl), some (.int ((last : Nat) : Int)), v4, v5] ∧ m = n - last ∧
      H' wl = some (.lst us) ∧ TDs H' us (ws.map wZ) ∧ PlanZ n ws ∧ (∀ w ∈ ws, w.2 ≤ (last : Nat)) ∧ ws.length ≤ last ∧ ws.length ≤ n ∧ last ≤ 1000 ∧ HAt H' p q ∧ TSm H H',
      ⟨_, _, _, 0, [], [], rfl, rfl, hwl6, .nil, ⟨by simp, by simp⟩, by simp, Nat.le_refl _, Nat.zero_le _, by decide, hA6, t06⟩, ?_⟩
    clear hwl6 hA6 t06 hA0
    rintro m σ H8 ⟨v4, v5, last, us, ws, rfl, rfl, hwl, tw, hPW, hwl2, hwn, hwn2, hl1000, hA, t8⟩
    have hul : us.length = ws.length := by rw [tw.length, List.length_map]
    refine ⟨_, rfl, _, rfl, _, _, rfl, rfl, _, rfl, ?_⟩
    by_cases c : last < n
    · rw [decide_eq_true (show ((last : Nat) : Int) < ((n : Nat) : Int) by omega)]
      refine iteT ⟨fun σ' H' => ∃ m', m' < n - last ∧ ∃ (v4 v5 : Option V) (last : Nat) (us : List V) (ws : List (Int × Int)), σ' = [some (.ref p), some (.int ((n : Nat) : Int)), some (.ref wl), some (.int ((last : Nat) : Int)), v4, v5] ∧ m' = n - last ∧
        H' wl = some (.lst us) ∧ TDs H' us (ws.map wZ) ∧ PlanZ n ws ∧ (∀ w ∈ ws, w.2 ≤ (last : Nat)) ∧ ws.length ≤ last ∧ ws.length ≤ n ∧ last ≤ 1000 ∧ HAt H' p q ∧ TSm H H', fun σ' H' h => h, ?_⟩
      -- begin
      refine ⟨_, rfl, _, rfl, p, q, 6, rfl, hA, by decide, by decide, fun r3 H3 r30 r31 hA3 k3 _ => ⟨_, _, rfl, rfl, ?_⟩⟩
      obtain ⟨bg, ebg⟩ : ∃ x : Nat, ((last : Nat) : Int) + r3 = ((x : Nat) : Int) := ⟨(((last : Nat) : Int) + r3).toNat, (Int.toNat_of_nonneg (by omega)).symm⟩
      simp only [ebg]
      -- end
      refine ⟨_, rfl, _, 1, rfl, rfl, _, rfl, (by decide : (2 : Nat) ≤ sizeLine), fun b2 hb2 => ?_⟩
      have nb2 := hA3.fresh hb2
      have s4 := same_new (Same.refl H3) hb2 (o := .lst [.int 3, .int 30])
      refine ⟨_, rfl, p, q, 2, rfl, hA3.new hb2, by decide, by decide, fun r4 H4 r40 r41 hA4 k4 _ => ?_⟩
      obtain ⟨n4, hn4, n40, n41⟩ := pick (xs := [3, 30]) r40 r41 30 (by decide)
      refine ⟨b2, _, _, _, rfl, rfl, SqL.of (k4 _ _ (by simp [nb2.1, nb2.2]) upd_same), hn4, p, q, n4, rfl, hA4, n40, by omega, fun r5 H5 r50 r51 hA5 k5 _ => ⟨_, _, rfl, rfl, ?_⟩⟩
      have kk5 : Keep [p, q] H8 H5 := ((k3.trans (Keep.of_same s4)).trans k4).trans k5
      obtain ⟨en, een⟩ : ∃ x : Nat, ((bg : Nat) : Int) + 1 + r5 = ((x : Nat) : Int) := ⟨(((bg : Nat) : Int) + 1 + r5).toNat, (Int.toNat_of_nonneg (by omega)).symm⟩
      simp only [een]
      have t5 : TSm H8 H5 := kk5.ts hA.noT
      have hwl5 := kk5 _ _ (by simp [nwl.1, nwl.2]) hwl
      have tw5 := tw.mono t5
      have t05 := t8.trans t5
      clear kk5 k3 k4 k5 s4 hb2 hA3 hA4 hn4
      -- if end <= many
      refine ⟨_, rfl, _, rfl, _, _, rfl, rfl, _, rfl, ?_⟩
      refine if_skip (fun H' => ∃ (us : List V) (ws : List (Int × Int)), H' wl = some (.lst us) ∧ TDs H' us (ws.map wZ) ∧ PlanZ n ws ∧ (∀ w ∈ ws, w.2 ≤ (en : Nat)) ∧ ws.length ≤ en ∧ ws.length ≤ n ∧ HAt H' p q ∧ TSm H H') (fun H' ⟨us, ws, h1, h2, h3, h4, h5, h6', h7, h8⟩ => ?_) (fun ec rest => ?_) (fun _ => ⟨us, ws, hwl5, tw5, hPW, fun w hw => by have := hwl2 w hw; omega, by omega, hwn2, hA5, t05⟩)
      · exact ⟨_, rfl, n - en, by omega, _, _, en, us, ws, rfl, rfl, h1, h2, h3, h4, h5, h6', by omega, h7, h8⟩
      · have hen : en ≤ n := by have := of_decide_eq_true ec; omega
        refine ⟨_, rfl, .inl ⟨rfl, _, SqL.of hwl5⟩, _, rfl, _, rfl, (by decide : (2 : Nat) ≤ sizeLine), fun t ht => ?_⟩
        have nwt : wl ≠ t := ne_of_none hwl5 ht
        have nt := hA5.fresh ht
        have t6 := TSm.of_same (same_new (Same.refl H5) ht (o := .tup [.int ((bg : Nat) : Int), .int ((en : Nat) : Int)]))
        refine ⟨wl, us, _, rfl, rfl, by rw [upd_ne nwt]; exact hwl5, lt_line (by omega), ?_⟩
        have t7 : TSm (upd H5 t (.tup [.int ((bg : Nat) : Int), .int ((en : Nat) : Int)])) (upd (upd H5 t (.tup [.int ((bg : Nat) : Int), .int ((en : Nat) : Int)])) wl (.lst (us ++ [.ref t]))) := ts_upd (TSm.refl _) (NoT.lst (by rw [upd_ne nwt]; exact hwl5))
        refine rest _ ⟨us ++ [.ref t], ws ++ [(((bg : Nat) : Int), ((en : Nat) : Int))], upd_same, ?_, ⟨fun w hw => ?_, ?_⟩, fun w hw => ?_, ?_, ?_, (hA5.ne nt.1 nt.2).ne nwl.1 nwl.2, (t05.trans t6).trans t7⟩
        · rw [List.map_append]
          exact ((tw5.mono t6).mono t7).app (.one (TD.mono t7 (.tup upd_same (.cons (.int _) (.cons (.int _) .nil)))))
        · rcases List.mem_append.mp hw with e | e
          · exact hPW.ok w e
          · rw [List.mem_singleton.mp e]
            show (0 : Int) ≤ ((bg : Nat) : Int) ∧ ((bg : Nat) : Int) < ((en : Nat) : Int) ∧ ((en : Nat) : Int) ≤ ((n : Nat) : Int)
            omega
        · rw [List.pairwise_append]
          refine ⟨hPW.asc, List.pairwise_singleton _ _, fun x hx y hy => ?_⟩
          rw [List.mem_singleton.mp hy]
          have := hwl2 x hx
          show x.2 ≤ ((bg : Nat) : Int)
          omega
        · rcases List.mem_append.mp hw with e | e
          · have := hwl2 w e; omega
          · rw [List.mem_singleton.mp e]; exact Int.le_refl _
        · rw [List.length_append, List.length_singleton]; omega
        · rw [List.length_append, List.length_singleton]; omega
    · rw [decide_eq_false (show ¬ ((last : Nat) : Int) < ((n : Nat) : Int) by omega)]
      refine iteF ?_
      -- return
      refine ⟨_, rfl, .inl ⟨wl, _, rfl, SqL.of hwl, fun aw haw => ?_⟩⟩
      have s1 := same_new (Same.refl H8) haw (o := .tup us)
      refine fin aw us ws _ ⟨upd_same, tw.mono (TSm.of_same s1), fun x hx => ?_, by omega⟩ hPW (by omega) (hA.keepS s1) (t8.trans (TSm.of_same s1))
      have := hPW.ok x hx
      omega
end
end K10

namespace K10
open PySem PySem.Spec PyProof.Rows L2 Sky
section
variable {P : Program} {w : World} {K : PySem.W.Frag} {mg : Str → Option Value} {base : Heap}
/-! ### what is alike -/
def sp_alike (K : PySem.W.Frag) : Nat → Sp
  | 0 => fun _ _ _ _ => False
  | n + 1 => fun vs H Q _ => ∃ (v u : V) (d : PyData), vs = [v, u] ∧ Dp K H v d ∧ Dp K H u d ∧ DOk n d ∧ ∀ H', Same H H' → Q (.bl true) H'
theorem isi {x : V} {n m : String} {b : Bool} {H : Hp} {Q : VK} (ty : TyX K H x (.type n)) (k : kitB n m = some b) (q : Q (.bl b) H) : rIsi K [x, .ty m] H Q := ⟨x, _, _, _, b, rfl, .ty m, ty, kit_ty k, q⟩
theorem isi2 {x : V} {n m m' : String} {b : Bool} {tp : Addr} {H : Hp} {Q : VK} (ht : H tp = some (.tup [.ty m, .ty m'])) (ty : TyX K H x (.type n)) (k : PySem.W.kitAny K (.type n) [.type m, .type m'] = some b) (q : Q (.bl b) H) : rIsiT K [x, .ref tp] H Q :=
  ⟨x, tp, _, _, _, b, rfl, ht, .cons (.ty _) (.cons (.ty _) .nil), ty, k, q⟩
theorem ok_law_alike (T : Tx K mg) : ∀ n, FnOk P w K mg base CX0 n T.a_law_alike T.d_law_alike ["_law_found", "_law_due"] (sp_alike K n)
  | 0 => ⟨fun vs H Q E h => False.elim h, by intros; rename_i h; first | exact False.elim h | (rename_i h _; exact False.elim h) | (rename_i h _ _; exact False.elim h)⟩
  | n + 1 => by
    have ih := ok_law_alike T n
    have nd := sc_law_alike.nd
    refine T.F_law_alike.ok sc_law_alike (fun vs H Q E h => ?_) (fun cdv A outer s H vs Q E hr h => ?_)
    · obtain ⟨_, _, _, rfl, _⟩ := h
      rfl
    · obtain ⟨v, u, d, rfl, h1, h2, hd, q⟩ := h
      refine ⟨_, (pss_cons (ps_if (pt_val (pe_callB call_isiT (by rfl) T.z_isinstance (by decide +kernel) (pa_cons (pv 1) (pa_cons (pe_tup (pa_cons (pe_bltn (v := .ty "tuple") (u := .type "tuple") (by rfl) T.z_tuple (by decide +kernel) rfl) (pa_cons (pe_bltn (v := .ty "list") (u := .type "list") (by rfl) T.z_list (by decide +kernel) rfl) pa_nil))) pa_nil)))) (pss_cons (ps_if (PW.pt (pw_or (pt_not (pt_val (pe_callB call_isiT (by rfl) T.z_isinstance (by decide +kernel) (pa_cons (pv 0) (pa_cons (pe_tup (pa_cons (pe_bltn (v := .ty "tuple") (u := .type "tuple") (by rfl) T.z_tuple (by decide +kernel) rfl) (pa_cons (pe_bltn (v := .ty "list") (u := .type "list") (by rfl) T.z_list (by decide +kernel) rfl) pa_nil))) pa_nil))))) (pw_or1 (pt_cmpR op_ne (pe_callB call_isi (by rfl) T.z_isinstance (by decide +kernel) (pa_cons (pv 0) (pa_cons (pe_bltn (v := .ty "list") (u := .type "list") (by rfl) T.z_list (by decide +kernel) rfl) pa_nil))) (pe_callB call_isi (by rfl) T.z_isinstance (by decide +kernel) (pa_cons (pv 1) (pa_cons (pe_bltn (v := .ty "list") (u := .type "list") (by rfl) T.z_list (by decide +kernel) rfl) pa_nil))) (nomark _))))) (pss_one (ps_ret pe_bl)) pss_nil) (pss_cons (ps_if (pt_cmpR op_ne (pe_callB call_len_seq (by rfl) T.z_len PySem.boot_len (pa_cons (pv 0) pa_nil)) (pe_callB call_len_seq (by rfl) T.z_len PySem.boot_len (pa_cons (pv 1) pa_nil)) (nomark _)) (pss_one (ps_ret pe_bl)) pss_nil) (pss_one (ps_ret (pe_cmpR (op_eqD hr.units) (pe_lc (own := [("_law_k", 2)]) rfl nd (pi_range1 rfl T.z_range (pa_cons (pe_callB call_len_seq (by rfl) T.z_len PySem.boot_len (pa_cons (pv 1) pa_nil)) pa_nil)) (blkOk_by (own := [("_law_k", 2)]) (N := N_law_alike) (sc := defScope s_law_alike) (by decide +kernel)) (fun _ _ _ _ _ => (pg_name (i := 2) nd rfl (Or.inl rfl))) (fun _ _ _ _ _ => (pts_one (pt_not (pt_val (pe_call ih hr (by rfl) T.m_law_alike T.F_law_alike.kp T.b_law_alike .nil pass0 (pa_cons (pe_ix (ix_seqK (K := K) rfl) (pv 0) (pv 2) (fun _ _ => rfl)) (pa_cons (pe_ix (ix_seqK (K := K) rfl) (pv 1) (pv 2) (fun _ _ => rfl)) pa_nil))))))) (fun _ _ _ _ _ => (pv 2))) (pe_lst pa_nil) (nomark _)))))) pss_nil) (pss_cons (ps_if (pt_cmpR op_isN (pv 1) pe_non (nomark _)) (pss_one (ps_ret (pe_cmpR op_isN (pv 0) pe_non (nomark _)))) pss_nil) (pss_cons (ps_if (pt_val (pe_callB call_isi (by rfl) T.z_isinstance (by decide +kernel) (pa_cons (pv 1) (pa_cons (pe_bltn (v := .ty "str") (u := .type "str") (by rfl) T.z_str (by decide +kernel) rfl) pa_nil)))) (pss_one (ps_ret (pe_and (pe_callB call_isi (by rfl) T.z_isinstance (by decide +kernel) (pa_cons (pv 0) (pa_cons (pe_bltn (v := .ty "str") (u := .type "str") (by rfl) T.z_str (by decide +kernel) rfl) pa_nil))) (pe_one (pe_cmpR op_eq (pv 0) (pv 1) (nomark _)))))) pss_nil) (pss_cons (ps_if (PW.pt (pw_or (pt_val (pe_callB call_isi (by rfl) T.z_isinstance (by decide +kernel) (pa_cons (pv 1) (pa_cons (pe_bltn (v := .ty "bool") (u := .type "bool") (by rfl) T.z_bool (by decide +kernel) rfl) pa_nil)))) (pw_or1 (pt_val (pe_callB call_isi (by rfl) T.z_isinstance (by decide +kernel) (pa_cons (pv 0) (pa_cons (pe_bltn (v := .ty "bool") (u := .type "bool") (by rfl) T.z_bool (by decide +kernel) rfl) pa_nil))))))) (pss_one (ps_ret (pe_and (pe_callB call_isi (by rfl) T.z_isinstance (by decide +kernel) (pa_cons (pv 1) (pa_cons (pe_bltn (v := .ty "bool") (u := .type "bool") (by rfl) T.z_bool (by decide +kernel) rfl) pa_nil))) (pe_and (pe_callB call_isi (by rfl) T.z_isinstance (by decide +kernel) (pa_cons (pv 0) (pa_cons (pe_bltn (v := .ty "bool") (u := .type "bool") (by rfl) T.z_bool (by decide +kernel) rfl) pa_nil))) (pe_one (pe_cmpR op_eq (pv 0) (pv 1) (nomark _))))))) pss_nil) (pss_one (ps_ret (pe_and (pe_callB call_isi (by rfl) T.z_isinstance (by decide +kernel) (pa_cons (pv 0) (pa_cons (pe_bltn (v := .ty "int") (u := .type "int") (by rfl) T.z_int (by decide +kernel) rfl) pa_nil))) (pe_one (pe_cmpR op_eq (pv 0) (pv 1) (nomark _)))))))))), ?_⟩
      -- if isinstance(due, (tuple, list))
      refine ⟨_, rfl, (by decide : (2 : Nat) ≤ sizeLine), fun tp htp => ?_⟩
      have s1 : Same H (upd H tp (.tup [.ty "tuple", .ty "list"])) := same_new (Same.refl _) htp
      have t1 : upd H tp (.tup [.ty "tuple", .ty "list"]) tp = some (.tup [.ty "tuple", .ty "list"]) := upd_same
      have a1 := dp_same s1 h1
      have a2 := dp_same s1 h2
      generalize upd H tp (.tup [.ty "tuple", .ty "list"]) = H1 at *
      have y1 := dp_ty a1
      have y2 := dp_ty a2
      have seq : (∃ ds : List PyData, (d = .list ds ∨ d = .tuple ds) ∧ ds.length ≤ 10000000 ∧ ∃ m, n = m + 1 ∧ ∀ e ∈ ds, DOk m e) ∨ (d = .none ∨ (∃ i, d = .int i) ∨ (∃ b, d = .bool b) ∨ ∃ x, d = .str x) := by
        cases n with
        | zero => exact .inr hd
        | succ m =>
          rcases hd with hd | ⟨ds, e, l, h⟩
          · exact .inr hd
          · exact .inl ⟨ds, e, l, m, rfl, h⟩
      rcases seq with ⟨ds, ed, hl, m, rfl, hds⟩ | rfl | ⟨i, rfl⟩ | ⟨b, rfl⟩ | ⟨x, rfl⟩
      · -- a list, a tuple
        have k2 : PySem.W.kitAny K (.type (tyN d)) [.type "tuple", .type "list"] = some true := by
          rcases ed with rfl | rfl
          · exact kit2T' (by decide +kernel : kitB "list" "tuple" = some false) (by decide +kernel : kitB "list" "list" = some true)
          · exact kit2T (by decide +kernel : kitB "tuple" "tuple" = some true)
        obtain ⟨b, kl⟩ : ∃ b, kitB (tyN d) "list" = some b := by
          rcases ed with rfl | rfl
          · exact ⟨true, (by decide +kernel : kitB "list" "list" = some true)⟩
          · exact ⟨false, (by decide +kernel : kitB "tuple" "list" = some false)⟩
        refine ⟨_, _, _, _, _, _, rfl, t1, .cons (.ty _) (.cons (.ty _) .nil), y2, k2, ?_⟩
        refine ⟨true, rfl, iteT ?_⟩
        refine ⟨_, rfl, (by decide : (2 : Nat) ≤ sizeLine), fun tp2 htp2 => ?_⟩
        have s2 : Same H1 (upd H1 tp2 (.tup [.ty "tuple", .ty "list"])) := same_new (Same.refl _) htp2
        have t2 : upd H1 tp2 (.tup [.ty "tuple", .ty "list"]) tp2 = some (.tup [.ty "tuple", .ty "list"]) := upd_same
        have b1 := dp_same s2 a1
        have b2 := dp_same s2 a2
        generalize upd H1 tp2 (.tup [.ty "tuple", .ty "list"]) = H2 at *
        have sH := s1.trans s2
        have z1 := dp_ty b1
        have z2 := dp_ty b2
        refine ⟨_, _, _, _, _, _, rfl, t2, .cons (.ty _) (.cons (.ty _) .nil), z1, k2, ?_⟩
        refine ⟨true, rfl, iteF ?_⟩
        refine ⟨_, rfl, _, _, _, _, b, rfl, .ty _, z1, kit_ty kl, ?_⟩
        refine ⟨_, rfl, _, _, _, _, b, rfl, .ty _, z2, kit_ty kl, ?_⟩
        refine ⟨rfl, false, ndF rfl, iteF ?_⟩
        -- the two as sequences
        obtain ⟨p, xs, ev, hp, hxs⟩ : ∃ p xs, v = .ref p ∧ (∀ H', Same H2 H' → (SqL K H' p xs ∧ d = .list ds) ∨ (SqT K H' p xs ∧ d = .tuple ds)) ∧ DpAll K H2 xs ds := by
          rcases ed with rfl | rfl
          · cases b1 with
            | lst h t => exact ⟨_, _, rfl, fun H' s' => .inl ⟨s'.seq h, rfl⟩, t⟩
          · cases b1 with
            | tup h t => exact ⟨_, _, rfl, fun H' s' => .inr ⟨by
                cases dp_same (K := K) s' (Dp.tup h t) with
                | tup h' t' =>
                  rcases h with (h | ⟨o, h⟩) | h
                  · exact .inl (.inl (s' _ _ h))
                  · exact .inl (.inr ⟨o, s' _ _ h⟩)
                  · exact .inr h, rfl⟩, t⟩
        obtain ⟨p', xs', eu, hp', hxs'⟩ : ∃ p xs, u = .ref p ∧ (∀ H', Same H2 H' → (SqL K H' p xs ∧ d = .list ds) ∨ (SqT K H' p xs ∧ d = .tuple ds)) ∧ DpAll K H2 xs ds := by
          rcases ed with rfl | rfl
          · cases b2 with
            | lst h t => exact ⟨_, _, rfl, fun H' s' => .inl ⟨s'.seq h, rfl⟩, t⟩
          · cases b2 with
            | tup h t => exact ⟨_, _, rfl, fun H' s' => .inr ⟨by
                rcases h with (h | ⟨o, h⟩) | h
                · exact .inl (.inl (s' _ _ h))
                · exact .inl (.inr ⟨o, s' _ _ h⟩)
                · exact .inr h, rfl⟩, t⟩
        subst ev eu
        have w1 : SqL K H2 p xs ∨ SqT K H2 p xs := by rcases hp H2 (Same.refl _) with h | h; exact .inl h.1; exact .inr h.1
        have w2 : SqL K H2 p' xs' ∨ SqT K H2 p' xs' := by rcases hp' H2 (Same.refl _) with h | h; exact .inl h.1; exact .inr h.1
        have l1 : xs.length = ds.length := DpAll.len hxs
        have l2 : xs'.length = ds.length := DpAll.len hxs'
        -- if len(found) != len(due)
        refine ⟨_, rfl, p, xs, rfl, w1, _, rfl, p', xs', rfl, w2, rfl, false, ndF (by rw [l1, l2]), iteF ?_⟩
        -- return [..] == []
        refine ⟨_, rfl, p', xs', rfl, w2, _, rfl, (by omega), (by omega), fun D hD => ?_⟩
        refine lc_range (lo := 0) (n := ((xs'.length : Nat) : Int).toNat) (fun i H' => Same H2 H' ∧ H' D = some (.lst [])) ⟨same_new (Same.refl _) hD, upd_same⟩ ?_ ?_
        · rintro i H' hi ⟨s', hD'⟩
          rw [Int.zero_add]
          have hi' : i < ds.length := by omega
          obtain ⟨y, hy, dy⟩ := DpAll.at hxs (List.getElem?_eq_getElem hi')
          obtain ⟨y', hy', dy'⟩ := DpAll.at hxs' (List.getElem?_eq_getElem hi')
          have fin : ∀ H3, Same H' H3 → Same H2 H3 ∧ H3 D = some (.lst []) := fun H3 s3 => ⟨s'.trans s3, s3 _ _ hD'⟩
          refine ⟨rfl, ?_⟩
          rcases hp H' s' with ⟨g1, ge⟩ | ⟨g1, ge⟩
          · rcases hp' H' s' with ⟨g2, _⟩ | ⟨_, ge'⟩
            · exact ⟨_, rfl, _, rfl, .inl ⟨p, xs, _, y, rfl, rfl, g1, atI_nat hy, _, rfl, _, rfl, .inl ⟨p', xs', _, y', rfl, rfl, g2, atI_nat hy', _, _, _, rfl, dp_same s' dy, dp_same s' dy', hds _ (List.getElem_mem hi'), fun H3 s3 => ⟨true, rfl, iteF (fin H3 s3)⟩⟩⟩⟩
            · rw [ge] at ge'; cases ge'
          · rcases hp' H' s' with ⟨_, ge'⟩ | ⟨g2, _⟩
            · rw [ge] at ge'; cases ge'
            · exact ⟨_, rfl, _, rfl, .inr (.inl ⟨p, xs, _, y, rfl, rfl, g1, atI_nat hy, _, rfl, _, rfl, .inr (.inl ⟨p', xs', _, y', rfl, rfl, g2, atI_nat hy', _, _, _, rfl, dp_same s' dy, dp_same s' dy', hds _ (List.getElem_mem hi'), fun H3 s3 => ⟨true, rfl, iteF (fin H3 s3)⟩⟩)⟩)⟩
        · rintro H' ⟨s', hD'⟩
          refine ⟨Nat.zero_le _, fun e he => ?_⟩
          have se := same_new (Same.refl _) he (o := .lst [])
          refine ⟨.list [], .list [], .lst (SqL.of (se _ _ hD')) .nil, .lst (SqL.of upd_same) .nil, Lay.nil.shaped (by decide), Lay.nil.shaped (by decide), ?_⟩
          rw [eqv_nil]
          exact q _ ((sH.trans s').trans se)
      · -- None
        cases a1
        cases a2
        refine ⟨_, _, _, _, _, _, rfl, t1, .cons (.ty _) (.cons (.ty _) .nil), y2, (kit2F (by decide +kernel : kitB "NoneType" "tuple" = some false) (by decide +kernel : kitB "NoneType" "list" = some false)), ?_⟩
        refine ⟨false, rfl, iteF ?_⟩
        refine ⟨_, rfl, rfl, true, dT rfl, iteT ⟨_, rfl, rfl, ?_⟩⟩
        exact q _ s1
      · -- an int
        cases a1
        cases a2
        refine ⟨_, _, _, _, _, _, rfl, t1, .cons (.ty _) (.cons (.ty _) .nil), y2, (kit2F (by decide +kernel : kitB "int" "tuple" = some false) (by decide +kernel : kitB "int" "list" = some false)), ?_⟩
        refine ⟨false, rfl, iteF ?_⟩
        refine ⟨_, rfl, rfl, false, dF (fun z => nomatch z), iteF ?_⟩
        refine ⟨_, rfl, _, _, _, _, false, rfl, .ty _, y2, kit_ty (by decide +kernel : kitB "int" "str" = some false), ?_⟩
        refine ⟨_, rfl, iteF ?_⟩
        refine ⟨_, rfl, _, _, _, _, false, rfl, .ty _, y2, kit_ty (by decide +kernel : kitB "int" "bool" = some false), ?_⟩
        refine ⟨_, rfl, iteF ?_⟩
        refine ⟨_, rfl, _, _, _, _, false, rfl, .ty _, y1, kit_ty (by decide +kernel : kitB "int" "bool" = some false), ?_⟩
        refine ⟨_, rfl, iteF ?_⟩
        refine ⟨_, rfl, _, _, _, _, true, rfl, .ty _, y1, kit_ty (by decide +kernel : kitB "int" "int" = some true), ?_⟩
        refine ⟨_, rfl, iteT ?_⟩
        exact ⟨_, rfl, _, rfl, rfl, bl_of rfl (q _ s1)⟩
      · -- True, False
        cases a1
        cases a2
        refine ⟨_, _, _, _, _, _, rfl, t1, .cons (.ty _) (.cons (.ty _) .nil), y2, (kit2F (by decide +kernel : kitB "bool" "tuple" = some false) (by decide +kernel : kitB "bool" "list" = some false)), ?_⟩
        refine ⟨false, rfl, iteF ?_⟩
        refine ⟨_, rfl, rfl, false, dF (fun z => nomatch z), iteF ?_⟩
        refine ⟨_, rfl, _, _, _, _, false, rfl, .ty _, y2, kit_ty (by decide +kernel : kitB "bool" "str" = some false), ?_⟩
        refine ⟨_, rfl, iteF ?_⟩
        refine ⟨_, rfl, _, _, _, _, true, rfl, .ty _, y2, kit_ty (by decide +kernel : kitB "bool" "bool" = some true), ?_⟩
        refine ⟨_, rfl, iteT ?_⟩
        refine ⟨_, rfl, _, _, _, _, true, rfl, .ty _, y2, kit_ty (by decide +kernel : kitB "bool" "bool" = some true), ?_⟩
        refine ⟨_, rfl, iteT ?_⟩
        refine ⟨_, rfl, _, _, _, _, true, rfl, .ty _, y1, kit_ty (by decide +kernel : kitB "bool" "bool" = some true), ?_⟩
        refine ⟨_, rfl, iteT ?_⟩
        exact ⟨_, rfl, _, rfl, rfl, bl_of rfl (q _ s1)⟩
      · -- a text
        cases a1
        cases a2
        refine ⟨_, _, _, _, _, _, rfl, t1, .cons (.ty _) (.cons (.ty _) .nil), y2, (kit2F (by decide +kernel : kitB "str" "tuple" = some false) (by decide +kernel : kitB "str" "list" = some false)), ?_⟩
        refine ⟨false, rfl, iteF ?_⟩
        refine ⟨_, rfl, rfl, false, dF (fun z => nomatch z), iteF ?_⟩
        refine ⟨_, rfl, _, _, _, _, true, rfl, .ty _, y2, kit_ty (by decide +kernel : kitB "str" "str" = some true), ?_⟩
        refine ⟨_, rfl, iteT ?_⟩
        refine ⟨_, rfl, _, _, _, _, true, rfl, .ty _, y1, kit_ty (by decide +kernel : kitB "str" "str" = some true), ?_⟩
        refine ⟨_, rfl, iteT ?_⟩
        exact ⟨_, rfl, _, rfl, rfl, bl_of rfl (q _ s1)⟩
end
end K10

namespace K10
open PySem PySem.Spec PyProof.Rows L2 Sky
/-! ### a craft that makes a frame by each telling -/
theorem tFrames_one {z : Nat} {n : List Int × List Nat} {t : List Int} (hz : 0 < z) (h0 : n.1.length % z = 0) (ht : t.length + 3 = z) : ∃ f, tFrames z n t = [f] ∧ (lay1 n t).1.length % z = 0 ∧ (lay1 n t).1.length / z = n.1.length / z + 1 := by
  have hl : (lay1 n t).1.length = n.1.length + z := by rw [lay1_len, ht]
  have hd : (lay1 n t).1.length / z = n.1.length / z + 1 := by rw [hl, Nat.add_div_right _ hz]
  have hm : (lay1 n t).1.length % z = 0 := by rw [hl, Nat.add_mod_right, h0]
  have hlen : (tFrames z n t).length = 1 := by
    unfold tFrames
    rw [List.length_drop, frms_length, hd]
    omega
  cases e : tFrames z n t with
  | nil => rw [e] at hlen; cases hlen
  | cons f l =>
    rw [e, List.length_cons] at hlen
    have : l = [] := List.eq_nil_of_length_eq_zero (by omega)
    subst this
    exact ⟨f, rfl, hm, hd⟩
/-- each stream's numbers are whole frames, at most b of them -/
def Whole (z b : Nat) (ns : List (List Int × List Nat)) : Prop := ∀ n ∈ ns, n.1.length % z = 0 ∧ n.1.length / z ≤ b
theorem Whole.set {z b : Nat} {ns : List (List Int × List Nat)} (h : Whole z b ns) {s : Nat} {n' : List Int × List Nat} (h' : n'.1.length % z = 0 ∧ n'.1.length / z ≤ b + 1) : Whole z (b + 1) (ns.set s n') := by
  intro n hn
  rcases List.mem_or_eq_of_mem_set hn with e | e
  · have := h n e
    exact ⟨this.1, by omega⟩
  · rw [e]; exact h'
theorem Whole.more {z b b' : Nat} {ns : List (List Int × List Nat)} (h : Whole z b ns) (l : b ≤ b') : Whole z b' ns := fun n hn => ⟨(h n hn).1, Nat.le_trans (h n hn).2 l⟩
/-- nothing is lost yet: all that is kept is fresh -/
structure Free (m : Cr) (c : Nat) : Prop where
  g : m.gone = []
  s : m.sent = []
  a : m.asked = []
  n : m.q.length = c
  w : m.win = false
theorem Free.tell {m : Cr} {c room : Nat} (h : Free m c) {s : Nat} {f : Frm} (lt : c < room) : Free (m.keeps room s [f]) (c + 1) := by
  have e : m.keeps room s [f] = m.put (s, f) := by
    show m.keep room (s, f) = _
    unfold Cr.keep
    rw [if_neg (by rw [h.n]; omega)]
  rw [e]
  refine ⟨h.g, h.s, h.a, ?_, h.w⟩
  show (m.q ++ [(s, f)]).length = _
  rw [List.length_append, h.n]
  rfl
theorem makeRoom_gone {m : Cr} : m.gone ≠ [] → m.makeRoom.gone ≠ [] := by
  intro h
  unfold Cr.makeRoom
  split
  · exact h
  · split
    · show m.gone ++ _ ≠ []
      simp
    · exact h
theorem keep_lost {m : Cr} {room : Nat} {x : Nat × Frm} (h : m.gone ≠ []) : (m.keep room x).gone ≠ [] := by
  unfold Cr.keep
  split
  · exact makeRoom_gone h
  · exact h
theorem Free.over {m : Cr} {c room : Nat} (h : Free m c) {s : Nat} {f : Frm} (eq : c = room) (pos : 0 < room) : (m.keeps room s [f]).gone ≠ [] := by
  show (m.keep room (s, f)).gone ≠ []
  unfold Cr.keep
  rw [if_pos (by rw [h.n, eq])]
  show m.makeRoom.gone ≠ []
  have eo : m.old = [] := by
    unfold Cr.old
    rw [h.s]
    rw [List.filter_eq_nil_iff]
    intro k _
    simp
  unfold Cr.makeRoom
  rw [eo]
  cases e : m.marks with
  | nil =>
    have hl : m.marks.length = m.q.length := List.length_map _
    rw [e, h.n] at hl
    simp at hl
    omega
  | cons k l =>
    show m.gone ++ [k] ≠ []
    simp
/-- a beat, known at once -/
theorem Free.next {m : Cr} {c : Nat} (h : Free m c) (b : Bool) : ({ m with win := b } : Cr).next = m.marks.head? := by
  unfold Cr.next
  show (m.asked ++ (m.marks.filter fun k => !decide (k ∈ m.sent))).head? = _
  rw [h.a, h.s]
  rw [List.nil_append, List.filter_eq_self.mpr (by intro k _; simp)]
theorem Free.gone1 {m : Cr} {c room : Nat} (h : Free m c) (ok : m.Ok room) {k : Nat × Nat} (hk : k ∈ m.marks) (b : Bool) : Free ({ ((({ m with win := b } : Cr).sends k).knows [k]) with win := false } : Cr) (c - 1) := by
  have hm : k ∈ (({ m with win := b } : Cr).sends k).marks := hk
  have e : ((({ m with win := b } : Cr).sends k).knows [k]) = (({ m with win := b } : Cr).sends k).letGo k := if_pos hm
  rw [e]
  have h1 := filter_one ok.nd hk
  refine ⟨h.g, ?_, ?_, ?_, rfl⟩
  · show ((if k ∈ m.sent then m.sent else m.sent ++ [k]).filter _) = []
    rw [h.s, if_neg (by simp)]
    simp
  · show (m.asked.filter _).filter _ = []
    rw [h.a]
    rfl
  · show (m.q.filter _).length = _
    have := h.n
    omega
theorem free_new : Free Cr.new 0 := ⟨rfl, rfl, rfl, rfl, rfl⟩
theorem Cr.Ok.win {room : Nat} {m : Cr} (h : m.Ok room) (b : Bool) : ({ m with win := b } : Cr).Ok room := ⟨h.nd, h.few, h.sn, h.ss, h.an, h.as⟩
theorem knows_gone (m : Cr) (ks : List (Nat × Nat)) : (m.knows ks).gone = m.gone := by
  unfold Cr.knows
  induction ks generalizing m with
  | nil => rfl
  | cons k ks ih =>
    rw [List.foldl_cons, ih]
    split <;> rfl
theorem knows_q {m : Cr} {ks : List (Nat × Nat)} {x : Nat × Frm} (h : x ∈ (m.knows ks).q) : x ∈ m.q := by
  unfold Cr.knows at h
  induction ks generalizing m with
  | nil => exact h
  | cons k ks ih =>
    rw [List.foldl_cons] at h
    have := ih h
    split at this
    · exact (List.mem_filter.mp this).1
    · exact this
theorem Below.of {m m' : Cr} {z : Nat} {ns : List (List Int × List Nat)} (h : Below m z ns) (s : ∀ x ∈ m'.q, x ∈ m.q) : Below m' z ns := fun x hx => h x (s x hx)
end K10

namespace K10
open PySem PySem.Spec PyProof.Rows L2 Sky
theorem CAt.noT {C CL : Addr} {H : Hp} {A : Ca} {ps : List (Addr × Addr × Addr)} {room z : Nat} {ns : List (List Int × List Nat)} {m : Cr} {qv : List KF} {gs : List V} (h : CAt C CL H A ps room z ns m qv gs) : ∀ a ∈ cM A ps, NoT H a := by
  intro a ha
  unfold cM at ha
  rcases List.mem_append.mp ha with ha | ha
  · rcases List.mem_append.mp ha with ha | ha
    · simp only [List.mem_cons, List.not_mem_nil, or_false] at ha
      rcases ha with e | e | e | e | e | e
      · rw [e]; exact NoT.ins h.o
      · rw [e]; exact NoT.lst h.la
      · rw [e]; exact NoT.dT h.fr
      · rw [e]; exact NoT.dT h.se
      · rw [e]; exact NoT.dT h.ak
      · rw [e]; exact NoT.lst h.go
    · obtain ⟨p, hp, rfl⟩ := List.mem_map.mp ha
      obtain ⟨_, _, _, _, h1, _⟩ := h.lays hp
      exact NoT.ins h1
  · obtain ⟨p, hp, rfl⟩ := List.mem_map.mp ha
    obtain ⟨_, _, _, _, _, h2⟩ := h.lays hp
    exact NoT.lst h2
theorem HAt.keepM {H H' : Hp} {p q : Addr} {N : List Addr} (h : HAt H p q) (k : Keep N H H') (n : ∀ a ∈ N, a ≠ p ∧ a ≠ q) : HAt H' p q := by
  obtain ⟨m, k', ns, npq, hp, hq, r⟩ := h
  exact ⟨m, k', ns, npq, k _ _ (fun z => (n _ z).1 rfl) hp, k _ _ (fun z => (n _ z).2 rfl) hq, r⟩
/-- the drawing, the plan, the craft -/
structure SAt (C CL : Addr) (H : Hp) (p q am aw : Addr) (us : List V) (ms : List Nat) (ws : List (Int × Int)) (A : Ca) (ps : List (Addr × Addr × Addr)) (room z : Nat) (ns : List (List Int × List Nat)) (m : Cr) : Prop where
  c : ∃ qv gs, CAt C CL H A ps room z ns m qv gs
  h : HAt H p q
  ms : MsAt H am ms
  ws : WsAt H aw us ws
  b : Below m z ns
  x : ∀ a ∈ cM A ps, a ≠ p ∧ a ≠ q
section
variable {C CL : Addr} {H H' : Hp} {p q am aw : Addr} {us : List V} {ms : List Nat} {ws : List (Int × Int)} {A : Ca} {ps : List (Addr × Addr × Addr)} {room z : Nat} {ns : List (List Int × List Nat)} {m : Cr}
theorem SAt.same (h : SAt C CL H p q am aw us ms ws A ps room z ns m) (s : Same H H') : SAt C CL H' p q am aw us ms ws A ps room z ns m := by
  obtain ⟨qv, gs, hC⟩ := h.c
  exact ⟨⟨qv, gs, hC.same s⟩, h.h.keepS s, h.ms.same s, h.ws.same s, h.b, h.x⟩
theorem SAt.drawn (h : SAt C CL H p q am aw us ms ws A ps room z ns m) (hA : HAt H' p q) (k : Keep [p, q] H H') : SAt C CL H' p q am aw us ms ws A ps room z ns m := by
  obtain ⟨qv, gs, hC⟩ := h.c
  have ts := k.ts h.h.noT
  refine ⟨⟨qv, gs, hC.else k ts fun a ha => ?_⟩, hA, h.ms.ts ts, h.ws.ts ts, h.b, h.x⟩
  have := h.x a ha
  simp [this.1, this.2]
theorem SAt.craft (h : SAt C CL H p q am aw us ms ws A ps room z ns m) {ps' : List (Addr × Addr × Addr)} {ns' : List (List Int × List Nat)} {m' : Cr} {qv' : List KF} {gs' : List V} (hC' : CAt C CL H' A ps' room z ns' m' qv' gs') (k : Keep (cM A ps) H H') (b : Below m' z ns') (f : ∀ a ∈ cM A ps', a ∈ cM A ps ∨ H a = none) : SAt C CL H' p q am aw us ms ws A ps' room z ns' m' := by
  obtain ⟨qv, gs, hC⟩ := h.c
  have ts := k.ts hC.noT
  refine ⟨⟨qv', gs', hC'⟩, h.h.keepM k h.x, h.ms.ts ts, h.ws.ts ts, b, fun a ha => ?_⟩
  rcases f a ha with e | e
  · exact h.x a e
  · exact h.h.fresh e
end
/-- how it stands ahead of beat b -/
def Stand (ms : List Nat) (ws : List (Int × Int)) (room b : Nat) (m : Cr) (g : Nat) : Option Nat → Prop
  | none => Free m (keptB ms (inB ws) b) ∧ (∀ j, j < b → rowB ms (inB ws) j ≤ room ∧ rowB ms (inB ws) j ≤ g) ∧ (g = 0 ∨ ∃ j, j < b ∧ rowB ms (inB ws) j = g)
  | some i => i < b ∧ room < rowB ms (inB ws) i ∧ ∀ j, j < i → rowB ms (inB ws) j ≤ room
theorem cut2 (a b c d : V) : cutV [a, b, c, d] none (some 2) = [a, b] := rfl
theorem nocut2 (a b c d : V) : ¬ (HT.sIx [a, b, c, d].length 0 none = 0 ∧ HT.sIx [a, b, c, d].length [a, b, c, d].length (some 2) = [a, b, c, d].length) := fun h => absurd h.2 (by show ¬ ((2 : Nat) = 4); decide)
theorem rep7 (n : Nat) : (List.replicate n [V.int 7]).flatten = (List.replicate n (7 : Int)).map V.int := by
  induction n with
  | zero => rfl
  | succ n ih => rw [List.replicate_succ, List.replicate_succ, List.flatten_cons, ih]; rfl
theorem lay_wZ (w : Int × Int) : Lay 1 (wZ w) := by
  have := Lay.tuple (f := PyData.int) (k := 0) (xs := [w.1, w.2]) fun x _ => Lay.int x
  exact this
theorem lay_mk2 (k : Nat × Nat) : Lay 1 (mD2 k) := Lay.tuple (f := PyData.int) (xs := [((k.1 : Nat) : Int), ((k.2 : Nat) : Int)]) fun x _ => Lay.int x
theorem any_empty {α : Type} (l : List α) (f : α → Bool) : (l.filter f).isEmpty = !l.any f := by
  induction l with
  | nil => rfl
  | cons x l ih =>
    by_cases c : f x = true
    · rw [List.filter_cons_of_pos c, List.any_cons, c]; rfl
    · rw [List.filter_cons_of_neg c, List.any_cons, ih]
      have : f x = false := by simpa using c
      rw [this]; rfl
section
variable {P : Program} {w : World} {K : PySem.W.Frag} {mg : Str → Option Value} {base : Heap}
def sp_law (K : PySem.W.Frag) : Sp := fun vs H Q _ => ∃ (a : Addr) (ns : List Int), vs = [.ref a] ∧ SqL K H a (ns.map V.int) ∧ ns.length ≤ 63 ∧ ∀ H', Q (.bl true) H'
theorem ok_law (T : Tx K mg) : FnOk P w K mg base CX0 6 T.a_law T.d_law ["_law_script"] (sp_law K) := by
  have nd := sc_law.nd
  refine T.F_law.ok sc_law (fun vs H Q E h => ?_) (fun cdv A0 outer s H vs Q E hr h => ?_)
  · obtain ⟨_, _, rfl, _⟩ := h
    rfl
  · obtain ⟨a, ns, rfl, hS, hlen, fin⟩ := h
    refine ⟨_, (pss_cons (ps_set (i := 1) nd rfl (Or.inr rfl) (pe_call (ok_law_mix T) (hr.mono (by decide)) (by rfl) T.m_law_mix T.F_law_mix.kp T.b_law_mix .nil pass0 (pa_cons (pv 0) (pa_cons pe_int pa_nil)))) (pss_cons (ps_set (i := 2) nd rfl (Or.inr rfl) (pe_op op_add pe_int (pe_call (ok_law_next T) (hr.mono (by decide)) (by rfl) T.m_law_next T.F_law_next.kp T.b_law_next .nil pass0 (pa_cons (pv 1) (pa_cons pe_int pa_nil))))) (pss_cons (ps_set (i := 4) nd rfl (Or.inl rfl) (pe_tupleOf (by rfl) T.z_tuple (pe_lc (own := [("_law_k", 3)]) rfl nd (pi_range1 rfl T.z_range (pa_cons (pe_call (ok_law_next T) (hr.mono (by decide)) (by rfl) T.m_law_next T.F_law_next.kp T.b_law_next .nil pass0 (pa_cons (pv 1) (pa_cons pe_int pa_nil))) pa_nil)) (blkOk_by (own := [("_law_k", 3)]) (N := N_law) (sc := defScope s_law) (by decide +kernel)) (fun _ _ _ _ _ => (pg_name (i := 3) nd rfl (Or.inl rfl))) (fun _ _ _ _ _ => pts_nil) (fun _ _ _ _ _ => (pe_op op_mul (pe_call (ok_law_next T) (hr.mono (by decide)) (by rfl) T.m_law_next T.F_law_next.kp T.b_law_next .nil pass0 (pa_cons (pv 1) (pa_cons pe_int pa_nil))) (pe_callTy call_int1 (by rfl) T.z_int (by decide +kernel) (pa_cons (pe_cmpR op_eq (pe_call (ok_law_next T) (hr.mono (by decide)) (by rfl) T.m_law_next T.F_law_next.kp T.b_law_next .nil pass0 (pa_cons (pv 1) (pa_cons (pv 2) pa_nil))) pe_int (nomark _)) pa_nil))))))) (pss_cons (ps_par (i := 5) (j := 6) rfl nd rfl rfl (by decide) rfl rfl (pa_cons (pe_call (ok_law_windows T) (hr.mono (by decide)) (by rfl) T.m_law_windows T.F_law_windows.kp T.b_law_windows .nil pass0 (pa_cons (pv 1) (pa_cons (pe_callB call_len_seq (by rfl) T.z_len PySem.boot_len (pa_cons (pv 4) pa_nil)) pa_nil))) (pa_cons (pe_op op_add pe_int (pe_call (ok_law_next T) (hr.mono (by decide)) (by rfl) T.m_law_next T.F_law_next.kp T.b_law_next .nil pass0 (pa_cons (pv 1) (pa_cons pe_int pa_nil)))) pa_nil)) (by rfl)) (pss_cons (ps_set (i := 7) nd rfl (Or.inl rfl) (pe_call (ok_most_kept T) (hr.mono (by decide)) (by rfl) T.m_most_kept T.F_most_kept.kp T.b_most_kept .nil pass0 (pa_cons (pv 4) (pa_cons (pv 5) pa_nil)))) (pss_cons (ps_set (i := 8) nd rfl (Or.inl rfl) (pe_callB (call_min2 rfl) (by rfl) T.z_min (by decide +kernel) (pa_cons pe_int (pa_cons (pe_callB (call_max2 rfl) (by rfl) T.z_max (by decide +kernel) (pa_cons pe_int (pa_cons (pe_op op_add (pe_op op_sub (pv 7) pe_int) (pe_call (ok_law_next T) (hr.mono (by decide)) (by rfl) T.m_law_next T.F_law_next.kp T.b_law_next .nil pass0 (pa_cons (pv 1) (pa_cons pe_int pa_nil)))) pa_nil))) pa_nil)))) (pss_cons (ps_par3 (i := 9) (j := 10) (l := 11) rfl nd rfl rfl rfl (by decide) (by decide) (by decide) rfl rfl rfl (pa_cons (pe_make T.mk_Craft (ok_Craft_init T) (hr.mono (by decide)) (by rfl) T.m_Craft T.b_Craft_init .nil pass0 (pa_cons (pv 6) (pa_cons (pv 8) pa_nil))) (pa_cons pe_non (pa_cons pe_int pa_nil))) (by rfl)) (pss_cons (ps_for PassesOwn.never rfl (pi_range1 rfl T.z_range (pa_cons (pe_callB call_len_seq (by rfl) T.z_len PySem.boot_len (pa_cons (pv 4) pa_nil)) pa_nil)) (pg_name (i := 12) nd rfl (Or.inr rfl)) (pss_cons (ps_for PassesOwn.never rfl (pi_range1 rfl T.z_range (pa_cons (pe_ix ix_tup (pv 4) (pv 12) (fun _ _ => rfl)) pa_nil)) (pg_name (i := 3) nd rfl (Or.inl rfl)) (pss_one (ps_expr (pe_meth (pv 9) T.cl_Craft T.M_Craft_tell (ok_Craft_tell T) (hr.mono (by decide)) T.b_Craft_tell .nil pass0 (pa_cons (pe_call (ok_law_next T) (hr.mono (by decide)) (by rfl) T.m_law_next T.F_law_next.kp T.b_law_next .nil pass0 (pa_cons (pv 1) (pa_cons pe_int pa_nil))) (pa_cons (pe_op op_repT (pe_tup (pa_cons pe_int pa_nil)) (pe_op op_sub (pv 6) pe_int)) pa_nil)))))) (pss_cons (ps_if (PW.pt (pw_and (pt_cmpR (op_neD hr.units) (pe_meth0 (pv 9) T.cl_Craft T.M_Craft_lost (ok_Craft_lost T) (hr.mono (by decide)) T.b_Craft_lost .nil pass0) (pe_lst pa_nil) (nomark _)) (pw_and1 (pt_cmpR op_isN (pv 10) pe_non (nomark _))))) (pss_one (ps_set (i := 10) nd rfl (Or.inl rfl) (pv 12))) pss_nil) (pss_cons (ps_set (i := 11) nd rfl (Or.inl rfl) (pe_callB (call_max2 rfl) (by rfl) T.z_max (by decide +kernel) (pa_cons (pv 11) (pa_cons (pe_callB call_len_seq (by rfl) T.z_len PySem.boot_len (pa_cons (pe_meth0 (pv 9) T.cl_Craft T.M_Craft_kept (ok_Craft_kept T) (hr.mono (by decide)) T.b_Craft_kept .nil pass0) pa_nil)) pa_nil)))) (pss_one (ps_if (pt_cmpR (op_neD hr.units) (pe_lc (own := [("_law_pair", 14)]) rfl nd (pi_tup (pv 5)) (blkOk_by (own := [("_law_pair", 14)]) (N := N_law) (sc := defScope s_law) (by decide +kernel)) (fun _ _ _ _ _ => (pg_name (i := 14) nd rfl (Or.inl rfl))) (fun _ _ _ _ _ => (pts_one (pt_chain op_le op_lt (pe_ix (ix_tupK (K := K) rfl) (pv 14) pe_int (fun _ _ => rfl)) (pv 12) (pe_ix (ix_tupK (K := K) rfl) (pv 14) pe_int (fun _ _ => rfl))))) (fun _ _ _ _ _ => (pv 14))) (pe_lst pa_nil) (nomark _)) (pss_cons (ps_expr (pe_meth0 (pv 9) T.cl_Craft T.M_Craft_begin (ok_Craft_begin T) (hr.mono (by decide)) T.b_Craft_begin .nil pass0)) (pss_cons (ps_set (i := 13) nd rfl (Or.inl rfl) (pe_meth0 (pv 9) T.cl_Craft T.M_Craft_beat (ok_Craft_beat T) (hr.mono (by decide)) T.b_Craft_beat .nil pass0)) (pss_cons (ps_expr (pe_meth (pv 9) T.cl_Craft T.M_Craft_known (ok_Craft_known T) (hr.mono (by decide)) T.b_Craft_known .nil pass0 (pa_cons (pe_ifExp (pt_cmpR op_notN (pv 13) pe_non (nomark _)) (pe_lst (pa_cons (pe_slice sl_tup (pv 13) po_none (po_some pe_int)) pa_nil)) (pe_lst pa_nil)) pa_nil))) (pss_one (ps_expr (pe_meth0 (pv 9) T.cl_Craft T.M_Craft_shut (ok_Craft_shut T) (hr.mono (by decide)) T.b_Craft_shut .nil pass0)))))) pss_nil)))))) (pss_cons (ps_if (pt_not (pt_val (pe_call (ok_law_alike T 4) (hr.mono (by decide)) (by rfl) T.m_law_alike T.F_law_alike.kp T.b_law_alike .nil pass0 (pa_cons (pv 10) (pa_cons (pe_call (ok_short_at T) (hr.mono (by decide)) (by rfl) T.m_short_at T.F_short_at.kp T.b_short_at .nil pass0 (pa_cons (pv 4) (pa_cons (pv 5) (pa_cons (pv 8) pa_nil)))) pa_nil))))) (pss_one (ps_ret pe_bl)) pss_nil) (pss_one (ps_ret (pe_or (pe_cmpR op_notN (pv 10) pe_non (nomark _)) (pe_one (pe_cmpR op_eq (pv 11) (pv 7) (nomark _))))))))))))))), ?_⟩
    refine ⟨_, rfl, a, ns, 31, rfl, hS, by decide, by decide, hlen, fun p q H1 hA1 _ _ _ => ?_⟩
    -- often
    refine ⟨_, rfl, p, q, 4, rfl, hA1, by decide, by decide, fun r1 H2 r10 r11 hA2 _ _ => ⟨1, r1, rfl, rfl, ?_⟩⟩
    -- makes
    refine ⟨_, rfl, p, q, 61, rfl, hA2, by decide, by decide, fun r2 H3 r20 r21 hA3 _ _ => ?_⟩
    obtain ⟨N, rfl⟩ : ∃ N : Nat, r2 = (N : Int) := ⟨r2.toNat, (Int.toNat_of_nonneg r20).symm⟩
    refine ⟨_, rfl, (by omega), (by omega), fun D hD => ?_⟩
    have nD := hA3.fresh hD
    refine lc_range (lo := 0) (n := ((N : Nat) : Int).toNat) (fun i H' => ∃ ms : List Nat, H' D = some (.lst ((ms.map fun x : Nat => (x : Int)).map V.int)) ∧ ms.length = i ∧ (∀ x ∈ ms, x ≤ 6) ∧ HAt H' p q) ⟨[], upd_same, rfl, by simp, hA3.new hD⟩ ?_ ?_
    · rintro i H' hi ⟨ms, hm, hl, h6, hA'⟩
      refine ⟨rfl, _, rfl, p, q, 7, rfl, hA', by decide, by decide, fun r4 H4 r40 r41 hA4 k4 _ => ?_⟩
      refine ⟨_, rfl, _, rfl, p, q, 1 + r1, rfl, hA4, by omega, by omega, fun r5 H5 r50 r51 hA5 k5 _ => ⟨rfl, .inr ⟨_, rfl, ?_⟩⟩⟩
      have hm5 := k5 _ _ (by simp [nD.1, nD.2]) (k4 _ _ (by simp [nD.1, nD.2]) hm)
      generalize decide (V.int r5 = V.int 0) = c
      refine ⟨_, _, rfl, rfl, .inl ⟨by omega, by omega⟩, ?_⟩
      obtain ⟨x, ex, hx6⟩ : ∃ x : Nat, r4 * (if c = true then 1 else 0) = ((x : Nat) : Int) ∧ x ≤ 6 := by
        cases c with
        | false => exact ⟨0, Int.mul_zero _, by decide⟩
        | true => exact ⟨r4.toNat, by show r4 * 1 = _; omega, by omega⟩
      simp only [ex]
      refine ⟨_, hm5, lt_line (by rw [List.length_map, List.length_map]; omega), ms ++ [x], ?_, by rw [List.length_append, hl]; rfl, fun y hy => ?_, hA5.ne nD.1 nD.2⟩
      · rw [upd_same, List.map_append, List.map_append]; rfl
      · rcases List.mem_append.mp hy with e | e
        · exact h6 y e
        · rw [List.mem_singleton.mp e]; exact hx6
    rintro H4 ⟨ms, hm, hl, h6, hA4⟩
    refine .inl ⟨D, _, rfl, SqL.of hm, fun am ham => ?_⟩
    have hA5 := hA4.new (o := .tup ((ms.map fun x : Nat => (x : Int)).map V.int)) ham
    have hm5 : upd H4 am (.tup ((ms.map fun x : Nat => (x : Int)).map V.int)) am = some (.tup ((ms.map fun x : Nat => (x : Int)).map V.int)) := upd_same
    generalize upd H4 am (.tup ((ms.map fun x : Nat => (x : Int)).map V.int)) = H5 at *
    have hml : ms.length ≤ 60 := by omega
    have hM5 : MsAt H5 am ms := ⟨hm5, h6, by omega⟩
    have eN : N = ms.length := by omega
    subst eN
    clear hm hA3 hA4 hD ham hA1 hA2
    -- windows, size
    refine ⟨_, rfl, _, rfl, am, _, rfl, .inr (SqT.of hm5), p, q, ms.length, (by rw [List.length_map, List.length_map]; rfl), (by omega), hA5, fun aw us ws H6 hW6 hPl hwl hA6 t6 => ?_⟩
    have hM6 := hM5.ts t6
    clear hA5 hM5 hm5 t6
    refine ⟨_, rfl, p, q, 16, rfl, hA6, by decide, by decide, fun r6 H7 r60 r61 hA7 k7 _ => ⟨8, r6, rfl, rfl, _, _, rfl, ?_⟩⟩
    have t7 := k7.ts hA6.noT
    have hM7 := hM6.ts t7
    have hW7 := hW6.ts t7
    obtain ⟨z, ez, hz8, hz24⟩ : ∃ z : Nat, 8 + r6 = ((z : Nat) : Int) ∧ 8 ≤ z ∧ z ≤ 23 := ⟨(8 + r6).toNat, (Int.toNat_of_nonneg (by omega)).symm, by omega, by omega⟩
    simp only [ez]
    clear hM6 hW6 hA6 k7 t7
    -- most
    refine ⟨_, rfl, _, rfl, am, aw, us, ms, ws, rfl, hM7, hW7, hPl, fun H8 s8 => ?_⟩
    obtain ⟨M, eM⟩ : ∃ M, mostN (rowsB ms (inB ws)) = M := ⟨_, rfl⟩
    rw [eM]
    -- room
    refine ⟨_, rfl, _, 2, rfl, rfl, _, rfl, p, q, 4, rfl, hA7.keepS s8, by decide, by decide, fun r9 H9 r90 r91 hA9 k9 _ => ⟨_, r9, rfl, rfl, 1, _, rfl, 60, _, rfl, ?_⟩⟩
    have t9 := (TSm.of_same s8).trans (k9.ts (hA7.keepS s8).noT)
    have hM9 := hM7.ts t9
    have hW9 := hW7.ts t9
    obtain ⟨room, eroom, hr1, hr60⟩ : ∃ x : Nat, (if (if ((M : Nat) : Int) - 2 + r9 > 1 then ((M : Nat) : Int) - 2 + r9 else 1) < 60 then (if ((M : Nat) : Int) - 2 + r9 > 1 then ((M : Nat) : Int) - 2 + r9 else 1) else 60) = ((x : Nat) : Int) ∧ 1 ≤ x ∧ x ≤ 60 := by
      generalize ((M : Nat) : Int) - 2 + r9 = y
      by_cases c1 : y > 1
      · rw [if_pos c1]
        by_cases c2 : y < 60
        · rw [if_pos c2]; exact ⟨y.toNat, by omega, by omega, by omega⟩
        · rw [if_neg c2]; exact ⟨60, rfl, by decide, by decide⟩
      · rw [if_neg c1, if_pos (by decide)]; exact ⟨1, rfl, by decide, by decide⟩
    simp only [eroom]
    clear hM7 hW7 hA7 s8 k9 t9 eroom
    -- the craft
    refine ⟨_, rfl, _, rfl, fun c dx hc hdx nxd => ⟨c, dx, z, room, rfl, upd_same, hz8, by omega, hr1, hr60, fun A ps H10 eA hC10 hcm k10 d10 => ⟨rfl, _, _, _, rfl, ?_⟩⟩⟩
    have s10 : Same H9 (upd (upd H9 dx (.own c)) c (.ins T.A_Craft dx [])) := same_mut (same_new (Same.refl _) hdx) hc
    have hfresh : ∀ x ∈ cM A ps, H9 x = none := fun x hx => by
      rcases hcm x hx with e | e
      · rw [e]; exact hc
      · exact s10.free e
    generalize upd (upd H9 dx (.own c)) c (.ins T.A_Craft dx []) = H9' at *
    have s910 : Same H9 H10 := k10.same s10 (by intro x hx; rw [List.mem_singleton.mp hx]; exact hc)
    have hSt : SAt T.A_Craft T.A_Laying H10 p q am aw us ms ws A ps room z (List.replicate 4 ([], [])) Cr.new := ⟨⟨_, _, hC10⟩, hA9.keepS s910, hM9.same s910, hW9.same s910, (by intro x hx; cases hx), fun x hx => hA9.fresh (hfresh x hx)⟩
    have hWh : Whole z (6 * 0) (List.replicate 4 ([], [])) := fun n hn => by
      rw [(List.mem_replicate.mp hn).2]
      show (0 : Nat) % z = 0 ∧ 0 / z ≤ 6 * 0
      rw [Nat.zero_mod, Nat.zero_div]
      exact ⟨rfl, Nat.le_refl _⟩
    subst eA
    clear hC10 hA9 hM9 hW9 k10 d10 s10 s910 hcm hfresh hc hdx
    refine ⟨_, rfl, am, _, rfl, .inr (SqT.of hSt.ms.m), _, rfl, (by rw [List.length_map, List.length_map]; omega), (by rw [List.length_map, List.length_map]; omega), ?_⟩
    refine for_range (lo := 0) (n := ((((ms.map fun x : Nat => (x : Int)).map V.int).length : Nat) : Int).toNat) (fun b σ H' => ∃ (v3 v12 v13 v14 : Option V) (first : Option Nat) (g : Nat) (ps : List (Addr × Addr × Addr)) (ns : List (List Int × List Nat)) (m : Cr), σ = [some (.ref a), some (.ref p), some (.int (1 + r1)), v3, some (.ref am), some (.ref aw), some (.int ((z : Nat) : Int)), some (.int ((M : Nat) : Int)), some (.int ((room : Nat) : Int)), some (.ref A.c), some (optV first), some (.int ((g : Nat) : Int)), v12, v13, v14] ∧
      SAt T.A_Craft T.A_Laying H' p q am aw us ms ws A ps room z ns m ∧ Whole z (6 * b) ns ∧ m.gone.length ≤ 200 * b ∧ m.win = false ∧ Stand ms ws room b m g first) ⟨_, _, _, _, none, 0, ps, _, Cr.new, rfl, hSt, hWh, Nat.le_refl _, rfl, free_new, fun j hj => absurd hj (Nat.not_lt_zero _), .inl rfl⟩ ?_ ?_
    · rintro b σ H0 hb ⟨v3, v12, v13, v14, first, g, ps, ns, m, rfl, hSt, hWh, hgl, hw, hSd⟩
      rw [List.length_map, List.length_map] at hb
      have hbl : b < ms.length := by omega
      obtain ⟨k, hk⟩ : ∃ k, ms[b]? = some k := ⟨ms[b], List.getElem?_eq_getElem hbl⟩
      have hk6 := h6 k (List.mem_of_getElem? hk)
      have hrow : rowB ms (inB ws) b = keptB ms (inB ws) b + k := by
        unfold rowB
        rw [List.getD_eq_getElem?_getD, hk]
        rfl
      have hkb := keptB_le ms (inB ws) h6 b
      rw [show (0 : Int) + ((b : Nat) : Int) = ((b : Nat) : Int) from Int.zero_add _]
      -- the tellings
      refine gb_cut (fun σ' H' => ∃ (v3 : Option V) (ps : List (Addr × Addr × Addr)) (ns : List (List Int × List Nat)) (m : Cr), σ' = [some (.ref a), some (.ref p), some (.int (1 + r1)), v3, some (.ref am), some (.ref aw), some (.int ((z : Nat) : Int)), some (.int ((M : Nat) : Int)), some (.int ((room : Nat) : Int)), some (.ref A.c), some (optV first), some (.int ((g : Nat) : Int)), some (.int ((b : Nat) : Int)), v13, v14] ∧
        SAt T.A_Craft T.A_Laying H' p q am aw us ms ws A ps room z ns m ∧ Whole z (6 * b + 6) ns ∧ m.gone.length ≤ 200 * b + 138 ∧ m.win = false ∧ (first = none → (Free m (rowB ms (inB ws) b) ∧ rowB ms (inB ws) b ≤ room) ∨ (m.gone ≠ [] ∧ room < rowB ms (inB ws) b))) (fun σ' H1 ⟨w3, ps, ns, m, es, hSt, hWh, hgl, hw, hF⟩ => ?_) (fun D' nx => ?_)
      · subst es
        have hF2 : first = none → (∀ j, j < b → rowB ms (inB ws) j ≤ room ∧ rowB ms (inB ws) j ≤ g) ∧ (g = 0 ∨ ∃ j, j < b ∧ rowB ms (inB ws) j = g) := fun e => by subst e; exact hSd.2
        have hF3 : ∀ i, first = some i → i < b ∧ room < rowB ms (inB ws) i ∧ ∀ j, j < i → rowB ms (inB ws) j ≤ room := fun i e => by subst e; exact hSd
        clear hSd
        -- what is lost
        refine seq_cut (fun σ' H' => ∃ (first' : Option Nat), σ' = [some (.ref a), some (.ref p), some (.int (1 + r1)), w3, some (.ref am), some (.ref aw), some (.int ((z : Nat) : Int)), some (.int ((M : Nat) : Int)), some (.int ((room : Nat) : Int)), some (.ref A.c), some (optV first'), some (.int ((g : Nat) : Int)), some (.int ((b : Nat) : Int)), v13, v14] ∧
          Same H1 H' ∧ (first' = none → first = none ∧ Free m (rowB ms (inB ws) b) ∧ rowB ms (inB ws) b ≤ room) ∧ ∀ i, first' = some i → i < b + 1 ∧ room < rowB ms (inB ws) i ∧ ∀ j, j < i → rowB ms (inB ws) j ≤ room) (fun σ' H2 ⟨first', es, s2, hN, hS⟩ => ?_) (fun D' nx => ?_)
        rotate_left
        · obtain ⟨qv, gs, hC⟩ := hSt.c
          refine ⟨_, rfl, A.c, A.dx, _, rfl, hC.o, cf_no (by decide), A, ps, room, z, ns, m, qv, gs, rfl, hC, fun p1 H2 hp1 tp1 np1 s2 => ⟨Nat.zero_le _, fun e he => ?_⟩⟩
          have s3 := same_new (Same.refl H2) he (o := .lst [])
          refine ⟨.list (m.gone.map mD2), .list [], .lst (SqL.of (s3 _ _ hp1)) (tp1.mono (TSm.of_same s3)).dp, .lst (SqL.of upd_same) .nil, (Lay.list fun x _ => lay_mk2 x).shaped (by decide), Lay.nil.shaped (by decide), _, rfl, ?_⟩
          rw [eqv_nil]
          have s13 := s2.trans s3
          cases first with
          | some i =>
            have h3 := hF3 i rfl
            have fin2 : D'.nx [some (.ref a), some (.ref p), some (.int (1 + r1)), w3, some (.ref am), some (.ref aw), some (.int ((z : Nat) : Int)), some (.int ((M : Nat) : Int)), some (.int ((room : Nat) : Int)), some (.ref A.c), some (optV (some i)), some (.int ((g : Nat) : Int)), some (.int ((b : Nat) : Int)), v13, v14] (upd H2 e (.lst [])) := nx _ _ ⟨some i, rfl, s13, fun z => (by cases z), fun j e => (by cases e; exact ⟨by omega, h3.2⟩)⟩
            by_cases c : m.gone = []
            · rw [c]
              exact iteF (iteF fin2)
            · rw [show (!(m.gone.map mD2).isEmpty) = true by simp [c]]
              exact iteT ⟨_, rfl, rfl, _, rfl, iteF fin2⟩
          | none =>
            rcases hF rfl with ⟨h1, h2⟩ | ⟨h1, h2⟩
            · rw [h1.g]
              exact iteF (iteF (nx _ _ ⟨none, rfl, s13, fun _ => ⟨rfl, h1, h2⟩, fun j e => (by cases e)⟩))
            · rw [show (!(m.gone.map mD2).isEmpty) = true by simp [h1]]
              refine iteT ⟨_, rfl, rfl, _, rfl, iteT ?_⟩
              refine ⟨_, rfl, nx _ _ ⟨some b, rfl, s13, fun z => (by cases z), fun j e => ?_⟩⟩
              cases e
              exact ⟨Nat.lt_succ_self _, h2, fun j hj => ((hF2 rfl).1 j hj).1⟩
        subst es
        clear hF hF3
        have hSt2 := hSt.same s2
        clear hSt s2
        -- the most
        obtain ⟨qv, gs, hC⟩ := hSt2.c
        refine ⟨_, rfl, _, rfl, A.c, A.dx, _, rfl, hC.o, cf_no (by decide), A, ps, room, z, ns, m, qv, gs, rfl, hC, fun p1 us1 H3 hp1 tp1 np1 s3 => ⟨p1, _, rfl, .inl (SqL.of hp1), _, _, rfl, ?_⟩⟩
        have hl1 : us1.length = m.q.length := by rw [tp1.length, List.length_map]
        obtain ⟨g', eg, hg1, hg2, hg3⟩ : ∃ g' : Nat, (if ((us1.length : Nat) : Int) > ((g : Nat) : Int) then ((us1.length : Nat) : Int) else ((g : Nat) : Int)) = ((g' : Nat) : Int) ∧ g ≤ g' ∧ m.q.length ≤ g' ∧ (g' = g ∨ g' = m.q.length) := by
          by_cases c : ((us1.length : Nat) : Int) > ((g : Nat) : Int)
          · exact ⟨m.q.length, by rw [if_pos c, hl1], by omega, Nat.le_refl _, .inr rfl⟩
          · exact ⟨g, by rw [if_neg c], Nat.le_refl _, by omega, .inl rfl⟩
        simp only [eg]
        have hSt3 := hSt2.same s3
        clear hSt2 hC hp1 tp1 np1 s3 eg
        -- in a window
        refine ⟨_, rfl, aw, rfl, ⟨_, SqT.of hSt3.ws.w⟩, fun L hL => ?_⟩
        have hWs := hSt3.ws
        have hul := hWs.len
        refine lc_tup (K := K) (a := aw) (xs := us) (fun i H' => ∃ xs, H' L = some (.lst xs) ∧ TDs H' xs (((ws.take i).filter fun x => decide (x.1 ≤ ((b : Nat) : Int)) && decide (((b : Nat) : Int) < x.2)).map wZ) ∧ Same H3 H') ⟨[], upd_same, .nil, same_new (Same.refl _) hL⟩ (fun i H' _ ⟨_, _, _, s⟩ => SqT.of (s _ _ hWs.w)) ?_ ?_
        · rintro i y H4 hy ⟨xs, hLx, tL, s4⟩
          obtain ⟨d, hd, td⟩ := hWs.t.get hy
          obtain ⟨x, hx, rfl⟩ := map_get hd
          have hil := (List.getElem?_eq_some_iff.mp hx).1
          have tdx := td.mono (TSm.of_same s4)
          obtain ⟨pw, rfl, hp⟩ := td_w tdx
          have hxl : xs.length ≤ i := by
            rw [tL.length, List.length_map]
            refine Nat.le_trans (List.length_filter_le _ _) ?_
            rw [List.length_take]; omega
          have ew : (ws.take (i + 1)).filter (fun x => decide (x.1 ≤ ((b : Nat) : Int)) && decide (((b : Nat) : Int) < x.2)) = (ws.take i).filter (fun x => decide (x.1 ≤ ((b : Nat) : Int)) && decide (((b : Nat) : Int) < x.2)) ++ (if (decide (x.1 ≤ ((b : Nat) : Int)) && decide (((b : Nat) : Int) < x.2)) = true then [x] else []) := walked hx
          rw [ew]
          have no : (decide (x.1 ≤ ((b : Nat) : Int)) && decide (((b : Nat) : Int) < x.2)) = false → ∃ xs, H4 L = some (.lst xs) ∧ TDs H4 xs (((ws.take i).filter (fun x => decide (x.1 ≤ ((b : Nat) : Int)) && decide (((b : Nat) : Int) < x.2)) ++ (if (decide (x.1 ≤ ((b : Nat) : Int)) && decide (((b : Nat) : Int) < x.2)) = true then [x] else [])).map wZ) ∧ Same H3 H4 := fun e => by
            rw [e, if_neg (by decide), List.append_nil]
            exact ⟨xs, hLx, tL, s4⟩
          refine ⟨rfl, _, rfl, pw, _, 0, _, rfl, rfl, SqT.of hp, atI_nat (j := 0) rfl, _, rfl, _, _, rfl, rfl, _, rfl, ?_⟩
          by_cases c1 : x.1 ≤ ((b : Nat) : Int)
          · refine ite2 (fun _ => ?_) (fun z => absurd (decide_eq_true c1) z)
            refine ⟨_, rfl, pw, _, 1, _, rfl, rfl, SqT.of hp, atI_nat (j := 1) rfl, _, _, rfl, rfl, _, rfl, ?_⟩
            by_cases c2 : ((b : Nat) : Int) < x.2
            · refine ite2 (fun _ => ?_) (fun z => absurd (decide_eq_true c2) z)
              refine ⟨_, rfl, xs, hLx, lt_line (by omega), _, upd_same, ?_, same_mut s4 hL⟩
              rw [decide_eq_true c1, decide_eq_true c2, if_pos (by decide), List.map_append]
              have t7 : TSm H4 (upd H4 L (.lst (xs ++ [.ref pw]))) := ts_upd (TSm.refl _) (NoT.lst hLx)
              exact (tL.mono t7).app (.one (tdx.mono t7))
            · refine ite2 (fun z => absurd (of_decide_eq_true z) c2) (fun _ => ?_)
              exact no (by rw [decide_eq_false c2, Bool.and_false])
          · refine ite2 (fun z => absurd (of_decide_eq_true z) c1) (fun _ => ?_)
            refine ⟨false, rfl, iteF ?_⟩
            exact no (by rw [decide_eq_false c1, Bool.false_and])
        rintro H4 ⟨xs, hLx, tL, s4⟩
        rw [hul, List.take_length] at tL
        have hSt4 := hSt3.same s4
        clear hSt3 hWs hL
        refine ⟨Nat.zero_le _, fun e he => ?_⟩
        have s5 := same_new (Same.refl H4) he (o := .lst [])
        refine ⟨.list ((ws.filter fun x => decide (x.1 ≤ ((b : Nat) : Int)) && decide (((b : Nat) : Int) < x.2)).map wZ), .list [], .lst (SqL.of (s5 _ _ hLx)) (tL.mono (TSm.of_same s5)).dp, .lst (SqL.of upd_same) .nil, (Lay.list fun x _ => lay_wZ x).shaped (by decide), Lay.nil.shaped (by decide), _, rfl, ?_⟩
        rw [eqv_nil]
        have ein : (!((ws.filter fun x => decide (x.1 ≤ ((b : Nat) : Int)) && decide (((b : Nat) : Int) < x.2)).map wZ).isEmpty) = inB ws b := by
          rw [List.isEmpty_map, any_empty, Bool.not_not]
          rfl
        rw [ein]
        have hSt5 := hSt4.same s5
        generalize upd H4 e (.lst []) = H5 at *
        clear hSt4 hLx tL s4 s5 he ein
        have hkn : keptB ms (inB ws) (b + 1) = rowB ms (inB ws) b - (if inB ws b = true then 1 else 0) := rfl
        -- what holds behind
        have stand : ∀ m', (first' = none → Free m' (keptB ms (inB ws) (b + 1))) → Stand ms ws room (b + 1) m' g' first' := by
          intro m' hm'
          cases first' with
          | some i => exact hS i rfl
          | none =>
            obtain ⟨e1, e2, e3⟩ := hN rfl
            obtain ⟨f1, f2⟩ := hF2 e1
            refine ⟨hm' rfl, fun j hj => ?_, ?_⟩
            · by_cases c : j < b
              · have := f1 j c
                exact ⟨this.1, by omega⟩
              · have ej : j = b := by omega
                subst ej
                exact ⟨e3, by have := e2.n; omega⟩
            · rcases hg3 with z | z
              · rcases f2 with z2 | ⟨j, hj, ej⟩
                · exact .inl (by omega)
                · exact .inr ⟨j, by omega, by omega⟩
              · exact .inr ⟨b, Nat.lt_succ_self _, by rw [z]; exact e2.n.symm⟩
        cases hin : inB ws b with
        | false =>
          refine iteF ?_
          refine ⟨_, _, _, _, first', g', ps, ns, m, rfl, hSt5, hWh.more (by omega), by omega, hw, stand m fun e => ?_⟩
          rw [hkn, hin, if_neg (by decide), Nat.sub_zero]
          exact (hN e).2.1
        | true =>
          refine iteT ?_
          obtain ⟨qv, gs, hC⟩ := hSt5.c
          have hcm : ∀ x ∈ [A.c], x ∈ cM A ps := by intro x hx; rw [List.mem_singleton.mp hx]; simp [cM]
          have hcm3 : ∀ x ∈ [A.fr, A.se, A.ak], x ∈ cM A ps := fun x hx => cM4 x (List.mem_append_left [A.go] hx)
          have hcm2 : ∀ x ∈ [A.se, A.ak], x ∈ cM A ps := fun x hx => hcm3 x (List.mem_cons_of_mem _ hx)
          refine ⟨_, rfl, A.c, A.dx, _, rfl, hC.o, cf_no (by decide), A, ps, room, z, ns, m, qv, gs, rfl, hC, fun H6 hC6 k6 d6 => ?_⟩
          have hSt6 := hSt5.craft hC6 (k6.mono hcm) (hSt5.b.of fun x hx => hx) (fun a h => .inl h)
          refine ⟨_, rfl, A.c, A.dx, _, rfl, hC6.o, cf_no (by decide), A, ps, room, z, ns, { m with win := true }, qv, gs, rfl, hC6, fun e H7 s7 => ?_, fun k x ew e hx ek v H7 hC7 tv k7 d7 => ?_⟩
          · have hSt7 := hSt6.same s7
            have hC7 := hC6.same s7
            refine ⟨_, rfl, A.c, A.dx, _, rfl, hC7.o, cf_no (by decide), _, rfl, rfl, _, rfl, iteF ⟨Nat.zero_le _, fun l hl => ?_⟩⟩
            have s8 := same_new (Same.refl H7) hl (o := .lst [])
            have hSt8 := hSt7.same s8
            have hC8 := hC7.same s8
            refine ⟨A, ps, room, z, ns, { m with win := true }, qv, gs, l, [], [], rfl, hC8, upd_same, .nil, by simp, (ne_of_none hC7.go hl).symm, fun H9 qv9 hC9 k9 d9 => ?_⟩
            have hSt9 := hSt8.craft hC9 (k9.mono hcm3) (hSt8.b.of fun x hx => knows_q hx) (fun a h => .inl h)
            refine ⟨_, rfl, A.c, A.dx, _, rfl, hC9.o, cf_no (by decide), A, ps, room, z, ns, _, qv9, gs, rfl, hC9, fun H10 hC10 k10 d10 => ?_⟩
            have hSt10 := hSt9.craft hC10 (k10.mono hcm) (hSt9.b.of fun x hx => hx) (fun a h => .inl h)
            refine ⟨_, _, _, _, first', g', ps, ns, _, rfl, hSt10, hWh.more (by omega), ?_, rfl, stand _ fun e1 => ?_⟩
            · show m.gone.length ≤ _
              omega
            · have h1 := (hN e1).2.1
              rcases e with e | e
              · cases e
              · rw [h1.next true] at e
                have hm : m.marks = [] := by
                  cases hm : m.marks with
                  | nil => rfl
                  | cons k l => rw [hm] at e; cases e
                have hl0 : m.q.length = 0 := by
                  have : m.marks.length = m.q.length := List.length_map _
                  rw [← this, hm]; rfl
                rw [hkn, hin, if_pos rfl]
                refine ⟨h1.g, h1.s, h1.a, ?_, rfl⟩
                show m.q.length = _
                have := h1.n
                omega
          · have hSt7 := hSt6.craft hC7 (k7.mono hcm2) (hSt6.b.of fun x hx => hx) (fun a h => .inl h)
            obtain ⟨a1, b1, rfl, ha1, hb1⟩ := td_frm tv
            have hxb := hSt5.b x hx
            obtain ⟨nx1, hnx1, hnx2⟩ := hxb
            have hx4 : x.1 < 4 := by
              have := (List.getElem?_eq_some_iff.mp hnx1).1
              rw [hC.nl] at this
              exact this
            have hx9 : x.2.1 ≤ 9999 := by
              have := (hWh nx1 (List.mem_of_getElem? hnx1)).2
              omega
            refine ⟨_, rfl, A.c, A.dx, _, rfl, hC7.o, cf_no (by decide), _, rfl, rfl, _, rfl, iteT ?_⟩
            refine ⟨_, rfl, 2, rfl, a1, _, rfl, SqT.of ha1, nocut2 _ _ _ _, fun t ht => ?_⟩
            rw [cut2]
            have s8 := same_new (Same.refl H7) ht (o := .tup [.int ((x.1 : Nat) : Int), .int ((x.2.1 : Nat) : Int)])
            have ht8 : upd H7 t (.tup [.int ((x.1 : Nat) : Int), .int ((x.2.1 : Nat) : Int)]) t = some (.tup [.int ((x.1 : Nat) : Int), .int ((x.2.1 : Nat) : Int)]) := upd_same
            have hSt8 := hSt7.same s8
            have hC8 := hC7.same s8
            generalize upd H7 t (.tup [.int ((x.1 : Nat) : Int), .int ((x.2.1 : Nat) : Int)]) = H8 at *
            refine ⟨(by decide : (1 : Nat) ≤ sizeLine), fun l hl => ?_⟩
            have s9 := same_new (Same.refl H8) hl (o := .lst [.ref t])
            have hSt9 := hSt8.same s9
            have hC9 := hC8.same s9
            have tk : TD (upd H8 l (.lst [.ref t])) (.ref t) (mD2 (mkOf x)) := .tup (s9 _ _ ht8) (.cons (.int _) (.cons (.int _) .nil))
            refine ⟨A, ps, room, z, ns, ({ m with win := true } : Cr).sends k, qv, gs, l, [.ref t], [k], rfl, hC9, upd_same, .one (by rw [← ek]; exact tk), ?_, (ne_of_none hC8.go hl).symm, fun H10 qv10 hC10 k10 d10 => ?_⟩
            · intro j hj
              rw [List.mem_singleton.mp hj, ← ek]
              exact ⟨by show x.1 ≤ 3; omega, hx9⟩
            have hSt10 := hSt9.craft hC10 (k10.mono hcm3) (hSt9.b.of fun x hx => knows_q hx) (fun a h => .inl h)
            refine ⟨_, rfl, A.c, A.dx, _, rfl, hC10.o, cf_no (by decide), A, ps, room, z, ns, _, qv10, gs, rfl, hC10, fun H11 hC11 k11 d11 => ?_⟩
            have hSt11 := hSt10.craft hC11 (k11.mono hcm) (hSt10.b.of fun x hx => hx) (fun a h => .inl h)
            refine ⟨_, _, _, _, first', g', ps, ns, _, rfl, hSt11, hWh.more (by omega), ?_, rfl, stand _ fun e1 => ?_⟩
            · show ((({ m with win := true } : Cr).sends k).knows [k]).gone.length ≤ _
              rw [knows_gone]
              show m.gone.length ≤ _
              omega
            · have h1 := (hN e1).2.1
              rw [hkn, hin, if_pos rfl]
              have hk2 : k ∈ m.marks := by rw [← ek]; exact List.mem_map.mpr ⟨x, hx, rfl⟩
              exact h1.gone1 hC.ok hk2 true
      · refine ⟨_, rfl, _, rfl, am, _, ((b : Nat) : Int), .int ((k : Nat) : Int), rfl, rfl, SqT.of hSt.ms.m, atI_nat (by rw [List.getElem?_map, List.getElem?_map, hk]; rfl), _, rfl, by omega, by omega, ?_⟩
        refine for_range (lo := 0) (n := ((k : Nat) : Int).toNat) (fun j σ' H' => ∃ (v3 : Option V) (ps : List (Addr × Addr × Addr)) (ns : List (List Int × List Nat)) (m : Cr), σ' = [some (.ref a), some (.ref p), some (.int (1 + r1)), v3, some (.ref am), some (.ref aw), some (.int ((z : Nat) : Int)), some (.int ((M : Nat) : Int)), some (.int ((room : Nat) : Int)), some (.ref A.c), some (optV first), some (.int ((g : Nat) : Int)), some (.int ((b : Nat) : Int)), v13, v14] ∧
          SAt T.A_Craft T.A_Laying H' p q am aw us ms ws A ps room z ns m ∧ Whole z (6 * b + j) ns ∧ m.gone.length ≤ 200 * b + 23 * j ∧ m.win = false ∧ (first = none → (Free m (keptB ms (inB ws) b + j) ∧ keptB ms (inB ws) b + j ≤ room) ∨ (m.gone ≠ [] ∧ room < keptB ms (inB ws) b + j))) ⟨_, ps, ns, m, rfl, hSt, hWh, hgl, hw, fun e => ?_⟩ ?_ ?_
        · subst e
          left
          refine ⟨hSd.1, ?_⟩
          obtain ⟨qv, gs, hC⟩ := hSt.c
          have := hC.ok.few
          rw [hSd.1.n] at this
          exact this
        · rintro j σ' H2 hj ⟨w3, ps, ns, m, rfl, hSt, hWh, hgl, hw, hF⟩
          obtain ⟨qv, gs, hC⟩ := hSt.c
          refine ⟨_, rfl, A.c, A.dx, _, rfl, hC.o, cf_no (by decide), _, rfl, p, q, 4, rfl, hSt.h, by decide, by decide, fun r H3 r0 r4 hA3 k3 _ => ?_⟩
          have hSt3 := hSt.drawn hA3 k3
          obtain ⟨s, rfl⟩ : ∃ s : Nat, r = (s : Int) := ⟨r.toNat, (Int.toNat_of_nonneg r0).symm⟩
          refine ⟨(by decide : (1 : Nat) ≤ sizeLine), fun t1 ht1 => ?_⟩
          have s4 := same_new (Same.refl H3) ht1 (o := .tup [.int 7])
          refine ⟨_, rfl, _, 3, rfl, rfl, t1, _, [.int 7], rfl, rfl, SqT.of upd_same, by simp, by omega, by omega, by decide, fun t2 ht2 => ?_⟩
          have s5 := s4.trans (same_new (Same.refl _) ht2 (o := .tup (List.replicate (((z : Nat) : Int) - 3).toNat [V.int 7]).flatten))
          have h2 : upd (upd H3 t1 (.tup [.int 7])) t2 (.tup (List.replicate (((z : Nat) : Int) - 3).toNat [V.int 7]).flatten) t2 = some (.tup ((List.replicate (z - 3) (7 : Int)).map V.int)) := by
            rw [upd_same, rep7, show (((z : Nat) : Int) - 3).toNat = z - 3 by omega]
          generalize upd (upd H3 t1 (.tup [.int 7])) t2 (.tup (List.replicate (((z : Nat) : Int) - 3).toNat [V.int 7]).flatten) = H5 at *
          have hSt5 := hSt3.same s5
          obtain ⟨qv5, gs5, hC5⟩ := hSt5.c
          have hs4 : s < ns.length := by rw [hC5.nl]; omega
          have hn : ns[s]? = some ns[s] := List.getElem?_eq_getElem hs4
          have htell : tellOk (List.replicate (z - 3) (7 : Int)) := ⟨by rw [List.length_replicate]; omega, by rw [List.length_replicate]; omega, fun x hx => by rw [(List.mem_replicate.mp hx).2]; decide⟩
          obtain ⟨f, hf, hw0, hw1⟩ := tFrames_one (n := ns[s]) (t := List.replicate (z - 3) (7 : Int)) (show 0 < z by omega) (hWh _ (List.getElem_mem hs4)).1 (by rw [List.length_replicate]; omega)
          refine ⟨A, ps, room, z, ns, m, qv5, gs5, s, ns[s], t2, List.replicate (z - 3) 7, rfl, hC5, hSt5.b, hn, h2, htell, hz8, by omega, by omega, fun H6 ps6 qv6 gs6 hC6 hB6 hg6 hcm6 k6 d6 => ?_⟩
          rw [hf] at hC6 hB6 hg6
          have hW6 : Whole z (6 * b + j + 1) (ns.set s (lay1 ns[s] (List.replicate (z - 3) 7))) := hWh.set ⟨hw0, by rw [hw1]; have := (hWh _ (List.getElem_mem hs4)).2; omega⟩
          refine ⟨_, ps6, _, _, rfl, hSt5.craft hC6 k6 hB6 hcm6, hW6, by omega, ?_, fun e => ?_⟩
          · show (m.keep room (s, f)).win = false
            unfold Cr.keep
            split
            · show m.makeRoom.win = false
              have hne : m.q ≠ [] := fun z => by rename_i hq; rw [z] at hq; simp at hq; omega
              rw [(hC5.ok.room hne).2.2.2]; exact hw
            · exact hw
          · rcases hF e with ⟨h1, h3⟩ | ⟨h1, h3⟩
            · by_cases lt : keptB ms (inB ws) b + j < room
              · left
                exact ⟨h1.tell lt, by omega⟩
              · right
                exact ⟨h1.over (by omega) (by omega), by omega⟩
            · right
              exact ⟨keep_lost h1, by omega⟩
        · rintro σ' H2 ⟨w3, ps, ns, m, rfl, hSt, hWh, hgl, hw, hF⟩
          rw [show ((k : Nat) : Int).toNat = k by omega] at hWh hgl hF
          rw [← hrow] at hF
          exact nx _ _ ⟨w3, ps, ns, m, rfl, hSt, hWh.more (by omega), by omega, hw, hF⟩
    · rintro σ H' ⟨v3, v12, v13, v14, first, g, ps, ns, m, rfl, hSt, hWh, hgl, hw, hSd⟩
      rw [show ((((ms.map fun x : Nat => (x : Int)).map V.int).length : Nat) : Int).toNat = ms.length by rw [List.length_map, List.length_map]; omega] at hSd
      have hfirst : firstN (rowsB ms (inB ws)) room = first := by
        cases first with
        | none => exact firstB_none.mpr fun i hi => (hSd.2.1 i hi).1
        | some i =>
          obtain ⟨h1, h2, h3⟩ := hSd
          refine firstN_hit (by rw [rowsB_len]; exact h1) (by rw [getD_nat (rowsB_at h1)]; exact h2) fun j hj => ?_
          rw [getD_nat (rowsB_at (by omega))]
          have := h3 j hj
          omega
      refine ⟨_, rfl, _, rfl, _, rfl, _, rfl, am, aw, us, ms, ws, room, rfl, hSt.ms, hSt.ws, hPl, hr1, hr60, fun H2 s2 => ?_⟩
      rw [hfirst]
      refine ⟨_, _, optD first, rfl, (TD.opt (H := H2) first).dp, (TD.opt (H := H2) first).dp, DOk.opt first, fun H3 s3 => ⟨true, rfl, iteF ?_⟩⟩
      cases first with
      | some i => exact ⟨_, rfl, rfl, true, rfl, iteT (fin _)⟩
      | none =>
        refine ⟨_, rfl, rfl, false, rfl, iteF ?_⟩
        have hM : g = M := by
          rw [← eM]
          refine Nat.le_antisymm ?_ (most_rows.mpr fun i hi => (hSd.2.1 i hi).2)
          rcases hSd.2.2 with e | ⟨j, hj, e⟩
          · omega
          · rw [← e]; exact most_rows.mp (Nat.le_refl _) j hj
        refine ⟨_, rfl, _, rfl, rfl, ?_⟩
        rw [hM, decide_eq_true rfl]
        exact fin _
end
end K10

namespace K10
open PySem PySem.Spec PyProof.Rows L2 Sky
/-- the facts of the top, put together -/
def mkTx {K : PySem.W.Frag} {h : Heap} {mg : Str → Option Value} (X : K.In h) (G : h.Ns mainGlobals mg)
    {A_Laying A_Craft f_is_number f_is_stream f_holds_numbers f_is_telling f_is_mark f_is_window f_check_stream f_check_telling f_check_size f_check_room f_check_marks f_check_makes f_check_windows f_Laying_init f_Laying_lay f_Laying_fill f_Laying_done f_Craft_init f_Craft_tell f_Craft_close f_Craft_begin f_Craft_shut f_Craft_beat f_Craft_known f_Craft_kept f_Craft_lost f_Craft_next_mark f_Craft_keep f_Craft_make_room f_Craft_let_go f_most_kept f_short_at f_kept_at_beats f_first_short f_law_mix f_law_next f_law_alike f_law_windows f_law : Addr} {od_is_number an_is_number od_is_stream an_is_stream od_holds_numbers an_holds_numbers od_is_telling an_is_telling od_is_mark an_is_mark od_is_window an_is_window od_check_stream an_check_stream od_check_telling an_check_telling od_check_size an_check_size od_check_room an_check_room od_check_marks an_check_marks od_check_makes an_check_makes od_check_windows an_check_windows od_Laying_init an_Laying_init od_Laying_lay an_Laying_lay od_Laying_fill an_Laying_fill od_Laying_done an_Laying_done od_Craft_init an_Craft_init od_Craft_tell an_Craft_tell od_Craft_close an_Craft_close od_Craft_begin an_Craft_begin od_Craft_shut an_Craft_shut od_Craft_beat an_Craft_beat od_Craft_known an_Craft_known od_Craft_kept an_Craft_kept od_Craft_lost an_Craft_lost od_Craft_next_mark an_Craft_next_mark od_Craft_keep an_Craft_keep od_Craft_make_room an_Craft_make_room od_Craft_let_go an_Craft_let_go od_most_kept an_most_kept od_short_at an_short_at od_kept_at_beats an_kept_at_beats od_first_short an_first_short od_law_mix an_law_mix od_law_next an_law_next od_law_alike an_law_alike od_law_windows an_law_windows od_law an_law : Option Addr} {sl_is_number sl_is_stream sl_holds_numbers sl_is_telling sl_is_mark sl_is_window sl_check_stream sl_check_telling sl_check_size sl_check_room sl_check_marks sl_check_makes sl_check_windows sl_Laying_init sl_Laying_lay sl_Laying_fill sl_Laying_done sl_Craft_init sl_Craft_tell sl_Craft_close sl_Craft_begin sl_Craft_shut sl_Craft_beat sl_Craft_known sl_Craft_kept sl_Craft_lost sl_Craft_next_mark sl_Craft_keep sl_Craft_make_room sl_Craft_let_go sl_most_kept sl_short_at sl_kept_at_beats sl_first_short sl_law_mix sl_law_next sl_law_alike sl_law_windows sl_law : Array (Option Value)}
    {oc_is_number kV_is_number dc_is_number pm_is_number cd_is_number ct_is_number oc_is_stream kV_is_stream dc_is_stream pm_is_stream cd_is_stream ct_is_stream oc_holds_numbers kV_holds_numbers dc_holds_numbers pm_holds_numbers cd_holds_numbers ct_holds_numbers oc_is_telling kV_is_telling dc_is_telling pm_is_telling cd_is_telling ct_is_telling oc_is_mark kV_is_mark dc_is_mark pm_is_mark cd_is_mark ct_is_mark oc_is_window kV_is_window dc_is_window pm_is_window cd_is_window ct_is_window oc_check_stream kV_check_stream dc_check_stream pm_check_stream cd_check_stream ct_check_stream oc_check_telling kV_check_telling dc_check_telling pm_check_telling cd_check_telling ct_check_telling oc_check_size kV_check_size dc_check_size pm_check_size cd_check_size ct_check_size oc_check_room kV_check_room dc_check_room pm_check_room cd_check_room ct_check_room oc_check_marks kV_check_marks dc_check_marks pm_check_marks cd_check_marks ct_check_marks oc_check_makes kV_check_makes dc_check_makes pm_check_makes cd_check_makes ct_check_makes oc_check_windows kV_check_windows dc_check_windows pm_check_windows cd_check_windows ct_check_windows oc_Laying_init kV_Laying_init dc_Laying_init pm_Laying_init cd_Laying_init ct_Laying_init oc_Laying_lay kV_Laying_lay dc_Laying_lay pm_Laying_lay cd_Laying_lay ct_Laying_lay oc_Laying_fill kV_Laying_fill dc_Laying_fill pm_Laying_fill cd_Laying_fill ct_Laying_fill oc_Laying_done kV_Laying_done dc_Laying_done pm_Laying_done cd_Laying_done ct_Laying_done oc_Craft_init kV_Craft_init dc_Craft_init pm_Craft_init cd_Craft_init ct_Craft_init oc_Craft_tell kV_Craft_tell dc_Craft_tell pm_Craft_tell cd_Craft_tell ct_Craft_tell oc_Craft_close kV_Craft_close dc_Craft_close pm_Craft_close cd_Craft_close ct_Craft_close oc_Craft_begin kV_Craft_begin dc_Craft_begin pm_Craft_begin cd_Craft_begin ct_Craft_begin oc_Craft_shut kV_Craft_shut dc_Craft_shut pm_Craft_shut cd_Craft_shut ct_Craft_shut oc_Craft_beat kV_Craft_beat dc_Craft_beat pm_Craft_beat cd_Craft_beat ct_Craft_beat oc_Craft_known kV_Craft_known dc_Craft_known pm_Craft_known cd_Craft_known ct_Craft_known oc_Craft_kept kV_Craft_kept dc_Craft_kept pm_Craft_kept cd_Craft_kept ct_Craft_kept oc_Craft_lost kV_Craft_lost dc_Craft_lost pm_Craft_lost cd_Craft_lost ct_Craft_lost oc_Craft_next_mark kV_Craft_next_mark dc_Craft_next_mark pm_Craft_next_mark cd_Craft_next_mark ct_Craft_next_mark oc_Craft_keep kV_Craft_keep dc_Craft_keep pm_Craft_keep cd_Craft_keep ct_Craft_keep oc_Craft_make_room kV_Craft_make_room dc_Craft_make_room pm_Craft_make_room cd_Craft_make_room ct_Craft_make_room oc_Craft_let_go kV_Craft_let_go dc_Craft_let_go pm_Craft_let_go cd_Craft_let_go ct_Craft_let_go oc_most_kept kV_most_kept dc_most_kept pm_most_kept cd_most_kept ct_most_kept oc_short_at kV_short_at dc_short_at pm_short_at cd_short_at ct_short_at oc_kept_at_beats kV_kept_at_beats dc_kept_at_beats pm_kept_at_beats cd_kept_at_beats ct_kept_at_beats oc_first_short kV_first_short dc_first_short pm_first_short cd_first_short ct_first_short oc_law_mix kV_law_mix dc_law_mix pm_law_mix cd_law_mix ct_law_mix oc_law_next kV_law_next dc_law_next pm_law_next cd_law_next ct_law_next oc_law_alike kV_law_alike dc_law_alike pm_law_alike cd_law_alike ct_law_alike oc_law_windows kV_law_windows dc_law_windows pm_law_windows cd_law_windows ct_law_windows oc_law kV_law dc_law pm_law cd_law ct_law : Value} {t_STREAMS t_MOST_NUMBERS t_LEAST_SIZE t_MOST_SIZE t_MOST_ROOM t_MOST_COUNT t_MOST_BEATS t_MOST_MADE t_HUNDRED : Tok}
    (hA_Laying : PySem.W.nsIn K mainGlobals "Laying" = some (some (.ref A_Laying)))
    (hA_Craft : PySem.W.nsIn K mainGlobals "Craft" = some (some (.ref A_Craft)))
    (h_is_number : PySem.W.nsIn K mainGlobals "is_number" = some (some (.ref f_is_number)))
    (l_is_number : K.lookup f_is_number = some ⟨oc_is_number, od_is_number, .func (PySem.W.fnOf "is_number" "is_number" (defArgs s_is_number) (defBody s_is_number) (defScope s_is_number) .none kV_is_number dc_is_number pm_is_number an_is_number cd_is_number ct_is_number), sl_is_number⟩)
    (c_is_number : PySem.W.codeIn K cd_is_number "is_number" = true)
    (k_is_number : PySem.W.keepIn K (.ref f_is_number) = true)
    (h_is_stream : PySem.W.nsIn K mainGlobals "is_stream" = some (some (.ref f_is_stream)))
    (l_is_stream : K.lookup f_is_stream = some ⟨oc_is_stream, od_is_stream, .func (PySem.W.fnOf "is_stream" "is_stream" (defArgs s_is_stream) (defBody s_is_stream) (defScope s_is_stream) .none kV_is_stream dc_is_stream pm_is_stream an_is_stream cd_is_stream ct_is_stream), sl_is_stream⟩)
    (c_is_stream : PySem.W.codeIn K cd_is_stream "is_stream" = true)
    (k_is_stream : PySem.W.keepIn K (.ref f_is_stream) = true)
    (h_holds_numbers : PySem.W.nsIn K mainGlobals "holds_numbers" = some (some (.ref f_holds_numbers)))
    (l_holds_numbers : K.lookup f_holds_numbers = some ⟨oc_holds_numbers, od_holds_numbers, .func (PySem.W.fnOf "holds_numbers" "holds_numbers" (defArgs s_holds_numbers) (defBody s_holds_numbers) (defScope s_holds_numbers) .none kV_holds_numbers dc_holds_numbers pm_holds_numbers an_holds_numbers cd_holds_numbers ct_holds_numbers), sl_holds_numbers⟩)
    (c_holds_numbers : PySem.W.codeIn K cd_holds_numbers "holds_numbers" = true)
    (k_holds_numbers : PySem.W.keepIn K (.ref f_holds_numbers) = true)
    (h_is_telling : PySem.W.nsIn K mainGlobals "is_telling" = some (some (.ref f_is_telling)))
    (l_is_telling : K.lookup f_is_telling = some ⟨oc_is_telling, od_is_telling, .func (PySem.W.fnOf "is_telling" "is_telling" (defArgs s_is_telling) (defBody s_is_telling) (defScope s_is_telling) .none kV_is_telling dc_is_telling pm_is_telling an_is_telling cd_is_telling ct_is_telling), sl_is_telling⟩)
    (c_is_telling : PySem.W.codeIn K cd_is_telling "is_telling" = true)
    (k_is_telling : PySem.W.keepIn K (.ref f_is_telling) = true)
    (h_is_mark : PySem.W.nsIn K mainGlobals "is_mark" = some (some (.ref f_is_mark)))
    (l_is_mark : K.lookup f_is_mark = some ⟨oc_is_mark, od_is_mark, .func (PySem.W.fnOf "is_mark" "is_mark" (defArgs s_is_mark) (defBody s_is_mark) (defScope s_is_mark) .none kV_is_mark dc_is_mark pm_is_mark an_is_mark cd_is_mark ct_is_mark), sl_is_mark⟩)
    (c_is_mark : PySem.W.codeIn K cd_is_mark "is_mark" = true)
    (k_is_mark : PySem.W.keepIn K (.ref f_is_mark) = true)
    (h_is_window : PySem.W.nsIn K mainGlobals "is_window" = some (some (.ref f_is_window)))
    (l_is_window : K.lookup f_is_window = some ⟨oc_is_window, od_is_window, .func (PySem.W.fnOf "is_window" "is_window" (defArgs s_is_window) (defBody s_is_window) (defScope s_is_window) .none kV_is_window dc_is_window pm_is_window an_is_window cd_is_window ct_is_window), sl_is_window⟩)
    (c_is_window : PySem.W.codeIn K cd_is_window "is_window" = true)
    (k_is_window : PySem.W.keepIn K (.ref f_is_window) = true)
    (h_check_stream : PySem.W.nsIn K mainGlobals "check_stream" = some (some (.ref f_check_stream)))
    (l_check_stream : K.lookup f_check_stream = some ⟨oc_check_stream, od_check_stream, .func (PySem.W.fnOf "check_stream" "check_stream" (defArgs s_check_stream) (defBody s_check_stream) (defScope s_check_stream) .none kV_check_stream dc_check_stream pm_check_stream an_check_stream cd_check_stream ct_check_stream), sl_check_stream⟩)
    (c_check_stream : PySem.W.codeIn K cd_check_stream "check_stream" = true)
    (k_check_stream : PySem.W.keepIn K (.ref f_check_stream) = true)
    (h_check_telling : PySem.W.nsIn K mainGlobals "check_telling" = some (some (.ref f_check_telling)))
    (l_check_telling : K.lookup f_check_telling = some ⟨oc_check_telling, od_check_telling, .func (PySem.W.fnOf "check_telling" "check_telling" (defArgs s_check_telling) (defBody s_check_telling) (defScope s_check_telling) .none kV_check_telling dc_check_telling pm_check_telling an_check_telling cd_check_telling ct_check_telling), sl_check_telling⟩)
    (c_check_telling : PySem.W.codeIn K cd_check_telling "check_telling" = true)
    (k_check_telling : PySem.W.keepIn K (.ref f_check_telling) = true)
    (h_check_size : PySem.W.nsIn K mainGlobals "check_size" = some (some (.ref f_check_size)))
    (l_check_size : K.lookup f_check_size = some ⟨oc_check_size, od_check_size, .func (PySem.W.fnOf "check_size" "check_size" (defArgs s_check_size) (defBody s_check_size) (defScope s_check_size) .none kV_check_size dc_check_size pm_check_size an_check_size cd_check_size ct_check_size), sl_check_size⟩)
    (c_check_size : PySem.W.codeIn K cd_check_size "check_size" = true)
    (k_check_size : PySem.W.keepIn K (.ref f_check_size) = true)
    (h_check_room : PySem.W.nsIn K mainGlobals "check_room" = some (some (.ref f_check_room)))
    (l_check_room : K.lookup f_check_room = some ⟨oc_check_room, od_check_room, .func (PySem.W.fnOf "check_room" "check_room" (defArgs s_check_room) (defBody s_check_room) (defScope s_check_room) .none kV_check_room dc_check_room pm_check_room an_check_room cd_check_room ct_check_room), sl_check_room⟩)
    (c_check_room : PySem.W.codeIn K cd_check_room "check_room" = true)
    (k_check_room : PySem.W.keepIn K (.ref f_check_room) = true)
    (h_check_marks : PySem.W.nsIn K mainGlobals "check_marks" = some (some (.ref f_check_marks)))
    (l_check_marks : K.lookup f_check_marks = some ⟨oc_check_marks, od_check_marks, .func (PySem.W.fnOf "check_marks" "check_marks" (defArgs s_check_marks) (defBody s_check_marks) (defScope s_check_marks) .none kV_check_marks dc_check_marks pm_check_marks an_check_marks cd_check_marks ct_check_marks), sl_check_marks⟩)
    (c_check_marks : PySem.W.codeIn K cd_check_marks "check_marks" = true)
    (k_check_marks : PySem.W.keepIn K (.ref f_check_marks) = true)
    (h_check_makes : PySem.W.nsIn K mainGlobals "check_makes" = some (some (.ref f_check_makes)))
    (l_check_makes : K.lookup f_check_makes = some ⟨oc_check_makes, od_check_makes, .func (PySem.W.fnOf "check_makes" "check_makes" (defArgs s_check_makes) (defBody s_check_makes) (defScope s_check_makes) .none kV_check_makes dc_check_makes pm_check_makes an_check_makes cd_check_makes ct_check_makes), sl_check_makes⟩)
    (c_check_makes : PySem.W.codeIn K cd_check_makes "check_makes" = true)
    (k_check_makes : PySem.W.keepIn K (.ref f_check_makes) = true)
    (h_check_windows : PySem.W.nsIn K mainGlobals "check_windows" = some (some (.ref f_check_windows)))
    (l_check_windows : K.lookup f_check_windows = some ⟨oc_check_windows, od_check_windows, .func (PySem.W.fnOf "check_windows" "check_windows" (defArgs s_check_windows) (defBody s_check_windows) (defScope s_check_windows) .none kV_check_windows dc_check_windows pm_check_windows an_check_windows cd_check_windows ct_check_windows), sl_check_windows⟩)
    (c_check_windows : PySem.W.codeIn K cd_check_windows "check_windows" = true)
    (k_check_windows : PySem.W.keepIn K (.ref f_check_windows) = true)
    (h_Laying_init : PySem.W.findIn K (.ref A_Laying) "__init__" = some (some (.ref f_Laying_init)))
    (i_Laying_init : PySem.W.isFn K (.ref f_Laying_init) = true)
    (l_Laying_init : K.lookup f_Laying_init = some ⟨oc_Laying_init, od_Laying_init, .func (PySem.W.fnOf "__init__" "Laying.__init__" (defArgs s_Laying_init) (defBody s_Laying_init) (defScope s_Laying_init) .none kV_Laying_init dc_Laying_init pm_Laying_init an_Laying_init cd_Laying_init ct_Laying_init), sl_Laying_init⟩)
    (c_Laying_init : PySem.W.codeIn K cd_Laying_init "Laying.__init__" = true)
    (k_Laying_init : PySem.W.keepIn K (.ref f_Laying_init) = true)
    (h_Laying_lay : PySem.W.findIn K (.ref A_Laying) "lay" = some (some (.ref f_Laying_lay)))
    (i_Laying_lay : PySem.W.isFn K (.ref f_Laying_lay) = true)
    (l_Laying_lay : K.lookup f_Laying_lay = some ⟨oc_Laying_lay, od_Laying_lay, .func (PySem.W.fnOf "lay" "Laying.lay" (defArgs s_Laying_lay) (defBody s_Laying_lay) (defScope s_Laying_lay) .none kV_Laying_lay dc_Laying_lay pm_Laying_lay an_Laying_lay cd_Laying_lay ct_Laying_lay), sl_Laying_lay⟩)
    (c_Laying_lay : PySem.W.codeIn K cd_Laying_lay "Laying.lay" = true)
    (k_Laying_lay : PySem.W.keepIn K (.ref f_Laying_lay) = true)
    (h_Laying_fill : PySem.W.findIn K (.ref A_Laying) "fill" = some (some (.ref f_Laying_fill)))
    (i_Laying_fill : PySem.W.isFn K (.ref f_Laying_fill) = true)
    (l_Laying_fill : K.lookup f_Laying_fill = some ⟨oc_Laying_fill, od_Laying_fill, .func (PySem.W.fnOf "fill" "Laying.fill" (defArgs s_Laying_fill) (defBody s_Laying_fill) (defScope s_Laying_fill) .none kV_Laying_fill dc_Laying_fill pm_Laying_fill an_Laying_fill cd_Laying_fill ct_Laying_fill), sl_Laying_fill⟩)
    (c_Laying_fill : PySem.W.codeIn K cd_Laying_fill "Laying.fill" = true)
    (k_Laying_fill : PySem.W.keepIn K (.ref f_Laying_fill) = true)
    (h_Laying_done : PySem.W.findIn K (.ref A_Laying) "_done" = some (some (.ref f_Laying_done)))
    (i_Laying_done : PySem.W.isFn K (.ref f_Laying_done) = true)
    (l_Laying_done : K.lookup f_Laying_done = some ⟨oc_Laying_done, od_Laying_done, .func (PySem.W.fnOf "_done" "Laying._done" (defArgs s_Laying_done) (defBody s_Laying_done) (defScope s_Laying_done) .none kV_Laying_done dc_Laying_done pm_Laying_done an_Laying_done cd_Laying_done ct_Laying_done), sl_Laying_done⟩)
    (c_Laying_done : PySem.W.codeIn K cd_Laying_done "Laying._done" = true)
    (k_Laying_done : PySem.W.keepIn K (.ref f_Laying_done) = true)
    (h_Craft_init : PySem.W.findIn K (.ref A_Craft) "__init__" = some (some (.ref f_Craft_init)))
    (i_Craft_init : PySem.W.isFn K (.ref f_Craft_init) = true)
    (l_Craft_init : K.lookup f_Craft_init = some ⟨oc_Craft_init, od_Craft_init, .func (PySem.W.fnOf "__init__" "Craft.__init__" (defArgs s_Craft_init) (defBody s_Craft_init) (defScope s_Craft_init) .none kV_Craft_init dc_Craft_init pm_Craft_init an_Craft_init cd_Craft_init ct_Craft_init), sl_Craft_init⟩)
    (c_Craft_init : PySem.W.codeIn K cd_Craft_init "Craft.__init__" = true)
    (k_Craft_init : PySem.W.keepIn K (.ref f_Craft_init) = true)
    (h_Craft_tell : PySem.W.findIn K (.ref A_Craft) "tell" = some (some (.ref f_Craft_tell)))
    (i_Craft_tell : PySem.W.isFn K (.ref f_Craft_tell) = true)
    (l_Craft_tell : K.lookup f_Craft_tell = some ⟨oc_Craft_tell, od_Craft_tell, .func (PySem.W.fnOf "tell" "Craft.tell" (defArgs s_Craft_tell) (defBody s_Craft_tell) (defScope s_Craft_tell) .none kV_Craft_tell dc_Craft_tell pm_Craft_tell an_Craft_tell cd_Craft_tell ct_Craft_tell), sl_Craft_tell⟩)
    (c_Craft_tell : PySem.W.codeIn K cd_Craft_tell "Craft.tell" = true)
    (k_Craft_tell : PySem.W.keepIn K (.ref f_Craft_tell) = true)
    (h_Craft_close : PySem.W.findIn K (.ref A_Craft) "close" = some (some (.ref f_Craft_close)))
    (i_Craft_close : PySem.W.isFn K (.ref f_Craft_close) = true)
    (l_Craft_close : K.lookup f_Craft_close = some ⟨oc_Craft_close, od_Craft_close, .func (PySem.W.fnOf "close" "Craft.close" (defArgs s_Craft_close) (defBody s_Craft_close) (defScope s_Craft_close) .none kV_Craft_close dc_Craft_close pm_Craft_close an_Craft_close cd_Craft_close ct_Craft_close), sl_Craft_close⟩)
    (c_Craft_close : PySem.W.codeIn K cd_Craft_close "Craft.close" = true)
    (k_Craft_close : PySem.W.keepIn K (.ref f_Craft_close) = true)
    (h_Craft_begin : PySem.W.findIn K (.ref A_Craft) "begin" = some (some (.ref f_Craft_begin)))
    (i_Craft_begin : PySem.W.isFn K (.ref f_Craft_begin) = true)
    (l_Craft_begin : K.lookup f_Craft_begin = some ⟨oc_Craft_begin, od_Craft_begin, .func (PySem.W.fnOf "begin" "Craft.begin" (defArgs s_Craft_begin) (defBody s_Craft_begin) (defScope s_Craft_begin) .none kV_Craft_begin dc_Craft_begin pm_Craft_begin an_Craft_begin cd_Craft_begin ct_Craft_begin), sl_Craft_begin⟩)
    (c_Craft_begin : PySem.W.codeIn K cd_Craft_begin "Craft.begin" = true)
    (k_Craft_begin : PySem.W.keepIn K (.ref f_Craft_begin) = true)
    (h_Craft_shut : PySem.W.findIn K (.ref A_Craft) "shut" = some (some (.ref f_Craft_shut)))
    (i_Craft_shut : PySem.W.isFn K (.ref f_Craft_shut) = true)
    (l_Craft_shut : K.lookup f_Craft_shut = some ⟨oc_Craft_shut, od_Craft_shut, .func (PySem.W.fnOf "shut" "Craft.shut" (defArgs s_Craft_shut) (defBody s_Craft_shut) (defScope s_Craft_shut) .none kV_Craft_shut dc_Craft_shut pm_Craft_shut an_Craft_shut cd_Craft_shut ct_Craft_shut), sl_Craft_shut⟩)
    (c_Craft_shut : PySem.W.codeIn K cd_Craft_shut "Craft.shut" = true)
    (k_Craft_shut : PySem.W.keepIn K (.ref f_Craft_shut) = true)
    (h_Craft_beat : PySem.W.findIn K (.ref A_Craft) "beat" = some (some (.ref f_Craft_beat)))
    (i_Craft_beat : PySem.W.isFn K (.ref f_Craft_beat) = true)
    (l_Craft_beat : K.lookup f_Craft_beat = some ⟨oc_Craft_beat, od_Craft_beat, .func (PySem.W.fnOf "beat" "Craft.beat" (defArgs s_Craft_beat) (defBody s_Craft_beat) (defScope s_Craft_beat) .none kV_Craft_beat dc_Craft_beat pm_Craft_beat an_Craft_beat cd_Craft_beat ct_Craft_beat), sl_Craft_beat⟩)
    (c_Craft_beat : PySem.W.codeIn K cd_Craft_beat "Craft.beat" = true)
    (k_Craft_beat : PySem.W.keepIn K (.ref f_Craft_beat) = true)
    (h_Craft_known : PySem.W.findIn K (.ref A_Craft) "known" = some (some (.ref f_Craft_known)))
    (i_Craft_known : PySem.W.isFn K (.ref f_Craft_known) = true)
    (l_Craft_known : K.lookup f_Craft_known = some ⟨oc_Craft_known, od_Craft_known, .func (PySem.W.fnOf "known" "Craft.known" (defArgs s_Craft_known) (defBody s_Craft_known) (defScope s_Craft_known) .none kV_Craft_known dc_Craft_known pm_Craft_known an_Craft_known cd_Craft_known ct_Craft_known), sl_Craft_known⟩)
    (c_Craft_known : PySem.W.codeIn K cd_Craft_known "Craft.known" = true)
    (k_Craft_known : PySem.W.keepIn K (.ref f_Craft_known) = true)
    (h_Craft_kept : PySem.W.findIn K (.ref A_Craft) "kept" = some (some (.ref f_Craft_kept)))
    (i_Craft_kept : PySem.W.isFn K (.ref f_Craft_kept) = true)
    (l_Craft_kept : K.lookup f_Craft_kept = some ⟨oc_Craft_kept, od_Craft_kept, .func (PySem.W.fnOf "kept" "Craft.kept" (defArgs s_Craft_kept) (defBody s_Craft_kept) (defScope s_Craft_kept) .none kV_Craft_kept dc_Craft_kept pm_Craft_kept an_Craft_kept cd_Craft_kept ct_Craft_kept), sl_Craft_kept⟩)
    (c_Craft_kept : PySem.W.codeIn K cd_Craft_kept "Craft.kept" = true)
    (k_Craft_kept : PySem.W.keepIn K (.ref f_Craft_kept) = true)
    (h_Craft_lost : PySem.W.findIn K (.ref A_Craft) "lost" = some (some (.ref f_Craft_lost)))
    (i_Craft_lost : PySem.W.isFn K (.ref f_Craft_lost) = true)
    (l_Craft_lost : K.lookup f_Craft_lost = some ⟨oc_Craft_lost, od_Craft_lost, .func (PySem.W.fnOf "lost" "Craft.lost" (defArgs s_Craft_lost) (defBody s_Craft_lost) (defScope s_Craft_lost) .none kV_Craft_lost dc_Craft_lost pm_Craft_lost an_Craft_lost cd_Craft_lost ct_Craft_lost), sl_Craft_lost⟩)
    (c_Craft_lost : PySem.W.codeIn K cd_Craft_lost "Craft.lost" = true)
    (k_Craft_lost : PySem.W.keepIn K (.ref f_Craft_lost) = true)
    (h_Craft_next_mark : PySem.W.findIn K (.ref A_Craft) "_next_mark" = some (some (.ref f_Craft_next_mark)))
    (i_Craft_next_mark : PySem.W.isFn K (.ref f_Craft_next_mark) = true)
    (l_Craft_next_mark : K.lookup f_Craft_next_mark = some ⟨oc_Craft_next_mark, od_Craft_next_mark, .func (PySem.W.fnOf "_next_mark" "Craft._next_mark" (defArgs s_Craft_next_mark) (defBody s_Craft_next_mark) (defScope s_Craft_next_mark) .none kV_Craft_next_mark dc_Craft_next_mark pm_Craft_next_mark an_Craft_next_mark cd_Craft_next_mark ct_Craft_next_mark), sl_Craft_next_mark⟩)
    (c_Craft_next_mark : PySem.W.codeIn K cd_Craft_next_mark "Craft._next_mark" = true)
    (k_Craft_next_mark : PySem.W.keepIn K (.ref f_Craft_next_mark) = true)
    (h_Craft_keep : PySem.W.findIn K (.ref A_Craft) "_keep" = some (some (.ref f_Craft_keep)))
    (i_Craft_keep : PySem.W.isFn K (.ref f_Craft_keep) = true)
    (l_Craft_keep : K.lookup f_Craft_keep = some ⟨oc_Craft_keep, od_Craft_keep, .func (PySem.W.fnOf "_keep" "Craft._keep" (defArgs s_Craft_keep) (defBody s_Craft_keep) (defScope s_Craft_keep) .none kV_Craft_keep dc_Craft_keep pm_Craft_keep an_Craft_keep cd_Craft_keep ct_Craft_keep), sl_Craft_keep⟩)
    (c_Craft_keep : PySem.W.codeIn K cd_Craft_keep "Craft._keep" = true)
    (k_Craft_keep : PySem.W.keepIn K (.ref f_Craft_keep) = true)
    (h_Craft_make_room : PySem.W.findIn K (.ref A_Craft) "_make_room" = some (some (.ref f_Craft_make_room)))
    (i_Craft_make_room : PySem.W.isFn K (.ref f_Craft_make_room) = true)
    (l_Craft_make_room : K.lookup f_Craft_make_room = some ⟨oc_Craft_make_room, od_Craft_make_room, .func (PySem.W.fnOf "_make_room" "Craft._make_room" (defArgs s_Craft_make_room) (defBody s_Craft_make_room) (defScope s_Craft_make_room) .none kV_Craft_make_room dc_Craft_make_room pm_Craft_make_room an_Craft_make_room cd_Craft_make_room ct_Craft_make_room), sl_Craft_make_room⟩)
    (c_Craft_make_room : PySem.W.codeIn K cd_Craft_make_room "Craft._make_room" = true)
    (k_Craft_make_room : PySem.W.keepIn K (.ref f_Craft_make_room) = true)
    (h_Craft_let_go : PySem.W.findIn K (.ref A_Craft) "_let_go" = some (some (.ref f_Craft_let_go)))
    (i_Craft_let_go : PySem.W.isFn K (.ref f_Craft_let_go) = true)
    (l_Craft_let_go : K.lookup f_Craft_let_go = some ⟨oc_Craft_let_go, od_Craft_let_go, .func (PySem.W.fnOf "_let_go" "Craft._let_go" (defArgs s_Craft_let_go) (defBody s_Craft_let_go) (defScope s_Craft_let_go) .none kV_Craft_let_go dc_Craft_let_go pm_Craft_let_go an_Craft_let_go cd_Craft_let_go ct_Craft_let_go), sl_Craft_let_go⟩)
    (c_Craft_let_go : PySem.W.codeIn K cd_Craft_let_go "Craft._let_go" = true)
    (k_Craft_let_go : PySem.W.keepIn K (.ref f_Craft_let_go) = true)
    (h_most_kept : PySem.W.nsIn K mainGlobals "most_kept" = some (some (.ref f_most_kept)))
    (l_most_kept : K.lookup f_most_kept = some ⟨oc_most_kept, od_most_kept, .func (PySem.W.fnOf "most_kept" "most_kept" (defArgs s_most_kept) (defBody s_most_kept) (defScope s_most_kept) .none kV_most_kept dc_most_kept pm_most_kept an_most_kept cd_most_kept ct_most_kept), sl_most_kept⟩)
    (c_most_kept : PySem.W.codeIn K cd_most_kept "most_kept" = true)
    (k_most_kept : PySem.W.keepIn K (.ref f_most_kept) = true)
    (h_short_at : PySem.W.nsIn K mainGlobals "short_at" = some (some (.ref f_short_at)))
    (l_short_at : K.lookup f_short_at = some ⟨oc_short_at, od_short_at, .func (PySem.W.fnOf "short_at" "short_at" (defArgs s_short_at) (defBody s_short_at) (defScope s_short_at) .none kV_short_at dc_short_at pm_short_at an_short_at cd_short_at ct_short_at), sl_short_at⟩)
    (c_short_at : PySem.W.codeIn K cd_short_at "short_at" = true)
    (k_short_at : PySem.W.keepIn K (.ref f_short_at) = true)
    (h_kept_at_beats : PySem.W.nsIn K mainGlobals "_kept_at_beats" = some (some (.ref f_kept_at_beats)))
    (l_kept_at_beats : K.lookup f_kept_at_beats = some ⟨oc_kept_at_beats, od_kept_at_beats, .func (PySem.W.fnOf "_kept_at_beats" "_kept_at_beats" (defArgs s_kept_at_beats) (defBody s_kept_at_beats) (defScope s_kept_at_beats) .none kV_kept_at_beats dc_kept_at_beats pm_kept_at_beats an_kept_at_beats cd_kept_at_beats ct_kept_at_beats), sl_kept_at_beats⟩)
    (c_kept_at_beats : PySem.W.codeIn K cd_kept_at_beats "_kept_at_beats" = true)
    (k_kept_at_beats : PySem.W.keepIn K (.ref f_kept_at_beats) = true)
    (h_first_short : PySem.W.nsIn K mainGlobals "_first_short" = some (some (.ref f_first_short)))
    (l_first_short : K.lookup f_first_short = some ⟨oc_first_short, od_first_short, .func (PySem.W.fnOf "_first_short" "_first_short" (defArgs s_first_short) (defBody s_first_short) (defScope s_first_short) .none kV_first_short dc_first_short pm_first_short an_first_short cd_first_short ct_first_short), sl_first_short⟩)
    (c_first_short : PySem.W.codeIn K cd_first_short "_first_short" = true)
    (k_first_short : PySem.W.keepIn K (.ref f_first_short) = true)
    (h_law_mix : PySem.W.nsIn K mainGlobals "_law_mix" = some (some (.ref f_law_mix)))
    (l_law_mix : K.lookup f_law_mix = some ⟨oc_law_mix, od_law_mix, .func (PySem.W.fnOf "_law_mix" "_law_mix" (defArgs s_law_mix) (defBody s_law_mix) (defScope s_law_mix) .none kV_law_mix dc_law_mix pm_law_mix an_law_mix cd_law_mix ct_law_mix), sl_law_mix⟩)
    (c_law_mix : PySem.W.codeIn K cd_law_mix "_law_mix" = true)
    (k_law_mix : PySem.W.keepIn K (.ref f_law_mix) = true)
    (h_law_next : PySem.W.nsIn K mainGlobals "_law_next" = some (some (.ref f_law_next)))
    (l_law_next : K.lookup f_law_next = some ⟨oc_law_next, od_law_next, .func (PySem.W.fnOf "_law_next" "_law_next" (defArgs s_law_next) (defBody s_law_next) (defScope s_law_next) .none kV_law_next dc_law_next pm_law_next an_law_next cd_law_next ct_law_next), sl_law_next⟩)
    (c_law_next : PySem.W.codeIn K cd_law_next "_law_next" = true)
    (k_law_next : PySem.W.keepIn K (.ref f_law_next) = true)
    (h_law_alike : PySem.W.nsIn K mainGlobals "_law_alike" = some (some (.ref f_law_alike)))
    (l_law_alike : K.lookup f_law_alike = some ⟨oc_law_alike, od_law_alike, .func (PySem.W.fnOf "_law_alike" "_law_alike" (defArgs s_law_alike) (defBody s_law_alike) (defScope s_law_alike) .none kV_law_alike dc_law_alike pm_law_alike an_law_alike cd_law_alike ct_law_alike), sl_law_alike⟩)
    (c_law_alike : PySem.W.codeIn K cd_law_alike "_law_alike" = true)
    (k_law_alike : PySem.W.keepIn K (.ref f_law_alike) = true)
    (h_law_windows : PySem.W.nsIn K mainGlobals "_law_windows" = some (some (.ref f_law_windows)))
    (l_law_windows : K.lookup f_law_windows = some ⟨oc_law_windows, od_law_windows, .func (PySem.W.fnOf "_law_windows" "_law_windows" (defArgs s_law_windows) (defBody s_law_windows) (defScope s_law_windows) .none kV_law_windows dc_law_windows pm_law_windows an_law_windows cd_law_windows ct_law_windows), sl_law_windows⟩)
    (c_law_windows : PySem.W.codeIn K cd_law_windows "_law_windows" = true)
    (k_law_windows : PySem.W.keepIn K (.ref f_law_windows) = true)
    (h_law : PySem.W.nsIn K mainGlobals "law" = some (some (.ref f_law)))
    (l_law : K.lookup f_law = some ⟨oc_law, od_law, .func (PySem.W.fnOf "law" "law" (defArgs s_law) (defBody s_law) (defScope s_law) .none kV_law dc_law pm_law an_law cd_law ct_law), sl_law⟩)
    (c_law : PySem.W.codeIn K cd_law "law" = true)
    (k_law : PySem.W.keepIn K (.ref f_law) = true)
    (pg_Laying : PySem.W.plainGet K A_Laying Str.empty = true)
    (hd_Laying : PySem.W.hasDictIn K A_Laying = true)
    (po_Laying : PySem.W.plainOver K A_Laying = true)
    (sa_Laying : PySem.W.findIn K (.ref A_Laying) "__setattr__" = some (some (.builtin "object.__setattr__")))
    (mk_Laying : PySem.W.makesIn K A_Laying = true)
    (kc_Laying : PySem.W.keepIn K (.ref A_Laying) = true)
    (n_Laying_body : PySem.W.findIn K (.ref A_Laying) "_body" = some none)
    (n_Laying_count : PySem.W.findIn K (.ref A_Laying) "_count" = some none)
    (n_Laying_first : PySem.W.findIn K (.ref A_Laying) "_first" = some none)
    (n_Laying_size : PySem.W.findIn K (.ref A_Laying) "_size" = some none)
    (n_Laying_stream : PySem.W.findIn K (.ref A_Laying) "_stream" = some none)
    (n_Laying_many : PySem.W.findIn K (.ref A_Laying) "many" = some none)
    (pg_Craft : PySem.W.plainGet K A_Craft Str.empty = true)
    (hd_Craft : PySem.W.hasDictIn K A_Craft = true)
    (po_Craft : PySem.W.plainOver K A_Craft = true)
    (sa_Craft : PySem.W.findIn K (.ref A_Craft) "__setattr__" = some (some (.builtin "object.__setattr__")))
    (mk_Craft : PySem.W.makesIn K A_Craft = true)
    (kc_Craft : PySem.W.keepIn K (.ref A_Craft) = true)
    (n_Craft_asked : PySem.W.findIn K (.ref A_Craft) "_asked" = some none)
    (n_Craft_frames : PySem.W.findIn K (.ref A_Craft) "_frames" = some none)
    (n_Craft_gone : PySem.W.findIn K (.ref A_Craft) "_gone" = some none)
    (n_Craft_layings : PySem.W.findIn K (.ref A_Craft) "_layings" = some none)
    (n_Craft_room : PySem.W.findIn K (.ref A_Craft) "_room" = some none)
    (n_Craft_sent : PySem.W.findIn K (.ref A_Craft) "_sent" = some none)
    (n_Craft_window : PySem.W.findIn K (.ref A_Craft) "_window" = some none)
    (z_all : PySem.W.nsIn K mainGlobals "all" = some none)
    (z_bool : PySem.W.nsIn K mainGlobals "bool" = some none)
    (z_enumerate : PySem.W.nsIn K mainGlobals "enumerate" = some none)
    (z_int : PySem.W.nsIn K mainGlobals "int" = some none)
    (z_isinstance : PySem.W.nsIn K mainGlobals "isinstance" = some none)
    (z_len : PySem.W.nsIn K mainGlobals "len" = some none)
    (z_list : PySem.W.nsIn K mainGlobals "list" = some none)
    (z_max : PySem.W.nsIn K mainGlobals "max" = some none)
    (z_min : PySem.W.nsIn K mainGlobals "min" = some none)
    (z_range : PySem.W.nsIn K mainGlobals "range" = some none)
    (z_str : PySem.W.nsIn K mainGlobals "str" = some none)
    (z_tuple : PySem.W.nsIn K mainGlobals "tuple" = some none)
    (c_STREAMS : PySem.W.nsIn K mainGlobals "STREAMS" = some (some (.int 4 t_STREAMS)))
    (c_MOST_NUMBERS : PySem.W.nsIn K mainGlobals "MOST_NUMBERS" = some (some (.int 20 t_MOST_NUMBERS)))
    (c_LEAST_SIZE : PySem.W.nsIn K mainGlobals "LEAST_SIZE" = some (some (.int 8 t_LEAST_SIZE)))
    (c_MOST_SIZE : PySem.W.nsIn K mainGlobals "MOST_SIZE" = some (some (.int 24 t_MOST_SIZE)))
    (c_MOST_ROOM : PySem.W.nsIn K mainGlobals "MOST_ROOM" = some (some (.int 60 t_MOST_ROOM)))
    (c_MOST_COUNT : PySem.W.nsIn K mainGlobals "MOST_COUNT" = some (some (.int 9999 t_MOST_COUNT)))
    (c_MOST_BEATS : PySem.W.nsIn K mainGlobals "MOST_BEATS" = some (some (.int 200 t_MOST_BEATS)))
    (c_MOST_MADE : PySem.W.nsIn K mainGlobals "MOST_MADE" = some (some (.int 6 t_MOST_MADE)))
    (c_HUNDRED : PySem.W.nsIn K mainGlobals "HUNDRED" = some (some (.int 256 t_HUNDRED)))
    : Tx K mg where
  A_Laying := A_Laying
  A_Craft := A_Craft
  a_is_number := f_is_number
  d_is_number := PySem.W.fnOf "is_number" "is_number" (defArgs s_is_number) (defBody s_is_number) (defScope s_is_number) .none kV_is_number dc_is_number pm_is_number an_is_number cd_is_number ct_is_number
  F_is_number := fun_mk (st := s_is_number) l_is_number c_is_number k_is_number
  b_is_number := (fun_mk (st := s_is_number) l_is_number c_is_number k_is_number).binds (ps := ["value", "low", "high"]) fun _ _ _ _ _ _ us hl => match us, hl with | [_, _, _], _ => rfl
  m_is_number := PySem.W.mg_of X G h_is_number
  a_is_stream := f_is_stream
  d_is_stream := PySem.W.fnOf "is_stream" "is_stream" (defArgs s_is_stream) (defBody s_is_stream) (defScope s_is_stream) .none kV_is_stream dc_is_stream pm_is_stream an_is_stream cd_is_stream ct_is_stream
  F_is_stream := fun_mk (st := s_is_stream) l_is_stream c_is_stream k_is_stream
  b_is_stream := (fun_mk (st := s_is_stream) l_is_stream c_is_stream k_is_stream).binds (ps := ["value"]) fun _ _ _ _ _ _ us hl => match us, hl with | [_], _ => rfl
  m_is_stream := PySem.W.mg_of X G h_is_stream
  a_holds_numbers := f_holds_numbers
  d_holds_numbers := PySem.W.fnOf "holds_numbers" "holds_numbers" (defArgs s_holds_numbers) (defBody s_holds_numbers) (defScope s_holds_numbers) .none kV_holds_numbers dc_holds_numbers pm_holds_numbers an_holds_numbers cd_holds_numbers ct_holds_numbers
  F_holds_numbers := fun_mk (st := s_holds_numbers) l_holds_numbers c_holds_numbers k_holds_numbers
  b_holds_numbers := (fun_mk (st := s_holds_numbers) l_holds_numbers c_holds_numbers k_holds_numbers).binds (ps := ["value"]) fun _ _ _ _ _ _ us hl => match us, hl with | [_], _ => rfl
  m_holds_numbers := PySem.W.mg_of X G h_holds_numbers
  a_is_telling := f_is_telling
  d_is_telling := PySem.W.fnOf "is_telling" "is_telling" (defArgs s_is_telling) (defBody s_is_telling) (defScope s_is_telling) .none kV_is_telling dc_is_telling pm_is_telling an_is_telling cd_is_telling ct_is_telling
  F_is_telling := fun_mk (st := s_is_telling) l_is_telling c_is_telling k_is_telling
  b_is_telling := (fun_mk (st := s_is_telling) l_is_telling c_is_telling k_is_telling).binds (ps := ["value"]) fun _ _ _ _ _ _ us hl => match us, hl with | [_], _ => rfl
  m_is_telling := PySem.W.mg_of X G h_is_telling
  a_is_mark := f_is_mark
  d_is_mark := PySem.W.fnOf "is_mark" "is_mark" (defArgs s_is_mark) (defBody s_is_mark) (defScope s_is_mark) .none kV_is_mark dc_is_mark pm_is_mark an_is_mark cd_is_mark ct_is_mark
  F_is_mark := fun_mk (st := s_is_mark) l_is_mark c_is_mark k_is_mark
  b_is_mark := (fun_mk (st := s_is_mark) l_is_mark c_is_mark k_is_mark).binds (ps := ["value"]) fun _ _ _ _ _ _ us hl => match us, hl with | [_], _ => rfl
  m_is_mark := PySem.W.mg_of X G h_is_mark
  a_is_window := f_is_window
  d_is_window := PySem.W.fnOf "is_window" "is_window" (defArgs s_is_window) (defBody s_is_window) (defScope s_is_window) .none kV_is_window dc_is_window pm_is_window an_is_window cd_is_window ct_is_window
  F_is_window := fun_mk (st := s_is_window) l_is_window c_is_window k_is_window
  b_is_window := (fun_mk (st := s_is_window) l_is_window c_is_window k_is_window).binds (ps := ["value", "low", "high"]) fun _ _ _ _ _ _ us hl => match us, hl with | [_, _, _], _ => rfl
  m_is_window := PySem.W.mg_of X G h_is_window
  a_check_stream := f_check_stream
  d_check_stream := PySem.W.fnOf "check_stream" "check_stream" (defArgs s_check_stream) (defBody s_check_stream) (defScope s_check_stream) .none kV_check_stream dc_check_stream pm_check_stream an_check_stream cd_check_stream ct_check_stream
  F_check_stream := fun_mk (st := s_check_stream) l_check_stream c_check_stream k_check_stream
  b_check_stream := (fun_mk (st := s_check_stream) l_check_stream c_check_stream k_check_stream).binds (ps := ["stream"]) fun _ _ _ _ _ _ us hl => match us, hl with | [_], _ => rfl
  m_check_stream := PySem.W.mg_of X G h_check_stream
  a_check_telling := f_check_telling
  d_check_telling := PySem.W.fnOf "check_telling" "check_telling" (defArgs s_check_telling) (defBody s_check_telling) (defScope s_check_telling) .none kV_check_telling dc_check_telling pm_check_telling an_check_telling cd_check_telling ct_check_telling
  F_check_telling := fun_mk (st := s_check_telling) l_check_telling c_check_telling k_check_telling
  b_check_telling := (fun_mk (st := s_check_telling) l_check_telling c_check_telling k_check_telling).binds (ps := ["telling"]) fun _ _ _ _ _ _ us hl => match us, hl with | [_], _ => rfl
  m_check_telling := PySem.W.mg_of X G h_check_telling
  a_check_size := f_check_size
  d_check_size := PySem.W.fnOf "check_size" "check_size" (defArgs s_check_size) (defBody s_check_size) (defScope s_check_size) .none kV_check_size dc_check_size pm_check_size an_check_size cd_check_size ct_check_size
  F_check_size := fun_mk (st := s_check_size) l_check_size c_check_size k_check_size
  b_check_size := (fun_mk (st := s_check_size) l_check_size c_check_size k_check_size).binds (ps := ["size"]) fun _ _ _ _ _ _ us hl => match us, hl with | [_], _ => rfl
  m_check_size := PySem.W.mg_of X G h_check_size
  a_check_room := f_check_room
  d_check_room := PySem.W.fnOf "check_room" "check_room" (defArgs s_check_room) (defBody s_check_room) (defScope s_check_room) .none kV_check_room dc_check_room pm_check_room an_check_room cd_check_room ct_check_room
  F_check_room := fun_mk (st := s_check_room) l_check_room c_check_room k_check_room
  b_check_room := (fun_mk (st := s_check_room) l_check_room c_check_room k_check_room).binds (ps := ["room"]) fun _ _ _ _ _ _ us hl => match us, hl with | [_], _ => rfl
  m_check_room := PySem.W.mg_of X G h_check_room
  a_check_marks := f_check_marks
  d_check_marks := PySem.W.fnOf "check_marks" "check_marks" (defArgs s_check_marks) (defBody s_check_marks) (defScope s_check_marks) .none kV_check_marks dc_check_marks pm_check_marks an_check_marks cd_check_marks ct_check_marks
  F_check_marks := fun_mk (st := s_check_marks) l_check_marks c_check_marks k_check_marks
  b_check_marks := (fun_mk (st := s_check_marks) l_check_marks c_check_marks k_check_marks).binds (ps := ["marks"]) fun _ _ _ _ _ _ us hl => match us, hl with | [_], _ => rfl
  m_check_marks := PySem.W.mg_of X G h_check_marks
  a_check_makes := f_check_makes
  d_check_makes := PySem.W.fnOf "check_makes" "check_makes" (defArgs s_check_makes) (defBody s_check_makes) (defScope s_check_makes) .none kV_check_makes dc_check_makes pm_check_makes an_check_makes cd_check_makes ct_check_makes
  F_check_makes := fun_mk (st := s_check_makes) l_check_makes c_check_makes k_check_makes
  b_check_makes := (fun_mk (st := s_check_makes) l_check_makes c_check_makes k_check_makes).binds (ps := ["makes"]) fun _ _ _ _ _ _ us hl => match us, hl with | [_], _ => rfl
  m_check_makes := PySem.W.mg_of X G h_check_makes
  a_check_windows := f_check_windows
  d_check_windows := PySem.W.fnOf "check_windows" "check_windows" (defArgs s_check_windows) (defBody s_check_windows) (defScope s_check_windows) .none kV_check_windows dc_check_windows pm_check_windows an_check_windows cd_check_windows ct_check_windows
  F_check_windows := fun_mk (st := s_check_windows) l_check_windows c_check_windows k_check_windows
  b_check_windows := (fun_mk (st := s_check_windows) l_check_windows c_check_windows k_check_windows).binds (ps := ["windows", "beats"]) fun _ _ _ _ _ _ us hl => match us, hl with | [_, _], _ => rfl
  m_check_windows := PySem.W.mg_of X G h_check_windows
  a_Laying_init := f_Laying_init
  d_Laying_init := PySem.W.fnOf "__init__" "Laying.__init__" (defArgs s_Laying_init) (defBody s_Laying_init) (defScope s_Laying_init) .none kV_Laying_init dc_Laying_init pm_Laying_init an_Laying_init cd_Laying_init ct_Laying_init
  F_Laying_init := fun_mk (st := s_Laying_init) l_Laying_init c_Laying_init k_Laying_init
  b_Laying_init := (fun_mk (st := s_Laying_init) l_Laying_init c_Laying_init k_Laying_init).binds (ps := ["self", "stream", "size"]) fun _ _ _ _ _ _ us hl => match us, hl with | [_, _, _], _ => rfl
  a_Laying_lay := f_Laying_lay
  d_Laying_lay := PySem.W.fnOf "lay" "Laying.lay" (defArgs s_Laying_lay) (defBody s_Laying_lay) (defScope s_Laying_lay) .none kV_Laying_lay dc_Laying_lay pm_Laying_lay an_Laying_lay cd_Laying_lay ct_Laying_lay
  F_Laying_lay := fun_mk (st := s_Laying_lay) l_Laying_lay c_Laying_lay k_Laying_lay
  b_Laying_lay := (fun_mk (st := s_Laying_lay) l_Laying_lay c_Laying_lay k_Laying_lay).binds (ps := ["self", "telling"]) fun _ _ _ _ _ _ us hl => match us, hl with | [_, _], _ => rfl
  M_Laying_lay := ⟨h_Laying_lay, i_Laying_lay, k_Laying_lay⟩
  a_Laying_fill := f_Laying_fill
  d_Laying_fill := PySem.W.fnOf "fill" "Laying.fill" (defArgs s_Laying_fill) (defBody s_Laying_fill) (defScope s_Laying_fill) .none kV_Laying_fill dc_Laying_fill pm_Laying_fill an_Laying_fill cd_Laying_fill ct_Laying_fill
  F_Laying_fill := fun_mk (st := s_Laying_fill) l_Laying_fill c_Laying_fill k_Laying_fill
  b_Laying_fill := (fun_mk (st := s_Laying_fill) l_Laying_fill c_Laying_fill k_Laying_fill).binds (ps := ["self"]) fun _ _ _ _ _ _ us hl => match us, hl with | [_], _ => rfl
  M_Laying_fill := ⟨h_Laying_fill, i_Laying_fill, k_Laying_fill⟩
  a_Laying_done := f_Laying_done
  d_Laying_done := PySem.W.fnOf "_done" "Laying._done" (defArgs s_Laying_done) (defBody s_Laying_done) (defScope s_Laying_done) .none kV_Laying_done dc_Laying_done pm_Laying_done an_Laying_done cd_Laying_done ct_Laying_done
  F_Laying_done := fun_mk (st := s_Laying_done) l_Laying_done c_Laying_done k_Laying_done
  b_Laying_done := (fun_mk (st := s_Laying_done) l_Laying_done c_Laying_done k_Laying_done).binds (ps := ["self"]) fun _ _ _ _ _ _ us hl => match us, hl with | [_], _ => rfl
  M_Laying_done := ⟨h_Laying_done, i_Laying_done, k_Laying_done⟩
  a_Craft_init := f_Craft_init
  d_Craft_init := PySem.W.fnOf "__init__" "Craft.__init__" (defArgs s_Craft_init) (defBody s_Craft_init) (defScope s_Craft_init) .none kV_Craft_init dc_Craft_init pm_Craft_init an_Craft_init cd_Craft_init ct_Craft_init
  F_Craft_init := fun_mk (st := s_Craft_init) l_Craft_init c_Craft_init k_Craft_init
  b_Craft_init := (fun_mk (st := s_Craft_init) l_Craft_init c_Craft_init k_Craft_init).binds (ps := ["self", "size", "room"]) fun _ _ _ _ _ _ us hl => match us, hl with | [_, _, _], _ => rfl
  a_Craft_tell := f_Craft_tell
  d_Craft_tell := PySem.W.fnOf "tell" "Craft.tell" (defArgs s_Craft_tell) (defBody s_Craft_tell) (defScope s_Craft_tell) .none kV_Craft_tell dc_Craft_tell pm_Craft_tell an_Craft_tell cd_Craft_tell ct_Craft_tell
  F_Craft_tell := fun_mk (st := s_Craft_tell) l_Craft_tell c_Craft_tell k_Craft_tell
  b_Craft_tell := (fun_mk (st := s_Craft_tell) l_Craft_tell c_Craft_tell k_Craft_tell).binds (ps := ["self", "stream", "data"]) fun _ _ _ _ _ _ us hl => match us, hl with | [_, _, _], _ => rfl
  M_Craft_tell := ⟨h_Craft_tell, i_Craft_tell, k_Craft_tell⟩
  a_Craft_close := f_Craft_close
  d_Craft_close := PySem.W.fnOf "close" "Craft.close" (defArgs s_Craft_close) (defBody s_Craft_close) (defScope s_Craft_close) .none kV_Craft_close dc_Craft_close pm_Craft_close an_Craft_close cd_Craft_close ct_Craft_close
  F_Craft_close := fun_mk (st := s_Craft_close) l_Craft_close c_Craft_close k_Craft_close
  b_Craft_close := (fun_mk (st := s_Craft_close) l_Craft_close c_Craft_close k_Craft_close).binds (ps := ["self", "stream"]) fun _ _ _ _ _ _ us hl => match us, hl with | [_, _], _ => rfl
  M_Craft_close := ⟨h_Craft_close, i_Craft_close, k_Craft_close⟩
  a_Craft_begin := f_Craft_begin
  d_Craft_begin := PySem.W.fnOf "begin" "Craft.begin" (defArgs s_Craft_begin) (defBody s_Craft_begin) (defScope s_Craft_begin) .none kV_Craft_begin dc_Craft_begin pm_Craft_begin an_Craft_begin cd_Craft_begin ct_Craft_begin
  F_Craft_begin := fun_mk (st := s_Craft_begin) l_Craft_begin c_Craft_begin k_Craft_begin
  b_Craft_begin := (fun_mk (st := s_Craft_begin) l_Craft_begin c_Craft_begin k_Craft_begin).binds (ps := ["self"]) fun _ _ _ _ _ _ us hl => match us, hl with | [_], _ => rfl
  M_Craft_begin := ⟨h_Craft_begin, i_Craft_begin, k_Craft_begin⟩
  a_Craft_shut := f_Craft_shut
  d_Craft_shut := PySem.W.fnOf "shut" "Craft.shut" (defArgs s_Craft_shut) (defBody s_Craft_shut) (defScope s_Craft_shut) .none kV_Craft_shut dc_Craft_shut pm_Craft_shut an_Craft_shut cd_Craft_shut ct_Craft_shut
  F_Craft_shut := fun_mk (st := s_Craft_shut) l_Craft_shut c_Craft_shut k_Craft_shut
  b_Craft_shut := (fun_mk (st := s_Craft_shut) l_Craft_shut c_Craft_shut k_Craft_shut).binds (ps := ["self"]) fun _ _ _ _ _ _ us hl => match us, hl with | [_], _ => rfl
  M_Craft_shut := ⟨h_Craft_shut, i_Craft_shut, k_Craft_shut⟩
  a_Craft_beat := f_Craft_beat
  d_Craft_beat := PySem.W.fnOf "beat" "Craft.beat" (defArgs s_Craft_beat) (defBody s_Craft_beat) (defScope s_Craft_beat) .none kV_Craft_beat dc_Craft_beat pm_Craft_beat an_Craft_beat cd_Craft_beat ct_Craft_beat
  F_Craft_beat := fun_mk (st := s_Craft_beat) l_Craft_beat c_Craft_beat k_Craft_beat
  b_Craft_beat := (fun_mk (st := s_Craft_beat) l_Craft_beat c_Craft_beat k_Craft_beat).binds (ps := ["self"]) fun _ _ _ _ _ _ us hl => match us, hl with | [_], _ => rfl
  M_Craft_beat := ⟨h_Craft_beat, i_Craft_beat, k_Craft_beat⟩
  a_Craft_known := f_Craft_known
  d_Craft_known := PySem.W.fnOf "known" "Craft.known" (defArgs s_Craft_known) (defBody s_Craft_known) (defScope s_Craft_known) .none kV_Craft_known dc_Craft_known pm_Craft_known an_Craft_known cd_Craft_known ct_Craft_known
  F_Craft_known := fun_mk (st := s_Craft_known) l_Craft_known c_Craft_known k_Craft_known
  b_Craft_known := (fun_mk (st := s_Craft_known) l_Craft_known c_Craft_known k_Craft_known).binds (ps := ["self", "marks"]) fun _ _ _ _ _ _ us hl => match us, hl with | [_, _], _ => rfl
  M_Craft_known := ⟨h_Craft_known, i_Craft_known, k_Craft_known⟩
  a_Craft_kept := f_Craft_kept
  d_Craft_kept := PySem.W.fnOf "kept" "Craft.kept" (defArgs s_Craft_kept) (defBody s_Craft_kept) (defScope s_Craft_kept) .none kV_Craft_kept dc_Craft_kept pm_Craft_kept an_Craft_kept cd_Craft_kept ct_Craft_kept
  F_Craft_kept := fun_mk (st := s_Craft_kept) l_Craft_kept c_Craft_kept k_Craft_kept
  b_Craft_kept := (fun_mk (st := s_Craft_kept) l_Craft_kept c_Craft_kept k_Craft_kept).binds (ps := ["self"]) fun _ _ _ _ _ _ us hl => match us, hl with | [_], _ => rfl
  M_Craft_kept := ⟨h_Craft_kept, i_Craft_kept, k_Craft_kept⟩
  a_Craft_lost := f_Craft_lost
  d_Craft_lost := PySem.W.fnOf "lost" "Craft.lost" (defArgs s_Craft_lost) (defBody s_Craft_lost) (defScope s_Craft_lost) .none kV_Craft_lost dc_Craft_lost pm_Craft_lost an_Craft_lost cd_Craft_lost ct_Craft_lost
  F_Craft_lost := fun_mk (st := s_Craft_lost) l_Craft_lost c_Craft_lost k_Craft_lost
  b_Craft_lost := (fun_mk (st := s_Craft_lost) l_Craft_lost c_Craft_lost k_Craft_lost).binds (ps := ["self"]) fun _ _ _ _ _ _ us hl => match us, hl with | [_], _ => rfl
  M_Craft_lost := ⟨h_Craft_lost, i_Craft_lost, k_Craft_lost⟩
  a_Craft_next_mark := f_Craft_next_mark
  d_Craft_next_mark := PySem.W.fnOf "_next_mark" "Craft._next_mark" (defArgs s_Craft_next_mark) (defBody s_Craft_next_mark) (defScope s_Craft_next_mark) .none kV_Craft_next_mark dc_Craft_next_mark pm_Craft_next_mark an_Craft_next_mark cd_Craft_next_mark ct_Craft_next_mark
  F_Craft_next_mark := fun_mk (st := s_Craft_next_mark) l_Craft_next_mark c_Craft_next_mark k_Craft_next_mark
  b_Craft_next_mark := (fun_mk (st := s_Craft_next_mark) l_Craft_next_mark c_Craft_next_mark k_Craft_next_mark).binds (ps := ["self"]) fun _ _ _ _ _ _ us hl => match us, hl with | [_], _ => rfl
  M_Craft_next_mark := ⟨h_Craft_next_mark, i_Craft_next_mark, k_Craft_next_mark⟩
  a_Craft_keep := f_Craft_keep
  d_Craft_keep := PySem.W.fnOf "_keep" "Craft._keep" (defArgs s_Craft_keep) (defBody s_Craft_keep) (defScope s_Craft_keep) .none kV_Craft_keep dc_Craft_keep pm_Craft_keep an_Craft_keep cd_Craft_keep ct_Craft_keep
  F_Craft_keep := fun_mk (st := s_Craft_keep) l_Craft_keep c_Craft_keep k_Craft_keep
  b_Craft_keep := (fun_mk (st := s_Craft_keep) l_Craft_keep c_Craft_keep k_Craft_keep).binds (ps := ["self", "frame"]) fun _ _ _ _ _ _ us hl => match us, hl with | [_, _], _ => rfl
  M_Craft_keep := ⟨h_Craft_keep, i_Craft_keep, k_Craft_keep⟩
  a_Craft_make_room := f_Craft_make_room
  d_Craft_make_room := PySem.W.fnOf "_make_room" "Craft._make_room" (defArgs s_Craft_make_room) (defBody s_Craft_make_room) (defScope s_Craft_make_room) .none kV_Craft_make_room dc_Craft_make_room pm_Craft_make_room an_Craft_make_room cd_Craft_make_room ct_Craft_make_room
  F_Craft_make_room := fun_mk (st := s_Craft_make_room) l_Craft_make_room c_Craft_make_room k_Craft_make_room
  b_Craft_make_room := (fun_mk (st := s_Craft_make_room) l_Craft_make_room c_Craft_make_room k_Craft_make_room).binds (ps := ["self"]) fun _ _ _ _ _ _ us hl => match us, hl with | [_], _ => rfl
  M_Craft_make_room := ⟨h_Craft_make_room, i_Craft_make_room, k_Craft_make_room⟩
  a_Craft_let_go := f_Craft_let_go
  d_Craft_let_go := PySem.W.fnOf "_let_go" "Craft._let_go" (defArgs s_Craft_let_go) (defBody s_Craft_let_go) (defScope s_Craft_let_go) .none kV_Craft_let_go dc_Craft_let_go pm_Craft_let_go an_Craft_let_go cd_Craft_let_go ct_Craft_let_go
  F_Craft_let_go := fun_mk (st := s_Craft_let_go) l_Craft_let_go c_Craft_let_go k_Craft_let_go
  b_Craft_let_go := (fun_mk (st := s_Craft_let_go) l_Craft_let_go c_Craft_let_go k_Craft_let_go).binds (ps := ["self", "mark"]) fun _ _ _ _ _ _ us hl => match us, hl with | [_, _], _ => rfl
  M_Craft_let_go := ⟨h_Craft_let_go, i_Craft_let_go, k_Craft_let_go⟩
  a_most_kept := f_most_kept
  d_most_kept := PySem.W.fnOf "most_kept" "most_kept" (defArgs s_most_kept) (defBody s_most_kept) (defScope s_most_kept) .none kV_most_kept dc_most_kept pm_most_kept an_most_kept cd_most_kept ct_most_kept
  F_most_kept := fun_mk (st := s_most_kept) l_most_kept c_most_kept k_most_kept
  b_most_kept := (fun_mk (st := s_most_kept) l_most_kept c_most_kept k_most_kept).binds (ps := ["makes", "windows"]) fun _ _ _ _ _ _ us hl => match us, hl with | [_, _], _ => rfl
  m_most_kept := PySem.W.mg_of X G h_most_kept
  a_short_at := f_short_at
  d_short_at := PySem.W.fnOf "short_at" "short_at" (defArgs s_short_at) (defBody s_short_at) (defScope s_short_at) .none kV_short_at dc_short_at pm_short_at an_short_at cd_short_at ct_short_at
  F_short_at := fun_mk (st := s_short_at) l_short_at c_short_at k_short_at
  b_short_at := (fun_mk (st := s_short_at) l_short_at c_short_at k_short_at).binds (ps := ["makes", "windows", "room"]) fun _ _ _ _ _ _ us hl => match us, hl with | [_, _, _], _ => rfl
  m_short_at := PySem.W.mg_of X G h_short_at
  a_kept_at_beats := f_kept_at_beats
  d_kept_at_beats := PySem.W.fnOf "_kept_at_beats" "_kept_at_beats" (defArgs s_kept_at_beats) (defBody s_kept_at_beats) (defScope s_kept_at_beats) .none kV_kept_at_beats dc_kept_at_beats pm_kept_at_beats an_kept_at_beats cd_kept_at_beats ct_kept_at_beats
  F_kept_at_beats := fun_mk (st := s_kept_at_beats) l_kept_at_beats c_kept_at_beats k_kept_at_beats
  b_kept_at_beats := (fun_mk (st := s_kept_at_beats) l_kept_at_beats c_kept_at_beats k_kept_at_beats).binds (ps := ["makes", "windows"]) fun _ _ _ _ _ _ us hl => match us, hl with | [_, _], _ => rfl
  m_kept_at_beats := PySem.W.mg_of X G h_kept_at_beats
  a_first_short := f_first_short
  d_first_short := PySem.W.fnOf "_first_short" "_first_short" (defArgs s_first_short) (defBody s_first_short) (defScope s_first_short) .none kV_first_short dc_first_short pm_first_short an_first_short cd_first_short ct_first_short
  F_first_short := fun_mk (st := s_first_short) l_first_short c_first_short k_first_short
  b_first_short := (fun_mk (st := s_first_short) l_first_short c_first_short k_first_short).binds (ps := ["makes", "windows", "room"]) fun _ _ _ _ _ _ us hl => match us, hl with | [_, _, _], _ => rfl
  m_first_short := PySem.W.mg_of X G h_first_short
  a_law_mix := f_law_mix
  d_law_mix := PySem.W.fnOf "_law_mix" "_law_mix" (defArgs s_law_mix) (defBody s_law_mix) (defScope s_law_mix) .none kV_law_mix dc_law_mix pm_law_mix an_law_mix cd_law_mix ct_law_mix
  F_law_mix := fun_mk (st := s_law_mix) l_law_mix c_law_mix k_law_mix
  b_law_mix := (fun_mk (st := s_law_mix) l_law_mix c_law_mix k_law_mix).binds (ps := ["_law_script", "_law_seed"]) fun _ _ _ _ _ _ us hl => match us, hl with | [_, _], _ => rfl
  m_law_mix := PySem.W.mg_of X G h_law_mix
  a_law_next := f_law_next
  d_law_next := PySem.W.fnOf "_law_next" "_law_next" (defArgs s_law_next) (defBody s_law_next) (defScope s_law_next) .none kV_law_next dc_law_next pm_law_next an_law_next cd_law_next ct_law_next
  F_law_next := fun_mk (st := s_law_next) l_law_next c_law_next k_law_next
  b_law_next := (fun_mk (st := s_law_next) l_law_next c_law_next k_law_next).binds (ps := ["_law_h", "_law_many"]) fun _ _ _ _ _ _ us hl => match us, hl with | [_, _], _ => rfl
  m_law_next := PySem.W.mg_of X G h_law_next
  a_law_alike := f_law_alike
  d_law_alike := PySem.W.fnOf "_law_alike" "_law_alike" (defArgs s_law_alike) (defBody s_law_alike) (defScope s_law_alike) .none kV_law_alike dc_law_alike pm_law_alike an_law_alike cd_law_alike ct_law_alike
  F_law_alike := fun_mk (st := s_law_alike) l_law_alike c_law_alike k_law_alike
  b_law_alike := (fun_mk (st := s_law_alike) l_law_alike c_law_alike k_law_alike).binds (ps := ["_law_found", "_law_due"]) fun _ _ _ _ _ _ us hl => match us, hl with | [_, _], _ => rfl
  m_law_alike := PySem.W.mg_of X G h_law_alike
  a_law_windows := f_law_windows
  d_law_windows := PySem.W.fnOf "_law_windows" "_law_windows" (defArgs s_law_windows) (defBody s_law_windows) (defScope s_law_windows) .none kV_law_windows dc_law_windows pm_law_windows an_law_windows cd_law_windows ct_law_windows
  F_law_windows := fun_mk (st := s_law_windows) l_law_windows c_law_windows k_law_windows
  b_law_windows := (fun_mk (st := s_law_windows) l_law_windows c_law_windows k_law_windows).binds (ps := ["_law_h", "_law_many"]) fun _ _ _ _ _ _ us hl => match us, hl with | [_, _], _ => rfl
  m_law_windows := PySem.W.mg_of X G h_law_windows
  a_law := f_law
  d_law := PySem.W.fnOf "law" "law" (defArgs s_law) (defBody s_law) (defScope s_law) .none kV_law dc_law pm_law an_law cd_law ct_law
  F_law := fun_mk (st := s_law) l_law c_law k_law
  b_law := (fun_mk (st := s_law) l_law c_law k_law).binds (ps := ["_law_script"]) fun _ _ _ _ _ _ us hl => match us, hl with | [_], _ => rfl
  m_law := PySem.W.mg_of X G h_law
  cl_Laying := ⟨pg_Laying, hd_Laying, po_Laying, sa_Laying⟩
  m_Laying := PySem.W.mg_of X G hA_Laying
  mk_Laying := ⟨mk_Laying, h_Laying_init, i_Laying_init, kc_Laying⟩
  n_Laying_body := n_Laying_body
  n_Laying_count := n_Laying_count
  n_Laying_first := n_Laying_first
  n_Laying_size := n_Laying_size
  n_Laying_stream := n_Laying_stream
  n_Laying_many := n_Laying_many
  cl_Craft := ⟨pg_Craft, hd_Craft, po_Craft, sa_Craft⟩
  m_Craft := PySem.W.mg_of X G hA_Craft
  mk_Craft := ⟨mk_Craft, h_Craft_init, i_Craft_init, kc_Craft⟩
  n_Craft_asked := n_Craft_asked
  n_Craft_frames := n_Craft_frames
  n_Craft_gone := n_Craft_gone
  n_Craft_layings := n_Craft_layings
  n_Craft_room := n_Craft_room
  n_Craft_sent := n_Craft_sent
  n_Craft_window := n_Craft_window
  z_all := PySem.W.mg_none_of X G z_all
  z_bool := PySem.W.mg_none_of X G z_bool
  z_enumerate := PySem.W.mg_none_of X G z_enumerate
  z_int := PySem.W.mg_none_of X G z_int
  z_isinstance := PySem.W.mg_none_of X G z_isinstance
  z_len := PySem.W.mg_none_of X G z_len
  z_list := PySem.W.mg_none_of X G z_list
  z_max := PySem.W.mg_none_of X G z_max
  z_min := PySem.W.mg_none_of X G z_min
  z_range := PySem.W.mg_none_of X G z_range
  z_str := PySem.W.mg_none_of X G z_str
  z_tuple := PySem.W.mg_none_of X G z_tuple
  t_STREAMS := t_STREAMS
  c_STREAMS := PySem.W.mg_of X G c_STREAMS
  t_MOST_NUMBERS := t_MOST_NUMBERS
  c_MOST_NUMBERS := PySem.W.mg_of X G c_MOST_NUMBERS
  t_LEAST_SIZE := t_LEAST_SIZE
  c_LEAST_SIZE := PySem.W.mg_of X G c_LEAST_SIZE
  t_MOST_SIZE := t_MOST_SIZE
  c_MOST_SIZE := PySem.W.mg_of X G c_MOST_SIZE
  t_MOST_ROOM := t_MOST_ROOM
  c_MOST_ROOM := PySem.W.mg_of X G c_MOST_ROOM
  t_MOST_COUNT := t_MOST_COUNT
  c_MOST_COUNT := PySem.W.mg_of X G c_MOST_COUNT
  t_MOST_BEATS := t_MOST_BEATS
  c_MOST_BEATS := PySem.W.mg_of X G c_MOST_BEATS
  t_MOST_MADE := t_MOST_MADE
  c_MOST_MADE := PySem.W.mg_of X G c_MOST_MADE
  t_HUNDRED := t_HUNDRED
  c_HUNDRED := PySem.W.mg_of X G c_HUNDRED
theorem all_mk {l : PySem.W.OpenLaw} {w : World} {K : PySem.W.Frag} {h : Heap} {mg : Str → Option Value} {fa : Addr} (X : K.In h) (G : h.Ns mainGlobals mg) (hfa : mg "law" = some (.ref fa)) (T : Tx K mg) :
    ∃ fd : FuncData, (∀ (s : Shared) (v : Value), BindsTo s fd ⟨[v], []⟩ [("_law_script", v)]) ∧ ∀ base : Heap, K.In base → base.Ns mainGlobals mg → FnOk l.prog w K mg base CX0 6 fa fd ["_law_script"] (sp_law K) := by
  have e := hfa.symm.trans T.m_law
  cases e
  obtain ⟨oc, od, kV, doc, pm, an, cdv, ct, osl, efd, lk, hcd⟩ := T.F_law.ex
  exact ⟨T.d_law, fun s v => by rw [efd]; exact .of_eq rfl, fun base _ _ => ok_law T⟩
end K10
open PySem PySem.W PyProof.Rows in
set_option maxRecDepth 100000 in
set_option maxHeartbeats 0 in
theorem PySem.Challenge.cw_skyframes_k10_whole_a_craft_loses_where_holds : PySem.Challenge.rw_skyframes_k10_whole_a_craft_loses_where.Holds := by
  w_on; o_law; k_head; (case hw => w_witness2)
  k_fill
  refine L2.walk_of (l := PySem.Challenge.rw_skyframes_k10_whole_a_craft_loses_where) (n := 63) (k := 6) (x := "_law_script") (CX := fun _ => L2.CX0) (sp := fun w => K10.sp_law _) rfl (by decide) rfl ⟨rfl, by decide, by decide⟩ (fun w h Y => PySem.W.kIn_of Y) ?F (fun _ _ a ns hl _ hS => ⟨a, ns, rfl, hS, hl, fun _ => rfl⟩) (fun _ _ _ _ _ h => h)
  case F =>
    intro w mg fa h KX G hmg
    refine' K10.all_mk KX G hmg (K10.mkTx KX G ?hA_Laying ?hA_Craft ?h_is_number ?l_is_number ?c_is_number ?k_is_number ?h_is_stream ?l_is_stream ?c_is_stream ?k_is_stream ?h_holds_numbers ?l_holds_numbers ?c_holds_numbers ?k_holds_numbers ?h_is_telling ?l_is_telling ?c_is_telling ?k_is_telling ?h_is_mark ?l_is_mark ?c_is_mark ?k_is_mark ?h_is_window ?l_is_window ?c_is_window ?k_is_window ?h_check_stream ?l_check_stream ?c_check_stream ?k_check_stream ?h_check_telling ?l_check_telling ?c_check_telling ?k_check_telling ?h_check_size ?l_check_size ?c_check_size ?k_check_size ?h_check_room ?l_check_room ?c_check_room ?k_check_room ?h_check_marks ?l_check_marks ?c_check_marks ?k_check_marks ?h_check_makes ?l_check_makes ?c_check_makes ?k_check_makes ?h_check_windows ?l_check_windows ?c_check_windows ?k_check_windows ?h_Laying_init ?i_Laying_init ?l_Laying_init ?c_Laying_init ?k_Laying_init ?h_Laying_lay ?i_Laying_lay ?l_Laying_lay ?c_Laying_lay ?k_Laying_lay ?h_Laying_fill ?i_Laying_fill ?l_Laying_fill ?c_Laying_fill ?k_Laying_fill ?h_Laying_done ?i_Laying_done ?l_Laying_done ?c_Laying_done ?k_Laying_done ?h_Craft_init ?i_Craft_init ?l_Craft_init ?c_Craft_init ?k_Craft_init ?h_Craft_tell ?i_Craft_tell ?l_Craft_tell ?c_Craft_tell ?k_Craft_tell ?h_Craft_close ?i_Craft_close ?l_Craft_close ?c_Craft_close ?k_Craft_close ?h_Craft_begin ?i_Craft_begin ?l_Craft_begin ?c_Craft_begin ?k_Craft_begin ?h_Craft_shut ?i_Craft_shut ?l_Craft_shut ?c_Craft_shut ?k_Craft_shut ?h_Craft_beat ?i_Craft_beat ?l_Craft_beat ?c_Craft_beat ?k_Craft_beat ?h_Craft_known ?i_Craft_known ?l_Craft_known ?c_Craft_known ?k_Craft_known ?h_Craft_kept ?i_Craft_kept ?l_Craft_kept ?c_Craft_kept ?k_Craft_kept ?h_Craft_lost ?i_Craft_lost ?l_Craft_lost ?c_Craft_lost ?k_Craft_lost ?h_Craft_next_mark ?i_Craft_next_mark ?l_Craft_next_mark ?c_Craft_next_mark ?k_Craft_next_mark ?h_Craft_keep ?i_Craft_keep ?l_Craft_keep ?c_Craft_keep ?k_Craft_keep ?h_Craft_make_room ?i_Craft_make_room ?l_Craft_make_room ?c_Craft_make_room ?k_Craft_make_room ?h_Craft_let_go ?i_Craft_let_go ?l_Craft_let_go ?c_Craft_let_go ?k_Craft_let_go ?h_most_kept ?l_most_kept ?c_most_kept ?k_most_kept ?h_short_at ?l_short_at ?c_short_at ?k_short_at ?h_kept_at_beats ?l_kept_at_beats ?c_kept_at_beats ?k_kept_at_beats ?h_first_short ?l_first_short ?c_first_short ?k_first_short ?h_law_mix ?l_law_mix ?c_law_mix ?k_law_mix ?h_law_next ?l_law_next ?c_law_next ?k_law_next ?h_law_alike ?l_law_alike ?c_law_alike ?k_law_alike ?h_law_windows ?l_law_windows ?c_law_windows ?k_law_windows ?h_law ?l_law ?c_law ?k_law ?pg_Laying ?hd_Laying ?po_Laying ?sa_Laying ?mk_Laying ?kc_Laying ?n_Laying_body ?n_Laying_count ?n_Laying_first ?n_Laying_size ?n_Laying_stream ?n_Laying_many ?pg_Craft ?hd_Craft ?po_Craft ?sa_Craft ?mk_Craft ?kc_Craft ?n_Craft_asked ?n_Craft_frames ?n_Craft_gone ?n_Craft_layings ?n_Craft_room ?n_Craft_sent ?n_Craft_window ?z_all ?z_bool ?z_enumerate ?z_int ?z_isinstance ?z_len ?z_list ?z_max ?z_min ?z_range ?z_str ?z_tuple ?c_STREAMS ?c_MOST_NUMBERS ?c_LEAST_SIZE ?c_MOST_SIZE ?c_MOST_ROOM ?c_MOST_COUNT ?c_MOST_BEATS ?c_MOST_MADE ?c_HUNDRED)
    (case hA_Laying => k_is)
    (case hA_Craft => k_is)
    (case h_is_number => k_is)
    (case l_is_number => k_is)
    (case c_is_number => k_is)
    (case k_is_number => k_is)
    (case h_is_stream => k_is)
    (case l_is_stream => k_is)
    (case c_is_stream => k_is)
    (case k_is_stream => k_is)
    (case h_holds_numbers => k_is)
    (case l_holds_numbers => k_is)
    (case c_holds_numbers => k_is)
    (case k_holds_numbers => k_is)
    (case h_is_telling => k_is)
    (case l_is_telling => k_is)
    (case c_is_telling => k_is)
    (case k_is_telling => k_is)
    (case h_is_mark => k_is)
    (case l_is_mark => k_is)
    (case c_is_mark => k_is)
    (case k_is_mark => k_is)
    (case h_is_window => k_is)
    (case l_is_window => k_is)
    (case c_is_window => k_is)
    (case k_is_window => k_is)
    (case h_check_stream => k_is)
    (case l_check_stream => k_is)
    (case c_check_stream => k_is)
    (case k_check_stream => k_is)
    (case h_check_telling => k_is)
    (case l_check_telling => k_is)
    (case c_check_telling => k_is)
    (case k_check_telling => k_is)
    (case h_check_size => k_is)
    (case l_check_size => k_is)
    (case c_check_size => k_is)
    (case k_check_size => k_is)
    (case h_check_room => k_is)
    (case l_check_room => k_is)
    (case c_check_room => k_is)
    (case k_check_room => k_is)
    (case h_check_marks => k_is)
    (case l_check_marks => k_is)
    (case c_check_marks => k_is)
    (case k_check_marks => k_is)
    (case h_check_makes => k_is)
    (case l_check_makes => k_is)
    (case c_check_makes => k_is)
    (case k_check_makes => k_is)
    (case h_check_windows => k_is)
    (case l_check_windows => k_is)
    (case c_check_windows => k_is)
    (case k_check_windows => k_is)
    (case h_Laying_init => k_is)
    (case i_Laying_init => k_is)
    (case l_Laying_init => k_is)
    (case c_Laying_init => k_is)
    (case k_Laying_init => k_is)
    (case h_Laying_lay => k_is)
    (case i_Laying_lay => k_is)
    (case l_Laying_lay => k_is)
    (case c_Laying_lay => k_is)
    (case k_Laying_lay => k_is)
    (case h_Laying_fill => k_is)
    (case i_Laying_fill => k_is)
    (case l_Laying_fill => k_is)
    (case c_Laying_fill => k_is)
    (case k_Laying_fill => k_is)
    (case h_Laying_done => k_is)
    (case i_Laying_done => k_is)
    (case l_Laying_done => k_is)
    (case c_Laying_done => k_is)
    (case k_Laying_done => k_is)
    (case h_Craft_init => k_is)
    (case i_Craft_init => k_is)
    (case l_Craft_init => k_is)
    (case c_Craft_init => k_is)
    (case k_Craft_init => k_is)
    (case h_Craft_tell => k_is)
    (case i_Craft_tell => k_is)
    (case l_Craft_tell => k_is)
    (case c_Craft_tell => k_is)
    (case k_Craft_tell => k_is)
    (case h_Craft_close => k_is)
    (case i_Craft_close => k_is)
    (case l_Craft_close => k_is)
    (case c_Craft_close => k_is)
    (case k_Craft_close => k_is)
    (case h_Craft_begin => k_is)
    (case i_Craft_begin => k_is)
    (case l_Craft_begin => k_is)
    (case c_Craft_begin => k_is)
    (case k_Craft_begin => k_is)
    (case h_Craft_shut => k_is)
    (case i_Craft_shut => k_is)
    (case l_Craft_shut => k_is)
    (case c_Craft_shut => k_is)
    (case k_Craft_shut => k_is)
    (case h_Craft_beat => k_is)
    (case i_Craft_beat => k_is)
    (case l_Craft_beat => k_is)
    (case c_Craft_beat => k_is)
    (case k_Craft_beat => k_is)
    (case h_Craft_known => k_is)
    (case i_Craft_known => k_is)
    (case l_Craft_known => k_is)
    (case c_Craft_known => k_is)
    (case k_Craft_known => k_is)
    (case h_Craft_kept => k_is)
    (case i_Craft_kept => k_is)
    (case l_Craft_kept => k_is)
    (case c_Craft_kept => k_is)
    (case k_Craft_kept => k_is)
    (case h_Craft_lost => k_is)
    (case i_Craft_lost => k_is)
    (case l_Craft_lost => k_is)
    (case c_Craft_lost => k_is)
    (case k_Craft_lost => k_is)
    (case h_Craft_next_mark => k_is)
    (case i_Craft_next_mark => k_is)
    (case l_Craft_next_mark => k_is)
    (case c_Craft_next_mark => k_is)
    (case k_Craft_next_mark => k_is)
    (case h_Craft_keep => k_is)
    (case i_Craft_keep => k_is)
    (case l_Craft_keep => k_is)
    (case c_Craft_keep => k_is)
    (case k_Craft_keep => k_is)
    (case h_Craft_make_room => k_is)
    (case i_Craft_make_room => k_is)
    (case l_Craft_make_room => k_is)
    (case c_Craft_make_room => k_is)
    (case k_Craft_make_room => k_is)
    (case h_Craft_let_go => k_is)
    (case i_Craft_let_go => k_is)
    (case l_Craft_let_go => k_is)
    (case c_Craft_let_go => k_is)
    (case k_Craft_let_go => k_is)
    (case h_most_kept => k_is)
    (case l_most_kept => k_is)
    (case c_most_kept => k_is)
    (case k_most_kept => k_is)
    (case h_short_at => k_is)
    (case l_short_at => k_is)
    (case c_short_at => k_is)
    (case k_short_at => k_is)
    (case h_kept_at_beats => k_is)
    (case l_kept_at_beats => k_is)
    (case c_kept_at_beats => k_is)
    (case k_kept_at_beats => k_is)
    (case h_first_short => k_is)
    (case l_first_short => k_is)
    (case c_first_short => k_is)
    (case k_first_short => k_is)
    (case h_law_mix => k_is)
    (case l_law_mix => k_is)
    (case c_law_mix => k_is)
    (case k_law_mix => k_is)
    (case h_law_next => k_is)
    (case l_law_next => k_is)
    (case c_law_next => k_is)
    (case k_law_next => k_is)
    (case h_law_alike => k_is)
    (case l_law_alike => k_is)
    (case c_law_alike => k_is)
    (case k_law_alike => k_is)
    (case h_law_windows => k_is)
    (case l_law_windows => k_is)
    (case c_law_windows => k_is)
    (case k_law_windows => k_is)
    (case h_law => k_is)
    (case l_law => k_is)
    (case c_law => k_is)
    (case k_law => k_is)
    (case pg_Laying => k_is)
    (case hd_Laying => k_is)
    (case po_Laying => k_is)
    (case sa_Laying => k_is)
    (case mk_Laying => k_is)
    (case kc_Laying => k_is)
    (case n_Laying_body => k_is)
    (case n_Laying_count => k_is)
    (case n_Laying_first => k_is)
    (case n_Laying_size => k_is)
    (case n_Laying_stream => k_is)
    (case n_Laying_many => k_is)
    (case pg_Craft => k_is)
    (case hd_Craft => k_is)
    (case po_Craft => k_is)
    (case sa_Craft => k_is)
    (case mk_Craft => k_is)
    (case kc_Craft => k_is)
    (case n_Craft_asked => k_is)
    (case n_Craft_frames => k_is)
    (case n_Craft_gone => k_is)
    (case n_Craft_layings => k_is)
    (case n_Craft_room => k_is)
    (case n_Craft_sent => k_is)
    (case n_Craft_window => k_is)
    (case z_all => k_is)
    (case z_bool => k_is)
    (case z_enumerate => k_is)
    (case z_int => k_is)
    (case z_isinstance => k_is)
    (case z_len => k_is)
    (case z_list => k_is)
    (case z_max => k_is)
    (case z_min => k_is)
    (case z_range => k_is)
    (case z_str => k_is)
    (case z_tuple => k_is)
    (case c_STREAMS => k_is)
    (case c_MOST_NUMBERS => k_is)
    (case c_LEAST_SIZE => k_is)
    (case c_MOST_SIZE => k_is)
    (case c_MOST_ROOM => k_is)
    (case c_MOST_COUNT => k_is)
    (case c_MOST_BEATS => k_is)
    (case c_MOST_MADE => k_is)
    (case c_HUNDRED => k_is)
