import PyProof.Rows.All
import Wide.All
import OpenK.AllK
import Wide.FinOn
import HandS.ForMost
import HandS.IsInst
import HandS.Conv
import HandS.Star
import HandS.Flow
import HandS.Style
import HandS.DictComp
import HandS.SortInts
import HandS.SetKeys
import HandS.Deep
import KE.DataMinMax
import HandS.SortKw
import HandS.SortRule
import KE.GoesEnum
import HandS.TupAny
import HandS.Rev
import KE.KTupSum
import HandS.DictTup
import HandS.TupLen
import HandS.Walk
import PyProof.DictMoreH
import HandS.TupMul
import PyProof.Rows.MatchSeqLen
import HandS.Small
import PySem.Challenge.RW_skyframes_k04_a_craft_step_by_step
set_option Elab.async false
set_option linter.all false
set_option maxRecDepth 100000
set_option maxHeartbeats 4000000
/-! Heaps: tuples stay, what is not named stays; data made of tuples; fields by their places. -/
namespace Sky
open PySem PySem.Spec PyProof.Rows L2

/-- all but what stands at M is as it was -/
def Keep (M : List Addr) (H H' : Hp) : Prop := ∀ b o, b ∉ M → H b = some o → H' b = some o
/-- tuples stay -/
def TSm (H H' : Hp) : Prop := ∀ a xs, H a = some (.tup xs) → H' a = some (.tup xs)
theorem Keep.refl (M : List Addr) (H : Hp) : Keep M H H := fun _ _ _ h => h
theorem Keep.trans {M : List Addr} {H H1 H2 : Hp} (a : Keep M H H1) (b : Keep M H1 H2) : Keep M H H2 := fun c o n h => b c o n (a c o n h)
theorem Keep.of_same {M : List Addr} {H H' : Hp} (a : Same H H') : Keep M H H' := fun c o _ h => a c o h
theorem Keep.mono {M N : List Addr} {H H' : Hp} (a : Keep M H H') (h : ∀ m, m ∈ M → m ∈ N) : Keep N H H' := fun c o n q => a c o (fun z => n (h c z)) q
theorem Keep.same {M : List Addr} {S H H' : Hp} (k : Keep M H H') (s : Same S H) (h : ∀ m ∈ M, S m = none) : Same S H' := fun b o e => by
  refine k b o (fun hb => ?_) (s b o e)
  rw [h b hb] at e
  cases e
theorem Keep.nil {H H' : Hp} (k : Keep [] H H') : Same H H' := fun b o e => k b o (by simp) e
theorem keep_upd {M : List Addr} {H H' : Hp} {a : Addr} {o : HO} (k : Keep M H H') (h : a ∈ M) : Keep M H (upd H' a o) := fun b u n e => by
  rw [upd_ne (show b ≠ a from fun z => n (by rw [z]; exact h))]
  exact k b u n e
theorem keep_new {M : List Addr} {H H' : Hp} {a : Addr} {o : HO} (k : Keep M H H') (h : H a = none) : Keep M H (upd H' a o) := fun b u n e => by
  rw [upd_ne (ne_of_none e h)]
  exact k b u n e
/-- a new object, fresh in the heap just ahead of it -/
theorem keep_new' {M : List Addr} {H H' : Hp} {a : Addr} {o : HO} (k : Keep M H H') (h : H' a = none) : Keep M H (upd H' a o) := fun b u n e => by
  rw [upd_ne (ne_of_none (k b u n e) h)]
  exact k b u n e
/-- a changed object that was fresh at the start -/
theorem keep_mut {M : List Addr} {H H' : Hp} {a : Addr} {o : HO} (k : Keep M H H') (h : H a = none) : Keep M H (upd H' a o) := keep_new k h
theorem same_new {H H' : Hp} {a : Addr} {o : HO} (k : Same H H') (h : H' a = none) : Same H (upd H' a o) := fun b u e => by
  rw [upd_ne (ne_of_none (k b u e) h)]
  exact k b u e
theorem same_mut {H H' : Hp} {a : Addr} {o : HO} (k : Same H H') (h : H a = none) : Same H (upd H' a o) := fun b u e => by
  rw [upd_ne (ne_of_none e h)]
  exact k b u e
theorem TSm.refl (H : Hp) : TSm H H := fun _ _ h => h
theorem TSm.trans {H H1 H2 : Hp} (a : TSm H H1) (b : TSm H1 H2) : TSm H H2 := fun c o h => b c o (a c o h)
theorem TSm.of_same {H H' : Hp} (a : Same H H') : TSm H H' := fun c o h => a c _ h
/-- no tuple -/
def NoT (H : Hp) (a : Addr) : Prop := ∀ xs, H a ≠ some (.tup xs)
theorem NoT.none {H : Hp} {a : Addr} (h : H a = none) : NoT H a := fun xs e => by
  rw [h] at e
  cases e
theorem NoT.lst {H : Hp} {a : Addr} {xs : List V} (h : H a = some (.lst xs)) : NoT H a := fun ys e => by
  rw [h] at e
  cases e
theorem NoT.dK {H : Hp} {a : Addr} {xs : List (Key × V)} (h : H a = some (.dK xs)) : NoT H a := fun ys e => by
  rw [h] at e
  cases e
theorem NoT.dT {H : Hp} {a : Addr} {xs : List (List Key × V)} (h : H a = some (.dT xs)) : NoT H a := fun ys e => by
  rw [h] at e
  cases e
theorem NoT.ins {H : Hp} {a C dx : Addr} {fs : List (Str × V)} (h : H a = some (.ins C dx fs)) : NoT H a := fun ys e => by
  rw [h] at e
  cases e
theorem ts_upd {H H' : Hp} {a : Addr} {o : HO} (k : TSm H H') (h : NoT H' a) : TSm H (upd H' a o) := fun b u e => by
  have q := k b u e
  rw [upd_ne (show b ≠ a from fun z => h u (by rw [← z]; exact q))]
  exact q
theorem Keep.ts {M : List Addr} {H H' : Hp} (k : Keep M H H') (h : ∀ m ∈ M, NoT H m) : TSm H H' := fun a xs e => k a _ (fun z => h a z xs e) e
/-- an address that is there is not a new one -/
theorem ne_new {H : Hp} {a b : Addr} {o : HO} (h : H a = some o) (h' : H b = none) : a ≠ b := ne_of_none h h'

/-! ### data made of tuples -/
mutual
inductive TD (H : Hp) : V → PyData → Prop
  | non : TD H .non .none
  | bl (b : Bool) : TD H (.bl b) (.bool b)
  | int (i : Int) : TD H (.int i) (.int i)
  | str (x : Str) : TD H (.str x) (.str x)
  | tup {a : Addr} {xs : List V} {ds : List PyData} : H a = some (.tup xs) → TDs H xs ds → TD H (.ref a) (.tuple ds)
inductive TDs (H : Hp) : List V → List PyData → Prop
  | nil : TDs H [] []
  | cons {v : V} {vs : List V} {d : PyData} {ds : List PyData} : TD H v d → TDs H vs ds → TDs H (v :: vs) (d :: ds)
end
mutual
theorem TD.mono {H H' : Hp} (k : TSm H H') : ∀ {d : PyData} {v : V}, TD H v d → TD H' v d
  | _, _, .non => .non
  | _, _, .bl b => .bl b
  | _, _, .int i => .int i
  | _, _, .str x => .str x
  | _, _, .tup h t => .tup (k _ _ h) (TDs.mono k t)
theorem TDs.mono {H H' : Hp} (k : TSm H H') : ∀ {ds : List PyData} {vs : List V}, TDs H vs ds → TDs H' vs ds
  | _, _, .nil => .nil
  | _, _, .cons h t => .cons (TD.mono k h) (TDs.mono k t)
end
mutual
theorem TD.dp {K : PySem.W.Frag} {H : Hp} : ∀ {d : PyData} {v : V}, TD H v d → Dp K H v d
  | _, _, .non => .non
  | _, _, .bl b => .bl b
  | _, _, .int i => .int i
  | _, _, .str x => .str x
  | _, _, .tup h t => .tup (SqT.of h) (TDs.dp t)
theorem TDs.dp {K : PySem.W.Frag} {H : Hp} : ∀ {ds : List PyData} {vs : List V}, TDs H vs ds → DpAll K H vs ds
  | _, _, .nil => .nil
  | _, _, .cons h t => .cons (TD.dp h) (TDs.dp t)
end
theorem TDs.length {H : Hp} : ∀ {vs : List V} {ds : List PyData}, TDs H vs ds → vs.length = ds.length
  | _, _, .nil => rfl
  | _, _, .cons _ t => by simp [TDs.length t]
theorem TDs.app {H : Hp} : ∀ {vs us : List V} {ds es : List PyData}, TDs H vs ds → TDs H us es → TDs H (vs ++ us) (ds ++ es)
  | _, _, _, _, .nil, s => s
  | _, _, _, _, .cons h t, s => .cons h (TDs.app t s)
theorem TDs.get {H : Hp} : ∀ {vs : List V} {ds : List PyData} {i : Nat} {v : V}, TDs H vs ds → vs[i]? = some v → ∃ d, ds[i]? = some d ∧ TD H v d
  | _, _, _, _, .nil, e => by simp at e
  | _, _, 0, _, .cons h _, e => by simp at e; subst e; exact ⟨_, rfl, h⟩
  | _, _, i + 1, _, .cons _ t, e => by
    obtain ⟨d, h1, h2⟩ := TDs.get (i := i) t (by simpa using e)
    exact ⟨d, by simpa using h1, h2⟩
theorem TDs.getD {H : Hp} : ∀ {vs : List V} {ds : List PyData} {i : Nat} {d : PyData}, TDs H vs ds → ds[i]? = some d → ∃ v, vs[i]? = some v ∧ TD H v d
  | _, _, _, _, .nil, e => by simp at e
  | _, _, 0, _, .cons h _, e => by simp at e; subst e; exact ⟨_, rfl, h⟩
  | _, _, i + 1, _, .cons _ t, e => by
    obtain ⟨d, h1, h2⟩ := TDs.getD (i := i) t (by simpa using e)
    exact ⟨d, by simpa using h1, h2⟩
theorem TDs.ints {H : Hp} : ∀ (ns : List Int), TDs H (ns.map V.int) (ns.map PyData.int)
  | [] => .nil
  | n :: r => .cons (.int n) (TDs.ints r)
theorem TDs.one {H : Hp} {v : V} {d : PyData} (h : TD H v d) : TDs H [v] [d] := .cons h .nil
theorem TDs.of_ints {H : Hp} : ∀ {ns : List Int} {vs : List V}, TDs H vs (ns.map PyData.int) → vs = ns.map V.int
  | [], _, .nil => rfl
  | n :: r, _, .cons h t => by
    cases h
    rw [TDs.of_ints t]
    rfl
/-- an int's | None's data -/
def optD : Option Nat → PyData
  | none => .none
  | some n => .int n
def optV : Option Nat → V
  | none => .non
  | some n => .int n
theorem TD.opt {H : Hp} : ∀ o : Option Nat, TD H (optV o) (optD o)
  | none => .non
  | some n => .int n
/-- a telling's data -/
abbrev tlD (t : List Int) : PyData := .tuple (t.map PyData.int)
theorem TD.tl {H : Hp} {a : Addr} {t : List Int} (h : H a = some (.tup (t.map V.int))) : TD H (.ref a) (tlD t) := .tup h (TDs.ints t)
theorem TD.of_tl {H : Hp} {v : V} {t : List Int} (h : TD H v (tlD t)) : ∃ a, v = .ref a ∧ H a = some (.tup (t.map V.int)) := by
  cases h with
  | tup h t =>
    have e := TDs.of_ints t
    subst e
    exact ⟨_, rfl, h⟩

mutual
theorem dp_same {K : PySem.W.Frag} {H H' : Hp} (k : Same H H') : ∀ {d : PyData} {v : V}, Dp K H v d → Dp K H' v d
  | _, _, .non => .non
  | _, _, .bl b => .bl b
  | _, _, .int i => .int i
  | _, _, .str x => .str x
  | _, _, .lst h t => .lst (k.seq h) (dps_same k t)
  | _, _, .tup h t => .tup (by
      rcases h with (h | ⟨o, h⟩) | h
      · exact .inl (.inl (k _ _ h))
      · exact .inl (.inr ⟨o, k _ _ h⟩)
      · exact .inr h) (dps_same k t)
theorem dps_same {K : PySem.W.Frag} {H H' : Hp} (k : Same H H') : ∀ {ds : List PyData} {vs : List V}, DpAll K H vs ds → DpAll K H' vs ds
  | _, _, .nil => .nil
  | _, _, .cons h t => .cons (dp_same k h) (dps_same k t)
end
theorem DpAll.len {K : PySem.W.Frag} {H : Hp} : ∀ {vs : List V} {ds : List PyData}, DpAll K H vs ds → vs.length = ds.length
  | _, _, .nil => rfl
  | _, _, .cons _ t => by simp [DpAll.len t]
theorem DpAll.at {K : PySem.W.Frag} {H : Hp} : ∀ {vs : List V} {ds : List PyData} {i : Nat} {d : PyData}, DpAll K H vs ds → ds[i]? = some d → ∃ v, vs[i]? = some v ∧ Dp K H v d
  | _, _, _, _, .nil, e => by simp at e
  | _, _, 0, _, .cons h _, e => by simp at e; subst e; exact ⟨_, rfl, h⟩
  | _, _, i + 1, _, .cons _ t, e => by
    obtain ⟨v, h1, h2⟩ := DpAll.at (i := i) t (by simpa using e)
    exact ⟨v, by simpa using h1, h2⟩
/-- a value's type by its data -/
def tyN : PyData → String
  | .none => "NoneType"
  | .bool _ => "bool"
  | .int _ => "int"
  | .str _ => "str"
  | .list _ => "list"
  | .tuple _ => "tuple"
  | .dict _ => "dict"
theorem dp_ty {K : PySem.W.Frag} {H : Hp} {v : V} {d : PyData} (h : Dp K H v d) : TyX K H v (.type (tyN d)) := by
  cases h with
  | non => exact .base .non
  | bl b => exact .base (.bl b)
  | int i => exact .base (.int i)
  | str x => exact .base (.str x)
  | lst h t =>
    rcases h with (h | ⟨o, h⟩) | ⟨o, its, n, hk, hc, _⟩
    · exact .base (.lst h)
    · exact .base (.frz h)
    · exact .kList hk hc
  | tup h t =>
    rcases h with (h | ⟨o, h⟩) | ⟨o, its, n, hk, hc, _⟩
    · exact .base (.tup h)
    · exact .fTuple h
    · exact .kTuple hk hc
/-- data of so many levels, no level too long -/
def DOk : Nat → PyData → Prop
  | 0, d => (d = .none ∨ (∃ i, d = .int i) ∨ (∃ b, d = .bool b) ∨ ∃ x, d = .str x)
  | n + 1, d => (d = .none ∨ (∃ i, d = .int i) ∨ (∃ b, d = .bool b) ∨ ∃ x, d = .str x) ∨ ∃ ds : List PyData, (d = .list ds ∨ d = .tuple ds) ∧ ds.length ≤ 10000000 ∧ ∀ e ∈ ds, DOk n e
theorem DOk.sc {n : Nat} {d : PyData} (h : d = .none ∨ (∃ i, d = .int i) ∨ (∃ b, d = .bool b) ∨ ∃ x, d = .str x) : DOk n d := by
  cases n with
  | zero => exact h
  | succ n => exact .inl h
theorem DOk.int {n : Nat} (i : Int) : DOk n (.int i) := .sc (.inr (.inl ⟨i, rfl⟩))
theorem DOk.none {n : Nat} : DOk n .none := .sc (.inl rfl)
theorem DOk.tuple {n : Nat} {ds : List PyData} (l : ds.length ≤ 10000000) (h : ∀ e ∈ ds, DOk n e) : DOk (n + 1) (.tuple ds) := .inr ⟨ds, .inr rfl, l, h⟩
theorem DOk.list {n : Nat} {ds : List PyData} (l : ds.length ≤ 10000000) (h : ∀ e ∈ ds, DOk n e) : DOk (n + 1) (.list ds) := .inr ⟨ds, .inl rfl, l, h⟩
theorem DOk.opt {n : Nat} (o : Option Nat) : DOk n (optD o) := by
  cases o with
  | none => exact DOk.none
  | some x => exact DOk.int _
theorem DOk.tl {n : Nat} {t : List Int} (l : t.length ≤ 10000000) : DOk (n + 1) (tlD t) := DOk.tuple (by rw [List.length_map]; exact l) fun e he => by
  obtain ⟨x, _, rfl⟩ := List.mem_map.mp he
  exact DOk.int x
theorem kit2F {K : PySem.W.Frag} {a b c : String} (h1 : kitB a b = some false) (h2 : kitB a c = some false) : PySem.W.kitAny K (.type a) [.type b, .type c] = some false :=
  kitAny_cons (kit_ty h1) (fun _ => kitAny_cons (kit_ty h2) (fun _ => kitAny_nil) (fun z => nomatch z)) (fun z => nomatch z)
theorem kit2T {K : PySem.W.Frag} {a b c : String} (h1 : kitB a b = some true) : PySem.W.kitAny K (.type a) [.type b, .type c] = some true :=
  kitAny_cons (kit_ty h1) (fun z => nomatch z) (fun _ => rfl)
theorem kit2T' {K : PySem.W.Frag} {a b c : String} (h1 : kitB a b = some false) (h2 : kitB a c = some true) : PySem.W.kitAny K (.type a) [.type b, .type c] = some true :=
  kitAny_cons (kit_ty h1) (fun _ => kitAny_cons (kit_ty h2) (fun z => nomatch z) (fun _ => rfl)) (fun _ => rfl)

/-! ### fields by their places -/
theorem lookup_zip : ∀ (ks : List Str) (vs : List V) (i : Nat) (f : Str), ks.Nodup → ks.length = vs.length → ks[i]? = some f → (ks.zip vs).lookup f = vs[i]?
  | [], _, _, _, _, _, h => by simp at h
  | k :: ks, [], _, _, _, h, _ => by simp at h
  | k :: ks, v :: vs, 0, f, _, _, h => by
    simp at h
    subst h
    simp [List.lookup]
  | k :: ks, v :: vs, i + 1, f, nd, l, h => by
    have nd' := List.nodup_cons.mp nd
    have hm : f ∈ ks := List.mem_of_getElem? (by simpa using h)
    have ne : (f == k) = false := by
      rw [beq_eq_false_iff_ne]
      intro e
      exact nd'.1 (e ▸ hm)
    show List.lookup f ((k, v) :: ks.zip vs) = _
    rw [List.lookup_cons, ne]
    simpa using lookup_zip ks vs i f nd'.2 (by simpa using l) (by simpa using h)
theorem lookup_zip_none : ∀ (ks : List Str) (vs : List V) (f : Str), f ∉ ks → (ks.zip vs).lookup f = none
  | [], _, _, _ => by simp
  | k :: ks, [], _, _ => by simp
  | k :: ks, v :: vs, f, h => by
    have ne : (f == k) = false := by
      rw [beq_eq_false_iff_ne]
      intro e
      exact h (e ▸ List.mem_cons_self ..)
    show List.lookup f ((k, v) :: ks.zip vs) = _
    rw [List.lookup_cons, ne]
    exact lookup_zip_none ks vs f fun z => h (List.mem_cons_of_mem _ z)
theorem putF_zip : ∀ (ks : List Str) (vs : List V) (i : Nat) (f : Str) (x : V), ks.Nodup → ks.length = vs.length → ks[i]? = some f → putF f x (ks.zip vs) = ks.zip (vs.set i x)
  | [], _, _, _, _, _, _, h => by simp at h
  | k :: ks, [], _, _, _, _, h, _ => by simp at h
  | k :: ks, v :: vs, 0, f, x, _, _, h => by
    simp at h
    subst h
    show (if k = k then (k, x) :: ks.zip vs else _) = _
    rw [if_pos rfl]
    rfl
  | k :: ks, v :: vs, i + 1, f, x, nd, l, h => by
    have nd' := List.nodup_cons.mp nd
    have hm : f ∈ ks := List.mem_of_getElem? (by simpa using h)
    have ne : ¬ k = f := fun e => nd'.1 (e ▸ hm)
    show (if k = f then (k, x) :: ks.zip vs else (k, v) :: putF f x (ks.zip vs)) = _
    rw [if_neg ne, putF_zip ks vs i f x nd'.2 (by simpa using l) (by simpa using h)]
    rfl
theorem putF_zip_new : ∀ (ks : List Str) (vs : List V) (f : Str) (x : V), ks.length = vs.length → f ∉ ks → putF f x (ks.zip vs) = (ks ++ [f]).zip (vs ++ [x])
  | [], [], f, x, _, _ => rfl
  | [], v :: vs, _, _, h, _ => by simp at h
  | k :: ks, [], _, _, h, _ => by simp at h
  | k :: ks, v :: vs, f, x, l, h => by
    have ne : ¬ k = f := fun e => h (e ▸ List.mem_cons_self ..)
    show (if k = f then (k, x) :: ks.zip vs else (k, v) :: putF f x (ks.zip vs)) = _
    rw [if_neg ne, putF_zip_new ks vs f x (by simpa using l) fun z => h (List.mem_cons_of_mem _ z)]
    rfl
theorem putF_take {ks : List Str} {vs : List V} {i : Nat} {f : Str} {x : V} (nd : ks.Nodup) (h : ks[i]? = some f) (l : vs.length = i) : putF f x ((ks.take i).zip vs) = (ks.take (i + 1)).zip (vs ++ [x]) := by
  have hi : i < ks.length := (List.getElem?_eq_some_iff.mp h).1
  rw [List.take_add_one, h]
  refine putF_zip_new (ks.take i) vs f x ?_ ?_
  · rw [List.length_take, l]
    omega
  · intro hm
    obtain ⟨j, hj, e⟩ := List.mem_take_iff_getElem.mp hm
    have h1 : ks[j]? = some f := by
      rw [List.getElem?_eq_getElem (by omega), e]
    have := nodup_ix nd h1 h
    omega
theorem Keep.join {M N : List Addr} {H0 Hb H : Hp} (a : Keep M H0 Hb) (b : Keep N Hb H) (h : ∀ n ∈ N, n ∈ M ∨ H0 n = none) : Keep M H0 H := fun c o n e => by
  refine b c o (fun hc => ?_) (a c o n e)
  rcases h c hc with q | q
  · exact n q
  · rw [q] at e
    cases e
theorem fresh_of {M : List Addr} {H H1 : Hp} {b : Addr} (k : Keep M H H1) (h : ∀ m ∈ M, ∃ o, H1 m = some o) (n : H1 b = none) : H b = none := by
  cases e : H b with
  | none => rfl
  | some o =>
    by_cases e1 : b ∈ M
    · obtain ⟨u, hu⟩ := h b e1
      rw [hu] at n
      cases n
    · rw [k _ _ e1 e] at n
      cases n
/-- what was there is there -/
def Dom (H H' : Hp) : Prop := ∀ b, H' b = none → H b = none
theorem Dom.refl (H : Hp) : Dom H H := fun _ h => h
theorem Dom.trans {H H1 H2 : Hp} (a : Dom H H1) (b : Dom H1 H2) : Dom H H2 := fun c h => a c (b c h)
theorem dom_upd (H : Hp) (a : Addr) (o : HO) : Dom H (upd H a o) := fun b h => by
  by_cases e : b = a
  · rw [e, upd_same] at h
    cases h
  · rw [upd_ne e] at h
    exact h
theorem Dom.upd {H H' : Hp} (k : Dom H H') (a : Addr) (o : HO) : Dom H (L2.upd H' a o) := k.trans (dom_upd _ _ _)
theorem Dom.of_keep {M : List Addr} {H H1 : Hp} (k : Keep M H H1) (h : ∀ m ∈ M, ∃ o, H1 m = some o) : Dom H H1 := fun _ n => fresh_of k h n
theorem Dom.of_same {H H1 : Hp} (k : Same H H1) : Dom H H1 := fun _ n => k.free n
/-- a plain if without an else, its rest once -/
theorem if_skip {c : Prop} [Decidable c] {t : L2.TS} {D : Ends} {σ : L2.St} {H : Hp} (Cd : Hp → Prop) (rest : ∀ H1, Cd H1 → D.nx σ H1) (h1 : c → (∀ H1, Cd H1 → D.nx σ H1) → t D σ H) (h2 : ¬ c → Cd H) :
    if c then t D σ H else tNext D σ H := by
  by_cases hc : c
  · rw [if_pos hc]
    exact h1 hc rest
  · rw [if_neg hc]
    exact rest H (h2 hc)
/-- a if c else b, its rest once -/
theorem ife_skip {c : Prop} [Decidable c] {ta tb : TE} {σ : L2.St} {H : Hp} {Q : VK} (R : V → Hp → Prop) (rest : ∀ v H1, R v H1 → Q v H1) (h1 : c → (∀ v H1, R v H1 → Q v H1) → ta σ H Q) (h2 : ¬ c → (∀ v H1, R v H1 → Q v H1) → tb σ H Q) :
    if c then ta σ H Q else tb σ H Q := by
  by_cases hc : c
  · rw [if_pos hc]
    exact h1 hc rest
  · rw [if_neg hc]
    exact h2 hc rest
theorem zip_len (ks : List Str) (vs : List V) : (ks.zip vs).length ≤ ks.length := by
  rw [List.length_zip]
  exact Nat.min_le_left _ _
theorem canLayAll_of {α : Type} {f : α → PyData} : ∀ {xs : List α}, (∀ x ∈ xs, (f x).canLay0 = true) → PyData.canLayAll0 (xs.map f) = true
  | [], _ => by simp [PyData.canLayAll0]
  | x :: r, h => by
    simp only [List.map_cons, PyData.canLayAll0, Bool.and_eq_true]
    exact ⟨h x (List.mem_cons_self ..), canLayAll_of fun y hy => h y (List.mem_cons_of_mem _ hy)⟩
theorem depthAll_of {α : Type} {f : α → PyData} {k : Nat} : ∀ {xs : List α}, (∀ x ∈ xs, (f x).depth ≤ k) → PyData.depthAll (xs.map f) ≤ k
  | [], _ => by simp [PyData.depthAll]
  | x :: r, h => by
    simp only [List.map_cons, PyData.depthAll]
    exact Nat.max_le.mpr ⟨h x (List.mem_cons_self ..), depthAll_of fun y hy => h y (List.mem_cons_of_mem _ hy)⟩
/-- data that can be compared: how deep -/
def Lay (k : Nat) (d : PyData) : Prop := d.canLay0 = true ∧ d.depth ≤ k
theorem Lay.shaped {k : Nat} {d : PyData} (h : Lay k d) (hk : k ≤ 64) : SeqAt.shaped d = true := by
  unfold SeqAt.shaped
  rw [Bool.and_eq_true]
  exact ⟨h.1, decide_eq_true (Nat.le_trans h.2 hk)⟩
theorem Lay.mono {j k : Nat} {d : PyData} (h : Lay j d) (hk : j ≤ k) : Lay k d := ⟨h.1, Nat.le_trans h.2 hk⟩
theorem Lay.int (i : Int) : Lay 0 (.int i) := ⟨by simp [PyData.canLay0], by simp [PyData.depth]⟩
theorem Lay.none : Lay 0 .none := ⟨by simp [PyData.canLay0], by simp [PyData.depth]⟩
theorem Lay.bool (b : Bool) : Lay 0 (.bool b) := ⟨by simp [PyData.canLay0], by simp [PyData.depth]⟩
theorem Lay.list {α : Type} {f : α → PyData} {k : Nat} {xs : List α} (h : ∀ x ∈ xs, Lay k (f x)) : Lay (k + 1) (.list (xs.map f)) := by
  refine ⟨?_, ?_⟩
  · rw [PyData.canLay0]
    exact canLayAll_of fun x hx => (h x hx).1
  · rw [PyData.depth]
    exact Nat.succ_le_succ (depthAll_of fun x hx => (h x hx).2)
theorem Lay.tuple {α : Type} {f : α → PyData} {k : Nat} {xs : List α} (h : ∀ x ∈ xs, Lay k (f x)) : Lay (k + 1) (.tuple (xs.map f)) := by
  refine ⟨?_, ?_⟩
  · rw [PyData.canLay0]
    exact canLayAll_of fun x hx => (h x hx).1
  · rw [PyData.depth]
    exact Nat.succ_le_succ (depthAll_of fun x hx => (h x hx).2)
theorem Lay.nil : Lay 1 (.list []) := Lay.list (f := PyData.int) (xs := []) (k := 0) (by simp)
theorem Lay.tl (t : List Int) : Lay 1 (tlD t) := Lay.tuple fun x _ => Lay.int x
theorem Lay.refl {k : Nat} {d : PyData} (h : Lay k d) : PyData.eqv d d = true := SeqAt.eqv_refl d h.1
theorem eqv_nil (ds : List PyData) : PyData.eqv (.list ds) (.list []) = ds.isEmpty := by
  cases ds with
  | nil => simp [PyData.eqv, PyData.eqvAll]
  | cons x r => simp [PyData.eqv, PyData.eqvAll]
theorem dpAll_ints {K : PySem.W.Frag} {H : Hp} (ns : List Int) : DpAll K H (ns.map V.int) (ns.map PyData.int) := (TDs.ints ns).dp
theorem fmod_nat (a b : Nat) : ((a : Nat) : Int).fmod ((b : Nat) : Int) = ((a % b : Nat) : Int) := by
  rw [Int.fmod_eq_emod_of_nonneg _ (by omega)]
  rfl
theorem fdiv_nat (a b : Nat) : ((a : Nat) : Int).fdiv ((b : Nat) : Int) = ((a / b : Nat) : Int) := by
  rw [Int.fdiv_eq_ediv_of_nonneg _ (by omega)]
  rfl
theorem cut_nat {xs : List V} {a b : Nat} (ha : a ≤ xs.length) (hb : b ≤ xs.length) : cutV xs (some ((a : Nat) : Int)) (some ((b : Nat) : Int)) = (xs.drop a).take (b - a) := by
  unfold cutV
  rw [HT.sIx_nat, HT.sIx_nat, Nat.min_eq_left ha, Nat.min_eq_left hb]
/-! ### rules within a comprehension: the written part is told -/
section
variable {X : Cx} {K : PySem.W.Frag}
theorem ix_listK (h : X.K = K) : IxR X (rIxL K) := h ▸ ix_list
theorem ix_tupK (h : X.K = K) : IxR X (rIxT K) := h ▸ ix_tup
theorem ix_seqK (h : X.K = K) : IxR X (rIx K) := h ▸ ix_seq
def rLenSq (K : PySem.W.Frag) : List V → Hp → VK → Prop := fun xs H Q => ∃ p ys, xs = [.ref p] ∧ (SqL K H p ys ∨ SqT K H p ys) ∧ Q (.int ys.length) H
theorem call_lenK (h : X.K = K) : CallR X (.builtin "len") (rLenSq K) := h ▸ call_len_seq
theorem op_eqDK (h : X.K = K) (hu : X.A.units + 64 < cLine) : OpR X (compareOp .Eq) (rEqD K) := h ▸ op_eqD hu
theorem op_neDK (h : X.K = K) (hu : X.A.units + 64 < cLine) : OpR X (compareOp .NotEq) (rNeD K) := h ▸ op_neD hu
theorem op_in_seqK (h : X.K = K) : OpR X (compareOp .In) (rIn K false) := h ▸ op_in_seq
theorem op_notIn_seqK (h : X.K = K) : OpR X (compareOp .NotIn) (rIn K true) := h ▸ op_notIn_seq
theorem sl_listK (h : X.K = K) : SlR X (rSlL K) := h ▸ sl_list
theorem sl_tupK (h : X.K = K) : SlR X (rSlT K) := h ▸ sl_tup
theorem call_isiK' (h : X.K = K) : CallR X (.builtin "isinstance") (rIsi K) := h ▸ call_isi
theorem pe_fldK {e : Expr} {f : Str} {pos : Pos} {ta : TE} (h : X.K = K) (he : PE X e ta) (hb : attributeBase e f X.env (eval e X.env) = eval e X.env) : PE X (.Attribute e f pos) (tFld K ta f) := h ▸ pe_fld he hb
theorem pe_bmK {o e : Expr} {es : List Expr} {to : TE} {t : TA} {name : Str} {apos cpos : Pos} {T id : String} {r : V → List V → Hp → VK → Prop} (hK : X.K = K)
    (pa : PlainAttrs T) (sl : Slot T name id) (ty : typeOf (.builtin id) = pure (.type "method_descriptor")) (m : MtR X id r) (po : PE X o to) (args : PA X (e :: es) t)
    (h1 : attributeBase o name X.env (eval o X.env) = eval o X.env := by rfl)
    (h2 : ((backTo cpos (starEach (e :: es) X.env)).all (fun x => !x.1) && (backToKw cpos (keywordEach [] X.env)).all (fun x => x.1.isSome) && decide ((e :: es).length + ([] : List Keyword).length + (if ([] : List Keyword).isEmpty then 0 else 1) < 30)) = true := by rfl)
    (h3 : (apos.endLine == cpos.line) = true := by rfl)
    (h4 : starEach (e :: es) X.env = (false, eval e X.env) :: starEach es X.env := by rfl)
    (h5 : (backTo cpos (starEach es X.env)).any (·.1) = false := by rfl) :
    PE X (.Call (.Attribute o name apos) (e :: es) [] cpos) (tBM K T r to t) := hK ▸ pe_bm pa sl ty m po args h1 h2 h3 h4 h5
theorem pg_tupK {es : List Expr} {k : Nat} {pos : Pos} {t : TGs} {n : Nat} (hK : X.K = K) (hc : X.calm = true) (h : PGs X es t) (hn : (assignEach es X.env).length = n := by rfl) (hst : (assignEach es X.env).findIdx? (·.1) = none := by rfl) :
    PG X (.Tuple es k pos) (gTup K n t) := hK ▸ pg_tup hc h hn hst
end
theorem le_line {n : Nat} (h : n ≤ 16000000) : n ≤ sizeLine := Nat.le_trans h (by decide)
theorem lt_line {n : Nat} (h : n < 16000000) : n < sizeLine := Nat.lt_of_lt_of_le h (by decide)
theorem bl_of {c : Prop} [Decidable c] {Q : V → Hp → Prop} {H : Hp} (hc : c) (h : Q (.bl true) H) : Q (.bl (decide c)) H := by
  rw [decide_eq_true hc]
  exact h
theorem dT {c : Prop} [Decidable c] (h : c) : V.bl (decide c) = V.bl true := by rw [decide_eq_true h]
theorem dF {c : Prop} [Decidable c] (h : ¬ c) : V.bl (decide c) = V.bl false := by rw [decide_eq_false h]
theorem ndT {c : Prop} [Decidable c] (h : ¬ c) : V.bl (!decide c) = V.bl true := by rw [decide_eq_false h]; rfl
theorem ndF {c : Prop} [Decidable c] (h : c) : V.bl (!decide c) = V.bl false := by rw [decide_eq_true h]; rfl
theorem map_get {α β : Type} {f : α → β} {xs : List α} {i : Nat} {y : β} (h : (xs.map f)[i]? = some y) : ∃ x, xs[i]? = some x ∧ y = f x := by
  rw [List.getElem?_map] at h
  cases e : xs[i]? with
  | none => rw [e] at h; cases h
  | some x => rw [e] at h; exact ⟨x, rfl, (Option.some.inj h).symm⟩
end Sky

/-! Tellings laid into frames: the numbers, the frames of them. -/
namespace Sky
open PySem PySem.Spec PyProof.Rows L2
def tellOk (t : List Int) : Prop := 1 ≤ t.length ∧ t.length ≤ 20 ∧ ∀ x ∈ t, 0 ≤ x ∧ x ≤ 255
/-- a frame: count, first, body -/
abbrev Frm := Nat × Option Nat × List Int
def inFr (z c s : Nat) : Bool := decide (c * z ≤ s) && decide (s < c * z + z)
def firstOf (z c : Nat) (S : List Nat) : Option Nat := ((S.filter (inFr z c)).map (· - c * z)).head?
def frm (z : Nat) (N : List Int) (S : List Nat) (c : Nat) : Frm := (c, firstOf z c S, (N.drop (c * z)).take z)
def frms (z : Nat) (N : List Int) (S : List Nat) : List Frm := (List.range (N.length / z)).map (frm z N S)
def frmD (st : Int) (f : Frm) : PyData := .tuple [.int st, .int f.1, optD f.2.1, tlD f.2.2]
def laidN (m : Int) (t : List Int) : List Int := (t.length : Int) :: m.fdiv 256 :: m.fmod 256 :: t
def lay1 (x : List Int × List Nat) (t : List Int) : List Int × List Nat := (x.1 ++ laidN (x.2.length : Int) t, x.2 ++ [x.1.length])
def layAll (ts : List (List Int)) : List Int × List Nat := ts.foldl lay1 ([], [])
def padN (z : Nat) (N : List Int) : List Int := if N.length % z = 0 then N else N ++ List.replicate (z - N.length % z) 0
theorem laidN_length (m : Int) (t : List Int) : (laidN m t).length = t.length + 3 := by simp [laidN]
theorem layAll_snoc (ts : List (List Int)) (t : List Int) : layAll (ts ++ [t]) = lay1 (layAll ts) t := by
  unfold layAll
  rw [List.foldl_append]
  rfl
theorem layAll_take {ts : List (List Int)} {i : Nat} {t : List Int} (h : ts[i]? = some t) : layAll (ts.take (i + 1)) = lay1 (layAll (ts.take i)) t := by
  rw [List.take_add_one, h]
  exact layAll_snoc _ _
/-- what holds of the numbers and the starts of such -/
structure Laid (N : List Int) (S : List Nat) : Prop where
  le : ∀ s ∈ S, s ≤ N.length
  asc : S.Pairwise (· ≤ ·)
theorem Laid.nil : Laid [] [] := ⟨by simp, by simp⟩
theorem Laid.start {N : List Int} {S : List Nat} (h : Laid N S) : Laid N (S ++ [N.length]) := by
  refine ⟨fun s hs => ?_, ?_⟩
  · rcases List.mem_append.mp hs with q | q
    · exact h.le s q
    · rw [List.mem_singleton.mp q]
      exact Nat.le_refl _
  · rw [List.pairwise_append]
    refine ⟨h.asc, by simp, fun a ha b hb => ?_⟩
    rw [List.mem_singleton.mp hb]
    exact h.le a ha
theorem Laid.more {N : List Int} {S : List Nat} (h : Laid N S) (xs : List Int) : Laid (N ++ xs) S := ⟨fun s hs => by
  rw [List.length_append]
  exact Nat.le_trans (h.le s hs) (Nat.le_add_right _ _), h.asc⟩
theorem Laid.lay1 {x : List Int × List Nat} (h : Laid x.1 x.2) (t : List Int) : Laid (lay1 x t).1 (lay1 x t).2 := (h.start).more _
theorem laid_all : ∀ ts : List (List Int), Laid (layAll ts).1 (layAll ts).2 := fun ts => by
  unfold layAll
  suffices h : ∀ (ts : List (List Int)) (x : List Int × List Nat), Laid x.1 x.2 → Laid (ts.foldl Sky.lay1 x).1 (ts.foldl Sky.lay1 x).2 from h ts _ Laid.nil
  intro ts
  induction ts with
  | nil => exact fun x h => h
  | cons t r ih => exact fun x h => ih _ (h.lay1 t)
theorem firstOf_app (z c : Nat) (S : List Nat) (n : Nat) : firstOf z c (S ++ [n]) = (firstOf z c S).or (if inFr z c n = true then some (n - c * z) else none) := by
  unfold firstOf
  rw [List.filter_append, List.map_append, List.head?_append]
  congr 1
  by_cases h : inFr z c n = true
  · rw [if_pos h, List.filter_cons_of_pos h]
    rfl
  · rw [if_neg h, List.filter_cons_of_neg h]
    rfl
theorem firstOf_none {z c : Nat} {S : List Nat} (h : ∀ s ∈ S, s < c * z) : firstOf z c S = none := by
  unfold firstOf
  have e : S.filter (inFr z c) = [] := by
    rw [List.filter_eq_nil_iff]
    intro s hs
    have := h s hs
    unfold inFr
    simp
    omega
  rw [e]
  rfl
theorem div_eq {z n c : Nat} (h1 : c * z ≤ n) (h2 : n < c * z + z) : n / z = c := by
  apply Nat.div_eq_of_lt_le h1
  rw [Nat.succ_mul]
  exact h2
theorem div_lo (z n : Nat) : n / z * z ≤ n := Nat.div_mul_le_self n z
theorem div_hi {z : Nat} (hz : 0 < z) (n : Nat) : n < n / z * z + z := by
  have := Nat.lt_div_mul_add hz (a := n)
  omega
theorem div_mod (z n : Nat) : n / z * z + n % z = n := by
  have := Nat.div_add_mod n z
  rw [Nat.mul_comm] at this
  exact this
/-- the frames that are full depend neither on later numbers nor on later starts -/
theorem frm_more {z c : Nat} {N xs : List Int} {S : List Nat} (h : c * z + z ≤ N.length) : frm z (N ++ xs) S c = frm z N S c := by
  unfold frm
  rw [List.drop_append_of_le_length (by omega), List.take_append_of_le_length (by rw [List.length_drop]; omega)]
theorem frm_start {z c : Nat} {N : List Int} {S : List Nat} {n : Nat} (h : c * z + z ≤ n) : frm z N (S ++ [n]) c = frm z N S c := by
  unfold frm
  rw [firstOf_app, if_neg, Option.or_none]
  unfold inFr
  simp
  omega
theorem frms_start (z : Nat) (N : List Int) (S : List Nat) : frms z N (S ++ [N.length]) = frms z N S := by
  unfold frms
  refine List.map_congr_left fun c hc => ?_
  have h1 : c < N.length / z := List.mem_range.mp hc
  refine frm_start ?_
  have := Nat.mul_le_mul_right z (show c + 1 ≤ N.length / z from h1)
  rw [Nat.succ_mul] at this
  have := div_lo z N.length
  omega
theorem frms_low {z : Nat} {N xs : List Int} {S : List Nat} : (List.range (N.length / z)).map (frm z (N ++ xs) S) = frms z N S := by
  unfold frms
  refine List.map_congr_left fun c hc => frm_more ?_
  have h1 : c < N.length / z := List.mem_range.mp hc
  have := Nat.mul_le_mul_right z (show c + 1 ≤ N.length / z from h1)
  rw [Nat.succ_mul] at this
  have := div_lo z N.length
  omega
theorem frms_same {z : Nat} (hz : 0 < z) {N xs : List Int} {S : List Nat} (h : N.length + xs.length < N.length / z * z + z) : frms z (N ++ xs) S = frms z N S := by
  have e : (N ++ xs).length / z = N.length / z := by
    rw [List.length_append]
    refine div_eq ?_ h
    have := div_lo z N.length
    omega
  unfold frms
  rw [e]
  exact frms_low
/-- some numbers that just fill the frame -/
theorem frms_full {z : Nat} (hz : 0 < z) {N xs : List Int} {S : List Nat} (h : N.length + xs.length = N.length / z * z + z) :
    frms z (N ++ xs) S = frms z N S ++ [(N.length / z, firstOf z (N.length / z) S, N.drop (N.length / z * z) ++ xs)] := by
  have e : (N ++ xs).length / z = N.length / z + 1 := by
    rw [List.length_append, h]
    refine div_eq ?_ ?_ <;> rw [Nat.succ_mul] <;> omega
  have := div_lo z N.length
  show (List.range ((N ++ xs).length / z)).map (frm z (N ++ xs) S) = _
  rw [e, List.range_succ, List.map_append, frms_low]
  congr 1
  show [frm z (N ++ xs) S (N.length / z)] = _
  unfold frm
  rw [List.drop_append_of_le_length this, List.take_of_length_le]
  rw [List.length_append, List.length_drop]
  omega
theorem frms_pad {z : Nat} (hz : 0 < z) {N : List Int} {S : List Nat} (h : N.length % z ≠ 0) :
    frms z (padN z N) S = frms z N S ++ [(N.length / z, firstOf z (N.length / z) S, N.drop (N.length / z * z) ++ List.replicate (z - N.length % z) 0)] := by
  unfold padN
  rw [if_neg h]
  refine frms_full hz ?_
  rw [List.length_replicate]
  have := div_mod z N.length
  have := Nat.mod_lt N.length hz
  omega
theorem frms_pad0 {z : Nat} {N : List Int} {S : List Nat} (h : N.length % z = 0) : frms z (padN z N) S = frms z N S := by
  unfold padN
  rw [if_pos h]
theorem body_length (z : Nat) (N : List Int) : (N.drop (N.length / z * z)).length = N.length % z := by
  rw [List.length_drop]
  have := div_mod z N.length
  omega
theorem step_full {z : Nat} (hz : 0 < z) {N : List Int} {x : Int} (h : N.length % z + 1 = z) :
    N.length + 1 = N.length / z * z + z ∧ (N ++ [x]).length / z = N.length / z + 1 ∧ (N ++ [x]).drop ((N.length / z + 1) * z) = [] := by
  have h1 := div_mod z N.length
  have h2 : N.length + 1 = N.length / z * z + z := by omega
  refine ⟨h2, ?_, ?_⟩
  · rw [List.length_append, List.length_singleton, h2]
    refine div_eq ?_ ?_ <;> rw [Nat.succ_mul] <;> omega
  · apply List.drop_eq_nil_of_le
    rw [List.length_append, List.length_singleton, h2, Nat.succ_mul]
    exact Nat.le_refl _
theorem step_not {z : Nat} (hz : 0 < z) {N : List Int} {x : Int} (h : N.length % z + 1 ≠ z) :
    N.length + 1 < N.length / z * z + z ∧ (N ++ [x]).length / z = N.length / z ∧ (N ++ [x]).drop (N.length / z * z) = N.drop (N.length / z * z) ++ [x] := by
  have h1 := div_mod z N.length
  have h3 := Nat.mod_lt N.length hz
  have h2 : N.length + 1 < N.length / z * z + z := by omega
  refine ⟨h2, ?_, ?_⟩
  · rw [List.length_append, List.length_singleton]
    exact div_eq (by omega) h2
  · exact List.drop_append_of_le_length (by omega)
theorem first_start {z : Nat} (hz : 0 < z) (N : List Int) (S : List Nat) : firstOf z (N.length / z) (S ++ [N.length]) = (firstOf z (N.length / z) S).or (some (N.length % z)) := by
  have h1 := div_mod z N.length
  have h2 := div_hi hz N.length
  rw [firstOf_app, if_pos (by unfold inFr; simp; omega)]
  congr 2
  omega
theorem frms_length (z : Nat) (N : List Int) (S : List Nat) : (frms z N S).length = N.length / z := by simp [frms]
theorem frms_lay {z : Nat} (x : List Int × List Nat) (t : List Int) :
    frms z x.1 x.2 ++ (frms z (lay1 x t).1 (lay1 x t).2).drop (x.1.length / z) = frms z (lay1 x t).1 (lay1 x t).2 := by
  have e : (frms z (lay1 x t).1 (lay1 x t).2).take (x.1.length / z) = frms z x.1 x.2 := by
    have h : x.1.length / z ≤ (lay1 x t).1.length / z := Nat.div_le_div_right (by unfold lay1; rw [List.length_append]; exact Nat.le_add_right _ _)
    unfold frms
    rw [← List.map_take, List.take_range, Nat.min_eq_left h]
    show (List.range (x.1.length / z)).map (frm z (x.1 ++ laidN (x.2.length : Int) t) (x.2 ++ [x.1.length])) = _
    rw [frms_low, frms_start]
    rfl
  rw [← e]
  exact List.take_append_drop _ _
theorem layAll_le : ∀ (ts : List (List Int)), (∀ t ∈ ts, t.length ≤ 20) → (layAll ts).1.length ≤ 23 * ts.length := by
  intro ts h
  unfold layAll
  suffices g : ∀ (ts : List (List Int)) (x : List Int × List Nat), (∀ t ∈ ts, t.length ≤ 20) → (ts.foldl lay1 x).1.length ≤ x.1.length + 23 * ts.length by
    have := g ts ([], []) h
    simpa using this
  intro ts
  induction ts with
  | nil => intro x _; exact Nat.le_refl _
  | cons t r ih =>
    intro x hx
    have h1 := ih (lay1 x t) fun u hu => hx u (List.mem_cons_of_mem _ hu)
    have h2 := hx t (List.mem_cons_self ..)
    have h3 : (lay1 x t).1.length = x.1.length + (t.length + 3) := by unfold lay1; rw [List.length_append, laidN_length]
    rw [List.foldl_cons, List.length_cons]
    omega
theorem layAll_len : ∀ (ts : List (List Int)), (layAll ts).2.length = ts.length := by
  intro ts
  unfold layAll
  suffices g : ∀ (ts : List (List Int)) (x : List Int × List Nat), (ts.foldl lay1 x).2.length = x.2.length + ts.length by
    have := g ts ([], [])
    simpa using this
  intro ts
  induction ts with
  | nil => intro x; rfl
  | cons t r ih =>
    intro x
    rw [List.foldl_cons, ih, List.length_cons]
    unfold lay1
    rw [List.length_append, List.length_singleton]
    omega
/-- the first of ascending ones is the least -/
theorem head_least : ∀ {ns : List Nat} {m : Nat}, ns.Pairwise (· ≤ ·) → m ∈ ns → (∀ y ∈ ns, m ≤ y) → ns.head? = some m
  | x :: r, m, p, hm, hl => by
    have h1 : m ≤ x := hl x (List.mem_cons_self ..)
    have h2 : x ≤ m := by
      rcases List.mem_cons.mp hm with e | e
      · exact Nat.le_of_eq e.symm
      · exact (List.pairwise_cons.mp p).1 m e
    show some x = some m
    rw [Nat.le_antisymm h2 h1]
theorem firstOf_least {z c : Nat} {S : List Nat} {m : Nat} (p : S.Pairwise (· ≤ ·)) (hm : m ∈ (S.filter (inFr z c)).map (· - c * z)) (hl : ∀ y ∈ (S.filter (inFr z c)).map (· - c * z), m ≤ y) : firstOf z c S = some m := by
  refine head_least ?_ hm hl
  refine List.Pairwise.map _ (fun a b h => ?_) (p.filter _)
  show a - c * z ≤ b - c * z
  exact Nat.sub_le_sub_right h _
end Sky

/-! What is read from frames: tellings by their starts, the places in a frame at which some begin, the rows. -/
namespace Sky
open PySem PySem.Spec PyProof.Rows L2
/-- numbers N in which tellings begin at places, one behind the other or behind a filled-up frame -/
structure Lays (z : Nat) (N : List Int) (L : List (Nat × List Int)) : Prop where
  item : ∀ j a t, L[j]? = some (a, t) → a + (t.length + 3) ≤ N.length ∧ (N.drop a).take (t.length + 3) = laidN (j : Nat) t ∧ tellOk t
  next : ∀ j a t a' t', L[j]? = some (a, t) → L[j + 1]? = some (a', t') → a' = a + (t.length + 3) ∨ (N[a + (t.length + 3)]? = some 0 ∧ (a + (t.length + 3)) / z * z + z ≤ a')
  last : ∀ j a t, L[j]? = some (a, t) → L[j + 1]? = none → a + (t.length + 3) = N.length ∨ (N[a + (t.length + 3)]? = some 0 ∧ (a + (t.length + 3)) / z * z + z ≤ N.length)
  laid : Laid N (L.map (·.1))
  nums : ∀ x ∈ N, 0 ≤ x ∧ x ≤ 255
theorem Lays.nil (z : Nat) : Lays z [] [] := ⟨by simp, by simp, by simp, Laid.nil, by simp⟩
theorem Lays.lay {z : Nat} {N : List Int} {L : List (Nat × List Int)} {t : List Int} (h : Lays z N L) (ok : tellOk t) (few : L.length < 65536) : Lays z (N ++ laidN (L.length : Nat) t) (L ++ [(N.length, t)]) := by
  have hll : (laidN (L.length : Nat) t).length = t.length + 3 := laidN_length _ _
  refine ⟨fun j a u e => ?_, fun j a u a' u' e e' => ?_, fun j a u e e' => ?_, ?_, fun x hx => ?_⟩
  · by_cases hj : j < L.length
    · rw [List.getElem?_append_left hj] at e
      obtain ⟨h1, h2, h3⟩ := h.item j a u e
      refine ⟨by rw [List.length_append]; omega, ?_, h3⟩
      rw [List.drop_append_of_le_length (by omega), List.take_append_of_le_length (by rw [List.length_drop]; omega)]
      exact h2
    · have hj' : j = L.length := by
        have := (List.getElem?_eq_some_iff.mp e).1
        rw [List.length_append, List.length_singleton] at this
        omega
      subst hj'
      rw [List.getElem?_append_right (Nat.le_refl _), Nat.sub_self] at e
      have e2 : (N.length, t) = (a, u) := Option.some.inj e
      injection e2 with e3 e4
      subst e3 e4
      refine ⟨by rw [List.length_append, hll]; omega, ?_, ok⟩
      rw [List.drop_append_of_le_length (Nat.le_refl _), List.drop_length, List.nil_append, List.take_of_length_le (by omega)]
  · by_cases hj : j + 1 < L.length
    · rw [List.getElem?_append_left (by omega)] at e
      rw [List.getElem?_append_left hj] at e'
      rcases h.next j a u a' u' e e' with q | ⟨q, r⟩
      · exact .inl q
      · refine .inr ⟨?_, r⟩
        rw [List.getElem?_append_left (List.getElem?_eq_some_iff.mp q).1]
        exact q
    · have hj' : j + 1 = L.length := by
        have := (List.getElem?_eq_some_iff.mp e').1
        rw [List.length_append, List.length_singleton] at this
        omega
      rw [List.getElem?_append_left (by omega)] at e
      rw [hj', List.getElem?_append_right (Nat.le_refl _), Nat.sub_self] at e'
      have e2 : (N.length, t) = (a', u') := Option.some.inj e'
      injection e2 with e3 e4
      subst e3
      rcases h.last j a u e (List.getElem?_eq_none (by omega)) with q | ⟨q, r⟩
      · exact .inl q.symm
      · refine .inr ⟨?_, r⟩
        rw [List.getElem?_append_left (List.getElem?_eq_some_iff.mp q).1]
        exact q
  · have hj' : j = L.length := by
      have h1 := (List.getElem?_eq_some_iff.mp e).1
      have h2 := List.getElem?_eq_none_iff.mp e'
      rw [List.length_append, List.length_singleton] at h1 h2
      omega
    subst hj'
    rw [List.getElem?_append_right (Nat.le_refl _), Nat.sub_self] at e
    have e2 : (N.length, t) = (a, u) := Option.some.inj e
    injection e2 with e3 e4
    subst e3 e4
    left
    rw [List.length_append, hll]
  · rw [List.map_append]
    exact h.laid.start.more _
  · rcases List.mem_append.mp hx with q | q
    · exact h.nums x q
    · unfold laidN at q
      simp only [List.mem_cons] at q
      have h1 := ok.1
      have h2 := ok.2.1
      rcases q with e | e | e | e
      · omega
      · rw [e, Int.fdiv_eq_ediv_of_nonneg _ (by omega)]
        omega
      · rw [e, Int.fmod_eq_emod_of_nonneg _ (by omega)]
        omega
      · exact ok.2.2 x e
theorem padN_length {z : Nat} (hz : 0 < z) (N : List Int) : (padN z N).length = if N.length % z = 0 then N.length else N.length / z * z + z := by
  unfold padN
  have := div_mod z N.length
  have := Nat.mod_lt N.length hz
  split
  · rfl
  · rw [List.length_append, List.length_replicate]
    omega
theorem Lays.pad {z : Nat} {N : List Int} {L : List (Nat × List Int)} (hz : 0 < z) (h : Lays z N L) : Lays z (padN z N) L := by
  by_cases h0 : N.length % z = 0
  · unfold padN
    rw [if_pos h0]
    exact h
  · have hp : padN z N = N ++ List.replicate (z - N.length % z) 0 := by unfold padN; rw [if_neg h0]
    have hl : (padN z N).length = N.length / z * z + z := by rw [padN_length hz, if_neg h0]
    have hm := div_mod z N.length
    have hmz := Nat.mod_lt N.length hz
    refine ⟨fun j a t e => ?_, fun j a t a' t' e e' => ?_, fun j a t e e' => ?_, ?_, fun x hx => ?_⟩
    · obtain ⟨h1, h2, h3⟩ := h.item j a t e
      refine ⟨by omega, ?_, h3⟩
      rw [hp, List.drop_append_of_le_length (by omega), List.take_append_of_le_length (by rw [List.length_drop]; omega)]
      exact h2
    · rcases h.next j a t a' t' e e' with q | ⟨q, r⟩
      · exact .inl q
      · refine .inr ⟨?_, r⟩
        rw [hp, List.getElem?_append_left (List.getElem?_eq_some_iff.mp q).1]
        exact q
    · right
      rcases h.last j a t e e' with q | ⟨q, r⟩
      · rw [q]
        refine ⟨?_, by omega⟩
        rw [hp, List.getElem?_append_right (Nat.le_refl _), Nat.sub_self]
        rw [List.getElem?_replicate, if_pos (by omega)]
      · refine ⟨?_, by omega⟩
        rw [hp, List.getElem?_append_left (List.getElem?_eq_some_iff.mp q).1]
        exact q
    · rw [hp]
      exact h.laid.more _
    · rw [hp] at hx
      rcases List.mem_append.mp hx with q | q
      · exact h.nums x q
      · rw [List.eq_of_mem_replicate q]
        decide
theorem Lays.at {z : Nat} {N : List Int} {L : List (Nat × List Int)} (h : Lays z N L) {j a : Nat} {t : List Int} (e : L[j]? = some (a, t)) : N[a]? = some (t.length : Int) := by
  obtain ⟨h1, h2, h3⟩ := h.item j a t e
  have e1 : ((N.drop a).take (t.length + 3))[0]? = (laidN (j : Nat) t)[0]? := by rw [h2]
  rw [List.getElem?_take_of_lt (by omega), List.getElem?_drop, Nat.add_zero] at e1
  exact e1
theorem Lays.S_at {z : Nat} {N : List Int} {L : List (Nat × List Int)} (h : Lays z N L) {i j : Nat} {x y : Nat} (hij : i ≤ j) (e : (L.map (·.1))[i]? = some x) (e' : (L.map (·.1))[j]? = some y) : x ≤ y := by
  rcases Nat.lt_or_eq_of_le hij with q | q
  · have hi := (List.getElem?_eq_some_iff.mp e)
    have hj := (List.getElem?_eq_some_iff.mp e')
    obtain ⟨hi1, hi2⟩ := hi
    obtain ⟨hj1, hj2⟩ := hj
    rw [← hi2, ← hj2]
    exact List.pairwise_iff_getElem.mp h.laid.asc i j hi1 hj1 q
  · subst q
    rw [e] at e'
    cases e'
    exact Nat.le_refl _
theorem Lays.lt {z : Nat} {N : List Int} {L : List (Nat × List Int)} (h : Lays z N L) {j a a' : Nat} {t t' : List Int} (e : L[j]? = some (a, t)) (e' : L[j + 1]? = some (a', t')) : a < a' := by
  rcases h.next j a t a' t' e e' with q | ⟨_, q⟩
  · omega
  · have h1 := (h.item j a t e).1
    rcases Nat.eq_zero_or_pos z with hz | hz
    · subst hz
      have h2 : a ≤ a' := h.S_at (Nat.le_succ j) (by rw [List.getElem?_map, e]; rfl) (by rw [List.getElem?_map, e']; rfl)
      rcases Nat.lt_or_eq_of_le h2 with r | r
      · exact r
      · exfalso
        subst r
        have h3 := (h.item (j + 1) a t' e')
        have h4 := (h.item j a t e)
        have e1 : (laidN ((j : Nat) : Int) t)[0]? = (laidN ((j + 1 : Nat) : Int) t')[0]? := by
          rw [← h4.2.1, ← h3.2.1, List.getElem?_take_of_lt (by omega), List.getElem?_take_of_lt (by omega)]
        have e2 : (t.length : Int) = t'.length := Option.some.inj e1
        have e3 : laidN ((j : Nat) : Int) t = laidN ((j + 1 : Nat) : Int) t' := by
          rw [← h4.2.1, ← h3.2.1, show t.length = t'.length by omega]
        unfold laidN at e3
        injection e3 with _ e3
        injection e3 with e4 e3
        injection e3 with e5 e3
        rw [Int.fdiv_eq_ediv_of_nonneg _ (by omega), Int.fdiv_eq_ediv_of_nonneg _ (by omega)] at e4
        rw [Int.fmod_eq_emod_of_nonneg _ (by omega), Int.fmod_eq_emod_of_nonneg _ (by omega)] at e5
        omega
    · have h2 := div_hi hz (a + (t.length + 3))
      omega
theorem Lays.rise {z : Nat} {N : List Int} {L : List (Nat × List Int)} (h : Lays z N L) {j a : Nat} {t : List Int} (e : L[j]? = some (a, t)) : ∀ (k : Nat) (a' : Nat) (t' : List Int), L[j + 1 + k]? = some (a', t') → a < a'
  | 0, a', t', e' => h.lt e e'
  | k + 1, a', t', e' => by
    have hl := (List.getElem?_eq_some_iff.mp e').1
    have e1 : L[j + 1 + k]? = some (L[j + 1 + k]'(by omega)) := List.getElem?_eq_getElem (by omega)
    have h1 := h.rise e k _ _ e1
    have h2 := h.lt e1 e'
    omega
/-- no two begin at one place -/
theorem Lays.one {z : Nat} {N : List Int} {L : List (Nat × List Int)} (h : Lays z N L) {i j a : Nat} {t t' : List Int} (e : L[i]? = some (a, t)) (e' : L[j]? = some (a, t')) : i = j := by
  rcases Nat.lt_trichotomy i j with q | q | q
  · have := h.rise e (j - (i + 1)) a t' (by rw [show i + 1 + (j - (i + 1)) = j by omega]; exact e')
    omega
  · exact q
  · have := h.rise e' (i - (j + 1)) a t (by rw [show j + 1 + (i - (j + 1)) = i by omega]; exact e)
    omega
/-- from a start to the next one, within a frame -/
theorem Lays.step {z : Nat} {N : List Int} {L : List (Nat × List Int)} (h : Lays z N L) {c p j a : Nat} {t : List Int} (hz : 0 < z) (hc : c * z + z ≤ N.length) (e : L[j]? = some (a, t)) (ea : a = c * z + p) (hp : p < z) :
    (∃ a' t', L[j + 1]? = some (a', t') ∧ a' = c * z + (p + (3 + t.length))) ∨
    ((∀ i, j + 1 ≤ i → ∀ x, (L.map (·.1))[i]? = some x → c * z + z ≤ x) ∧ (z ≤ p + (3 + t.length) ∨ N[c * z + (p + (3 + t.length))]? = some 0)) := by
  have ee : a + (t.length + 3) = c * z + (p + (3 + t.length)) := by omega
  cases e1 : L[j + 1]? with
  | some x =>
    obtain ⟨a', t'⟩ := x
    rcases h.next j a t a' t' e e1 with q | ⟨q, r⟩
    · exact .inl ⟨a', t', rfl, by omega⟩
    · rw [ee] at q r
      refine .inr ⟨fun i hi x hx => ?_, ?_⟩
      · have h1 : a' ≤ x := h.S_at hi (by rw [List.getElem?_map, e1]; rfl) hx
        have h2 := div_lo z (c * z + (p + (3 + t.length)))
        have h3 := div_hi hz (c * z + (p + (3 + t.length)))
        by_cases h4 : p + (3 + t.length) < z
        · have : (c * z + (p + (3 + t.length))) / z = c := div_eq (by omega) (by omega)
          rw [this] at r
          omega
        · omega
      · exact .inr q
  | none =>
    refine .inr ⟨fun i hi x hx => ?_, ?_⟩
    · have h1 := (List.getElem?_eq_some_iff.mp hx).1
      have h2 := List.getElem?_eq_none_iff.mp e1
      rw [List.length_map] at h1
      omega
    · rcases h.last j a t e e1 with q | ⟨q, r⟩
      · rw [ee] at q
        exact .inl (by omega)
      · rw [ee] at q
        exact .inr q
theorem filter_take_all {p : Nat → Bool} : ∀ {S : List Nat} {j : Nat}, (∀ i, j ≤ i → ∀ x, S[i]? = some x → p x = false) → (S.take j).filter p = S.filter p
  | [], _, _ => by simp
  | x :: r, 0, h => by
    rw [List.take_zero, List.filter_nil]
    symm
    rw [List.filter_eq_nil_iff]
    intro y hy
    obtain ⟨i, hi, e⟩ := List.getElem_of_mem hy
    rw [h i (Nat.zero_le _) y (by rw [← e]; exact List.getElem?_eq_getElem hi)]
    simp
  | x :: r, j + 1, h => by
    have ih := filter_take_all (p := p) (S := r) (j := j) fun i hi y hy => h (i + 1) (by omega) y (by simpa using hy)
    rw [List.take_succ_cons, List.filter_cons, List.filter_cons, ih]
theorem filter_head {p : Nat → Bool} : ∀ {S : List Nat} {y : Nat}, (S.filter p).head? = some y → ∃ j, S[j]? = some y ∧ (S.take j).filter p = []
  | [], _, h => by simp at h
  | x :: r, y, h => by
    by_cases hp : p x = true
    · rw [List.filter_cons_of_pos hp] at h
      exact ⟨0, h, rfl⟩
    · rw [List.filter_cons_of_neg hp] at h
      obtain ⟨j, h1, h2⟩ := filter_head h
      refine ⟨j + 1, by simpa using h1, ?_⟩
      rw [List.take_succ_cons, List.filter_cons_of_neg hp]
      exact h2
theorem first_at {z c : Nat} {S : List Nat} {x : Nat} (h : firstOf z c S = some x) : ∃ j, S[j]? = some (c * z + x) ∧ (S.take j).filter (inFr z c) = [] ∧ x < z := by
  unfold firstOf at h
  rw [List.head?_map] at h
  cases e : (S.filter (inFr z c)).head? with
  | none => rw [e] at h; cases h
  | some y =>
    rw [e] at h
    have ex : y - c * z = x := Option.some.inj h
    obtain ⟨j, h1, h2⟩ := filter_head e
    have hm : y ∈ S.filter (inFr z c) := List.mem_of_head? e
    have hp := (List.mem_filter.mp hm).2
    unfold inFr at hp
    simp at hp
    exact ⟨j, by rw [h1, ← ex]; congr 1; omega, h2, by omega⟩
theorem first_no {z c : Nat} {S : List Nat} (h : firstOf z c S = none) : S.filter (inFr z c) = [] := by
  unfold firstOf at h
  rw [List.head?_map] at h
  cases e : S.filter (inFr z c) with
  | nil => rfl
  | cons x r => rw [e] at h; cases h
/-- which numbers of a telling lie in frames that there are -/
def covers (z : Nat) (cs : List Nat) (a n : Nat) : Bool := (List.range n).all fun k => decide ((a + k) / z ∈ cs)
def toldJ (z : Nat) (L : List (Nat × List Int)) (cs : List Nat) (j : Nat) : Bool := match L[j]? with
  | some x => covers z cs x.1 (x.2.length + 3)
  | none => false
def toldL (z : Nat) (L : List (Nat × List Int)) (cs : List Nat) : List Nat := (List.range L.length).filter (toldJ z L cs)
def gapD (lo hi : Nat) : PyData := .tuple [.str "gap", .int lo, .int hi]
def toldD (j : Nat) (t : List Int) : PyData := .tuple [.str "told", .int j, tlD t]
def textOf (L : List (Nat × List Int)) (j : Nat) : List Int := match L[j]? with
  | some x => x.2
  | none => []
def rowsD (L : List (Nat × List Int)) : Nat → List Nat → List PyData
  | _, [] => []
  | lo, j :: r => (if lo < j then [gapD lo (j - 1)] else []) ++ (toldD j (textOf L j) :: rowsD L (j + 1) r)
theorem rowsD_snoc (L : List (Nat × List Int)) : ∀ (js : List Nat) (lo j : Nat), rowsD L lo (js ++ [j]) = rowsD L lo js ++ rowsD L (js.foldl (fun _ x => x + 1) lo) [j]
  | [], lo, j => rfl
  | x :: r, lo, j => by
    rw [List.cons_append]
    show (if lo < x then [gapD lo (x - 1)] else []) ++ (toldD x (textOf L x) :: rowsD L (x + 1) (r ++ [j])) = _
    rw [rowsD_snoc L r (x + 1) j]
    show _ = ((if lo < x then [gapD lo (x - 1)] else []) ++ (toldD x (textOf L x) :: rowsD L (x + 1) r)) ++ _
    rw [List.append_assoc]
    rfl
theorem lo_snoc (js : List Nat) (lo j : Nat) : (js ++ [j]).foldl (fun _ x => x + 1) lo = j + 1 := by rw [List.foldl_append]; rfl
theorem covers_iff {z a n : Nat} {cs : List Nat} : covers z cs a n = true ↔ ∀ k, k < n → (a + k) / z ∈ cs := by
  unfold covers
  rw [List.all_eq_true]
  exact ⟨fun h k hk => of_decide_eq_true (h k (List.mem_range.mpr hk)), fun h k hk => decide_eq_true (h k (List.mem_range.mp hk))⟩
/-- by the frames from the first to the last of them -/
theorem covers_range {z a n : Nat} {cs : List Nat} (hz : 0 < z) (hn : 0 < n) : covers z cs a n = true ↔ ∀ c, a / z ≤ c → c ≤ (a + (n - 1)) / z → c ∈ cs := by
  rw [covers_iff]
  refine ⟨fun h c h1 h2 => ?_, fun h k hk => h _ (Nat.div_le_div_right (by omega)) (Nat.div_le_div_right (by omega))⟩
  by_cases h3 : c * z ≤ a
  · have e : a / z = c := by
      have := (Nat.le_div_iff_mul_le hz).mpr h3
      omega
    have := h 0 hn
    rw [Nat.add_zero, e] at this
    exact this
  · have h4 : c * z ≤ a + (n - 1) := (Nat.le_div_iff_mul_le hz).mp h2
    have := h (c * z - a) (by omega)
    rw [show a + (c * z - a) = c * z by omega, Nat.mul_div_cancel _ hz] at this
    exact this
/-- two rising lists without equal ones that hold the same are one -/
theorem rising_same : ∀ {xs ys : List Int}, xs.Pairwise (· < ·) → ys.Pairwise (· < ·) → (∀ x, x ∈ xs ↔ x ∈ ys) → xs = ys
  | [], [], _, _, _ => rfl
  | [], y :: r, _, _, h => absurd ((h y).mpr (List.mem_cons_self ..)) (by simp)
  | x :: r, [], _, _, h => absurd ((h x).mp (List.mem_cons_self ..)) (by simp)
  | x :: xs, y :: ys, hx, hy, h => by
    have hx' := List.pairwise_cons.mp hx
    have hy' := List.pairwise_cons.mp hy
    have e : x = y := by
      rcases List.mem_cons.mp ((h x).mp (List.mem_cons_self ..)) with q | q
      · exact q
      · rcases List.mem_cons.mp ((h y).mpr (List.mem_cons_self ..)) with q' | q'
        · exact q'.symm
        · have := hy'.1 x q
          have := hx'.1 y q'
          omega
    subst e
    congr 1
    refine rising_same hx'.2 hy'.2 fun u => ⟨fun hu => ?_, fun hu => ?_⟩
    · rcases List.mem_cons.mp ((h u).mp (List.mem_cons_of_mem _ hu)) with q | q
      · have := hx'.1 u hu
        omega
      · exact q
    · rcases List.mem_cons.mp ((h u).mpr (List.mem_cons_of_mem _ hu)) with q | q
      · have := hy'.1 u hu
        omega
      · exact q
/-- all of a list of tellings -/
def lays1 (x : List Int × List (Nat × List Int)) (t : List Int) : List Int × List (Nat × List Int) := (x.1 ++ laidN (x.2.length : Nat) t, x.2 ++ [(x.1.length, t)])
def laysAll (ts : List (List Int)) : List Int × List (Nat × List Int) := ts.foldl lays1 ([], [])
theorem laysAll_take {ts : List (List Int)} {i : Nat} {t : List Int} (h : ts[i]? = some t) : laysAll (ts.take (i + 1)) = lays1 (laysAll (ts.take i)) t := by
  rw [List.take_add_one, h]
  show laysAll (ts.take i ++ [t]) = _
  unfold laysAll
  rw [List.foldl_append]
  rfl
theorem laysAll_lay (ts : List (List Int)) : layAll ts = ((laysAll ts).1, (laysAll ts).2.map (·.1)) := by
  unfold layAll laysAll
  suffices g : ∀ (ts : List (List Int)) (x : List Int × List (Nat × List Int)), ts.foldl lay1 (x.1, x.2.map (·.1)) = ((ts.foldl lays1 x).1, (ts.foldl lays1 x).2.map (·.1)) from g ts ([], [])
  intro ts
  induction ts with
  | nil => intro x; rfl
  | cons t r ih =>
    intro x
    rw [List.foldl_cons, List.foldl_cons, ← ih]
    congr 1
    unfold lay1 lays1
    rw [List.map_append, List.length_map]
    rfl
theorem laysAll_texts (ts : List (List Int)) : (laysAll ts).2.map (·.2) = ts := by
  unfold laysAll
  suffices g : ∀ (ts : List (List Int)) (x : List Int × List (Nat × List Int)), (ts.foldl lays1 x).2.map (·.2) = x.2.map (·.2) ++ ts from g ts ([], [])
  intro ts
  induction ts with
  | nil => intro x; simp
  | cons t r ih =>
    intro x
    rw [List.foldl_cons, ih]
    unfold lays1
    rw [List.map_append, List.append_assoc]
    rfl
theorem laysAll_len (ts : List (List Int)) : (laysAll ts).2.length = ts.length := by
  have := congrArg List.length (laysAll_texts ts)
  rw [List.length_map] at this
  exact this
theorem laysAll_ok {z : Nat} {ts : List (List Int)} (ok : ∀ t ∈ ts, tellOk t) (few : ts.length ≤ 65536) : Lays z (laysAll ts).1 (laysAll ts).2 := by
  suffices g : ∀ i, i ≤ ts.length → Lays z (laysAll (ts.take i)).1 (laysAll (ts.take i)).2 by
    have := g ts.length (Nat.le_refl _)
    rw [List.take_length] at this
    exact this
  intro i
  induction i with
  | zero => intro _; rw [List.take_zero]; exact Lays.nil z
  | succ i ih =>
    intro hi
    have ht : ts[i]? = some ts[i] := List.getElem?_eq_getElem (by omega)
    rw [laysAll_take ht]
    exact (ih (by omega)).lay (ok _ (List.getElem_mem _)) (by rw [laysAll_len, List.length_take]; omega)
theorem rows_len' (L : List (Nat × List Int)) : ∀ (js : List Nat) (lo : Nat), (rowsD L lo js).length ≤ 2 * js.length
  | [], _ => Nat.le_refl _
  | j :: r, lo => by
    have ih := rows_len' L r (j + 1)
    show ((if lo < j then [gapD lo (j - 1)] else []) ++ (toldD j (textOf L j) :: rowsD L (j + 1) r)).length ≤ _
    rw [List.length_append, List.length_cons, List.length_cons]
    split
    · rw [List.length_singleton]; omega
    · rw [List.length_nil]; omega
/-! ### rows as data -/
def isTold : PyData → Bool
  | .tuple (.str x :: _) => decide (x = ("told" : Str))
  | _ => false
theorem gap_told : ¬ (("gap" : Str) = "told") := by decide +kernel
theorem isTold_told (j : Nat) (t : List Int) : isTold (toldD j t) = true := by
  show decide (("told" : Str) = "told") = true
  exact decide_eq_true rfl
theorem isTold_gap (lo hi : Nat) : isTold (gapD lo hi) = false := by
  show decide (("gap" : Str) = "told") = false
  exact decide_eq_false gap_told
theorem rows_mem {L : List (Nat × List Int)} : ∀ {js : List Nat} {lo : Nat} {d : PyData}, d ∈ rowsD L lo js → (∃ a b, d = gapD a b) ∨ ∃ j ∈ js, d = toldD j (textOf L j)
  | [], _, _, h => by cases h
  | j :: r, lo, d, h => by
    have h' : d ∈ (if lo < j then [gapD lo (j - 1)] else []) ++ (toldD j (textOf L j) :: rowsD L (j + 1) r) := h
    rcases List.mem_append.mp h' with q | q
    · split at q
      · exact .inl ⟨_, _, List.mem_singleton.mp q⟩
      · cases q
    · rcases List.mem_cons.mp q with q | q
      · exact .inr ⟨j, List.mem_cons_self .., q⟩
      · rcases rows_mem q with q | ⟨k, hk, e⟩
        · exact .inl q
        · exact .inr ⟨k, List.mem_cons_of_mem _ hk, e⟩
theorem told_mem {L : List (Nat × List Int)} : ∀ {js : List Nat} {lo j : Nat}, j ∈ js → toldD j (textOf L j) ∈ rowsD L lo js
  | [], _, _, h => by cases h
  | i :: r, lo, j, h => by
    show _ ∈ (if lo < i then [gapD lo (i - 1)] else []) ++ (toldD i (textOf L i) :: rowsD L (i + 1) r)
    refine List.mem_append_right _ ?_
    rcases List.mem_cons.mp h with q | q
    · rw [q]; exact List.mem_cons_self ..
    · exact List.mem_cons_of_mem _ (told_mem q)
theorem rows_all (L : List (Nat × List Int)) : ∀ (n lo : Nat), rowsD L lo (List.range' lo n) = (List.range' lo n).map fun k => toldD k (textOf L k)
  | 0, lo => rfl
  | n + 1, lo => by
    rw [List.range'_succ]
    show (if lo < lo then [gapD lo (lo - 1)] else []) ++ (toldD lo (textOf L lo) :: rowsD L (lo + 1) (List.range' (lo + 1) n)) = _
    rw [if_neg (Nat.lt_irrefl _), List.nil_append, rows_all L n (lo + 1)]
    rfl
theorem rows_range (L : List (Nat × List Int)) (n : Nat) : rowsD L 0 (List.range n) = (List.range n).map fun k => toldD k (textOf L k) := by
  rw [List.range_eq_range']
  exact rows_all L n 0
theorem toldL_congr {z : Nat} {L : List (Nat × List Int)} {cs cs' : List Nat} (h : ∀ c, c ∈ cs ↔ c ∈ cs') : toldL z L cs = toldL z L cs' := by
  unfold toldL
  congr 1
  funext j
  unfold toldJ
  cases L[j]? with
  | none => rfl
  | some x =>
    show covers z cs _ _ = covers z cs' _ _
    rw [Bool.eq_iff_iff, covers_iff, covers_iff]
    exact ⟨fun g k hk => (h _).mp (g k hk), fun g k hk => (h _).mpr (g k hk)⟩
theorem toldL_mono {z : Nat} {L : List (Nat × List Int)} {cs cs' : List Nat} (h : ∀ c, c ∈ cs → c ∈ cs') {j : Nat} (hj : j ∈ toldL z L cs) : j ∈ toldL z L cs' := by
  unfold toldL at hj ⊢
  rw [List.mem_filter] at hj ⊢
  refine ⟨hj.1, ?_⟩
  have := hj.2
  unfold toldJ at this ⊢
  cases e : L[j]? with
  | none => rw [e] at this; cases this
  | some x =>
    rw [e] at this
    exact covers_iff.mpr fun k hk => h _ (covers_iff.mp this k hk)
/-- all frames that there are tell all -/
theorem toldL_all {z : Nat} {N : List Int} {L : List (Nat × List Int)} (h : Lays z N L) (hz : 0 < z) (full : N.length % z = 0) : toldL z L (List.range (N.length / z)) = List.range L.length := by
  unfold toldL
  rw [List.filter_eq_self]
  intro j hj
  have hj' := List.mem_range.mp hj
  unfold toldJ
  rw [List.getElem?_eq_getElem hj']
  refine covers_iff.mpr fun k hk => List.mem_range.mpr ?_
  have h1 := (h.item j L[j].1 L[j].2 (List.getElem?_eq_getElem hj')).1
  have h2 := div_mod z N.length
  rw [Nat.div_lt_iff_lt_mul hz]
  omega
theorem pad_full {z : Nat} (hz : 0 < z) (N : List Int) : (padN z N).length % z = 0 := by
  rw [padN_length hz]
  split
  · assumption
  · rw [Nat.add_mod_right, Nat.mul_mod_left]
theorem Lay.strT : Lay 0 (.str "told") := ⟨by decide +kernel, by simp [PyData.depth]⟩
theorem Lay.strG : Lay 0 (.str "gap") := ⟨by decide +kernel, by simp [PyData.depth]⟩
theorem lay_told (j : Nat) (t : List Int) : Lay 2 (toldD j t) := by
  have h := Lay.tuple (f := fun d : PyData => d) (k := 1) (xs := [.str "told", .int (j : Nat), tlD t]) (by
    intro x hx
    simp only [List.mem_cons, List.not_mem_nil, or_false] at hx
    rcases hx with rfl | rfl | rfl
    · exact Lay.strT.mono (by decide)
    · exact (Lay.int _).mono (by decide)
    · exact Lay.tl _)
  rw [List.map_id'] at h
  exact h
theorem lay_gap (a b : Nat) : Lay 2 (gapD a b) := by
  have h := Lay.tuple (f := fun d : PyData => d) (k := 1) (xs := [.str "gap", .int (a : Nat), .int (b : Nat)]) (by
    intro x hx
    simp only [List.mem_cons, List.not_mem_nil, or_false] at hx
    rcases hx with rfl | rfl | rfl
    · exact Lay.strG.mono (by decide)
    · exact (Lay.int _).mono (by decide)
    · exact (Lay.int _).mono (by decide))
  rw [List.map_id'] at h
  exact h
theorem Lay.of_list {k : Nat} {ds : List PyData} (h : ∀ d ∈ ds, Lay k d) : Lay (k + 1) (.list ds) := by
  have := Lay.list (f := fun d : PyData => d) (xs := ds) h
  rw [List.map_id'] at this
  exact this
theorem lay_rows (L : List (Nat × List Int)) (js : List Nat) (lo : Nat) : Lay 3 (.list (rowsD L lo js)) := Lay.of_list fun d hd => by
  rcases rows_mem hd with ⟨a, b, rfl⟩ | ⟨j, _, rfl⟩
  · exact lay_gap a b
  · exact lay_told j _
theorem dok_told (j : Nat) {t : List Int} (h : t.length ≤ 10000000) : DOk 2 (toldD j t) := DOk.tuple (show 3 ≤ 10000000 by decide) fun e he => by
  simp only [List.mem_cons, List.not_mem_nil, or_false] at he
  rcases he with rfl | rfl | rfl
  · exact .sc (.inr (.inr (.inr ⟨_, rfl⟩)))
  · exact DOk.int _
  · exact DOk.tl h
theorem dok_gap (a b : Nat) : DOk 2 (gapD a b) := DOk.tuple (show 3 ≤ 10000000 by decide) fun e he => by
  simp only [List.mem_cons, List.not_mem_nil, or_false] at he
  rcases he with rfl | rfl | rfl
  · exact .sc (.inr (.inr (.inr ⟨_, rfl⟩)))
  · exact DOk.int _
  · exact DOk.int _
theorem dok_rows {L : List (Nat × List Int)} {js : List Nat} {lo : Nat} (h : js.length ≤ 1000000) (hL : ∀ x ∈ L, x.2.length ≤ 1000) : DOk 3 (.list (rowsD L lo js)) := by
  refine DOk.list (by have := rows_len' L js lo; omega) fun d hd => ?_
  rcases rows_mem hd with ⟨a, b, rfl⟩ | ⟨j, _, rfl⟩
  · exact dok_gap a b
  · refine dok_told j ?_
    unfold textOf
    cases e : L[j]? with
    | none => exact Nat.zero_le _
    | some x => exact Nat.le_trans (hL x (List.mem_of_getElem? e)) (by decide)
theorem TDs.erase {H : Hp} : ∀ {vs : List V} {ds : List PyData} (k : Nat), TDs H vs ds → TDs H (vs.eraseIdx k) (ds.eraseIdx k)
  | _, _, _, .nil => .nil
  | _, _, 0, .cons _ t => t
  | _, _, k + 1, .cons h t => .cons h (TDs.erase k t)
theorem erase_map {α β : Type} (f : α → β) : ∀ (xs : List α) (k : Nat), (xs.map f).eraseIdx k = (xs.eraseIdx k).map f
  | [], _ => rfl
  | _ :: _, 0 => rfl
  | x :: xs, k + 1 => by
    show f x :: (xs.map f).eraseIdx k = f x :: (xs.eraseIdx k).map f
    rw [erase_map f xs k]
theorem perm_erase {α : Type} : ∀ {xs : List α} {k : Nat} {x : α}, xs[k]? = some x → (x :: xs.eraseIdx k).Perm xs
  | [], _, _, h => by simp at h
  | y :: ys, 0, x, h => by
    have e : y = x := Option.some.inj h
    rw [e]
    exact List.Perm.refl _
  | y :: ys, k + 1, x, h => by
    have ih := perm_erase (xs := ys) (k := k) (x := x) (by simpa using h)
    exact (List.Perm.swap y x _).trans (ih.cons y)
theorem rising_of {ys ks : List Int} (hp : ys.Perm ks) (hs : ys.Pairwise (· ≤ ·)) (nd : ks.Nodup) : ys.Pairwise (· < ·) := by
  have h1 : ys.Nodup := hp.nodup_iff.mpr nd
  refine List.Pairwise.imp₂ (fun a b h1 h2 => ?_) hs h1
  omega
end Sky

/-! Frames of the first tellings; what gaps are; runs of frames. -/
namespace Sky
open PySem PySem.Spec PyProof.Rows L2
theorem lays_more' : ∀ (ss : List (List Int)) (x : List Int × List (Nat × List Int)), ∃ xs M, (ss.foldl lays1 x).1 = x.1 ++ xs ∧ (ss.foldl lays1 x).2.map (·.1) = x.2.map (·.1) ++ M ∧ ∀ s ∈ M, x.1.length ≤ s
  | [], x => ⟨[], [], by simp, by simp, by simp⟩
  | t :: r, x => by
    obtain ⟨xs, M, h1, h2, h3⟩ := lays_more' r (lays1 x t)
    refine ⟨laidN (x.2.length : Nat) t ++ xs, x.1.length :: M, ?_, ?_, ?_⟩
    · show (r.foldl lays1 (lays1 x t)).1 = _
      rw [h1, ← List.append_assoc]
      rfl
    · show (r.foldl lays1 (lays1 x t)).2.map (·.1) = _
      rw [h2]
      show (x.2 ++ [(x.1.length, t)]).map (·.1) ++ M = _
      rw [List.map_append, List.append_assoc]
      rfl
    · intro s hs
      rcases List.mem_cons.mp hs with e | e
      · omega
      · have := h3 s e
        have e2 : (lays1 x t).1.length = x.1.length + (t.length + 3) := by
          show (x.1 ++ laidN _ t).length = _
          rw [List.length_append, laidN_length]
        omega
theorem lays_more (ts ss : List (List Int)) : ∃ xs M, (laysAll (ts ++ ss)).1 = (laysAll ts).1 ++ xs ∧ (laysAll (ts ++ ss)).2.map (·.1) = (laysAll ts).2.map (·.1) ++ M ∧ ∀ s ∈ M, (laysAll ts).1.length ≤ s := by
  have := lays_more' ss (laysAll ts)
  unfold laysAll at *
  rw [List.foldl_append]
  exact this
theorem pad_app (z : Nat) (N : List Int) : ∃ p, padN z N = N ++ p := by
  unfold padN
  split
  · exact ⟨[], by simp⟩
  · exact ⟨_, rfl⟩
theorem firstOf_more {z c : Nat} (S M : List Nat) : firstOf z c (S ++ M) = (firstOf z c S).or (firstOf z c M) := by
  unfold firstOf
  rw [List.filter_append, List.map_append, List.head?_append]
theorem firstOf_late {z c : Nat} {M : List Nat} (h : ∀ s ∈ M, c * z + z ≤ s) : firstOf z c M = none := by
  unfold firstOf
  have e : M.filter (inFr z c) = [] := by
    rw [List.filter_eq_nil_iff]
    intro s hs
    have := h s hs
    unfold inFr
    simp
    omega
  rw [e]
  rfl
/-- the frames of the first tellings, but the last of them, are frames of all -/
theorem frm_first {z c : Nat} {N N' xs : List Int} {S M : List Nat} (hc : c * z + z ≤ N.length) (e : N' = N ++ xs) (hM : ∀ s ∈ M, N.length ≤ s) :
    frm z (padN z N) S c = frm z (padN z N') (S ++ M) c := by
  obtain ⟨p, e1⟩ := pad_app z N
  obtain ⟨p', e2⟩ := pad_app z N'
  rw [e1, e2, e, List.append_assoc, frm_more hc, frm_more hc]
  unfold frm
  rw [firstOf_more, firstOf_late (M := M) (fun s hs => by have := hM s hs; omega), Option.or_none]
theorem first_first {z c x : Nat} {S M : List Nat} (h : firstOf z c S = some x) : firstOf z c (S ++ M) = some x := by
  rw [firstOf_more, h]
  rfl
theorem count_le {z a b na nb : Nat} (hz : 0 < z) (hab : a ≤ b) (h1 : na * z < a + z) (h2 : b ≤ nb * z) : na ≤ nb := by
  have h3 : na * z < (nb + 1) * z := by rw [Nat.succ_mul]; omega
  have := Nat.lt_of_mul_lt_mul_right h3
  omega
/-! ### gaps -/
inductive Gaps : Nat → List PyData → Prop
  | nil (lo : Nat) : Gaps lo []
  | gap {lo hi : Nat} {d : PyData} {r : List PyData} : lo ≤ hi → Gaps (hi + 1) (d :: r) → Gaps lo (gapD lo hi :: d :: r)
  | told {j : Nat} {t : List Int} {r : List PyData} : Gaps (j + 1) r → Gaps j (toldD j t :: r)
theorem gaps_rows (L : List (Nat × List Int)) : ∀ (js : List Nat) (lo : Nat), js.Pairwise (· < ·) → (∀ j ∈ js, lo ≤ j) → Gaps lo (rowsD L lo js)
  | [], lo, _, _ => .nil lo
  | j :: r, lo, p, h => by
    have hj := h j (List.mem_cons_self)
    have ih := gaps_rows L r (j + 1) (List.pairwise_cons.mp p).2 fun k hk => (List.pairwise_cons.mp p).1 k hk
    show Gaps lo ((if lo < j then [gapD lo (j - 1)] else []) ++ (toldD j (textOf L j) :: rowsD L (j + 1) r))
    by_cases e : lo < j
    · rw [if_pos e]
      refine Gaps.gap (by omega) ?_
      rw [show j - 1 + 1 = j by omega]
      exact .told ih
    · rw [if_neg e]
      have e2 : lo = j := by omega
      rw [e2]
      exact .told ih
theorem gaps_told (z : Nat) (L : List (Nat × List Int)) (cs : List Nat) : Gaps 0 (rowsD L 0 (toldL z L cs)) :=
  gaps_rows L _ 0 (List.Pairwise.filter _ List.pairwise_lt_range) fun _ _ => Nat.zero_le _
theorem gaps_last : ∀ {lo : Nat} {ds : List PyData}, Gaps lo ds → ds ≠ [] → ∃ j t, ds.getLast? = some (toldD j t)
  | _, _, .nil _, h => absurd rfl h
  | _, _, .gap _ g, _ => by
    obtain ⟨j, t, e⟩ := gaps_last g (by simp)
    exact ⟨j, t, by rw [List.getLast?_cons_cons]; exact e⟩
  | _, _, .told (r := []) g, _ => ⟨_, _, rfl⟩
  | _, _, .told (r := d :: r) g, _ => by
    obtain ⟨j, t, e⟩ := gaps_last g (by simp)
    exact ⟨j, t, by rw [List.getLast?_cons_cons]; exact e⟩
/-! ### the first frames tell the first tellings -/
theorem filter_down {p : Nat → Bool} : ∀ n : Nat, (∀ i j, i ≤ j → j < n → p j = true → p i = true) → (List.range n).filter p = List.range ((List.range n).filter p).length
  | 0, _ => rfl
  | n + 1, h => by
    rw [List.range_succ, List.filter_append]
    by_cases e : p n = true
    · have e1 : (List.range n).filter p = List.range n := List.filter_eq_self.mpr fun i hi => h i n (Nat.le_of_lt (List.mem_range.mp hi)) (by omega) e
      rw [e1, List.filter_cons_of_pos e, List.filter_nil, List.length_append, List.length_range, ← List.range_succ]
      rfl
    · rw [List.filter_cons_of_neg e, List.filter_nil, List.append_nil]
      exact filter_down n fun i j h1 h2 => h i j h1 (by omega)
theorem told_down {z : Nat} {N : List Int} {L : List (Nat × List Int)} (hz : 0 < z) (h : Lays z N L) {low i j : Nat} (hij : i ≤ j) (hj : toldJ z L (List.range low) j = true) : toldJ z L (List.range low) i = true := by
  rcases Nat.eq_or_lt_of_le hij with e | e
  · rw [e]; exact hj
  unfold toldJ at hj ⊢
  cases ej : L[j]? with
  | none => rw [ej] at hj; cases hj
  | some x =>
    rw [ej] at hj
    have hjl := (List.getElem?_eq_some_iff.mp ej).1
    have hil : i < L.length := by omega
    have hi1 : i + 1 < L.length := by omega
    have ei := List.getElem?_eq_getElem hil
    have ei1 := List.getElem?_eq_getElem hi1
    rw [ei]
    have h1 := covers_iff.mp hj 0 (by omega)
    have h2 : L[i].1 + (L[i].2.length + 3) ≤ L[i + 1].1 := by
      rcases h.next i _ _ _ _ (by rw [ei]) (by rw [ei1]) with e | ⟨_, e⟩
      · omega
      · have := div_hi hz (L[i].1 + (L[i].2.length + 3))
        omega
    have h3 : L[i + 1].1 ≤ x.1 := h.S_at (show i + 1 ≤ j by omega) (by rw [List.getElem?_map, ei1]; rfl) (by rw [List.getElem?_map, ej]; rfl)
    refine covers_iff.mpr fun k hk => List.mem_range.mpr ?_
    have h4 := List.mem_range.mp h1
    exact Nat.lt_of_le_of_lt (Nat.div_le_div_right (by omega)) h4
theorem told_first {z : Nat} {N : List Int} {L : List (Nat × List Int)} (hz : 0 < z) (h : Lays z N L) (low : Nat) : toldL z L (List.range low) = List.range (toldL z L (List.range low)).length :=
  filter_down _ fun i j hij _ hj => told_down hz h hij hj
/-- apart -/
theorem told_apart {z : Nat} {L : List (Nat × List Int)} {cs cs' : List Nat} (h : ∀ c, c ∈ cs → c ∉ cs') {j : Nat} (hj : j ∈ toldL z L cs) (hj' : j ∈ toldL z L cs') : False := by
  have h1 := (List.mem_filter.mp hj).2
  have h2 := (List.mem_filter.mp hj').2
  unfold toldJ at h1 h2
  cases e : L[j]? with
  | none => rw [e] at h1; cases h1
  | some x =>
    rw [e] at h1 h2
    exact h _ (covers_iff.mp h1 0 (by omega)) (covers_iff.mp h2 0 (by omega))
theorem eqv_gap_told (a b j : Nat) (t : List Int) : PyData.eqv (gapD a b) (toldD j t) = false := by
  have e : (("gap" : Str) == "told") = false := by decide +kernel
  unfold gapD toldD
  simp [PyData.eqv, PyData.eqvAll, e]
theorem eqv_told_told {i j : Nat} (h : i ≠ j) (t u : List Int) : PyData.eqv (toldD i u) (toldD j t) = false := by
  have e : (((i : Nat) : Int) == ((j : Nat) : Int)) = false := by
    rw [beq_eq_false_iff_ne]
    omega
  unfold toldD
  simp only [PyData.eqv, PyData.eqvAll, e, Bool.false_and, Bool.and_false]
theorem rows_apart {z : Nat} {L : List (Nat × List Int)} {cs cs' : List Nat} (h : ∀ c, c ∈ cs → c ∉ cs') {j : Nat} (hj : j ∈ toldL z L cs) : ((rowsD L 0 (toldL z L cs')).any fun w => PyData.eqv w (toldD j (textOf L j))) = false := by
  rw [List.any_eq_false]
  intro w hw
  rcases rows_mem hw with ⟨a, b, rfl⟩ | ⟨k, hk, rfl⟩
  · rw [eqv_gap_told]; decide
  · rw [eqv_told_told (fun e => told_apart h hj (by rw [← e]; exact hk))]; decide
theorem TDs.drop {H : Hp} : ∀ {vs : List V} {ds : List PyData} (k : Nat), TDs H vs ds → TDs H (vs.drop k) (ds.drop k)
  | _, _, 0, h => h
  | _, _, _ + 1, .nil => .nil
  | _, _, k + 1, .cons _ t => TDs.drop k t
theorem TDs.take {H : Hp} : ∀ {vs : List V} {ds : List PyData} (k : Nat), TDs H vs ds → TDs H (vs.take k) (ds.take k)
  | _, _, 0, _ => .nil
  | _, _, _ + 1, .nil => .nil
  | _, _, k + 1, .cons h t => .cons h (TDs.take k t)
end Sky

/-! Rules of my own: a dict comprehension over a list, stored in a name; sorted of a dict with any number of ints for keys. -/
namespace Sky
open PySem PySem.Spec PyProof.Rows L2
section
variable {K : PySem.W.Frag}
/-- a dict comprehension's turns over a list that stands still -/
theorem dc_list {l : Addr} {ys : List V} {g : TG} {tt : TT} {tk tv : TE} {ws : List Nat} {τ : L2.St} {G : Hp} {dd : Addr} {fin : Hp → Prop} (Pv : Nat → Hp → Prop)
    (start : Pv 0 (upd G dd (.dK []))) (stays : ∀ i H, i ≤ ys.length → Pv i H → SqL K H l ys)
    (turn : ∀ i x H, ys[i]? = some x → Pv i H → g x (wipe τ ws) H fun σ2 H2 => wipe σ2 ws = wipe τ ws ∧ tt σ2 H2 fun b H3 =>
      if b = true then (tk σ2 H3 fun y H4 => tv σ2 H4 fun z H5 => ∃ kvs k, y = kV k ∧ H5 dd = some (.dK kvs) ∧ kvs.length < sizeLine ∧ Pv (i + 1) (upd H5 dd (.dK (putK kvs k z))))
      else Pv (i + 1) H3)
    (last : ∀ H, Pv ys.length H → fin H) :
    ∃ W : Nat → Nat → Hp → Prop, (∃ m, W 0 m (upd G dd (.dK []))) ∧ ∀ i m H, W i m H →
      ((Itl K l).stop i H ∧ fin H) ∨ ((Itl K l).go i H ∧ ∃ Nx : Hp → Prop, (∀ H', Nx H' → ∃ m', m' < m ∧ W (i + 1) m' H') ∧
        ∀ x H', (Itl K l).yld i H x H' → g x (wipe τ ws) H' fun σ2 H2 => wipe σ2 ws = wipe τ ws ∧ tt σ2 H2 fun b H3 =>
          if b = true then (tk σ2 H3 fun y H4 => tv σ2 H4 fun z H5 => ∃ kvs k, y = kV k ∧ H5 dd = some (.dK kvs) ∧ kvs.length < sizeLine ∧ Nx (upd H5 dd (.dK (putK kvs k z)))) else Nx H3) := by
  refine ⟨fun i m H => i ≤ ys.length ∧ m = ys.length - i ∧ Pv i H, ⟨ys.length, Nat.zero_le _, (Nat.sub_zero _).symm, start⟩, ?_⟩
  rintro i m H ⟨le, rfl, hv⟩
  have there := stays i H le hv
  by_cases lt : i < ys.length
  · refine .inr ⟨⟨ys, ys[i], there, List.getElem?_eq_getElem lt⟩, Pv (i + 1), fun H' w => ⟨ys.length - (i + 1), by omega, lt, rfl, w⟩, ?_⟩
    rintro x H' ⟨e, hy⟩
    subst e
    exact turn i x _ (hy ys there) hv
  · have e : i = ys.length := by omega
    subst e
    exact .inl ⟨⟨ys, there, Nat.le_refl _⟩, last H hv⟩
/-- enumerate(ys): each turn a new pair -/
theorem for_enum {l : Addr} {ys : List V} {g : TG} {tb : L2.TS} {D : Ends} {τ : L2.St} {G : Hp} (Pv : Nat → L2.St → Hp → Prop) (start : Pv 0 τ G) (stays : ∀ i σ H, i ≤ ys.length → Pv i σ H → SqL K H l ys)
    (turn : ∀ i x σ H T, ys[i]? = some x → Pv i σ H → H T = none → g (.ref T) σ (upd H T (.tup [.int (i : Nat), x])) fun σ2 H2 => tb { D with nx := Pv (i + 1), ct := Pv (i + 1), bk := D.nx } σ2 H2)
    (last : ∀ σ H, Pv ys.length σ H → D.nx σ H) :
    ∃ W : Nat → Nat → L2.St → Hp → Prop, (∃ m, W 0 m τ G) ∧ ∀ i m σ H, W i m σ H →
      ((Ite K l).stop i H ∧ D.nx σ H) ∨ ((Ite K l).go i H ∧ ∃ N : L2.St → Hp → Prop, (∀ σ' H', N σ' H' → ∃ m', m' < m ∧ W (i + 1) m' σ' H') ∧
        ∀ x H', (Ite K l).yld i H x H' → g x σ H' fun σ2 H2 => tb { D with nx := N, ct := N, bk := D.nx } σ2 H2) := by
  refine ⟨fun i m σ H => i ≤ ys.length ∧ m = ys.length - i ∧ Pv i σ H, ⟨ys.length, Nat.zero_le _, (Nat.sub_zero _).symm, start⟩, ?_⟩
  rintro i m σ H ⟨le, rfl, hv⟩
  have there := stays i σ H le hv
  by_cases lt : i < ys.length
  · refine .inr ⟨⟨ys, ys[i], there, List.getElem?_eq_getElem lt⟩, Pv (i + 1), fun σ' H' w => ⟨ys.length - (i + 1), by omega, lt, rfl, w⟩, ?_⟩
    rintro x H' ⟨T, y, rfl, hT, rfl, hy⟩
    exact turn i y σ H T (hy ys there) hv hT
  · have e : i = ys.length := by omega
    subst e
    exact .inl ⟨⟨ys, there, Nat.le_refl _⟩, last σ H hv⟩
/-! ### the keys of a dict -/
theorem len_of_sub {α : Type} [DecidableEq α] : ∀ {xs l : List α}, xs.Nodup → (∀ x ∈ xs, x ∈ l) → xs.length ≤ l.length
  | [], _, _, _ => Nat.zero_le _
  | x :: xs, l, nd, h => by
    have nd' := List.nodup_cons.mp nd
    have hx := h x (List.mem_cons_self ..)
    have ih := len_of_sub (l := l.erase x) nd'.2 fun y hy => (List.mem_erase_of_ne (fun e => nd'.1 (by rw [← e]; exact hy))).mpr (h y (List.mem_cons_of_mem _ hy))
    have h2 := List.length_erase_of_mem hx
    have h3 := List.length_pos_of_mem hx
    rw [List.length_cons]
    omega
theorem mem_keys {kvs : List (Key × V)} {k : Key} : k ∈ kvs.map (·.1) ↔ (valV kvs k).isSome = true := by
  rw [← valV_any, List.any_eq_true, List.mem_map]
  exact ⟨fun ⟨kv, hm, e⟩ => ⟨kv, hm, decide_eq_true e⟩, fun ⟨kv, hm, e⟩ => ⟨kv, hm, of_decide_eq_true e⟩⟩
theorem keys_put {kvs : List (Key × V)} {k : Key} {v : V} (nd : (kvs.map (·.1)).Nodup) : ((putK kvs k v).map (·.1)).Nodup := by
  cases e : valV kvs k with
  | none =>
    rw [L2.putK_new v e, List.map_append]
    refine List.nodup_append.mpr ⟨nd, by simp, fun a ha b hb => ?_⟩
    rw [List.mem_singleton.mp hb]
    intro q
    subst q
    have := mem_keys.mp ha
    rw [e] at this
    cases this
  | some x =>
    have h : (kvs.any fun kv => decide (kv.1 = k)) = true := by rw [valV_any, e]; rfl
    unfold putK
    rw [if_pos h, List.map_map]
    have : ((fun x : Key × V => x.1) ∘ fun kv : Key × V => if kv.1 = k then (kv.1, v) else kv) = fun x => x.1 := by
      funext kv
      show (if kv.1 = k then (kv.1, v) else kv).1 = kv.1
      split <;> rfl
    rw [this]
    exact nd
theorem keys_ints' : ∀ {kvs : List (Key × V)}, (∀ k ∈ kvs.map (·.1), ∃ i : Int, k = Sum.inl i) → ∃ ks : List Int, kvs.map (·.1) = ks.map Sum.inl
  | [], _ => ⟨[], rfl⟩
  | kv :: r, h => by
    obtain ⟨i, e⟩ := h kv.1 (by simp)
    obtain ⟨ks, e'⟩ := keys_ints' (kvs := r) fun k hk => h k (by rw [List.map_cons]; exact List.mem_cons_of_mem _ hk)
    exact ⟨i :: ks, by rw [List.map_cons, List.map_cons, e, e']⟩
end
section
variable {X : Cx}
theorem sw_trueD {kx vx : Expr} {gs : List Comprehension} {sc : Scope} {pos py : Pos} {y : Str} {l : Nat} {env : Env}
    (kind : env.scope.kind = .function) (isl : env.scope.names.lookup y = some .local) (line : (py.line == pos.line) = true)
    (free : (sc.names.any fun (n, k) => n == y && (k == .local || k == .cell)) = false) :
    swapsWith (.DictComp kx vx gs sc pos) (some (.Name y py)) l env = pure true := by
  have k1 : env.kindOf y = some .local := isl
  have k2 : env.blockKind = .function := by
    unfold Env.blockKind
    rw [kind]
    rfl
  unfold swapsWith
  simp only [k2, k1, free, Expr.pos, line]
  rfl
/-- name = {k: v for ..} on one line, the name a local -/
theorem ps_setDc {i : Nat} {y : Str} {py : Pos} {kx vx tg iter : Expr} {ifs : List Expr} {scope : Scope} {own : List (Str × Nat)} {pos spos : Pos} {wi : TI} {g : TG} {tt : TT} {tk tv : TE}
    (calm : X.calm = true) (hN : X.N.Nodup) (hy : X.N[i]? = some y) (loc : X.env.scope.names.lookup y = some .local)
    (sw : swapsWith (.DictComp kx vx [⟨tg, iter, ifs, 0⟩] scope pos) (some (.Name y py)) spos.line X.env = pure true)
    (hi : PI X tg iter wi) (ok : BlkOk X.N X.env.scope scope own)
    (hg : ∀ (s : Shared) (H : Hp) (C : Addr) (cl : List (Str × Addr)) (fp : List Addr), PG (X.blk s H scope (compEnvC scope cl C X.env) fp) tg g)
    (ht : ∀ (s : Shared) (H : Hp) (C : Addr) (cl : List (Str × Addr)) (fp : List Addr), PTs (X.blk s H scope (compEnvC scope cl C X.env) fp) ifs tt)
    (hk : ∀ (s : Shared) (H : Hp) (C : Addr) (cl : List (Str × Addr)) (fp : List Addr), PE (X.blk s H scope (compEnvC scope cl C X.env) fp) kx tk)
    (he : ∀ (s : Shared) (H : Hp) (C : Addr) (cl : List (Str × Addr)) (fp : List Addr), PE (X.blk s H scope (compEnvC scope cl C X.env) fp) vx tv)
    (hs : ∀ x, foldedSetIterable iter X.env x = pure x := by intro _; rfl) :
    PS X (.Assign [.Name y py] (.DictComp kx vx [⟨tg, iter, ifs, 0⟩] scope pos) spos) (tAsg (tDc wi g tt tk tv (own.map (·.2))) (gName i)) := by
  constructor
  intro pins s σ H D I h
  rw [exec_Assign_Name_used _ _ _ _ sw]
  apply wpAny_bind
  apply wpAny_standAt
  apply wpAny_bind
  have want : tDc wi g tt tk tv (own.map (·.2)) σ H (fun x H1 => gName i x σ H1 D.nx) := h
  show wpAny _ X.A (do
    let _ ← comprehension (.DictComp kx vx [⟨tg, iter, ifs, 0⟩] scope pos) scope X.env (firstIterPos [⟨tg, iter, ifs, 0⟩] pos) newDict false (eval iter X.env) (some (assign (.Name y py) X.env))) _ _ s
  apply wpAny_bind
  refine thn (dc_core (Qf := fun _ s' => SP X pins D .next s') calm hN I hi ok hg ht hk he hs want ?_) fun _ s' q => wpAny_pure (wpAny_pure q)
  intro L C s' m H' J q hn fp
  show wpAny _ _ (assign (.Name y py) X.env (.ref L)) _ _ _
  refine wpAny_assign_Name (store_ok2 (v := V.ref L) J hN hy (.inl loc) rfl ?_ (.inr loc))
  rintro s2 J2 ⟨a, sb, ha⟩
  obtain ⟨u0, u1, u2, u3, u4, u5⟩ := fp
  have apart : C ≠ a := by
    rcases ha with z | z
    · rw [z]
      exact u1
    · exact fun e => u4 y a z e.symm
  refine ⟨m, hn.sameBut sb apart, fun h3 sb3 => ⟨_, H', ?_, q⟩⟩
  exact J2.turned (t' := s2.toks) (fun b o hb e => (sb3.2 b hb).trans e) u0 u1 u3 u4 u5
theorem u65 {k : Nat} {A : Around} (r : Room k A) : A.units + 65 < cLine := by
  have := r.un
  omega
theorem op_notInDK {K : PySem.W.Frag} (h : X.K = K) (hu : X.A.units + 65 < cLine) : OpR X (compareOp .NotIn) (rNotInD K) := h ▸ op_notInD hu
theorem op_catTK {K : PySem.W.Frag} (h : X.K = K) : OpR X (binaryOp .Add) (rCatT K) := h ▸ op_catT
theorem op_inDK {K : PySem.W.Frag} (h : X.K = K) (hu : X.A.units + 65 < cLine) : OpR X (compareOp .In) (rInD K) := h ▸ op_inD hu
/-- sorted(d): the keys all ints, any number of them -/
def rSortDk : List V → Hp → VK → Prop := fun xs H Q => ∃ (a : Addr) (kvs : List (Key × V)) (ks : List Int), xs = [.ref a] ∧ H a = some (.dK kvs) ∧ kvs.map (·.1) = ks.map Sum.inl ∧
  ∀ (ys : List Int) (p : Addr), ys.Perm ks → ys.Pairwise (· ≤ ·) → H p = none → Q (.ref p) (upd H p (.lst (ys.map V.int)))
theorem keys_ints {P : Program} {w : World} : ∀ {vs : List (Key × Value)} {us : List Value} {ks : List Int}, vs.map (·.1) = ks.map Sum.inl → us.length = vs.length →
    (∀ (j : Nat) (v : Value), us[j]? = some v → ∃ k x, vs[j]? = some (k, x) ∧ (mixKind P w).is k v = true) → IntsAre us ks
  | [], [], [], _, _, _ => .nil
  | [], [], _ :: _, e, _, _ => by simp at e
  | _ :: _, _, [], e, _, _ => by simp at e
  | [], _ :: _, _, _, e, _ => by simp at e
  | _ :: _, [], _, _, e, _ => by simp at e
  | (k, x) :: vs, u :: us, n :: ks, e, l, h => by
    rw [List.map_cons, List.map_cons] at e
    injection e with e1 e2
    obtain ⟨k', x', a, b⟩ := h 0 u rfl
    have ek : (k, x) = (k', x') := Option.some.inj a
    injection ek with ek _
    subst ek
    have ek : k = Sum.inl n := e1
    subst ek
    rcases keyIs_shape (show keyIs (Sum.inl n) u = true from b) with ⟨i, t, q, eu⟩ | ⟨z, t, q, eu⟩
    · cases q
      subst eu
      exact .cons _ _ (keys_ints (P := P) (w := w) e2 (by simpa using l) fun j v hv => by
        obtain ⟨k2, x2, c, d⟩ := h (j + 1) v (by simpa using hv)
        exact ⟨k2, x2, by simpa using c, d⟩)
    · cases q
theorem call_sortedDk (calm : X.calm = true) : CallR X (.builtin "sorted") rSortDk := by
  intro pins s σ H xs us Q I r h
  obtain ⟨a, kvs, ks, rfl, hd, hks, fin⟩ := h
  obtain ⟨u, rfl, ru⟩ := vals1 r
  cases ru
  obtain ⟨small, lo, vs, rel, held⟩ := dk_rd I.hok (Rd.of hd)
  obtain ⟨ep, there⟩ := held.dictAt
  have keys : vs.map (·.1) = ks.map Sum.inl := rel.keys.symm.trans hks
  have many : vs.length = ks.length := by
    have e := congrArg List.length keys
    rwa [List.length_map, List.length_map] at e
  have kvl : kvs.length = ks.length := by
    have e := congrArg List.length hks
    rwa [List.length_map, List.length_map] at e
  have line : vs.length ≤ sizeLine := by rw [many, ← kvl]; exact small
  refine Calls.call_function_entry kind_sorted plain_sorted entry_sorted (args_sorted1 _) ?_
  unfold Builtin.«sorted»
  apply wpAny_bind (m := checkCount "sorted" 1 1 _)
  apply wpAny_pure
  apply wpAny_bind
  refine PySem.W.kdu_collect (A := X.A.in1) (PySem.W.kdl_dict (knd := mixKind X.prog X.w) (kvs := vs) (ep := ep) lo) (I.ok.hd calm) there line ?_
  intro h1 tk acc kept items
  have len : acc.toList.length = vs.length := by rw [Array.length_toList]; exact items.1
  have nums : IntsAre acc.toList ks := keys_ints (P := X.prog) (w := X.w) keys len fun j v e => by
    obtain ⟨k, x, e1, e2⟩ := items.2 j v (by rw [← Array.getElem?_toList]; exact e)
    exact ⟨k, x, e1, e2⟩
  have J : Inv X pins σ H { s with heap := h1, toks := tk } := I.kept kept
  have line' : acc.toList.length ≤ sizeLine := by rw [len]; exact line
  apply wpAny_bind
  refine wpAny_newList ?_ line'
  have laid : (h1.push (seqObj "list" acc.toList.toArray 0)).get? h1.objs.size = some (seqObj "list" acc.toList.toArray 0) := Heap.get?_push_size _ rfl
  show wpAny _ _ _ _ _ { s with heap := h1.push (seqObj "list" acc.toList.toArray 0), toks := tk }
  apply wpAny_bind
  apply wpAny_holding
  refine wpAny_call_entry slot_list_sort ⟨_, laid, rfl⟩ entry_list_sort ?_ (args_list_sort _)
  refine SrtO.list_sort_ord (s := { s with heap := h1.push (seqObj "list" acc.toList.toArray 0), toks := tk }) SrtO.swo_int laid line' (fun two => SrtO.ints_sortable nums two) ?_
  intro out srt stb
  refine ⟨_, rfl, ?_⟩
  obtain ⟨g1, g2, g3⟩ := SrtO.ints_out nums srt stb
  obtain ⟨e', at'⟩ := sortedHeap_at (vs := acc.toList) (out := out.toArray) laid
  have fits : ((out.map SrtO.iv).map V.int).length ≤ sizeLine := by
    rw [List.length_map, g2.length_eq, ← kvl]
    exact small
  refine wpAny_pure ⟨_, rfl, .ref h1.objs.size, upd H h1.objs.size (.lst ((out.map SrtO.iv).map V.int)), ?_, rfl, fin _ _ g2 g3 (J.hok.fresh (Nat.le_refl _))⟩
  refine J.laid (t' := tk) ?_ (Nat.le_refl _) ⟨fits, out, e', vals_of_ints g1, at'⟩
  intro b o e
  have lt : b < h1.objs.size := Heap.lt_size e
  rw [sortedHeap_old (Nat.ne_of_lt lt) (by rw [size_push']; exact Nat.lt_succ_of_lt lt)]
  exact Heap.get?_push_of_some _ e
end
end Sky

/-! list(d.values()) -/
namespace L2
open PySem PySem.Spec PyProof.Rows
section
variable {X : Cx} {o : Expr} {p pos apos mpos : Pos} {td : TE}
/-- list(o.values()): the values as they stand -/
def tListVals (td : TE) : TE := fun σ H Q => td σ H fun x H1 => ∃ a kvs, x = V.ref a ∧ H1 a = some (.dK kvs) ∧ ∀ q, H1 q = none → Q (.ref q) (upd H1 q (.lst (kvs.map (·.2))))
/-- the view that o.values() lays down -/
abbrev viewObj (a : Addr) : Obj := { cls := .type "dict_values", data := .fields #[.ref a] }
abbrev valuesCall (o : Expr) (pa pm : Pos) : Expr := .Call (.Attribute o "values" pa) [] [] pm
theorem pe_listVals (calm : X.calm = true) (free : Gl X "list") (unset : X.mg "list" = none) (sub : PE X o td)
    (plain : attributeBase o "values" X.env (eval o X.env) = eval o X.env := by rfl) (line : (apos.endLine == mpos.line) = true := by rfl)
    (star : starEach [valuesCall o apos mpos] X.env = [(false, eval (valuesCall o apos mpos) X.env)] := by rfl) :
    PE X (.Call (.Name "list" p) [valuesCall o apos mpos] [] pos) (tListVals td) := by
  constructor
  intro pins s σ G R inv told
  refine wpAny_Call_Name_kw (ld_blt inv free unset (u := .type "list") (by first | rfl | decide +kernel) ?_ (by decide +kernel) (by decide +kernel))
  rw [star]
  refine PySem.callWith_type1 (wpAny_Call_method0_late plain line ?_)
  refine thn (sub.run pins s σ G _ inv told) ?_
  rintro v t ⟨x, G1, inv1, rx, a, kvs, rfl, isD, fin⟩
  cases rx
  obtain ⟨few, low, ws, rel, held⟩ := dk_of inv1.hok isD
  obtain ⟨ep, stands⟩ := held.dictAt
  have copy := stands
  obtain ⟨ob, _, at', exact', _⟩ := copy
  refine ⟨"dict", "dict.values", F.plainAttrs_dict, F.slot_dict_values,
    F.type_dict_values, ⟨ob, at', exact'.1⟩, ?_, Calls.callWith_builtin rfl (PySem.evalArgs_none ?_)⟩
  · intro _ same
    cases same
    exact ⟨ob, at', exact'.2.1⟩
  refine call_meetsIn F.slot_dict_values ⟨ob, at', exact'.1⟩
    F.entry_dict_values (F.args_dict_values_1 _)
    (meets_dict_values (mixKind X.prog X.w) a low) ⟨⟨ws, held⟩, ?_⟩
  have grown : ∀ b u, t.heap.get? b = some u → (t.heap.push (viewObj a)).get? b = some u := fun _ _ => Heap.get?_push_of_some _
  have still : (t.heap.push (viewObj a)).DictAt (mixKind X.prog X.w) a ws ep := stands.keep grown
  have many : kvs.length = ws.length := KV.length rel
  have more : (t.heap.push (viewObj a)).objs.size = t.heap.objs.size + 1 := Heap.size_push _ _
  have behind : t.heap.objs.size ≤ (t.heap.push (viewObj a)).objs.size := by omega
  refine PySem.W.kdl_call (PySem.W.kdl_values (knd := mixKind X.prog X.w) (kvs := ws) (ep := ep))
    (inv.ok.hd calm) ⟨⟨_, Heap.get?_push_size _ rfl, rfl, rfl⟩, still⟩ (by rw [← many]; exact few) ?_
  intro h2 tk acc c kept laid items
  have ok : ObjOk X.prog X.w (upd G1 (t.heap.push (viewObj a)).objs.size (.lst (kvs.map (·.2)))) h2 (t.heap.push (viewObj a)).objs.size (.lst (kvs.map (·.2))) := by
    refine ⟨by rw [List.length_map]; exact few, acc.toList, c, ?_, by rw [Array.toArray_toList]; exact laid⟩
    have size : acc.toList.length = acc.size := by simp
    apply vals_of_at
    · rw [List.length_map, size, items.1, many]
    · intro j x u ex eu
      obtain ⟨k, ek⟩ := items.2 j u (by rw [← Array.getElem?_toList]; exact eu)
      obtain ⟨y, ey, ry⟩ := KV.at' rel ek
      rw [List.getElem?_map, ey] at ex
      cases ex
      exact ry
  exact ⟨.ref _, _, inv1.laid (fun b u e => kept b u (grown b u e)) behind ok, rfl, fin _ (inv1.hok.fresh behind)⟩
/-! max(d, default=n) of a dict whose keys are ints -/
def rMaxDk : List V → List V → Hp → VK → Prop := fun vs zs H Q => ∃ (a : Addr) (kvs : List (Key × V)) (ks : List Int) (d : Int), vs = [V.ref a] ∧ zs = [V.int d] ∧ H a = some (.dK kvs) ∧ kvs.map (·.1) = ks.map Sum.inl ∧ (ks = [] → Q (.int d) H) ∧ ∀ m, m ∈ ks → (∀ j ∈ ks, j ≤ m) → Q (.int m) H
theorem argBest_gt (f : Nat → Int) : ∀ n : Nat, PySem.argBest (fun i j => decide (f i > f j)) n ≤ n ∧ ∀ i, i ≤ n → f i ≤ f (PySem.argBest (fun i j => decide (f i > f j)) n)
  | 0 => ⟨Nat.le_refl _, fun i hi => by
      have : i = 0 := by omega
      subst this
      exact Int.le_refl _⟩
  | n + 1 => by
    obtain ⟨h1, h2⟩ := argBest_gt f n
    have e : PySem.argBest (fun i j => decide (f i > f j)) (n + 1) = if decide (f (n + 1) > f (PySem.argBest (fun i j => decide (f i > f j)) n)) = true then n + 1 else PySem.argBest (fun i j => decide (f i > f j)) n := rfl
    rw [e]
    by_cases c : f (n + 1) > f (PySem.argBest (fun i j => decide (f i > f j)) n)
    · rw [if_pos (decide_eq_true c)]
      refine ⟨Nat.le_refl _, fun i hi => ?_⟩
      rcases Nat.lt_or_ge i (n + 1) with z | z
      · have := h2 i (by omega)
        omega
      · have : i = n + 1 := by omega
        subst this
        exact Int.le_refl _
    · rw [if_neg (by rw [decide_eq_true_eq]; exact c)]
      refine ⟨by omega, fun i hi => ?_⟩
      rcases Nat.lt_or_ge i (n + 1) with z | z
      · exact h2 i (by omega)
      · have : i = n + 1 := by omega
        subst this
        omega
theorem cr_maxDk (hc : X.calm = true) : CallRK X (.builtin "max") [Str.ofString "default"] rMaxDk := by
  intro pins s σ H vs zs us ws Q I r rz h
  obtain ⟨a, kvs, ks, d, rfl, rfl, ha, hks, q0, q1⟩ := h
  obtain rfl := Vals.ref1 r
  obtain ⟨w1, rfl, e1⟩ := vals1 rz
  obtain ⟨td, rfl⟩ : ∃ t, w1 = Value.int d t := e1
  obtain ⟨z, lo, vs, rel, held⟩ := dk_rd I.hok (Rd.of ha)
  obtain ⟨ep, there⟩ := held.dictAt
  have keys : vs.map (·.1) = ks.map Sum.inl := rel.keys.symm.trans hks
  have many : vs.length = ks.length := by
    have e := congrArg List.length keys
    rwa [List.length_map, List.length_map] at e
  have hval : ∀ (i : Nat) (v : Value), (∃ k x, vs[i]? = some (k, x) ∧ (mixKind X.prog X.w).is k v = true) → ∃ t, v = Value.int (ks.getD i 0) t := fun i v ⟨k, x, e1, e2⟩ => by
    have h1 : (vs.map (·.1))[i]? = some k := by rw [List.getElem?_map, e1] <;> rfl
    rw [keys, List.getElem?_map] at h1
    obtain ⟨j, hj, ek⟩ := Option.map_eq_some_iff.mp h1
    subst ek
    rcases keyIs_shape (k := Sum.inl j) (v := v) e2 with ⟨i', t, g1, g2⟩ | ⟨x', t, g1, g2⟩
    · injection g1 with g1
      subst g1
      exact ⟨t, by rw [g2, List.getD_eq_getElem?_getD, hj] <;> rfl⟩
    · cases g1
  obtain ⟨oI, St, hit, W, st0⟩ := (PySem.W.kdl_dict (prog := X.prog) (w := X.w) (knd := mixKind X.prog X.w) (kvs := vs) (ep := ep) lo).iter X.A.in1 s (I.ok.hd hc) there
  have hlt := there.lt_size
  refine PySem.call_max_walkD (hit _ _ ⟨_, _, _, _, _, _, _, s.heap, (fun i j => decide (ks.getD i 0 > ks.getD j 0)), rfl, W.toS, st0, fun b hb => ?_, fun b o e hb => ?_, fun b o e => Heap.get?_push_of_some _ e, fun hz s' m => ?_, fun hp => ⟨fun i j vi vj s2 Q E _ hi hj hq => CmpOf.ints_gt (fun i => ks.getD i 0) hval i j vi vj s2 Q E hi hj hq, fun v s' hP m => ?_⟩⟩)
  · show b < (s.heap.push _).objs.size
    rw [Heap.size_push]
    rcases List.mem_cons.mp hb with e | hb
    · rw [e]
      exact Nat.lt_succ_self _
    · rw [List.mem_singleton.mp hb]
      exact Nat.lt_succ_of_lt hlt
  · exact absurd (Heap.lt_size e) ((List.mem_singleton.mp hb) ▸ Nat.lt_irrefl _)
  · obtain ⟨h', tk, rfl, hk'⟩ := PySem.W.moved_old rfl rfl m
    exact ⟨.int d, H, I.kept (t' := tk) hk', ⟨td, rfl⟩, q0 (List.eq_nil_of_length_eq_zero (by omega))⟩
  · obtain ⟨h', tk, rfl, hk'⟩ := PySem.W.moved_old rfl rfl m
    obtain ⟨t, rfl⟩ := hval _ v hP
    obtain ⟨b1, b2⟩ := argBest_gt (fun i => ks.getD i 0) (vs.length - 1)
    have hb : PySem.argBest (fun i j => decide (ks.getD i 0 > ks.getD j 0)) (vs.length - 1) < ks.length := by omega
    refine ⟨.int _, H, I.kept (t' := tk) hk', ⟨t, rfl⟩, q1 _ ?_ fun j hj => ?_⟩
    · rw [List.getD_eq_getElem?_getD, List.getElem?_eq_getElem hb]
      exact List.getElem_mem hb
    · obtain ⟨i, hi, e⟩ := List.mem_iff_getElem.mp hj
      have e2 : ks.getD i 0 = j := by rw [List.getD_eq_getElem?_getD, List.getElem?_eq_getElem hi, ← e] <;> rfl
      rw [← e2]
      exact b2 i (by omega)
/-! a list walked within a comprehension: the written part is told -/
theorem pi_listK {K : PySem.W.Frag} {X : Cx} {tg e : Expr} {te : TE} (h : X.K = K) (he : PE X e te) : PI X tg e (iList K te) := h ▸ pi_list he
end
end L2

/-! A rule of my own: name = {k: v for .. in .. for .. in ..}, keys ints or texts, no tests. -/
namespace Sky
open PySem PySem.Spec PyProof.Rows L2
/-- the comprehension -/
abbrev dc2 (kx vx ta ia tb ib : Expr) (sc : Scope) (ps : Pos) : Expr := .DictComp kx vx [⟨ta, ia, [], 0⟩, ⟨tb, ib, [], 0⟩] sc ps
section
variable (kx vx ta ia tb ib : Expr) (sc : Scope) (ps : Pos) (it acc : Value) (D : Addr) (en : Env)
theorem dc2_outer : compTurn (dc2 kx vx ta ia tb ib sc ps) 0 it acc en = (do
    standAt ia.pos
    let nx ← pyNext it
    match nx with
    | none => pure (.done .next)
    | some v => do
      letOwnedTupleGo ta it v
      assign ta en v
      let x ← eval ib en
      standAt ib.pos
      let x2 ← foldedSetIterable ib en x
      let j ← holding [x2] (pyIter x2)
      let _ ← runOwn (.compStart (dc2 kx vx ta ia tb ib sc ps) 1 j acc en) en
      again (.compLoop (dc2 kx vx ta ia tb ib sc ps) 0 it acc en)) := by rfl
theorem dc2_inner : compTurn (dc2 kx vx ta ia tb ib sc ps) 1 it (.ref D) en = (do
    standAt ib.pos
    let nx ← pyNext it
    match nx with
    | none => pure (.done .next)
    | some v => do
      letOwnedTupleGo tb it v
      assign tb en v
      (do
        let kv ← eval kx en
        let vv ← holding [kv] (eval vx en)
        standAt { kx.pos with endLine := vx.pos.endLine, endCol := vx.pos.endCol }
        holding [kv, vv] (dictSet D kv vv))
      again (.compLoop (dc2 kx vx ta ia tb ib sc ps) 1 it (.ref D) en)) := by rfl
end
section
variable {prog : Program} {w : World} {A : Around} {R : Result → Shared → Prop} {s : Shared} {kx vx ta ia tb ib : Expr} {sc : Scope} {ps : Pos} {it acc : Value} {D : Addr} {en : Env}
/-- what a raise within does -/
abbrev off (prog : Program) (w : World) (A : Around) (en : Env) (R : Result → Shared → Prop) : Value → Shared → Prop := notedBy (model prog w) A en fun x t => R (.error x) t
theorem dc2_walk (fold : ∀ x, foldedSetIterable ib en x = pure x) (J : Nat → Shared → Prop)
    (step : ∀ n t, J n t → wpAny (model prog w) A (pyNext it) (fun got t1 => match got with
      | none => R (.ok .next) t1
      | some v => wpAny (model prog w) A (letOwnedTupleGo ta it v) (fun _ t2 => wpAny (model prog w) A (assign ta en v) (fun _ t3 =>
          wpAny (model prog w) A (eval ib en) (fun x t4 => wpAny (model prog w) A (pyIter x) (fun jt t5 =>
            codeAny (model prog w) A (.compStart (dc2 kx vx ta ia tb ib sc ps) 1 jt acc en) (fun r t6 => match r with
              | .ok _ => ∃ k, k < n ∧ J k t6
              | .error _ => False) t5) (off prog w A en R) t4) (off prog w A en R) t3) (off prog w A en R) t2) (off prog w A en R) t1) (off prog w A en R) t)
    (n : Nat) (start : J n s) : codeAny (model prog w) A (.compLoop (dc2 kx vx ta ia tb ib sc ps) 0 it acc en) R s := by
  apply codeAny_loop rfl J _ n start
  intro n t hJ
  show wpAny _ A ((compTurn (dc2 kx vx ta ia tb ib sc ps) 0 it acc en).onRaise (fun x => do noteFrame x en; theTreesLotGoes x)) _ _ t
  apply wpAny_noted
  rw [dc2_outer]
  apply wpAny_bind; apply wpAny_standAt; apply wpAny_bind
  refine wpAny_mono (step n t hJ) (fun got t1 h1 => ?_) fun _ _ z => z
  match got, h1 with
  | none, h1 => exact wpAny_pure h1
  | some v, h1 =>
    apply wpAny_bind
    refine wpAny_mono h1 (fun _ t2 h2 => ?_) fun _ _ z => z
    apply wpAny_bind
    refine wpAny_mono h2 (fun _ t3 h3 => ?_) fun _ _ z => z
    apply wpAny_bind
    refine wpAny_mono h3 (fun x t4 h4 => ?_) fun _ _ z => z
    apply wpAny_bind; apply wpAny_standAt; apply wpAny_bind
    refine wpAny_of_eq (fold x) ?_
    apply wpAny_bind; apply wpAny_holding
    refine wpAny_mono h4 (fun jt t5 h5 => ?_) fun _ _ z => z
    apply wpAny_bind
    refine wpAny_runOwn ?_
    rw [Around.mark_none]
    refine codeAny_mono h5 fun r t6 h6 => ?_
    match r, h6 with
    | .ok f, h6 => exact wpAny_pure ⟨rfl, h6⟩
    | .error e, h6 => exact False.elim h6
theorem dc2_walk1 (J : Nat → Shared → Prop)
    (step : ∀ n t, J n t → wpAny (model prog w) A (pyNext it) (fun got t1 => match got with
      | none => R (.ok .next) t1
      | some v => wpAny (model prog w) A (letOwnedTupleGo tb it v) (fun _ t2 => wpAny (model prog w) A (assign tb en v) (fun _ t3 =>
          wpAny (model prog w) A (eval kx en) (fun a t4 => wpAny (model prog w) A (eval vx en) (fun b t5 =>
            wpAny (model prog w) A (dictSet D a b) (fun _ t6 => ∃ k, k < n ∧ J k t6) (off prog w A en R) t5) (off prog w A en R) t4) (off prog w A en R) t3) (off prog w A en R) t2) (off prog w A en R) t1) (off prog w A en R) t)
    (n : Nat) (start : J n s) : codeAny (model prog w) A (.compLoop (dc2 kx vx ta ia tb ib sc ps) 1 it (.ref D) en) R s := by
  apply codeAny_loop rfl J _ n start
  intro n t hJ
  show wpAny _ A ((compTurn (dc2 kx vx ta ia tb ib sc ps) 1 it (.ref D) en).onRaise (fun x => do noteFrame x en; theTreesLotGoes x)) _ _ t
  apply wpAny_noted
  rw [dc2_inner]
  apply wpAny_bind; apply wpAny_standAt; apply wpAny_bind
  refine wpAny_mono (step n t hJ) (fun got t1 h1 => ?_) fun _ _ z => z
  match got, h1 with
  | none, h1 => exact wpAny_pure h1
  | some v, h1 =>
    apply wpAny_bind
    refine wpAny_mono h1 (fun _ t2 h2 => ?_) fun _ _ z => z
    apply wpAny_bind
    refine wpAny_mono h2 (fun _ t3 h3 => ?_) fun _ _ z => z
    apply wpAny_bind; apply wpAny_bind
    refine wpAny_mono h3 (fun a t4 h4 => ?_) fun _ _ z => z
    apply wpAny_bind; apply wpAny_holding
    refine wpAny_mono h4 (fun b t5 h5 => ?_) fun _ _ z => z
    apply wpAny_bind; apply wpAny_standAt; apply wpAny_holding
    refine wpAny_mono h5 (fun _ t6 h6 => ?_) fun _ _ z => z
    exact wpAny_pure ⟨rfl, h6⟩
/-- the inner clause begins -/
theorem dc2_start1 (self : codeAny (model prog w) A (.compLoop (dc2 kx vx ta ia tb ib sc ps) 1 it acc en) R s)
    (other : wpAny (model prog w) A (pyIter it) (fun jt t => codeAny (model prog w) A (.compLoop (dc2 kx vx ta ia tb ib sc ps) 1 jt acc en) R t) (off prog w A en R) s) :
    codeAny (model prog w) A (.compStart (dc2 kx vx ta ia tb ib sc ps) 1 it acc en) R s := by
  apply codeAny_of_tree
  show wpAny _ _ ((compStart (dc2 kx vx ta ia tb ib sc ps) 1 it acc en).onRaise (fun x => do noteFrame x en; standAt theWindowsPlace)) _ _ s
  apply wpAny_notedAt
  unfold compStart
  show wpAny _ _ (ask >>= _) _ _ s
  apply wpAny_bind; apply wpAny_askSetting; apply wpAny_ite
  split
  · exact wpAny_bind (wpAny_pure (wpAny_pure (And.intro rfl self)))
  · apply wpAny_bind; apply wpAny_rule
    show wpAny _ _ (standAt ib.pos >>= _) _ _ s
    apply wpAny_bind; apply wpAny_standAt; apply wpAny_bind
    exact wpAny_mono other (fun jt t h => wpAny_pure (And.intro rfl h)) fun _ _ z => z
end
section
variable {X : Cx}
/-- the reading: for each item of the first source the second source's own loop, from which the first's next turn is reached -/
def tDc2 (wi : TI) (ga : TG) (wj : TI) (gb : TG) (tk tv : TE) (va vb : List Nat) : TE := fun σ H Q =>
  wi σ H fun J G1 => ∀ D, G1 D = none →
    ∃ W : Nat → Nat → Hp → Prop, (∃ m, W 0 m (upd G1 D (.dK []))) ∧ ∀ i m G, W i m G →
      (J.stop i G ∧ Q (.ref D) G) ∨
      (J.go i G ∧ ∃ Nx : Hp → Prop, (∀ G', Nx G' → ∃ m', m' < m ∧ W (i + 1) m' G') ∧ ∀ x G', J.yld i G x G' →
        ga x (wipe σ va) G' fun τ G2 => wipe τ va = wipe σ va ∧
          wj τ G2 fun L G3 => ∃ V1 : Nat → Nat → Hp → Prop, (∃ k, V1 0 k G3) ∧ ∀ j k F, V1 j k F →
            (L.stop j F ∧ Nx F) ∨
            (L.go j F ∧ ∃ Ny : Hp → Prop, (∀ F', Ny F' → ∃ k', k' < k ∧ V1 (j + 1) k' F') ∧ ∀ y F', L.yld j F y F' →
              gb y (wipe τ vb) F' fun ρ F2 => wipe ρ vb = wipe τ vb ∧
                tk ρ F2 fun a F3 => tv ρ F3 fun b F4 => ∃ kvs key, a = kV key ∧ F4 D = some (.dK kvs) ∧ kvs.length < sizeLine ∧ Ny (upd F4 D (.dK (putK kvs key b)))))
theorem dc2_all {pins : List (Addr × Obj)} {u : Shared} {σ : L2.St} {H : Hp} {Q : VK} {kx vx ta ia tb ib : Expr} {sc : Scope} {own : List (Str × Nat)} {vb : List Nat} {ps pf : Pos} {wi wj : TI} {ga gb : TG} {tk tv : TE} {use : Option (Value → Sem Unit)} {Qf : Value → Shared → Prop}
    (calm : X.calm = true) (nd : X.N.Nodup) (I0 : Inv X pins σ H u) (pa : PI X ta ia wi) (ok : BlkOk X.N X.env.scope sc own) (sub : ∀ i ∈ vb, i ∈ own.map (·.2))
    (pga : ∀ (u : Shared) (G : Hp) (C : Addr) (cl : List (Str × Addr)) (fp : List Addr), PG (X.blk u G sc (compEnvC sc cl C X.env) fp) ta ga)
    (pb : ∀ (u : Shared) (G : Hp) (C : Addr) (cl : List (Str × Addr)) (fp : List Addr), PI (X.blk u G sc (compEnvC sc cl C X.env) fp) tb ib wj)
    (pgb : ∀ (u : Shared) (G : Hp) (C : Addr) (cl : List (Str × Addr)) (fp : List Addr), PG (X.blk u G sc (compEnvC sc cl C X.env) fp) tb gb)
    (pk : ∀ (u : Shared) (G : Hp) (C : Addr) (cl : List (Str × Addr)) (fp : List Addr), PE (X.blk u G sc (compEnvC sc cl C X.env) fp) kx tk)
    (pv : ∀ (u : Shared) (G : Hp) (C : Addr) (cl : List (Str × Addr)) (fp : List Addr), PE (X.blk u G sc (compEnvC sc cl C X.env) fp) vx tv)
    (fa : ∀ x, foldedSetIterable ia X.env x = pure x) (fb : ∀ en x, foldedSetIterable ib en x = pure x)
    (want : tDc2 wi ga wj gb tk tv (own.map (·.2)) vb σ H Q)
    (last : ∀ D C u' m G', Inv X pins σ G' u' → Q (.ref D) G' → u'.heap.Ns C m → FpOk X pins G' C → compPost (model X.prog X.w) X.A X.xe use Qf (.ref D) C (.ok .next) u') :
    wpAny (model X.prog X.w) X.A (comprehension (dc2 kx vx ta ia tb ib sc ps) sc X.env pf newDict false (eval ia X.env) use) Qf X.xe u := by
  have outer : ∀ y ∈ sc.names, y.2 = .free → ∃ c, X.env.cells.lookup y.1 = some c := by
    intro y hy e
    rcases ok.free y hy e with z | z
    · exact I0.ok.has _ (.inl z)
    · exact I0.ok.has _ (.inr z)
  refine wpAny_comprehension_free (use := use) rfl fa (closure_ok outer) ok.kind (fun y hy e => by rw [ok.uniq y hy, e]) ?_
  refine thn (pa.run pins u σ H _ I0 want) fun _ u1 h1 => thn h1 fun _ u2 h2 => ?_
  obtain ⟨src, fp, tn, J, G2, rfl, I2, T, at2, foot2, q⟩ := h2
  refine wpAny_newObj_type (newEnv_comp ?_)
  generalize eD : u2.heap.objs.size = D
  have freeD : G2 D = none := I2.hok.fresh (Nat.le_of_eq eD)
  obtain ⟨W, ⟨m0, begin0⟩, turn⟩ := q D freeD
  -- the dict that is filled
  generalize e3 : ({ u2 with heap := u2.heap.push { cls := .type "dict", data := .dict #[] } } : Shared) = u3
  have I3 : Inv X pins σ (upd G2 D (.dK [])) u3 := by
    subst e3
    refine I2.laid (t' := u2.toks) (fun b o e => Heap.get?_push_of_some _ e) (Nat.le_of_eq eD) ?_
    subst eD
    exact dk_empty u2.heap I2.big
  have push3 : u3.heap = u2.heap.push { cls := .type "dict", data := .dict #[] } := by subst e3; rfl
  have low : ∀ b ∈ fp, b < u2.heap.objs.size := by
    intro b hb
    obtain ⟨o, e, _⟩ := T.obj _ _ at2 b hb
    exact Heap.lt_size e
  have foot3 : ∀ b ∈ fp, FpOk X pins (upd G2 D (.dK [])) b ∧ b < u3.heap.objs.size := by
    intro b hb
    have lt := low b hb
    refine ⟨⟨?_, (foot2 b hb).2⟩, ?_⟩
    · have nb : b ≠ D := by subst eD; exact Nat.ne_of_lt lt
      rw [upd_ne nb]
      exact (foot2 b hb).1
    · rw [push3, Heap.size_push]
      exact Nat.lt_succ_of_lt lt
  have at3 : tn 0 u3.heap := by
    refine T.keep _ _ _ at2 fun b _ o e => ?_
    rw [push3]
    exact Heap.get?_push_of_some _ e
  have I4 := block_start I3 ok nd foot3
  show codeAny _ _ (.compStart (dc2 kx vx ta ia tb ib sc ps) 0 (.ref src) (.ref D) (compEnvC sc (cellsFrom (u3.heap.objs.size + 1) sc.names (cloFrom X.env.cells sc.names [])) u3.heap.objs.size X.env))
    (compPost (model X.prog X.w) X.A X.xe use Qf (.ref D) u3.heap.objs.size) ({ u3 with heap := pushCells (u3.heap.push { cls := .type "dict", data := .dict #[] }) sc.names } : Shared)
  generalize eC : u3.heap.objs.size = C at I4 foot3 ⊢
  generalize ecl : cellsFrom (C + 1) sc.names (cloFrom X.env.cells sc.names []) = cl at I4 ⊢
  generalize eG : upd G2 D (.dK []) = G3 at I3 I4 foot3 begin0
  have qa := pga u3 G3 C cl fp
  have qb := pb u3 G3 C cl fp
  have qgb := pgb u3 G3 C cl fp
  have qk := pk u3 G3 C cl fp
  have qv := pv u3 G3 C cl fp
  have un : ∀ b ∈ fp, G3 b = none := fun b hb => (foot3 b hb).1.1
  have here : (compEnvC sc cl C X.env).locals = C := rfl
  generalize compEnvC sc cl C X.env = en at *
  generalize e4 : ({ u3 with heap := pushCells (u3.heap.push { cls := .type "dict", data := .dict #[] }) sc.names } : Shared) = u4 at *
  have at4 : tn 0 u4.heap := by
    refine T.keep _ _ _ at3 fun b _ o e => ?_
    subst e4
    exact pushCells_keeps _ _ _ _ (Heap.get?_push_of_some _ e)
  have foot : ∀ {τ : L2.St} {G : Hp} {t : Shared}, Inv (X.blk u3 G3 sc en fp) [] τ G t → (∀ b ∈ fp, G b = none) → ∀ b ∈ fp, FpOk (X.blk u3 G3 sc en fp) [] G b := by
    intro τ G t Iv no b hb
    refine ⟨no b hb, (Iv.ok.exf b hb).1, Iv.ok.exfs b hb, .inl hb, fun x c e => (Iv.ok.exf b hb).2 x c e, fun z hz => ?_⟩
    have hz' : z ∈ ([] : List (Addr × Obj)) ++ [] := hz
    simp at hz'
  have whole : codeAny (model X.prog X.w) X.A (.compLoop (dc2 kx vx ta ia tb ib sc ps) 0 (.ref src) (.ref D) en) (compPost (model X.prog X.w) X.A X.xe use Qf (.ref D) C) u4 := by
    refine dc2_walk (fb en) (fun n t => ∃ i G, Inv (X.blk u3 G3 sc en fp) [] (wipe σ (own.map (·.2))) G t ∧ tn i t.heap ∧ (∀ b ∈ fp, G b = none) ∧ W i n G) ?_ m0 ⟨0, G3, I4, at4, un, begin0⟩
    rintro n t5 ⟨i, G5, I5, at5, un5, w5⟩
    rcases turn i n G5 w5 with ⟨stop, done⟩ | ⟨goes, Nx, down, one⟩
    · -- none is left: back in the def
      refine thnF (T.done (X.blk u3 G3 sc en fp) rfl rfl rfl calm i [] t5 _ G5 (fun _ _ => False) I5 (foot I5 un5) at5 stop) fun r t6 ⟨er, I6⟩ => ?_
      subst er
      have I7 : Inv X pins σ G5 t6 := I3.call' (ch := fp) I6.os I6.base I6.hok I6.bare fun b hb => by
        obtain ⟨⟨_, z2, z3, z4, z5, z6⟩, _⟩ := foot3 b hb
        exact ⟨z4, z2, z5, z6⟩
      have noC : G5 C = none := by
        have z : G5 en.locals = none := I6.free
        rw [here] at z
        exact z
      obtain ⟨m, ns, _⟩ := I6.loc
      have ns' : t6.heap.Ns en.locals m := ns
      rw [here] at ns'
      exact last D C t6 m G5 I7 done ns' (I3.fpOk (Nat.le_of_eq eC) noC)
    · refine thnF (T.item (X.blk u3 G3 sc en fp) rfl rfl rfl calm i [] t5 _ G5 (fun _ _ => False) I5 (foot I5 un5) at5 goes) fun r t6 ⟨v, er, h6⟩ => ?_
      subst er
      refine thnF h6 fun _ t7 ⟨x, G7, I7, rx, yl, at7, un7⟩ => ?_
      have I7p := I7.pinned (foot I7 un7) (T.obj _ _ at7)
      refine thnF (qa.run _ t7 _ G7 x v _ I7p rx (one x G7 yl)) fun _ t8 ⟨τ, G8, I8, ewipe, q8⟩ => ?_
      have lenτ : (wipe σ (own.map (·.2))).length = τ.length := by rw [← ewipe, wipe_length]
      have keepτ : ∀ (j : Nat) v, (wipe σ (own.map (·.2)))[j]? = some (some v) → (wipe τ vb)[j]? = some (some v) := by
        intro j v e
        rw [← ewipe] at e
        obtain ⟨z1, z2⟩ := wipe_some e
        rw [wipe_out fun z => z2 (sub j z)]
        exact z1
      -- the turn is done
      have next : ∀ {ρ : L2.St} {t : Shared} {G : Hp}, Inv (X.blk u3 G3 sc en fp) ([] ++ pinsAt fp t7.heap) ρ G t → (wipe σ (own.map (·.2))).length = ρ.length → (∀ (j : Nat) v, (wipe σ (own.map (·.2)))[j]? = some (some v) → ρ[j]? = some (some v)) → Nx G →
          ∃ m, m < n ∧ ∃ i G, Inv (X.blk u3 G3 sc en fp) [] (wipe σ (own.map (·.2))) G t ∧ tn i t.heap ∧ (∀ b ∈ fp, G b = none) ∧ W i m G := by
        intro ρ t G Iv len keep nx
        obtain ⟨m, less, w'⟩ := down G nx
        have pinned : ∀ b ∈ fp, ∀ o, t7.heap.get? b = some o → t.heap.get? b = some o ∧ G b = none := by
          intro b hb o e
          have z := Iv.pin (b, o) (List.mem_append_right _ (List.mem_append_right _ (mem_pinsAt hb e)))
          exact ⟨z.1, z.2.1⟩
        refine ⟨m, less, i + 1, G, (Iv.unpinned (pins := [])).weak len keep, T.keep _ _ _ at7 fun b hb o e => (pinned b hb o e).1, fun b hb => ?_, w'⟩
        obtain ⟨o, e, _⟩ := T.obj _ _ at7 b hb
        exact (pinned b hb o e).2
      refine thnF (qb.run _ t8 τ G8 _ I8 q8) fun _ t9 h9 => thnF h9 fun _ t10 h10 => ?_
      obtain ⟨src2, fp2, tn2, L, G10, rfl, I10, T2, at10, foot10, V1, ⟨k0, begin1⟩, turn1⟩ := h10
      have foot2 : ∀ {G : Hp}, (∀ b ∈ fp2, G b = none) → ∀ b ∈ fp2, FpOk (X.blk u3 G3 sc en fp) ([] ++ pinsAt fp t7.heap) G b := fun no b hb => ⟨no b hb, (foot10 b hb).2⟩
      have inner : codeAny (model X.prog X.w) X.A (.compLoop (dc2 kx vx ta ia tb ib sc ps) 1 (.ref src2) (.ref D) en)
          (fun r t => match r with
            | .ok _ => ∃ m, m < n ∧ ∃ i G, Inv (X.blk u3 G3 sc en fp) [] (wipe σ (own.map (·.2))) G t ∧ tn i t.heap ∧ (∀ b ∈ fp, G b = none) ∧ W i m G
            | .error _ => False) t10 := by
        refine dc2_walk1 (fun k t => ∃ j G, Inv (X.blk u3 G3 sc en fp) ([] ++ pinsAt fp t7.heap) (wipe τ vb) G t ∧ tn2 j t.heap ∧ (∀ b ∈ fp2, G b = none) ∧ V1 j k G) ?_ k0 ⟨0, G10, I10.weak (wipe_length _ _) (fun j v e => (wipe_some e).1), at10, fun b hb => (foot10 b hb).1, begin1⟩
        rintro k t11 ⟨j, G11, I11, at11, un11, w11⟩
        rcases turn1 j k G11 w11 with ⟨stop1, nx⟩ | ⟨goes1, Ny, down1, one1⟩
        · refine thnF (T2.done (X.blk u3 G3 sc en fp) rfl rfl rfl calm j _ t11 (wipe τ vb) G11 (fun _ _ => False) I11 (foot2 un11) at11 stop1) fun r t12 ⟨er, I12⟩ => ?_
          subst er
          exact next I12 (lenτ.trans (wipe_length τ vb).symm) keepτ nx
        · refine thnF (T2.item (X.blk u3 G3 sc en fp) rfl rfl rfl calm j _ t11 (wipe τ vb) G11 (fun _ _ => False) I11 (foot2 un11) at11 goes1) fun r t12 ⟨v1, er, h12⟩ => ?_
          subst er
          refine thnF h12 fun _ t13 ⟨y, G13, I13, ry, yl1, at13, un13⟩ => ?_
          have I13p := I13.pinned (foot2 un13) (T2.obj _ _ at13)
          refine thnF (qgb.run _ t13 (wipe τ vb) G13 y v1 _ I13p ry (one1 y G13 yl1)) fun _ t14 ⟨ρ, G14, I14, ewipe1, q14⟩ => ?_
          refine thnF (qk.run _ t14 ρ G14 _ I14 q14) fun ka t15 ⟨a, G15, I15, ra, q15⟩ => ?_
          refine thnF (qv.run _ t15 ρ G15 _ I15 q15) fun kb t16 ⟨b, G16, I16, rb, kvs, key, ea, hd16, few, nx⟩ => ?_
          subst ea
          refine d_dictSet (X := X.blk u3 G3 sc en fp) I16 hd16 few ra rb fun t17 I17 => ?_
          obtain ⟨k', less, w'⟩ := down1 _ nx
          have pinned : ∀ c ∈ fp2, ∀ o, t13.heap.get? c = some o → t17.heap.get? c = some o ∧ (upd G16 D (.dK (putK kvs key b))) c = none := by
            intro c hc o e
            have z := I17.pin (c, o) (List.mem_append_right _ (List.mem_append_right _ (mem_pinsAt hc e)))
            exact ⟨z.1, z.2.1⟩
          refine ⟨k', less, j + 1, _, I17.unpinned.weak ?_ (fun n v e => ?_), T2.keep _ _ _ at13 fun c hc o e => (pinned c hc o e).1, fun c hc => ?_, w'⟩
          · rw [← ewipe1, wipe_length]
          · rw [← ewipe1] at e
            exact (wipe_some e).1
          · obtain ⟨o, e, _⟩ := T2.obj _ _ at13 c hc
            exact (pinned c hc o e).2
      exact dc2_start1 inner (T2.self X.A 0 _ _ _ at10 inner)
  exact codeAny_compStart_dict whole (T.self X.A 0 _ _ _ at4 whole)
end
section
variable {X : Cx}
/-- name = {k: v for .. for ..} on one line, the name a local -/
theorem ps_setDc2 {i : Nat} {y : Str} {py : Pos} {kx vx ta ia tb ib : Expr} {sc : Scope} {own : List (Str × Nat)} {vb : List Nat} {ps sp : Pos} {wi wj : TI} {ga gb : TG} {tk tv : TE}
    (calm : X.calm = true) (nd : X.N.Nodup) (hy : X.N[i]? = some y) (loc : X.env.scope.names.lookup y = some .local)
    (sw : swapsWith (dc2 kx vx ta ia tb ib sc ps) (some (.Name y py)) sp.line X.env = pure true)
    (pa : PI X ta ia wi) (ok : BlkOk X.N X.env.scope sc own) (sub : ∀ i ∈ vb, i ∈ own.map (·.2))
    (pga : ∀ (u : Shared) (G : Hp) (C : Addr) (cl : List (Str × Addr)) (fp : List Addr), PG (X.blk u G sc (compEnvC sc cl C X.env) fp) ta ga)
    (pb : ∀ (u : Shared) (G : Hp) (C : Addr) (cl : List (Str × Addr)) (fp : List Addr), PI (X.blk u G sc (compEnvC sc cl C X.env) fp) tb ib wj)
    (pgb : ∀ (u : Shared) (G : Hp) (C : Addr) (cl : List (Str × Addr)) (fp : List Addr), PG (X.blk u G sc (compEnvC sc cl C X.env) fp) tb gb)
    (pk : ∀ (u : Shared) (G : Hp) (C : Addr) (cl : List (Str × Addr)) (fp : List Addr), PE (X.blk u G sc (compEnvC sc cl C X.env) fp) kx tk)
    (pv : ∀ (u : Shared) (G : Hp) (C : Addr) (cl : List (Str × Addr)) (fp : List Addr), PE (X.blk u G sc (compEnvC sc cl C X.env) fp) vx tv)
    (fa : ∀ x, foldedSetIterable ia X.env x = pure x := by intro _; rfl) (fb : ∀ en x, foldedSetIterable ib en x = pure x := by intro _ _; rfl) :
    PS X (.Assign [.Name y py] (.DictComp kx vx [⟨ta, ia, [], 0⟩, ⟨tb, ib, [], 0⟩] sc ps) sp) (tAsg (tDc2 wi ga wj gb tk tv (own.map (·.2)) vb) (gName i)) := by
  constructor
  intro pins u σ H D I h
  have want : tDc2 wi ga wj gb tk tv (own.map (·.2)) vb σ H (fun x G => gName i x σ G D.nx) := h
  rw [exec_Assign_Name_used _ _ _ _ sw]
  apply wpAny_bind; apply wpAny_standAt; apply wpAny_bind
  show wpAny _ X.A (do
    let _ ← comprehension (dc2 kx vx ta ia tb ib sc ps) sc X.env (firstIterPos [⟨ta, ia, [], 0⟩, ⟨tb, ib, [], 0⟩] ps) newDict false (eval ia X.env) (some (assign (.Name y py) X.env))) _ _ u
  apply wpAny_bind
  refine thn (dc2_all (Qf := fun _ t => SP X pins D .next t) calm nd I pa ok sub pga pb pgb pk pv fa fb want ?_) fun _ t q => wpAny_pure (wpAny_pure q)
  intro L C t m G J q ns fp
  show wpAny _ _ (assign (.Name y py) X.env (.ref L)) _ _ _
  refine wpAny_assign_Name (store_ok2 (v := V.ref L) J nd hy (.inl loc) rfl ?_ (.inr loc))
  rintro t2 J2 ⟨a, sb, ha⟩
  obtain ⟨z0, z1, z2, z3, z4, z5⟩ := fp
  have apart : C ≠ a := by
    rcases ha with z | z
    · rw [z]
      exact z1
    · exact fun e => z4 y a z e.symm
  refine ⟨m, ns.sameBut sb apart, fun h3 sb3 => ⟨_, G, ?_, q⟩⟩
  exact J2.turned (t' := t2.toks) (fun b o hb e => (sb3.2 b hb).trans e) z0 z1 z3 z4 z5
/-! max(xs, default=n) of a list of ints -/
def rMaxL (K : PySem.W.Frag) : List V → List V → Hp → VK → Prop := fun vs zs H Q => ∃ (a : Addr) (ns : List Int) (d : Int), vs = [V.ref a] ∧ zs = [V.int d] ∧ SqL K H a (ns.map V.int) ∧ (ns = [] → Q (.int d) H) ∧ ∀ m, m ∈ ns → (∀ j ∈ ns, j ≤ m) → Q (.int m) H
theorem fold_max : ∀ (ns : List Int) (n : Int), (ns.foldl max n = n ∨ ns.foldl max n ∈ ns) ∧ n ≤ ns.foldl max n ∧ ∀ j ∈ ns, j ≤ ns.foldl max n
  | [], n => ⟨.inl rfl, Int.le_refl _, by simp⟩
  | x :: r, n => by
    obtain ⟨h1, h2, h3⟩ := fold_max r (max n x)
    rw [List.foldl_cons]
    refine ⟨?_, by omega, fun j hj => ?_⟩
    · rcases h1 with e | e
      · rw [e]
        rcases Int.le_total n x with z | z
        · right; rw [Int.max_eq_right z]; exact List.mem_cons_self
        · left; exact Int.max_eq_left z
      · exact .inr (List.mem_cons_of_mem _ e)
    · rcases List.mem_cons.mp hj with e | e
      · rw [e]; omega
      · exact h3 j e
theorem cr_maxL (calm : X.calm = true) (few : X.A.units + 65 < cLine) : CallRK X (.builtin "max") [Str.ofString "default"] (rMaxL X.K) := by
  intro pins u σ H vs zs us ws Q I r rz h
  obtain ⟨a, ns, d, rfl, rfl, hs, q0, q1⟩ := h
  obtain ⟨its, rv, hl, _⟩ := I.list hs
  obtain rfl := Vals.ref1 r
  obtain ⟨w1, rfl, e1⟩ := vals1 rz
  obtain ⟨td, rfl⟩ : ∃ t, w1 = Value.int d t := e1
  have all : PySem.ReadsAll u.heap its.toArray.toList (ns.map .int) [] := IntsAre.reads u.heap rv.ints
  have alike : PySem.W.AlikeAll (ns.map PyData.int) := by
    refine ⟨fun x hx y hy => ?_, fun x hx => ?_⟩
    · obtain ⟨i, _, rfl⟩ := List.mem_map.mp hx
      obtain ⟨j, _, rfl⟩ := List.mem_map.mp hy
      rfl
    · obtain ⟨i, _, rfl⟩ := List.mem_map.mp hx
      intro e
      cases e
  have flat : PyData.depthAll (ns.map PyData.int) = 0 := by
    have := depthAll_of (f := PyData.int) (k := 0) (xs := ns) fun x _ => by simp [PyData.depth]
    omega
  refine PySem.W.max_list_default (I.ok.hd calm) hl.isList all alike (by rw [flat]; omega) (fun e h' tk hk => ?_) fun y ys i v h' tk bs e hv hr hk => ?_
  · exact ⟨.int d, H, I.kept (t' := tk) hk, ⟨td, rfl⟩, q0 (List.map_eq_nil_iff.mp e)⟩
  · cases ns with
    | nil => cases e
    | cons n r =>
      injection e with e1 e2
      subst e1 e2
      rw [PySem.W.maxD_ints] at hr
      obtain ⟨g1, g2, g3⟩ := fold_max r n
      cases hr
      refine ⟨.int _, H, I.kept (t' := tk) hk, ⟨_, rfl⟩, q1 _ ?_ fun j hj => ?_⟩
      · rcases g1 with z | z
        · rw [z]; exact List.mem_cons_self
        · exact List.mem_cons_of_mem _ z
      · rcases List.mem_cons.mp hj with z | z
        · rw [z]; exact g2
        · exact g3 j z
end
end Sky

/-! A rule of my own: for i, x in enumerate(t), t a tuple. -/
namespace Sky
open PySem PySem.Spec PyProof.Rows L2 PySem.W
theorem new_enum {v : Value} {o : Obj} {Z : Heap → Prop} (B : Begins v o Z) :
    Meets (Builtin.«enumerate.__new__» ⟨[.type "enumerate", v], []⟩) (fun _ R u => Z u.heap ∧
      R (.ok (.ret (.ref (u.heap.push o).objs.size))) ({ u with heap := (u.heap.push o).push { cls := .type "enumerate", data := .fields #[.none, .bool false, .ref u.heap.objs.size, rawInt 0, .none, .none] } } : Shared)) := by
  refine .of_wp fun prog w A R u both => ?_
  obtain ⟨hp, g, d, tk, os⟩ := u
  obtain ⟨z, fin⟩ := both
  have sub := sub_enumerate
  have goes : ∀ {A2 : Around} {E2 : Value → Shared → Prop} {Q2 : Value → Shared → Prop}, Q2 (.ref hp.objs.size) ⟨hp.push o, g, d, tk, os⟩ → wpAny (model prog w) A2 (pyIter v) Q2 E2 ⟨hp, g, d, tk, os⟩ := by
    intro A2 E2 Q2 q
    exact B.iter prog w A2 E2 ⟨hp, g, d, tk, os⟩ Q2 z q
  wp_walk using goes
  refine wpAny_stack_any fun st => wpAny_pure ?_
  split
  · rename_i c _ _ _ _ _
    cases c == Value.type "enumerate" <;> (wp_walk using goes; exact ⟨_, rfl, fin⟩)
  · wp_walk using goes
    exact ⟨_, rfl, fin⟩
section
variable {prog : Program} {w : World} {A : Around} {E : Value → Shared → Prop} {u : Shared}
theorem call_enum {v : Value} {o : Obj} {Z : Heap → Prop} {Q : Value → Shared → Prop} (B : Begins v o Z) (z : Z u.heap)
    (fin : ∀ g, IsEnum g (u.heap.objs.size + 1) u.heap.objs.size 0 .none → g.get? u.heap.objs.size = some o → g.objs.size = u.heap.objs.size + 2 → (∀ b x, u.heap.get? b = some x → g.get? b = some x) → Q (.ref (u.heap.objs.size + 1)) { u with heap := g }) :
    wpAny (model prog w) A (call (.type "enumerate") [v]) Q E u := by
  refine callType_new F.called_enumerate (by decide) (F.typeCall_enumerate_1 _) (F.newCall_enumerate_1 _) (fun ob => F.args_object_init_2 ob _) F.entry_enumerate_new (new_enum B) ⟨z, ?_⟩
  have size1 : (u.heap.push o).objs.size = u.heap.objs.size + 1 := Heap.size_push ..
  show _ ∧ _
  rw [size1]
  have made : IsEnum ((u.heap.push o).push { cls := .type "enumerate", data := .fields #[.none, .bool false, .ref u.heap.objs.size, rawInt 0, .none, .none] }) (u.heap.objs.size + 1) u.heap.objs.size 0 .none := by
    have e := Heap.get?_push_size (u.heap.push o) (o := { cls := .type "enumerate", data := .fields #[.none, .bool false, .ref u.heap.objs.size, rawInt 0, .none, .none] }) rfl
    rw [size1] at e
    exact e
  refine ⟨⟨_, made, rfl⟩, fin _ made ?_ (by rw [Heap.size_push, size1]) fun b x e => ?_⟩
  · exact Heap.get?_push_of_some _ (Heap.get?_push_size _ B.free)
  · exact Heap.get?_push_of_some _ (Heap.get?_push_of_some _ e)
end
/-- the tuple at a, each item in a new pair -/
def Iet (K : PySem.W.Frag) (a : Addr) : It where
  go i H := ∃ (xs : List V) (x : V), SqT K H a xs ∧ xs[i]? = some x
  yld i H v H' := ∃ T x, v = .ref T ∧ H T = none ∧ H' = upd H T (.tup [.int (i : Nat), x]) ∧ ∀ xs, SqT K H a xs → xs[i]? = some x
  stop i H := ∃ xs : List V, SqT K H a xs ∧ xs.length ≤ i
theorem enum_ne {h : Heap} {e it a : Addr} {k : Int} {old : Value} {items : Array Value} (x : IsEnum h e it k old) (y : h.IsTuple a items) : e ≠ a := by
  intro z
  subst z
  obtain ⟨o, e1, e2, _⟩ := y
  have e3 := e1.symm.trans x
  injection e3 with e3
  rw [e3] at e2
  injection e2 with e4
  exact absurd e4 (by decide)
theorem iter_ne {h : Heap} {it a : Addr} {k : Nat} {items : Array Value} (x : h.IsTupleIter it a k) (y : h.IsTuple a items) : a ≠ it := by
  intro z
  subst z
  obtain ⟨o, e1, e2, _⟩ := y
  obtain ⟨o2, e3, e4, _⟩ := x
  have e5 := e1.symm.trans e3
  injection e5 with e5
  rw [e5, e4] at e2
  injection e2 with e6
  exact absurd e6 (by decide)
theorem turn_iet {P : Program} {w : World} {K : PySem.W.Frag} {elts : List Expr} {kk : Nat} {tpos : Pos} (a e it : Addr) :
    Turn P w K (.Tuple elts kk tpos) (Iet K a) [e, it] e (fun i h => (∃ old, IsEnum h e it ((i : Nat) : Int) old) ∧ h.IsTupleIter it a i ∧ e ≠ it) where
  mem := List.mem_cons_self
  obj := by
    intro i h st b hb
    obtain ⟨⟨old, he⟩, ⟨o, ho, hc, hd⟩, _⟩ := st
    rcases List.mem_cons.mp hb with z | z
    · subst z; exact ⟨_, he, fun v q => nomatch q⟩
    · rw [List.mem_singleton.mp z]; exact ⟨o, ho, fun v q => by rw [hd] at q; cases q⟩
  keep := by
    intro i h h' st k
    obtain ⟨⟨old, he⟩, hi, hne⟩ := st
    exact ⟨⟨old, k e (by simp) _ he⟩, hi.at fun o q => k it (by simp) o q, hne⟩
  item := by
    intro X hP hw hK hc i pins u σ H E I hf st hg
    subst hP hw hK
    obtain ⟨⟨old, he⟩, hit, hne⟩ := st
    obtain ⟨xs, x, hq, hx⟩ := hg
    obtain ⟨its, rv, p, _⟩ := I.tuple hq
    obtain ⟨v, hv, rx⟩ := rv.get hx
    have pt : u.heap.IsTuple a its.toArray := p
    have lowe : e < u.heap.objs.size := Heap.lt_size he
    have lowi : it < u.heap.objs.size := by obtain ⟨_, q, _⟩ := hit; exact Heap.lt_size q
    have nea := enum_ne he pt
    have draws := Draws.tuple (prog := X.prog) (w := X.w) (A := X.A.in1) (I.ok.hd hc) it a (iter_ne hit pt) its.toArray
    have hil : i < its.toArray.size := by
      have := (List.getElem?_eq_some_iff.mp hv).1
      simpa using this
    refine wpAny_pyNext_enum_itemD draws he ⟨hit, pt⟩ hil hne (by simp [hne, nea]) fun v2 g tk hv2 out st2 hT hsz kept => ?_
    have ev : v2 = v := by
      rw [show its.toArray[i]? = some v by simpa using hv] at hv2
      exact (Option.some.inj hv2).symm
    subst ev
    refine ⟨_, rfl, wpAny_letOwnedTupleGo_enum (s := { u with heap := g, toks := tk + 1 }) out fun g2 he2 sb => ?_⟩
    have tup : g2.get? u.heap.objs.size = some { cls := .type "tuple", data := .seq #[.int i tk, v2] } := (sb.2 _ (Nat.ne_of_gt lowe)).trans hT
    have new : ObjOk X.prog X.w (upd H u.heap.objs.size (.tup [.int (i : Nat), x])) g2 u.heap.objs.size (.tup [.int (i : Nat), x]) := by
      refine ⟨?_, [.int i tk, v2], .cons ⟨_, rfl⟩ (.cons rx .nil), ⟨_, tup, rfl, _, rfl⟩⟩
      show 2 ≤ sizeLine
      decide
    have J : Inv X pins σ (upd H u.heap.objs.size (.tup [.int (i : Nat), x])) { u with heap := g2, toks := tk + 1 } := by
      refine I.turnedNew (ch := [e, it]) (fun b ob hb q => ?_) hf (Nat.le_refl _) new
      have b1 : b ≠ e := fun z => hb (by simp [z])
      have b2 : b ≠ it := fun z => hb (by simp [z])
      exact (sb.2 b b1).trans (kept b ob b1 b2 q)
    refine ⟨.ref u.heap.objs.size, _, J, rfl, ⟨_, x, rfl, I.hok.fresh (Nat.le_refl _), rfl, fun ys hy => by rw [I.tuple_inj hy hq]; exact hx⟩, ⟨⟨v2, ?_⟩, st2.1.at fun o q => (sb.2 it (Ne.symm hne)).trans q, hne⟩, fun b hb => ?_⟩
    · rw [show ((i + 1 : Nat) : Int) = (i : Int) + 1 by omega]
      exact he2
    · have low : b < u.heap.objs.size := by
        rcases List.mem_cons.mp hb with z | z
        · rw [z]; exact lowe
        · rw [List.mem_singleton.mp z]; exact lowi
      rw [upd_ne (Nat.ne_of_lt low)]
      exact (hf b hb).1
  done := by
    intro X hP hw hK hc i pins u σ H E I hf st hg
    subst hP hw hK
    obtain ⟨⟨old, he⟩, hit, hne⟩ := st
    obtain ⟨xs, hq, hx⟩ := hg
    obtain ⟨its, rv, p, _⟩ := I.tuple hq
    have pt : u.heap.IsTuple a its.toArray := p
    obtain ⟨f0, f1, f2, f3, f4, f5⟩ := hf it (by simp)
    have hl := rv.length
    have ends : Draws X.prog X.w X.A.in1 it [it, a] i (fun _ _ => True) (fun j h => j = i ∧ h.IsTupleIter it a i ∧ h.IsTuple a its.toArray) := by
      refine ⟨fun _ _ z => ?_, fun _ _ _ z k => ?_, fun j _ _ _ lt z => ?_, fun t Q2 E2 z q => ?_⟩
      · obtain ⟨_, ⟨o, ho, _⟩, _⟩ := z
        exact ⟨o, ho⟩
      · exact ⟨z.1, z.2.1.at fun o e => k it (by simp) o e, z.2.2.at fun o e => k a (by simp) o e⟩
      · have := z.1
        omega
      · exact wpAny_nextOf_tuple_end (I.ok.hd hc) z.2.1 z.2.2 (by simp; omega) q
    exact wpAny_pyNext_enum_endD ends he ⟨rfl, hit, pt⟩ fun g eb => ⟨rfl, I.turned (t' := u.toks) (fun b o hb q => eb b o hb q) f0 f1 f3 f4 f5⟩
  self := by
    intro A i u Q E st h
    obtain ⟨⟨_, he⟩, _⟩ := st
    exact wpAny_pyIter_enum he h
def iEnumT (K : PySem.W.Frag) (ta : TA) : TI := fun σ H R => ta σ H fun vs G => ∃ a xs, vs = [.ref a] ∧ SqT K G a xs ∧ R (Iet K a) G
theorem pi_enumT {X : Cx} {e : Expr} {ta : TA} {p pos tpos : Pos} {elts : List Expr} {kk : Nat} (glob : Gl X "enumerate") (unset : X.mg "enumerate" = none) (arg : PA X [e] ta) (one : starEach [e] X.env = [(false, eval e X.env)] := by rfl) :
    PI X (.Tuple elts kk tpos) (.Call (.Name "enumerate" p) [e] [] pos) (iEnumT X.K ta) := by
  constructor
  intro pins u σ H R I h
  refine Call_ (ld_blt I glob unset boot_enumerate (PyProof.Rows.callWith_type1 (thn (arg.run pos pins u σ H _ I h) fun us u1 ⟨vs, G, I1, r1, q1⟩ => ?_) one rfl))
  obtain ⟨a, xs, ex, hq, q⟩ := q1
  subst ex
  obtain rfl := Vals.ref1 r1
  obtain ⟨its, rv, pt, _⟩ := I1.tuple hq
  refine call_enum (begins_tuple a its.toArray) (show u1.heap.IsTuple a its.toArray from pt) fun g he hit hsz hk => wpAny_pyIter_enum he ?_
  have I2 : Inv X pins σ G { u1 with heap := g } := I1.kept (t' := u1.toks) hk
  refine ⟨u1.heap.objs.size + 1, [u1.heap.objs.size + 1, u1.heap.objs.size], _, _, G, rfl, I2, turn_iet a (u1.heap.objs.size + 1) u1.heap.objs.size, ⟨⟨.none, he⟩, ⟨_, hit, rfl, rfl⟩, Nat.succ_ne_self _⟩, fun b hb => ?_, q⟩
  have low : u1.heap.objs.size ≤ b := by
    rcases List.mem_cons.mp hb with z | z
    · rw [z]; exact Nat.le_add_right _ _
    · rw [List.mem_singleton.mp z]; exact Nat.le_refl _
  exact I1.fpOk low (I1.hok.fresh low)
/-- enumerate(t): each turn a new pair -/
theorem for_enumT {K : PySem.W.Frag} {l : Addr} {ys : List V} {g : TG} {tb : L2.TS} {D : Ends} {τ : L2.St} {G : Hp} (Pv : Nat → L2.St → Hp → Prop) (start : Pv 0 τ G) (stays : ∀ i σ H, i ≤ ys.length → Pv i σ H → SqT K H l ys)
    (turn : ∀ i x σ H T, ys[i]? = some x → Pv i σ H → H T = none → g (.ref T) σ (upd H T (.tup [.int (i : Nat), x])) fun σ2 H2 => tb { D with nx := Pv (i + 1), ct := Pv (i + 1), bk := D.nx } σ2 H2)
    (last : ∀ σ H, Pv ys.length σ H → D.nx σ H) :
    ∃ W : Nat → Nat → L2.St → Hp → Prop, (∃ m, W 0 m τ G) ∧ ∀ i m σ H, W i m σ H →
      ((Iet K l).stop i H ∧ D.nx σ H) ∨ ((Iet K l).go i H ∧ ∃ N : L2.St → Hp → Prop, (∀ σ' H', N σ' H' → ∃ m', m' < m ∧ W (i + 1) m' σ' H') ∧
        ∀ x H', (Iet K l).yld i H x H' → g x σ H' fun σ2 H2 => tb { D with nx := N, ct := N, bk := D.nx } σ2 H2) := by
  refine ⟨fun i m σ H => i ≤ ys.length ∧ m = ys.length - i ∧ Pv i σ H, ⟨ys.length, Nat.zero_le _, (Nat.sub_zero _).symm, start⟩, ?_⟩
  rintro i m σ H ⟨le, rfl, hv⟩
  have there := stays i σ H le hv
  by_cases lt : i < ys.length
  · refine .inr ⟨⟨ys, ys[i], there, List.getElem?_eq_getElem lt⟩, Pv (i + 1), fun σ' H' w => ⟨ys.length - (i + 1), by omega, lt, rfl, w⟩, ?_⟩
    rintro x H' ⟨T, y, rfl, hT, rfl, hy⟩
    exact turn i y σ H T (hy ys there) hv hT
  · have e : i = ys.length := by omega
    subst e
    exact .inl ⟨⟨ys, there, Nat.le_refl _⟩, last σ H hv⟩
/-- the outer walk of a two-for dict comprehension over a tuple that stays -/
theorem dc2_tup {K : PySem.W.Frag} {a : Addr} {xs : List V} {ga : TG} {wj : TI} {gb : TG} {tk tv : TE} {va vb : List Nat} {σ : L2.St} {G1 : Hp} {D : Addr} {fin : Hp → Prop} (Pv : Nat → Hp → Prop) (start : Pv 0 (upd G1 D (.dK []))) (stays : ∀ i H, i ≤ xs.length → Pv i H → SqT K H a xs)
    (turn : ∀ i x H, xs[i]? = some x → Pv i H → ga x (wipe σ va) H fun τ G2 => wipe τ va = wipe σ va ∧ wj τ G2 fun L G3 => ∃ V1 : Nat → Nat → Hp → Prop, (∃ k, V1 0 k G3) ∧ ∀ j k F, V1 j k F →
      (L.stop j F ∧ Pv (i + 1) F) ∨ (L.go j F ∧ ∃ Ny : Hp → Prop, (∀ F', Ny F' → ∃ k', k' < k ∧ V1 (j + 1) k' F') ∧ ∀ y F', L.yld j F y F' →
        gb y (wipe τ vb) F' fun ρ F2 => wipe ρ vb = wipe τ vb ∧ tk ρ F2 fun a F3 => tv ρ F3 fun b F4 => ∃ kvs key, a = kV key ∧ F4 D = some (.dK kvs) ∧ kvs.length < sizeLine ∧ Ny (upd F4 D (.dK (putK kvs key b)))))
    (last : ∀ H, Pv xs.length H → fin H) :
    ∃ W : Nat → Nat → Hp → Prop, (∃ m, W 0 m (upd G1 D (.dK []))) ∧ ∀ i m G, W i m G →
      ((Itt K a).stop i G ∧ fin G) ∨
      ((Itt K a).go i G ∧ ∃ Nx : Hp → Prop, (∀ G', Nx G' → ∃ m', m' < m ∧ W (i + 1) m' G') ∧ ∀ x G', (Itt K a).yld i G x G' →
        ga x (wipe σ va) G' fun τ G2 => wipe τ va = wipe σ va ∧
          wj τ G2 fun L G3 => ∃ V1 : Nat → Nat → Hp → Prop, (∃ k, V1 0 k G3) ∧ ∀ j k F, V1 j k F →
            (L.stop j F ∧ Nx F) ∨
            (L.go j F ∧ ∃ Ny : Hp → Prop, (∀ F', Ny F' → ∃ k', k' < k ∧ V1 (j + 1) k' F') ∧ ∀ y F', L.yld j F y F' →
              gb y (wipe τ vb) F' fun ρ F2 => wipe ρ vb = wipe τ vb ∧
                tk ρ F2 fun a F3 => tv ρ F3 fun b F4 => ∃ kvs key, a = kV key ∧ F4 D = some (.dK kvs) ∧ kvs.length < sizeLine ∧ Ny (upd F4 D (.dK (putK kvs key b))))) := by
  refine ⟨fun i m H => i ≤ xs.length ∧ m = xs.length - i ∧ Pv i H, ⟨xs.length, Nat.zero_le _, (Nat.sub_zero _).symm, start⟩, ?_⟩
  rintro i m H ⟨le, rfl, hv⟩
  have there := stays i H le hv
  by_cases lt : i < xs.length
  · refine .inr ⟨⟨xs, xs[i], there, List.getElem?_eq_getElem lt⟩, Pv (i + 1), fun H' w => ⟨xs.length - (i + 1), by omega, lt, rfl, w⟩, ?_⟩
    rintro x H' ⟨e, hy⟩
    subst e
    exact turn i x _ (hy xs there) hv
  · have e : i = xs.length := by omega
    subst e
    exact .inl ⟨⟨xs, there, Nat.le_refl _⟩, last H hv⟩
/-- its inner walk over a range -/
theorem dc2_range {lo : Int} {n : Nat} {gb : TG} {tk tv : TE} {vb : List Nat} {τ : L2.St} {F0 : Hp} {D : Addr} {fin : Hp → Prop} (Pv : Nat → Hp → Prop) (start : Pv 0 F0)
    (turn : ∀ j F, j < n → Pv j F → gb (.int (lo + j)) (wipe τ vb) F fun ρ F2 => wipe ρ vb = wipe τ vb ∧ tk ρ F2 fun a F3 => tv ρ F3 fun b F4 => ∃ kvs key, a = kV key ∧ F4 D = some (.dK kvs) ∧ kvs.length < sizeLine ∧ Pv (j + 1) (upd F4 D (.dK (putK kvs key b))))
    (last : ∀ F, Pv n F → fin F) :
    ∃ V1 : Nat → Nat → Hp → Prop, (∃ k, V1 0 k F0) ∧ ∀ j k F, V1 j k F →
      ((Itr lo n).stop j F ∧ fin F) ∨ ((Itr lo n).go j F ∧ ∃ Ny : Hp → Prop, (∀ F', Ny F' → ∃ k', k' < k ∧ V1 (j + 1) k' F') ∧ ∀ y F', (Itr lo n).yld j F y F' →
        gb y (wipe τ vb) F' fun ρ F2 => wipe ρ vb = wipe τ vb ∧ tk ρ F2 fun a F3 => tv ρ F3 fun b F4 => ∃ kvs key, a = kV key ∧ F4 D = some (.dK kvs) ∧ kvs.length < sizeLine ∧ Ny (upd F4 D (.dK (putK kvs key b)))) := by
  refine ⟨fun j left F => left + j = n ∧ Pv j F, ⟨n, rfl, start⟩, ?_⟩
  rintro j left F ⟨sum, hv⟩
  cases left with
  | zero =>
    have all : j = n := by omega
    exact .inl ⟨by rw [all]; exact Nat.le_refl n, last F (by rw [← all]; exact hv)⟩
  | succ left =>
    have less : j < n := by omega
    refine .inr ⟨less, Pv (j + 1), fun F' h => ⟨left, by omega, by omega, h⟩, ?_⟩
    rintro _ _ ⟨rfl, rfl⟩
    exact turn j _ less hv
end Sky

/-! Rules of my own: sum of a tuple of ints; within a comprehension. -/
namespace Sky
open PySem PySem.Spec PyProof.Rows L2
def rSumT (K : PySem.W.Frag) : List V → Hp → VK → Prop := fun vs H Q => ∃ (a : Addr) (ns : List Int), vs = [V.ref a] ∧ SqT K H a (ns.map V.int) ∧ Q (.int ns.sum) H
section
variable {X : Cx}
theorem cr_sumT (calm : X.calm = true) : CallR X (.builtin "sum") (rSumT X.K) := by
  intro pins u σ H vs us Q I r h
  obtain ⟨a, ns, rfl, hs, q⟩ := h
  obtain ⟨its, rv, pt, _⟩ := I.tuple hs
  rw [Vals.ref1 r]
  have hints := rv.ints
  obtain ⟨xs, ex⟩ := hints.allInts.items
  have en : numsOf (intItems xs).toList = ns := by rw [← ex]; exact hints.numsOf
  rw [nums_intItems] at en
  have pt2 : u.heap.IsTuple a its.toArray := pt
  rw [ex] at pt2
  refine PySem.W.ktm_sumG (I.ok.hd calm) pt2 fun h' tk t' hk => ?_
  rw [preSum_eq, List.take_of_length_le (by simp), en]
  exact ⟨.int _, H, I.kept (t' := tk) hk, ⟨_, rfl⟩, q⟩
theorem cr_sumTK {K : PySem.W.Frag} (h : X.K = K) (calm : X.calm = true) : CallR X (.builtin "sum") (rSumT K) := h ▸ cr_sumT calm
theorem sl_tupAK {K : PySem.W.Frag} (h : X.K = K) : SlR X (rSlA K) := h ▸ sl_tupA
end
end Sky

/-! Rules of my own: max of a tuple of ints; sum of a list, walks of tuples within comprehensions. -/
namespace Sky
open PySem PySem.Spec PyProof.Rows L2
def rMaxT (K : PySem.W.Frag) : List V → Hp → VK → Prop := fun vs H Q => ∃ (a : Addr) (ns : List Int), vs = [V.ref a] ∧ SqT K H a (ns.map V.int) ∧ ns ≠ [] ∧ ∀ m, m ∈ ns → (∀ j ∈ ns, j ≤ m) → Q (.int m) H
section
variable {X : Cx}
theorem cr_maxT (calm : X.calm = true) (few : X.A.units + 65 < cLine) : CallR X (.builtin "max") (rMaxT X.K) := by
  intro pins u σ H vs us Q I r h
  obtain ⟨a, ns, rfl, hs, hne, q1⟩ := h
  obtain ⟨its, rv, pt, _⟩ := I.tuple hs
  rw [Vals.ref1 r]
  have all : PySem.ReadsAll u.heap its.toArray.toList (ns.map .int) [] := IntsAre.reads u.heap rv.ints
  have flat : PyData.depthAll (ns.map PyData.int) = 0 := by
    have := depthAll_of (f := PyData.int) (k := 0) (xs := ns) fun x _ => by simp [PyData.depth]
    omega
  have alike : PySem.W.AlikeAll (ns.map PyData.int) := by
    refine ⟨fun x hx y hy => ?_, fun x hx => ?_⟩
    · obtain ⟨i, _, rfl⟩ := List.mem_map.mp hx
      obtain ⟨j, _, rfl⟩ := List.mem_map.mp hy
      rfl
    · obtain ⟨i, _, rfl⟩ := List.mem_map.mp hx
      intro e
      cases e
  cases ns with
  | nil => exact absurd rfl hne
  | cons n r =>
    refine PySem.W.max_tuple_data (I.ok.hd calm) (show u.heap.IsTuple a its.toArray from pt) all alike (by rw [show PyData.int n :: r.map PyData.int = (n :: r).map PyData.int from rfl, flat]; omega) fun i v h' tk bs hv hr hk => ?_
    rw [PySem.W.maxD_ints] at hr
    obtain ⟨g1, g2, g3⟩ := fold_max r n
    cases hr
    refine ⟨.int _, H, I.kept (t' := tk) hk, ⟨_, rfl⟩, q1 _ ?_ fun j hj => ?_⟩
    · rcases g1 with z | z
      · rw [z]; exact List.mem_cons_self
      · exact List.mem_cons_of_mem _ z
    · rcases List.mem_cons.mp hj with z | z
      · rw [z]; exact g2
      · exact g3 j z
theorem cr_sumK {K : PySem.W.Frag} (h : X.K = K) (calm : X.calm = true) : CallR X (.builtin "sum") (rSum K) := h ▸ cr_sum calm
theorem pi_tupK {K : PySem.W.Frag} {tg l : Expr} {tl : TE} (h : X.K = K) (hl : PE X l tl) : PI X tg l (iTup K tl) := h ▸ pi_tup hl
end
end Sky

/-! Rules of my own: dicts whose keys are tuples: del, setdefault, pop with a default; walks over their keys. -/
namespace Sky
open PySem PySem.Spec PyProof.Rows L2
/-- del d[y], y a tuple -/
def sDDelT (td ty : TE) : L2.TS := fun D σ H => td σ H fun x H1 => ty σ H1 fun y H2 => ∃ (a b : Addr) (kvs : List (List Key × V)) (k : List Key), x = .ref a ∧ y = .ref b ∧ H2 a = some (.dT kvs) ∧ H2 b = some (.tup (k.map kV)) ∧ (valV kvs k).isSome = true ∧ D.nx σ (upd H2 a (.dT (dropK kvs k)))
/-- d.setdefault(y, z), y a tuple -/
def tDSetdT (td ty tx : TE) : TE := fun σ H Q => td σ H fun x H1 => ∃ a, x = .ref a ∧ IsD H1 a ∧ ty σ H1 fun y H2 => tx σ H2 fun z H3 => ∃ (kvs : List (List Key × V)) (k : List Key) (b : Addr), H3 a = some (.dT kvs) ∧ y = .ref b ∧ H3 b = some (.tup (k.map kV)) ∧ kvs.length < sizeLine ∧
  (∀ v, valV kvs k = some v → Q v H3) ∧ (valV kvs k = none → Q z (upd H3 a (.dT (putK kvs k z))))
section
variable {X : Cx} {o i e f : Expr} {pos tpos apos cpos : Pos} {td ty tx : TE}
theorem ps_ddelT (hu : X.A.units + 1 < cLine) (ho : PE X o td) (hi : PE X i ty) : PS X (.Delete [.Subscript o i tpos] pos) (sDDelT td ty) := by
  refine ⟨fun pins s σ H D I h => ?_⟩
  refine wpAny_Delete (wpAny_deleteEach_cons (wpAny_delete_Subscript (thn (ho.run pins s σ H _ I h) fun u s1 ⟨x, H1, I1, rx, q1⟩ => thn (hi.run pins s1 σ H1 _ I1 q1) fun iv s2 ⟨y, H2, I2, ry, a, b, kvs, k, ex, ey, e, eb, l, q2⟩ => ?_)))
  subst ex ey
  obtain rfl : u = Value.ref a := rx
  obtain rfl : iv = Value.ref b := ry
  obtain ⟨z, hd, xs, rel, dd⟩ := dt_of I2.hok e
  have hz : xs.length ≤ sizeLine := by rw [← Paired.length rel]; exact z
  have q := (rel.val k).isSome_eq
  rw [l, Option.isSome_map] at q
  obtain ⟨p, hp⟩ := Option.isSome_iff_exists.mp q.symm
  refine wpAny_delItem_heap (tupleKind_room_in1 hu) (key_of I2.hok eb) hd dd hp (fun h' dd' hs => ?_) hz
  refine wpAny_deleteEach_nil ⟨σ, _, ?_, q2⟩
  obtain ⟨oo, es, ep, hq, h2, h3, h4, _, h5⟩ := dd'
  exact d_write I2 (by rw [e]; exact True.intro) hs ⟨oo, hq⟩ ⟨Nat.le_trans (dropK_le kvs k) z, hd, _, (L2.DX.KT_drop k rel).keeps (fun c ys ec => (by rw [upd_ne (ne_of ec e (fun z => nomatch z))]; exact ec)), oo, es, ep, hq, h2, h3, h4, h5⟩
theorem pe_dsetdT (hu : X.A.units + 1 < cLine) (ho : PE X o td) (he : PE X e ty) (hf : PE X f tx) (m : M2 X o "setdefault" apos e f cpos) : PE X (.Call (.Attribute o "setdefault" apos) [e, f] [] cpos) (tDSetdT td ty tx) := by
  refine ⟨fun pins s σ H Q I h => ?_⟩
  refine wpAny_Call_method m.base m.few m.line PySem.F.plainAttrs_dict PySem.F.slot_dict_setdefault PySem.F.type_dict_setdefault (thn (ho.run pins s σ H _ I h) fun u s1 ⟨x, H1, I1, rx, a, ex, d, q1⟩ => ?_)
  subst ex
  obtain rfl : u = Value.ref a := rx
  obtain ⟨t1, t2, _⟩ := isD_at I1 d
  refine ⟨t1, t2, ?_⟩
  rw [m.trees]
  refine Calls.callWith_builtin rfl (Calls.evalArgs_plain (Calls.spliced_cons (thn (he.run pins s1 σ H1 _ I1 q1) fun iv s2 ⟨y, H2, I2, ry, q2⟩ =>
    Calls.spliced_cons (thn (hf.run pins s2 σ H2 _ I2 q2) fun fv s3 ⟨z, H3, I3, rz, kvs, k, b, ea, ey, eb, hl, q3, q4⟩ => Calls.spliced_nil ?_))))
  subst ey
  obtain rfl : iv = Value.ref b := ry
  obtain ⟨zz, hd, xs, rel, dd⟩ := dt_of I3.hok ea
  have hz : xs.length ≤ sizeLine := by rw [← Paired.length rel]; exact zz
  refine call_setdefault_heap (tupleKind_room_in1 hu) (key_of I3.hok eb) hd dd (fun p hp => ?_) (fun hn h' dd' hs => ?_) hz
  · have q := rel.val k
    rw [hp] at q
    cases q0 : valV kvs k with
    | none =>
      rw [q0] at q
      exact (show False from q).elim
    | some v0 =>
      rw [q0] at q
      exact ⟨v0, _, I3.tok _, q, q3 v0 q0⟩
  · have q := rel.val k
    rw [hn] at q
    cases q0 : valV kvs k with
    | some v0 =>
      rw [q0] at q
      exact (show False from q).elim
    | none =>
      have hl2 : (putK kvs k z).length ≤ sizeLine := by
        have := length_putK kvs k z
        omega
      obtain ⟨oo, es, ep, hq, h2, h3, h4, _, h5⟩ := dd'
      have hk := (KT.put rel k eb rz)
      refine ⟨z, _, d_write (ob := .dT (putK kvs k z)) I3 (by rw [ea]; exact True.intro) hs ⟨oo, hq⟩ ⟨hl2, hd, _, hk.keeps (fun c ys ec => (by rw [upd_ne (ne_of ec ea (fun z => nomatch z))]; exact ec)), oo, es, ep, hq, h2, h3, h4, h5⟩, rz, q4 q0⟩
/-- a comprehension over the keys of a dict -/
theorem lc_keysT {d : Addr} {od : Obj} {kvs : List (List Key × V)} {g : TG} {tt : TT} {te : TE} {vs : List Nat} {σ : L2.St} {H1 : Hp} {D : Addr} {Qd : Hp → Prop} (Pv : Nat → Hp → Prop) (h0 : Pv 0 (upd H1 D (.lst []))) (hG : ∀ i H, i ≤ kvs.length → Pv i H → H d = some (.frz od (.dT kvs)))
    (hs : ∀ i k v q H, kvs[i]? = some (k, v) → H q = some (.tup (k.map kV)) → Pv i H → g (.ref q) (wipe σ vs) H fun σ2 H2 => wipe σ2 vs = wipe σ vs ∧ tt σ2 H2 fun b H3 =>
      if b = true then te σ2 H3 fun y H4 => ∃ acc, H4 D = some (.lst acc) ∧ acc.length < sizeLine ∧ Pv (i + 1) (upd H4 D (.lst (acc ++ [y]))) else Pv (i + 1) H3) (hd : ∀ H, Pv kvs.length H → Qd H) :
    ∃ W : Nat → Nat → Hp → Prop, (∃ m, W 0 m (upd H1 D (.lst []))) ∧ ∀ i m H, W i m H →
      ((Itkt d od kvs).stop i H ∧ Qd H) ∨ ((Itkt d od kvs).go i H ∧ ∃ Nx : Hp → Prop, (∀ H', Nx H' → ∃ m', m' < m ∧ W (i + 1) m' H') ∧ ∀ x H', (Itkt d od kvs).yld i H x H' → g x (wipe σ vs) H' fun σ2 H2 => wipe σ2 vs = wipe σ vs ∧ tt σ2 H2 fun b H3 =>
        if b = true then te σ2 H3 fun y H4 => ∃ acc, H4 D = some (.lst acc) ∧ acc.length < sizeLine ∧ Nx (upd H4 D (.lst (acc ++ [y]))) else Nx H3) :=
  lc_it (walk_keysT (d := d) (o := od) (kvs := kvs)) Pv h0 hG (fun i x H H' hi p y => by
    obtain ⟨rfl, k, v, q, h1, rfl, h2⟩ := y
    exact hs i k v q _ h1 h2 p) hd
/-- a loop over the keys of a dict -/
theorem for_keysT {d : Addr} {od : Obj} {kvs : List (List Key × V)} {g : TG} {tb : L2.TS} {D : Ends} {σ : L2.St} {H : Hp} (Pv : Nat → L2.St → Hp → Prop) (h0 : Pv 0 σ H) (hG : ∀ i σ H, i ≤ kvs.length → Pv i σ H → H d = some (.frz od (.dT kvs)))
    (hs : ∀ i k v q σ H, kvs[i]? = some (k, v) → H q = some (.tup (k.map kV)) → Pv i σ H → g (.ref q) σ H fun σ2 H2 => tb { D with nx := Pv (i + 1), ct := Pv (i + 1), bk := D.nx } σ2 H2) (hd : ∀ σ H, Pv kvs.length σ H → D.nx σ H) :
    ∃ W : Nat → Nat → L2.St → Hp → Prop, (∃ m, W 0 m σ H) ∧ ∀ i m σ H, W i m σ H →
      ((Itkt d od kvs).stop i H ∧ D.nx σ H) ∨ ((Itkt d od kvs).go i H ∧ ∃ N : L2.St → Hp → Prop, (∀ σ' H', N σ' H' → ∃ m', m' < m ∧ W (i + 1) m' σ' H') ∧ ∀ x H', (Itkt d od kvs).yld i H x H' → g x σ H' fun σ2 H2 => tb { D with nx := N, ct := N, bk := D.nx } σ2 H2) :=
  for_it (walk_keysT (d := d) (o := od) (kvs := kvs)) Pv h0 hG (fun i x σ H H' hi p y => by
    obtain ⟨rfl, k, v, q, h1, rfl, h2⟩ := y
    exact hs i k v q σ _ h1 h2 p) hd
end
/-- d.pop(y, z), y a tuple: whatever is told, the key is out -/
def rPopW : V → List V → Hp → VK → Prop := fun x xs H Q => ∃ (a : Addr) (kvs : List (List Key × V)) (k : List Key) (b : Addr) (d : V), x = .ref a ∧ xs = [.ref b, d] ∧ H a = some (.dT kvs) ∧ H b = some (.tup (k.map kV)) ∧
  ∀ v H', H' a = some (.dT (dropK kvs k)) → Keep [a] H H' → Dom H H' → Q v H'
theorem dropK_none {κ : Type} [DecidableEq κ] {kvs : List (κ × V)} {k : κ} (h : valV kvs k = none) : dropK kvs k = kvs := by
  unfold dropK
  refine List.filter_eq_self.mpr fun p hp => decide_eq_true fun e => ?_
  exact valV_not h (List.mem_map.mpr ⟨p, hp, e⟩)
theorem mt_popW {X : Cx} (hu : X.A.units + 1 < cLine) : MtR X "dict.pop" rPopW := by
  intro pins s σ H x xs v us Q I rx rxs h
  obtain ⟨a, kvs, k, b, d, rfl, rfl, ha, hb, q⟩ := h
  refine L2.DX.mt_popT hu pins s σ H _ _ v us Q I rx rxs ⟨a, kvs, k, b, d, rfl, rfl, ha, hb, fun v hv => ?_, fun hv => ?_⟩
  · exact q _ _ upd_same (keep_upd (Keep.refl _ _) (by simp)) (dom_upd _ _ _)
  · exact q _ _ (by rw [dropK_none hv]; exact ha) (Keep.refl _ _) (Dom.refl _)
/-- the lock is off again -/
theorem unlock {H H' : Hp} {d : Addr} {u : HO} (k : Keep [d] H H') (h : H d = some u) : Same H (upd H' d u) := fun b o e => by
  by_cases z : b = d
  · subst z
    rw [upd_same, ← h]
    exact e
  · rw [upd_ne z]
    exact k b o (by simpa using z) e
end Sky

/-! Cuts in walks: what holds behind a statement. -/
namespace Sky
open PySem PySem.Spec PyProof.Rows L2
section
variable {X b : L2.TS} {t : TT} {tb : L2.TS} {D : Ends} {σ : L2.St} {H : Hp} {i : Nat} {x : V} {r : VK} {k c : L2.St → Hp → Prop}
theorem seq_cut (R : L2.St → Hp → Prop) (rest : ∀ σ' H', R σ' H' → b D σ' H') (h : ∀ D' : Ends, (∀ σ' H', R σ' H' → D'.nx σ' H') → X D' σ H) : tSeq X b D σ H := h _ rest
theorem nx_cut (R : L2.St → Hp → Prop) (rest : ∀ σ' H', R σ' H' → b D σ' H') (h : ∀ D' : Ends, (∀ σ' H', R σ' H' → D'.nx σ' H') → X D' σ H) : Ends.nx ⟨tSeq X b D, r, k, c⟩ σ H := h _ rest
theorem gn_cut (R : L2.St → Hp → Prop) (rest : ∀ σ' H', R σ' H' → b D σ' H') (h : ∀ D' : Ends, (∀ σ' H', R σ' H' → D'.nx σ' H') → X D' (σ.set i (some x)) H) : gName i x σ H (Ends.nx ⟨tSeq X b D, r, k, c⟩) := h _ rest
theorem gb_cut (R : L2.St → Hp → Prop) (rest : ∀ σ' H', R σ' H' → b D σ' H') (h : ∀ D' : Ends, (∀ σ' H', R σ' H' → D'.nx σ' H') → X D' (σ.set i (some x)) H) : gName i x σ H (fun σ2 H2 => tSeq X b D σ2 H2) := h _ rest
theorem seq_ifs (Cd : Hp → Prop) (rest : ∀ H1, Cd H1 → b D σ H1) (h : ∀ Q : Bool → Hp → Prop, (∀ H1, Cd H1 → Q false H1) → t σ H Q) : tSeq (tIfS t tb tNext) b D σ H := h _ fun H1 c => iteF (rest H1 c)
theorem gn_ifs (Cd : Hp → Prop) (rest : ∀ H1, Cd H1 → b D (σ.set i (some x)) H1) (h : ∀ Q : Bool → Hp → Prop, (∀ H1, Cd H1 → Q false H1) → t (σ.set i (some x)) H Q) : gName i x σ H (Ends.nx ⟨tSeq (tIfS t tb tNext) b D, r, k, c⟩) := h _ fun H1 c => iteF (rest H1 c)
theorem nx_ifs (Cd : Hp → Prop) (rest : ∀ H1, Cd H1 → b D σ H1) (h : ∀ Q : Bool → Hp → Prop, (∀ H1, Cd H1 → Q false H1) → t σ H Q) : Ends.nx ⟨tSeq (tIfS t tb tNext) b D, r, k, c⟩ σ H := h _ fun H1 c => iteF (rest H1 c)
/-- no more arguments: a promise is asked -/
theorem nilA {G : Hp} {kk : List V → Hp → Prop} (h : kk [] G) : tNil σ G kk := h
end
end Sky

/-! Rules of my own: match a tuple against (word, name, ..). -/
namespace Sky
open PySem PySem.Spec PyProof.Rows L2
/-- a pattern's reading: what it binds, none where it doesn't fit -/
abbrev TPt := V → L2.St → Hp → (Option (List V) → Hp → Prop) → Prop
def BindsAs (ns : List Str) : Option (List (Str × Value)) → Option (List V) → Prop
  | none, none => True
  | some bs, some vs => bs.map (·.1) = ns ∧ Vals vs (bs.map (·.2))
  | _, _ => False
structure PMt (X : Cx) (p : Pattern) (ns : List Str) (t : TPt) : Prop where
  run : ∀ (pins : List (Addr × Obj)) (s : Shared) (σ : L2.St) (H : Hp) (v : V) (u : Value) (Q : Option (List V) → Hp → Prop), Inv X pins σ H s → RelV v u → t v σ H Q →
    wpAny (model X.prog X.w) X.A (matchPattern p X.env u) (fun r s' => ∃ o H', Inv X pins σ H' s' ∧ BindsAs ns r o ∧ Q o H') X.xe s
structure PMs (X : Cx) (ps : List Pattern) (ns : List Str) (t : List V → L2.St → Hp → (Option (List V) → Hp → Prop) → Prop) : Prop where
  run : ∀ (pins : List (Addr × Obj)) (s : Shared) (σ : L2.St) (H : Hp) (vs : List V) (us : List Value) (Q : Option (List V) → Hp → Prop), Inv X pins σ H s → Vals vs us → t vs σ H Q →
    wpAny (model X.prog X.w) X.A (matchEach ps X.env us) (fun r s' => ∃ o H', Inv X pins σ H' s' ∧ BindsAs ns r o ∧ Q o H') X.xe s
/-- a word -/
def ptWord (K : PySem.W.Frag) (w : Str) : TPt := fun v _ H Q => ∃ d, Dp K H v d ∧ SeqAt.shaped d = true ∧ Q (if PyData.eqv d (.str w) = true then some [] else none) H
def ptName : TPt := fun v _ H Q => Q (some [v]) H
def ptNil : List V → L2.St → Hp → (Option (List V) → Hp → Prop) → Prop := fun _ _ H Q => Q (some []) H
def ptCons (t : TPt) (u : List V → L2.St → Hp → (Option (List V) → Hp → Prop) → Prop) : List V → L2.St → Hp → (Option (List V) → Hp → Prop) → Prop :=
  fun vs σ H Q => ∃ x r, vs = x :: r ∧ t x σ H fun o H1 => match o with
    | none => Q none H1
    | some a => u r σ H1 fun o2 H2 => match o2 with
      | none => Q none H2
      | some b => Q (some (a ++ b)) H2
def ptSeq (K : PySem.W.Frag) (n : Nat) (u : List V → L2.St → Hp → (Option (List V) → Hp → Prop) → Prop) : TPt := fun v σ H Q => ∃ a xs, v = .ref a ∧ SqT K H a xs ∧ ((xs.length = n → u xs σ H Q) ∧ (xs.length ≠ n → Q none H))
section
variable {X : Cx}
theorem pm_word (few : X.A.units + 64 < cLine) {w : Str} {j : Nat} {p1 p2 : Pos} (ok : PyData.strOk w = true := by decide) : PMt X (.MatchValue (.Constant (.str w) j p1) p2) [] (ptWord X.K w) := by
  constructor
  rintro pins s σ H v u Q I r ⟨d, hd, sd, q⟩
  refine wpAny_matchPattern_Value (thn (pe_str.run pins s σ H (fun y H1 => y = V.str w ∧ H1 = H) I ⟨rfl, rfl⟩) fun x s1 ⟨y, H1, I1, ry, e1, e2⟩ => ?_)
  subst e1 e2
  have sw : SeqAt.shaped (.str w) = true := by
    unfold SeqAt.shaped
    simp [PyData.canLay0, PyData.depth, ok]
  refine thn (op_eqD few pins s1 σ H1 v (.str w) u x (fun z H2 => z = V.bl (PyData.eqv d (.str w)) ∧ H2 = H1) I1 r ry ⟨d, .str w, hd, .str w, sd, sw, rfl, rfl⟩) fun c s2 ⟨z, H2, I2, rz, e3, e4⟩ => ?_
  subst e3 e4
  cases rz
  refine wpAny_truthy_bool ?_
  by_cases e : PyData.eqv d (.str w) = true
  · rw [if_pos e] at q
    rw [e]
    exact ⟨some [], H2, I2, ⟨rfl, .nil⟩, q⟩
  · rw [if_neg e] at q
    rw [if_neg e]
    exact ⟨none, H2, I2, True.intro, q⟩
theorem pm_name {n : Str} {p : Pos} : PMt X (.MatchAs none (some n) p) [n] ptName := by
  constructor
  intro pins s σ H v u Q I r q
  exact wpAny_matchPattern_Capture ⟨some [v], H, I, ⟨rfl, .cons r .nil⟩, q⟩
theorem pms_nil : PMs X [] [] ptNil := by
  constructor
  intro pins s σ H vs us Q I r q
  exact wpAny_matchEach_nil ⟨some [], H, I, ⟨rfl, .nil⟩, q⟩
theorem vals_app {vs ws : List V} {us xs : List Value} (h : Vals vs us) (k : Vals ws xs) : Vals (vs ++ ws) (us ++ xs) := by
  induction h with
  | nil => exact k
  | cons a _ ih => exact .cons a ih
theorem pms_cons {p : Pattern} {ps : List Pattern} {n m : List Str} {t : TPt} {u : List V → L2.St → Hp → (Option (List V) → Hp → Prop) → Prop} (a : PMt X p n t) (b : PMs X ps m u) (hp : p.isStar = false := by rfl) : PMs X (p :: ps) (n ++ m) (ptCons t u) := by
  constructor
  rintro pins s σ H vs us Q I r ⟨x, rs, rfl, q⟩
  cases r with
  | cons rx rr =>
    refine wpAny_matchEach_cons (thn (a.run pins s σ H x _ _ I rx q) fun o s1 h1 => ?_) hp
    obtain ⟨o1, H1, I1, e1, q1⟩ := h1
    cases o with
    | none =>
      cases o1 with
      | none => exact ⟨none, H1, I1, True.intro, q1⟩
      | some v => exact e1.elim
    | some bs =>
      cases o1 with
      | none => exact e1.elim
      | some v =>
        refine thn (b.run pins s1 σ H1 rs _ _ I1 rr q1) fun o2 s2 h2 => ?_
        obtain ⟨o3, H2, I2, e2, q2⟩ := h2
        cases o2 with
        | none =>
          cases o3 with
          | none => exact ⟨none, H2, I2, True.intro, q2⟩
          | some v => exact e2.elim
        | some cs =>
          cases o3 with
          | none => exact e2.elim
          | some w =>
            refine ⟨some (v ++ w), H2, I2, ⟨?_, ?_⟩, q2⟩
            · rw [List.map_append, e1.1, e2.1]
            · rw [List.map_append]; exact vals_app e1.2 e2.2
theorem pm_seq (calm : X.calm = true) {ps : List Pattern} {pos : Pos} {ns : List Str} {k : Nat} {u : List V → L2.St → Hp → (Option (List V) → Hp → Prop) → Prop} (h : PMs X ps ns u) (hk : ps.length = k := by rfl)
    (hstar : ps.findIdx? (·.isStar) = none := by rfl) (hwild : (ps.all fun p => p.isWildcard || (p.isStar && p.names.isEmpty)) = false := by rfl) : PMt X (.MatchSequence ps pos) ns (ptSeq X.K k u) := by
  constructor
  rintro pins s σ H v w Q I r ⟨a, xs, rfl, hq, q1, q2⟩
  cases r
  obtain ⟨its, rv, ht, hz⟩ := I.tuple hq
  have hl : its.toArray.size = xs.length := by simp [rv.length]
  have hfit : (its.toArray.size : Int) < 2 ^ 63 := by
    rw [hl]
    have : xs.length ≤ 16777216 := by rw [← sizeLine_eq]; exact hz
    omega
  have I2 : Inv X pins σ H { s with toks := s.toks + 1 + 1 } := I.kept (t' := s.toks + 1 + 1) fun _ _ e => e
  by_cases e : xs.length = k
  · refine matchSeq_tuple_hit ht hfit (by rw [hl, e, hk]) ?_ hstar hwild
    have ht2 : IsTup ({ s with toks := s.toks + 1 + 1 } : Shared).heap a its.toArray := ht
    have e2 : its.toArray.size = ps.length := by rw [hl, e, hk]
    rw [← e2]
    refine unpackItems_tuple (I.ok.hd calm) ht2 fun h' hx => ?_
    have I3 : Inv X pins σ H { s with heap := h', toks := s.toks + 1 + 1 } := I.kept (t' := s.toks + 1 + 1) fun b o e => hx b o (Nat.ne_of_lt (Heap.lt_size e)) e
    exact h.run pins _ σ H xs _ Q I3 (by simpa using rv) (q1 e)
  · refine matchSeq_tuple_miss ht hfit (by rw [hl, hk]; exact e) ?_ hstar hwild
    exact ⟨none, H, I2, True.intro, q2 e⟩
end
/-! ### cases -/
def setN : List Nat → List V → L2.St → L2.St
  | i :: is, v :: vs, σ => setN is vs (σ.set i (some v))
  | _, _, σ => σ
structure PCs (X : Cx) (cs : List MatchCase) (t : V → L2.TS) : Prop where
  run : ∀ (pins : List (Addr × Obj)) (s : Shared) (σ : L2.St) (H : Hp) (v : V) (u : Value) (first : Bool) (D : Ends), Inv X pins σ H s → RelV v u → t v D σ H →
    wpAny (model X.prog X.w) X.A (matchCases cs X.env u first) (SP X pins D) X.xe s
def tCsNil : V → L2.TS := fun _ D σ H => D.nx σ H
def tCsCons (is : List Nat) (p : TPt) (b : L2.TS) (r : V → L2.TS) : V → L2.TS := fun v D σ H => p v σ H fun o H1 => match o with
  | none => r v D σ H1
  | some vs => b D (setN is vs σ) H1
def tMatch (te : TE) (t : V → L2.TS) : L2.TS := fun D σ H => te σ H fun v H1 => t v D σ H1
/-- the slots of the names -/
inductive Slots (X : Cx) : List Str → List Nat → Prop
  | nil : Slots X [] []
  | cons {n : Str} {i : Nat} {ns : List Str} {is : List Nat} : X.N[i]? = some n → Loc X.env.scope n → (X.fn n = true ∨ X.env.scope.names.lookup n = some .local) → Slots X ns is → Slots X (n :: ns) (i :: is)
section
variable {X : Cx}
theorem pcs_nil : PCs X [] tCsNil := by
  constructor
  intro pins s σ H v u first D I r q
  exact wpAny_matchCases_nil ⟨σ, H, I, q⟩
theorem binds_run (nd : X.N.Nodup) {pins : List (Addr × Obj)} {H : Hp} {Q : L2.St → Prop} {T : Unit → Shared → Prop} : ∀ {bs : List (Str × Value)} {ns : List Str} {is : List Nat} {vs : List V} {s : Shared} {σ : L2.St}, Slots X ns is → bs.map (·.1) = ns → Vals vs (bs.map (·.2)) → Inv X pins σ H s → Q (setN is vs σ) →
    (∀ s', Inv X pins (setN is vs σ) H s' → T () s') → wpAny (model X.prog X.w) X.A (assignInOrder (bs.map fun (n, _) => bindName X.env n) (bs.map (·.2))) T X.xe s
  | [], _, _, vs, s, σ, sl, e, r, I, q, k => by
    cases e
    cases sl
    cases r
    exact wpAny_assignInOrder_none (k s I)
  | (n, x) :: bs, _, _, vs, s, σ, sl, e, r, I, q, k => by
    cases e
    cases sl with
    | cons h1 h2 h3 sl =>
      cases r with
      | cons rx rr =>
        refine wpAny_assignInOrder_more (wpAny_bindName (store_ok I nd h1 h2 rx (fun s' I' => ?_) h3))
        exact binds_run nd sl rfl rr I' q k
theorem pcs_cons (nd : X.N.Nodup) {p : Pattern} {body : List Stmt} {cs : List MatchCase} {ns : List Str} {is : List Nat} {t : TPt} {b : L2.TS} {r : V → L2.TS} (hp : PMt X p ns t) (sl : Slots X ns is) (hb : PSs X body b) (hr : PCs X cs r) : PCs X (⟨p, none, body⟩ :: cs) (tCsCons is t b r) := by
  constructor
  intro pins s σ H v u first D I rv q
  refine wpAny_matchCases_cons (thn (hp.run pins s σ H v u _ I rv q) fun o s1 h1 => ?_)
  obtain ⟨o1, H1, I1, e1, q1⟩ := h1
  cases o with
  | none =>
    cases o1 with
    | none => exact hr.run pins s1 σ H1 v u false D I1 rv q1
    | some v => exact e1.elim
  | some bs =>
    cases o1 with
    | none => exact e1.elim
    | some vs =>
      exact binds_run (Q := fun _ => True) nd sl e1.1 e1.2 I1 True.intro fun s2 I2 => hb.run pins s2 _ H1 D I2 q1
theorem ps_match {e : Expr} {cs : List MatchCase} {pos : Pos} {te : TE} {t : V → L2.TS} (he : PE X e te) (hc : PCs X cs t) : PS X (.Match e cs pos) (tMatch te t) := by
  constructor
  intro pins s σ H D I q
  exact wpAny_Match (thn (he.run pins s σ H _ I q) fun u s1 ⟨v, H1, I1, r, q1⟩ => hc.run pins s1 σ H1 v u true D I1 r q1)
end
/-! ### what a match of a tuple asks, shortly -/
theorem eqv_str (a b : Str) : PyData.eqv (.str a) (.str b) = decide (a = b) := by
  by_cases e : a = b
  · subst e; simp [PyData.eqv]
  · simp [PyData.eqv, e]
theorem case_hit {K : PySem.W.Frag} {w : Str} {n : Nat} {u : List V → L2.St → Hp → (Option (List V) → Hp → Prop) → Prop} {σ : L2.St} {H : Hp} {a : Addr} {xs : List V} {Q : Option (List V) → Hp → Prop} (h : SqT K H a (.str w :: xs)) (e : xs.length + 1 = n)
    (ok : PyData.strOk w = true) (q : u xs σ H fun o H1 => match o with | none => Q none H1 | some b => Q (some b) H1) : ptSeq K n (ptCons (ptWord K w) u) (.ref a) σ H Q := by
  refine ⟨a, _, rfl, h, fun _ => ⟨_, _, rfl, .str w, .str w, ?_, ?_⟩, fun z => absurd e z⟩
  · unfold SeqAt.shaped; simp [PyData.canLay0, PyData.depth, ok]
  · rw [eqv_str, decide_eq_true rfl, if_pos rfl]
    exact q
theorem case_miss {K : PySem.W.Frag} {w w' : Str} {n : Nat} {u : List V → L2.St → Hp → (Option (List V) → Hp → Prop) → Prop} {σ : L2.St} {H : Hp} {a : Addr} {xs : List V} {Q : Option (List V) → Hp → Prop} (h : SqT K H a (.str w' :: xs)) (e : xs.length + 1 ≠ n ∨ w' ≠ w)
    (ok : PyData.strOk w' = true) (q : Q none H) : ptSeq K n (ptCons (ptWord K w) u) (.ref a) σ H Q := by
  refine ⟨a, _, rfl, h, fun z => ⟨_, _, rfl, .str w', .str w', ?_, ?_⟩, fun _ => q⟩
  · unfold SeqAt.shaped; simp [PyData.canLay0, PyData.depth, ok]
  · rcases e with e | e
    · exact absurd z e
    · rw [eqv_str, decide_eq_false e, if_neg (by decide)]
      exact q
end Sky
namespace Sky
open PySem PySem.Spec PyProof.Rows L2
/-! ### xs[::n], n written, at least 1 -/
def stepI (n : Nat) (len : Nat) : List Nat := sliceRange 0 (len : Int) (n : Int)
def stepL (n : Nat) (xs : List V) : List V := (stepI n xs.length).filterMap (xs[·]?)
def tStepL (K : PySem.W.Frag) (n : Nat) (te : TE) : TE := fun σ H Q => te σ H fun x H1 => ∃ a xs, x = .ref a ∧ SqL K H1 a xs ∧ (stepL n xs).length ≤ sizeLine ∧ ∀ p, H1 p = none → Q (.ref p) (upd H1 p (.lst (stepL n xs)))
theorem vals_pick {xs : List V} {its : List Value} (r : Vals xs its) : ∀ is : List Nat, Vals (is.filterMap (xs[·]?)) (is.filterMap (its[·]?))
  | [] => .nil
  | i :: is => by
    have ih := vals_pick r is
    cases h : xs[i]? with
    | none =>
      have h2 : its[i]? = none := by
        rw [List.getElem?_eq_none_iff] at h ⊢
        rw [← r.length]; exact h
      rw [List.filterMap_cons_none h, List.filterMap_cons_none h2]
      exact ih
    | some x =>
      obtain ⟨v, hv, rx⟩ := r.get h
      rw [List.filterMap_cons_some h, List.filterMap_cons_some hv]
      exact .cons rx ih
theorem pe_stepL {X : Cx} {e : Expr} {te : TE} {n : Nat} {k : Nat} {p1 p3 pos : Pos} (he : PE X e te) (h0 : 0 < n := by decide) : PE X (.Subscript e (.Slice none none (some (.Constant (.int (n : Int)) k p1)) p3) pos) (tStepL X.K n te) := by
  refine ⟨fun pins s σ H Q I h => ?_⟩
  refine Subscript_ (thn (he.run pins s σ H _ I h) fun v s1 ⟨x, H1, I1, r1, q1⟩ => ?_)
  obtain ⟨a, xs, ex, hx, hl, q⟩ := q1
  subst ex
  cases r1
  have hst : PO X (some (.Constant (.int (n : Int)) k p1)) (tPart (tC (.int (n : Int)))) := po_some pe_int
  refine wpAny_Slice (thn (po_none.run pins s1 σ H1 (fun o H2 => o = none ∧ H2 = H1) I1 ⟨rfl, rfl⟩) fun vl s2 ⟨l, H2, I2, pl, el, e2⟩ => ?_)
  subst el e2
  refine thn (po_none.run pins s2 σ H2 (fun o H3 => o = none ∧ H3 = H2) I2 ⟨rfl, rfl⟩) fun vu s3 ⟨u, H3, I3, pu, eu, e3⟩ => ?_
  subst eu e3
  refine thn (hst.run pins s3 σ H3 (fun o H4 => o = some (n : Int) ∧ H4 = H3) I3 ⟨(n : Int), rfl, rfl, rfl⟩) fun vs s4 ⟨o, H4, I4, ps, eo, e4⟩ => ?_
  subst eo e4
  have I5 : Inv X pins σ H4 { s4 with heap := s4.heap.push { cls := .type "slice", data := .fields #[vl, vu, vs] } } := I4.kept (t' := s4.toks) fun b ob q => Heap.get?_push_of_some _ q
  obtain ⟨its, r, ht, hz⟩ := I5.list hx
  have hlen := r.length
  show wpAny (model X.prog X.w) X.A (subscriptTail e (.Slice none none (some (.Constant (.int (n : Int)) k p1)) p3) (.ref a) (.ref s4.heap.objs.size)) (EP X pins σ Q) X.xe { s4 with heap := s4.heap.push { cls := .type "slice", data := .fields #[vl, vu, vs] } }
  refine tail_any (ops := [.ref a, .ref s4.heap.objs.size]) ht.isList.typeIs (PySem.slot_list_getitem.lookup) ?_ (by with_unfolding_all rfl)
  refine wpAny_getItem_list_slice ht.isList (Heap.IsSliceOf.new _ vl vu vs) pl pu ps (by intro z; injection z with z; omega) ?_ (by rw [List.size_toArray]; omega)
  have epick : slicePick its.toArray none none (some (n : Int)) = ((stepI n xs.length).filterMap (its[·]?)).toArray := by
    unfold slicePick
    have eb : sliceBounds none none (some (n : Int)) its.toArray.size = (0, ((its.toArray.size : Nat) : Int), (n : Int)) := by
      unfold sliceBounds
      have : (n : Int) > 0 := by omega
      have n0 : ¬ n = 0 := by omega
      simp [this, n0]
    rw [eb]
    show ((sliceRange 0 ((its.toArray.size : Nat) : Int) (n : Int)).filterMap (its.toArray[·]?)).toArray = _
    rw [List.size_toArray, ← hlen]
    congr 1
    refine congrArg (fun f => List.filterMap f _) (funext fun i => ?_)
    simp
  rw [epick]
  refine ⟨.ref _, _, I5.laid (t' := s4.toks) (o := .lst (stepL n xs)) (fun b ob q => Heap.get?_push_of_some _ q) (Nat.le_refl _) ?_, rfl, q _ (I5.hok.fresh (Nat.le_refl _))⟩
  exact ⟨hl, _, 0, vals_pick r _, Heap.get?_push_size _ rfl⟩
end Sky

/-! Rules of my own: l.remove of data, d.update, a tuple taken once. -/
namespace Sky
open PySem PySem.Spec PyProof.Rows L2
/-! ### l.remove(x), items data -/
theorem er_size (us : Array Value) (at' : Nat) : (us.eraseIdxIfInBounds at').size ≤ us.size := by
  unfold Array.eraseIdxIfInBounds
  split
  · rw [Array.size_eraseIdx]; omega
  · exact Nat.le_refl _
/-- the list object -/
abbrev lob (us : Array Value) (cap : Nat) : Obj := { cls := .type "list", dict := none, data := .seq us cap, slots := #[] }
theorem drop_walk (me : Addr) (us : Array Value) (cap : Nat) (what : Value) (fits : Value → Bool) (goal : Nat) (inside : goal < us.size) (yes : fits us[goal] = true) (small : us.size ≤ sizeLine) (far : Nat) :
    ∀ now : Nat, goal - now = far → now ≤ goal → (∀ k (hk : k < us.size), now ≤ k → k < goal → fits us[k] = false) →
      Meets (Builtin.«list.remove.loop» ⟨[.ref me, what, rawInt now], []⟩) (fun A R s => s.heap.get? me = some (lob us cap) ∧ (∀ y, y ∈ us → SeqAt.EqAt A.in1 s y what (fits y)) ∧
        R (.ok (.ret .none)) { s with heap := s.heap.update me (Obj.mapSeq fun vs => vs.eraseIdxIfInBounds goal) }) := by
  induction far with
  | zero =>
    intro now gap upto others prog w A R s got
    obtain ⟨heap0, gen0, dr0, tk0, sys0⟩ := s
    obtain ⟨here, same, after⟩ := got
    obtain rfl : now = goal := by omega
    wp_walk using wpAny_loadPart' here
    have pick : us[((now : Nat) : Int).toNat]? = some us[now] := by simp [inside]
    rw [pick]
    refine wpAny_bind (same us[now] (Array.getElem_mem inside) prog w _ _ ?_)
    rw [yes]
    have less : (us.eraseIdxIfInBounds now).size ≤ sizeLine + 1 := Nat.le_succ_of_le (Nat.le_trans (er_size us now) small)
    wp_walk using (wpAny_updateSeq here rfl (hz := small) (_hz' := less)), wpAny_loadPart' here
    simpa using after
  | succ far more =>
    intro now gap upto others prog w A R s got
    obtain ⟨heap0, gen0, dr0, tk0, sys0⟩ := s
    obtain ⟨here, same, after⟩ := got
    have inside' : now < us.size := by omega
    wp_walk using wpAny_loadPart' here
    have pick : us[((now : Nat) : Int).toNat]? = some us[now] := by simp [inside']
    have next : ((now : Int) + 1) = ((now + 1 : Nat) : Int) := by push_cast; rfl
    rw [pick]
    refine wpAny_bind (same us[now] (Array.getElem_mem inside') prog w _ _ ?_)
    rw [others now inside' (Nat.le_refl _) (by omega)]
    wp_walk
    rw [next]
    refine ⟨plainId_quiet MeetsSeq.plain_remove_loop _, codeAny_builtin MeetsSeq.entry_remove_loop ?_⟩
    rw [Around.under_plainId MeetsSeq.plain_remove_loop _]
    exact more (now + 1) (by omega) (by omega) (fun k hk a b => others k hk (by omega) b) prog w A R _ ⟨here, same, after⟩
theorem drop_meets (me : Addr) (us : Array Value) (cap : Nat) (what : Value) (fits : Value → Bool) (goal : Nat) (inside : goal < us.size) (yes : fits us[goal] = true)
    (others : ∀ k (hk : k < us.size), k < goal → fits us[k] = false) (small : us.size ≤ sizeLine) :
    Meets (Builtin.«list.remove» ⟨[.ref me, what], []⟩) (fun A R s => s.heap.get? me = some (lob us cap) ∧ (∀ y, y ∈ us → SeqAt.EqAt A.in1 s y what (fits y)) ∧
      R (.ok (.ret .none)) { s with heap := s.heap.update me (Obj.mapSeq fun vs => vs.eraseIdxIfInBounds goal) }) := by
  intro prog w A R s got
  obtain ⟨heap0, gen0, dr0, tk0, sys0⟩ := s
  obtain ⟨here, same, after⟩ := got
  wp_walk using wpAny_loadPart' here
  refine ⟨plainId_quiet MeetsSeq.plain_remove_loop _, codeAny_builtin MeetsSeq.entry_remove_loop ?_⟩
  rw [Around.under_plainId MeetsSeq.plain_remove_loop _]
  exact drop_walk me us cap what fits goal inside yes small _ 0 rfl (Nat.zero_le _) (fun k hk _ b => others k hk b) prog w A R _ ⟨here, same, after⟩
section
variable {X : Cx}
def rRemD (K : PySem.W.Frag) : V → List V → Hp → VK → Prop := fun x xs H Q => ∃ (l : Addr) (y : V) (d : PyData) (vs : List V) (ds : List PyData) (j : Nat) (z : PyData), x = .ref l ∧ xs = [y] ∧ H l = some (.lst vs) ∧ DpAll K H vs ds ∧ Dp K H y d ∧
  SeqAt.shaped (.list ds) = true ∧ SeqAt.shaped d = true ∧ ds[j]? = some z ∧ PyData.eqv z d = true ∧ (∀ (m : Nat) (z' : PyData), m < j → ds[m]? = some z' → PyData.eqv z' d = false) ∧ Q .non (upd H l (.lst (vs.eraseIdx j)))
theorem mt_removeD (hu : X.A.units + 65 < cLine) : MtM X "list.remove" (rRemD X.K) := by
  intro pins s σ H x xs v us Q I rx rxs told
  obtain ⟨l, y, d, vs, ds, j, w, rfl, rfl, hl, dall, dy, shl, shd, hjw, yes, others, after⟩ := told
  cases rx
  obtain ⟨uy, rfl, ry⟩ := rxs.one
  obtain ⟨fits, its, cap, rel, len, obj⟩ := I.lstM hl
  obtain ⟨bs, ready⟩ := Dp.reads I d y uy dy ry
  obtain ⟨as, reads⟩ := Dp.readsAll I ds _ its dall rel
  have lay : PyData.canLayAll0 ds = true := SeqAt.canLay_of_shaped shl
  have room : X.A.units + 1 + min (PyData.depthAll ds) d.depth < cLine := room_in_shaped shd hu
  have many : its.length = ds.length := SeqAt.ReadsAll.length ds its as reads
  have back : its.map (SeqAt.readOf s.heap) = ds := SeqAt.readsAll_map ds its as lay reads
  have inside : j < its.toArray.size := by rw [List.size_toArray, many]; exact (List.getElem?_eq_some_iff.mp hjw).1
  have told : ∀ (k : Nat) (hk : k < its.toArray.size) (e : PyData), ds[k]? = some e → SeqAt.readOf s.heap its.toArray[k] = e := fun k hk e he => by
    have hk' : k < its.length := by rw [List.size_toArray] at hk; exact hk
    rw [← back, List.getElem?_map, List.getElem?_eq_getElem hk'] at he
    exact Option.some.inj he
  refine call_meets PySem.F.slot_list_remove ⟨_, obj, rfl⟩ PySem.F.entry_list_remove (PySem.F.args_list_remove_2 _ _)
    (drop_meets l its.toArray cap uy (fun u => PyData.eqv (SeqAt.readOf s.heap u) d) j inside (by show PyData.eqv (SeqAt.readOf s.heap its.toArray[j]) d = true; rw [told j inside w hjw]; exact yes) (fun k hk less => ?_) (by rw [List.size_toArray, ← len]; exact fits))
    ⟨obj, SeqAt.items_eqAt (vs := its.toArray) reads ready lay (SeqAt.canLay_of_shaped shd) room, .non, _, I.lset (its' := its.eraseIdx j) hl obj (by show its.toArray.eraseIdxIfInBounds j = _; rw [List.eraseIdxIfInBounds_toArray]) (rel.eraseIdx j) (Nat.le_trans (List.length_eraseIdx_le vs j) fits), rfl, after⟩
  have hk2 : k < ds.length := by rw [List.size_toArray] at hk; omega
  show PyData.eqv (SeqAt.readOf s.heap its.toArray[k]) d = false
  rw [told k hk ds[k] (List.getElem?_eq_getElem hk2)]
  exact others k _ less (List.getElem?_eq_getElem hk2)
/-! ### d.update(d2), both of short keys -/
def rUpdK : V → List V → Hp → VK → Prop := fun x xs H Q => ∃ (a b : Addr) (ks ms : List (Key × V)), x = .ref a ∧ xs = [.ref b] ∧ a ≠ b ∧ H a = some (.dK ks) ∧ H b = some (.dK ms) ∧ ks.length + ms.length ≤ sizeLine ∧ Q .non (upd H a (.dK (mergeK ks ms)))
theorem mt_updK : MtM X "dict.update" rUpdK := by
  intro pins s σ H x xs v us Q I rx rxs told
  obtain ⟨a, b, ks, ms, rfl, rfl, apart, ha, hb, fits, after⟩ := told
  cases rx
  obtain ⟨ub, rfl, rb⟩ := rxs.one
  cases (show ub = Value.ref b from rb)
  obtain ⟨_, plainA, va, relA, isA⟩ := dk_of I.hok ha
  obtain ⟨_, plainB, vb, relB, isB⟩ := dk_of I.hok hb
  refine call_meetsIn PySem.F.slot_dict_update isA.typeIs PySem.F.entry_dict_update (PySem.F.args_dict_update_2 _ _) (meets_dict_update (mixKind X.prog X.w) a b apart plainB)
    ⟨va, vb, isA, isB, by rw [← relA.length, ← relB.length]; exact fits, fun h' new _ but => ?_⟩
  have some' : ∃ ob, h'.get? a = some ob := let ⟨ob, _, _, e, _⟩ := new; ⟨ob, e⟩
  exact ⟨.non, _, d_write I (by rw [ha]; exact True.intro) but some' (dk_new (Nat.le_trans (length_mergeK ms ks) fits) plainA (KV.merge relB relA) new), rfl, after⟩
end
end Sky
/-! ### a tuple taken once -/
namespace Sky
open PySem PySem.Spec PyProof.Rows L2
theorem once_meets (me : Addr) (us : Array Value) (cap : Nat) (own : Option Addr) (sls : Array (Option Value)) (tk : Tok) :
    Meets (Builtin.«tuple.__mul__» ⟨[.ref me, .int 1 tk], []⟩)
      (fun _ R s => s.heap.get? me = some { cls := .type "tuple", dict := own, data := .seq us cap, slots := sls } ∧ R (.ok (.ret (Value.ref me))) s) :=
  .of_wp fun prog w A R s got => by
    obtain ⟨heap0, gen0, dr0, tk0, sys0⟩ := s
    obtain ⟨here, after⟩ := got
    have f1 := AutoSeq1.idx_int
    wp_walk using wpAny_loadPart' here
    exact ⟨_, rfl, after⟩
def rOnceT (K : PySem.W.Frag) : R2 := fun x y H Q => ∃ l xs, x = .ref l ∧ y = .int 1 ∧ SqT K H l xs ∧ Q (.ref l) H
theorem op_onceT {X : Cx} : OpR X (binaryOp .Mult) (rOnceT X.K) := by
  intro pins s σ H x y v u Q I rx ry told
  obtain ⟨l, xs, rfl, rfl, isT, after⟩ := told
  cases rx
  obtain ⟨tk, rfl⟩ := ry
  obtain ⟨its, rel, ⟨⟨cls, own, data, sls⟩, obj, isC, cap, isD⟩, _⟩ := I.tuple isT
  simp only at isC isD
  subst isC isD
  refine wpAny_binaryOp_repeat_ref (T := "tuple") (U := "int") (by decide) ⟨_, obj, rfl⟩ (fun s' => typeIs_int s' 1 tk) noFill_tuple_mul F.fills_int_mul F.slot_int_rmul repeat_tuple F.slot_int_index.lookup
    (call_meets F.slot_int_rmul (typeIs_int s 1 tk) F.entry_int_rmul (F.args_int_rmul_2 _ _) (int_rmul_tuple 1 tk l its.toArray cap own sls)
      ⟨obj, rfl, ⟨_, obj, rfl⟩, call_meets F.slot_tuple_mul ⟨_, obj, rfl⟩ F.entry_tuple_mul (F.args_tuple_mul_2 _ _) (once_meets l its.toArray cap own sls tk) ⟨obj, .ref l, H, I, rfl, after⟩⟩)
end Sky

namespace K04
open PySem PySem.Spec PyProof.Rows L2 Sky
def topS (i : Nat) : Stmt := PySem.Challenge.pw_skyframes_k04_a_craft_step_by_step.main.body.getD i (.Pass ⟨0, 0, 0, 0⟩)
abbrev s_is_number : Stmt := topS 14
abbrev N_is_number : List Str := ["value", "low", "high"]
theorem sc_is_number : FnScope N_is_number ["value", "low", "high"] (defScope s_is_number) := ⟨rfl, rfl, rfl, by decide +kernel, rfl, by decide +kernel, by decide +kernel⟩
abbrev s_is_stream : Stmt := topS 15
abbrev N_is_stream : List Str := ["value"]
theorem sc_is_stream : FnScope N_is_stream ["value"] (defScope s_is_stream) := ⟨rfl, rfl, rfl, by decide +kernel, rfl, by decide +kernel, by decide +kernel⟩
abbrev s_holds_numbers : Stmt := topS 16
abbrev N_holds_numbers : List Str := ["value", "number"]
theorem sc_holds_numbers : FnScope N_holds_numbers ["value"] (defScope s_holds_numbers) := ⟨rfl, rfl, rfl, by decide +kernel, rfl, by decide +kernel, by decide +kernel⟩
abbrev s_is_telling : Stmt := topS 17
abbrev N_is_telling : List Str := ["value"]
theorem sc_is_telling : FnScope N_is_telling ["value"] (defScope s_is_telling) := ⟨rfl, rfl, rfl, by decide +kernel, rfl, by decide +kernel, by decide +kernel⟩
abbrev s_is_mark : Stmt := topS 18
abbrev N_is_mark : List Str := ["value", "stream", "count"]
theorem sc_is_mark : FnScope N_is_mark ["value"] (defScope s_is_mark) := ⟨rfl, rfl, rfl, by decide +kernel, rfl, by decide +kernel, by decide +kernel⟩
abbrev s_check_stream : Stmt := topS 19
abbrev N_check_stream : List Str := ["stream"]
theorem sc_check_stream : FnScope N_check_stream ["stream"] (defScope s_check_stream) := ⟨rfl, rfl, rfl, by decide +kernel, rfl, by decide +kernel, by decide +kernel⟩
abbrev s_check_telling : Stmt := topS 20
abbrev N_check_telling : List Str := ["telling"]
theorem sc_check_telling : FnScope N_check_telling ["telling"] (defScope s_check_telling) := ⟨rfl, rfl, rfl, by decide +kernel, rfl, by decide +kernel, by decide +kernel⟩
abbrev s_check_size : Stmt := topS 21
abbrev N_check_size : List Str := ["size"]
theorem sc_check_size : FnScope N_check_size ["size"] (defScope s_check_size) := ⟨rfl, rfl, rfl, by decide +kernel, rfl, by decide +kernel, by decide +kernel⟩
abbrev s_check_room : Stmt := topS 22
abbrev N_check_room : List Str := ["room"]
theorem sc_check_room : FnScope N_check_room ["room"] (defScope s_check_room) := ⟨rfl, rfl, rfl, by decide +kernel, rfl, by decide +kernel, by decide +kernel⟩
abbrev s_check_marks : Stmt := topS 23
abbrev N_check_marks : List Str := ["marks", "at", "mark"]
theorem sc_check_marks : FnScope N_check_marks ["marks"] (defScope s_check_marks) := ⟨rfl, rfl, rfl, by decide +kernel, rfl, by decide +kernel, by decide +kernel⟩
abbrev s_Laying_init : Stmt := inClass (topS 26) 0
abbrev N_Laying_init : List Str := ["self", "stream", "size"]
theorem sc_Laying_init : FnScope N_Laying_init ["self", "stream", "size"] (defScope s_Laying_init) := ⟨rfl, rfl, rfl, by decide +kernel, rfl, by decide +kernel, by decide +kernel⟩
abbrev s_Laying_lay : Stmt := inClass (topS 26) 1
abbrev N_Laying_lay : List Str := ["self", "telling", "laid", "full", "number"]
theorem sc_Laying_lay : FnScope N_Laying_lay ["self", "telling"] (defScope s_Laying_lay) := ⟨rfl, rfl, rfl, by decide +kernel, rfl, by decide +kernel, by decide +kernel⟩
abbrev s_Laying_fill : Stmt := inClass (topS 26) 2
abbrev N_Laying_fill : List Str := ["self"]
theorem sc_Laying_fill : FnScope N_Laying_fill ["self"] (defScope s_Laying_fill) := ⟨rfl, rfl, rfl, by decide +kernel, rfl, by decide +kernel, by decide +kernel⟩
abbrev s_Laying_done : Stmt := inClass (topS 26) 3
abbrev N_Laying_done : List Str := ["self", "frame"]
theorem sc_Laying_done : FnScope N_Laying_done ["self"] (defScope s_Laying_done) := ⟨rfl, rfl, rfl, by decide +kernel, rfl, by decide +kernel, by decide +kernel⟩
abbrev s_Craft_init : Stmt := inClass (topS 28) 0
abbrev N_Craft_init : List Str := ["self", "size", "room", "stream"]
theorem sc_Craft_init : FnScope N_Craft_init ["self", "size", "room"] (defScope s_Craft_init) := ⟨rfl, rfl, rfl, by decide +kernel, rfl, by decide +kernel, by decide +kernel⟩
abbrev s_Craft_tell : Stmt := inClass (topS 28) 1
abbrev N_Craft_tell : List Str := ["self", "stream", "data", "laying", "number", "frame"]
theorem sc_Craft_tell : FnScope N_Craft_tell ["self", "stream", "data"] (defScope s_Craft_tell) := ⟨rfl, rfl, rfl, by decide +kernel, rfl, by decide +kernel, by decide +kernel⟩
abbrev s_Craft_close : Stmt := inClass (topS 28) 2
abbrev N_Craft_close : List Str := ["self", "stream", "frame"]
theorem sc_Craft_close : FnScope N_Craft_close ["self", "stream"] (defScope s_Craft_close) := ⟨rfl, rfl, rfl, by decide +kernel, rfl, by decide +kernel, by decide +kernel⟩
abbrev s_Craft_begin : Stmt := inClass (topS 28) 3
abbrev N_Craft_begin : List Str := ["self", "fresh"]
theorem sc_Craft_begin : FnScope N_Craft_begin ["self"] (defScope s_Craft_begin) := ⟨rfl, rfl, rfl, by decide +kernel, rfl, by decide +kernel, by decide +kernel⟩
abbrev s_Craft_shut : Stmt := inClass (topS 28) 4
abbrev N_Craft_shut : List Str := ["self", "ended"]
theorem sc_Craft_shut : FnScope N_Craft_shut ["self"] (defScope s_Craft_shut) := ⟨rfl, rfl, rfl, by decide +kernel, rfl, by decide +kernel, by decide +kernel⟩
abbrev s_Craft_beat : Stmt := inClass (topS 28) 5
abbrev N_Craft_beat : List Str := ["self", "mark"]
theorem sc_Craft_beat : FnScope N_Craft_beat ["self"] (defScope s_Craft_beat) := ⟨rfl, rfl, rfl, by decide +kernel, rfl, by decide +kernel, by decide +kernel⟩
abbrev s_Craft_known : Stmt := inClass (topS 28) 6
abbrev N_Craft_known : List Str := ["self", "marks", "many", "mark"]
theorem sc_Craft_known : FnScope N_Craft_known ["self", "marks"] (defScope s_Craft_known) := ⟨rfl, rfl, rfl, by decide +kernel, rfl, by decide +kernel, by decide +kernel⟩
abbrev s_Craft_again : Stmt := inClass (topS 28) 7
abbrev N_Craft_again : List Str := ["self", "marks", "others", "mark"]
theorem sc_Craft_again : FnScope N_Craft_again ["self", "marks"] (defScope s_Craft_again) := ⟨rfl, rfl, rfl, by decide +kernel, rfl, by decide +kernel, by decide +kernel⟩
abbrev s_Craft_kept : Stmt := inClass (topS 28) 8
abbrev N_Craft_kept : List Str := ["self", "rows", "stream", "count", "state"]
theorem sc_Craft_kept : FnScope N_Craft_kept ["self"] (defScope s_Craft_kept) := ⟨rfl, rfl, rfl, by decide +kernel, rfl, by decide +kernel, by decide +kernel⟩
abbrev s_Craft_lost : Stmt := inClass (topS 28) 9
abbrev N_Craft_lost : List Str := ["self"]
theorem sc_Craft_lost : FnScope N_Craft_lost ["self"] (defScope s_Craft_lost) := ⟨rfl, rfl, rfl, by decide +kernel, rfl, by decide +kernel, by decide +kernel⟩
abbrev s_Craft_waits : Stmt := inClass (topS 28) 10
abbrev N_Craft_waits : List Str := ["self"]
theorem sc_Craft_waits : FnScope N_Craft_waits ["self"] (defScope s_Craft_waits) := ⟨rfl, rfl, rfl, by decide +kernel, rfl, by decide +kernel, by decide +kernel⟩
abbrev s_Craft_next_mark : Stmt := inClass (topS 28) 11
abbrev N_Craft_next_mark : List Str := ["self", "fresh", "line", "mark"]
theorem sc_Craft_next_mark : FnScope N_Craft_next_mark ["self"] (defScope s_Craft_next_mark) := ⟨rfl, rfl, rfl, by decide +kernel, rfl, by decide +kernel, by decide +kernel⟩
abbrev s_Craft_keep : Stmt := inClass (topS 28) 12
abbrev N_Craft_keep : List Str := ["self", "frame"]
theorem sc_Craft_keep : FnScope N_Craft_keep ["self", "frame"] (defScope s_Craft_keep) := ⟨rfl, rfl, rfl, by decide +kernel, rfl, by decide +kernel, by decide +kernel⟩
abbrev s_Craft_make_room : Stmt := inClass (topS 28) 13
abbrev N_Craft_make_room : List Str := ["self", "sent", "oldest", "mark"]
theorem sc_Craft_make_room : FnScope N_Craft_make_room ["self"] (defScope s_Craft_make_room) := ⟨rfl, rfl, rfl, by decide +kernel, rfl, by decide +kernel, by decide +kernel⟩
abbrev s_Craft_let_go : Stmt := inClass (topS 28) 14
abbrev N_Craft_let_go : List Str := ["self", "mark"]
theorem sc_Craft_let_go : FnScope N_Craft_let_go ["self", "mark"] (defScope s_Craft_let_go) := ⟨rfl, rfl, rfl, by decide +kernel, rfl, by decide +kernel, by decide +kernel⟩
abbrev s_law_mix : Stmt := topS 30
abbrev N_law_mix : List Str := ["_law_script", "_law_seed", "_law_mixed", "_law_cell"]
theorem sc_law_mix : FnScope N_law_mix ["_law_script", "_law_seed"] (defScope s_law_mix) := ⟨rfl, rfl, rfl, by decide +kernel, rfl, by decide +kernel, by decide +kernel⟩
abbrev s_law_next : Stmt := topS 31
abbrev N_law_next : List Str := ["_law_h", "_law_many_here", "_law_at", "_law_cell"]
theorem sc_law_next : FnScope N_law_next ["_law_h", "_law_many_here"] (defScope s_law_next) := ⟨rfl, rfl, rfl, by decide +kernel, rfl, by decide +kernel, by decide +kernel⟩
abbrev s_law_alike : Stmt := topS 32
abbrev N_law_alike : List Str := ["_law_found", "_law_due", "_law_k"]
theorem sc_law_alike : FnScope N_law_alike ["_law_found", "_law_due"] (defScope s_law_alike) := ⟨rfl, rfl, rfl, by decide +kernel, rfl, by decide +kernel, by decide +kernel⟩
abbrev s_law_data : Stmt := topS 33
abbrev N_law_data : List Str := ["_law_h", "_law_many_here", "_law_k"]
theorem sc_law_data : FnScope N_law_data ["_law_h"] (defScope s_law_data) := ⟨rfl, rfl, rfl, by decide +kernel, rfl, by decide +kernel, by decide +kernel⟩
abbrev s_law_fresh : Stmt := topS 34
abbrev N_law_fresh : List Str := ["_law_size"]
theorem sc_law_fresh : FnScope N_law_fresh ["_law_size"] (defScope s_law_fresh) := ⟨rfl, rfl, rfl, by decide +kernel, rfl, by decide +kernel, by decide +kernel⟩
abbrev s_law_lay : Stmt := topS 35
abbrev N_law_lay : List Str := ["_law_s", "_law_data_here", "_law_seq"]
theorem sc_law_lay : FnScope N_law_lay ["_law_s", "_law_data_here"] (defScope s_law_lay) := ⟨rfl, rfl, rfl, by decide +kernel, rfl, by decide +kernel, by decide +kernel⟩
abbrev s_law_fill : Stmt := topS 36
abbrev N_law_fill : List Str := ["_law_s", "_law_rest"]
theorem sc_law_fill : FnScope N_law_fill ["_law_s"] (defScope s_law_fill) := ⟨rfl, rfl, rfl, by decide +kernel, rfl, by decide +kernel, by decide +kernel⟩
abbrev s_law_many : Stmt := topS 37
abbrev N_law_many : List Str := ["_law_s"]
theorem sc_law_many : FnScope N_law_many ["_law_s"] (defScope s_law_many) := ⟨rfl, rfl, rfl, by decide +kernel, rfl, by decide +kernel, by decide +kernel⟩
abbrev s_law_frame : Stmt := topS 38
abbrev N_law_frame : List Str := ["_law_s", "_law_stream", "_law_count", "_law_low", "_law_high", "_law_some", "_law_start", "_law_data_here"]
theorem sc_law_frame : FnScope N_law_frame ["_law_s", "_law_stream", "_law_count"] (defScope s_law_frame) := ⟨rfl, rfl, rfl, by decide +kernel, rfl, by decide +kernel, by decide +kernel⟩
abbrev s_law_craft : Stmt := topS 40
abbrev N_law_craft : List Str := ["_law_size", "_law_room", "_law_c", "_law_k"]
theorem sc_law_craft : FnScope N_law_craft ["_law_size", "_law_room"] (defScope s_law_craft) := ⟨rfl, rfl, rfl, by decide +kernel, rfl, by decide +kernel, by decide +kernel⟩
abbrev s_law_keeps : Stmt := topS 41
abbrev N_law_keeps : List Str := ["_law_c", "_law_stream", "_law_sent", "_law_gone", "_law_pair", "_law_mark"]
theorem sc_law_keeps : FnScope N_law_keeps ["_law_c", "_law_stream"] (defScope s_law_keeps) := ⟨rfl, rfl, rfl, by decide +kernel, rfl, by decide +kernel, by decide +kernel⟩
abbrev s_law_beat : Stmt := topS 42
abbrev N_law_beat : List Str := ["_law_c", "_law_fresh_here", "_law_mark", "_law_pair"]
theorem sc_law_beat : FnScope N_law_beat ["_law_c"] (defScope s_law_beat) := ⟨rfl, rfl, rfl, by decide +kernel, rfl, by decide +kernel, by decide +kernel⟩
abbrev s_law_known : Stmt := topS 43
abbrev N_law_known : List Str := ["_law_c", "_law_marks_here", "_law_ahead", "_law_pair", "_law_mark"]
theorem sc_law_known : FnScope N_law_known ["_law_c", "_law_marks_here"] (defScope s_law_known) := ⟨rfl, rfl, rfl, by decide +kernel, rfl, by decide +kernel, by decide +kernel⟩
abbrev s_law_again : Stmt := topS 44
abbrev N_law_again : List Str := ["_law_c", "_law_marks_here", "_law_kept", "_law_mark", "_law_pair"]
theorem sc_law_again : FnScope N_law_again ["_law_c", "_law_marks_here"] (defScope s_law_again) := ⟨rfl, rfl, rfl, by decide +kernel, rfl, by decide +kernel, by decide +kernel⟩
abbrev s_law_marks : Stmt := topS 45
abbrev N_law_marks : List Str := ["_law_h", "_law_many_here", "_law_far", "_law_k"]
theorem sc_law_marks : FnScope N_law_marks ["_law_h", "_law_many_here"] (defScope s_law_marks) := ⟨rfl, rfl, rfl, by decide +kernel, rfl, by decide +kernel, by decide +kernel⟩
abbrev s_law_deed : Stmt := topS 46
abbrev N_law_deed : List Str := ["_law_h", "_law_c", "_law_craft_here", "_law_way", "_law_stream", "_law_data_here", "_law_due", "_law_is_on", "_law_mark", "_law_marks_here", "_law_handed", "_law_good", "_law_found", "_law_k"]
theorem sc_law_deed : FnScope N_law_deed ["_law_h", "_law_c", "_law_craft_here"] (defScope s_law_deed) := ⟨rfl, rfl, rfl, by decide +kernel, rfl, by decide +kernel, by decide +kernel⟩
abbrev s_law : Stmt := topS 47
abbrev N_law : List Str := ["_law_script", "_law_h", "_law_size", "_law_room", "_law_c", "_law_craft_here", "_law_stream", "_law_turn", "_law_data_here", "_law_found", "_law_one", "_law_pair"]
theorem sc_law : FnScope N_law ["_law_script"] (defScope s_law) := ⟨rfl, rfl, rfl, by decide +kernel, rfl, by decide +kernel, by decide +kernel⟩
structure Tx (K : PySem.W.Frag) (mg : Str → Option Value) where
  A_Laying : Addr
  A_Craft : Addr
  a_is_number : Addr
  d_is_number : FuncData
  F_is_number : Fun K "is_number" "is_number" s_is_number a_is_number d_is_number
  b_is_number : Binds K d_is_number ["value", "low", "high"] []
  m_is_number : mg "is_number" = some (.ref a_is_number)
  a_is_stream : Addr
  d_is_stream : FuncData
  F_is_stream : Fun K "is_stream" "is_stream" s_is_stream a_is_stream d_is_stream
  b_is_stream : Binds K d_is_stream ["value"] []
  m_is_stream : mg "is_stream" = some (.ref a_is_stream)
  a_holds_numbers : Addr
  d_holds_numbers : FuncData
  F_holds_numbers : Fun K "holds_numbers" "holds_numbers" s_holds_numbers a_holds_numbers d_holds_numbers
  b_holds_numbers : Binds K d_holds_numbers ["value"] []
  m_holds_numbers : mg "holds_numbers" = some (.ref a_holds_numbers)
  a_is_telling : Addr
  d_is_telling : FuncData
  F_is_telling : Fun K "is_telling" "is_telling" s_is_telling a_is_telling d_is_telling
  b_is_telling : Binds K d_is_telling ["value"] []
  m_is_telling : mg "is_telling" = some (.ref a_is_telling)
  a_is_mark : Addr
  d_is_mark : FuncData
  F_is_mark : Fun K "is_mark" "is_mark" s_is_mark a_is_mark d_is_mark
  b_is_mark : Binds K d_is_mark ["value"] []
  m_is_mark : mg "is_mark" = some (.ref a_is_mark)
  a_check_stream : Addr
  d_check_stream : FuncData
  F_check_stream : Fun K "check_stream" "check_stream" s_check_stream a_check_stream d_check_stream
  b_check_stream : Binds K d_check_stream ["stream"] []
  m_check_stream : mg "check_stream" = some (.ref a_check_stream)
  a_check_telling : Addr
  d_check_telling : FuncData
  F_check_telling : Fun K "check_telling" "check_telling" s_check_telling a_check_telling d_check_telling
  b_check_telling : Binds K d_check_telling ["telling"] []
  m_check_telling : mg "check_telling" = some (.ref a_check_telling)
  a_check_size : Addr
  d_check_size : FuncData
  F_check_size : Fun K "check_size" "check_size" s_check_size a_check_size d_check_size
  b_check_size : Binds K d_check_size ["size"] []
  m_check_size : mg "check_size" = some (.ref a_check_size)
  a_check_room : Addr
  d_check_room : FuncData
  F_check_room : Fun K "check_room" "check_room" s_check_room a_check_room d_check_room
  b_check_room : Binds K d_check_room ["room"] []
  m_check_room : mg "check_room" = some (.ref a_check_room)
  a_check_marks : Addr
  d_check_marks : FuncData
  F_check_marks : Fun K "check_marks" "check_marks" s_check_marks a_check_marks d_check_marks
  b_check_marks : Binds K d_check_marks ["marks"] []
  m_check_marks : mg "check_marks" = some (.ref a_check_marks)
  a_Laying_init : Addr
  d_Laying_init : FuncData
  F_Laying_init : Fun K "__init__" "Laying.__init__" s_Laying_init a_Laying_init d_Laying_init
  b_Laying_init : Binds K d_Laying_init ["self", "stream", "size"] []
  a_Laying_lay : Addr
  d_Laying_lay : FuncData
  F_Laying_lay : Fun K "lay" "Laying.lay" s_Laying_lay a_Laying_lay d_Laying_lay
  b_Laying_lay : Binds K d_Laying_lay ["self", "telling"] []
  M_Laying_lay : Meth K A_Laying "lay" a_Laying_lay
  a_Laying_fill : Addr
  d_Laying_fill : FuncData
  F_Laying_fill : Fun K "fill" "Laying.fill" s_Laying_fill a_Laying_fill d_Laying_fill
  b_Laying_fill : Binds K d_Laying_fill ["self"] []
  M_Laying_fill : Meth K A_Laying "fill" a_Laying_fill
  a_Laying_done : Addr
  d_Laying_done : FuncData
  F_Laying_done : Fun K "_done" "Laying._done" s_Laying_done a_Laying_done d_Laying_done
  b_Laying_done : Binds K d_Laying_done ["self"] []
  M_Laying_done : Meth K A_Laying "_done" a_Laying_done
  a_Craft_init : Addr
  d_Craft_init : FuncData
  F_Craft_init : Fun K "__init__" "Craft.__init__" s_Craft_init a_Craft_init d_Craft_init
  b_Craft_init : Binds K d_Craft_init ["self", "size", "room"] []
  a_Craft_tell : Addr
  d_Craft_tell : FuncData
  F_Craft_tell : Fun K "tell" "Craft.tell" s_Craft_tell a_Craft_tell d_Craft_tell
  b_Craft_tell : Binds K d_Craft_tell ["self", "stream", "data"] []
  M_Craft_tell : Meth K A_Craft "tell" a_Craft_tell
  a_Craft_close : Addr
  d_Craft_close : FuncData
  F_Craft_close : Fun K "close" "Craft.close" s_Craft_close a_Craft_close d_Craft_close
  b_Craft_close : Binds K d_Craft_close ["self", "stream"] []
  M_Craft_close : Meth K A_Craft "close" a_Craft_close
  a_Craft_begin : Addr
  d_Craft_begin : FuncData
  F_Craft_begin : Fun K "begin" "Craft.begin" s_Craft_begin a_Craft_begin d_Craft_begin
  b_Craft_begin : Binds K d_Craft_begin ["self"] []
  M_Craft_begin : Meth K A_Craft "begin" a_Craft_begin
  a_Craft_shut : Addr
  d_Craft_shut : FuncData
  F_Craft_shut : Fun K "shut" "Craft.shut" s_Craft_shut a_Craft_shut d_Craft_shut
  b_Craft_shut : Binds K d_Craft_shut ["self"] []
  M_Craft_shut : Meth K A_Craft "shut" a_Craft_shut
  a_Craft_beat : Addr
  d_Craft_beat : FuncData
  F_Craft_beat : Fun K "beat" "Craft.beat" s_Craft_beat a_Craft_beat d_Craft_beat
  b_Craft_beat : Binds K d_Craft_beat ["self"] []
  M_Craft_beat : Meth K A_Craft "beat" a_Craft_beat
  a_Craft_known : Addr
  d_Craft_known : FuncData
  F_Craft_known : Fun K "known" "Craft.known" s_Craft_known a_Craft_known d_Craft_known
  b_Craft_known : Binds K d_Craft_known ["self", "marks"] []
  M_Craft_known : Meth K A_Craft "known" a_Craft_known
  a_Craft_again : Addr
  d_Craft_again : FuncData
  F_Craft_again : Fun K "again" "Craft.again" s_Craft_again a_Craft_again d_Craft_again
  b_Craft_again : Binds K d_Craft_again ["self", "marks"] []
  M_Craft_again : Meth K A_Craft "again" a_Craft_again
  a_Craft_kept : Addr
  d_Craft_kept : FuncData
  F_Craft_kept : Fun K "kept" "Craft.kept" s_Craft_kept a_Craft_kept d_Craft_kept
  b_Craft_kept : Binds K d_Craft_kept ["self"] []
  M_Craft_kept : Meth K A_Craft "kept" a_Craft_kept
  a_Craft_lost : Addr
  d_Craft_lost : FuncData
  F_Craft_lost : Fun K "lost" "Craft.lost" s_Craft_lost a_Craft_lost d_Craft_lost
  b_Craft_lost : Binds K d_Craft_lost ["self"] []
  M_Craft_lost : Meth K A_Craft "lost" a_Craft_lost
  a_Craft_waits : Addr
  d_Craft_waits : FuncData
  F_Craft_waits : Fun K "waits" "Craft.waits" s_Craft_waits a_Craft_waits d_Craft_waits
  b_Craft_waits : Binds K d_Craft_waits ["self"] []
  M_Craft_waits : Meth K A_Craft "waits" a_Craft_waits
  a_Craft_next_mark : Addr
  d_Craft_next_mark : FuncData
  F_Craft_next_mark : Fun K "_next_mark" "Craft._next_mark" s_Craft_next_mark a_Craft_next_mark d_Craft_next_mark
  b_Craft_next_mark : Binds K d_Craft_next_mark ["self"] []
  M_Craft_next_mark : Meth K A_Craft "_next_mark" a_Craft_next_mark
  a_Craft_keep : Addr
  d_Craft_keep : FuncData
  F_Craft_keep : Fun K "_keep" "Craft._keep" s_Craft_keep a_Craft_keep d_Craft_keep
  b_Craft_keep : Binds K d_Craft_keep ["self", "frame"] []
  M_Craft_keep : Meth K A_Craft "_keep" a_Craft_keep
  a_Craft_make_room : Addr
  d_Craft_make_room : FuncData
  F_Craft_make_room : Fun K "_make_room" "Craft._make_room" s_Craft_make_room a_Craft_make_room d_Craft_make_room
  b_Craft_make_room : Binds K d_Craft_make_room ["self"] []
  M_Craft_make_room : Meth K A_Craft "_make_room" a_Craft_make_room
  a_Craft_let_go : Addr
  d_Craft_let_go : FuncData
  F_Craft_let_go : Fun K "_let_go" "Craft._let_go" s_Craft_let_go a_Craft_let_go d_Craft_let_go
  b_Craft_let_go : Binds K d_Craft_let_go ["self", "mark"] []
  M_Craft_let_go : Meth K A_Craft "_let_go" a_Craft_let_go
  a_law_mix : Addr
  d_law_mix : FuncData
  F_law_mix : Fun K "_law_mix" "_law_mix" s_law_mix a_law_mix d_law_mix
  b_law_mix : Binds K d_law_mix ["_law_script", "_law_seed"] []
  m_law_mix : mg "_law_mix" = some (.ref a_law_mix)
  a_law_next : Addr
  d_law_next : FuncData
  F_law_next : Fun K "_law_next" "_law_next" s_law_next a_law_next d_law_next
  b_law_next : Binds K d_law_next ["_law_h", "_law_many_here"] []
  m_law_next : mg "_law_next" = some (.ref a_law_next)
  a_law_alike : Addr
  d_law_alike : FuncData
  F_law_alike : Fun K "_law_alike" "_law_alike" s_law_alike a_law_alike d_law_alike
  b_law_alike : Binds K d_law_alike ["_law_found", "_law_due"] []
  m_law_alike : mg "_law_alike" = some (.ref a_law_alike)
  a_law_data : Addr
  d_law_data : FuncData
  F_law_data : Fun K "_law_data" "_law_data" s_law_data a_law_data d_law_data
  b_law_data : Binds K d_law_data ["_law_h"] []
  m_law_data : mg "_law_data" = some (.ref a_law_data)
  a_law_fresh : Addr
  d_law_fresh : FuncData
  F_law_fresh : Fun K "_law_fresh" "_law_fresh" s_law_fresh a_law_fresh d_law_fresh
  b_law_fresh : Binds K d_law_fresh ["_law_size"] []
  m_law_fresh : mg "_law_fresh" = some (.ref a_law_fresh)
  a_law_lay : Addr
  d_law_lay : FuncData
  F_law_lay : Fun K "_law_lay" "_law_lay" s_law_lay a_law_lay d_law_lay
  b_law_lay : Binds K d_law_lay ["_law_s", "_law_data_here"] []
  m_law_lay : mg "_law_lay" = some (.ref a_law_lay)
  a_law_fill : Addr
  d_law_fill : FuncData
  F_law_fill : Fun K "_law_fill" "_law_fill" s_law_fill a_law_fill d_law_fill
  b_law_fill : Binds K d_law_fill ["_law_s"] []
  m_law_fill : mg "_law_fill" = some (.ref a_law_fill)
  a_law_many : Addr
  d_law_many : FuncData
  F_law_many : Fun K "_law_many" "_law_many" s_law_many a_law_many d_law_many
  b_law_many : Binds K d_law_many ["_law_s"] []
  m_law_many : mg "_law_many" = some (.ref a_law_many)
  a_law_frame : Addr
  d_law_frame : FuncData
  F_law_frame : Fun K "_law_frame" "_law_frame" s_law_frame a_law_frame d_law_frame
  b_law_frame : Binds K d_law_frame ["_law_s", "_law_stream", "_law_count"] []
  m_law_frame : mg "_law_frame" = some (.ref a_law_frame)
  a_law_craft : Addr
  d_law_craft : FuncData
  F_law_craft : Fun K "_law_craft" "_law_craft" s_law_craft a_law_craft d_law_craft
  b_law_craft : Binds K d_law_craft ["_law_size", "_law_room"] []
  m_law_craft : mg "_law_craft" = some (.ref a_law_craft)
  a_law_keeps : Addr
  d_law_keeps : FuncData
  F_law_keeps : Fun K "_law_keeps" "_law_keeps" s_law_keeps a_law_keeps d_law_keeps
  b_law_keeps : Binds K d_law_keeps ["_law_c", "_law_stream"] []
  m_law_keeps : mg "_law_keeps" = some (.ref a_law_keeps)
  a_law_beat : Addr
  d_law_beat : FuncData
  F_law_beat : Fun K "_law_beat" "_law_beat" s_law_beat a_law_beat d_law_beat
  b_law_beat : Binds K d_law_beat ["_law_c"] []
  m_law_beat : mg "_law_beat" = some (.ref a_law_beat)
  a_law_known : Addr
  d_law_known : FuncData
  F_law_known : Fun K "_law_known" "_law_known" s_law_known a_law_known d_law_known
  b_law_known : Binds K d_law_known ["_law_c", "_law_marks_here"] []
  m_law_known : mg "_law_known" = some (.ref a_law_known)
  a_law_again : Addr
  d_law_again : FuncData
  F_law_again : Fun K "_law_again" "_law_again" s_law_again a_law_again d_law_again
  b_law_again : Binds K d_law_again ["_law_c", "_law_marks_here"] []
  m_law_again : mg "_law_again" = some (.ref a_law_again)
  a_law_marks : Addr
  d_law_marks : FuncData
  F_law_marks : Fun K "_law_marks" "_law_marks" s_law_marks a_law_marks d_law_marks
  b_law_marks : Binds K d_law_marks ["_law_h", "_law_many_here"] []
  m_law_marks : mg "_law_marks" = some (.ref a_law_marks)
  a_law_deed : Addr
  d_law_deed : FuncData
  F_law_deed : Fun K "_law_deed" "_law_deed" s_law_deed a_law_deed d_law_deed
  b_law_deed : Binds K d_law_deed ["_law_h", "_law_c", "_law_craft_here"] []
  m_law_deed : mg "_law_deed" = some (.ref a_law_deed)
  a_law : Addr
  d_law : FuncData
  F_law : Fun K "law" "law" s_law a_law d_law
  b_law : Binds K d_law ["_law_script"] []
  m_law : mg "law" = some (.ref a_law)
  cl_Laying : Cls K A_Laying
  m_Laying : mg "Laying" = some (.ref A_Laying)
  mk_Laying : Mk K A_Laying a_Laying_init
  n_Laying_body : NoAttr K A_Laying "_body"
  n_Laying_count : NoAttr K A_Laying "_count"
  n_Laying_first : NoAttr K A_Laying "_first"
  n_Laying_size : NoAttr K A_Laying "_size"
  n_Laying_stream : NoAttr K A_Laying "_stream"
  n_Laying_many : NoAttr K A_Laying "many"
  cl_Craft : Cls K A_Craft
  m_Craft : mg "Craft" = some (.ref A_Craft)
  mk_Craft : Mk K A_Craft a_Craft_init
  n_Craft_asked : NoAttr K A_Craft "_asked"
  n_Craft_frames : NoAttr K A_Craft "_frames"
  n_Craft_gone : NoAttr K A_Craft "_gone"
  n_Craft_layings : NoAttr K A_Craft "_layings"
  n_Craft_room : NoAttr K A_Craft "_room"
  n_Craft_sent : NoAttr K A_Craft "_sent"
  n_Craft_window : NoAttr K A_Craft "_window"
  z_all : mg "all" = none
  z_bool : mg "bool" = none
  z_enumerate : mg "enumerate" = none
  z_int : mg "int" = none
  z_isinstance : mg "isinstance" = none
  z_len : mg "len" = none
  z_list : mg "list" = none
  z_max : mg "max" = none
  z_min : mg "min" = none
  z_range : mg "range" = none
  z_str : mg "str" = none
  z_tuple : mg "tuple" = none
  t_STREAMS : Tok
  c_STREAMS : mg "STREAMS" = some (.int 4 t_STREAMS)
  t_MOST_NUMBERS : Tok
  c_MOST_NUMBERS : mg "MOST_NUMBERS" = some (.int 20 t_MOST_NUMBERS)
  t_LEAST_SIZE : Tok
  c_LEAST_SIZE : mg "LEAST_SIZE" = some (.int 8 t_LEAST_SIZE)
  t_MOST_SIZE : Tok
  c_MOST_SIZE : mg "MOST_SIZE" = some (.int 24 t_MOST_SIZE)
  t_MOST_ROOM : Tok
  c_MOST_ROOM : mg "MOST_ROOM" = some (.int 60 t_MOST_ROOM)
  t_MOST_COUNT : Tok
  c_MOST_COUNT : mg "MOST_COUNT" = some (.int 9999 t_MOST_COUNT)
  t_HUNDRED : Tok
  c_HUNDRED : mg "HUNDRED" = some (.int 256 t_HUNDRED)
end K04

namespace K04
open PySem PySem.Spec PyProof.Rows L2 Sky
section
variable {P : Program} {w : World} {K : PySem.W.Frag} {mg : Str → Option Value} {base : Heap}
/-! ### what may be handed in -/
def sp_is_number : Sp := fun vs H Q _ => ∃ n lo hi : Int, vs = [.int n, .int lo, .int hi] ∧ Q (.bl (decide (lo ≤ n) && decide (n ≤ hi))) H
theorem ok_is_number (T : Tx K mg) : FnOk P w K mg base CX0 1 T.a_is_number T.d_is_number ["value", "low", "high"] sp_is_number := by
  have nd := sc_is_number.nd
  refine T.F_is_number.ok sc_is_number (fun vs H Q E h => ?_) (fun cdv A outer s H vs Q E hr h => ?_)
  · obtain ⟨n, lo, hi, rfl, _⟩ := h
    rfl
  · obtain ⟨n, lo, hi, rfl, q⟩ := h
    refine ⟨_, (pss_one (ps_ret (pe_and (pe_callB call_isi (by rfl) T.z_isinstance (by decide +kernel) (pa_cons (pv 0) (pa_cons (pe_bltn (v := .ty "int") (u := .type "int") (by rfl) T.z_int (by decide +kernel) rfl) pa_nil))) (pe_and (pe_not (pe_callB call_isi (by rfl) T.z_isinstance (by decide +kernel) (pa_cons (pv 0) (pa_cons (pe_bltn (v := .ty "bool") (u := .type "bool") (by rfl) T.z_bool (by decide +kernel) rfl) pa_nil)))) (pe_one (pe_chain op_le op_le (pv 1) (pv 0) (pv 2))))))), ?_⟩
    refine ⟨_, rfl, _, _, _, _, true, rfl, .ty "int", .base (.int n), kit_ty (by decide +kernel), true, rfl, iteT ?_⟩
    refine ⟨_, rfl, _, _, _, _, false, rfl, .ty "bool", .base (.int n), kit_ty (by decide +kernel), false, rfl, true, rfl, iteT ?_⟩
    refine ⟨_, rfl, _, rfl, _, _, rfl, rfl, _, rfl, ite2 (fun a => ?_) (fun a => ?_)⟩
    · refine ⟨_, rfl, _, _, rfl, rfl, ?_⟩
      rw [a, Bool.true_and] at q
      exact q
    · rw [Bool.eq_false_iff.mpr a, Bool.false_and] at q
      exact q
end
end K04

namespace K04
open PySem PySem.Spec PyProof.Rows L2 Sky
section
variable {P : Program} {w : World} {K : PySem.W.Frag} {mg : Str → Option Value} {base : Heap}
def sp_is_stream : Sp := fun vs H Q _ => ∃ n : Int, vs = [.int n] ∧ Q (.bl (decide (0 ≤ n) && decide (n ≤ 3))) H
theorem ok_is_stream (T : Tx K mg) : FnOk P w K mg base CX0 2 T.a_is_stream T.d_is_stream ["value"] sp_is_stream := by
  have nd := sc_is_stream.nd
  refine T.F_is_stream.ok sc_is_stream (fun vs H Q E h => ?_) (fun cdv A outer s H vs Q E hr h => ?_)
  · obtain ⟨n, rfl, _⟩ := h
    rfl
  · obtain ⟨n, rfl, q⟩ := h
    refine ⟨_, (pss_one (ps_ret (pe_call (ok_is_number T) (hr.mono (by decide)) (by rfl) T.m_is_number T.F_is_number.kp T.b_is_number .nil pass0 (pa_cons (pv 0) (pa_cons pe_int (pa_cons (pe_op op_sub (pe_glob (v := .int 4) (by rfl) T.c_STREAMS ⟨_, rfl⟩) pe_int) pa_nil)))))), ?_⟩
    exact ⟨_, rfl, 4, 1, rfl, rfl, n, 0, 3, rfl, q⟩
def sp_check_stream : Sp := fun vs H Q _ => ∃ n : Int, vs = [.int n] ∧ 0 ≤ n ∧ n ≤ 3 ∧ Q .non H
theorem ok_check_stream (T : Tx K mg) : FnOk P w K mg base CX0 3 T.a_check_stream T.d_check_stream ["stream"] sp_check_stream := by
  have nd := sc_check_stream.nd
  refine T.F_check_stream.ok sc_check_stream (fun vs H Q E h => ?_) (fun cdv A outer s H vs Q E hr h => ?_)
  · obtain ⟨n, rfl, _⟩ := h
    rfl
  · obtain ⟨n, rfl, h0, h3, q⟩ := h
    refine ⟨_, (pss_one (ps_if (pt_not (pt_val (pe_call (ok_is_stream T) (hr.mono (by decide)) (by rfl) T.m_is_stream T.F_is_stream.kp T.b_is_stream .nil pass0 (pa_cons (pv 0) pa_nil)))) (pss_one ps_never) pss_nil)), ?_⟩
    refine ⟨_, rfl, n, rfl, ?_⟩
    rw [decide_eq_true h0, decide_eq_true h3]
    exact ⟨true, rfl, iteF q⟩
def sp_check_size : Sp := fun vs H Q _ => ∃ n : Int, vs = [.int n] ∧ 8 ≤ n ∧ n ≤ 24 ∧ Q .non H
theorem ok_check_size (T : Tx K mg) : FnOk P w K mg base CX0 2 T.a_check_size T.d_check_size ["size"] sp_check_size := by
  have nd := sc_check_size.nd
  refine T.F_check_size.ok sc_check_size (fun vs H Q E h => ?_) (fun cdv A outer s H vs Q E hr h => ?_)
  · obtain ⟨n, rfl, _⟩ := h
    rfl
  · obtain ⟨n, rfl, h0, h3, q⟩ := h
    refine ⟨_, (pss_one (ps_if (pt_not (pt_val (pe_call (ok_is_number T) (hr.mono (by decide)) (by rfl) T.m_is_number T.F_is_number.kp T.b_is_number .nil pass0 (pa_cons (pv 0) (pa_cons (pe_glob (v := .int 8) (by rfl) T.c_LEAST_SIZE ⟨_, rfl⟩) (pa_cons (pe_glob (v := .int 24) (by rfl) T.c_MOST_SIZE ⟨_, rfl⟩) pa_nil)))))) (pss_one ps_never) pss_nil)), ?_⟩
    refine ⟨_, rfl, n, 8, 24, rfl, ?_⟩
    rw [decide_eq_true h0, decide_eq_true h3]
    exact ⟨true, rfl, iteF q⟩
def sp_holds_numbers : Sp := fun vs H Q _ => ∃ (a : Addr) (xs : List Int), vs = [.ref a] ∧ H a = some (.tup (xs.map V.int)) ∧ (∀ x ∈ xs, 0 ≤ x ∧ x ≤ 255) ∧ xs.length ≤ 100000 ∧ ∀ H', Same H H' → Q (.bl true) H'
theorem ok_holds_numbers (T : Tx K mg) : FnOk P w K mg base CX0 2 T.a_holds_numbers T.d_holds_numbers ["value"] sp_holds_numbers := by
  have nd := sc_holds_numbers.nd
  refine T.F_holds_numbers.ok sc_holds_numbers (fun vs H Q E h => ?_) (fun cdv A outer s H vs Q E hr h => ?_)
  · obtain ⟨n, _, rfl, _⟩ := h
    rfl
  · obtain ⟨a, xs, rfl, ha, hx, hl, q⟩ := h
    refine ⟨_, (pss_one (ps_ret (pe_and (pe_callB call_isi (by rfl) T.z_isinstance (by decide +kernel) (pa_cons (pv 0) (pa_cons (pe_bltn (v := .ty "tuple") (u := .type "tuple") (by rfl) T.z_tuple (by decide +kernel) rfl) pa_nil))) (pe_one (pe_callB (cr_all rfl) (by rfl) T.z_all (by decide +kernel) (pa_cons (pe_lc (own := [("number", 1)]) rfl nd (pi_tup (pv 0)) (blkOk_by (own := [("number", 1)]) (N := N_holds_numbers) (sc := defScope s_holds_numbers) (by decide +kernel)) (fun _ _ _ _ _ => (pg_name (i := 1) nd rfl (Or.inl rfl))) (fun _ _ _ _ _ => pts_nil) (fun _ _ _ _ _ => (pe_call (ok_is_number T) (hr.mono (by decide)) (by rfl) T.m_is_number T.F_is_number.kp T.b_is_number .nil pass0 (pa_cons (pv 1) (pa_cons pe_int (pa_cons pe_int pa_nil)))))) pa_nil)))))), ?_⟩
    refine ⟨_, rfl, _, _, _, _, true, rfl, .ty "tuple", .base (.tup ha), kit_ty (by decide +kernel), true, rfl, iteT ?_⟩
    refine ⟨_, rfl, a, rfl, ⟨_, SqT.of ha⟩, fun D hD => ?_⟩
    refine lc_tup (K := K) (a := a) (xs := xs.map V.int) (fun i H' => Same H H' ∧ H' D = some (.lst ((List.replicate i true).map V.bl))) ⟨same_new (Same.refl H) hD, upd_same⟩ (fun i H' _ p => SqT.of (p.1 _ _ ha)) ?_ ?_
    · intro i x H' hi p
      obtain ⟨n, hn, rfl⟩ := map_get hi
      have hlt : i < xs.length := (List.getElem?_eq_some_iff.mp hn).1
      have hb := hx n (List.mem_of_getElem? hn)
      refine ⟨rfl, _, rfl, n, 0, 255, rfl, ?_⟩
      rw [decide_eq_true hb.1, decide_eq_true hb.2]
      refine ⟨_, p.2, ?_, same_mut p.1 hD, ?_⟩
      · rw [List.length_map, List.length_replicate]
        exact lt_line (by omega)
      · rw [upd_same, List.replicate_succ', List.map_append]
        rfl
    · intro H' p
      refine ⟨D, List.replicate (xs.map V.int).length true, rfl, SqL.of p.2, ?_⟩
      have e : (List.replicate (xs.map V.int).length true).all id = true := by simp
      rw [e]
      exact q _ p.1
end
end K04

namespace K04
open PySem PySem.Spec PyProof.Rows L2 Sky
section
variable {P : Program} {w : World} {K : PySem.W.Frag} {mg : Str → Option Value} {base : Heap}
def sp_is_telling : Sp := fun vs H Q _ => ∃ (a : Addr) (xs : List Int), vs = [.ref a] ∧ H a = some (.tup (xs.map V.int)) ∧ tellOk xs ∧ ∀ H', Same H H' → Q (.bl true) H'
theorem ok_is_telling (T : Tx K mg) : FnOk P w K mg base CX0 3 T.a_is_telling T.d_is_telling ["value"] sp_is_telling := by
  have nd := sc_is_telling.nd
  refine T.F_is_telling.ok sc_is_telling (fun vs H Q E h => ?_) (fun cdv A outer s H vs Q E hr h => ?_)
  · obtain ⟨n, _, rfl, _⟩ := h
    rfl
  · obtain ⟨a, xs, rfl, ha, ⟨h1, h2, h3⟩, q⟩ := h
    refine ⟨_, (pss_one (ps_ret (pe_and (pe_call (ok_holds_numbers T) (hr.mono (by decide)) (by rfl) T.m_holds_numbers T.F_holds_numbers.kp T.b_holds_numbers .nil pass0 (pa_cons (pv 0) pa_nil)) (pe_one (pe_chain op_le op_le pe_int (pe_callB call_len_seq (by rfl) T.z_len PySem.boot_len (pa_cons (pv 0) pa_nil)) (pe_glob (v := .int 20) (by rfl) T.c_MOST_NUMBERS ⟨_, rfl⟩)))))), ?_⟩
    refine ⟨_, rfl, a, xs, rfl, ha, h3, by omega, fun H1 s1 => ⟨true, rfl, iteT ?_⟩⟩
    refine ⟨_, rfl, _, _, rfl, .inr (SqT.of (s1 _ _ ha)), _, _, rfl, rfl, true, dT (by rw [List.length_map]; omega), iteT ?_⟩
    refine ⟨_, 20, rfl, rfl, ?_⟩
    show Q (.bl (decide (((xs.map V.int).length : Int) ≤ 20))) H1
    rw [decide_eq_true (show ((xs.map V.int).length : Int) ≤ 20 by rw [List.length_map]; omega)]
    exact q _ s1
def sp_check_telling : Sp := fun vs H Q _ => ∃ (a : Addr) (xs : List Int), vs = [.ref a] ∧ H a = some (.tup (xs.map V.int)) ∧ tellOk xs ∧ ∀ H', Same H H' → Q .non H'
theorem ok_check_telling (T : Tx K mg) : FnOk P w K mg base CX0 4 T.a_check_telling T.d_check_telling ["telling"] sp_check_telling := by
  have nd := sc_check_telling.nd
  refine T.F_check_telling.ok sc_check_telling (fun vs H Q E h => ?_) (fun cdv A outer s H vs Q E hr h => ?_)
  · obtain ⟨n, _, rfl, _⟩ := h
    rfl
  · obtain ⟨a, xs, rfl, ha, ⟨h1, h2, h3⟩, q⟩ := h
    refine ⟨_, (pss_one (ps_if (pt_not (pt_val (pe_call (ok_is_telling T) (hr.mono (by decide)) (by rfl) T.m_is_telling T.F_is_telling.kp T.b_is_telling .nil pass0 (pa_cons (pv 0) pa_nil)))) (pss_one ps_never) pss_nil)), ?_⟩
    exact ⟨_, rfl, a, xs, rfl, ha, ⟨h1, h2, h3⟩, fun H1 s1 => ⟨true, rfl, iteF (q _ s1)⟩⟩
end
end K04

namespace K04
open PySem PySem.Spec PyProof.Rows L2 Sky
section
variable {P : Program} {w : World} {K : PySem.W.Frag} {mg : Str → Option Value} {base : Heap}
def sp_is_mark : Sp := fun vs H Q _ => ∃ (m : Addr) (st c : Int), vs = [.ref m] ∧ H m = some (.tup [.int st, .int c]) ∧ 0 ≤ st ∧ st ≤ 3 ∧ 0 ≤ c ∧ c ≤ 9999 ∧ Q (.bl true) H
theorem ok_is_mark (T : Tx K mg) : FnOk P w K mg base CX0 3 T.a_is_mark T.d_is_mark ["value"] sp_is_mark := by
  have nd := sc_is_mark.nd
  refine T.F_is_mark.ok sc_is_mark (fun vs H Q E h => ?_) (fun cdv A outer s H vs Q E hr h => ?_)
  · obtain ⟨_, _, _, rfl, _⟩ := h
    rfl
  · obtain ⟨m, st, c, rfl, hm, h0, h3, c0, c9, q⟩ := h
    refine ⟨_, (pss_cons (ps_if (PW.pt (pw_or (pt_not (pt_val (pe_callB call_isi (by rfl) T.z_isinstance (by decide +kernel) (pa_cons (pv 0) (pa_cons (pe_bltn (v := .ty "tuple") (u := .type "tuple") (by rfl) T.z_tuple (by decide +kernel) rfl) pa_nil))))) (pw_or1 (pt_cmpR op_ne (pe_callB call_len_seq (by rfl) T.z_len PySem.boot_len (pa_cons (pv 0) pa_nil)) pe_int (nomark _))))) (pss_one (ps_ret pe_bl)) pss_nil) (pss_cons (ps_asg (pv 0) (pg_tup rfl (pgs_cons (pg_name (i := 1) nd rfl (Or.inl rfl)) (pgs_cons (pg_name (i := 2) nd rfl (Or.inl rfl)) pgs_nil)))) (pss_one (ps_ret (pe_and (pe_call (ok_is_stream T) (hr.mono (by decide)) (by rfl) T.m_is_stream T.F_is_stream.kp T.b_is_stream .nil pass0 (pa_cons (pv 1) pa_nil)) (pe_one (pe_call (ok_is_number T) (hr.mono (by decide)) (by rfl) T.m_is_number T.F_is_number.kp T.b_is_number .nil pass0 (pa_cons (pv 2) (pa_cons pe_int (pa_cons (pe_glob (v := .int 9999) (by rfl) T.c_MOST_COUNT ⟨_, rfl⟩) pa_nil)))))))))), ?_⟩
    refine ⟨_, rfl, _, _, _, _, true, rfl, .ty "tuple", .base (.tup hm), kit_ty (by decide +kernel), true, rfl, iteF ?_⟩
    refine ⟨_, rfl, m, _, rfl, .inr (SqT.of hm), rfl, false, ndF rfl, iteF ?_⟩
    refine ⟨_, rfl, m, _, rfl, SqT.of hm, rfl, _, _, rfl, _, _, rfl, rfl, ?_⟩
    refine ⟨_, rfl, st, rfl, ?_⟩
    rw [decide_eq_true h0, decide_eq_true h3]
    refine ⟨true, rfl, iteT ?_⟩
    refine ⟨_, rfl, c, 0, 9999, rfl, ?_⟩
    rw [decide_eq_true c0, decide_eq_true c9]
    exact q
/-- a frame of a size, of a stream -/
structure FOk (z : Nat) (st : Int) (f : Frm) : Prop where
  st0 : 0 ≤ st
  st3 : st ≤ 3
  few : f.1 ≤ 9999
  first : ∀ x, f.2.1 = some x → x < z
  len : f.2.2.length = z
  nums : ∀ b ∈ f.2.2, 0 ≤ b ∧ b ≤ 255
theorem td_frm {H : Hp} {v : V} {st : Int} {f : Frm} (h : TD H v (frmD st f)) : ∃ a b, v = .ref a ∧ H a = some (.tup [.int st, .int (f.1 : Nat), optV f.2.1, .ref b]) ∧ H b = some (.tup (f.2.2.map V.int)) := by
  unfold frmD at h
  cases h with
  | tup h t =>
    cases t with
    | cons t1 t =>
      cases t with
      | cons t2 t =>
        cases t with
        | cons t3 t =>
          cases t with
          | cons t4 t =>
            cases t
            cases t1
            cases t2
            obtain ⟨b, rfl, hb⟩ := t4.of_tl
            refine ⟨_, b, rfl, ?_, hb⟩
            cases e : f.2.1 with
            | none =>
              rw [e] at t3
              cases t3
              exact h
            | some x =>
              rw [e] at t3
              cases t3
              exact h
end
end K04

namespace K04
open PySem PySem.Spec PyProof.Rows L2 Sky
/-! ### marks -/
def mkD (s c : Nat) : PyData := .tuple [.int (s : Nat), .int (c : Nat)]
theorem td_mk {H : Hp} {v : V} {s c : Nat} (h : TD H v (mkD s c)) : ∃ p, v = .ref p ∧ H p = some (.tup [.int (s : Nat), .int (c : Nat)]) := by
  cases h with
  | tup h t =>
    cases t with
    | cons t1 t =>
      cases t1
      cases t with
      | cons t2 t =>
        cases t2
        cases t
        exact ⟨_, rfl, h⟩
end K04

namespace K04
open PySem PySem.Spec PyProof.Rows L2 Sky
section
variable {P : Program} {w : World} {K : PySem.W.Frag} {mg : Str → Option Value} {base : Heap}
def sp_check_marks : Sp := fun vs H Q _ => ∃ (lm : Addr) (ms : List V) (ks : List (Nat × Nat)), vs = [.ref lm] ∧ H lm = some (.lst ms) ∧ TDs H ms (ks.map fun k => mkD k.1 k.2) ∧ (∀ k ∈ ks, k.1 ≤ 3 ∧ k.2 ≤ 9999) ∧ ∀ H', Same H H' → Q .non H'
theorem ok_check_marks (T : Tx K mg) : FnOk P w K mg base CX0 4 T.a_check_marks T.d_check_marks ["marks"] sp_check_marks := by
  have nd := sc_check_marks.nd
  refine T.F_check_marks.ok sc_check_marks (fun vs H Q E h => ?_) (fun cdv A outer s H vs Q E hr h => ?_)
  · obtain ⟨_, _, _, rfl, _⟩ := h
    rfl
  · obtain ⟨lm, ms, ks, rfl, hl, tds, hok, fin⟩ := h
    refine ⟨_, (pss_one (ps_for PassesOwn.never rfl (pi_enum (by rfl) T.z_enumerate (pa_cons (pv 0) pa_nil)) (pg_tup rfl (pgs_cons (pg_name (i := 1) nd rfl (Or.inl rfl)) (pgs_cons (pg_name (i := 2) nd rfl (Or.inl rfl)) pgs_nil))) (pss_one (ps_if (pt_not (pt_val (pe_call (ok_is_mark T) (hr.mono (by decide)) (by rfl) T.m_is_mark T.F_is_mark.kp T.b_is_mark .nil pass0 (pa_cons (pv 2) pa_nil)))) (pss_one ps_never) pss_nil)))), ?_⟩
    refine ⟨_, rfl, lm, ms, rfl, SqL.of hl, ?_⟩
    refine for_enum (K := K) (l := lm) (ys := ms) (fun i σ H' => ∃ (v1 v2 : Option V), σ = [some (.ref lm), v1, v2] ∧ Same H H') ⟨none, none, rfl, Same.refl _⟩ (fun i σ H' _ ⟨_, _, _, s'⟩ => SqL.of (s' _ _ hl)) ?_ ?_
    · rintro i y σ H' t hy ⟨v1, v2, rfl, s'⟩ ht
      obtain ⟨d, hd, td⟩ := tds.get hy
      obtain ⟨k, hk, rfl⟩ := map_get hd
      have hkm := hok k (List.mem_of_getElem? hk)
      have s1 := same_new (Same.refl H') ht (o := .tup [.int ((i : Nat) : Int), y])
      obtain ⟨b, rfl, hb⟩ := td_mk ((td.mono (TSm.of_same s')).mono (TSm.of_same s1))
      refine ⟨t, _, rfl, SqT.of upd_same, rfl, _, _, rfl, _, _, rfl, rfl, ?_⟩
      exact ⟨_, rfl, b, _, _, rfl, hb, (by omega), (by omega), (by omega), (by omega), true, rfl, iteF ⟨_, _, rfl, s'.trans s1⟩⟩
    · rintro σ H' ⟨v1, v2, rfl, s'⟩
      exact fin _ s'
end
end K04

namespace K04
open PySem PySem.Spec PyProof.Rows L2 Sky
section
variable {P : Program} {w : World} {K : PySem.W.Frag} {mg : Str → Option Value} {base : Heap}
def sp_check_room : Sp := fun vs H Q _ => ∃ r : Nat, vs = [.int (r : Nat)] ∧ 1 ≤ r ∧ r ≤ 60 ∧ Q .non H
theorem ok_check_room (T : Tx K mg) : FnOk P w K mg base CX0 2 T.a_check_room T.d_check_room ["room"] sp_check_room := by
  have nd := sc_check_room.nd
  refine T.F_check_room.ok sc_check_room (fun vs H Q E h => ?_) (fun cdv A outer s H vs Q E hr h => ?_)
  · obtain ⟨_, rfl, _⟩ := h
    rfl
  · obtain ⟨r, rfl, h1, h2, q⟩ := h
    refine ⟨_, (pss_one (ps_if (pt_not (pt_val (pe_call (ok_is_number T) (hr.mono (by decide)) (by rfl) T.m_is_number T.F_is_number.kp T.b_is_number .nil pass0 (pa_cons (pv 0) (pa_cons pe_int (pa_cons (pe_glob (v := .int 60) (by rfl) T.c_MOST_ROOM ⟨_, rfl⟩) pa_nil)))))) (pss_one ps_never) pss_nil)), ?_⟩
    refine ⟨_, rfl, _, 1, 60, rfl, ?_⟩
    rw [decide_eq_true (show (1 : Int) ≤ ((r : Nat) : Int) by omega), decide_eq_true (show ((r : Nat) : Int) ≤ 60 by omega)]
    exact ⟨true, rfl, iteF q⟩
end
end K04

namespace K04
open PySem PySem.Spec PyProof.Rows L2 Sky
def LF : List Str := ["many", "_stream", "_size", "_count", "_first", "_body"]
theorem LF_nd : LF.Nodup := by decide +kernel
def lf (m st z c : Int) (fo : Option Nat) (l : Addr) : List (Str × V) := LF.zip [.int m, .int st, .int z, .int c, optV fo, .ref l]
section
variable {m st z c x : Int} {fo : Option Nat} {l l' : Addr}
theorem lf_many : (lf m st z c fo l).lookup ("many" : Str) = some (.int m) := lookup_zip LF _ 0 _ LF_nd rfl rfl
theorem lf_stream : (lf m st z c fo l).lookup ("_stream" : Str) = some (.int st) := lookup_zip LF _ 1 _ LF_nd rfl rfl
theorem lf_size : (lf m st z c fo l).lookup ("_size" : Str) = some (.int z) := lookup_zip LF _ 2 _ LF_nd rfl rfl
theorem lf_count : (lf m st z c fo l).lookup ("_count" : Str) = some (.int c) := lookup_zip LF _ 3 _ LF_nd rfl rfl
theorem lf_first : (lf m st z c fo l).lookup ("_first" : Str) = some (optV fo) := lookup_zip LF _ 4 _ LF_nd rfl rfl
theorem lf_body : (lf m st z c fo l).lookup ("_body" : Str) = some (.ref l) := lookup_zip LF _ 5 _ LF_nd rfl rfl
theorem lf_no {f : Str} (h : f ∉ LF) : (lf m st z c fo l).lookup f = none := lookup_zip_none LF _ _ h
theorem pf_many : putF "many" (.int x) (lf m st z c fo l) = lf x st z c fo l := putF_zip LF _ 0 _ _ LF_nd rfl rfl
theorem pf_count : putF "_count" (.int x) (lf m st z c fo l) = lf m st z x fo l := putF_zip LF _ 3 _ _ LF_nd rfl rfl
theorem pf_first {o : Option Nat} : putF "_first" (optV o) (lf m st z c fo l) = lf m st z c o l := putF_zip LF _ 4 _ _ LF_nd rfl rfl
theorem pf_body : putF "_body" (.ref l') (lf m st z c fo l) = lf m st z c fo l' := putF_zip LF _ 5 _ _ LF_nd rfl rfl
theorem lf_few : (lf m st z c fo l).length < 1000 := Nat.lt_of_le_of_lt (zip_len LF _) (by decide)
end
section
variable {P : Program} {w : World} {K : PySem.W.Frag} {mg : Str → Option Value} {base : Heap}
/-! ### _done -/
def sp_done (C : Addr) : Sp := fun vs H Q _ => ∃ (p dx l : Addr) (m st z c : Int) (fo : Option Nat) (b : List Int), vs = [.ref p] ∧ H p = some (.ins C dx (lf m st z c fo l)) ∧ H l = some (.lst (b.map V.int)) ∧
  ∀ f H' l', TD H' (.ref f) (.tuple [.int st, .int c, optD fo, tlD b]) → H' p = some (.ins C dx (lf m st z (c + 1) none l')) → H' l' = some (.lst []) → H l' = none → H f = none → Keep [p] H H' → Q (.ref f) H'
theorem ok_Laying_done (T : Tx K mg) : FnOk P w K mg base CX0 1 T.a_Laying_done T.d_Laying_done ["self"] (sp_done T.A_Laying) := by
  have nd := sc_Laying_done.nd
  refine T.F_Laying_done.ok sc_Laying_done (fun vs H Q E h => ?_) (fun cdv A outer s H vs Q E hr h => ?_)
  · obtain ⟨p, _, _, _, _, _, _, _, _, rfl, _⟩ := h
    rfl
  · obtain ⟨p, dx, l, m, st, z, c, fo, b, rfl, hp, hl, q⟩ := h
    refine ⟨_, (pss_cons (ps_set (i := 1) nd rfl (Or.inl rfl) (pe_tup (pa_cons (pe_fld (pv 0) rfl) (pa_cons (pe_fld (pv 0) rfl) (pa_cons (pe_fld (pv 0) rfl) (pa_cons (pe_tupleOf (by rfl) T.z_tuple (pe_fld (pv 0) rfl)) pa_nil)))))) (pss_cons (ps_fldaug (pv 0) pe_int in_add) (pss_cons (ps_fld (pv 0) pe_non rfl) (pss_cons (ps_fld (pv 0) (pe_lst pa_nil) rfl) (pss_one (ps_ret (pv 1))))))), ?_⟩
    refine ⟨_, rfl, p, _, dx, _, _, rfl, hp, T.cl_Laying, T.n_Laying_stream, lf_stream, ?_⟩
    refine ⟨_, rfl, p, _, dx, _, _, rfl, hp, T.cl_Laying, T.n_Laying_count, lf_count, ?_⟩
    refine ⟨_, rfl, p, _, dx, _, _, rfl, hp, T.cl_Laying, T.n_Laying_first, lf_first, ?_⟩
    refine ⟨_, rfl, p, _, dx, _, _, rfl, hp, T.cl_Laying, T.n_Laying_body, lf_body, .inl ⟨l, _, rfl, SqL.of hl, fun b' hb' => ?_⟩⟩
    refine ⟨(by decide : (4 : Nat) ≤ sizeLine), fun f hf => ?_⟩
    have hf' : H f = none := (same_new (Same.refl H) hb').free hf
    have npb : p ≠ b' := ne_of_none hp hb'
    have npf : p ≠ f := ne_of_none hp hf'
    have nbf : b' ≠ f := ne_of_none upd_same hf
    have k1 : Keep [p] H (upd (upd H b' (.tup (b.map V.int))) f (.tup [.int st, .int c, optV fo, .ref b'])) := keep_new (keep_new (Keep.refl _ _) hb') hf'
    generalize hH1 : upd (upd H b' (.tup (b.map V.int))) f (.tup [.int st, .int c, optV fo, .ref b']) = H1 at *
    have p1 : H1 p = some (.ins T.A_Laying dx (lf m st z c fo l)) := by rw [← hH1, upd_ne npf, upd_ne npb]; exact hp
    have t1 : TD H1 (.ref f) (.tuple [.int st, .int c, optD fo, tlD b]) := by
      refine .tup (by rw [← hH1]; exact upd_same) (.cons (.int _) (.cons (.int _) (.cons (TD.opt _) (.cons (TD.tl ?_) .nil))))
      rw [← hH1, upd_ne nbf]
      exact upd_same
    -- self._count += 1
    refine ⟨_, rfl, p, _, dx, _, _, rfl, p1, T.cl_Laying, T.n_Laying_count, lf_count, c, 1, rfl, rfl, dx, _, p1, lf_few, ?_⟩
    rw [pf_count]
    refine ⟨_, rfl, p, _, dx, _, rfl, upd_same, T.cl_Laying, T.n_Laying_first, lf_few, ?_⟩
    rw [show putF "_first" V.non _ = _ from pf_first (o := none), upd_upd]
    refine ⟨Nat.zero_le _, fun l' hl' => ?_⟩
    have npl : p ≠ l' := ne_of_none upd_same hl'
    have hl1 : H1 l' = none := by rw [upd_ne npl.symm] at hl'; exact hl'
    refine ⟨_, rfl, p, _, dx, _, rfl, (by rw [upd_ne npl]; exact upd_same), T.cl_Laying, T.n_Laying_body, lf_few, ?_⟩
    rw [pf_body]
    have hl0 : H l' = none := by
      rw [← hH1] at hl1
      have := (same_new (Same.refl _) hf).free hl1
      exact (same_new (Same.refl _) hb').free this
    refine ⟨_, rfl, q f _ l' ?_ upd_same (by rw [upd_ne npl.symm]; exact upd_same) hl0 hf' ?_⟩
    · refine t1.mono (ts_upd (ts_upd (ts_upd (TSm.refl _) (NoT.ins p1)) (NoT.none hl')) (NoT.ins (by rw [upd_ne npl]; exact upd_same)))
    · exact keep_upd (keep_new (keep_upd k1 (by simp)) hl0) (by simp)
/-! ### __init__ -/
def sp_init (C : Addr) : Sp := fun vs H Q _ => ∃ (p dx : Addr) (st z : Int), vs = [.ref p, .int st, .int z] ∧ H p = some (.ins C dx []) ∧
  ∀ H' l, H' p = some (.ins C dx (lf 0 st z 0 none l)) → H' l = some (.lst []) → H l = none → Keep [p] H H' → Q .non H'
theorem ok_Laying_init (T : Tx K mg) : FnOk P w K mg base CX0 1 T.a_Laying_init T.d_Laying_init ["self", "stream", "size"] (sp_init T.A_Laying) := by
  have nd := sc_Laying_init.nd
  refine T.F_Laying_init.ok sc_Laying_init (fun vs H Q E h => ?_) (fun cdv A outer s H vs Q E hr h => ?_)
  · obtain ⟨p, _, _, _, rfl, _⟩ := h
    rfl
  · obtain ⟨p, dx, st, z, rfl, hp, q⟩ := h
    refine ⟨_, (pss_cons (ps_fld (pv 0) pe_int rfl) (pss_cons (ps_fld (pv 0) (pv 1) rfl) (pss_cons (ps_fld (pv 0) (pv 2) rfl) (pss_cons (ps_fld (pv 0) pe_int rfl) (pss_cons (ps_fld (pv 0) pe_non rfl) (pss_one (ps_fld (pv 0) (pe_lst pa_nil) rfl))))))), ?_⟩
    refine ⟨_, rfl, p, _, dx, _, rfl, hp, T.cl_Laying, T.n_Laying_many, (by decide), ?_⟩
    rw [show putF "many" (V.int 0) [] = (LF.take 1).zip [.int 0] from rfl]
    refine ⟨_, rfl, _, rfl, p, _, dx, _, rfl, upd_same, T.cl_Laying, T.n_Laying_stream, (Nat.lt_of_le_of_lt (zip_len _ _) (by decide)), ?_⟩
    rw [upd_upd, putF_take (i := 1) LF_nd rfl rfl]
    refine ⟨_, rfl, _, rfl, p, _, dx, _, rfl, upd_same, T.cl_Laying, T.n_Laying_size, (Nat.lt_of_le_of_lt (zip_len _ _) (by decide)), ?_⟩
    rw [upd_upd, putF_take (i := 2) LF_nd rfl rfl]
    refine ⟨_, rfl, p, _, dx, _, rfl, upd_same, T.cl_Laying, T.n_Laying_count, (Nat.lt_of_le_of_lt (zip_len _ _) (by decide)), ?_⟩
    rw [upd_upd, putF_take (i := 3) LF_nd rfl rfl]
    refine ⟨_, rfl, p, _, dx, _, rfl, upd_same, T.cl_Laying, T.n_Laying_first, (Nat.lt_of_le_of_lt (zip_len _ _) (by decide)), ?_⟩
    rw [upd_upd, putF_take (i := 4) LF_nd rfl rfl]
    refine ⟨Nat.zero_le _, fun l hl => ?_⟩
    have npl : p ≠ l := ne_of_none upd_same hl
    have hl0 : H l = none := by rw [upd_ne npl.symm] at hl; exact hl
    refine ⟨_, rfl, p, _, dx, _, rfl, (by rw [upd_ne npl]; exact upd_same), T.cl_Laying, T.n_Laying_body, (Nat.lt_of_le_of_lt (zip_len _ _) (by decide)), ?_⟩
    rw [putF_take (i := 5) LF_nd rfl rfl]
    exact q _ l upd_same (by rw [upd_ne npl.symm]; exact upd_same) hl0 (keep_upd (keep_new (keep_upd (Keep.refl _ _) (by simp)) hl0) (by simp))
/-! ### the object as it stands -/
def LAt (C : Addr) (H : Hp) (p dx l : Addr) (st : Int) (z : Nat) (N : List Int) (S : List Nat) : Prop :=
  H p = some (.ins C dx (lf (S.length : Nat) st (z : Nat) (N.length / z : Nat) (firstOf z (N.length / z) S) l)) ∧ H l = some (.lst ((N.drop (N.length / z * z)).map V.int))
/-! ### fill -/
def sp_fill (C : Addr) : Sp := fun vs H Q _ => ∃ (p dx l : Addr) (st : Int) (z : Nat) (N : List Int) (S : List Nat), vs = [.ref p] ∧ LAt C H p dx l st z N S ∧ 0 < z ∧ z ≤ 100 ∧ Laid N S ∧
  (N.length % z = 0 → Q .non H) ∧
  (N.length % z ≠ 0 → ∀ f H' l', TD H' (.ref f) (frmD st (N.length / z, firstOf z (N.length / z) S, N.drop (N.length / z * z) ++ List.replicate (z - N.length % z) 0)) → LAt C H' p dx l' st z (padN z N) S → H l' = none → H f = none → Keep [p, l] H H' → Dom H H' → Q (.ref f) H')
theorem ok_Laying_fill (T : Tx K mg) : FnOk P w K mg base CX0 2 T.a_Laying_fill T.d_Laying_fill ["self"] (sp_fill T.A_Laying) := by
  have nd := sc_Laying_fill.nd
  refine T.F_Laying_fill.ok sc_Laying_fill (fun vs H Q E h => ?_) (fun cdv A outer s H vs Q E hr h => ?_)
  · obtain ⟨p, _, _, _, _, _, _, rfl, _⟩ := h
    rfl
  · obtain ⟨p, dx, l, st, z, N, S, rfl, ⟨hp, hl⟩, hz, hz1, hL, q0, q1⟩ := h
    refine ⟨_, (pss_cons (ps_if (pt_not (pt_truth (pe_fld (pv 0) rfl) (by intro _; rfl))) (pss_one (ps_ret pe_non)) pss_nil) (pss_cons (ps_expr (pe_bm PySem.F.plainAttrs_list PySem.F.slot_list_extend PySem.F.type_list_extend mt_extend (pe_fld (pv 0) rfl) (pa_cons (pe_op op_rep (pe_lst (pa_cons pe_int pa_nil)) (pe_op op_sub (pe_fld (pv 0) rfl) (pe_callB call_len_seq (by rfl) T.z_len PySem.boot_len (pa_cons (pe_fld (pv 0) rfl) pa_nil)))) pa_nil))) (pss_one (ps_ret (pe_meth0 (pv 0) T.cl_Laying T.M_Laying_done (ok_Laying_done T) (hr.mono (by decide)) T.b_Laying_done .nil pass0))))), ?_⟩
    refine ⟨_, rfl, p, _, dx, _, _, rfl, hp, T.cl_Laying, T.n_Laying_body, lf_body, _, .inl ⟨_, SqL.of hl, rfl⟩, ?_⟩
    have hbl := body_length z N
    by_cases hm : N.length % z = 0
    · have e : N.drop (N.length / z * z) = [] := List.eq_nil_of_length_eq_zero (by omega)
      rw [e]
      exact q0 hm
    · have e : (!(!((N.drop (N.length / z * z)).map V.int).isEmpty)) = false := by
        cases hd : N.drop (N.length / z * z) with
        | nil => rw [hd] at hbl; simp at hbl; omega
        | cons x r => rfl
      show (if (!(!((N.drop (N.length / z * z)).map V.int).isEmpty)) = true then _ else _)
      rw [e]
      refine iteF ?_
      -- self._body.extend([0] * (self._size - len(self._body)))
      refine ⟨_, rfl, p, _, dx, _, _, rfl, hp, T.cl_Laying, T.n_Laying_body, lf_body, .inl ⟨rfl, _, SqL.of hl⟩, ?_⟩
      refine ⟨(by decide : (1 : Nat) ≤ sizeLine), fun a ha => ?_⟩
      have k1 : Keep [p, l] H (upd H a (.lst [.int 0])) := keep_new (Keep.refl _ _) ha
      have npa : p ≠ a := ne_of_none hp ha
      have nla : l ≠ a := ne_of_none hl ha
      have hp1 : upd H a (.lst [.int 0]) p = some (.ins T.A_Laying dx (lf (S.length : Nat) st (z : Nat) (N.length / z : Nat) (firstOf z (N.length / z) S) l)) := by rw [upd_ne npa]; exact hp
      have hl1 : upd H a (.lst [.int 0]) l = some (.lst ((N.drop (N.length / z * z)).map V.int)) := by rw [upd_ne nla]; exact hl
      refine ⟨_, rfl, p, _, dx, _, _, rfl, hp1, T.cl_Laying, T.n_Laying_size, lf_size, ?_⟩
      refine ⟨_, rfl, p, _, dx, _, _, rfl, hp1, T.cl_Laying, T.n_Laying_body, lf_body, l, _, rfl, .inl (SqL.of hl1), _, _, rfl, rfl, ?_⟩
      have hlen : ((N.drop (N.length / z * z)).map V.int).length = N.length % z := by rw [List.length_map, hbl]
      have hmz := Nat.mod_lt N.length hz
      refine ⟨a, _, _, rfl, rfl, upd_same, (by omega), (by omega), le_line (by rw [List.length_singleton]; omega), fun b hb => ?_⟩
      have hb0 : H b = none := (same_new (Same.refl _) ha).free hb
      have nlb : l ≠ b := ne_of_none hl hb0
      have npb : p ≠ b := ne_of_none hp hb0
      have ez : (List.replicate (((z : Nat) : Int) - ((((N.drop (N.length / z * z)).map V.int).length : Nat) : Int)).toNat [V.int 0]).flatten = (List.replicate (z - N.length % z) (0 : Int)).map V.int := by
        rw [hlen, show (((z : Nat) : Int) - ((N.length % z : Nat) : Int)).toNat = z - N.length % z by omega]
        induction (z - N.length % z) with
        | zero => rfl
        | succ n ih => rw [List.replicate_succ, List.replicate_succ, List.flatten_cons, ih]; rfl
      rw [ez]
      refine ⟨l, b, _, _, rfl, rfl, (by rw [upd_ne nlb]; exact hl1), upd_same, le_line (by rw [List.length_map, List.length_map, List.length_replicate, hbl]; omega), ?_⟩
      rw [← List.map_append]
      have npl : p ≠ l := ne_of hp hl (by intro e; cases e)
      have hp2 : upd (upd (upd H a (.lst [.int 0])) b (.lst ((List.replicate (z - N.length % z) (0 : Int)).map V.int))) l (.lst ((N.drop (N.length / z * z) ++ List.replicate (z - N.length % z) 0).map V.int)) p = some (.ins T.A_Laying dx (lf (S.length : Nat) st (z : Nat) (N.length / z : Nat) (firstOf z (N.length / z) S) l)) := by
        rw [upd_ne npl, upd_ne npb]
        exact hp1
      have k2 := keep_upd (o := .lst ((N.drop (N.length / z * z) ++ List.replicate (z - N.length % z) 0).map V.int)) (keep_new (o := .lst ((List.replicate (z - N.length % z) (0 : Int)).map V.int)) k1 hb0) (show l ∈ [p, l] by simp)
      refine ⟨_, rfl, p, dx, _, rfl, hp2, lf_no (by decide +kernel), p, dx, l, _, _, _, _, _, _, rfl, hp2, upd_same, fun f H' l' tf hp' hl' nl nf k => ?_⟩
      have nl0 : H l' = none := by
        cases e : H l' with
        | none => rfl
        | some o =>
          by_cases e1 : l' ∈ [p, l]
          · rcases List.mem_cons.mp e1 with z1 | z1
            · subst z1; rw [hp2] at nl; cases nl
            · rw [List.mem_singleton.mp z1, upd_same] at nl; cases nl
          · rw [k2 _ _ e1 e] at nl; cases nl
      have nf0 : H f = none := by
        cases e : H f with
        | none => rfl
        | some o =>
          by_cases e1 : f ∈ [p, l]
          · rcases List.mem_cons.mp e1 with z1 | z1
            · subst z1; rw [hp2] at nf; cases nf
            · rw [List.mem_singleton.mp z1, upd_same] at nf; cases nf
          · rw [k2 _ _ e1 e] at nf; cases nf
      refine q1 hm f H' l' tf ⟨?_, ?_⟩ nl0 nf0 (k2.trans (k.mono (by simp))) (((((Dom.refl H).upd _ _).upd _ _).upd _ _).trans (Dom.of_keep k fun x hx => by rw [List.mem_singleton.mp hx]; exact ⟨_, hp'⟩))
      · have e1 : (padN z N).length = (N.length / z + 1) * z := by
          unfold padN
          rw [if_neg hm, List.length_append, List.length_replicate, Nat.succ_mul]
          have := div_mod z N.length
          omega
        have e2 : (padN z N).length / z = N.length / z + 1 := by rw [e1, Nat.mul_div_cancel _ hz]
        rw [e2, firstOf_none (fun s hs => ?_)]
        · exact hp'
        · have := hL.le s hs
          have := div_hi hz N.length
          rw [Nat.succ_mul]
          omega
      · have e1 : (padN z N).length = (N.length / z + 1) * z := by
          unfold padN
          rw [if_neg hm, List.length_append, List.length_replicate, Nat.succ_mul]
          have := div_mod z N.length
          omega
        have e2 : (padN z N).length / z * z = (padN z N).length := by rw [e1, Nat.mul_div_cancel _ hz]
        rw [e2, List.drop_length]
        exact hl'
end
end K04

namespace K04
open PySem PySem.Spec PyProof.Rows L2 Sky
section
variable {P : Program} {w : World} {K : PySem.W.Frag} {mg : Str → Option Value} {base : Heap}
/-! ### lay -/
def sp_lay (C : Addr) : Sp := fun vs H Q _ => ∃ (p dx l a : Addr) (st : Int) (z : Nat) (N : List Int) (S : List Nat) (t : List Int), vs = [.ref p, .ref a] ∧ LAt C H p dx l st z N S ∧ 0 < z ∧ z ≤ 100 ∧ Laid N S ∧
  H a = some (.tup (t.map V.int)) ∧ t.length ≤ 1000 ∧
  ∀ r us H' l', H' r = some (.lst us) → TDs H' us (((frms z (lay1 (N, S) t).1 (lay1 (N, S) t).2).drop (N.length / z)).map (frmD st)) → LAt C H' p dx l' st z (lay1 (N, S) t).1 (lay1 (N, S) t).2 →
    (l' = l ∨ H l' = none) → H r = none → Keep [p, l] H H' → Dom H H' → Q (.ref r) H'
theorem ok_Laying_lay (T : Tx K mg) : FnOk P w K mg base CX0 2 T.a_Laying_lay T.d_Laying_lay ["self", "telling"] (sp_lay T.A_Laying) := by
  have nd := sc_Laying_lay.nd
  refine T.F_Laying_lay.ok sc_Laying_lay (fun vs H Q E h => ?_) (fun cdv A outer s H vs Q E hr h => ?_)
  · obtain ⟨p, _, _, _, _, _, _, _, _, rfl, _⟩ := h
    rfl
  · obtain ⟨p, dx, l, a, st, z, N, S, t, rfl, ⟨hp, hl⟩, hz, hz1, hL, ha, ht, q⟩ := h
    have npl : p ≠ l := ne_of hp hl (by intro e; cases e)
    have nap : a ≠ p := ne_of ha hp (by intro e; cases e)
    have nal : a ≠ l := ne_of ha hl (by intro e; cases e)
    have hbl := body_length z N
    refine ⟨_, (pss_cons (ps_if (pt_cmpR op_isN (pe_fld (pv 0) rfl) pe_non (nomark _)) (pss_one (ps_fld (pv 0) (pe_callB call_len_seq (by rfl) T.z_len PySem.boot_len (pa_cons (pe_fld (pv 0) rfl) pa_nil)) rfl)) pss_nil) (pss_cons (ps_set (i := 2) nd rfl (Or.inl rfl) (pe_lst (pa_cons (pe_callB call_len_seq (by rfl) T.z_len PySem.boot_len (pa_cons (pv 1) pa_nil)) (pa_cons (pe_op op_fdivN (pe_fld (pv 0) rfl) (pe_glob (v := .int 256) (by rfl) T.c_HUNDRED ⟨_, rfl⟩)) (pa_cons (pe_op op_modN (pe_fld (pv 0) rfl) (pe_glob (v := .int 256) (by rfl) T.c_HUNDRED ⟨_, rfl⟩)) (StX.pa_star (pv 1) pa_nil)))))) (pss_cons (ps_fldaug (pv 0) pe_int in_add) (pss_cons (ps_set (i := 3) nd rfl (Or.inl rfl) (pe_lst pa_nil)) (pss_cons (ps_for PassesOwn.never rfl (pi_list (pv 2)) (pg_name (i := 4) nd rfl (Or.inl rfl)) (pss_cons (ps_expr (pe_bm PySem.F.plainAttrs_list PySem.F.slot_list_append PySem.F.type_list_append mt_append (pe_fld (pv 0) rfl) (pa_cons (pv 4) pa_nil))) (pss_one (ps_if (pt_cmpR op_eq (pe_callB call_len_seq (by rfl) T.z_len PySem.boot_len (pa_cons (pe_fld (pv 0) rfl) pa_nil)) (pe_fld (pv 0) rfl) (nomark _)) (pss_one (ps_expr (pe_bm PySem.F.plainAttrs_list PySem.F.slot_list_append PySem.F.type_list_append mt_append (pv 3) (pa_cons (pe_meth0 (pv 0) T.cl_Laying T.M_Laying_done (ok_Laying_done T) (hr.mono (by decide)) T.b_Laying_done .nil pass0) pa_nil)))) pss_nil)))) (pss_one (ps_ret (pv 3)))))))), ?_⟩
    -- if self._first is None: self._first = len(self._body)
    refine ⟨_, rfl, p, _, dx, _, _, rfl, hp, T.cl_Laying, T.n_Laying_first, lf_first, rfl, _, rfl, ?_⟩
    refine if_skip (fun H1 => H1 p = some (.ins T.A_Laying dx (lf (S.length : Nat) st (z : Nat) (N.length / z : Nat) (firstOf z (N.length / z) (S ++ [N.length])) l)) ∧ H1 l = some (.lst ((N.drop (N.length / z * z)).map V.int)) ∧ Keep [p, l] H H1 ∧ Dom H H1)
      (fun H1 ⟨hp1, hl1, k1, d1⟩ => ?_) (fun e rest => ?_) (fun e => ?_)
    case refine_2.refine_2 =>
      refine ⟨_, rfl, p, _, dx, _, _, rfl, hp, T.cl_Laying, T.n_Laying_body, lf_body, l, _, rfl, .inl (SqL.of hl), _, rfl, p, _, dx, _, rfl, hp, T.cl_Laying, T.n_Laying_first, lf_few, ?_⟩
      have e0 : firstOf z (N.length / z) S = none := by
        have := of_decide_eq_true e
        cases h : firstOf z (N.length / z) S with
        | none => rfl
        | some x => rw [h] at this; cases this
      have e1 : V.int (((N.drop (N.length / z * z)).map V.int).length : Nat) = optV (some (N.length % z)) := by rw [List.length_map, hbl]; rfl
      rw [e1, pf_first]
      refine rest _ ⟨?_, by rw [upd_ne npl.symm]; exact hl, keep_upd (Keep.refl _ _) (by simp), dom_upd _ _ _⟩
      rw [upd_same, first_start hz, e0]
      rfl
    case refine_2.refine_3 =>
      refine ⟨?_, hl, Keep.refl _ _, Dom.refl _⟩
      rw [hp, first_start hz]
      cases h : firstOf z (N.length / z) S with
      | none => rw [h] at e; exact absurd (decide_eq_true rfl) e
      | some x => rfl
    -- laid = [..]
    have ha1 : H1 a = some (.tup (t.map V.int)) := k1 _ _ (by simp [nap, nal]) ha
    refine ⟨_, rfl, a, _, rfl, .inr (SqT.of ha1), ?_⟩
    refine ⟨_, rfl, p, _, dx, _, _, rfl, hp1, T.cl_Laying, T.n_Laying_many, lf_many, _, 256, rfl, rfl, (show CDivN _ 256 from ⟨by decide, by decide⟩), ?_⟩
    refine ⟨_, rfl, p, _, dx, _, _, rfl, hp1, T.cl_Laying, T.n_Laying_many, lf_many, _, 256, rfl, rfl, (by decide : (256 : Int) ≠ 0), ?_⟩
    refine ⟨_, rfl, a, _, rfl, .inl (SqT.of ha1), ?_⟩
    have elaid : (V.int (((t.map V.int).length : Nat) : Int) :: V.int (((S.length : Nat) : Int).fdiv 256) :: V.int (((S.length : Nat) : Int).fmod 256) :: (t.map V.int ++ [])) = (laidN (S.length : Nat) t).map V.int := by
      unfold laidN
      rw [List.append_nil, List.length_map]
      rfl
    refine ⟨?_, fun ll hll => ?_⟩
    · show (V.int (((t.map V.int).length : Nat) : Int) :: V.int (((S.length : Nat) : Int).fdiv 256) :: V.int (((S.length : Nat) : Int).fmod 256) :: (t.map V.int ++ [])).length ≤ sizeLine
      rw [elaid, List.length_map, laidN_length]
      exact le_line (by omega)
    show tSeq _ _ _ (L2.start N_Laying_lay [V.ref p, V.ref a] |>.set 2 (some (.ref ll))) (upd H1 ll (.lst (V.int (((t.map V.int).length : Nat) : Int) :: V.int (((S.length : Nat) : Int).fdiv 256) :: V.int (((S.length : Nat) : Int).fmod 256) :: (t.map V.int ++ []))))
    rw [elaid]
    have nll0 : H ll = none := d1 _ hll
    have nlp : p ≠ ll := ne_of_none hp1 hll
    have nlb : l ≠ ll := ne_of_none hl1 hll
    -- self.many += 1
    refine ⟨_, rfl, p, _, dx, _, _, rfl, (by rw [upd_ne nlp]; exact hp1), T.cl_Laying, T.n_Laying_many, lf_many, _, 1, rfl, rfl, dx, _, (by rw [upd_ne nlp]; exact hp1), lf_few, ?_⟩
    rw [pf_many]
    -- full = []
    refine ⟨Nat.zero_le _, fun fl hfl => ?_⟩
    have nfp : p ≠ fl := ne_of_none upd_same hfl
    have hfl1 := hfl
    rw [upd_ne nfp.symm] at hfl1
    have nfl : ll ≠ fl := ne_of_none upd_same hfl1
    rw [upd_ne nfl.symm] at hfl1
    have nfb : l ≠ fl := ne_of_none hl1 hfl1
    have nfl0 : H fl = none := d1 _ hfl1
    have nff : a ≠ fl := ne_of_none ha1 hfl1
    have nfa : a ≠ ll := ne_of_none ha1 hll
    have kb : Keep [p, l] H (upd (upd (upd H1 ll (.lst ((laidN (S.length : Nat) t).map V.int))) p (.ins T.A_Laying dx (lf ((S.length : Nat) + 1) st (z : Nat) (N.length / z : Nat) (firstOf z (N.length / z) (S ++ [N.length])) l))) fl (.lst [])) :=
      keep_new (keep_upd (keep_new k1 nll0) (by simp)) nfl0
    have db : Dom H (upd (upd (upd H1 ll (.lst ((laidN (S.length : Nat) t).map V.int))) p (.ins T.A_Laying dx (lf ((S.length : Nat) + 1) st (z : Nat) (N.length / z : Nat) (firstOf z (N.length / z) (S ++ [N.length])) l))) fl (.lst [])) := ((d1.upd _ _).upd _ _).upd _ _
    have hpb : (upd (upd (upd H1 ll (.lst ((laidN (S.length : Nat) t).map V.int))) p (.ins T.A_Laying dx (lf ((S.length : Nat) + 1) st (z : Nat) (N.length / z : Nat) (firstOf z (N.length / z) (S ++ [N.length])) l))) fl (.lst [])) p = some (.ins T.A_Laying dx (lf ((S ++ [N.length]).length : Nat) st (z : Nat) (N.length / z : Nat) (firstOf z (N.length / z) (S ++ [N.length])) l)) := by
      rw [upd_ne nfp, upd_same, List.length_append]
      rfl
    have hlb : (upd (upd (upd H1 ll (.lst ((laidN (S.length : Nat) t).map V.int))) p (.ins T.A_Laying dx (lf ((S.length : Nat) + 1) st (z : Nat) (N.length / z : Nat) (firstOf z (N.length / z) (S ++ [N.length])) l))) fl (.lst [])) l = some (.lst ((N.drop (N.length / z * z)).map V.int)) := by
      rw [upd_ne nfb, upd_ne npl.symm, upd_ne nlb]
      exact hl1
    have hllb : (upd (upd (upd H1 ll (.lst ((laidN (S.length : Nat) t).map V.int))) p (.ins T.A_Laying dx (lf ((S.length : Nat) + 1) st (z : Nat) (N.length / z : Nat) (firstOf z (N.length / z) (S ++ [N.length])) l))) fl (.lst [])) ll = some (.lst ((laidN (S.length : Nat) t).map V.int)) := by
      rw [upd_ne nfl, upd_ne nlp.symm, upd_same]
    have hflb : (upd (upd (upd H1 ll (.lst ((laidN (S.length : Nat) t).map V.int))) p (.ins T.A_Laying dx (lf ((S.length : Nat) + 1) st (z : Nat) (N.length / z : Nat) (firstOf z (N.length / z) (S ++ [N.length])) l))) fl (.lst [])) fl = some (.lst []) := upd_same
    generalize (upd (upd (upd H1 ll (.lst ((laidN (S.length : Nat) t).map V.int))) p (.ins T.A_Laying dx (lf ((S.length : Nat) + 1) st (z : Nat) (N.length / z : Nat) (firstOf z (N.length / z) (S ++ [N.length])) l))) fl (.lst [])) = Hb at *
    -- the loop
    refine ⟨_, rfl, ll, rfl, ⟨_, SqL.of hllb⟩, ?_⟩
    refine for_list (K := K) (a := ll) (xs := (laidN (S.length : Nat) t).map V.int) (fun i σ H' => ∃ (v : Option V) (l' : Addr) (us : List V), σ = [some (.ref p), some (.ref a), some (.ref ll), some (.ref fl), v] ∧ (l' = l ∨ Hb l' = none) ∧
      LAt T.A_Laying H' p dx l' st z (N ++ (laidN (S.length : Nat) t).take i) (S ++ [N.length]) ∧ H' fl = some (.lst us) ∧ TDs H' us (((frms z (N ++ (laidN (S.length : Nat) t).take i) (S ++ [N.length])).drop (N.length / z)).map (frmD st)) ∧ Keep [p, l, fl] Hb H' ∧ Dom Hb H' ∧ us.length ≤ i) ?_ ?_ ?_ ?_
    · refine ⟨none, l, [], rfl, .inl rfl, ?_, hflb, ?_, Keep.refl _ _, Dom.refl _, Nat.le_refl _⟩
      · rw [List.take_zero, List.append_nil]
        exact ⟨hpb, hlb⟩
      · rw [List.take_zero, List.append_nil, frms_start, List.drop_of_length_le (by rw [frms_length]; exact Nat.le_refl _)]
        exact .nil
    · rintro i σ H' _ ⟨v, l', us, _, _, _, _, _, k, _, _⟩
      exact SqL.of (k _ _ (by simp [nlp.symm, nlb.symm, nfl]) hllb)
    · rintro i y σ H' hi ⟨v, l', us, rfl, hl', ⟨hp', hb'⟩, hf', hu, k, d, hus⟩
      obtain ⟨x, hx, rfl⟩ := map_get hi
      have hi3 : i < t.length + 3 := by rw [← laidN_length (S.length : Nat) t]; exact (List.getElem?_eq_some_iff.mp hx).1
      have npl' : p ≠ l' := ne_of hp' hb' (by intro e; cases e)
      have nfl' : fl ≠ l' := by
        rcases hl' with e | e
        · rw [e]; exact nfb.symm
        · exact ne_of_none hflb e
      have etake : N ++ (laidN (S.length : Nat) t).take (i + 1) = (N ++ (laidN (S.length : Nat) t).take i) ++ [x] := by rw [List.take_add_one, hx, List.append_assoc]; rfl
      have hLi : Laid (N ++ (laidN (S.length : Nat) t).take i) (S ++ [N.length]) := (hL.start).more _
      have hN0 : N.length ≤ (N ++ (laidN (S.length : Nat) t).take i).length := by rw [List.length_append]; exact Nat.le_add_right _ _
      have hS0 : ∀ s ∈ S ++ [N.length], s ≤ N.length := hL.start.le
      rw [etake]
      generalize N ++ (laidN (S.length : Nat) t).take i = Ni at *
      have hbi := body_length z Ni
      -- self._body.append(number)
      refine ⟨_, rfl, p, _, dx, _, _, rfl, hp', T.cl_Laying, T.n_Laying_body, lf_body, .inl ⟨rfl, _, SqL.of hb'⟩, _, rfl, l', _, _, rfl, rfl, hb', lt_line (by rw [List.length_map, hbi]; have := Nat.mod_lt Ni.length hz; omega), ?_⟩
      rw [show (Ni.drop (Ni.length / z * z)).map V.int ++ [V.int x] = (Ni.drop (Ni.length / z * z) ++ [x]).map V.int by rw [List.map_append]; rfl]
      have hp2 : upd H' l' (.lst ((Ni.drop (Ni.length / z * z) ++ [x]).map V.int)) p = some (.ins T.A_Laying dx (lf ((S ++ [N.length]).length : Nat) st (z : Nat) (Ni.length / z : Nat) (firstOf z (Ni.length / z) (S ++ [N.length])) l')) := by rw [upd_ne npl']; exact hp'
      have hf2 : upd H' l' (.lst ((Ni.drop (Ni.length / z * z) ++ [x]).map V.int)) fl = some (.lst us) := by rw [upd_ne nfl']; exact hf'
      have hu2 : TDs (upd H' l' (.lst ((Ni.drop (Ni.length / z * z) ++ [x]).map V.int))) us (((frms z Ni (S ++ [N.length])).drop (N.length / z)).map (frmD st)) := hu.mono (ts_upd (TSm.refl _) (NoT.lst hb'))
      have k2 : Keep [p, l, fl] Hb (upd H' l' (.lst ((Ni.drop (Ni.length / z * z) ++ [x]).map V.int))) := by
        rcases hl' with e | e
        · exact keep_upd k (by simp [e])
        · exact keep_mut k e
      have d2 : Dom Hb (upd H' l' (.lst ((Ni.drop (Ni.length / z * z) ++ [x]).map V.int))) := d.upd _ _
      have hb2 : upd H' l' (.lst ((Ni.drop (Ni.length / z * z) ++ [x]).map V.int)) l' = some (.lst ((Ni.drop (Ni.length / z * z) ++ [x]).map V.int)) := upd_same
      generalize upd H' l' (.lst ((Ni.drop (Ni.length / z * z) ++ [x]).map V.int)) = H2 at *
      -- if len(self._body) == self._size
      refine ⟨_, rfl, p, _, dx, _, _, rfl, hp2, T.cl_Laying, T.n_Laying_body, lf_body, l', _, rfl, .inl (SqL.of hb2), _, rfl, p, _, dx, _, _, rfl, hp2, T.cl_Laying, T.n_Laying_size, lf_size, rfl, _, rfl, ?_⟩
      have hlen : ((Ni.drop (Ni.length / z * z) ++ [x]).map V.int).length = Ni.length % z + 1 := by rw [List.length_map, List.length_append, hbi]; rfl
      refine ite2 (fun e => ?_) (fun e => ?_)
      · have e0 : Ni.length % z + 1 = z := by
          have := of_decide_eq_true e
          rw [hlen] at this
          injection this with this
          exact Int.ofNat.inj this
        obtain ⟨g1, g2, g3⟩ := step_full hz e0 (x := x)
        -- full.append(self._done())
        refine ⟨_, rfl, .inl ⟨rfl, _, SqL.of hf2⟩, _, rfl, p, dx, _, rfl, hp2, lf_no (by decide +kernel), p, dx, l', _, _, _, _, _, _, rfl, hp2, hb2, fun f H3 l3 tf hp3 hl3 nl3 nf3 k3 => ?_⟩
        have npf2 : fl ≠ p := nfp.symm
        have hf3 : H3 fl = some (.lst us) := k3 _ _ (by simp [npf2]) hf2
        have ts3 : TSm H2 H3 := k3.ts (fun m hm => by rw [List.mem_singleton.mp hm]; exact NoT.ins hp2)
        have hu3 := hu2.mono ts3
        refine ⟨fl, us, _, rfl, rfl, hf3, ?_, ?_⟩
        · exact lt_line (by omega)
        · refine ⟨some (.int x), l3, us ++ [.ref f], rfl, .inr (d2 _ nl3), ⟨?_, ?_⟩, upd_same, ?_, ?_, (d2.trans (Dom.of_keep k3 (by intro m hm; rw [List.mem_singleton.mp hm]; exact ⟨_, hp3⟩))).upd _ _, by rw [List.length_append]; exact Nat.succ_le_succ hus⟩
          · rw [upd_ne nfp, g2, firstOf_none (fun s hs => by have := hS0 s hs; rw [Nat.succ_mul]; omega)]
            exact hp3
          · have n3f : l3 ≠ fl := (ne_of_none hf2 nl3).symm
            rw [upd_ne n3f, g2, g3]
            exact hl3
          · rw [frms_full hz (by rw [List.length_singleton]; exact g1), List.drop_append_of_le_length (by rw [frms_length]; exact Nat.div_le_div_right hN0), List.map_append]
            exact (hu3.app (.one tf)).mono (ts_upd (TSm.refl _) (NoT.lst hf3))
          · exact keep_upd (k2.trans (k3.mono (by simp))) (by simp)
      · have e0 : Ni.length % z + 1 ≠ z := fun z1 => e (decide_eq_true (by rw [hlen, z1]))
        obtain ⟨g1, g2, g3⟩ := step_not hz e0 (x := x)
        refine ⟨some (.int x), l', us, rfl, hl', ⟨?_, ?_⟩, hf2, ?_, k2, d2, Nat.le_succ_of_le hus⟩
        · rw [g2]; exact hp2
        · rw [g2, g3]; exact hb2
        · rw [frms_same hz (by rw [List.length_singleton]; exact g1)]; exact hu2
    · rintro σ H' ⟨v, l', us, rfl, hl', hA, hf', hu, k, d, _⟩
      rw [List.take_of_length_le (by rw [List.length_map]; exact Nat.le_refl _)] at hA hu
      refine ⟨_, rfl, q fl us H' l' hf' hu hA ?_ nfl0 (kb.join k (by simp [nfl0])) (db.trans d)⟩
      rcases hl' with e | e
      · exact .inl e
      · exact .inr (db _ e)
end
end K04

namespace K04
open PySem PySem.Spec PyProof.Rows L2 Sky
section
variable {P : Program} {w : World} {K : PySem.W.Frag} {mg : Str → Option Value} {base : Heap}
/-- the drawing list: [mixed, the script's rest, which is next] -/
def HAt (H : Hp) (p q : Addr) : Prop := ∃ (m k : Int) (ns : List Int), p ≠ q ∧ H p = some (.lst [.int m, .ref q, .int k]) ∧ H q = some (.lst (ns.map V.int)) ∧ 0 ≤ m ∧ m < 2147483647 ∧ 0 ≤ k ∧ ns.length ≤ 63
theorem fmod_nn {a b : Int} (hb : 0 < b) : 0 ≤ a.fmod b := Int.fmod_nonneg_of_pos a hb
theorem fmod_lt {a b : Int} (hb : 0 < b) : a.fmod b < b := Int.fmod_lt_of_pos a hb
def sp_mix (K : PySem.W.Frag) : Sp := fun vs H Q _ => ∃ (a : Addr) (ns : List Int) (seed : Int), vs = [.ref a, .int seed] ∧ SqL K H a (ns.map V.int) ∧ 0 ≤ seed ∧ seed < 2147483647 ∧ ns.length ≤ 63 ∧
  ∀ p q H', HAt H' p q → H p = none → H q = none → Same H H' → Q (.ref p) H'
theorem ok_law_mix (T : Tx K mg) : FnOk P w K mg base CX0 1 T.a_law_mix T.d_law_mix ["_law_script", "_law_seed"] (sp_mix K) := by
  have nd := sc_law_mix.nd
  refine T.F_law_mix.ok sc_law_mix (fun vs H Q E h => ?_) (fun cdv A outer s H vs Q E hr h => ?_)
  · obtain ⟨_, _, _, rfl, _⟩ := h
    rfl
  · obtain ⟨a, ns, seed, rfl, hS, s0, s1, hns, k⟩ := h
    refine ⟨_, (pss_cons (ps_set (i := 2) nd rfl (Or.inl rfl) (pv 1)) (pss_cons (ps_for PassesOwn.never rfl (pi_list (pv 0)) (pg_name (i := 3) nd rfl (Or.inl rfl)) (pss_one (ps_set (i := 2) nd rfl (Or.inl rfl) (pe_op op_modN (pe_op op_add (pe_op op_add (pe_op op_mul (pv 2) pe_int) (pe_op op_modN (pv 3) pe_int)) pe_int) pe_int)))) (pss_one (ps_ret (pe_lst (pa_cons (pv 2) (pa_cons (pe_callTy call_list_of (by rfl) T.z_list (by decide +kernel) (pa_cons (pv 0) pa_nil)) (pa_cons pe_int pa_nil)))))))), ?_⟩
    refine ⟨_, rfl, _, rfl, a, rfl, ⟨_, hS⟩, ?_⟩
    refine for_list (K := K) (a := a) (xs := ns.map V.int) (fun i σ H' => ∃ (m : Int) (v : Option V), σ = [some (.ref a), some (.int seed), some (.int m), v] ∧ 0 ≤ m ∧ m < 2147483647 ∧ H' = H) ⟨seed, none, rfl, s0, s1, rfl⟩ (fun i σ H' _ ⟨_, _, _, _, _, e⟩ => by rw [e]; exact hS) ?_ ?_
    · rintro i y σ H' hy ⟨m, v, rfl, m0, m1, rfl⟩
      obtain ⟨x, hx, rfl⟩ := map_get hy
      refine ⟨_, rfl, m, 48271, rfl, rfl, .inr (by decide), ?_⟩
      refine ⟨_, rfl, x, 2147483629, rfl, rfl, (by decide : (2147483629 : Int) ≠ 0), _, _, rfl, rfl, _, 1, rfl, rfl, _, 2147483647, rfl, rfl, (by decide : (2147483647 : Int) ≠ 0), ?_⟩
      exact ⟨_, _, rfl, fmod_nn (by decide), fmod_lt (by decide), rfl⟩
    · rintro σ H' ⟨m, v, rfl, m0, m1, rfl⟩
      refine ⟨_, rfl, _, rfl, a, _, rfl, .inl hS, fun q hq => ⟨(by decide : (3 : Nat) ≤ sizeLine), fun p hp => ?_⟩⟩
      have nqp : q ≠ p := ne_of_none upd_same hp
      have hp0 : H' p = none := by rw [upd_ne nqp.symm] at hp; exact hp
      exact k p q _ ⟨m, 0, ns, nqp.symm, upd_same, by rw [upd_ne nqp]; exact upd_same, m0, m1, Int.le_refl _, hns⟩ hp0 hq (same_mut (same_new (Same.refl _) hq) hp0)
def sp_next : Sp := fun vs H Q _ => ∃ (p q : Addr) (n : Int), vs = [.ref p, .int n] ∧ HAt H p q ∧ 0 < n ∧ n < 1000000 ∧ ∀ r H', 0 ≤ r → r < n → HAt H' p q → Keep [p, q] H H' → Dom H H' → Q (.int r) H'
theorem ok_law_next (T : Tx K mg) : FnOk P w K mg base CX0 1 T.a_law_next T.d_law_next ["_law_h", "_law_many_here"] sp_next := by
  have nd := sc_law_next.nd
  refine T.F_law_next.ok sc_law_next (fun vs H Q E h => ?_) (fun cdv A outer s H vs Q E hr h => ?_)
  · obtain ⟨_, _, _, rfl, _⟩ := h
    rfl
  · obtain ⟨p, q, n, rfl, ⟨m, k, ns, npq, hp, hq, m0, m1, k0, hns⟩, n0, n1, fin⟩ := h
    refine ⟨_, (pss_cons (ps_set (i := 2) nd rfl (Or.inl rfl) (pe_op op_modN (pe_ix ix_list (pv 0) pe_int (fun _ _ => rfl)) (pe_callB (call_max2 rfl) (by rfl) T.z_max (by decide +kernel) (pa_cons pe_int (pa_cons (pe_callB call_len_seq (by rfl) T.z_len PySem.boot_len (pa_cons (pe_ix ix_list (pv 0) pe_int (fun _ _ => rfl)) pa_nil)) pa_nil))))) (pss_cons (ps_set (i := 3) nd rfl (Or.inl rfl) (pe_ifExp (pt_cmpR (op_neD hr.units) (pe_ix ix_list (pv 0) pe_int (fun _ _ => rfl)) (pe_lst pa_nil) (nomark _)) (pe_ix ix_list (pe_ix ix_list (pv 0) pe_int (fun _ _ => rfl)) (pv 2) (fun _ _ => rfl)) pe_int)) (pss_cons (ps_if (pt_cmpR op_ge (pv 3) (pe_op op_pow pe_int pe_int) (nomark _)) (pss_cons (ps_asg (pe_op op_fdivN (pv 3) (pv 1)) (pg_sub (pe_ix ix_list (pv 0) pe_int (fun _ _ => rfl)) (pv 2) set_list)) (pss_one (ps_ret (pe_op op_modN (pv 3) (pv 1))))) pss_nil) (pss_cons (ps_asg (pe_op op_modN (pe_op op_add (pe_op op_add (pe_op op_mul (pe_ix ix_list (pv 0) pe_int (fun _ _ => rfl)) pe_int) (pe_op op_mul (pv 3) pe_int)) pe_int) pe_int) (pg_sub (pv 0) pe_int set_list)) (pss_cons (ps_asg (pe_op op_add (pe_ix ix_list (pv 0) pe_int (fun _ _ => rfl)) pe_int) (pg_sub (pv 0) pe_int set_list)) (pss_one (ps_ret (pe_op op_modN (pe_op op_fdivN (pe_ix ix_list (pv 0) pe_int (fun _ _ => rfl)) pe_int) (pv 1))))))))), ?_⟩
    -- at
    refine ⟨_, rfl, p, _, 2, .int k, rfl, rfl, SqL.of hp, atI_nat (j := 2) rfl, ?_⟩
    refine ⟨_, rfl, p, _, 1, .ref q, rfl, rfl, SqL.of hp, atI_nat (j := 1) rfl, q, _, rfl, .inl (SqL.of hq), 1, _, rfl, ?_⟩
    have hlen : ((ns.map V.int).length : Int) = (ns.length : Int) := by rw [List.length_map]
    rw [hlen]
    have hx : (if ((ns.length : Nat) : Int) > 1 then ((ns.length : Nat) : Int) else 1) = ((max 1 ns.length : Nat) : Int) := by
      split <;> omega
    show ∃ i j, V.int k = .int i ∧ V.int (if ((ns.length : Nat) : Int) > 1 then ((ns.length : Nat) : Int) else 1) = .int j ∧ _
    rw [hx]
    refine ⟨_, _, rfl, rfl, (by show ((max 1 ns.length : Nat) : Int) ≠ 0; omega), ?_⟩
    have hat0 : 0 ≤ k.fmod ((max 1 ns.length : Nat) : Int) := fmod_nn (by omega)
    have hat1 : k.fmod ((max 1 ns.length : Nat) : Int) < ((max 1 ns.length : Nat) : Int) := fmod_lt (by omega)
    obtain ⟨at', eat⟩ : ∃ at' : Nat, k.fmod ((max 1 ns.length : Nat) : Int) = (at' : Int) := ⟨_, (Int.toNat_of_nonneg hat0).symm⟩
    show tSeq _ _ _ (L2.start N_law_next [V.ref p, V.int n] |>.set 2 (some (.int (k.fmod ((max 1 ns.length : Nat) : Int))))) H
    rw [eat] at hat1 ⊢
    have hat2 : at' < max 1 ns.length := Int.ofNat_lt.mp hat1
    -- cell
    refine ⟨_, rfl, p, _, 1, .ref q, rfl, rfl, SqL.of hp, atI_nat (j := 1) rfl, Nat.zero_le _, fun e he => ?_⟩
    have npe : p ≠ e := ne_of_none hp he
    have nqe : q ≠ e := ne_of_none hq he
    have hp1 : upd H e (.lst []) p = some (.lst [.int m, .ref q, .int k]) := by rw [upd_ne npe]; exact hp
    have hq1 : upd H e (.lst []) q = some (.lst (ns.map V.int)) := by rw [upd_ne nqe]; exact hq
    have k1 : Keep [p, q] H (upd H e (.lst [])) := keep_new (Keep.refl _ _) he
    have d1 : Dom H (upd H e (.lst [])) := dom_upd _ _ _
    have de : Dp K (upd H e (.lst [])) (.ref e) (.list []) := .lst (SqL.of upd_same) .nil
    generalize upd H e (.lst []) = H1 at *
    refine ⟨.list (ns.map PyData.int), .list [], .lst (SqL.of hq1) (dpAll_ints ns), de, (Lay.list (k := 0) fun x _ => Lay.int x).shaped (by decide), Lay.nil.shaped (by decide), _, rfl, ?_⟩
    rw [eqv_nil]
    refine ife_skip (fun v H2 => ∃ cell : Int, v = .int cell ∧ H2 = H1 ∧ ((1000000000000000000 : Int) ≤ cell → ns[at']? = some cell)) (fun v H2 ⟨cell, ev, eh, hcell⟩ => ?_) (fun e rest => ?_) (fun e rest => ?_)
    case refine_2 =>
      have hne : ns ≠ [] := fun z => by subst z; exact absurd e (by decide)
      have hl0 : 0 < ns.length := List.length_pos_iff.mpr hne
      have hlt : at' < ns.length := by omega
      refine ⟨_, rfl, p, _, 1, .ref q, rfl, rfl, SqL.of hp1, atI_nat (j := 1) rfl, _, rfl, q, _, at', .int ns[at'], rfl, rfl, SqL.of hq1, atI_nat (by rw [List.getElem?_map, List.getElem?_eq_getElem hlt]; rfl), ?_⟩
      exact rest _ _ ⟨_, rfl, rfl, fun _ => List.getElem?_eq_getElem hlt⟩
    case refine_3 => exact rest _ _ ⟨0, rfl, rfl, fun z => absurd z (by decide)⟩
    subst ev eh
    refine ⟨_, rfl, 10, 18, rfl, rfl, ⟨by decide, by decide, by decide⟩, _, _, rfl, rfl, _, rfl, ite2 (fun e => ?_) (fun e => ?_)⟩
    · have hc : (1000000000000000000 : Int) ≤ cell := of_decide_eq_true e
      have hg := hcell hc
      have hlt : at' < ns.length := (List.getElem?_eq_some_iff.mp hg).1
      have hcq : CDivN cell n := ⟨by omega, by omega⟩
      refine ⟨_, rfl, _, rfl, cell, n, rfl, rfl, hcq, _, rfl, p, _, 1, .ref q, rfl, rfl, SqL.of hp1, atI_nat (j := 1) rfl, _, rfl, q, _, _, at', rfl, rfl, hq1, ?_, ?_⟩
      · unfold ixN
        rw [List.length_map, if_pos (by omega), if_pos (by omega)]
        simp
      · refine ⟨_, rfl, _, rfl, cell, n, rfl, rfl, (by show n ≠ 0; omega), ?_⟩
        rw [show (ns.map V.int).set at' (V.int (cell.fdiv n)) = (ns.set at' (cell.fdiv n)).map V.int by rw [List.map_set]]
        refine fin _ _ (fmod_nn n0) (fmod_lt n0) ⟨m, k, _, npq, by rw [upd_ne npq]; exact hp1, upd_same, m0, m1, k0, by rw [List.length_set]; exact hns⟩ (keep_upd k1 (by simp)) (d1.upd _ _)
    · -- h[0] = ..
      refine ⟨_, rfl, p, _, 0, .int m, rfl, rfl, SqL.of hp1, atI_nat (j := 0) rfl, m, 48271, rfl, rfl, .inr (by decide), ?_⟩
      refine ⟨_, rfl, cell, 69621, rfl, rfl, .inr (by decide), _, _, rfl, rfl, _, 11, rfl, rfl, _, 2147483647, rfl, rfl, (by decide : (2147483647 : Int) ≠ 0), ?_⟩
      refine ⟨_, rfl, p, _, 0, 0, rfl, rfl, hp1, rfl, ?_⟩
      have hm0 : 0 ≤ (m * 48271 + cell * 69621 + 11).fmod 2147483647 := fmod_nn (by decide)
      have hm1 : (m * 48271 + cell * 69621 + 11).fmod 2147483647 < 2147483647 := fmod_lt (by decide)
      show tSeq _ _ _ _ (upd H2 p (.lst [.int ((m * 48271 + cell * 69621 + 11).fmod 2147483647), .ref q, .int k]))
      generalize (m * 48271 + cell * 69621 + 11).fmod 2147483647 = m' at *
      -- h[2] = h[2] + 1
      refine ⟨_, rfl, p, _, 2, .int k, rfl, rfl, SqL.of upd_same, atI_nat (j := 2) rfl, k, 1, rfl, rfl, _, rfl, p, _, 2, 2, rfl, rfl, upd_same, rfl, ?_⟩
      rw [upd_upd]
      -- return h[0] // 7 % many
      refine ⟨_, rfl, p, _, 0, .int m', rfl, rfl, SqL.of upd_same, atI_nat (j := 0) rfl, m', 7, rfl, rfl, ⟨by decide, by decide⟩, _, rfl, _, n, rfl, rfl, (by show n ≠ 0; omega), ?_⟩
      exact fin _ _ (fmod_nn n0) (fmod_lt n0) ⟨m', k + 1, ns, npq, upd_same, by rw [upd_ne npq.symm]; exact hq1, hm0, hm1, by omega, hns⟩ (keep_upd k1 (by simp)) (d1.upd _ _)
end
end K04

namespace K04
open PySem PySem.Spec PyProof.Rows L2 Sky
section
variable {P : Program} {w : World} {K : PySem.W.Frag} {mg : Str → Option Value} {base : Heap}
theorem HAt.new {H : Hp} {p q a : Addr} {o : HO} (h : HAt H p q) (n : H a = none) : HAt (upd H a o) p q := by
  obtain ⟨m, k, ns, npq, hp, hq, r⟩ := h
  exact ⟨m, k, ns, npq, by rw [upd_ne (ne_of_none hp n)]; exact hp, by rw [upd_ne (ne_of_none hq n)]; exact hq, r⟩
theorem HAt.ne {H : Hp} {p q a : Addr} {o : HO} (h : HAt H p q) (n : a ≠ p) (n' : a ≠ q) : HAt (upd H a o) p q := by
  obtain ⟨m, k, ns, npq, hp, hq, r⟩ := h
  exact ⟨m, k, ns, npq, by rw [upd_ne n.symm]; exact hp, by rw [upd_ne n'.symm]; exact hq, r⟩
theorem HAt.there {H : Hp} {p q : Addr} (h : HAt H p q) : ∀ m ∈ [p, q], ∃ o, H m = some o := by
  obtain ⟨m, k, ns, npq, hp, hq, r⟩ := h
  intro x hx
  rcases List.mem_cons.mp hx with e | e
  · rw [e]; exact ⟨_, hp⟩
  · rw [List.mem_singleton.mp e]; exact ⟨_, hq⟩
theorem HAt.noT {H : Hp} {p q : Addr} (h : HAt H p q) : ∀ m ∈ [p, q], NoT H m := by
  obtain ⟨m, k, ns, npq, hp, hq, r⟩ := h
  intro x hx
  rcases List.mem_cons.mp hx with e | e
  · rw [e]; exact NoT.lst hp
  · rw [List.mem_singleton.mp e]; exact NoT.lst hq
theorem HAt.fresh {H : Hp} {p q a : Addr} (h : HAt H p q) (n : H a = none) : a ≠ p ∧ a ≠ q := by
  obtain ⟨m, k, ns, npq, hp, hq, r⟩ := h
  exact ⟨(ne_of_none hp n).symm, (ne_of_none hq n).symm⟩
/-- an item of a written list at a drawn place -/
theorem at_of {xs : List V} {r : Int} {R : V → Prop} (h0 : 0 ≤ r) (h1 : r < (xs.length : Int)) (h : ∀ v ∈ xs, R v) : ∃ v, atI xs r = some v ∧ R v := by
  obtain ⟨n, rfl⟩ : ∃ n : Nat, r = (n : Int) := ⟨r.toNat, (Int.toNat_of_nonneg h0).symm⟩
  have hl : n < xs.length := by omega
  exact ⟨xs[n], atI_nat (List.getElem?_eq_getElem hl), h _ (List.getElem_mem hl)⟩
def sp_data : Sp := fun vs H Q _ => ∃ (p q : Addr), vs = [.ref p] ∧ HAt H p q ∧ ∀ t xs H', tellOk xs → H' t = some (.tup (xs.map V.int)) → H t = none → HAt H' p q → Keep [p, q] H H' → Dom H H' → Q (.ref t) H'
theorem ok_law_data (T : Tx K mg) : FnOk P w K mg base CX0 2 T.a_law_data T.d_law_data ["_law_h"] sp_data := by
  have nd := sc_law_data.nd
  refine T.F_law_data.ok sc_law_data (fun vs H Q E h => ?_) (fun cdv A outer s H vs Q E hr h => ?_)
  · obtain ⟨_, _, rfl, _⟩ := h
    rfl
  · obtain ⟨p, q, rfl, hA, fin⟩ := h
    refine ⟨_, (pss_cons (ps_set (i := 1) nd rfl (Or.inl rfl) (pe_ix ix_list (pe_lst (pa_cons pe_int (pa_cons (pe_op op_add pe_int (pe_call (ok_law_next T) (hr.mono (by decide)) (by rfl) T.m_law_next T.F_law_next.kp T.b_law_next .nil pass0 (pa_cons (pv 0) (pa_cons pe_int pa_nil)))) (pa_cons (pe_op op_add pe_int (pe_call (ok_law_next T) (hr.mono (by decide)) (by rfl) T.m_law_next T.F_law_next.kp T.b_law_next .nil pass0 (pa_cons (pv 0) (pa_cons pe_int pa_nil)))) (pa_cons pe_int pa_nil))))) (pe_call (ok_law_next T) (hr.mono (by decide)) (by rfl) T.m_law_next T.F_law_next.kp T.b_law_next .nil pass0 (pa_cons (pv 0) (pa_cons pe_int pa_nil))) (fun _ _ => rfl))) (pss_one (ps_ret (pe_tupleOf (by rfl) T.z_tuple (pe_lc (own := [("_law_k", 2)]) rfl nd (pi_range1 rfl T.z_range (pa_cons (pv 1) pa_nil)) (blkOk_by (own := [("_law_k", 2)]) (N := N_law_data) (sc := defScope s_law_data) (by decide +kernel)) (fun _ _ _ _ _ => (pg_name (i := 2) nd rfl (Or.inl rfl))) (fun _ _ _ _ _ => pts_nil) (fun _ _ _ _ _ => (pe_call (ok_law_next T) (hr.mono (by decide)) (by rfl) T.m_law_next T.F_law_next.kp T.b_law_next .nil pass0 (pa_cons (pv 0) (pa_cons (pe_ix (ix_listK (K := K) rfl) (pe_lst (pa_cons pe_int (pa_cons pe_int pa_nil))) (pe_call (ok_law_next T) (hr.mono (by decide)) (by rfl) T.m_law_next T.F_law_next.kp T.b_law_next .nil pass0 (pa_cons (pv 0) (pa_cons pe_int pa_nil))) (fun _ _ => rfl)) pa_nil))))))))), ?_⟩
    refine ⟨_, rfl, p, q, 5, rfl, hA, by decide, by decide, fun r1 H1 r10 r11 hA1 k1 d1 => ⟨1, r1, rfl, rfl, ?_⟩⟩
    refine ⟨_, rfl, p, q, 20, rfl, hA1, by decide, by decide, fun r2 H2 r20 r21 hA2 k2 d2 => ⟨1, r2, rfl, rfl, ?_⟩⟩
    refine ⟨(by decide : (4 : Nat) ≤ sizeLine), fun a ha => ?_⟩
    have k3 : Keep [p, q] H (upd H2 a (.lst [.int 1, .int (1 + r1), .int (1 + r2), .int 20])) := keep_new (k1.trans k2) (d1 _ (d2 _ ha))
    have d3 : Dom H (upd H2 a (.lst [.int 1, .int (1 + r1), .int (1 + r2), .int 20])) := (d1.trans d2).upd _ _
    have hA3 : HAt (upd H2 a (.lst [.int 1, .int (1 + r1), .int (1 + r2), .int 20])) p q := hA2.new ha
    have ha3 : upd H2 a (.lst [.int 1, .int (1 + r1), .int (1 + r2), .int 20]) a = some (.lst [.int 1, .int (1 + r1), .int (1 + r2), .int 20]) := upd_same
    have naf := hA2.fresh ha
    generalize upd H2 a (.lst [.int 1, .int (1 + r1), .int (1 + r2), .int 20]) = H3 at *
    refine ⟨_, rfl, p, q, 4, rfl, hA3, by decide, by decide, fun r4 H4 r40 r41 hA4 k4 d4 => ?_⟩
    have ha4 := k4 _ _ (by simp [naf.1, naf.2]) ha3
    obtain ⟨v, hv, n, rfl, n1, n20⟩ := at_of (R := fun v => ∃ n : Int, v = .int n ∧ 1 ≤ n ∧ n ≤ 20) r40 (xs := [.int 1, .int (1 + r1), .int (1 + r2), .int 20]) r41 (by
      intro v hv
      simp only [List.mem_cons, List.not_mem_nil, or_false] at hv
      rcases hv with rfl | rfl | rfl | rfl
      · exact ⟨_, rfl, by omega, by omega⟩
      · exact ⟨_, rfl, by omega, by omega⟩
      · exact ⟨_, rfl, by omega, by omega⟩
      · exact ⟨_, rfl, by omega, by omega⟩)
    refine ⟨a, _, _, _, rfl, rfl, SqL.of ha4, hv, ?_⟩
    have k5 : Keep [p, q] H H4 := k3.trans k4
    have d5 : Dom H H4 := d3.trans d4
    obtain ⟨N, rfl⟩ : ∃ N : Nat, n = (N : Int) := ⟨n.toNat, (Int.toNat_of_nonneg (by omega)).symm⟩
    -- return tuple([..])
    refine ⟨_, rfl, _, rfl, (by omega), (by omega), fun D hD => ?_⟩
    have hD0 : H D = none := d5 _ hD
    refine lc_range (lo := 0) (n := ((N : Nat) : Int).toNat) (fun i H' => ∃ xs : List Int, H' D = some (.lst (xs.map V.int)) ∧ xs.length = i ∧ (∀ x ∈ xs, 0 ≤ x ∧ x ≤ 255) ∧ HAt H' p q ∧ Keep [p, q] H H' ∧ Dom H H') ?_ ?_ ?_
    · exact ⟨[], upd_same, rfl, by simp, hA4.new hD, keep_new k5 hD0, d5.upd _ _⟩
    · rintro i H' hi ⟨xs, hx, hl, hb, hA', k', d'⟩
      refine ⟨rfl, _, rfl, (by decide : (2 : Nat) ≤ sizeLine), fun b hb' => ?_⟩
      have nb : b ≠ D := (ne_of_none hx hb').symm
      have nbf := hA'.fresh hb'
      refine ⟨_, rfl, p, q, 2, rfl, hA'.new hb', by decide, by decide, fun r H1 r0 r1 hA1 k1 d1 => ?_⟩
      obtain ⟨v, hv, m, rfl, m0, m1⟩ := at_of (R := fun v => ∃ n : Int, v = .int n ∧ 0 < n ∧ n ≤ 256) r0 (xs := [.int 2, .int 256]) r1 (by
        intro v hv
        simp only [List.mem_cons, List.not_mem_nil, or_false] at hv
        rcases hv with rfl | rfl
        · exact ⟨_, rfl, by omega, by omega⟩
        · exact ⟨_, rfl, by omega, by omega⟩)
      refine ⟨b, _, _, _, rfl, rfl, SqL.of (k1 _ _ (by simp [nbf.1, nbf.2]) upd_same), hv, ?_⟩
      refine ⟨p, q, m, rfl, hA1, m0, by omega, fun r' H2 r0' r1' hA2 k2 d2 => ?_⟩
      have nDf : D ≠ p ∧ D ≠ q := by
        obtain ⟨_, _, _, _, hp, hq, _⟩ := hA
        exact ⟨(ne_of_none hp hD0).symm, (ne_of_none hq hD0).symm⟩
      have hx2 : H2 D = some (.lst (xs.map V.int)) := k2 _ _ (by simp [nDf.1, nDf.2]) (k1 _ _ (by simp [nDf.1, nDf.2]) (by rw [upd_ne nb.symm]; exact hx))
      refine ⟨_, hx2, lt_line (by rw [List.length_map]; omega), xs ++ [r'], by rw [upd_same, List.map_append]; rfl, by rw [List.length_append, hl]; rfl, ?_, hA2.ne nDf.1 nDf.2, keep_new (((keep_new' k' hb').trans k1).trans k2) hD0, (((d'.upd _ _).trans d1).trans d2).upd _ _⟩
      intro x hx
      rcases List.mem_append.mp hx with e | e
      · exact hb x e
      · rw [List.mem_singleton.mp e]
        exact ⟨r0', by omega⟩
    · rintro H' ⟨xs, hx, hl, hb, hA', k', d'⟩
      refine .inl ⟨D, _, rfl, SqL.of hx, fun t ht => ?_⟩
      have ht0 := d' _ ht
      exact fin t xs _ ⟨by omega, by omega, hb⟩ upd_same ht0 (hA'.new ht) (keep_new k' ht0) (d'.upd _ _)
end
end K04

namespace K04
open PySem PySem.Spec PyProof.Rows L2 Sky
/-! ### dicts by marks, in lists -/
def mkK (m : Nat × Nat) : List Key := [Sum.inl ((m.1 : Nat) : Int), Sum.inl ((m.2 : Nat) : Int)]
theorem mkK_inj {a b : Nat × Nat} : mkK a = mkK b ↔ a = b := by
  constructor
  · intro h
    unfold mkK at h
    injection h with h1 h2
    injection h2 with h2 _
    injection h1 with h1
    injection h2 with h2
    exact Prod.ext (by omega) (by omega)
  · intro h; rw [h]
def keysD {α : Type} (f : α → Nat × Nat) (g : α → V) (l : List α) : List (List Key × V) := l.map fun x => (mkK (f x), g x)
section
variable {α : Type} {f : α → Nat × Nat} {g : α → V}
theorem val_some {l : List α} {x : α} (nd : (l.map f).Nodup) (h : x ∈ l) : valV (keysD f g l) (mkK (f x)) = some (g x) := by
  induction l with
  | nil => cases h
  | cons y l ih =>
    rw [List.map_cons, List.nodup_cons] at nd
    by_cases e : f y = f x
    · rcases List.mem_cons.mp h with z | z
      · subst z
        exact valV_pos rfl
      · exact absurd (List.mem_map.mpr ⟨x, z, e.symm⟩) nd.1
    · rcases List.mem_cons.mp h with z | z
      · subst z; exact absurd rfl e
      · unfold keysD
        rw [List.map_cons, valV_neg (fun q => e (mkK_inj.mp q))]
        exact ih nd.2 z
theorem val_none {l : List α} {m : Nat × Nat} (h : m ∉ l.map f) : valV (keysD f g l) (mkK m) = none := by
  induction l with
  | nil => rfl
  | cons y l ih =>
    rw [List.map_cons, List.mem_cons, not_or] at h
    unfold keysD
    rw [List.map_cons, valV_neg (fun q => h.1 (mkK_inj.mp q).symm)]
    exact ih h.2
theorem val_isSome {l : List α} {m : Nat × Nat} : (valV (keysD f g l) (mkK m)).isSome = decide (m ∈ l.map f) := by
  by_cases h : m ∈ l.map f
  · rw [decide_eq_true h]
    induction l with
    | nil => cases h
    | cons y l ih =>
      unfold keysD
      rw [List.map_cons]
      by_cases e : f y = m
      · rw [valV_pos (mkK_inj.mpr e)]; rfl
      · rw [valV_neg (fun q => e (mkK_inj.mp q))]
        rw [List.map_cons, List.mem_cons] at h
        rcases h with z | z
        · exact absurd z.symm e
        · exact ih z
  · rw [val_none h, decide_eq_false h]; rfl
theorem drop_keys {l : List α} {m : Nat × Nat} : dropK (keysD f g l) (mkK m) = keysD f g (l.filter fun x => decide (f x ≠ m)) := by
  unfold dropK keysD
  rw [List.filter_map]
  congr 1
  refine List.filter_congr fun x _ => ?_
  show decide (mkK (f x) ≠ mkK m) = decide (f x ≠ m)
  exact decide_eq_decide.mpr (not_congr mkK_inj)
theorem put_new {l : List α} {m : Nat × Nat} {v : V} (h : m ∉ l.map f) : putK (keysD f g l) (mkK m) v = keysD f g l ++ [(mkK m, v)] := putK_new _ (val_none h)
theorem keysD_len (l : List α) : (keysD f g l).length = l.length := by unfold keysD; rw [List.length_map]
end
def trueD (l : List (Nat × Nat)) : List (List Key × V) := keysD id (fun _ => .bl true) l
theorem true_in {l : List (Nat × Nat)} {m : Nat × Nat} : (valV (trueD l) (mkK m)).isSome = decide (m ∈ l) := by
  unfold trueD
  rw [val_isSome, List.map_id]
theorem true_drop {l : List (Nat × Nat)} {m : Nat × Nat} : dropK (trueD l) (mkK m) = trueD (l.filter fun x => decide (x ≠ m)) := drop_keys
theorem true_put {l : List (Nat × Nat)} {m : Nat × Nat} : putK (trueD l) (mkK m) (.bl true) = trueD (if m ∈ l then l else l ++ [m]) := by
  by_cases h : m ∈ l
  · rw [if_pos h]
    unfold putK
    rw [if_pos (by rw [valV_any, true_in]; exact decide_eq_true h)]
    unfold trueD keysD
    rw [List.map_map]
    refine List.map_congr_left fun x _ => ?_
    show (if mkK x = mkK m then (mkK x, V.bl true) else (mkK x, V.bl true)) = _
    split <;> rfl
  · rw [if_neg h]
    unfold trueD
    rw [put_new (by rw [List.map_id]; exact h)]
    unfold keysD
    rw [List.map_append]
    rfl
theorem trueD_len (l : List (Nat × Nat)) : (trueD l).length = l.length := keysD_len l
/-! ### a craft, in numbers -/
def mkOf (x : Nat × Frm) : Nat × Nat := (x.1, x.2.1)
structure Cr where
  q : List (Nat × Frm)
  sent : List (Nat × Nat)
  asked : List (Nat × Nat)
  gone : List (Nat × Nat)
  win : Bool
def Cr.marks (m : Cr) : List (Nat × Nat) := m.q.map mkOf
def Cr.new : Cr := ⟨[], [], [], [], false⟩
def Cr.letGo (m : Cr) (k : Nat × Nat) : Cr := { m with q := m.q.filter (fun x => decide (mkOf x ≠ k)), sent := m.sent.filter (fun j => decide (j ≠ k)), asked := m.asked.filter (fun j => decide (j ≠ k)) }
def Cr.old (m : Cr) : List (Nat × Nat) := m.marks.filter fun k => decide (k ∈ m.sent)
def Cr.fresh (m : Cr) : List (Nat × Nat) := m.marks.filter fun k => !decide (k ∈ m.sent)
def Cr.makeRoom (m : Cr) : Cr := match m.old with
  | k :: _ => m.letGo k
  | [] => match m.marks with
    | k :: _ => { m.letGo k with gone := m.gone ++ [k] }
    | [] => m
def Cr.put (m : Cr) (x : Nat × Frm) : Cr := { m with q := m.q ++ [x] }
def Cr.keep (room : Nat) (m : Cr) (x : Nat × Frm) : Cr := if m.q.length = room then m.makeRoom.put x else m.put x
def Cr.next (m : Cr) : Option (Nat × Nat) := (m.asked ++ m.fresh).head?
def Cr.sends (m : Cr) (k : Nat × Nat) : Cr := { m with asked := m.asked.filter (fun j => decide (j ≠ k)), sent := if k ∈ m.sent then m.sent else m.sent ++ [k] }
def Cr.knows (m : Cr) (ks : List (Nat × Nat)) : Cr := ks.foldl (fun m k => if k ∈ m.marks then m.letGo k else m) m
structure Cr.Ok (room : Nat) (m : Cr) : Prop where
  nd : m.marks.Nodup
  few : m.q.length ≤ room
  sn : m.sent.Nodup
  ss : ∀ k ∈ m.sent, k ∈ m.marks
  an : m.asked.Nodup
  as : ∀ k ∈ m.asked, k ∈ m.marks
theorem letGo_marks (m : Cr) (k : Nat × Nat) : (m.letGo k).marks = m.marks.filter fun j => decide (j ≠ k) := by
  unfold Cr.marks Cr.letGo
  rw [List.filter_map]
  rfl
theorem Cr.Ok.letGo {room : Nat} {m : Cr} (h : m.Ok room) (k : Nat × Nat) : (m.letGo k).Ok room := by
  refine ⟨?_, Nat.le_trans (List.length_filter_le _ _) h.few, List.Nodup.sublist List.filter_sublist h.sn, fun j hj => ?_, List.Nodup.sublist List.filter_sublist h.an, fun j hj => ?_⟩
  · rw [letGo_marks]; exact List.Nodup.sublist List.filter_sublist h.nd
  · rw [letGo_marks]
    have := List.mem_filter.mp hj
    exact List.mem_filter.mpr ⟨h.ss j this.1, this.2⟩
  · rw [letGo_marks]
    have := List.mem_filter.mp hj
    exact List.mem_filter.mpr ⟨h.as j this.1, this.2⟩
theorem filter_less {l : List (Nat × Frm)} {k : Nat × Nat} (h : k ∈ l.map mkOf) : (l.filter fun x => decide (mkOf x ≠ k)).length < l.length := by
  induction l with
  | nil => cases h
  | cons x l ih =>
    by_cases e : mkOf x = k
    · rw [List.filter_cons_of_neg (by simpa using e)]
      have := List.length_filter_le (fun x => decide (mkOf x ≠ k)) l
      rw [List.length_cons]
      omega
    · rw [List.filter_cons_of_pos (by simpa using e), List.length_cons, List.length_cons]
      rw [List.map_cons, List.mem_cons] at h
      rcases h with z | z
      · exact absurd z.symm e
      · have := ih z
        omega
theorem makeRoom_gone_le (m : Cr) : m.makeRoom.gone.length ≤ m.gone.length + 1 := by
  unfold Cr.makeRoom
  split
  · exact Nat.le_succ _
  · split
    · show (m.gone ++ _).length ≤ _
      rw [List.length_append]
      exact Nat.le_refl _
    · exact Nat.le_succ _
theorem Cr.Ok.room {room : Nat} {m : Cr} (h : m.Ok room) (ne : m.q ≠ []) : m.makeRoom.Ok room ∧ m.makeRoom.q.length < room ∧ (∀ k ∈ m.makeRoom.marks, k ∈ m.marks) ∧ m.makeRoom.win = m.win := by
  have hm : m.marks ≠ [] := by unfold Cr.marks; simpa using ne
  have hl := h.few
  have go : ∀ k ∈ m.marks, (m.letGo k).Ok room ∧ (m.letGo k).q.length < room ∧ (∀ j ∈ (m.letGo k).marks, j ∈ m.marks) := fun k hk => by
    refine ⟨h.letGo k, ?_, fun j hj => ?_⟩
    · have := filter_less (l := m.q) hk
      show (m.q.filter _).length < room
      omega
    · rw [letGo_marks] at hj
      exact (List.mem_filter.mp hj).1
  unfold Cr.makeRoom
  split
  · rename_i k r e
    have hk : k ∈ m.marks := (List.mem_filter.mp (show k ∈ m.old by rw [e]; exact List.mem_cons_self)).1
    obtain ⟨h1, h2, h3⟩ := go k hk
    exact ⟨h1, h2, h3, rfl⟩
  · split
    · rename_i k r e
      have hk : k ∈ m.marks := by rw [e]; exact List.mem_cons_self
      obtain ⟨h1, h2, h3⟩ := go k hk
      exact ⟨⟨h1.nd, h1.few, h1.sn, h1.ss, h1.an, h1.as⟩, h2, h3, rfl⟩
    · rename_i e
      exact absurd e hm
theorem Cr.Ok.put {room : Nat} {m : Cr} (h : m.Ok room) {x : Nat × Frm} (new : mkOf x ∉ m.marks) (less : m.q.length < room) : (m.put x).Ok room := by
  have e : (m.put x).marks = m.marks ++ [mkOf x] := by
    unfold Cr.marks Cr.put
    rw [List.map_append]
    rfl
  refine ⟨?_, ?_, h.sn, fun k hk => ?_, h.an, fun k hk => ?_⟩
  · rw [e, List.nodup_append]
    refine ⟨h.nd, by simp, fun a ha b hb => ?_⟩
    rw [List.mem_singleton.mp hb]
    exact fun z => new (by rw [← z]; exact ha)
  · show (m.q ++ [x]).length ≤ room
    rw [List.length_append, List.length_singleton]
    omega
  · rw [e]; exact List.mem_append_left _ (h.ss k hk)
  · rw [e]; exact List.mem_append_left _ (h.as k hk)
theorem Cr.Ok.sends {room : Nat} {m : Cr} (h : m.Ok room) {k : Nat × Nat} (hk : k ∈ m.marks) : (m.sends k).Ok room := by
  refine ⟨h.nd, h.few, ?_, fun j hj => ?_, List.Nodup.sublist List.filter_sublist h.an, fun j hj => h.as j (List.mem_filter.mp hj).1⟩
  · show (if k ∈ m.sent then m.sent else m.sent ++ [k]).Nodup
    split
    · exact h.sn
    · rename_i z
      rw [List.nodup_append]
      refine ⟨h.sn, by simp, fun a ha b hb => ?_⟩
      rw [List.mem_singleton.mp hb]
      exact fun e => z (by rw [← e]; exact ha)
  · have hj : j ∈ (if k ∈ m.sent then m.sent else m.sent ++ [k]) := hj
    split at hj
    · exact h.ss j hj
    · rcases List.mem_append.mp hj with z | z
      · exact h.ss j z
      · rw [List.mem_singleton.mp z]; exact hk
theorem Cr.Ok.lens {room : Nat} {m : Cr} (h : m.Ok room) : m.sent.length ≤ room ∧ m.asked.length ≤ room := by
  have hq : m.marks.length = m.q.length := List.length_map _
  have h1 := len_of_sub h.sn h.ss
  have h2 := len_of_sub h.an h.as
  have h3 := h.few
  omega
theorem Cr.Ok.next {room : Nat} {m : Cr} (h : m.Ok room) {k : Nat × Nat} (e : m.next = some k) : k ∈ m.marks := by
  rcases List.mem_append.mp (List.mem_of_head? e) with z | z
  · exact h.as k z
  · exact (List.mem_filter.mp z).1
theorem Cr.Ok.new (room : Nat) : Cr.new.Ok room := ⟨List.nodup_nil, Nat.zero_le _, List.nodup_nil, (by intro k hk; exact absurd hk List.not_mem_nil), List.nodup_nil, (by intro k hk; exact absurd hk List.not_mem_nil)⟩
/-! ### the object -/
def mD2 (k : Nat × Nat) : PyData := mkD k.1 k.2
def CF : List Str := ["_room", "_layings", "_window", "_frames", "_sent", "_asked", "_gone"]
theorem CF_nd : CF.Nodup := by decide +kernel
structure Ca where
  c : Addr
  dx : Addr
  la : Addr
  fr : Addr
  se : Addr
  ak : Addr
  go : Addr
def cf (room : Nat) (w : Bool) (A : Ca) : List (Str × V) := CF.zip [.int (room : Nat), .ref A.la, .bl w, .ref A.fr, .ref A.se, .ref A.ak, .ref A.go]
section
variable {room : Nat} {w : Bool} {A : Ca}
theorem cf_room : (cf room w A).lookup ("_room" : Str) = some (.int (room : Nat)) := lookup_zip CF _ 0 _ CF_nd rfl rfl
theorem cf_layings : (cf room w A).lookup ("_layings" : Str) = some (.ref A.la) := lookup_zip CF _ 1 _ CF_nd rfl rfl
theorem cf_window : (cf room w A).lookup ("_window" : Str) = some (.bl w) := lookup_zip CF _ 2 _ CF_nd rfl rfl
theorem cf_frames : (cf room w A).lookup ("_frames" : Str) = some (.ref A.fr) := lookup_zip CF _ 3 _ CF_nd rfl rfl
theorem cf_sent : (cf room w A).lookup ("_sent" : Str) = some (.ref A.se) := lookup_zip CF _ 4 _ CF_nd rfl rfl
theorem cf_asked : (cf room w A).lookup ("_asked" : Str) = some (.ref A.ak) := lookup_zip CF _ 5 _ CF_nd rfl rfl
theorem cf_gone : (cf room w A).lookup ("_gone" : Str) = some (.ref A.go) := lookup_zip CF _ 6 _ CF_nd rfl rfl
theorem cf_no {f : Str} (h : f ∉ CF) : (cf room w A).lookup f = none := lookup_zip_none CF _ _ h
theorem cf_few : (cf room w A).length < 1000 := Nat.lt_of_le_of_lt (zip_len CF _) (by decide)
theorem cf_put {b : Bool} : putF "_window" (.bl b) (cf room w A) = cf room b A := putF_zip CF _ 2 _ _ CF_nd rfl rfl
end
abbrev KF := (Nat × Frm) × V
def framesD (qv : List KF) : List (List Key × V) := keysD (fun x : KF => mkOf x.1) (fun x => x.2) qv
/-- a craft stands -/
structure CAt (C CL : Addr) (H : Hp) (A : Ca) (ps : List (Addr × Addr × Addr)) (room z : Nat) (ns : List (List Int × List Nat)) (m : Cr) (qv : List KF) (gs : List V) : Prop where
  o : H A.c = some (.ins C A.dx (cf room m.win A))
  la : H A.la = some (.lst (ps.map fun p => V.ref p.1))
  pl : ps.length = 4
  nl : ns.length = 4
  lay : ∀ (i : Nat) (p : Addr × Addr × Addr) (n : List Int × List Nat), ps[i]? = some p → ns[i]? = some n → LAt CL H p.1 p.2.1 p.2.2 ((i : Nat) : Int) z n.1 n.2 ∧ Laid n.1 n.2
  fr : H A.fr = some (.dT (framesD qv))
  qe : qv.map (·.1) = m.q
  ft : ∀ x ∈ qv, TD H x.2 (frmD ((x.1.1 : Nat) : Int) x.1.2)
  se : H A.se = some (.dT (trueD m.sent))
  ak : H A.ak = some (.dT (trueD m.asked))
  go : H A.go = some (.lst gs)
  gt : TDs H gs (m.gone.map mD2)
  ok : m.Ok room
  r60 : 1 ≤ room ∧ room ≤ 60
  d1 : A.fr ≠ A.se
  d2 : A.fr ≠ A.ak
  d3 : A.se ≠ A.ak
  d4 : A.la ≠ A.go
  pc : ∀ p ∈ ps, p.1 ≠ A.c ∧ p.2.2 ≠ A.la ∧ p.2.2 ≠ A.go
  pd : (ps.map (·.1)).Nodup
  ld : (ps.map (·.2.2)).Nodup
/-- all that may change -/
def cM (A : Ca) (ps : List (Addr × Addr × Addr)) : List Addr := [A.c, A.la, A.fr, A.se, A.ak, A.go] ++ ps.map (·.1) ++ ps.map (·.2.2)
section
variable {C CL : Addr} {H H' : Hp} {A : Ca} {ps : List (Addr × Addr × Addr)} {room z : Nat} {ns : List (List Int × List Nat)} {m : Cr} {qv : List KF} {gs : List V}
theorem CAt.marksq (h : CAt C CL H A ps room z ns m qv gs) : qv.map (fun x : KF => mkOf x.1) = m.marks := by
  unfold Cr.marks
  rw [← h.qe, List.map_map]
  rfl
theorem CAt.qlen (h : CAt C CL H A ps room z ns m qv gs) : qv.length = m.q.length := by rw [← h.qe, List.length_map]
theorem CAt.nec (h : CAt C CL H A ps room z ns m qv gs) : A.c ≠ A.fr ∧ A.c ≠ A.se ∧ A.c ≠ A.ak ∧ A.c ≠ A.go ∧ A.c ≠ A.la :=
  ⟨ne_of h.o h.fr (by intro e; cases e), ne_of h.o h.se (by intro e; cases e), ne_of h.o h.ak (by intro e; cases e), ne_of h.o h.go (by intro e; cases e), ne_of h.o h.la (by intro e; cases e)⟩
theorem CAt.neg (h : CAt C CL H A ps room z ns m qv gs) : A.go ≠ A.fr ∧ A.go ≠ A.se ∧ A.go ≠ A.ak :=
  ⟨ne_of h.go h.fr (by intro e; cases e), ne_of h.go h.se (by intro e; cases e), ne_of h.go h.ak (by intro e; cases e)⟩
theorem CAt.nel (h : CAt C CL H A ps room z ns m qv gs) : A.la ≠ A.fr ∧ A.la ≠ A.se ∧ A.la ≠ A.ak :=
  ⟨ne_of h.la h.fr (by intro e; cases e), ne_of h.la h.se (by intro e; cases e), ne_of h.la h.ak (by intro e; cases e)⟩
theorem CAt.lays (h : CAt C CL H A ps room z ns m qv gs) {p : Addr × Addr × Addr} (hp : p ∈ ps) : ∃ (C' dx : Addr) (f : List (Str × V)) (xs : List V), H p.1 = some (.ins C' dx f) ∧ H p.2.2 = some (.lst xs) := by
  obtain ⟨i, hi⟩ := List.getElem?_of_mem hp
  have hl := (List.getElem?_eq_some_iff.mp hi).1
  have hn : i < ns.length := by rw [h.nl, ← h.pl]; exact hl
  obtain ⟨⟨h1, h2⟩, _⟩ := h.lay i p ns[i] hi (List.getElem?_eq_getElem hn)
  exact ⟨_, _, _, _, h1, h2⟩
/-- the dicts and the list of the lost ones change -/
theorem CAt.step (h : CAt C CL H A ps room z ns m qv gs) (k : Keep [A.fr, A.se, A.ak, A.go] H H') {m' : Cr} {qv' : List KF} {gs' : List V} (hw : m'.win = m.win) (hok : m'.Ok room) (hq : qv'.map (·.1) = m'.q) (e1 : H' A.fr = some (.dT (framesD qv'))) (e2 : H' A.se = some (.dT (trueD m'.sent))) (e3 : H' A.ak = some (.dT (trueD m'.asked)))
    (e4 : H' A.go = some (.lst gs')) (t1 : ∀ x ∈ qv', TD H' x.2 (frmD ((x.1.1 : Nat) : Int) x.1.2)) (t2 : TDs H' gs' (m'.gone.map mD2)) : CAt C CL H' A ps room z ns m' qv' gs' := by
  obtain ⟨c1, c2, c3, c4, c5⟩ := h.nec
  obtain ⟨l1, l2, l3⟩ := h.nel
  refine ⟨by rw [hw]; exact k _ _ (by simp [c1, c2, c3, c4]) h.o, k _ _ (by simp [l1, l2, l3, h.d4]) h.la, h.pl, h.nl, fun i p n hp hn => ?_, e1, hq, t1, e2, e3, e4, t2, hok, h.r60, h.d1, h.d2, h.d3, h.d4, h.pc, h.pd, h.ld⟩
  obtain ⟨⟨h1, h2⟩, h3⟩ := h.lay i p n hp hn
  have hpc := h.pc p (List.mem_of_getElem? hp)
  refine ⟨⟨k _ _ ?_ h1, k _ _ ?_ h2⟩, h3⟩
  · simp [ne_of h1 h.fr (by intro e; cases e), ne_of h1 h.se (by intro e; cases e), ne_of h1 h.ak (by intro e; cases e), ne_of h1 h.go (by intro e; cases e)]
  · simp [ne_of h2 h.fr (by intro e; cases e), ne_of h2 h.se (by intro e; cases e), ne_of h2 h.ak (by intro e; cases e), hpc.2.2]
/-- something else changes -/
theorem CAt.else (h : CAt C CL H A ps room z ns m qv gs) {N : List Addr} (k : Keep N H H') (ts : TSm H H') (n : ∀ a ∈ cM A ps, a ∉ N) : CAt C CL H' A ps room z ns m qv gs := by
  have g : ∀ a, a ∈ cM A ps → ∀ o, H a = some o → H' a = some o := fun a ha o e => k a o (n a ha) e
  refine ⟨g _ (by simp [cM]) _ h.o, g _ (by simp [cM]) _ h.la, h.pl, h.nl, fun i p q hp hq => ?_, g _ (by simp [cM]) _ h.fr, h.qe, fun x hx => (h.ft x hx).mono ts, g _ (by simp [cM]) _ h.se, g _ (by simp [cM]) _ h.ak, g _ (by simp [cM]) _ h.go, h.gt.mono ts, h.ok, h.r60, h.d1, h.d2, h.d3, h.d4, h.pc, h.pd, h.ld⟩
  obtain ⟨⟨h1, h2⟩, h3⟩ := h.lay i p q hp hq
  have hm := List.mem_of_getElem? hp
  exact ⟨⟨g _ (List.mem_append_left _ (List.mem_append_right _ (List.mem_map.mpr ⟨p, hm, rfl⟩))) _ h1, g _ (List.mem_append_right _ (List.mem_map.mpr ⟨p, hm, rfl⟩)) _ h2⟩, h3⟩
theorem CAt.same (h : CAt C CL H A ps room z ns m qv gs) (s : Same H H') : CAt C CL H' A ps room z ns m qv gs := h.else (Keep.of_same (M := []) s) (TSm.of_same s) (by simp)
theorem CAt.noT4 (h : CAt C CL H A ps room z ns m qv gs) : ∀ a ∈ [A.fr, A.se, A.ak, A.go], NoT H a := by
  intro a ha
  simp only [List.mem_cons, List.not_mem_nil, or_false] at ha
  rcases ha with e | e | e | e
  · rw [e]; exact NoT.dT h.fr
  · rw [e]; exact NoT.dT h.se
  · rw [e]; exact NoT.dT h.ak
  · rw [e]; exact NoT.lst h.go
end
end K04

namespace K04
open PySem PySem.Spec PyProof.Rows L2 Sky
section
variable {P : Program} {w : World} {K : PySem.W.Frag} {mg : Str → Option Value} {base : Heap}
/-! ### _let_go -/
def sp_let_go (C CL : Addr) : Sp := fun vs H Q _ => ∃ (A : Ca) (ps : List (Addr × Addr × Addr)) (room z : Nat) (ns : List (List Int × List Nat)) (m : Cr) (qv : List KF) (gs : List V) (b : Addr) (k : Nat × Nat), vs = [.ref A.c, .ref b] ∧ CAt C CL H A ps room z ns m qv gs ∧
  H b = some (.tup [.int ((k.1 : Nat) : Int), .int ((k.2 : Nat) : Int)]) ∧ k ∈ m.marks ∧ ∀ H' qv', CAt C CL H' A ps room z ns (m.letGo k) qv' gs → Keep [A.fr, A.se, A.ak] H H' → Dom H H' → Q .non H'
theorem ok_Craft_let_go (T : Tx K mg) : FnOk P w K mg base CX0 1 T.a_Craft_let_go T.d_Craft_let_go ["self", "mark"] (sp_let_go T.A_Craft T.A_Laying) := by
  have nd := sc_Craft_let_go.nd
  refine T.F_Craft_let_go.ok sc_Craft_let_go (fun vs H Q E h => ?_) (fun cdv A0 outer s H vs Q E hr h => ?_)
  · obtain ⟨_, _, _, _, _, _, _, _, _, _, rfl, _⟩ := h
    rfl
  · obtain ⟨A, ps, room, z, ns, m, qv, gs, b, k, rfl, hC, hb, hk, fin⟩ := h
    obtain ⟨c1, c2, c3, c4, c5⟩ := hC.nec
    have b1 : b ≠ A.fr := ne_of hb hC.fr (by intro e; cases e)
    have b2 : b ≠ A.se := ne_of hb hC.se (by intro e; cases e)
    have b3 : b ≠ A.ak := ne_of hb hC.ak (by intro e; cases e)
    refine ⟨_, (pss_cons (ps_ddelT (hu_of hr) (pe_fld (pv 0) rfl) (pv 1)) (pss_cons (ps_expr (pe_bm PySem.F.plainAttrs_dict PySem.F.slot_dict_pop PySem.F.type_dict_pop (mt_popW (hu_of hr)) (pe_fld (pv 0) rfl) (pa_cons (pv 1) (pa_cons pe_non pa_nil)))) (pss_one (ps_expr (pe_bm PySem.F.plainAttrs_dict PySem.F.slot_dict_pop PySem.F.type_dict_pop (mt_popW (hu_of hr)) (pe_fld (pv 0) rfl) (pa_cons (pv 1) (pa_cons pe_non pa_nil))))))), ?_⟩
    refine ⟨_, rfl, A.c, _, A.dx, _, _, rfl, hC.o, T.cl_Craft, T.n_Craft_frames, cf_frames, _, rfl, A.fr, b, framesD qv, mkK k, rfl, rfl, hC.fr, hb, ?_, ?_⟩
    · unfold framesD
      rw [val_isSome, hC.marksq]
      exact decide_eq_true hk
    have e1 : dropK (framesD qv) (mkK k) = framesD (qv.filter fun x => decide (mkOf x.1 ≠ k)) := drop_keys
    rw [e1]
    have k1 : Keep [A.fr, A.se, A.ak] H (upd H A.fr (.dT (framesD (qv.filter fun x => decide (mkOf x.1 ≠ k))))) := keep_upd (Keep.refl _ _) (by simp)
    have D1 : Dom H (upd H A.fr (.dT (framesD (qv.filter fun x => decide (mkOf x.1 ≠ k))))) := dom_upd _ _ _
    have f1 : upd H A.fr (.dT (framesD (qv.filter fun x => decide (mkOf x.1 ≠ k)))) A.fr = some (.dT (framesD (qv.filter fun x => decide (mkOf x.1 ≠ k)))) := upd_same
    have s1 : upd H A.fr (.dT (framesD (qv.filter fun x => decide (mkOf x.1 ≠ k)))) A.se = some (.dT (trueD m.sent)) := by rw [upd_ne hC.d1.symm]; exact hC.se
    have a1 : upd H A.fr (.dT (framesD (qv.filter fun x => decide (mkOf x.1 ≠ k)))) A.ak = some (.dT (trueD m.asked)) := by rw [upd_ne hC.d2.symm]; exact hC.ak
    generalize upd H A.fr (.dT (framesD (qv.filter fun x => decide (mkOf x.1 ≠ k)))) = H1 at *
    have g1 : ∀ x o, x ∉ [A.fr, A.se, A.ak] → H x = some o → H1 x = some o := fun x o n e => k1 x o n e
    refine ⟨_, rfl, A.c, _, A.dx, _, _, rfl, g1 _ _ (by simp [c1, c2, c3]) hC.o, T.cl_Craft, T.n_Craft_sent, cf_sent, .inr (.inr (.inl ⟨rfl, .inr ⟨_, s1⟩⟩)), _, rfl, ?_⟩
    refine ⟨A.se, _, mkK k, b, _, rfl, rfl, s1, g1 _ _ (by simp [b1, b2, b3]) hb, fun _ H2 s2 k2 D2 => ?_⟩
    rw [true_drop] at s2
    have f2 := k2 _ _ (by simp [hC.d1]) f1
    have a2 := k2 _ _ (by simp [hC.d3.symm]) a1
    have k12 : Keep [A.fr, A.se, A.ak] H H2 := k1.trans (k2.mono (by simp))
    refine ⟨_, rfl, A.c, _, A.dx, _, _, rfl, k12 _ _ (by simp [c1, c2, c3]) hC.o, T.cl_Craft, T.n_Craft_asked, cf_asked, .inr (.inr (.inl ⟨rfl, .inr ⟨_, a2⟩⟩)), _, rfl, ?_⟩
    refine ⟨A.ak, _, mkK k, b, _, rfl, rfl, a2, k12 _ _ (by simp [b1, b2, b3]) hb, fun _ H3 a3 k3 D3 => ?_⟩
    rw [true_drop] at a3
    have f3 := k3 _ _ (by simp [hC.d2]) f2
    have s3 := k3 _ _ (by simp [hC.d3]) s2
    have k13 : Keep [A.fr, A.se, A.ak] H H3 := k12.trans (k3.mono (by simp))
    have k13' : Keep [A.fr, A.se, A.ak, A.go] H H3 := k13.mono fun x hx => List.mem_append_left [A.go] hx
    have ts := k13'.ts hC.noT4
    obtain ⟨n1, n2, n3⟩ := hC.neg
    refine fin H3 _ (hC.step k13' (m' := m.letGo k) rfl (hC.ok.letGo k) ?_ f3 s3 a3 (k13 _ _ (by simp [n1, n2, n3]) hC.go) (fun x hx => ?_) (hC.gt.mono ts)) k13 ((D1.trans D2).trans D3)
    · show _ = m.q.filter _
      rw [← hC.qe, List.filter_map]
      rfl
    · exact (hC.ft x (List.mem_filter.mp hx).1).mono ts
/-! ### _make_room -/
theorem mark_key {x : List Key} {l : List KF} {v : V} {i : Nat} (h : (framesD l)[i]? = some (x, v)) : ∃ y, l[i]? = some y ∧ x = mkK (mkOf y.1) ∧ v = y.2 := by
  unfold framesD keysD at h
  obtain ⟨y, hy, e⟩ := map_get h
  injection e with e1 e2
  exact ⟨y, hy, e1, e2⟩
/-- the marks of a dict, told as a list, those that pass -/
theorem walked {α : Type} {l : List α} {p : α → Bool} {i : Nat} {x : α} (h : l[i]? = some x) : (l.take (i + 1)).filter p = (l.take i).filter p ++ (if p x = true then [x] else []) := by
  rw [List.take_add_one, h, Option.toList_some, List.filter_append]
  congr 1
  by_cases c : p x = true
  · rw [if_pos c, List.filter_cons_of_pos c]; rfl
  · rw [if_neg c, List.filter_cons_of_neg c]; rfl
theorem td_key {H : Hp} {q : Addr} {k : Nat × Nat} (h : H q = some (.tup ((mkK k).map kV))) : TD H (.ref q) (mD2 k) := .tup h (.cons (.int _) (.cons (.int _) .nil))
theorem key_td {H : Hp} {v : V} {k : Nat × Nat} (h : TD H v (mD2 k)) : ∃ q, v = .ref q ∧ H q = some (.tup [.int ((k.1 : Nat) : Int), .int ((k.2 : Nat) : Int)]) := td_mk h
theorem keys_td {H : Hp} {l : List KF} {bs : List Addr} (h : IsKeys H (framesD l) bs) : TDs H (bs.map V.ref) ((l.map fun x : KF => mkOf x.1).map mD2) := by
  induction l generalizing bs with
  | nil => cases h; exact .nil
  | cons x l ih =>
    cases h with
    | cons h t => exact .cons (td_key h) (ih t)
theorem truek_td {H : Hp} {l : List (Nat × Nat)} {bs : List Addr} (h : IsKeys H (trueD l) bs) : TDs H (bs.map V.ref) (l.map mD2) := by
  induction l generalizing bs with
  | nil => cases h; exact .nil
  | cons x l ih =>
    cases h with
    | cons h t => exact .cons (td_key h) (ih t)
def sp_make_room (C CL : Addr) : Sp := fun vs H Q _ => ∃ (A : Ca) (ps : List (Addr × Addr × Addr)) (room z : Nat) (ns : List (List Int × List Nat)) (m : Cr) (qv : List KF) (gs : List V), vs = [.ref A.c] ∧ CAt C CL H A ps room z ns m qv gs ∧ m.q ≠ [] ∧ m.gone.length ≤ 1000000 ∧
  ∀ H' qv' gs', CAt C CL H' A ps room z ns m.makeRoom qv' gs' → Keep [A.fr, A.se, A.ak, A.go] H H' → Dom H H' → Q .non H'
theorem ok_Craft_make_room (T : Tx K mg) : FnOk P w K mg base CX0 2 T.a_Craft_make_room T.d_Craft_make_room ["self"] (sp_make_room T.A_Craft T.A_Laying) := by
  have nd := sc_Craft_make_room.nd
  refine T.F_Craft_make_room.ok sc_Craft_make_room (fun vs H Q E h => ?_) (fun cdv A0 outer s H vs Q E hr h => ?_)
  · obtain ⟨_, _, _, _, _, _, _, _, rfl, _⟩ := h
    rfl
  · obtain ⟨A, ps, room, z, ns, m, qv, gs, rfl, hC, hne, hgl, fin⟩ := h
    obtain ⟨c1, c2, c3, c4, c5⟩ := hC.nec
    have hqm := hC.marksq
    have hql := hC.qlen
    have hfew := hC.ok.few
    have hr60 := hC.r60.2
    refine ⟨_, (pss_cons (ps_lock (ps_setLc (i := 1) (own := [("mark", 3)]) rfl nd rfl rfl (sw_true rfl rfl rfl (by decide +kernel)) (pi_keys (pe_fld (pv 0) rfl)) (blkOk_by (own := [("mark", 3)]) (N := N_Craft_make_room) (sc := defScope s_Craft_make_room) (by decide +kernel)) (fun _ _ _ _ _ => (pg_name (i := 3) nd rfl (Or.inl rfl))) (fun _ _ _ _ _ => (pts_one (pt_cmp (pc_din (hu_of hr) (pv 3) (pe_fldK (K := K) rfl (pv 0) rfl))))) (fun _ _ _ _ _ => (pv 3)))) (pss_one (ps_if (pt_truth (pv 1) (by intro _; rfl)) (pss_one (ps_expr (pe_meth (pv 0) T.cl_Craft T.M_Craft_let_go (ok_Craft_let_go T) (hr.mono (by decide)) T.b_Craft_let_go .nil pass0 (pa_cons (pe_ix ix_list (pv 1) pe_int (fun _ _ => rfl)) pa_nil)))) (pss_cons (ps_set (i := 2) nd rfl (Or.inl rfl) (pe_ix ix_list (pe_callTy (call_list_dT rfl) (by rfl) T.z_list (by decide +kernel) (pa_cons (pe_fld (pv 0) rfl) pa_nil)) pe_int (fun _ _ => rfl))) (pss_cons (ps_expr (pe_meth (pv 0) T.cl_Craft T.M_Craft_let_go (ok_Craft_let_go T) (hr.mono (by decide)) T.b_Craft_let_go .nil pass0 (pa_cons (pv 2) pa_nil))) (pss_one (ps_expr (pe_bm PySem.F.plainAttrs_list PySem.F.slot_list_append PySem.F.type_list_append mt_append (pe_fld (pv 0) rfl) (pa_cons (pv 2) pa_nil))))))))), ?_⟩
    -- sent
    refine ⟨A.fr, _, hC.fr, True.intro, fun od => ?_⟩
    have k1 : Keep [A.fr] H (upd H A.fr (.frz od (.dT (framesD qv)))) := keep_upd (Keep.refl _ _) (by simp)
    have f1 : upd H A.fr (.frz od (.dT (framesD qv))) A.fr = some (.frz od (.dT (framesD qv))) := upd_same
    generalize upd H A.fr (.frz od (.dT (framesD qv))) = H1 at *
    refine ⟨_, rfl, A.c, _, A.dx, _, _, rfl, k1 _ _ (by simp [c1]) hC.o, T.cl_Craft, T.n_Craft_frames, cf_frames, A.fr, od, rfl, .inr ⟨_, f1, fun D hD => ?_⟩⟩
    have nfD : A.fr ≠ D := ne_of_none f1 hD
    have hD0 : H D = none := by
      cases e : H D with
      | none => rfl
      | some o =>
        have := k1 _ _ (by simp [nfD.symm]) e
        rw [hD] at this; cases this
    refine lc_keysT (d := A.fr) (od := od) (kvs := framesD qv) (fun i H' => ∃ xs, H' D = some (.lst xs) ∧ TDs H' xs ((((qv.map fun x : KF => mkOf x.1).take i).filter fun k => decide (k ∈ m.sent)).map mD2) ∧ H' A.fr = some (.frz od (.dT (framesD qv))) ∧ Keep [A.fr] H H') ⟨[], upd_same, .nil, by rw [upd_ne nfD]; exact f1, keep_new' k1 hD⟩ (fun i H' _ ⟨_, _, _, e, _⟩ => e) ?_ ?_
    · rintro i kk v q H2 hi hq ⟨xs, hL, tL, f2, k2⟩
      obtain ⟨y, hy, rfl, rfl⟩ := mark_key hi
      have hy2 : (qv.map fun x : KF => mkOf x.1)[i]? = some (mkOf y.1) := by rw [List.getElem?_map, hy]; rfl
      have hil := (List.getElem?_eq_some_iff.mp hy).1
      have hxl : xs.length ≤ i := by
        rw [tL.length, List.length_map]
        refine Nat.le_trans (List.length_filter_le _ _) ?_
        rw [List.length_take]; omega
      rw [walked hy2]
      refine ⟨rfl, _, rfl, _, rfl, A.c, _, A.dx, _, _, rfl, k2 _ _ (by simp [c1]) hC.o, T.cl_Craft, T.n_Craft_sent, cf_sent, A.se, _, rfl, DGet.t (k := mkK (mkOf y.1)) (k2 _ _ (by simp [hC.d1.symm]) hC.se) hq, _, rfl, ?_⟩
      rw [true_in]
      by_cases c : mkOf y.1 ∈ m.sent
      · rw [decide_eq_true c]
        refine iteT ?_
        refine ⟨_, rfl, xs, hL, lt_line (by omega), _, upd_same, ?_, by rw [upd_ne nfD]; exact f2, keep_mut k2 hD0⟩
        rw [if_pos rfl, List.map_append]
        have t7 : TSm H2 (upd H2 D (.lst (xs ++ [.ref q]))) := ts_upd (TSm.refl _) (NoT.lst hL)
        exact (tL.mono t7).app (.one ((td_key hq).mono t7))
      · rw [decide_eq_false c]
        refine iteF ⟨xs, hL, ?_, f2, k2⟩
        rw [if_neg (by decide), List.append_nil]
        exact tL
    · rintro H2 ⟨xs, hL, tL, f2, k2⟩
      rw [show (framesD qv).length = qv.length from keysD_len qv, List.take_of_length_le (by rw [List.length_map]; exact Nat.le_refl _), hqm] at tL
      refine ⟨f2, ?_⟩
      have s3 : Same H (upd H2 A.fr (.dT (framesD qv))) := unlock k2 hC.fr
      have hL3 : upd H2 A.fr (.dT (framesD qv)) D = some (.lst xs) := by rw [upd_ne nfD.symm]; exact hL
      have tL3 := tL.mono (ts_upd (TSm.refl H2) (a := A.fr) (o := .dT (framesD qv)) (fun ys e => by rw [f2] at e; cases e))
      generalize upd H2 A.fr (.dT (framesD qv)) = H3 at *
      have hC3 := hC.same s3
      have k3 : Keep [A.fr, A.se, A.ak, A.go] H H3 := Keep.of_same s3
      have d3 : Dom H H3 := Dom.of_same s3
      change TDs H3 xs (m.old.map mD2) at tL3
      cases e : m.old with
      | cons k r =>
        rw [e] at tL3
        cases tL3 with
        | cons tk tr =>
          obtain ⟨b, rfl, hb⟩ := key_td tk
          refine ⟨_, rfl, true, .inl ⟨_, SqL.of hL3, rfl⟩, iteT ?_⟩
          have hk : k ∈ m.marks := (List.mem_filter.mp (show k ∈ m.old by rw [e]; exact List.mem_cons_self)).1
          refine ⟨_, rfl, A.c, A.dx, _, rfl, hC3.o, cf_no (by decide), _, rfl, D, _, 0, .ref b, rfl, rfl, SqL.of hL3, atI_nat (j := 0) rfl, A, ps, room, z, ns, m, qv, gs, b, k, rfl, hC3, hb, hk, fun H4 qv' hC4 k4 d4 => ?_⟩
          have em : m.makeRoom = m.letGo k := by unfold Cr.makeRoom; rw [e]
          refine fin H4 qv' gs (by rw [em]; exact hC4) (k3.trans (k4.mono fun x hx => List.mem_append_left [A.go] hx)) (d3.trans d4)
      | nil =>
        rw [e] at tL3
        cases tL3
        refine ⟨_, rfl, false, .inl ⟨_, SqL.of hL3, rfl⟩, iteF ?_⟩
        -- the oldest
        refine ⟨_, rfl, A.c, _, A.dx, _, _, rfl, hC3.o, T.cl_Craft, T.n_Craft_frames, cf_frames, A.fr, _, rfl, Rd.of hC3.fr, fun p bs hp hbs => ?_⟩
        have tb := keys_td hbs
        rw [hqm] at tb
        cases e2 : m.marks with
        | nil =>
          have : m.q = [] := by unfold Cr.marks at e2; simpa using e2
          exact absurd this hne
        | cons k r =>
          rw [e2] at tb
          have s4 := same_new (Same.refl H3) hp (o := .lst (bs.map V.ref))
          cases bs with
          | nil => cases tb
          | cons b bs =>
            rw [List.map_cons] at tb
            have tk : TD H3 (.ref b) (mD2 k) := by cases tb with | cons h _ => exact h
            have hp4 : upd H3 p (.lst ((b :: bs).map V.ref)) p = some (.lst ((b :: bs).map V.ref)) := upd_same
            obtain ⟨b', eb, hb⟩ := key_td (tk.mono (TSm.of_same s4))
            cases eb
            have hC4 := hC3.same s4
            have k4 : Keep [A.fr, A.se, A.ak, A.go] H (upd H3 p (.lst ((b :: bs).map V.ref))) := k3.trans (Keep.of_same s4)
            have d4 := d3.trans (Dom.of_same s4)
            generalize upd H3 p (.lst ((b :: bs).map V.ref)) = H4 at *
            have hk : k ∈ m.marks := by rw [e2]; exact List.mem_cons_self
            refine ⟨p, _, 0, .ref b, rfl, rfl, SqL.of hp4, atI_nat (j := 0) rfl, ?_⟩
            refine ⟨_, rfl, A.c, A.dx, _, rfl, hC4.o, cf_no (by decide), _, rfl, A, ps, room, z, ns, m, qv, gs, b, k, rfl, hC4, hb, hk, fun H5 qv' hC5 k5 d5 => ?_⟩
            have k05 := k4.trans (k5.mono fun x hx => List.mem_append_left [A.go] hx)
            have hb5 : H5 b = some (.tup [.int ((k.1 : Nat) : Int), .int ((k.2 : Nat) : Int)]) := k5 _ _ (by simp [ne_of hb hC4.fr (by intro e; cases e), ne_of hb hC4.se (by intro e; cases e), ne_of hb hC4.ak (by intro e; cases e)]) hb
            have hgo5 := hC5.go
            have hgl5 : gs.length = m.gone.length := by rw [hC.gt.length, List.length_map]
            refine ⟨_, rfl, A.c, _, A.dx, _, _, rfl, hC5.o, T.cl_Craft, T.n_Craft_gone, cf_gone, .inl ⟨rfl, _, SqL.of hgo5⟩, _, rfl, A.go, gs, _, rfl, rfl, hgo5, lt_line (by omega), ?_⟩
            have t6 : TSm H5 (upd H5 A.go (.lst (gs ++ [.ref b]))) := ts_upd (TSm.refl _) (NoT.lst hgo5)
            obtain ⟨n1, n2, n3⟩ := hC5.neg
            have em : m.makeRoom = { m.letGo k with gone := m.gone ++ [k] } := by unfold Cr.makeRoom; rw [e, e2]
            have ok5 := hC5.ok
            refine fin _ qv' (gs ++ [.ref b]) ?_ (keep_upd k05 (by simp)) ((d4.trans d5).upd _ _)
            rw [em]
            refine hC5.step (keep_upd (Keep.refl _ _) (by simp)) rfl ⟨ok5.nd, ok5.few, ok5.sn, ok5.ss, ok5.an, ok5.as⟩ hC5.qe (by rw [upd_ne n1.symm]; exact hC5.fr) (by rw [upd_ne n2.symm]; exact hC5.se) (by rw [upd_ne n3.symm]; exact hC5.ak) upd_same (fun x hx => (hC5.ft x hx).mono t6) ?_
            show TDs _ _ ((m.gone ++ [k]).map mD2)
            rw [List.map_append]
            exact (hC5.gt.mono t6).app (.one ((TD.tup hb5 (.cons (.int _) (.cons (.int _) .nil))).mono t6))
end
end K04

namespace K04
open PySem PySem.Spec PyProof.Rows L2 Sky
section
variable {P : Program} {w : World} {K : PySem.W.Frag} {mg : Str → Option Value} {base : Heap}
/-! ### _keep -/
def sp_keep (C CL : Addr) : Sp := fun vs H Q _ => ∃ (A : Ca) (ps : List (Addr × Addr × Addr)) (room z : Nat) (ns : List (List Int × List Nat)) (m : Cr) (qv : List KF) (gs : List V) (v : V) (x : Nat × Frm), vs = [.ref A.c, v] ∧ CAt C CL H A ps room z ns m qv gs ∧ TD H v (frmD ((x.1 : Nat) : Int) x.2) ∧ mkOf x ∉ m.marks ∧ m.gone.length ≤ 1000000 ∧
  ∀ H' qv' gs', CAt C CL H' A ps room z ns (m.keep room x) qv' gs' → Keep [A.fr, A.se, A.ak, A.go] H H' → Dom H H' → Q .non H'
theorem ok_Craft_keep (T : Tx K mg) : FnOk P w K mg base CX0 3 T.a_Craft_keep T.d_Craft_keep ["self", "frame"] (sp_keep T.A_Craft T.A_Laying) := by
  have nd := sc_Craft_keep.nd
  refine T.F_Craft_keep.ok sc_Craft_keep (fun vs H Q E h => ?_) (fun cdv A0 outer s H vs Q E hr h => ?_)
  · obtain ⟨_, _, _, _, _, _, _, _, _, _, rfl, _⟩ := h
    rfl
  · obtain ⟨A, ps, room, z, ns, m, qv, gs, v, x, rfl, hC, tv, hnew, hgl, fin⟩ := h
    have hfew := hC.ok.few
    have hql := hC.qlen
    obtain ⟨hr1, hr60⟩ := hC.r60
    refine ⟨_, (pss_cons (ps_if (pt_cmpR op_eq (pe_callB call_len_dT (by rfl) T.z_len PySem.boot_len (pa_cons (pe_fld (pv 0) rfl) pa_nil)) (pe_fld (pv 0) rfl) (nomark _)) (pss_one (ps_expr (pe_meth0 (pv 0) T.cl_Craft T.M_Craft_make_room (ok_Craft_make_room T) (hr.mono (by decide)) T.b_Craft_make_room .nil pass0))) pss_nil) (pss_one (ps_dput (hu_of hr) (pe_fld (pv 0) rfl) (pe_tup (pa_cons (pe_ix ix_tup (pv 1) pe_int (fun _ _ => rfl)) (pa_cons (pe_ix ix_tup (pv 1) pe_int (fun _ _ => rfl)) pa_nil))) (pv 1) rfl))), ?_⟩
    refine ⟨_, rfl, A.c, _, A.dx, _, _, rfl, hC.o, T.cl_Craft, T.n_Craft_frames, cf_frames, A.fr, _, rfl, hC.fr, _, rfl, A.c, _, A.dx, _, _, rfl, hC.o, T.cl_Craft, T.n_Craft_room, cf_room, rfl, _, rfl, ?_⟩
    have elen : (framesD qv).length = m.q.length := by rw [show (framesD qv).length = qv.length from keysD_len qv, hql]
    rw [elen]
    have rest : ∀ (m1 : Cr) (qv1 : List KF) (gs1 : List V) (H1 : Hp), CAt T.A_Craft T.A_Laying H1 A ps room z ns m1 qv1 gs1 → m1.q.length < room → mkOf x ∉ m1.marks → m1.put x = m.keep room x → Keep [A.fr, A.se, A.ak, A.go] H H1 → Dom H H1 →
        ∀ b, H1 b = none → ∀ H2, H2 = upd (upd H1 b (.tup [.int ((x.1 : Nat) : Int), .int ((x.2.1 : Nat) : Int)])) A.fr (.dT (putK (framesD qv1) (mkK (mkOf x)) v)) → Q .non H2 := by
      intro m1 qv1 gs1 H1 hC1 less new1 em k1 d1 b hb H2 e2
      have hC2 := hC1.same (same_new (Same.refl H1) hb (o := .tup [.int ((x.1 : Nat) : Int), .int ((x.2.1 : Nat) : Int)]))
      have k2 : Keep [A.fr, A.se, A.ak, A.go] H (upd H1 b (.tup [.int ((x.1 : Nat) : Int), .int ((x.2.1 : Nat) : Int)])) := k1.trans (Keep.of_same (same_new (Same.refl H1) hb))
      have d2 := d1.trans (Dom.of_same (same_new (Same.refl H1) hb (o := .tup [.int ((x.1 : Nat) : Int), .int ((x.2.1 : Nat) : Int)])))
      generalize upd H1 b (.tup [.int ((x.1 : Nat) : Int), .int ((x.2.1 : Nat) : Int)]) = H1' at *
      have hq1 := hC2.marksq
      have ep : putK (framesD qv1) (mkK (mkOf x)) v = framesD (qv1 ++ [(x, v)]) := by
        unfold framesD
        rw [put_new (by rw [hq1]; exact new1)]
        unfold keysD
        rw [List.map_append]
        rfl
      rw [ep] at e2
      obtain ⟨n1, n2, n3⟩ := hC2.neg
      have tv2 : TD H1' v (frmD ((x.1 : Nat) : Int) x.2) := tv.mono (k2.ts hC.noT4)
      have t3 : TSm H1' H2 := by rw [e2]; exact ts_upd (TSm.refl _) (NoT.dT hC2.fr)
      subst e2
      refine fin _ (qv1 ++ [(x, v)]) gs1 ?_ (keep_upd k2 (by simp)) (d2.upd _ _)
      rw [← em]
      refine hC2.step (keep_upd (Keep.refl _ _) (by simp)) rfl (hC2.ok.put new1 less) ?_ upd_same (by rw [upd_ne hC2.d1.symm]; exact hC2.se) (by rw [upd_ne hC2.d2.symm]; exact hC2.ak) (by rw [upd_ne n1]; exact hC2.go) (fun y hy => ?_) (hC2.gt.mono t3)
      · show _ = m1.q ++ [x]
        rw [List.map_append, hC2.qe]
        rfl
      · rcases List.mem_append.mp hy with e | e
        · exact (hC2.ft y e).mono t3
        · rw [List.mem_singleton.mp e]; exact tv2.mono t3
    refine if_skip (fun H1 => ∃ (m1 : Cr) (qv1 : List KF) (gs1 : List V), CAt T.A_Craft T.A_Laying H1 A ps room z ns m1 qv1 gs1 ∧ m1.q.length < room ∧ mkOf x ∉ m1.marks ∧ m1.put x = m.keep room x ∧ Keep [A.fr, A.se, A.ak, A.go] H H1 ∧ Dom H H1) (fun H1 ⟨m1, qv1, gs1, hC1, less, new1, em, k1, d1⟩ => ?_) (fun e go => ?_) (fun e => ?_)
    · -- self._frames[..] = frame
      have tv1 := tv.mono (k1.ts hC.noT4)
      obtain ⟨a, bb, rfl, ha, hbb⟩ := td_frm tv1
      refine ⟨_, rfl, _, rfl, A.c, _, A.dx, _, _, rfl, hC1.o, T.cl_Craft, T.n_Craft_frames, cf_frames, ?_⟩
      refine ⟨_, rfl, a, _, 0, _, rfl, rfl, SqT.of ha, atI_nat (j := 0) rfl, _, rfl, a, _, 1, _, rfl, rfl, SqT.of ha, atI_nat (j := 1) rfl, (by decide : (2 : Nat) ≤ sizeLine), fun b hb => ?_⟩
      have nfb : A.fr ≠ b := ne_of_none hC1.fr hb
      have ql1 := hC1.qlen
      refine ⟨A.fr, _, rfl, DPut.t (k := mkK (mkOf x)) (by rw [upd_ne nfb]; exact hC1.fr) upd_same (lt_line (by rw [show (framesD qv1).length = qv1.length from keysD_len qv1]; omega)), ?_⟩
      exact rest m1 qv1 gs1 H1 hC1 less new1 em k1 d1 b hb _ rfl
    · have hroom : m.q.length = room := by
        have := of_decide_eq_true e
        injection this with this
        omega
      refine ⟨_, rfl, A.c, A.dx, _, rfl, hC.o, cf_no (by decide), A, ps, room, z, ns, m, qv, gs, rfl, hC, (fun z => by rw [z] at hroom; simp at hroom; omega), hgl, fun H1 qv1 gs1 hC1 k1 d1 => ?_⟩
      obtain ⟨h1, h2, h3, h4⟩ := hC.ok.room (fun z => by rw [z] at hroom; simp at hroom; omega)
      refine go _ ⟨m.makeRoom, qv1, gs1, hC1, h2, fun z => hnew (h3 _ z), ?_, k1, d1⟩
      unfold Cr.keep
      rw [if_pos hroom]
    · have hroom : m.q.length ≠ room := fun z => e (decide_eq_true (by rw [z]))
      refine ⟨m, qv, gs, hC, by omega, hnew, ?_, Keep.refl _ _, Dom.refl _⟩
      unfold Cr.keep
      rw [if_neg hroom]
/-! ### _next_mark -/
def sp_next_mark (C CL : Addr) : Sp := fun vs H Q _ => ∃ (A : Ca) (ps : List (Addr × Addr × Addr)) (room z : Nat) (ns : List (List Int × List Nat)) (m : Cr) (qv : List KF) (gs : List V), vs = [.ref A.c] ∧ CAt C CL H A ps room z ns m qv gs ∧
  (m.next = none → ∀ H', Same H H' → Q .non H') ∧ (∀ k, m.next = some k → ∀ b H', Same H H' → H' b = some (.tup [.int ((k.1 : Nat) : Int), .int ((k.2 : Nat) : Int)]) → Q (.ref b) H')
theorem ok_Craft_next_mark (T : Tx K mg) : FnOk P w K mg base CX0 1 T.a_Craft_next_mark T.d_Craft_next_mark ["self"] (sp_next_mark T.A_Craft T.A_Laying) := by
  have nd := sc_Craft_next_mark.nd
  refine T.F_Craft_next_mark.ok sc_Craft_next_mark (fun vs H Q E h => ?_) (fun cdv A0 outer s H vs Q E hr h => ?_)
  · obtain ⟨_, _, _, _, _, _, _, _, rfl, _⟩ := h
    rfl
  · obtain ⟨A, ps, room, z, ns, m, qv, gs, rfl, hC, no, yes⟩ := h
    obtain ⟨c1, c2, c3, c4, c5⟩ := hC.nec
    have hqm := hC.marksq
    have hql := hC.qlen
    have hfew := hC.ok.few
    have hr60 := hC.r60.2
    have hlens := hC.ok.lens
    refine ⟨_, (pss_cons (ps_lock (ps_setLc (i := 1) (own := [("mark", 3)]) rfl nd rfl rfl (sw_true rfl rfl rfl (by decide +kernel)) (pi_keys (pe_fld (pv 0) rfl)) (blkOk_by (own := [("mark", 3)]) (N := N_Craft_next_mark) (sc := defScope s_Craft_next_mark) (by decide +kernel)) (fun _ _ _ _ _ => (pg_name (i := 3) nd rfl (Or.inl rfl))) (fun _ _ _ _ _ => (pts_one (pt_cmp (pc_dnotin (hu_of hr) (pv 3) (pe_fldK (K := K) rfl (pv 0) rfl))))) (fun _ _ _ _ _ => (pv 3)))) (pss_cons (ps_set (i := 2) nd rfl (Or.inl rfl) (pe_op op_cat (pe_callTy (call_list_dT rfl) (by rfl) T.z_list (by decide +kernel) (pa_cons (pe_fld (pv 0) rfl) pa_nil)) (pv 1))) (pss_one (ps_ret (pe_ifExp (pt_truth (pv 2) (by intro _; rfl)) (pe_ix ix_list (pv 2) pe_int (fun _ _ => rfl)) pe_non))))), ?_⟩
    refine ⟨A.fr, _, hC.fr, True.intro, fun od => ?_⟩
    have k1 : Keep [A.fr] H (upd H A.fr (.frz od (.dT (framesD qv)))) := keep_upd (Keep.refl _ _) (by simp)
    have f1 : upd H A.fr (.frz od (.dT (framesD qv))) A.fr = some (.frz od (.dT (framesD qv))) := upd_same
    generalize upd H A.fr (.frz od (.dT (framesD qv))) = H1 at *
    refine ⟨_, rfl, A.c, _, A.dx, _, _, rfl, k1 _ _ (by simp [c1]) hC.o, T.cl_Craft, T.n_Craft_frames, cf_frames, A.fr, od, rfl, .inr ⟨_, f1, fun D hD => ?_⟩⟩
    have nfD : A.fr ≠ D := ne_of_none f1 hD
    have hD0 : H D = none := by
      cases e : H D with
      | none => rfl
      | some o =>
        have := k1 _ _ (by simp [nfD.symm]) e
        rw [hD] at this; cases this
    refine lc_keysT (d := A.fr) (od := od) (kvs := framesD qv) (fun i H' => ∃ xs, H' D = some (.lst xs) ∧ TDs H' xs ((((qv.map fun x : KF => mkOf x.1).take i).filter fun k => !decide (k ∈ m.sent)).map mD2) ∧ H' A.fr = some (.frz od (.dT (framesD qv))) ∧ Keep [A.fr] H H') ⟨[], upd_same, .nil, by rw [upd_ne nfD]; exact f1, keep_new' k1 hD⟩ (fun i H' _ ⟨_, _, _, e, _⟩ => e) ?_ ?_
    · rintro i kk v q H2 hi hq ⟨xs, hL, tL, f2, k2⟩
      obtain ⟨y, hy, rfl, rfl⟩ := mark_key hi
      have hy2 : (qv.map fun x : KF => mkOf x.1)[i]? = some (mkOf y.1) := by rw [List.getElem?_map, hy]; rfl
      have hil := (List.getElem?_eq_some_iff.mp hy).1
      have hxl : xs.length ≤ i := by
        rw [tL.length, List.length_map]
        refine Nat.le_trans (List.length_filter_le _ _) ?_
        rw [List.length_take]; omega
      rw [walked hy2]
      refine ⟨rfl, _, rfl, _, rfl, A.c, _, A.dx, _, _, rfl, k2 _ _ (by simp [c1]) hC.o, T.cl_Craft, T.n_Craft_sent, cf_sent, A.se, _, rfl, DGet.t (k := mkK (mkOf y.1)) (k2 _ _ (by simp [hC.d1.symm]) hC.se) hq, _, rfl, ?_⟩
      rw [true_in]
      by_cases c : mkOf y.1 ∈ m.sent
      · rw [decide_eq_true c]
        refine iteF ⟨xs, hL, ?_, f2, k2⟩
        rw [if_neg (by decide), List.append_nil]
        exact tL
      · rw [decide_eq_false c]
        refine iteT ?_
        refine ⟨_, rfl, xs, hL, lt_line (by omega), _, upd_same, ?_, by rw [upd_ne nfD]; exact f2, keep_mut k2 hD0⟩
        rw [if_pos (show (!false) = true from rfl), List.map_append]
        have t7 : TSm H2 (upd H2 D (.lst (xs ++ [.ref q]))) := ts_upd (TSm.refl _) (NoT.lst hL)
        exact (tL.mono t7).app (.one ((td_key hq).mono t7))
    · rintro H2 ⟨xs, hL, tL, f2, k2⟩
      rw [show (framesD qv).length = qv.length from keysD_len qv, List.take_of_length_le (by rw [List.length_map]; exact Nat.le_refl _), hqm] at tL
      refine ⟨f2, ?_⟩
      have s3 : Same H (upd H2 A.fr (.dT (framesD qv))) := unlock k2 hC.fr
      have hL3 : upd H2 A.fr (.dT (framesD qv)) D = some (.lst xs) := by rw [upd_ne nfD.symm]; exact hL
      have tL3 := tL.mono (ts_upd (TSm.refl H2) (a := A.fr) (o := .dT (framesD qv)) (fun ys e => by rw [f2] at e; cases e))
      generalize upd H2 A.fr (.dT (framesD qv)) = H3 at *
      have hC3 := hC.same s3
      change TDs H3 xs (m.fresh.map mD2) at tL3
      have hfl : m.fresh.length ≤ 60 := by
        have := List.length_filter_le (fun k => !decide (k ∈ m.sent)) m.marks
        have e : m.marks.length = m.q.length := List.length_map _
        show (m.marks.filter _).length ≤ 60
        omega
      -- line
      refine ⟨_, rfl, A.c, _, A.dx, _, _, rfl, hC3.o, T.cl_Craft, T.n_Craft_asked, cf_asked, A.ak, _, rfl, Rd.of hC3.ak, fun p bs hp hbs => ?_⟩
      have tb := truek_td hbs
      have hbl : bs.length = m.asked.length := by
        have := tb.length
        rw [List.length_map, List.length_map] at this
        exact this
      have s4 := same_new (Same.refl H3) hp (o := .lst (bs.map V.ref))
      have hp4 : upd H3 p (.lst (bs.map V.ref)) p = some (.lst (bs.map V.ref)) := upd_same
      have hL4 := s4 _ _ hL3
      have tb4 := tb.mono (TSm.of_same s4)
      have tL4 := tL3.mono (TSm.of_same s4)
      have s04 := s3.trans s4
      generalize upd H3 p (.lst (bs.map V.ref)) = H4 at *
      have hxl : xs.length = m.fresh.length := by rw [tL3.length, List.length_map]
      refine ⟨_, rfl, p, D, _, xs, rfl, rfl, hp4, hL4, le_line (by rw [List.length_map]; omega), fun r hr2 => ?_⟩
      have tr := (tb4.app tL4).mono (TSm.of_same (same_new (Same.refl H4) hr2 (o := .lst (bs.map V.ref ++ xs))))
      rw [← List.map_append] at tr
      have hr5 : upd H4 r (.lst (bs.map V.ref ++ xs)) r = some (.lst (bs.map V.ref ++ xs)) := upd_same
      have s05 := s04.trans (same_new (Same.refl H4) hr2 (o := .lst (bs.map V.ref ++ xs)))
      generalize upd H4 r (.lst (bs.map V.ref ++ xs)) = H5 at *
      cases e : m.asked ++ m.fresh with
      | nil =>
        rw [e] at tr
        generalize bs.map V.ref ++ xs = ys at *
        cases tr
        refine ⟨_, rfl, false, .inl ⟨_, SqL.of hr5, rfl⟩, iteF ?_⟩
        exact no (by unfold Cr.next; rw [e]; rfl) _ s05
      | cons k l =>
        rw [e] at tr
        generalize bs.map V.ref ++ xs = ys at *
        cases tr with
        | cons tk tl =>
          obtain ⟨b, rfl, hb⟩ := key_td tk
          refine ⟨_, rfl, true, .inl ⟨_, SqL.of hr5, rfl⟩, iteT ?_⟩
          refine ⟨_, rfl, r, _, 0, .ref b, rfl, rfl, SqL.of hr5, atI_nat (j := 0) rfl, ?_⟩
          exact yes k (by unfold Cr.next; rw [e]; rfl) b _ s05 hb
/-! ### beat -/
def sp_beat (C CL : Addr) : Sp := fun vs H Q _ => ∃ (A : Ca) (ps : List (Addr × Addr × Addr)) (room z : Nat) (ns : List (List Int × List Nat)) (m : Cr) (qv : List KF) (gs : List V), vs = [.ref A.c] ∧ CAt C CL H A ps room z ns m qv gs ∧
  (m.win = false ∨ m.next = none → ∀ H', Same H H' → Q .non H') ∧
  (∀ k x, m.win = true → m.next = some k → x ∈ m.q → mkOf x = k → ∀ v H', CAt C CL H' A ps room z ns (m.sends k) qv gs → TD H' v (frmD ((x.1 : Nat) : Int) x.2) → Keep [A.se, A.ak] H H' → Dom H H' → Q v H')
theorem ok_Craft_beat (T : Tx K mg) : FnOk P w K mg base CX0 2 T.a_Craft_beat T.d_Craft_beat ["self"] (sp_beat T.A_Craft T.A_Laying) := by
  have nd := sc_Craft_beat.nd
  refine T.F_Craft_beat.ok sc_Craft_beat (fun vs H Q E h => ?_) (fun cdv A0 outer s H vs Q E hr h => ?_)
  · obtain ⟨_, _, _, _, _, _, _, _, rfl, _⟩ := h
    rfl
  · obtain ⟨A, ps, room, z, ns, m, qv, gs, rfl, hC, no, yes⟩ := h
    have hlens := hC.ok.lens
    have hr60 := hC.r60.2
    refine ⟨_, (pss_cons (ps_set (i := 1) nd rfl (Or.inl rfl) (pe_ifExp (pt_truth (pe_fld (pv 0) rfl) (by intro _; rfl)) (pe_meth0 (pv 0) T.cl_Craft T.M_Craft_next_mark (ok_Craft_next_mark T) (hr.mono (by decide)) T.b_Craft_next_mark .nil pass0) pe_non)) (pss_cons (ps_if (pt_cmpR op_isN (pv 1) pe_non (nomark _)) (pss_one (ps_ret pe_non)) pss_nil) (pss_cons (ps_expr (pe_bm PySem.F.plainAttrs_dict PySem.F.slot_dict_pop PySem.F.type_dict_pop (mt_popW (hu_of hr)) (pe_fld (pv 0) rfl) (pa_cons (pv 1) (pa_cons pe_non pa_nil)))) (pss_cons (ps_dput (hu_of hr) (pe_fld (pv 0) rfl) (pv 1) pe_bl rfl) (pss_one (ps_ret (pe_dget (hu_of hr) (pe_fld (pv 0) rfl) (pv 1) (fun _ _ => rfl)))))))), ?_⟩
    refine ⟨_, rfl, A.c, _, A.dx, _, _, rfl, hC.o, T.cl_Craft, T.n_Craft_window, cf_window, m.win, rfl, ?_⟩
    cases ew : m.win with
    | false =>
      refine iteF ?_
      exact ⟨_, rfl, rfl, _, rfl, iteT (no (.inl ew) H (Same.refl _))⟩
    | true =>
      refine iteT ?_
      refine ⟨_, rfl, A.c, A.dx, _, rfl, hC.o, cf_no (by decide), A, ps, room, z, ns, m, qv, gs, rfl, hC, fun e H1 s1 => ?_, fun k e b H1 s1 hb => ?_⟩
      · exact ⟨_, rfl, rfl, _, rfl, iteT (no (.inr e) H1 s1)⟩
      · refine ⟨_, rfl, rfl, _, rfl, iteF ?_⟩
        have hC1 := hC.same s1
        have hk := hC.ok.next e
        obtain ⟨c1, c2, c3, c4, c5⟩ := hC1.nec
        have b2 : b ≠ A.se := ne_of hb hC1.se (by intro e; cases e)
        have b3 : b ≠ A.ak := ne_of hb hC1.ak (by intro e; cases e)
        refine ⟨_, rfl, A.c, _, A.dx, _, _, rfl, hC1.o, T.cl_Craft, T.n_Craft_asked, cf_asked, .inr (.inr (.inl ⟨rfl, .inr ⟨_, hC1.ak⟩⟩)), _, rfl, A.ak, _, mkK k, b, _, rfl, rfl, hC1.ak, hb, fun _ H2 a2 k2 D2 => ?_⟩
        rw [true_drop] at a2
        have s2 := k2 _ _ (by simp [hC1.d3]) hC1.se
        have hb2 := k2 _ _ (by simp [b3]) hb
        have o2 := k2 _ _ (by simp [c3]) hC1.o
        refine ⟨_, rfl, A.c, _, A.dx, _, _, rfl, o2, T.cl_Craft, T.n_Craft_sent, cf_sent, _, rfl, A.se, _, rfl, DPut.t (k := mkK k) s2 hb2 (lt_line (by rw [trueD_len]; omega)), ?_⟩
        rw [true_put]
        have k3 : Keep [A.se, A.ak] H1 (upd H2 A.se (.dT (trueD (if k ∈ m.sent then m.sent else m.sent ++ [k])))) := keep_upd (k2.mono (by simp)) (by simp)
        have d3 : Dom H1 (upd H2 A.se (.dT (trueD (if k ∈ m.sent then m.sent else m.sent ++ [k])))) := D2.upd _ _
        have s3 : upd H2 A.se (.dT (trueD (if k ∈ m.sent then m.sent else m.sent ++ [k]))) A.se = some (.dT (trueD (m.sends k).sent)) := upd_same
        have a3 : upd H2 A.se (.dT (trueD (if k ∈ m.sent then m.sent else m.sent ++ [k]))) A.ak = some (.dT (trueD (m.sends k).asked)) := by rw [upd_ne hC1.d3.symm]; exact a2
        generalize upd H2 A.se (.dT (trueD (if k ∈ m.sent then m.sent else m.sent ++ [k]))) = H3 at *
        have k3' : Keep [A.fr, A.se, A.ak, A.go] H1 H3 := k3.mono (by intro x hx; simp at hx ⊢; rcases hx with e | e <;> simp [e])
        have f3 := k3 _ _ (by simp [hC1.d1, hC1.d2]) hC1.fr
        have g3 := k3 _ _ (by simp [hC1.neg.2.1, hC1.neg.2.2]) hC1.go
        have o3 := k3 _ _ (by simp [c2, c3]) hC1.o
        have ts := k3'.ts hC1.noT4
        have hC3 := hC1.step k3' (m' := m.sends k) rfl (hC1.ok.sends hk) hC1.qe f3 s3 a3 g3 (fun y hy => (hC1.ft y hy).mono ts) (hC1.gt.mono ts)
        have hkq : k ∈ qv.map fun x : KF => mkOf x.1 := by rw [hC1.marksq]; exact hk
        obtain ⟨y, hy, ey⟩ := List.mem_map.mp hkq
        have hb3 := k3 _ _ (by simp [b2, b3]) hb
        have hv : valV (framesD qv) (mkK k) = some y.2 := by
          rw [← ey]
          exact val_some (f := fun x : KF => mkOf x.1) (g := fun x => x.2) (by rw [hC1.marksq]; exact hC1.ok.nd) hy
        refine ⟨_, rfl, A.c, _, A.dx, _, _, rfl, o3, T.cl_Craft, T.n_Craft_frames, cf_frames, _, rfl, A.fr, y.2, rfl, ?_, ?_⟩
        · rw [← hv]; exact DGet.t (k := mkK k) f3 hb3
        · exact yes k y.1 ew e (by rw [← hC1.qe]; exact List.mem_map.mpr ⟨y, hy, rfl⟩) ey y.2 H3 hC3 ((hC1.ft y hy).mono ts) ((Keep.of_same s1).trans k3) ((Dom.of_same s1).trans d3)
/-! ### begin, shut -/
theorem CAt.window {C CL : Addr} {H : Hp} {A : Ca} {ps : List (Addr × Addr × Addr)} {room z : Nat} {ns : List (List Int × List Nat)} {m : Cr} {qv : List KF} {gs : List V} (h : CAt C CL H A ps room z ns m qv gs) (b : Bool) :
    CAt C CL (upd H A.c (.ins C A.dx (cf room b A))) A ps room z ns { m with win := b } qv gs := by
  obtain ⟨c1, c2, c3, c4, c5⟩ := h.nec
  have t : TSm H (upd H A.c (.ins C A.dx (cf room b A))) := ts_upd (TSm.refl _) (NoT.ins h.o)
  refine ⟨upd_same, by rw [upd_ne c5.symm]; exact h.la, h.pl, h.nl, fun i p n hp hn => ?_, by rw [upd_ne c1.symm]; exact h.fr, h.qe, fun x hx => (h.ft x hx).mono t, by rw [upd_ne c2.symm]; exact h.se, by rw [upd_ne c3.symm]; exact h.ak, by rw [upd_ne c4.symm]; exact h.go, h.gt.mono t, ⟨h.ok.nd, h.ok.few, h.ok.sn, h.ok.ss, h.ok.an, h.ok.as⟩, h.r60, h.d1, h.d2, h.d3, h.d4, h.pc, h.pd, h.ld⟩
  obtain ⟨⟨h1, h2⟩, h3⟩ := h.lay i p n hp hn
  have hpc := h.pc p (List.mem_of_getElem? hp)
  exact ⟨⟨by rw [upd_ne hpc.1]; exact h1, by rw [upd_ne (ne_of h2 h.o (by intro e; cases e))]; exact h2⟩, h3⟩
def sp_begin (C CL : Addr) : Sp := fun vs H Q _ => ∃ (A : Ca) (ps : List (Addr × Addr × Addr)) (room z : Nat) (ns : List (List Int × List Nat)) (m : Cr) (qv : List KF) (gs : List V), vs = [.ref A.c] ∧ CAt C CL H A ps room z ns m qv gs ∧
  ∀ H', CAt C CL H' A ps room z ns { m with win := true } qv gs → Keep [A.c] H H' → Dom H H' → Q (.bl (!m.win)) H'
theorem ok_Craft_begin (T : Tx K mg) : FnOk P w K mg base CX0 1 T.a_Craft_begin T.d_Craft_begin ["self"] (sp_begin T.A_Craft T.A_Laying) := by
  have nd := sc_Craft_begin.nd
  refine T.F_Craft_begin.ok sc_Craft_begin (fun vs H Q E h => ?_) (fun cdv A0 outer s H vs Q E hr h => ?_)
  · obtain ⟨_, _, _, _, _, _, _, _, rfl, _⟩ := h
    rfl
  · obtain ⟨A, ps, room, z, ns, m, qv, gs, rfl, hC, fin⟩ := h
    refine ⟨_, (pss_cons (ps_set (i := 1) nd rfl (Or.inl rfl) (pe_not (pe_fld (pv 0) rfl))) (pss_cons (ps_fld (pv 0) pe_bl rfl) (pss_one (ps_ret (pv 1))))), ?_⟩
    refine ⟨_, rfl, A.c, _, A.dx, _, _, rfl, hC.o, T.cl_Craft, T.n_Craft_window, cf_window, m.win, rfl, ?_⟩
    refine ⟨_, rfl, A.c, _, A.dx, _, rfl, hC.o, T.cl_Craft, T.n_Craft_window, cf_few, ?_⟩
    rw [cf_put]
    exact ⟨_, rfl, fin _ (hC.window true) (keep_upd (Keep.refl _ _) (by simp)) (dom_upd _ _ _)⟩
end
end K04

namespace K04
open PySem PySem.Spec PyProof.Rows L2 Sky
section
variable {P : Program} {w : World} {K : PySem.W.Frag} {mg : Str → Option Value} {base : Heap}
/-! ### known -/
theorem filter_one {l : List (Nat × Frm)} {k : Nat × Nat} (nd : (l.map mkOf).Nodup) (h : k ∈ l.map mkOf) : (l.filter fun x => decide (mkOf x ≠ k)).length + 1 = l.length := by
  induction l with
  | nil => cases h
  | cons x l ih =>
    rw [List.map_cons, List.nodup_cons] at nd
    by_cases e : mkOf x = k
    · rw [List.filter_cons_of_neg (by simpa using e), List.length_cons]
      congr 1
      congr 1
      refine List.filter_eq_self.mpr fun y hy => decide_eq_true fun z => ?_
      exact nd.1 (by rw [e, ← z]; exact List.mem_map.mpr ⟨y, hy, rfl⟩)
    · rw [List.filter_cons_of_pos (by simpa using e), List.length_cons, List.length_cons]
      rw [List.map_cons, List.mem_cons] at h
      rcases h with z | z
      · exact absurd z.symm e
      · rw [ih nd.2 z]
def Cr.know1 (m : Cr) (k : Nat × Nat) : Cr := if k ∈ m.marks then m.letGo k else m
theorem knows_snoc (m : Cr) (ks : List (Nat × Nat)) (k : Nat × Nat) : m.knows (ks ++ [k]) = (m.knows ks).know1 k := by
  unfold Cr.knows
  rw [List.foldl_append]
  rfl
theorem Cr.Ok.knows {room : Nat} {m : Cr} (h : m.Ok room) (ks : List (Nat × Nat)) : (m.knows ks).Ok room := by
  unfold Cr.knows
  induction ks generalizing m with
  | nil => exact h
  | cons k ks ih =>
    rw [List.foldl_cons]
    split
    · exact ih (h.letGo k)
    · exact ih h
def sp_known (C CL : Addr) : Sp := fun vs H Q _ => ∃ (A : Ca) (ps : List (Addr × Addr × Addr)) (room z : Nat) (ns : List (List Int × List Nat)) (m : Cr) (qv : List KF) (gs : List V) (lm : Addr) (us : List V) (ks : List (Nat × Nat)), vs = [.ref A.c, .ref lm] ∧ CAt C CL H A ps room z ns m qv gs ∧
  H lm = some (.lst us) ∧ TDs H us (ks.map mD2) ∧ (∀ k ∈ ks, k.1 ≤ 3 ∧ k.2 ≤ 9999) ∧ lm ≠ A.go ∧
  ∀ H' qv', CAt C CL H' A ps room z ns (m.knows ks) qv' gs → Keep [A.fr, A.se, A.ak] H H' → Dom H H' → Q (.int (((m.q.length - (m.knows ks).q.length : Nat)) : Int)) H'
theorem ok_Craft_known (T : Tx K mg) : FnOk P w K mg base CX0 5 T.a_Craft_known T.d_Craft_known ["self", "marks"] (sp_known T.A_Craft T.A_Laying) := by
  have nd := sc_Craft_known.nd
  refine T.F_Craft_known.ok sc_Craft_known (fun vs H Q E h => ?_) (fun cdv A0 outer s H vs Q E hr h => ?_)
  · obtain ⟨_, _, _, _, _, _, _, _, _, _, _, rfl, _⟩ := h
    rfl
  · obtain ⟨A, ps, room, z, ns, m, qv, gs, lm, us, ks, rfl, hC, hl, tu, hok, nlg, fin⟩ := h
    have hul : us.length = ks.length := by rw [tu.length, List.length_map]
    have l1 : lm ≠ A.fr := ne_of hl hC.fr (by intro e; cases e)
    have l2 : lm ≠ A.se := ne_of hl hC.se (by intro e; cases e)
    have l3 : lm ≠ A.ak := ne_of hl hC.ak (by intro e; cases e)
    refine ⟨_, (pss_cons (ps_expr (pe_call (ok_check_marks T) (hr.mono (by decide)) (by rfl) T.m_check_marks T.F_check_marks.kp T.b_check_marks .nil pass0 (pa_cons (pv 1) pa_nil))) (pss_cons (ps_set (i := 2) nd rfl (Or.inl rfl) pe_int) (pss_cons (ps_for PassesOwn.never rfl (pi_list (pv 1)) (pg_name (i := 3) nd rfl (Or.inl rfl)) (pss_one (ps_if (pt_cmp (pc_din (hu_of hr) (pv 3) (pe_fld (pv 0) rfl))) (pss_cons (ps_expr (pe_meth (pv 0) T.cl_Craft T.M_Craft_let_go (ok_Craft_let_go T) (hr.mono (by decide)) T.b_Craft_let_go .nil pass0 (pa_cons (pv 3) pa_nil))) (pss_one (ps_aug (i := 2) nd rfl (Or.inl rfl) pe_int ip_add))) pss_nil))) (pss_one (ps_ret (pv 2)))))), ?_⟩
    refine ⟨_, rfl, lm, us, ks, rfl, hl, tu, hok, fun H1 s1 => ?_⟩
    have hC1 := hC.same s1
    have hl1 := s1 _ _ hl
    refine ⟨_, rfl, lm, rfl, ⟨_, SqL.of hl1⟩, ?_⟩
    refine for_list (K := K) (a := lm) (xs := us) (fun i σ H' => ∃ (n : Nat) (v3 : Option V) (qv' : List KF), σ = [some (.ref A.c), some (.ref lm), some (.int ((n : Nat) : Int)), v3] ∧ n + (m.knows (ks.take i)).q.length = m.q.length ∧ CAt T.A_Craft T.A_Laying H' A ps room z ns (m.knows (ks.take i)) qv' gs ∧ Keep [A.fr, A.se, A.ak] H1 H' ∧ Dom H1 H') ⟨0, none, qv, rfl, (by show 0 + m.q.length = _; omega), hC1, Keep.refl _ _, Dom.refl _⟩ (fun i σ H' _ ⟨_, _, _, _, _, _, k, _⟩ => SqL.of (k _ _ (by simp [l1, l2, l3]) hl1)) ?_ ?_
    · rintro i y σ H2 hy ⟨n, v3, qv', rfl, hn, hC2, k2, d2⟩
      obtain ⟨d, hd, td⟩ := tu.get hy
      obtain ⟨k, hk, rfl⟩ := map_get hd
      have ts : TSm H H2 := (TSm.of_same s1).trans (k2.ts fun a ha => hC1.noT4 a (List.mem_append_left [A.go] ha))
      obtain ⟨b, rfl, hb⟩ := key_td (td.mono ts)
      have esn : ks.take (i + 1) = ks.take i ++ [k] := by rw [List.take_add_one, hk]; rfl
      rw [esn, knows_snoc]
      generalize m.knows (ks.take i) = mi at *
      refine ⟨_, rfl, _, rfl, A.c, _, A.dx, _, _, rfl, hC2.o, T.cl_Craft, T.n_Craft_frames, cf_frames, A.fr, _, rfl, DGet.t (k := mkK k) hC2.fr hb, _, rfl, ?_⟩
      have ein : (valV (framesD qv') (mkK k)).isSome = decide (k ∈ mi.marks) := by unfold framesD; rw [val_isSome, hC2.marksq]
      rw [ein]
      by_cases c : k ∈ mi.marks
      · rw [decide_eq_true c]
        refine iteT ?_
        have e1 : mi.know1 k = mi.letGo k := if_pos c
        rw [e1]
        refine ⟨_, rfl, A.c, A.dx, _, rfl, hC2.o, cf_no (by decide), _, rfl, A, ps, room, z, ns, mi, qv', gs, b, k, rfl, hC2, hb, c, fun H3 qv3 hC3 k3 d3 => ?_⟩
        refine ⟨_, rfl, _, 1, rfl, rfl, ?_⟩
        have h1 := filter_one hC2.ok.nd c
        refine ⟨n + 1, _, qv3, rfl, ?_, hC3, k2.trans k3, d2.trans d3⟩
        show n + 1 + (mi.q.filter _).length = _
        omega
      · rw [decide_eq_false c]
        have e1 : mi.know1 k = mi := if_neg c
        rw [e1]
        exact iteF ⟨n, _, qv', rfl, hn, hC2, k2, d2⟩
    · rintro σ H2 ⟨n, v3, qv', rfl, hn, hC2, k2, d2⟩
      rw [hul, List.take_length] at hn hC2
      refine ⟨_, rfl, ?_⟩
      have e : n = m.q.length - (m.knows ks).q.length := by omega
      rw [e]
      exact fin H2 qv' hC2 ((Keep.of_same s1).trans k2) ((Dom.of_same s1).trans d2)
end
end K04

namespace K04
open PySem PySem.Spec PyProof.Rows L2 Sky
section
variable {P : Program} {w : World} {K : PySem.W.Frag} {mg : Str → Option Value} {base : Heap}
/-! ### kept -/
def keptD (m : Cr) (x : Nat × Frm) : PyData := .tuple [.int ((x.1 : Nat) : Int), .int ((x.2.1 : Nat) : Int), .str (if mkOf x ∈ m.sent then "sent" else "fresh")]
def sp_ckept (C CL : Addr) : Sp := fun vs H Q _ => ∃ (A : Ca) (ps : List (Addr × Addr × Addr)) (room z : Nat) (ns : List (List Int × List Nat)) (m : Cr) (qv : List KF) (gs : List V), vs = [.ref A.c] ∧ CAt C CL H A ps room z ns m qv gs ∧
  ∀ p us H', H' p = some (.lst us) → TDs H' us (m.q.map (keptD m)) → H p = none → Same H H' → Q (.ref p) H'
theorem ok_Craft_kept (T : Tx K mg) : FnOk P w K mg base CX0 1 T.a_Craft_kept T.d_Craft_kept ["self"] (sp_ckept T.A_Craft T.A_Laying) := by
  have nd := sc_Craft_kept.nd
  refine T.F_Craft_kept.ok sc_Craft_kept (fun vs H Q E h => ?_) (fun cdv A0 outer s H vs Q E hr h => ?_)
  · obtain ⟨_, _, _, _, _, _, _, _, rfl, _⟩ := h
    rfl
  · obtain ⟨A, ps, room, z, ns, m, qv, gs, rfl, hC, fin⟩ := h
    obtain ⟨c1, c2, c3, c4, c5⟩ := hC.nec
    have hql := hC.qlen
    have hfew := hC.ok.few
    have hr60 := hC.r60.2
    refine ⟨_, (pss_cons (ps_set (i := 1) nd rfl (Or.inl rfl) (pe_lst pa_nil)) (pss_cons (ps_lock (ps_for PassesOwn.never rfl (pi_keys (pe_fld (pv 0) rfl)) (pg_tup rfl (pgs_cons (pg_name (i := 2) nd rfl (Or.inl rfl)) (pgs_cons (pg_name (i := 3) nd rfl (Or.inl rfl)) pgs_nil))) (pss_cons (ps_set (i := 4) nd rfl (Or.inl rfl) (pe_ifExp (pt_cmp (pc_din (hu_of hr) (pe_tup (pa_cons (pv 2) (pa_cons (pv 3) pa_nil))) (pe_fld (pv 0) rfl))) pe_str pe_str)) (pss_one (ps_expr (pe_bm PySem.F.plainAttrs_list PySem.F.slot_list_append PySem.F.type_list_append mt_append (pv 1) (pa_cons (pe_tup (pa_cons (pv 2) (pa_cons (pv 3) (pa_cons (pv 4) pa_nil)))) pa_nil))))))) (pss_one (ps_ret (pv 1))))), ?_⟩
    refine ⟨Nat.zero_le _, fun D hD0 => ?_⟩
    have nfD : A.fr ≠ D := ne_of_none hC.fr hD0
    have s1 := same_new (Same.refl H) hD0 (o := .lst [])
    have hD1 : upd H D (.lst []) D = some (.lst []) := upd_same
    have hC1 := hC.same s1
    generalize upd H D (.lst []) = H1 at *
    refine ⟨A.fr, _, hC1.fr, True.intro, fun od => ?_⟩
    have k2 : Keep [A.fr] H1 (upd H1 A.fr (.frz od (.dT (framesD qv)))) := keep_upd (Keep.refl _ _) (by simp)
    have f2 : upd H1 A.fr (.frz od (.dT (framesD qv))) A.fr = some (.frz od (.dT (framesD qv))) := upd_same
    have hD2 : upd H1 A.fr (.frz od (.dT (framesD qv))) D = some (.lst []) := by rw [upd_ne nfD.symm]; exact hD1
    generalize upd H1 A.fr (.frz od (.dT (framesD qv))) = H2 at *
    refine ⟨_, rfl, A.c, _, A.dx, _, _, rfl, k2 _ _ (by simp [c1]) hC1.o, T.cl_Craft, T.n_Craft_frames, cf_frames, A.fr, od, rfl, .inr ⟨_, f2, ?_⟩⟩
    refine for_keysT (d := A.fr) (od := od) (kvs := framesD qv) (fun i σ H' => ∃ (v2 v3 v4 : Option V) (xs : List V), σ = [some (.ref A.c), some (.ref D), v2, v3, v4] ∧ H' D = some (.lst xs) ∧ TDs H' xs ((m.q.take i).map (keptD m)) ∧ H' A.fr = some (.frz od (.dT (framesD qv))) ∧ Keep [A.fr, D] H1 H') ⟨_, _, _, [], rfl, hD2, .nil, f2, k2.mono (by simp)⟩ (fun i σ H' _ ⟨_, _, _, _, _, _, _, e, _⟩ => e) ?_ ?_
    · rintro i kk v q σ H3 hi hq ⟨v2, v3, v4, xs, rfl, hL, tL, f3, k3⟩
      obtain ⟨y, hy, rfl, rfl⟩ := mark_key hi
      have hyq : m.q[i]? = some y.1 := by rw [← hC.qe, List.getElem?_map, hy]; rfl
      have hil := (List.getElem?_eq_some_iff.mp hy).1
      have hxl : xs.length ≤ i := by rw [tL.length, List.length_map, List.length_take]; omega
      refine ⟨q, _, rfl, SqT.of hq, rfl, _, _, rfl, _, _, rfl, rfl, ?_⟩
      refine ⟨_, rfl, _, rfl, (by decide : (2 : Nat) ≤ sizeLine), fun t ht => ?_⟩
      have nDt : D ≠ t := ne_of_none hL ht
      have nft : A.fr ≠ t := ne_of_none f3 ht
      have s4 := same_new (Same.refl H3) ht (o := .tup [kV (Sum.inl (((mkOf y.1).1 : Nat) : Int)), kV (Sum.inl (((mkOf y.1).2 : Nat) : Int))])
      have ht4 : upd H3 t (.tup [kV (Sum.inl (((mkOf y.1).1 : Nat) : Int)), kV (Sum.inl (((mkOf y.1).2 : Nat) : Int))]) t = some (.tup ((mkK (mkOf y.1)).map kV)) := upd_same
      have hL4 := s4 _ _ hL
      have f4 := s4 _ _ f3
      have tL4 := tL.mono (TSm.of_same s4)
      have k4 := k3.trans (Keep.of_same s4)
      generalize upd H3 t (.tup [kV (Sum.inl (((mkOf y.1).1 : Nat) : Int)), kV (Sum.inl (((mkOf y.1).2 : Nat) : Int))]) = H4 at *
      refine ⟨_, rfl, A.c, _, A.dx, _, _, rfl, k4 _ _ (by simp [c1, ne_of hC1.o hD1 (by intro e; cases e)]) hC1.o, T.cl_Craft, T.n_Craft_sent, cf_sent, A.se, _, rfl, DGet.t (k := mkK (mkOf y.1)) (k4 _ _ (by simp [hC.d1.symm, ne_of hC1.se hD1 (by intro e; cases e)]) hC1.se) ht4, _, rfl, ?_⟩
      rw [true_in]
      refine ife_skip (fun u H5 => u = .str (if mkOf y.1 ∈ m.sent then "sent" else "fresh") ∧ H5 = H4) (fun u H5 ⟨eu, e5⟩ => ?_) (fun e rest => ?_) (fun e rest => ?_)
      · subst eu e5
        refine ⟨_, rfl, .inl ⟨rfl, _, SqL.of hL4⟩, _, rfl, _, rfl, _, rfl, (by decide : (3 : Nat) ≤ sizeLine), fun t2 ht2 => ?_⟩
        have nDt2 : D ≠ t2 := ne_of_none hL4 ht2
        have nft2 : A.fr ≠ t2 := ne_of_none f4 ht2
        generalize hst : (V.str (if mkOf y.1 ∈ m.sent then "sent" else "fresh")) = sv at *
        have t5 := TSm.of_same (same_new (Same.refl H5) ht2 (o := .tup [.int ((y.1.1 : Nat) : Int), .int ((y.1.2.1 : Nat) : Int), sv]))
        refine ⟨D, xs, _, rfl, rfl, by rw [upd_ne nDt2]; exact hL4, lt_line (by omega), _, _, _, _, rfl, upd_same, ?_, by rw [upd_ne nfD, upd_ne nft2]; exact f4, keep_upd (keep_new' k4 ht2) (by simp)⟩
        have t6 : TSm (upd H5 t2 (.tup [.int ((y.1.1 : Nat) : Int), .int ((y.1.2.1 : Nat) : Int), sv])) (upd (upd H5 t2 (.tup [.int ((y.1.1 : Nat) : Int), .int ((y.1.2.1 : Nat) : Int), sv])) D (.lst (xs ++ [.ref t2]))) := ts_upd (TSm.refl _) (NoT.lst (by rw [upd_ne nDt2]; exact hL4))
        rw [List.take_add_one, hyq, Option.toList_some, List.map_append]
        refine ((tL4.mono t5).mono t6).app (.one (TD.mono t6 (.tup upd_same (.cons (.int _) (.cons (.int _) (.cons ?_ .nil))))))
        rw [← hst]
        exact .str _
      · exact rest _ _ ⟨by rw [if_pos (of_decide_eq_true e)], rfl⟩
      · exact rest _ _ ⟨by rw [if_neg (fun z => e (decide_eq_true z))], rfl⟩
    · rintro σ H3 ⟨v2, v3, v4, xs, rfl, hL, tL, f3, k3⟩
      rw [show (framesD qv).length = qv.length from keysD_len qv, hql, List.take_length] at tL
      refine ⟨f3, ?_⟩
      have s4 : Same H (upd H3 A.fr (.dT (framesD qv))) := fun b o e => by
        by_cases zf : b = A.fr
        · subst zf
          rw [upd_same, ← hC.fr]
          exact e
        · rw [upd_ne zf]
          refine k3 b o ?_ (s1 _ _ e)
          simp only [List.mem_cons, List.not_mem_nil, or_false, not_or]
          exact ⟨zf, ne_of_none e hD0⟩
      have t5 : TSm H3 (upd H3 A.fr (.dT (framesD qv))) := ts_upd (TSm.refl _) (fun ys e => by rw [f3] at e; cases e)
      exact ⟨_, rfl, fin D xs _ (by rw [upd_ne nfD.symm]; exact hL) (tL.mono t5) hD0 s4⟩
end
end K04

namespace K04
open PySem PySem.Spec PyProof.Rows L2 Sky
section
variable {P : Program} {w : World} {K : PySem.W.Frag} {mg : Str → Option Value} {base : Heap}
/-! ### lost -/
def sp_lost (C CL : Addr) : Sp := fun vs H Q _ => ∃ (A : Ca) (ps : List (Addr × Addr × Addr)) (room z : Nat) (ns : List (List Int × List Nat)) (m : Cr) (qv : List KF) (gs : List V), vs = [.ref A.c] ∧ CAt C CL H A ps room z ns m qv gs ∧
  ∀ p H', H' p = some (.lst gs) → TDs H' gs (m.gone.map mD2) → H p = none → Same H H' → Q (.ref p) H'
theorem ok_Craft_lost (T : Tx K mg) : FnOk P w K mg base CX0 1 T.a_Craft_lost T.d_Craft_lost ["self"] (sp_lost T.A_Craft T.A_Laying) := by
  have nd := sc_Craft_lost.nd
  refine T.F_Craft_lost.ok sc_Craft_lost (fun vs H Q E h => ?_) (fun cdv A0 outer s H vs Q E hr h => ?_)
  · obtain ⟨_, _, _, _, _, _, _, _, rfl, _⟩ := h
    rfl
  · obtain ⟨A, ps, room, z, ns, m, qv, gs, rfl, hC, fin⟩ := h
    refine ⟨_, (pss_one (ps_ret (pe_callTy call_list_of (by rfl) T.z_list (by decide +kernel) (pa_cons (pe_fld (pv 0) rfl) pa_nil)))), ?_⟩
    refine ⟨_, rfl, A.c, _, A.dx, _, _, rfl, hC.o, T.cl_Craft, T.n_Craft_gone, cf_gone, A.go, _, rfl, .inl (SqL.of hC.go), fun p hp => ?_⟩
    exact fin p _ upd_same (hC.gt.mono (TSm.of_same (same_new (Same.refl _) hp))) hp (same_new (Same.refl _) hp)
end
end K04

namespace K04
open PySem PySem.Spec PyProof.Rows L2 Sky
section
variable {P : Program} {w : World} {K : PySem.W.Frag} {mg : Str → Option Value} {base : Heap}
def sp_shut (C CL : Addr) : Sp := fun vs H Q _ => ∃ (A : Ca) (ps : List (Addr × Addr × Addr)) (room z : Nat) (ns : List (List Int × List Nat)) (m : Cr) (qv : List KF) (gs : List V), vs = [.ref A.c] ∧ CAt C CL H A ps room z ns m qv gs ∧
  ∀ H', CAt C CL H' A ps room z ns { m with win := false } qv gs → Keep [A.c] H H' → Dom H H' → Q (.bl m.win) H'
theorem ok_Craft_shut (T : Tx K mg) : FnOk P w K mg base CX0 1 T.a_Craft_shut T.d_Craft_shut ["self"] (sp_shut T.A_Craft T.A_Laying) := by
  have nd := sc_Craft_shut.nd
  refine T.F_Craft_shut.ok sc_Craft_shut (fun vs H Q E h => ?_) (fun cdv A0 outer s H vs Q E hr h => ?_)
  · obtain ⟨_, _, _, _, _, _, _, _, rfl, _⟩ := h
    rfl
  · obtain ⟨A, ps, room, z, ns, m, qv, gs, rfl, hC, fin⟩ := h
    refine ⟨_, (pss_cons (ps_set (i := 1) nd rfl (Or.inl rfl) (pe_fld (pv 0) rfl)) (pss_cons (ps_fld (pv 0) pe_bl rfl) (pss_one (ps_ret (pv 1))))), ?_⟩
    refine ⟨_, rfl, A.c, _, A.dx, _, _, rfl, hC.o, T.cl_Craft, T.n_Craft_window, cf_window, ?_⟩
    refine ⟨_, rfl, A.c, _, A.dx, _, rfl, hC.o, T.cl_Craft, T.n_Craft_window, cf_few, ?_⟩
    rw [cf_put]
    exact ⟨_, rfl, fin _ (hC.window false) (keep_upd (Keep.refl _ _) (by simp)) (dom_upd _ _ _)⟩
end
end K04

namespace K04
open PySem PySem.Spec PyProof.Rows L2 Sky
section
variable {P : Program} {w : World} {K : PySem.W.Frag} {mg : Str → Option Value} {base : Heap}
/-! ### again -/
def Cr.again1 (m : Cr) (k : Nat × Nat) : Cr := if k ∈ m.marks then { m with asked := if k ∈ m.asked then m.asked else m.asked ++ [k] } else m
def Cr.agains (m : Cr) (ks : List (Nat × Nat)) : Cr := ks.foldl Cr.again1 m
theorem agains_snoc (m : Cr) (ks : List (Nat × Nat)) (k : Nat × Nat) : m.agains (ks ++ [k]) = (m.agains ks).again1 k := by
  unfold Cr.agains
  rw [List.foldl_append]
  rfl
theorem again1_q (m : Cr) (k : Nat × Nat) : (m.again1 k).q = m.q ∧ (m.again1 k).sent = m.sent ∧ (m.again1 k).gone = m.gone ∧ (m.again1 k).win = m.win := by
  unfold Cr.again1
  split <;> exact ⟨rfl, rfl, rfl, rfl⟩
theorem agains_q (ks : List (Nat × Nat)) (m : Cr) : (m.agains ks).q = m.q ∧ (m.agains ks).sent = m.sent ∧ (m.agains ks).gone = m.gone ∧ (m.agains ks).win = m.win := by
  unfold Cr.agains
  induction ks generalizing m with
  | nil => exact ⟨rfl, rfl, rfl, rfl⟩
  | cons k ks ih =>
    rw [List.foldl_cons]
    obtain ⟨h1, h2, h3, h4⟩ := ih (m.again1 k)
    obtain ⟨g1, g2, g3, g4⟩ := again1_q m k
    exact ⟨h1.trans g1, h2.trans g2, h3.trans g3, h4.trans g4⟩
theorem agains_marks (ks : List (Nat × Nat)) (m : Cr) : (m.agains ks).marks = m.marks := by
  unfold Cr.marks
  rw [(agains_q ks m).1]
theorem Cr.Ok.again1 {room : Nat} {m : Cr} (h : m.Ok room) (k : Nat × Nat) : (m.again1 k).Ok room := by
  unfold Cr.again1
  split
  · rename_i hk
    refine ⟨h.nd, h.few, h.sn, h.ss, ?_, fun j hj => ?_⟩
    · show (if k ∈ m.asked then m.asked else m.asked ++ [k]).Nodup
      split
      · exact h.an
      · rename_i z
        rw [List.nodup_append]
        refine ⟨h.an, by simp, fun a ha b hb => ?_⟩
        rw [List.mem_singleton.mp hb]
        exact fun e => z (by rw [← e]; exact ha)
    · have hj : j ∈ (if k ∈ m.asked then m.asked else m.asked ++ [k]) := hj
      split at hj
      · exact h.as j hj
      · rcases List.mem_append.mp hj with z | z
        · exact h.as j z
        · rw [List.mem_singleton.mp z]; exact hk
  · exact h
theorem Cr.Ok.agains {room : Nat} {m : Cr} (h : m.Ok room) (ks : List (Nat × Nat)) : (m.agains ks).Ok room := by
  unfold Cr.agains
  induction ks generalizing m with
  | nil => exact h
  | cons k ks ih =>
    rw [List.foldl_cons]
    exact ih (h.again1 k)
def sp_again (C CL : Addr) : Sp := fun vs H Q _ => ∃ (A : Ca) (ps : List (Addr × Addr × Addr)) (room z : Nat) (ns : List (List Int × List Nat)) (m : Cr) (qv : List KF) (gs : List V) (lm : Addr) (us : List V) (ks : List (Nat × Nat)), vs = [.ref A.c, .ref lm] ∧ CAt C CL H A ps room z ns m qv gs ∧
  H lm = some (.lst us) ∧ TDs H us (ks.map mD2) ∧ (∀ k ∈ ks, k.1 ≤ 3 ∧ k.2 ≤ 9999) ∧ ks.length ≤ 1000000 ∧
  ∀ r xs H', H' r = some (.lst xs) → TDs H' xs ((ks.filter fun k => !decide (k ∈ m.marks)).map mD2) → CAt C CL H' A ps room z ns (m.agains ks) qv gs → H r = none → Keep [A.ak] H H' → Dom H H' → Q (.ref r) H'
theorem ok_Craft_again (T : Tx K mg) : FnOk P w K mg base CX0 5 T.a_Craft_again T.d_Craft_again ["self", "marks"] (sp_again T.A_Craft T.A_Laying) := by
  have nd := sc_Craft_again.nd
  refine T.F_Craft_again.ok sc_Craft_again (fun vs H Q E h => ?_) (fun cdv A0 outer s H vs Q E hr h => ?_)
  · obtain ⟨_, _, _, _, _, _, _, _, _, _, _, rfl, _⟩ := h
    rfl
  · obtain ⟨A, ps, room, z, ns, m, qv, gs, lm, us, ks, rfl, hC, hl, tu, hok, hkl, fin⟩ := h
    have hul : us.length = ks.length := by rw [tu.length, List.length_map]
    have l3 : lm ≠ A.ak := ne_of hl hC.ak (by intro e; cases e)
    have hr60 := hC.r60.2
    refine ⟨_, (pss_cons (ps_expr (pe_call (ok_check_marks T) (hr.mono (by decide)) (by rfl) T.m_check_marks T.F_check_marks.kp T.b_check_marks .nil pass0 (pa_cons (pv 1) pa_nil))) (pss_cons (ps_set (i := 2) nd rfl (Or.inl rfl) (pe_lst pa_nil)) (pss_cons (ps_for PassesOwn.never rfl (pi_list (pv 1)) (pg_name (i := 3) nd rfl (Or.inl rfl)) (pss_one (ps_if (pt_cmp (pc_din (hu_of hr) (pv 3) (pe_fld (pv 0) rfl))) (pss_one (ps_expr (pe_dsetdT (hu_of hr) (pe_fld (pv 0) rfl) (pv 3) pe_bl ⟨rfl, rfl, rfl, rfl⟩))) (pss_one (ps_expr (pe_bm PySem.F.plainAttrs_list PySem.F.slot_list_append PySem.F.type_list_append mt_append (pv 2) (pa_cons (pv 3) pa_nil))))))) (pss_one (ps_ret (pv 2)))))), ?_⟩
    refine ⟨_, rfl, lm, us, ks, rfl, hl, tu, hok, fun H1 s1 => ?_⟩
    have hC1 := hC.same s1
    have hl1 := s1 _ _ hl
    refine ⟨Nat.zero_le _, fun D hD => ?_⟩
    have s2 := same_new (Same.refl H1) hD (o := .lst [])
    have hD2 : upd H1 D (.lst []) D = some (.lst []) := upd_same
    have hC2 := hC1.same s2
    have hl2 := s2 _ _ hl1
    have nak : A.ak ≠ D := ne_of_none hC1.ak hD
    have nlD : lm ≠ D := ne_of_none hl1 hD
    have hD0 := s1.free hD
    generalize upd H1 D (.lst []) = H2 at *
    have s12 := s1.trans s2
    obtain ⟨c1, c2, c3, c4, c5⟩ := hC2.nec
    refine ⟨_, rfl, lm, rfl, ⟨_, SqL.of hl2⟩, ?_⟩
    refine for_list (K := K) (a := lm) (xs := us) (fun i σ H' => ∃ (v3 : Option V) (xs : List V), σ = [some (.ref A.c), some (.ref lm), some (.ref D), v3] ∧ H' D = some (.lst xs) ∧ TDs H' xs (((ks.take i).filter fun k => !decide (k ∈ m.marks)).map mD2) ∧ xs.length ≤ i ∧ CAt T.A_Craft T.A_Laying H' A ps room z ns (m.agains (ks.take i)) qv gs ∧ Keep [A.ak, D] H2 H' ∧ Dom H2 H') ⟨none, [], rfl, hD2, .nil, Nat.le_refl _, hC2, Keep.refl _ _, Dom.refl _⟩ (fun i σ H' _ ⟨_, _, _, _, _, _, _, k, _⟩ => SqL.of (k _ _ (by simp [l3, nlD]) hl2)) ?_ ?_
    · rintro i y σ H3 hy ⟨v3, xs, rfl, hD3, tx, hxl, hC3, k3, d3⟩
      obtain ⟨d, hd, td⟩ := tu.get hy
      obtain ⟨k, hk, rfl⟩ := map_get hd
      have hil := (List.getElem?_eq_some_iff.mp hy).1
      have ts : TSm H H3 := (TSm.of_same s12).trans (k3.ts fun a ha => by
        rcases List.mem_cons.mp ha with e | e
        · rw [e]; exact NoT.dT hC2.ak
        · rw [List.mem_singleton.mp e]; exact NoT.lst hD2)
      have tk := td.mono ts
      obtain ⟨b, rfl, hb⟩ := key_td tk
      have esn : ks.take (i + 1) = ks.take i ++ [k] := by rw [List.take_add_one, hk]; rfl
      have emk := agains_marks (ks.take i) m
      rw [walked (p := fun k => !decide (k ∈ m.marks)) hk, esn, agains_snoc]
      generalize m.agains (ks.take i) = mi at *
      refine ⟨_, rfl, _, rfl, A.c, _, A.dx, _, _, rfl, hC3.o, T.cl_Craft, T.n_Craft_frames, cf_frames, A.fr, _, rfl, DGet.t (k := mkK k) hC3.fr hb, _, rfl, ?_⟩
      have ein : (valV (framesD qv) (mkK k)).isSome = decide (k ∈ m.marks) := by unfold framesD; rw [val_isSome, hC3.marksq, emk]
      rw [ein]
      by_cases c : k ∈ m.marks
      · rw [decide_eq_true c]
        refine iteT ?_
        have e1 : mi.again1 k = { mi with asked := if k ∈ mi.asked then mi.asked else mi.asked ++ [k] } := if_pos (by rw [emk]; exact c)
        have ok4 := hC3.ok.again1 k
        rw [e1] at ok4 ⊢
        have hal := hC3.ok.lens.2
        refine ⟨_, rfl, A.c, _, A.dx, _, _, rfl, hC3.o, T.cl_Craft, T.n_Craft_asked, cf_asked, A.ak, rfl, .inr ⟨_, Rd.of hC3.ak⟩, _, rfl, trueD mi.asked, mkK k, b, hC3.ak, rfl, hb, lt_line (by rw [trueD_len]; omega), fun v hv => ?_, fun hv => ?_⟩
        · have hin : k ∈ mi.asked := by
            have := true_in (l := mi.asked) (m := k)
            rw [hv] at this
            exact of_decide_eq_true this.symm
          refine ⟨_, xs, rfl, hD3, ?_, Nat.le_succ_of_le hxl, ?_, k3, d3⟩
          · rw [if_neg (by decide), List.append_nil]; exact tx
          · rw [if_pos hin]; exact hC3
        · have hin : k ∉ mi.asked := fun h => by
            have := true_in (l := mi.asked) (m := k)
            rw [hv, decide_eq_true h] at this
            cases this
          have ep : putK (trueD mi.asked) (mkK k) (.bl true) = trueD (mi.asked ++ [k]) := by rw [true_put, if_neg hin]
          rw [ep]
          have t4 : TSm H3 (upd H3 A.ak (.dT (trueD (mi.asked ++ [k])))) := ts_upd (TSm.refl _) (NoT.dT hC3.ak)
          refine ⟨_, xs, rfl, by rw [upd_ne nak.symm]; exact hD3, ?_, Nat.le_succ_of_le hxl, ?_, keep_upd k3 (by simp), d3.upd _ _⟩
          · rw [if_neg (by decide), List.append_nil]; exact tx.mono t4
          · rw [if_neg hin] at ok4 ⊢
            obtain ⟨n1, n2, n3⟩ := hC3.neg
            exact hC3.step (keep_upd (Keep.refl _ _) (by simp)) rfl ok4 hC3.qe (by rw [upd_ne hC3.d2]; exact hC3.fr) (by rw [upd_ne hC3.d3]; exact hC3.se) upd_same (by rw [upd_ne n3]; exact hC3.go) (fun x hx => (hC3.ft x hx).mono t4) (hC3.gt.mono t4)
      · rw [decide_eq_false c]
        have e1 : mi.again1 k = mi := if_neg (by rw [emk]; exact c)
        rw [e1]
        refine iteF ?_
        have t4 : TSm H3 (upd H3 D (.lst (xs ++ [.ref b]))) := ts_upd (TSm.refl _) (NoT.lst hD3)
        refine ⟨_, rfl, .inl ⟨rfl, _, SqL.of hD3⟩, _, rfl, D, xs, _, rfl, rfl, hD3, lt_line (by omega), _, xs ++ [.ref b], rfl, upd_same, ?_, by rw [List.length_append]; exact Nat.succ_le_succ hxl, ?_, keep_upd k3 (by simp), d3.upd _ _⟩
        · rw [if_pos (by decide), List.map_append]
          exact (tx.mono t4).app (.one (tk.mono t4))
        · refine hC3.else (N := [D]) (keep_upd (Keep.refl _ _) (by simp)) t4 fun a ha z => ?_
          have hDn : D ∉ cM A ps := fun zz => by
            have hall : ∃ o, H1 D = some o := by
              unfold cM at zz
              rcases List.mem_append.mp zz with zz | zz
              · rcases List.mem_append.mp zz with zz | zz
                · simp only [List.mem_cons, List.not_mem_nil, or_false] at zz
                  rcases zz with e | e | e | e | e | e
                  · rw [e]; exact ⟨_, hC1.o⟩
                  · rw [e]; exact ⟨_, hC1.la⟩
                  · rw [e]; exact ⟨_, hC1.fr⟩
                  · rw [e]; exact ⟨_, hC1.se⟩
                  · rw [e]; exact ⟨_, hC1.ak⟩
                  · rw [e]; exact ⟨_, hC1.go⟩
                · obtain ⟨p, hp, e⟩ := List.mem_map.mp zz
                  obtain ⟨_, _, _, _, q1, q2⟩ := hC1.lays hp
                  rw [← e]; exact ⟨_, q1⟩
              · obtain ⟨p, hp, e⟩ := List.mem_map.mp zz
                obtain ⟨_, _, _, _, q1, q2⟩ := hC1.lays hp
                rw [← e]; exact ⟨_, q2⟩
            obtain ⟨o, ho⟩ := hall
            rw [hD] at ho; cases ho
          rw [List.mem_singleton.mp z] at ha
          exact hDn ha
    · rintro σ H3 ⟨v3, xs, rfl, hD3, tx, hxl, hC3, k3, d3⟩
      rw [hul, List.take_length] at tx hC3
      refine ⟨_, rfl, ?_⟩
      refine fin D xs H3 hD3 tx hC3 hD0 (fun b o n e => ?_) ((Dom.of_same s12).trans d3)
      refine k3 b o ?_ (s12 _ _ e)
      simp only [List.mem_cons, List.not_mem_nil, or_false, not_or] at n ⊢
      exact ⟨n, ne_of_none e hD0⟩
end
end K04

namespace K04
open PySem PySem.Spec PyProof.Rows L2 Sky
section
variable {P : Program} {w : World} {K : PySem.W.Frag} {mg : Str → Option Value} {base : Heap}
/-! ### waits -/
def sp_waits (C CL : Addr) : Sp := fun vs H Q _ => ∃ (A : Ca) (ps : List (Addr × Addr × Addr)) (room z : Nat) (ns : List (List Int × List Nat)) (m : Cr) (qv : List KF) (gs : List V), vs = [.ref A.c] ∧ CAt C CL H A ps room z ns m qv gs ∧
  ∀ p xs H', H' p = some (.lst xs) → TDs H' xs (m.asked.map mD2) → H p = none → Same H H' → Q (.ref p) H'
theorem ok_Craft_waits (T : Tx K mg) : FnOk P w K mg base CX0 1 T.a_Craft_waits T.d_Craft_waits ["self"] (sp_waits T.A_Craft T.A_Laying) := by
  have nd := sc_Craft_waits.nd
  refine T.F_Craft_waits.ok sc_Craft_waits (fun vs H Q E h => ?_) (fun cdv A0 outer s H vs Q E hr h => ?_)
  · obtain ⟨_, _, _, _, _, _, _, _, rfl, _⟩ := h
    rfl
  · obtain ⟨A, ps, room, z, ns, m, qv, gs, rfl, hC, fin⟩ := h
    refine ⟨_, (pss_one (ps_ret (pe_callTy (call_list_dT rfl) (by rfl) T.z_list (by decide +kernel) (pa_cons (pe_fld (pv 0) rfl) pa_nil)))), ?_⟩
    refine ⟨_, rfl, A.c, _, A.dx, _, _, rfl, hC.o, T.cl_Craft, T.n_Craft_asked, cf_asked, A.ak, _, rfl, Rd.of hC.ak, fun p bs hp hbs => ?_⟩
    exact fin p _ _ upd_same ((truek_td hbs).mono (TSm.of_same (same_new (Same.refl _) hp))) hp (same_new (Same.refl _) hp)
end
end K04

namespace K04
open PySem PySem.Spec PyProof.Rows L2 Sky
theorem set_same {α : Type} : ∀ {l : List α} {i : Nat} {x : α}, l[i]? = some x → l.set i x = l
  | [], _, _, h => by simp at h
  | y :: l, 0, x, h => by
    have e : y = x := Option.some.inj h
    rw [e]; rfl
  | y :: l, i + 1, x, h => by
    show y :: l.set i x = y :: l
    rw [set_same (by simpa using h)]
theorem nodup_set {l : List Addr} (nd : l.Nodup) {i : Nat} {x : Addr} (h : x ∉ l ∨ l[i]? = some x) : (l.set i x).Nodup := by
  rcases h with h | h
  · refine List.pairwise_iff_getElem.mpr fun j k hj hk hjk => ?_
    rw [List.length_set] at hj hk
    rw [List.getElem_set, List.getElem_set]
    have hjk2 := List.pairwise_iff_getElem.mp nd j k hj hk hjk
    split
    · split
      · omega
      · intro e; exact h (by rw [e]; exact List.getElem_mem hk)
    · split
      · intro e; exact h (by rw [← e]; exact List.getElem_mem hj)
      · exact hjk2
  · rw [set_same h]; exact nd
def tFrames (z : Nat) (n : List Int × List Nat) (t : List Int) : List Frm := (frms z (lay1 n t).1 (lay1 n t).2).drop (n.1.length / z)
def Cr.keeps (room : Nat) (m : Cr) (s : Nat) (fs : List Frm) : Cr := fs.foldl (fun m f => m.keep room (s, f)) m
theorem keeps_snoc (room : Nat) (m : Cr) (s : Nat) (fs : List Frm) (f : Frm) : m.keeps room s (fs ++ [f]) = (m.keeps room s fs).keep room (s, f) := by
  unfold Cr.keeps
  rw [List.foldl_append]
  rfl
theorem makeRoom_q {m : Cr} {x : Nat × Frm} (h : x ∈ m.makeRoom.q) : x ∈ m.q := by
  unfold Cr.makeRoom at h
  split at h
  · exact (List.mem_filter.mp h).1
  · split at h
    · exact (List.mem_filter.mp h).1
    · exact h
theorem keep_q {room : Nat} {m : Cr} {x y : Nat × Frm} (h : x ∈ (m.keep room y).q) : x ∈ m.q ∨ x = y := by
  unfold Cr.keep at h
  split at h
  · rcases List.mem_append.mp h with z | z
    · exact .inl (makeRoom_q z)
    · exact .inr (List.mem_singleton.mp z)
  · rcases List.mem_append.mp h with z | z
    · exact .inl z
    · exact .inr (List.mem_singleton.mp z)
theorem keep_gone (room : Nat) (m : Cr) (y : Nat × Frm) : (m.keep room y).gone.length ≤ m.gone.length + 1 := by
  unfold Cr.keep
  split
  · exact makeRoom_gone_le m
  · exact Nat.le_succ _
/-- what is kept was made -/
def Below (m : Cr) (z : Nat) (ns : List (List Int × List Nat)) : Prop := ∀ x ∈ m.q, ∃ n, ns[x.1]? = some n ∧ x.2.1 < n.1.length / z
theorem tFrames_at {z : Nat} {n : List Int × List Nat} {t : List Int} {i : Nat} {f : Frm} (h : (tFrames z n t)[i]? = some f) : f.1 = n.1.length / z + i ∧ f.1 < (lay1 n t).1.length / z := by
  unfold tFrames frms at h
  rw [List.getElem?_drop] at h
  obtain ⟨c, hc, rfl⟩ := map_get h
  have hl := (List.getElem?_eq_some_iff.mp hc).1
  rw [List.length_range] at hl
  rw [List.getElem?_range hl] at hc
  have e : n.1.length / z + i = c := Option.some.inj hc
  subst e
  exact ⟨rfl, hl⟩
theorem lay1_len (n : List Int × List Nat) (t : List Int) : (lay1 n t).1.length = n.1.length + (t.length + 3) := by
  show (n.1 ++ laidN _ t).length = _
  rw [List.length_append, laidN_length]
theorem div_more {z a b : Nat} (hz : 0 < z) : (a + b) / z ≤ a / z + b := by
  have h1 := div_hi hz a
  have h2 : b ≤ b * z := Nat.le_mul_of_pos_right b hz
  have h3 : (a + b) / z < a / z + b + 1 := by
    rw [Nat.div_lt_iff_lt_mul hz, Nat.add_mul, Nat.add_mul, Nat.one_mul]
    omega
  omega
theorem tFrames_len {z : Nat} {n : List Int × List Nat} {t : List Int} (hz : 0 < z) (ht : t.length ≤ 20) : (tFrames z n t).length ≤ 23 := by
  unfold tFrames
  rw [List.length_drop, frms_length, lay1_len]
  have := div_more (a := n.1.length) (b := t.length + 3) hz
  omega
theorem laid_grow {z : Nat} {n : List Int × List Nat} {t : List Int} : n.1.length / z ≤ (lay1 n t).1.length / z := by
  rw [lay1_len]
  exact Nat.div_le_div_right (by omega)
theorem CAt.relay {C CL : Addr} {H H' : Hp} {A : Ca} {ps : List (Addr × Addr × Addr)} {room z : Nat} {ns : List (List Int × List Nat)} {m : Cr} {qv : List KF} {gs : List V} (h : CAt C CL H A ps room z ns m qv gs) {s : Nat} {p : Addr × Addr × Addr} {n n' : List Int × List Nat} (hp : ps[s]? = some p) (hn : ns[s]? = some n) {l' : Addr}
    (k : Keep [p.1, p.2.2] H H') (hl : LAt CL H' p.1 p.2.1 l' ((s : Nat) : Int) z n'.1 n'.2) (laid : Laid n'.1 n'.2) (fresh : l' = p.2.2 ∨ H l' = none) : CAt C CL H' A (ps.set s (p.1, p.2.1, l')) room z (ns.set s n') m qv gs := by
  have hpm := List.mem_of_getElem? hp
  obtain ⟨⟨hi, hls⟩, _⟩ := h.lay s p n hp hn
  obtain ⟨pc1, pc2, pc3⟩ := h.pc p hpm
  have ts : TSm H H' := k.ts fun a ha => by
    rcases List.mem_cons.mp ha with e | e
    · rw [e]; exact NoT.ins hi
    · rw [List.mem_singleton.mp e]; exact NoT.lst hls
  have g : ∀ a o, H a = some o → a ≠ p.1 → a ≠ p.2.2 → H' a = some o := fun a o e n1 n2 => k a o (by simp [n1, n2]) e
  have e1 : (ps.set s (p.1, p.2.1, l')).map (fun p => p.1) = ps.map fun p => p.1 := by
    rw [List.map_set]
    exact set_same (by rw [List.getElem?_map, hp]; rfl)
  have e1r : (ps.set s (p.1, p.2.1, l')).map (fun p => V.ref p.1) = ps.map fun p => V.ref p.1 := by
    rw [List.map_set]
    exact set_same (by rw [List.getElem?_map, hp]; rfl)
  have hlen := (List.getElem?_eq_some_iff.mp hp).1
  have hlenn := (List.getElem?_eq_some_iff.mp hn).1
  refine ⟨g _ _ h.o pc1.symm (ne_of h.o hls (by intro e; cases e)), by rw [e1r]; exact g _ _ h.la (ne_of h.la hi (by intro e; cases e)) pc2.symm, by rw [List.length_set]; exact h.pl, by rw [List.length_set]; exact h.nl, fun i q r hq hr => ?_, g _ _ h.fr (ne_of h.fr hi (by intro e; cases e)) (ne_of h.fr hls (by intro e; cases e)), h.qe, fun x hx => (h.ft x hx).mono ts, g _ _ h.se (ne_of h.se hi (by intro e; cases e)) (ne_of h.se hls (by intro e; cases e)), g _ _ h.ak (ne_of h.ak hi (by intro e; cases e)) (ne_of h.ak hls (by intro e; cases e)), g _ _ h.go (ne_of h.go hi (by intro e; cases e)) pc3.symm, h.gt.mono ts, h.ok, h.r60, h.d1, h.d2, h.d3, h.d4, fun q hq => ?_, by rw [e1]; exact h.pd, ?_⟩
  · by_cases e : i = s
    · subst e
      rw [List.getElem?_set_self hlen] at hq
      rw [List.getElem?_set_self hlenn] at hr
      rw [← Option.some.inj hq, ← Option.some.inj hr]
      exact ⟨hl, laid⟩
    · rw [List.getElem?_set_ne (fun z => e z.symm)] at hq hr
      obtain ⟨⟨h1, h2⟩, h3⟩ := h.lay i q r hq hr
      have il := (List.getElem?_eq_some_iff.mp hq).1
      have n1 : q.1 ≠ p.1 := fun z => by
        have a1 : (ps.map (·.1))[i]? = some q.1 := by rw [List.getElem?_map, hq]; rfl
        have a2 : (ps.map (·.1))[s]? = some p.1 := by rw [List.getElem?_map, hp]; rfl
        exact e ((List.getElem?_inj (by rw [List.length_map]; exact il) h.pd).mp (by rw [a1, a2, z]))
      have n2 : q.2.2 ≠ p.2.2 := fun z => by
        have a1 : (ps.map (·.2.2))[i]? = some q.2.2 := by rw [List.getElem?_map, hq]; rfl
        have a2 : (ps.map (·.2.2))[s]? = some p.2.2 := by rw [List.getElem?_map, hp]; rfl
        exact e ((List.getElem?_inj (by rw [List.length_map]; exact il) h.ld).mp (by rw [a1, a2, z]))
      exact ⟨⟨g _ _ h1 n1 (ne_of h1 hls (by intro e; cases e)), g _ _ h2 (ne_of h2 hi (by intro e; cases e)) n2⟩, h3⟩
  · rcases List.mem_or_eq_of_mem_set hq with e | e
    · exact h.pc q e
    · rw [e]
      refine ⟨pc1, ?_, ?_⟩
      · rcases fresh with f | f
        · show l' ≠ _; rw [f]; exact pc2
        · exact (ne_of_none h.la f).symm
      · rcases fresh with f | f
        · show l' ≠ _; rw [f]; exact pc3
        · exact (ne_of_none h.go f).symm
  · rw [List.map_set]
    refine nodup_set h.ld ?_
    rcases fresh with f | f
    · right; show _ = some l'; rw [f, List.getElem?_map, hp]; rfl
    · left
      intro hm
      obtain ⟨q, hq, eq⟩ := List.mem_map.mp hm
      obtain ⟨_, _, _, _, _, q2⟩ := h.lays hq
      rw [show q.2.2 = l' from eq, f] at q2
      cases q2
theorem cM_set {A : Ca} {ps : List (Addr × Addr × Addr)} {s : Nat} {p : Addr × Addr × Addr} {l' x : Addr} (hp : ps[s]? = some p) (h : x ∈ cM A (ps.set s (p.1, p.2.1, l'))) : x ∈ cM A ps ∨ x = l' := by
  unfold cM at *
  rcases List.mem_append.mp h with h | h
  · rcases List.mem_append.mp h with h | h
    · exact .inl (List.mem_append_left _ (List.mem_append_left _ h))
    · obtain ⟨q, hq, rfl⟩ := List.mem_map.mp h
      rcases List.mem_or_eq_of_mem_set hq with e | e
      · exact .inl (List.mem_append_left _ (List.mem_append_right _ (List.mem_map.mpr ⟨q, e, rfl⟩)))
      · rw [e]
        exact .inl (List.mem_append_left _ (List.mem_append_right _ (List.mem_map.mpr ⟨p, List.mem_of_getElem? hp, rfl⟩)))
  · obtain ⟨q, hq, rfl⟩ := List.mem_map.mp h
    rcases List.mem_or_eq_of_mem_set hq with e | e
    · exact .inl (List.mem_append_right _ (List.mem_map.mpr ⟨q, e, rfl⟩))
    · rw [e]; exact .inr rfl
section
variable {P : Program} {w : World} {K : PySem.W.Frag} {mg : Str → Option Value} {base : Heap}
theorem cM4 {A : Ca} {ps : List (Addr × Addr × Addr)} : ∀ x ∈ [A.fr, A.se, A.ak, A.go], x ∈ cM A ps := by
  intro x hx
  unfold cM
  refine List.mem_append_left _ (List.mem_append_left _ ?_)
  simp only [List.mem_cons, List.not_mem_nil, or_false] at hx ⊢
  rcases hx with e | e | e | e <;> simp [e]
theorem cMp {A : Ca} {ps : List (Addr × Addr × Addr)} {p : Addr × Addr × Addr} (hp : p ∈ ps) : ∀ x ∈ [p.1, p.2.2], x ∈ cM A ps := by
  intro x hx
  unfold cM
  rcases List.mem_cons.mp hx with e | e
  · rw [e]; exact List.mem_append_left _ (List.mem_append_right _ (List.mem_map.mpr ⟨p, hp, rfl⟩))
  · rw [List.mem_singleton.mp e]; exact List.mem_append_right _ (List.mem_map.mpr ⟨p, hp, rfl⟩)
/-! ### tell -/
def sp_tell (C CL : Addr) : Sp := fun vs H Q _ => ∃ (A : Ca) (ps : List (Addr × Addr × Addr)) (room z : Nat) (ns : List (List Int × List Nat)) (m : Cr) (qv : List KF) (gs : List V) (s : Nat) (n : List Int × List Nat) (a : Addr) (t : List Int), vs = [.ref A.c, .int ((s : Nat) : Int), .ref a] ∧ CAt C CL H A ps room z ns m qv gs ∧ Below m z ns ∧
  ns[s]? = some n ∧ H a = some (.tup (t.map V.int)) ∧ tellOk t ∧ 8 ≤ z ∧ z ≤ 24 ∧ m.gone.length + 30 ≤ 1000000 ∧
  ∀ H' ps' qv' gs', CAt C CL H' A ps' room z (ns.set s (lay1 n t)) (m.keeps room s (tFrames z n t)) qv' gs' → Below (m.keeps room s (tFrames z n t)) z (ns.set s (lay1 n t)) → (m.keeps room s (tFrames z n t)).gone.length ≤ m.gone.length + 23 → (∀ x ∈ cM A ps', x ∈ cM A ps ∨ H x = none) → Keep (cM A ps) H H' → Dom H H' → Q (.int ((n.2.length : Nat) : Int)) H'
theorem ok_Craft_tell (T : Tx K mg) : FnOk P w K mg base CX0 5 T.a_Craft_tell T.d_Craft_tell ["self", "stream", "data"] (sp_tell T.A_Craft T.A_Laying) := by
  have nd := sc_Craft_tell.nd
  refine T.F_Craft_tell.ok sc_Craft_tell (fun vs H Q E h => ?_) (fun cdv A0 outer s0 H vs Q E hr h => ?_)
  · obtain ⟨_, _, _, _, _, _, _, _, _, _, _, _, rfl, _⟩ := h
    rfl
  · obtain ⟨A, ps, room, z, ns, m, qv, gs, s, n, a, t, rfl, hC, hB, hn, ha, ht, hz8, hz24, hgl, fin⟩ := h
    have hs4 : s < 4 := by
      have := (List.getElem?_eq_some_iff.mp hn).1
      rw [hC.nl] at this
      exact this
    obtain ⟨p, hp⟩ : ∃ p, ps[s]? = some p := ⟨_, List.getElem?_eq_getElem (by rw [hC.pl]; exact hs4)⟩
    have hpm := List.mem_of_getElem? hp
    refine ⟨_, (pss_cons (ps_expr (pe_call (ok_check_stream T) (hr.mono (by decide)) (by rfl) T.m_check_stream T.F_check_stream.kp T.b_check_stream .nil pass0 (pa_cons (pv 1) pa_nil))) (pss_cons (ps_expr (pe_call (ok_check_telling T) (hr.mono (by decide)) (by rfl) T.m_check_telling T.F_check_telling.kp T.b_check_telling .nil pass0 (pa_cons (pv 2) pa_nil))) (pss_cons (ps_set (i := 3) nd rfl (Or.inl rfl) (pe_ix ix_list (pe_fld (pv 0) rfl) (pv 1) (fun _ _ => rfl))) (pss_cons (ps_set (i := 4) nd rfl (Or.inl rfl) (pe_fld (pv 3) rfl)) (pss_cons (ps_for PassesOwn.never rfl (pi_list (pe_meth (pv 3) T.cl_Laying T.M_Laying_lay (ok_Laying_lay T) (hr.mono (by decide)) T.b_Laying_lay .nil pass0 (pa_cons (pv 2) pa_nil))) (pg_name (i := 5) nd rfl (Or.inl rfl)) (pss_one (ps_expr (pe_meth (pv 0) T.cl_Craft T.M_Craft_keep (ok_Craft_keep T) (hr.mono (by decide)) T.b_Craft_keep .nil pass0 (pa_cons (pv 5) pa_nil))))) (pss_one (ps_ret (pv 4)))))))), ?_⟩
    refine ⟨_, rfl, ((s : Nat) : Int), rfl, by omega, by omega, ?_⟩
    refine ⟨_, rfl, a, t, rfl, ha, ht, fun H1 s1 => ?_⟩
    have hC1 := hC.same s1
    have hpv : (ps.map fun p => V.ref p.1)[s]? = some (.ref p.1) := by rw [List.getElem?_map, hp]; rfl
    refine ⟨_, rfl, A.c, _, A.dx, _, _, rfl, hC1.o, T.cl_Craft, T.n_Craft_layings, cf_layings, _, rfl, A.la, _, ((s : Nat) : Int), _, rfl, rfl, SqL.of hC1.la, atI_nat hpv, ?_⟩
    obtain ⟨⟨hi, hls⟩, laid⟩ := hC1.lay s p n hp hn
    refine ⟨_, rfl, p.1, _, p.2.1, _, _, rfl, hi, T.cl_Laying, T.n_Laying_many, lf_many, ?_⟩
    refine ⟨_, rfl, p.1, p.2.1, _, rfl, hi, lf_no (by decide), _, rfl, p.1, p.2.1, p.2.2, a, ((s : Nat) : Int), z, n.1, n.2, t, rfl, ⟨hi, hls⟩, by omega, by omega, laid, s1 _ _ ha, by have := ht.2.1; omega, fun r us H2 l' hr2 tu hL2 fr2 nr k2 d2 => ?_⟩
    have hC2 := hC1.relay hp hn k2 hL2 (laid.lay1 t) fr2
    have k02 : Keep (cM A ps) H H2 := (Keep.of_same s1).trans (k2.mono (cMp hpm))
    have d02 : Dom H H2 := (Dom.of_same s1).trans d2
    have hcM : ∀ x ∈ cM A (ps.set s (p.1, p.2.1, l')), x ∈ cM A ps ∨ H x = none := fun x hx => by
      rcases cM_set hp hx with e | e
      · exact .inl e
      · rw [e]
        rcases fr2 with f | f
        · rw [f]; exact .inl (cMp hpm _ (by simp))
        · exact .inr (s1.free f)
    have nfr : A.fr ≠ r := ne_of_none hC1.fr nr
    have nse : A.se ≠ r := ne_of_none hC1.se nr
    have nak : A.ak ≠ r := ne_of_none hC1.ak nr
    have ngo : A.go ≠ r := ne_of_none hC1.go nr
    change TDs H2 us ((tFrames z n t).map (frmD ((s : Nat) : Int))) at tu
    change CAt T.A_Craft T.A_Laying H2 A (ps.set s (p.1, p.2.1, l')) room z (ns.set s (lay1 n t)) m qv gs at hC2
    have hfl := tFrames_len (n := n) (t := t) (show 0 < z by omega) ht.2.1
    have hul : us.length = (tFrames z n t).length := by rw [tu.length, List.length_map]
    have hFs : ∀ i f, (tFrames z n t)[i]? = some f → f.1 = n.1.length / z + i ∧ f.1 < (lay1 n t).1.length / z := fun i f h => tFrames_at h
    have hgrow := laid_grow (z := z) (n := n) (t := t)
    generalize tFrames z n t = fs at *
    generalize ps.set s (p.1, p.2.1, l') = ps2 at *
    refine ⟨r, rfl, ⟨_, SqL.of hr2⟩, ?_⟩
    refine for_list (K := K) (a := r) (xs := us) (fun i σ H' => ∃ (v5 : Option V) (qv' : List KF) (gs' : List V), σ = [some (.ref A.c), some (.int ((s : Nat) : Int)), some (.ref a), some (.ref p.1), some (.int ((n.2.length : Nat) : Int)), v5] ∧ CAt T.A_Craft T.A_Laying H' A ps2 room z (ns.set s (lay1 n t)) (m.keeps room s (fs.take i)) qv' gs' ∧
      (∀ x ∈ (m.keeps room s (fs.take i)).q, x ∈ m.q ∨ (x.1 = s ∧ x.2.1 < n.1.length / z + i ∧ x.2.1 < (lay1 n t).1.length / z)) ∧ (m.keeps room s (fs.take i)).gone.length ≤ m.gone.length + i ∧ Keep [A.fr, A.se, A.ak, A.go] H2 H' ∧ Dom H2 H') ⟨_, qv, gs, rfl, hC2, fun x hx => .inl hx, Nat.le_refl _, Keep.refl _ _, Dom.refl _⟩ (fun i σ H' _ ⟨_, _, _, _, _, _, _, k, _⟩ => SqL.of (k _ _ (by simp [nfr.symm, nse.symm, nak.symm, ngo.symm]) hr2)) ?_ ?_
    · rintro i y σ H3 hy ⟨v5, qv3, gs3, rfl, hC3, hin, hg3, k3, d3⟩
      obtain ⟨d, hd, td⟩ := tu.get hy
      obtain ⟨f, hf, rfl⟩ := map_get hd
      obtain ⟨f1, f2⟩ := hFs i f hf
      have hil := (List.getElem?_eq_some_iff.mp hf).1
      have esn : fs.take (i + 1) = fs.take i ++ [f] := by rw [List.take_add_one, hf]; rfl
      rw [esn, keeps_snoc]
      generalize m.keeps room s (fs.take i) = mi at *
      have hnew : mkOf (s, f) ∉ mi.marks := by
        intro hm
        obtain ⟨x, hx, ex⟩ := List.mem_map.mp hm
        have e1 : x.1 = s := congrArg Prod.fst ex
        have e2 : x.2.1 = f.1 := congrArg Prod.snd ex
        rcases hin x hx with z1 | z1
        · obtain ⟨n2, h1, h2⟩ := hB x z1
          rw [e1, hn] at h1
          rw [← Option.some.inj h1] at h2
          omega
        · omega
      refine ⟨_, rfl, A.c, A.dx, _, rfl, hC3.o, cf_no (by decide), _, rfl, A, ps2, room, z, ns.set s (lay1 n t), mi, qv3, gs3, y, (s, f), rfl, hC3, td.mono (k3.ts hC2.noT4), hnew, by omega, fun H4 qv4 gs4 hC4 k4 d4 => ?_⟩
      refine ⟨_, qv4, gs4, rfl, hC4, fun x hx => ?_, ?_, k3.trans k4, d3.trans d4⟩
      · rcases keep_q hx with e | e
        · rcases hin x e with z1 | z1
          · exact .inl z1
          · exact .inr ⟨z1.1, by omega, z1.2.2⟩
        · right
          rw [e]
          exact ⟨rfl, by show f.1 < _; omega, f2⟩
      · have := keep_gone room mi (s, f)
        omega
    · rintro σ H3 ⟨v5, qv3, gs3, rfl, hC3, hin, hg3, k3, d3⟩
      rw [hul, List.take_length] at hC3 hin hg3
      refine ⟨_, rfl, fin H3 ps2 qv3 gs3 hC3 (fun x hx => ?_) (by omega) hcM (k02.trans (k3.mono cM4)) (d02.trans d3)⟩
      have hlenn := (List.getElem?_eq_some_iff.mp hn).1
      rcases hin x hx with e | e
      · obtain ⟨n2, h1, h2⟩ := hB x e
        by_cases c : x.1 = s
        · rw [c, hn] at h1
          rw [← Option.some.inj h1] at h2
          exact ⟨lay1 n t, by rw [c]; exact List.getElem?_set_self hlenn, by omega⟩
        · exact ⟨n2, by rw [List.getElem?_set_ne (fun z => c z.symm)]; exact h1, h2⟩
      · exact ⟨lay1 n t, by rw [e.1]; exact List.getElem?_set_self hlenn, e.2.2⟩
end
end K04

namespace K04
open PySem PySem.Spec PyProof.Rows L2 Sky
section
variable {P : Program} {w : World} {K : PySem.W.Frag} {mg : Str → Option Value} {base : Heap}
/-! ### __init__ -/
def sp_cinit (C CL : Addr) : Sp := fun vs H Q _ => ∃ (c dx : Addr) (z room : Nat), vs = [.ref c, .int (z : Nat), .int (room : Nat)] ∧ H c = some (.ins C dx []) ∧ 8 ≤ z ∧ z ≤ 24 ∧ 1 ≤ room ∧ room ≤ 60 ∧
  ∀ (A : Ca) ps H', A.c = c → CAt C CL H' A ps room z (List.replicate 4 ([], [])) Cr.new [] [] → (∀ x ∈ cM A ps, x = c ∨ H x = none) → Keep [c] H H' → Dom H H' → Q .non H'
theorem ok_Craft_init (T : Tx K mg) : FnOk P w K mg base CX0 3 T.a_Craft_init T.d_Craft_init ["self", "size", "room"] (sp_cinit T.A_Craft T.A_Laying) := by
  have nd := sc_Craft_init.nd
  refine T.F_Craft_init.ok sc_Craft_init (fun vs H Q E h => ?_) (fun cdv A0 outer s0 H vs Q E hr h => ?_)
  · obtain ⟨_, _, _, _, rfl, _⟩ := h
    rfl
  · obtain ⟨c, dx, z, room, rfl, hc, hz8, hz24, hr1, hr60, fin⟩ := h
    refine ⟨_, (pss_cons (ps_expr (pe_call (ok_check_size T) (hr.mono (by decide)) (by rfl) T.m_check_size T.F_check_size.kp T.b_check_size .nil pass0 (pa_cons (pv 1) pa_nil))) (pss_cons (ps_expr (pe_call (ok_check_room T) (hr.mono (by decide)) (by rfl) T.m_check_room T.F_check_room.kp T.b_check_room .nil pass0 (pa_cons (pv 2) pa_nil))) (pss_cons (ps_fld (pv 0) (pv 2) rfl) (pss_cons (ps_fld (pv 0) (pe_lc (own := [("stream", 3)]) rfl nd (pi_range1 rfl T.z_range (pa_cons (pe_glob (v := .int 4) (by rfl) T.c_STREAMS ⟨_, rfl⟩) pa_nil)) (blkOk_by (own := [("stream", 3)]) (N := N_Craft_init) (sc := defScope s_Craft_init) (by decide +kernel)) (fun _ _ _ _ _ => (pg_name (i := 3) nd rfl (Or.inl rfl))) (fun _ _ _ _ _ => pts_nil) (fun _ _ _ _ _ => (pe_make T.mk_Laying (ok_Laying_init T) (hr.mono (by decide)) (by rfl) T.m_Laying T.b_Laying_init .nil pass0 (pa_cons (pv 3) (pa_cons (pv 1) pa_nil))))) rfl) (pss_cons (ps_fld (pv 0) pe_bl rfl) (pss_cons (ps_fld (pv 0) pe_dnewT rfl) (pss_cons (ps_fld (pv 0) pe_dnewT rfl) (pss_cons (ps_fld (pv 0) pe_dnewT rfl) (pss_one (ps_fld (pv 0) (pe_lst pa_nil) rfl)))))))))), ?_⟩
    refine ⟨_, rfl, ((z : Nat) : Int), rfl, by omega, by omega, ?_⟩
    refine ⟨_, rfl, room, rfl, hr1, hr60, ?_⟩
    refine ⟨_, rfl, _, rfl, c, _, dx, _, rfl, hc, T.cl_Craft, T.n_Craft_room, (by decide), ?_⟩
    rw [show putF "_room" (V.int ((room : Nat) : Int)) [] = (CF.take 1).zip [.int ((room : Nat) : Int)] from rfl]
    have k1 : Keep [c] H (upd H c (.ins T.A_Craft dx ((CF.take 1).zip [.int ((room : Nat) : Int)]))) := keep_upd (Keep.refl _ _) (by simp)
    have d1 : Dom H (upd H c (.ins T.A_Craft dx ((CF.take 1).zip [.int ((room : Nat) : Int)]))) := dom_upd _ _ _
    have hc1 : upd H c (.ins T.A_Craft dx ((CF.take 1).zip [.int ((room : Nat) : Int)])) c = some (.ins T.A_Craft dx ((CF.take 1).zip [.int ((room : Nat) : Int)])) := upd_same
    generalize upd H c (.ins T.A_Craft dx ((CF.take 1).zip [.int ((room : Nat) : Int)])) = H1 at *
    -- the layings
    refine ⟨4, rfl, by decide, by decide, fun D hD => ?_⟩
    have ncD : c ≠ D := ne_of_none hc1 hD
    refine lc_range (lo := 0) (n := 4) (fun i H' => ∃ ps : List (Addr × Addr × Addr), H' D = some (.lst (ps.map fun p => V.ref p.1)) ∧ ps.length = i ∧ (∀ (j : Nat) p, ps[j]? = some p → LAt T.A_Laying H' p.1 p.2.1 p.2.2 ((j : Nat) : Int) z [] [] ∧ H1 p.1 = none ∧ H1 p.2.2 = none ∧ p.2.2 ≠ D) ∧ (ps.map (·.1)).Nodup ∧ (ps.map (·.2.2)).Nodup ∧ Same H1 H') ⟨[], upd_same, rfl, by simp, by simp, by simp, same_new (Same.refl _) hD⟩ ?_ ?_
    · rintro i H2 hi ⟨ps, hL, hl, hall, n1, n2, s2⟩
      refine ⟨rfl, _, rfl, _, rfl, fun x dx2 hx hdx nxd => ?_⟩
      have hx1 : H1 x = none := s2.free hx
      have s3 : Same H2 (upd (upd H2 dx2 (.own x)) x (.ins T.A_Laying dx2 [])) := same_mut (same_new (Same.refl _) hdx) hx
      refine ⟨x, dx2, _, ((z : Nat) : Int), rfl, upd_same, fun H4 l hp4 hl4 nl4 k4 => ⟨rfl, ?_⟩⟩
      have nDx : D ≠ x := ne_of_none hL hx
      have hL3 := s3 _ _ hL
      have hx3 : upd (upd H2 dx2 (.own x)) x (.ins T.A_Laying dx2 []) x = some (.ins T.A_Laying dx2 []) := upd_same
      generalize upd (upd H2 dx2 (.own x)) x (.ins T.A_Laying dx2 []) = H3 at *
      have hl2 : H2 l = none := s3.free nl4
      have s4 : Same H2 H4 := k4.same s3 (by intro m hm; rw [List.mem_singleton.mp hm]; exact hx)
      have hL4 := s4 _ _ hL
      have nDl : D ≠ l := ne_of_none hL3 nl4
      have nxl : x ≠ l := ne_of_none hx3 nl4
      simp only [Int.zero_add] at hp4
      refine ⟨_, hL4, lt_line (by rw [List.length_map]; omega), ps ++ [(x, dx2, l)], by rw [upd_same, List.map_append]; rfl, by rw [List.length_append, hl]; rfl, fun j p hj => ?_, ?_, ?_, same_mut (s2.trans s4) hD⟩
      · by_cases hj2 : j < i
        · rw [List.getElem?_append_left (by omega)] at hj
          obtain ⟨⟨h1, h2⟩, h3, h4, h5⟩ := hall j p hj
          have e1 := s4 _ _ h1
          have e2 := s4 _ _ h2
          exact ⟨⟨by rw [upd_ne (ne_of e1 hL4 (by intro e; cases e))]; exact e1, by rw [upd_ne h5]; exact e2⟩, h3, h4, h5⟩
        · have hjl := (List.getElem?_eq_some_iff.mp hj).1
          rw [List.length_append, List.length_singleton] at hjl
          have ej : j = i := by omega
          subst ej
          rw [List.getElem?_append_right (by omega), hl, Nat.sub_self] at hj
          rw [← Option.some.inj hj]
          refine ⟨⟨?_, ?_⟩, hx1, s2.free hl2, nDl.symm⟩
          · show upd H4 D _ x = _
            rw [upd_ne nDx.symm, hp4]
            show _ = some (HO.ins T.A_Laying dx2 (lf (((0 : Nat) : Nat) : Int) ((j : Nat) : Int) ((z : Nat) : Int) (((0 / z : Nat) : Nat) : Int) (firstOf z (0 / z) []) l))
            rw [Nat.zero_div]
            rfl
          · show upd H4 D _ l = _
            rw [upd_ne nDl.symm, hl4, List.drop_nil]
            rfl
      · rw [List.map_append, List.nodup_append]
        refine ⟨n1, by simp, fun a ha b hb => ?_⟩
        rw [List.mem_singleton.mp hb]
        obtain ⟨q, hq, rfl⟩ := List.mem_map.mp ha
        obtain ⟨j, hj⟩ := List.getElem?_of_mem hq
        exact ne_of_none (hall j q hj).1.1 hx
      · rw [List.map_append, List.nodup_append]
        refine ⟨n2, by simp, fun a ha b hb => ?_⟩
        rw [List.mem_singleton.mp hb]
        obtain ⟨q, hq, rfl⟩ := List.mem_map.mp ha
        obtain ⟨j, hj⟩ := List.getElem?_of_mem hq
        exact ne_of_none (hall j q hj).1.2 hl2
    · rintro H2 ⟨ps, hL, hl, hall, n1, n2, s2⟩
      have hc2 := s2 _ _ hc1
      refine ⟨_, rfl, c, _, dx, _, rfl, hc2, T.cl_Craft, T.n_Craft_layings, (Nat.lt_of_le_of_lt (zip_len _ _) (by decide)), ?_⟩
      rw [putF_take (i := 1) CF_nd rfl rfl]
      refine ⟨_, rfl, c, _, dx, _, rfl, upd_same, T.cl_Craft, T.n_Craft_window, (Nat.lt_of_le_of_lt (zip_len _ _) (by decide)), ?_⟩
      rw [upd_upd, putF_take (i := 2) CF_nd rfl rfl]
      have hc3 : upd H2 c (.ins T.A_Craft dx ((CF.take (2 + 1)).zip ([.int ((room : Nat) : Int)] ++ [.ref D] ++ [.bl false]))) c = some (.ins T.A_Craft dx ((CF.take (2 + 1)).zip ([.int ((room : Nat) : Int)] ++ [.ref D] ++ [.bl false]))) := upd_same
      have k3 : Keep [c] H2 (upd H2 c (.ins T.A_Craft dx ((CF.take (2 + 1)).zip ([.int ((room : Nat) : Int)] ++ [.ref D] ++ [.bl false])))) := keep_upd (Keep.refl _ _) (by simp)
      have d3 : Dom H2 (upd H2 c (.ins T.A_Craft dx ((CF.take (2 + 1)).zip ([.int ((room : Nat) : Int)] ++ [.ref D] ++ [.bl false])))) := dom_upd _ _ _
      generalize upd H2 c (.ins T.A_Craft dx ((CF.take (2 + 1)).zip ([.int ((room : Nat) : Int)] ++ [.ref D] ++ [.bl false]))) = H3 at *
      -- the dicts
      have hDc : D ≠ c := ncD.symm
      have hL3 := k3 _ _ (by simp [hDc]) hL
      have hall3 : ∀ (j : Nat) p, ps[j]? = some p → LAt T.A_Laying H3 p.1 p.2.1 p.2.2 ((j : Nat) : Int) z [] [] ∧ p.1 ≠ c ∧ p.2.2 ≠ c := fun j p hj => by
        obtain ⟨⟨h1, h2⟩, h3, h4, h5⟩ := hall j p hj
        have e1 : p.1 ≠ c := fun z => by rw [z, hc1] at h3; cases h3
        have e2 : p.2.2 ≠ c := ne_of h2 hc2 (by intro e; cases e)
        exact ⟨⟨k3 _ _ (by simp [e1]) h1, k3 _ _ (by simp [e2]) h2⟩, e1, e2⟩
      clear hL
      intro fr hfr
      have ncf : c ≠ fr := ne_of_none hc3 hfr
      refine ⟨_, rfl, c, _, dx, _, rfl, (by rw [upd_ne ncf]; exact hc3), T.cl_Craft, T.n_Craft_frames, (Nat.lt_of_le_of_lt (zip_len _ _) (by decide)), ?_⟩
      rw [putF_take (i := 3) CF_nd rfl rfl]
      generalize hv3 : ([V.int ((room : Nat) : Int)] ++ [V.ref D] ++ [V.bl false] : List V) = v3 at *
      have lv3 : v3.length = 3 := by rw [← hv3]; rfl
      have kf : Keep [c] H3 (upd (upd H3 fr (.dT [])) c (.ins T.A_Craft dx ((CF.take (3 + 1)).zip (v3 ++ [.ref fr])))) := keep_upd (keep_new' (Keep.refl _ _) hfr) (by simp)
      have df : Dom H3 (upd (upd H3 fr (.dT [])) c (.ins T.A_Craft dx ((CF.take (3 + 1)).zip (v3 ++ [.ref fr])))) := ((Dom.refl _).upd _ _).upd _ _
      have hf4 : upd (upd H3 fr (.dT [])) c (.ins T.A_Craft dx ((CF.take (3 + 1)).zip (v3 ++ [.ref fr]))) fr = some (.dT []) := by rw [upd_ne ncf.symm]; exact upd_same
      have hc4 : upd (upd H3 fr (.dT [])) c (.ins T.A_Craft dx ((CF.take (3 + 1)).zip (v3 ++ [.ref fr]))) c = some (.ins T.A_Craft dx ((CF.take (3 + 1)).zip (v3 ++ [.ref fr]))) := upd_same
      generalize upd (upd H3 fr (.dT [])) c (.ins T.A_Craft dx ((CF.take (3 + 1)).zip (v3 ++ [.ref fr]))) = H4 at *
      intro se hse
      have nce : c ≠ se := ne_of_none hc4 hse
      have nfe : fr ≠ se := ne_of_none hf4 hse
      refine ⟨_, rfl, c, _, dx, _, rfl, (by rw [upd_ne nce]; exact hc4), T.cl_Craft, T.n_Craft_sent, (Nat.lt_of_le_of_lt (zip_len _ _) (by decide)), ?_⟩
      rw [putF_take (i := 4) CF_nd rfl (by rw [List.length_append, lv3]; rfl)]
      have ke : Keep [c] H4 (upd (upd H4 se (.dT [])) c (.ins T.A_Craft dx ((CF.take (4 + 1)).zip (v3 ++ [.ref fr] ++ [.ref se])))) := keep_upd (keep_new' (Keep.refl _ _) hse) (by simp)
      have de : Dom H4 (upd (upd H4 se (.dT [])) c (.ins T.A_Craft dx ((CF.take (4 + 1)).zip (v3 ++ [.ref fr] ++ [.ref se])))) := ((Dom.refl _).upd _ _).upd _ _
      have he5 : upd (upd H4 se (.dT [])) c (.ins T.A_Craft dx ((CF.take (4 + 1)).zip (v3 ++ [.ref fr] ++ [.ref se]))) se = some (.dT []) := by rw [upd_ne nce.symm]; exact upd_same
      have hc5 : upd (upd H4 se (.dT [])) c (.ins T.A_Craft dx ((CF.take (4 + 1)).zip (v3 ++ [.ref fr] ++ [.ref se]))) c = some (.ins T.A_Craft dx ((CF.take (4 + 1)).zip (v3 ++ [.ref fr] ++ [.ref se]))) := upd_same
      generalize upd (upd H4 se (.dT [])) c (.ins T.A_Craft dx ((CF.take (4 + 1)).zip (v3 ++ [.ref fr] ++ [.ref se]))) = H5 at *
      have hf5 := ke _ _ (by simp [ncf.symm]) hf4
      intro ak hak
      have nca : c ≠ ak := ne_of_none hc5 hak
      have nfa : fr ≠ ak := ne_of_none hf5 hak
      have nea : se ≠ ak := ne_of_none he5 hak
      refine ⟨_, rfl, c, _, dx, _, rfl, (by rw [upd_ne nca]; exact hc5), T.cl_Craft, T.n_Craft_asked, (Nat.lt_of_le_of_lt (zip_len _ _) (by decide)), ?_⟩
      rw [putF_take (i := 5) CF_nd rfl (by rw [List.length_append, List.length_append, lv3]; rfl)]
      have ka : Keep [c] H5 (upd (upd H5 ak (.dT [])) c (.ins T.A_Craft dx ((CF.take (5 + 1)).zip (v3 ++ [.ref fr] ++ [.ref se] ++ [.ref ak])))) := keep_upd (keep_new' (Keep.refl _ _) hak) (by simp)
      have da : Dom H5 (upd (upd H5 ak (.dT [])) c (.ins T.A_Craft dx ((CF.take (5 + 1)).zip (v3 ++ [.ref fr] ++ [.ref se] ++ [.ref ak])))) := ((Dom.refl _).upd _ _).upd _ _
      have ha6 : upd (upd H5 ak (.dT [])) c (.ins T.A_Craft dx ((CF.take (5 + 1)).zip (v3 ++ [.ref fr] ++ [.ref se] ++ [.ref ak]))) ak = some (.dT []) := by rw [upd_ne nca.symm]; exact upd_same
      have hc6 : upd (upd H5 ak (.dT [])) c (.ins T.A_Craft dx ((CF.take (5 + 1)).zip (v3 ++ [.ref fr] ++ [.ref se] ++ [.ref ak]))) c = some (.ins T.A_Craft dx ((CF.take (5 + 1)).zip (v3 ++ [.ref fr] ++ [.ref se] ++ [.ref ak]))) := upd_same
      generalize upd (upd H5 ak (.dT [])) c (.ins T.A_Craft dx ((CF.take (5 + 1)).zip (v3 ++ [.ref fr] ++ [.ref se] ++ [.ref ak]))) = H6 at *
      have hf6 := ka _ _ (by simp [ncf.symm]) hf5
      have he6 := ka _ _ (by simp [nce.symm]) he5
      refine ⟨Nat.zero_le _, fun go hgo => ?_⟩
      have ncg : c ≠ go := ne_of_none hc6 hgo
      refine ⟨_, rfl, c, _, dx, _, rfl, (by rw [upd_ne ncg]; exact hc6), T.cl_Craft, T.n_Craft_gone, (Nat.lt_of_le_of_lt (zip_len _ _) (by decide)), ?_⟩
      rw [putF_take (i := 6) CF_nd rfl (by rw [List.length_append, List.length_append, List.length_append, lv3]; rfl)]
      have kg : Keep [c] H6 (upd (upd H6 go (.lst [])) c (.ins T.A_Craft dx ((CF.take (6 + 1)).zip (v3 ++ [.ref fr] ++ [.ref se] ++ [.ref ak] ++ [.ref go])))) := keep_upd (keep_new' (Keep.refl _ _) hgo) (by simp)
      have dg : Dom H6 (upd (upd H6 go (.lst [])) c (.ins T.A_Craft dx ((CF.take (6 + 1)).zip (v3 ++ [.ref fr] ++ [.ref se] ++ [.ref ak] ++ [.ref go])))) := ((Dom.refl _).upd _ _).upd _ _
      have hg7 : upd (upd H6 go (.lst [])) c (.ins T.A_Craft dx ((CF.take (6 + 1)).zip (v3 ++ [.ref fr] ++ [.ref se] ++ [.ref ak] ++ [.ref go]))) go = some (.lst []) := by rw [upd_ne ncg.symm]; exact upd_same
      have hc7 : upd (upd H6 go (.lst [])) c (.ins T.A_Craft dx ((CF.take (6 + 1)).zip (v3 ++ [.ref fr] ++ [.ref se] ++ [.ref ak] ++ [.ref go]))) c = some (.ins T.A_Craft dx ((CF.take (6 + 1)).zip (v3 ++ [.ref fr] ++ [.ref se] ++ [.ref ak] ++ [.ref go]))) := upd_same
      generalize upd (upd H6 go (.lst [])) c (.ins T.A_Craft dx ((CF.take (6 + 1)).zip (v3 ++ [.ref fr] ++ [.ref se] ++ [.ref ak] ++ [.ref go]))) = H7 at *
      have hf7 := kg _ _ (by simp [ncf.symm]) hf6
      have he7 := kg _ _ (by simp [nce.symm]) he6
      have ha7 := kg _ _ (by simp [nca.symm]) ha6
      have k37 : Keep [c] H3 H7 := ((kf.trans ke).trans ka).trans kg
      have d37 : Dom H3 H7 := ((df.trans de).trans da).trans dg
      have hL7 := k37 _ _ (by simp [hDc]) hL3
      have k07 : Keep [c] H H7 := ((k1.trans (Keep.of_same s2)).trans k3).trans k37
      have d03 : Dom H H3 := (d1.trans (Dom.of_same s2)).trans d3
      have hgo6 : H3 go = none := ((df.trans de).trans da) _ hgo
      have ngD : D ≠ go := ne_of_none hL3 hgo6
      refine fin ⟨c, dx, D, fr, se, ak, go⟩ ps H7 rfl ⟨by rw [hc7, ← hv3]; rfl, hL7, hl, rfl, fun i p n hp hn => ?_, hf7, rfl, by simp, he7, ha7, hg7, .nil, Cr.Ok.new room, ⟨hr1, hr60⟩, nfe, nfa, nea, ngD, fun p hp => ?_, n1, n2⟩ (fun x hx => ?_) k07 (d03.trans d37)
      · obtain ⟨⟨h1, h2⟩, h3, h4⟩ := hall3 i p hp
        have hi4 : i < 4 := by
          have := (List.getElem?_eq_some_iff.mp hn).1
          rw [List.length_replicate] at this
          exact this
        rw [List.getElem?_replicate, if_pos hi4] at hn
        rw [← Option.some.inj hn]
        exact ⟨⟨k37 _ _ (by simp [h3]) h1, k37 _ _ (by simp [h4]) h2⟩, Laid.nil⟩
      · obtain ⟨j, hj⟩ := List.getElem?_of_mem hp
        obtain ⟨⟨h1, h2⟩, h3, h4⟩ := hall3 j p hj
        exact ⟨h3, (hall j p hj).2.2.2, ne_of_none h2 hgo6⟩
      · unfold cM at hx
        rcases List.mem_append.mp hx with hx | hx
        · rcases List.mem_append.mp hx with hx | hx
          · simp only [List.mem_cons, List.not_mem_nil, or_false] at hx
            rcases hx with e | e | e | e | e | e
            · exact .inl e
            · rw [e]; exact .inr (d1 _ hD)
            · rw [e]; exact .inr (d03 _ hfr)
            · rw [e]; exact .inr (d03 _ (df _ hse))
            · rw [e]; exact .inr (d03 _ ((df.trans de) _ hak))
            · rw [e]; exact .inr (d03 _ hgo6)
          · obtain ⟨p, hp, rfl⟩ := List.mem_map.mp hx
            obtain ⟨j, hj⟩ := List.getElem?_of_mem hp
            exact .inr (d1 _ (hall j p hj).2.1)
        · obtain ⟨p, hp, rfl⟩ := List.mem_map.mp hx
          obtain ⟨j, hj⟩ := List.getElem?_of_mem hp
          exact .inr (d1 _ (hall j p hj).2.2.1)
end
end K04

namespace K04
open PySem PySem.Spec PyProof.Rows L2 Sky
/-- the frame that is filled up -/
def clFrame (z : Nat) (n : List Int × List Nat) : Frm := (n.1.length / z, firstOf z (n.1.length / z) n.2, n.1.drop (n.1.length / z * z) ++ List.replicate (z - n.1.length % z) 0)
theorem laid_pad {z : Nat} {N : List Int} {S : List Nat} (h : Laid N S) : Laid (padN z N) S := by
  unfold padN
  split
  · exact h
  · exact h.more _
theorem pad_len {z : Nat} {N : List Int} (hz : 0 < z) (h : N.length % z ≠ 0) : (padN z N).length = (N.length / z + 1) * z := by
  have h1 := div_mod z N.length
  have h2 := Nat.mod_lt N.length hz
  unfold padN
  rw [if_neg h, List.length_append, List.length_replicate, Nat.add_mul, Nat.one_mul]
  omega
theorem pad_div {z : Nat} {N : List Int} (hz : 0 < z) (h : N.length % z ≠ 0) : (padN z N).length / z = N.length / z + 1 := by
  rw [pad_len hz h, Nat.mul_div_cancel _ hz]
section
variable {P : Program} {w : World} {K : PySem.W.Frag} {mg : Str → Option Value} {base : Heap}
def sp_close (C CL : Addr) : Sp := fun vs H Q _ => ∃ (A : Ca) (ps : List (Addr × Addr × Addr)) (room z : Nat) (ns : List (List Int × List Nat)) (m : Cr) (qv : List KF) (gs : List V) (s : Nat) (n : List Int × List Nat), vs = [.ref A.c, .int ((s : Nat) : Int)] ∧ CAt C CL H A ps room z ns m qv gs ∧ Below m z ns ∧
  ns[s]? = some n ∧ 8 ≤ z ∧ z ≤ 24 ∧ m.gone.length ≤ 1000000 ∧
  (n.1.length % z = 0 → ∀ H', Same H H' → Q (.bl false) H') ∧
  (n.1.length % z ≠ 0 → ∀ H' ps' qv' gs', CAt C CL H' A ps' room z (ns.set s (padN z n.1, n.2)) (m.keep room (s, clFrame z n)) qv' gs' → Below (m.keep room (s, clFrame z n)) z (ns.set s (padN z n.1, n.2)) → (∀ x ∈ cM A ps', x ∈ cM A ps ∨ H x = none) → Keep (cM A ps) H H' → Dom H H' → Q (.bl true) H')
theorem ok_Craft_close (T : Tx K mg) : FnOk P w K mg base CX0 4 T.a_Craft_close T.d_Craft_close ["self", "stream"] (sp_close T.A_Craft T.A_Laying) := by
  have nd := sc_Craft_close.nd
  refine T.F_Craft_close.ok sc_Craft_close (fun vs H Q E h => ?_) (fun cdv A0 outer s0 H vs Q E hr h => ?_)
  · obtain ⟨_, _, _, _, _, _, _, _, _, _, rfl, _⟩ := h
    rfl
  · obtain ⟨A, ps, room, z, ns, m, qv, gs, s, n, rfl, hC, hB, hn, hz8, hz24, hgl, no, yes⟩ := h
    have hs4 : s < 4 := by
      have := (List.getElem?_eq_some_iff.mp hn).1
      rw [hC.nl] at this
      exact this
    obtain ⟨p, hp⟩ : ∃ p, ps[s]? = some p := ⟨_, List.getElem?_eq_getElem (by rw [hC.pl]; exact hs4)⟩
    have hpm := List.mem_of_getElem? hp
    refine ⟨_, (pss_cons (ps_expr (pe_call (ok_check_stream T) (hr.mono (by decide)) (by rfl) T.m_check_stream T.F_check_stream.kp T.b_check_stream .nil pass0 (pa_cons (pv 1) pa_nil))) (pss_cons (ps_set (i := 2) nd rfl (Or.inl rfl) (pe_meth0 (pe_ix ix_list (pe_fld (pv 0) rfl) (pv 1) (fun _ _ => rfl)) T.cl_Laying T.M_Laying_fill (ok_Laying_fill T) (hr.mono (by decide)) T.b_Laying_fill .nil pass0)) (pss_cons (ps_if (pt_cmpR op_isN (pv 2) pe_non (nomark _)) (pss_one (ps_ret pe_bl)) pss_nil) (pss_cons (ps_expr (pe_meth (pv 0) T.cl_Craft T.M_Craft_keep (ok_Craft_keep T) (hr.mono (by decide)) T.b_Craft_keep .nil pass0 (pa_cons (pv 2) pa_nil))) (pss_one (ps_ret pe_bl)))))), ?_⟩
    refine ⟨_, rfl, ((s : Nat) : Int), rfl, by omega, by omega, ?_⟩
    have hpv : (ps.map fun p => V.ref p.1)[s]? = some (.ref p.1) := by rw [List.getElem?_map, hp]; rfl
    obtain ⟨⟨hi, hls⟩, laid⟩ := hC.lay s p n hp hn
    refine ⟨_, rfl, A.c, _, A.dx, _, _, rfl, hC.o, T.cl_Craft, T.n_Craft_layings, cf_layings, _, rfl, A.la, _, ((s : Nat) : Int), _, rfl, rfl, SqL.of hC.la, atI_nat hpv, p.1, p.2.1, _, rfl, hi, lf_no (by decide), ?_⟩
    refine ⟨p.1, p.2.1, p.2.2, ((s : Nat) : Int), z, n.1, n.2, rfl, ⟨hi, hls⟩, by omega, by omega, laid, fun e => ?_, fun e f H2 l' tf hL2 nl2 nf2 k2 d2 => ?_⟩
    · refine ⟨_, rfl, rfl, _, rfl, iteT ?_⟩
      exact no e H (Same.refl _)
    · refine ⟨_, rfl, rfl, _, rfl, iteF ?_⟩
      have hC2 : CAt T.A_Craft T.A_Laying H2 A (ps.set s (p.1, p.2.1, l')) room z (ns.set s (padN z n.1, n.2)) m qv gs := hC.relay (n' := (padN z n.1, n.2)) hp hn k2 hL2 (laid_pad laid) (.inr nl2)
      have hnew : mkOf (s, clFrame z n) ∉ m.marks := by
        intro hm
        obtain ⟨x, hx, ex⟩ := List.mem_map.mp hm
        have e1 : x.1 = s := congrArg Prod.fst ex
        have e2 : x.2.1 = n.1.length / z := congrArg Prod.snd ex
        obtain ⟨n2, h1, h2⟩ := hB x hx
        rw [e1, hn] at h1
        rw [← Option.some.inj h1] at h2
        omega
      refine ⟨_, rfl, A.c, A.dx, _, rfl, hC2.o, cf_no (by decide), _, rfl, A, _, room, z, _, m, qv, gs, .ref f, (s, clFrame z n), rfl, hC2, tf, hnew, hgl, fun H3 qv3 gs3 hC3 k3 d3 => ?_⟩
      refine yes e H3 _ qv3 gs3 hC3 (fun x hx => ?_) (fun x hx => ?_) ((k2.mono (cMp hpm)).trans (k3.mono cM4)) (d2.trans d3)
      · have hlenn := (List.getElem?_eq_some_iff.mp hn).1
        have hd := pad_div (N := n.1) (show 0 < z by omega) e
        rcases keep_q hx with z1 | z1
        · obtain ⟨n2, h1, h2⟩ := hB x z1
          by_cases c : x.1 = s
          · rw [c, hn] at h1
            rw [← Option.some.inj h1] at h2
            exact ⟨(padN z n.1, n.2), by rw [c]; exact List.getElem?_set_self hlenn, by show _ < (padN z n.1).length / z; omega⟩
          · exact ⟨n2, by rw [List.getElem?_set_ne (fun z => c z.symm)]; exact h1, h2⟩
        · rw [z1]
          exact ⟨(padN z n.1, n.2), List.getElem?_set_self hlenn, by show n.1.length / z < (padN z n.1).length / z; omega⟩
      · rcases cM_set hp hx with z1 | z1
        · exact .inl z1
        · rw [z1]; exact .inr nl2
end
end K04

namespace K04
open PySem PySem.Spec PyProof.Rows L2 Sky
section
variable {P : Program} {w : World} {K : PySem.W.Frag} {mg : Str → Option Value} {base : Heap}
/-! ### what is alike -/
def sp_alike (K : PySem.W.Frag) : Nat → Sp
  | 0 => fun _ _ _ _ => False
  | n + 1 => fun vs H Q _ => ∃ (v u : V) (d : PyData), vs = [v, u] ∧ Dp K H v d ∧ Dp K H u d ∧ DOk n d ∧ ∀ H', Same H H' → Q (.bl true) H'
theorem isi {x : V} {n m : String} {b : Bool} {H : Hp} {Q : VK} (ty : TyX K H x (.type n)) (k : kitB n m = some b) (q : Q (.bl b) H) : rIsi K [x, .ty m] H Q := ⟨x, _, _, _, b, rfl, .ty m, ty, kit_ty k, q⟩
theorem isi2 {x : V} {n m m' : String} {b : Bool} {tp : Addr} {H : Hp} {Q : VK} (ht : H tp = some (.tup [.ty m, .ty m'])) (ty : TyX K H x (.type n)) (k : PySem.W.kitAny K (.type n) [.type m, .type m'] = some b) (q : Q (.bl b) H) : rIsiT K [x, .ref tp] H Q :=
  ⟨x, tp, _, _, _, b, rfl, ht, .cons (.ty _) (.cons (.ty _) .nil), ty, k, q⟩
theorem ok_law_alike (T : Tx K mg) : ∀ n, FnOk P w K mg base CX0 n T.a_law_alike T.d_law_alike ["_law_found", "_law_due"] (sp_alike K n)
  | 0 => ⟨fun vs H Q E h => False.elim h, by intros; rename_i h; first | exact False.elim h | (rename_i h _; exact False.elim h) | (rename_i h _ _; exact False.elim h)⟩
  | n + 1 => by
    have ih := ok_law_alike T n
    have nd := sc_law_alike.nd
    refine T.F_law_alike.ok sc_law_alike (fun vs H Q E h => ?_) (fun cdv A outer s H vs Q E hr h => ?_)
    · obtain ⟨_, _, _, rfl, _⟩ := h
      rfl
    · obtain ⟨v, u, d, rfl, h1, h2, hd, q⟩ := h
      refine ⟨_, (pss_cons (ps_if (pt_val (pe_callB call_isiT (by rfl) T.z_isinstance (by decide +kernel) (pa_cons (pv 1) (pa_cons (pe_tup (pa_cons (pe_bltn (v := .ty "tuple") (u := .type "tuple") (by rfl) T.z_tuple (by decide +kernel) rfl) (pa_cons (pe_bltn (v := .ty "list") (u := .type "list") (by rfl) T.z_list (by decide +kernel) rfl) pa_nil))) pa_nil)))) (pss_cons (ps_if (PW.pt (pw_or (pt_not (pt_val (pe_callB call_isiT (by rfl) T.z_isinstance (by decide +kernel) (pa_cons (pv 0) (pa_cons (pe_tup (pa_cons (pe_bltn (v := .ty "tuple") (u := .type "tuple") (by rfl) T.z_tuple (by decide +kernel) rfl) (pa_cons (pe_bltn (v := .ty "list") (u := .type "list") (by rfl) T.z_list (by decide +kernel) rfl) pa_nil))) pa_nil))))) (pw_or1 (pt_cmpR op_ne (pe_callB call_isi (by rfl) T.z_isinstance (by decide +kernel) (pa_cons (pv 0) (pa_cons (pe_bltn (v := .ty "list") (u := .type "list") (by rfl) T.z_list (by decide +kernel) rfl) pa_nil))) (pe_callB call_isi (by rfl) T.z_isinstance (by decide +kernel) (pa_cons (pv 1) (pa_cons (pe_bltn (v := .ty "list") (u := .type "list") (by rfl) T.z_list (by decide +kernel) rfl) pa_nil))) (nomark _))))) (pss_one (ps_ret pe_bl)) pss_nil) (pss_cons (ps_if (pt_cmpR op_ne (pe_callB call_len_seq (by rfl) T.z_len PySem.boot_len (pa_cons (pv 0) pa_nil)) (pe_callB call_len_seq (by rfl) T.z_len PySem.boot_len (pa_cons (pv 1) pa_nil)) (nomark _)) (pss_one (ps_ret pe_bl)) pss_nil) (pss_one (ps_ret (pe_cmpR (op_eqD hr.units) (pe_lc (own := [("_law_k", 2)]) rfl nd (pi_range1 rfl T.z_range (pa_cons (pe_callB call_len_seq (by rfl) T.z_len PySem.boot_len (pa_cons (pv 1) pa_nil)) pa_nil)) (blkOk_by (own := [("_law_k", 2)]) (N := N_law_alike) (sc := defScope s_law_alike) (by decide +kernel)) (fun _ _ _ _ _ => (pg_name (i := 2) nd rfl (Or.inl rfl))) (fun _ _ _ _ _ => (pts_one (pt_not (pt_val (pe_call ih hr (by rfl) T.m_law_alike T.F_law_alike.kp T.b_law_alike .nil pass0 (pa_cons (pe_ix (ix_seqK (K := K) rfl) (pv 0) (pv 2) (fun _ _ => rfl)) (pa_cons (pe_ix (ix_seqK (K := K) rfl) (pv 1) (pv 2) (fun _ _ => rfl)) pa_nil))))))) (fun _ _ _ _ _ => (pv 2))) (pe_lst pa_nil) (nomark _)))))) pss_nil) (pss_cons (ps_if (pt_cmpR op_isN (pv 1) pe_non (nomark _)) (pss_one (ps_ret (pe_cmpR op_isN (pv 0) pe_non (nomark _)))) pss_nil) (pss_cons (ps_if (pt_val (pe_callB call_isi (by rfl) T.z_isinstance (by decide +kernel) (pa_cons (pv 1) (pa_cons (pe_bltn (v := .ty "str") (u := .type "str") (by rfl) T.z_str (by decide +kernel) rfl) pa_nil)))) (pss_one (ps_ret (pe_and (pe_callB call_isi (by rfl) T.z_isinstance (by decide +kernel) (pa_cons (pv 0) (pa_cons (pe_bltn (v := .ty "str") (u := .type "str") (by rfl) T.z_str (by decide +kernel) rfl) pa_nil))) (pe_one (pe_cmpR op_eq (pv 0) (pv 1) (nomark _)))))) pss_nil) (pss_cons (ps_if (PW.pt (pw_or (pt_val (pe_callB call_isi (by rfl) T.z_isinstance (by decide +kernel) (pa_cons (pv 1) (pa_cons (pe_bltn (v := .ty "bool") (u := .type "bool") (by rfl) T.z_bool (by decide +kernel) rfl) pa_nil)))) (pw_or1 (pt_val (pe_callB call_isi (by rfl) T.z_isinstance (by decide +kernel) (pa_cons (pv 0) (pa_cons (pe_bltn (v := .ty "bool") (u := .type "bool") (by rfl) T.z_bool (by decide +kernel) rfl) pa_nil))))))) (pss_one (ps_ret (pe_and (pe_callB call_isi (by rfl) T.z_isinstance (by decide +kernel) (pa_cons (pv 1) (pa_cons (pe_bltn (v := .ty "bool") (u := .type "bool") (by rfl) T.z_bool (by decide +kernel) rfl) pa_nil))) (pe_and (pe_callB call_isi (by rfl) T.z_isinstance (by decide +kernel) (pa_cons (pv 0) (pa_cons (pe_bltn (v := .ty "bool") (u := .type "bool") (by rfl) T.z_bool (by decide +kernel) rfl) pa_nil))) (pe_one (pe_cmpR op_eq (pv 0) (pv 1) (nomark _))))))) pss_nil) (pss_one (ps_ret (pe_and (pe_callB call_isi (by rfl) T.z_isinstance (by decide +kernel) (pa_cons (pv 0) (pa_cons (pe_bltn (v := .ty "int") (u := .type "int") (by rfl) T.z_int (by decide +kernel) rfl) pa_nil))) (pe_one (pe_cmpR op_eq (pv 0) (pv 1) (nomark _)))))))))), ?_⟩
      -- if isinstance(due, (tuple, list))
      refine ⟨_, rfl, (by decide : (2 : Nat) ≤ sizeLine), fun tp htp => ?_⟩
      have s1 : Same H (upd H tp (.tup [.ty "tuple", .ty "list"])) := same_new (Same.refl _) htp
      have t1 : upd H tp (.tup [.ty "tuple", .ty "list"]) tp = some (.tup [.ty "tuple", .ty "list"]) := upd_same
      have a1 := dp_same s1 h1
      have a2 := dp_same s1 h2
      generalize upd H tp (.tup [.ty "tuple", .ty "list"]) = H1 at *
      have y1 := dp_ty a1
      have y2 := dp_ty a2
      have seq : (∃ ds : List PyData, (d = .list ds ∨ d = .tuple ds) ∧ ds.length ≤ 10000000 ∧ ∃ m, n = m + 1 ∧ ∀ e ∈ ds, DOk m e) ∨ (d = .none ∨ (∃ i, d = .int i) ∨ (∃ b, d = .bool b) ∨ ∃ x, d = .str x) := by
        cases n with
        | zero => exact .inr hd
        | succ m =>
          rcases hd with hd | ⟨ds, e, l, h⟩
          · exact .inr hd
          · exact .inl ⟨ds, e, l, m, rfl, h⟩
      rcases seq with ⟨ds, ed, hl, m, rfl, hds⟩ | rfl | ⟨i, rfl⟩ | ⟨b, rfl⟩ | ⟨x, rfl⟩
      · -- a list, a tuple
        have k2 : PySem.W.kitAny K (.type (tyN d)) [.type "tuple", .type "list"] = some true := by
          rcases ed with rfl | rfl
          · exact kit2T' (by decide +kernel : kitB "list" "tuple" = some false) (by decide +kernel : kitB "list" "list" = some true)
          · exact kit2T (by decide +kernel : kitB "tuple" "tuple" = some true)
        obtain ⟨b, kl⟩ : ∃ b, kitB (tyN d) "list" = some b := by
          rcases ed with rfl | rfl
          · exact ⟨true, (by decide +kernel : kitB "list" "list" = some true)⟩
          · exact ⟨false, (by decide +kernel : kitB "tuple" "list" = some false)⟩
        refine ⟨_, _, _, _, _, _, rfl, t1, .cons (.ty _) (.cons (.ty _) .nil), y2, k2, ?_⟩
        refine ⟨true, rfl, iteT ?_⟩
        refine ⟨_, rfl, (by decide : (2 : Nat) ≤ sizeLine), fun tp2 htp2 => ?_⟩
        have s2 : Same H1 (upd H1 tp2 (.tup [.ty "tuple", .ty "list"])) := same_new (Same.refl _) htp2
        have t2 : upd H1 tp2 (.tup [.ty "tuple", .ty "list"]) tp2 = some (.tup [.ty "tuple", .ty "list"]) := upd_same
        have b1 := dp_same s2 a1
        have b2 := dp_same s2 a2
        generalize upd H1 tp2 (.tup [.ty "tuple", .ty "list"]) = H2 at *
        have sH := s1.trans s2
        have z1 := dp_ty b1
        have z2 := dp_ty b2
        refine ⟨_, _, _, _, _, _, rfl, t2, .cons (.ty _) (.cons (.ty _) .nil), z1, k2, ?_⟩
        refine ⟨true, rfl, iteF ?_⟩
        refine ⟨_, rfl, _, _, _, _, b, rfl, .ty _, z1, kit_ty kl, ?_⟩
        refine ⟨_, rfl, _, _, _, _, b, rfl, .ty _, z2, kit_ty kl, ?_⟩
        refine ⟨rfl, false, ndF rfl, iteF ?_⟩
        -- the two as sequences
        obtain ⟨p, xs, ev, hp, hxs⟩ : ∃ p xs, v = .ref p ∧ (∀ H', Same H2 H' → (SqL K H' p xs ∧ d = .list ds) ∨ (SqT K H' p xs ∧ d = .tuple ds)) ∧ DpAll K H2 xs ds := by
          rcases ed with rfl | rfl
          · cases b1 with
            | lst h t => exact ⟨_, _, rfl, fun H' s' => .inl ⟨s'.seq h, rfl⟩, t⟩
          · cases b1 with
            | tup h t => exact ⟨_, _, rfl, fun H' s' => .inr ⟨by
                cases dp_same (K := K) s' (Dp.tup h t) with
                | tup h' t' =>
                  rcases h with (h | ⟨o, h⟩) | h
                  · exact .inl (.inl (s' _ _ h))
                  · exact .inl (.inr ⟨o, s' _ _ h⟩)
                  · exact .inr h, rfl⟩, t⟩
        obtain ⟨p', xs', eu, hp', hxs'⟩ : ∃ p xs, u = .ref p ∧ (∀ H', Same H2 H' → (SqL K H' p xs ∧ d = .list ds) ∨ (SqT K H' p xs ∧ d = .tuple ds)) ∧ DpAll K H2 xs ds := by
          rcases ed with rfl | rfl
          · cases b2 with
            | lst h t => exact ⟨_, _, rfl, fun H' s' => .inl ⟨s'.seq h, rfl⟩, t⟩
          · cases b2 with
            | tup h t => exact ⟨_, _, rfl, fun H' s' => .inr ⟨by
                rcases h with (h | ⟨o, h⟩) | h
                · exact .inl (.inl (s' _ _ h))
                · exact .inl (.inr ⟨o, s' _ _ h⟩)
                · exact .inr h, rfl⟩, t⟩
        subst ev eu
        have w1 : SqL K H2 p xs ∨ SqT K H2 p xs := by rcases hp H2 (Same.refl _) with h | h; exact .inl h.1; exact .inr h.1
        have w2 : SqL K H2 p' xs' ∨ SqT K H2 p' xs' := by rcases hp' H2 (Same.refl _) with h | h; exact .inl h.1; exact .inr h.1
        have l1 : xs.length = ds.length := DpAll.len hxs
        have l2 : xs'.length = ds.length := DpAll.len hxs'
        -- if len(found) != len(due)
        refine ⟨_, rfl, p, xs, rfl, w1, _, rfl, p', xs', rfl, w2, rfl, false, ndF (by rw [l1, l2]), iteF ?_⟩
        -- return [..] == []
        refine ⟨_, rfl, p', xs', rfl, w2, _, rfl, (by omega), (by omega), fun D hD => ?_⟩
        refine lc_range (lo := 0) (n := ((xs'.length : Nat) : Int).toNat) (fun i H' => Same H2 H' ∧ H' D = some (.lst [])) ⟨same_new (Same.refl _) hD, upd_same⟩ ?_ ?_
        · rintro i H' hi ⟨s', hD'⟩
          rw [Int.zero_add]
          have hi' : i < ds.length := by omega
          obtain ⟨y, hy, dy⟩ := DpAll.at hxs (List.getElem?_eq_getElem hi')
          obtain ⟨y', hy', dy'⟩ := DpAll.at hxs' (List.getElem?_eq_getElem hi')
          have fin : ∀ H3, Same H' H3 → Same H2 H3 ∧ H3 D = some (.lst []) := fun H3 s3 => ⟨s'.trans s3, s3 _ _ hD'⟩
          refine ⟨rfl, ?_⟩
          rcases hp H' s' with ⟨g1, ge⟩ | ⟨g1, ge⟩
          · rcases hp' H' s' with ⟨g2, _⟩ | ⟨_, ge'⟩
            · exact ⟨_, rfl, _, rfl, .inl ⟨p, xs, _, y, rfl, rfl, g1, atI_nat hy, _, rfl, _, rfl, .inl ⟨p', xs', _, y', rfl, rfl, g2, atI_nat hy', _, _, _, rfl, dp_same s' dy, dp_same s' dy', hds _ (List.getElem_mem hi'), fun H3 s3 => ⟨true, rfl, iteF (fin H3 s3)⟩⟩⟩⟩
            · rw [ge] at ge'; cases ge'
          · rcases hp' H' s' with ⟨_, ge'⟩ | ⟨g2, _⟩
            · rw [ge] at ge'; cases ge'
            · exact ⟨_, rfl, _, rfl, .inr (.inl ⟨p, xs, _, y, rfl, rfl, g1, atI_nat hy, _, rfl, _, rfl, .inr (.inl ⟨p', xs', _, y', rfl, rfl, g2, atI_nat hy', _, _, _, rfl, dp_same s' dy, dp_same s' dy', hds _ (List.getElem_mem hi'), fun H3 s3 => ⟨true, rfl, iteF (fin H3 s3)⟩⟩)⟩)⟩
        · rintro H' ⟨s', hD'⟩
          refine ⟨Nat.zero_le _, fun e he => ?_⟩
          have se := same_new (Same.refl _) he (o := .lst [])
          refine ⟨.list [], .list [], .lst (SqL.of (se _ _ hD')) .nil, .lst (SqL.of upd_same) .nil, Lay.nil.shaped (by decide), Lay.nil.shaped (by decide), ?_⟩
          rw [eqv_nil]
          exact q _ ((sH.trans s').trans se)
      · -- None
        cases a1
        cases a2
        refine ⟨_, _, _, _, _, _, rfl, t1, .cons (.ty _) (.cons (.ty _) .nil), y2, (kit2F (by decide +kernel : kitB "NoneType" "tuple" = some false) (by decide +kernel : kitB "NoneType" "list" = some false)), ?_⟩
        refine ⟨false, rfl, iteF ?_⟩
        refine ⟨_, rfl, rfl, true, dT rfl, iteT ⟨_, rfl, rfl, ?_⟩⟩
        exact q _ s1
      · -- an int
        cases a1
        cases a2
        refine ⟨_, _, _, _, _, _, rfl, t1, .cons (.ty _) (.cons (.ty _) .nil), y2, (kit2F (by decide +kernel : kitB "int" "tuple" = some false) (by decide +kernel : kitB "int" "list" = some false)), ?_⟩
        refine ⟨false, rfl, iteF ?_⟩
        refine ⟨_, rfl, rfl, false, dF (fun z => nomatch z), iteF ?_⟩
        refine ⟨_, rfl, _, _, _, _, false, rfl, .ty _, y2, kit_ty (by decide +kernel : kitB "int" "str" = some false), ?_⟩
        refine ⟨_, rfl, iteF ?_⟩
        refine ⟨_, rfl, _, _, _, _, false, rfl, .ty _, y2, kit_ty (by decide +kernel : kitB "int" "bool" = some false), ?_⟩
        refine ⟨_, rfl, iteF ?_⟩
        refine ⟨_, rfl, _, _, _, _, false, rfl, .ty _, y1, kit_ty (by decide +kernel : kitB "int" "bool" = some false), ?_⟩
        refine ⟨_, rfl, iteF ?_⟩
        refine ⟨_, rfl, _, _, _, _, true, rfl, .ty _, y1, kit_ty (by decide +kernel : kitB "int" "int" = some true), ?_⟩
        refine ⟨_, rfl, iteT ?_⟩
        exact ⟨_, rfl, _, rfl, rfl, bl_of rfl (q _ s1)⟩
      · -- True, False
        cases a1
        cases a2
        refine ⟨_, _, _, _, _, _, rfl, t1, .cons (.ty _) (.cons (.ty _) .nil), y2, (kit2F (by decide +kernel : kitB "bool" "tuple" = some false) (by decide +kernel : kitB "bool" "list" = some false)), ?_⟩
        refine ⟨false, rfl, iteF ?_⟩
        refine ⟨_, rfl, rfl, false, dF (fun z => nomatch z), iteF ?_⟩
        refine ⟨_, rfl, _, _, _, _, false, rfl, .ty _, y2, kit_ty (by decide +kernel : kitB "bool" "str" = some false), ?_⟩
        refine ⟨_, rfl, iteF ?_⟩
        refine ⟨_, rfl, _, _, _, _, true, rfl, .ty _, y2, kit_ty (by decide +kernel : kitB "bool" "bool" = some true), ?_⟩
        refine ⟨_, rfl, iteT ?_⟩
        refine ⟨_, rfl, _, _, _, _, true, rfl, .ty _, y2, kit_ty (by decide +kernel : kitB "bool" "bool" = some true), ?_⟩
        refine ⟨_, rfl, iteT ?_⟩
        refine ⟨_, rfl, _, _, _, _, true, rfl, .ty _, y1, kit_ty (by decide +kernel : kitB "bool" "bool" = some true), ?_⟩
        refine ⟨_, rfl, iteT ?_⟩
        exact ⟨_, rfl, _, rfl, rfl, bl_of rfl (q _ s1)⟩
      · -- a text
        cases a1
        cases a2
        refine ⟨_, _, _, _, _, _, rfl, t1, .cons (.ty _) (.cons (.ty _) .nil), y2, (kit2F (by decide +kernel : kitB "str" "tuple" = some false) (by decide +kernel : kitB "str" "list" = some false)), ?_⟩
        refine ⟨false, rfl, iteF ?_⟩
        refine ⟨_, rfl, rfl, false, dF (fun z => nomatch z), iteF ?_⟩
        refine ⟨_, rfl, _, _, _, _, true, rfl, .ty _, y2, kit_ty (by decide +kernel : kitB "str" "str" = some true), ?_⟩
        refine ⟨_, rfl, iteT ?_⟩
        refine ⟨_, rfl, _, _, _, _, true, rfl, .ty _, y1, kit_ty (by decide +kernel : kitB "str" "str" = some true), ?_⟩
        refine ⟨_, rfl, iteT ?_⟩
        exact ⟨_, rfl, _, rfl, rfl, bl_of rfl (q _ s1)⟩
end
end K04

namespace K04
open PySem PySem.Spec PyProof.Rows L2 Sky
/-! ### the law's own row of numbers -/
def sd (z : Nat) (ln ls : Addr) : List (Key × V) := [(.inr ("size" : Str), .int (z : Nat)), (.inr ("numbers" : Str), .ref ln), (.inr ("starts" : Str), .ref ls)]
theorem sd12 : ¬ ((Sum.inr ("size" : Str) : Key) = Sum.inr ("numbers" : Str)) := by decide +kernel
theorem sd13 : ¬ ((Sum.inr ("size" : Str) : Key) = Sum.inr ("starts" : Str)) := by decide +kernel
theorem sd23 : ¬ ((Sum.inr ("numbers" : Str) : Key) = Sum.inr ("starts" : Str)) := by decide +kernel
theorem sd_size {z : Nat} {ln ls : Addr} : valV (sd z ln ls) (.inr ("size" : Str)) = some (.int (z : Nat)) := by
  unfold valV sd
  rw [List.find?_cons_of_pos (by simp)]
  rfl
theorem sd_numbers {z : Nat} {ln ls : Addr} : valV (sd z ln ls) (.inr ("numbers" : Str)) = some (.ref ln) := by
  unfold valV sd
  rw [List.find?_cons_of_neg (by rw [decide_eq_true_iff]; exact sd12), List.find?_cons_of_pos (by simp)]
  rfl
theorem sd_starts {z : Nat} {ln ls : Addr} : valV (sd z ln ls) (.inr ("starts" : Str)) = some (.ref ls) := by
  unfold valV sd
  rw [List.find?_cons_of_neg (by rw [decide_eq_true_iff]; exact sd13), List.find?_cons_of_neg (by rw [decide_eq_true_iff]; exact sd23), List.find?_cons_of_pos (by simp)]
  rfl
theorem dg_size {H : Hp} {s ln ls : Addr} {z : Nat} (h : H s = some (.dK (sd z ln ls))) : DGet H s (.str "size") (some (.int (z : Nat))) := by
  have := DGet.k (k := Sum.inr ("size" : Str)) h
  rw [sd_size] at this
  exact this
theorem dg_numbers {H : Hp} {s ln ls : Addr} {z : Nat} (h : H s = some (.dK (sd z ln ls))) : DGet H s (.str "numbers") (some (.ref ln)) := by
  have := DGet.k (k := Sum.inr ("numbers" : Str)) h
  rw [sd_numbers] at this
  exact this
theorem dg_starts {H : Hp} {s ln ls : Addr} {z : Nat} (h : H s = some (.dK (sd z ln ls))) : DGet H s (.str "starts") (some (.ref ls)) := by
  have := DGet.k (k := Sum.inr ("starts" : Str)) h
  rw [sd_starts] at this
  exact this
theorem putK_new {kvs : List (Key × V)} {k : Key} {v : V} (h : ∀ kv ∈ kvs, kv.1 ≠ k) : putK kvs k v = kvs ++ [(k, v)] := by
  unfold putK
  rw [if_neg]
  rw [List.any_eq_true]
  rintro ⟨kv, hm, e⟩
  exact h kv hm (of_decide_eq_true e)
theorem sd_merge (z : Nat) (ln ls : Addr) : mergeK [] (sd z ln ls) = sd z ln ls := by
  show putK (putK (putK ([] : List (Key × V)) (Sum.inr ("size" : Str)) _) (Sum.inr ("numbers" : Str)) _) (Sum.inr ("starts" : Str)) _ = _
  rw [putK_new (kvs := []) (by simp), putK_new (kvs := [] ++ [_]), putK_new (kvs := ([] ++ [_]) ++ [_])]
  · rfl
  · intro kv hm
    rcases List.mem_append.mp hm with e | e
    · rw [List.mem_singleton.mp e]; exact sd13
    · rw [List.mem_singleton.mp e]; exact sd23
  · intro kv hm
    rw [List.mem_singleton.mp hm]
    exact sd12
/-- the row stands: its numbers N, the places at which tellings begin, and those -/
structure SAt (H : Hp) (s ln ls : Addr) (z : Nat) (N : List Int) (L : List (Nat × List Int)) : Prop where
  d : H s = some (.dK (sd z ln ls))
  n : H ln = some (.lst (N.map V.int))
  ne : ln ≠ ls
  st : ∃ A : List (Addr × Nat × Addr × List Int), H ls = some (.lst (A.map fun x => V.ref x.1)) ∧ (∀ x ∈ A, H x.1 = some (.tup [.int (x.2.1 : Nat), .ref x.2.2.1]) ∧ H x.2.2.1 = some (.tup (x.2.2.2.map V.int))) ∧ L = A.map fun x => (x.2.1, x.2.2.2)
theorem SAt.keep {H H' : Hp} {s ln ls : Addr} {z : Nat} {N : List Int} {L : List (Nat × List Int)} (h : SAt H s ln ls z N L) (k : Same H H') : SAt H' s ln ls z N L := by
  obtain ⟨A, h1, h2, h3⟩ := h.st
  exact ⟨k _ _ h.d, k _ _ h.n, h.ne, A, k _ _ h1, fun x hx => ⟨k _ _ (h2 x hx).1, k _ _ (h2 x hx).2⟩, h3⟩
section
variable {P : Program} {w : World} {K : PySem.W.Frag} {mg : Str → Option Value} {base : Heap}
def sp_fresh : Sp := fun vs H Q _ => ∃ z : Nat, vs = [.int (z : Nat)] ∧ ∀ s ln ls H', SAt H' s ln ls z [] [] → H s = none → H ln = none → H ls = none → Same H H' → Q (.ref s) H'
theorem ok_law_fresh (T : Tx K mg) : FnOk P w K mg base CX0 1 T.a_law_fresh T.d_law_fresh ["_law_size"] sp_fresh := by
  have nd := sc_law_fresh.nd
  refine T.F_law_fresh.ok sc_law_fresh (fun vs H Q E h => ?_) (fun cdv A outer s H vs Q E hr h => ?_)
  · obtain ⟨_, rfl, _⟩ := h
    rfl
  · obtain ⟨z, rfl, fin⟩ := h
    refine ⟨_, (pss_one (ps_ret (pe_disp (pps_cons pe_str (pv 0) (pps_cons pe_str (pe_lst pa_nil) (pps_cons pe_str (pe_lst pa_nil) pps_nil))) (by rfl) (by rfl) (fun z => by cases z) (by decide)))), ?_⟩
    intro d hd
    refine ⟨_, rfl, Nat.zero_le _, fun ln hln => ⟨Nat.zero_le _, fun ls hls => ?_⟩⟩
    have ndn : d ≠ ln := ne_of_none upd_same hln
    have nnl : ln ≠ ls := ne_of_none upd_same hls
    have ndl : d ≠ ls := ne_of_none (by rw [upd_ne ndn]; exact upd_same) hls
    refine ⟨by rw [upd_ne ndl, upd_ne ndn]; exact upd_same, sd z ln ls, rfl, (by decide : (3 : Nat) ≤ 15), ?_⟩
    rw [sd_merge]
    have hln0 : H ln = none := by rw [upd_ne ndn.symm] at hln; exact hln
    have hls0 : H ls = none := by rw [upd_ne nnl.symm, upd_ne ndl.symm] at hls; exact hls
    exact fin d ln ls _ ⟨upd_same, by rw [upd_ne ndn.symm, upd_ne nnl]; exact upd_same, nnl, [], by rw [upd_ne ndl.symm]; exact upd_same, by simp, rfl⟩ hd hln0 hls0 (same_mut (same_mut (same_mut (same_mut (Same.refl _) hd) hln0) hls0) hd)
def sp_llay : Sp := fun vs H Q _ => ∃ (s ln ls a : Addr) (z : Nat) (N : List Int) (S : List (Nat × List Int)) (t : List Int), vs = [.ref s, .ref a] ∧ SAt H s ln ls z N S ∧ H a = some (.tup (t.map V.int)) ∧ t.length ≤ 1000 ∧ N.length ≤ 1000000 ∧ S.length ≤ 1000000 ∧
  ∀ H', SAt H' s ln ls z (N ++ laidN (S.length : Nat) t) (S ++ [(N.length, t)]) → Keep [ln, ls] H H' → Dom H H' → Q (.int ((S.length : Nat) : Int)) H'
theorem ok_law_lay (T : Tx K mg) : FnOk P w K mg base CX0 1 T.a_law_lay T.d_law_lay ["_law_s", "_law_data_here"] sp_llay := by
  have nd := sc_law_lay.nd
  refine T.F_law_lay.ok sc_law_lay (fun vs H Q E h => ?_) (fun cdv A outer s H vs Q E hr h => ?_)
  · obtain ⟨_, _, _, _, _, _, _, _, rfl, _⟩ := h
    rfl
  · obtain ⟨s, ln, ls, a, z, N, S, t, rfl, ⟨hd, hn, nnl, L, hls, hL, hS⟩, ha, ht, hN, hSl, fin⟩ := h
    have hLl : L.length = S.length := by rw [hS, List.length_map]
    refine ⟨_, (pss_cons (ps_set (i := 2) nd rfl (Or.inl rfl) (pe_callB call_len_seq (by rfl) T.z_len PySem.boot_len (pa_cons (pe_dget (hu_of hr) (pv 0) pe_str (fun _ _ => rfl)) pa_nil))) (pss_cons (ps_expr (pe_bm PySem.F.plainAttrs_list PySem.F.slot_list_append PySem.F.type_list_append mt_append (pe_dget (hu_of hr) (pv 0) pe_str (fun _ _ => rfl)) (pa_cons (pe_tup (pa_cons (pe_callB call_len_seq (by rfl) T.z_len PySem.boot_len (pa_cons (pe_dget (hu_of hr) (pv 0) pe_str (fun _ _ => rfl)) pa_nil)) (pa_cons (pv 1) pa_nil))) pa_nil))) (pss_cons (ps_expr (pe_bm PySem.F.plainAttrs_list PySem.F.slot_list_extend PySem.F.type_list_extend mt_extend (pe_dget (hu_of hr) (pv 0) pe_str (fun _ _ => rfl)) (pa_cons (pe_op op_cat (pe_lst (pa_cons (pe_callB call_len_seq (by rfl) T.z_len PySem.boot_len (pa_cons (pv 1) pa_nil)) (pa_cons (pe_op op_fdivN (pv 2) pe_int) (pa_cons (pe_op op_modN (pv 2) pe_int) pa_nil)))) (pe_callTy call_list_of (by rfl) T.z_list (by decide +kernel) (pa_cons (pv 1) pa_nil))) pa_nil))) (pss_one (ps_ret (pv 2)))))), ?_⟩
    -- seq
    refine ⟨_, rfl, s, _, rfl, dg_starts hd, ls, _, rfl, .inl (SqL.of hls), ?_⟩
    rw [List.length_map, hLl]
    -- starts.append((len(numbers), data))
    refine ⟨_, rfl, s, _, rfl, dg_starts hd, .inl ⟨rfl, _, SqL.of hls⟩, _, rfl, s, _, rfl, dg_numbers hd, ln, _, rfl, .inl (SqL.of hn), _, rfl, (by decide : (2 : Nat) ≤ sizeLine), fun b hb => ?_⟩
    rw [List.length_map]
    have nlb : ls ≠ b := ne_of_none hls hb
    refine ⟨ls, _, _, rfl, rfl, (by rw [upd_ne nlb]; exact hls), lt_line (by rw [List.length_map]; omega), ?_⟩
    have e1 : (L.map fun x => V.ref x.1) ++ [V.ref b] = (L ++ [(b, N.length, a, t)]).map fun x => V.ref x.1 := by rw [List.map_append]; rfl
    rw [e1]
    have nsl : s ≠ ls := ne_of hd hls (by intro e; cases e)
    have nsb : s ≠ b := ne_of_none hd hb
    have nnb : ln ≠ b := ne_of_none hn hb
    have nab : a ≠ b := ne_of_none ha hb
    have nal : a ≠ ls := ne_of ha hls (by intro e; cases e)
    have nan : a ≠ ln := ne_of ha hn (by intro e; cases e)
    have nsn : s ≠ ln := ne_of hd hn (by intro e; cases e)
    have k1 : Keep [ln, ls] H (upd (upd H b (.tup [.int ((N.length : Nat) : Int), .ref a])) ls (.lst ((L ++ [(b, N.length, a, t)]).map fun x => V.ref x.1))) := keep_upd (keep_new (Keep.refl _ _) hb) (by simp)
    have d1 : Dom H (upd (upd H b (.tup [.int ((N.length : Nat) : Int), .ref a])) ls (.lst ((L ++ [(b, N.length, a, t)]).map fun x => V.ref x.1))) := (dom_upd _ _ _).upd _ _
    have hd1 : (upd (upd H b (.tup [.int ((N.length : Nat) : Int), .ref a])) ls (.lst ((L ++ [(b, N.length, a, t)]).map fun x => V.ref x.1))) s = some (.dK (sd z ln ls)) := by rw [upd_ne nsl, upd_ne nsb]; exact hd
    have hn1 : (upd (upd H b (.tup [.int ((N.length : Nat) : Int), .ref a])) ls (.lst ((L ++ [(b, N.length, a, t)]).map fun x => V.ref x.1))) ln = some (.lst (N.map V.int)) := by rw [upd_ne nnl, upd_ne nnb]; exact hn
    have ha1 : (upd (upd H b (.tup [.int ((N.length : Nat) : Int), .ref a])) ls (.lst ((L ++ [(b, N.length, a, t)]).map fun x => V.ref x.1))) a = some (.tup (t.map V.int)) := by rw [upd_ne nal, upd_ne nab]; exact ha
    have hl1 : (upd (upd H b (.tup [.int ((N.length : Nat) : Int), .ref a])) ls (.lst ((L ++ [(b, N.length, a, t)]).map fun x => V.ref x.1))) ls = some (.lst ((L ++ [(b, N.length, a, t)]).map fun x => V.ref x.1)) := upd_same
    have hL1 : ∀ x ∈ L ++ [(b, N.length, a, t)], (upd (upd H b (.tup [.int ((N.length : Nat) : Int), .ref a])) ls (.lst ((L ++ [(b, N.length, a, t)]).map fun x => V.ref x.1))) x.1 = some (.tup [.int (x.2.1 : Nat), .ref x.2.2.1]) ∧ (upd (upd H b (.tup [.int ((N.length : Nat) : Int), .ref a])) ls (.lst ((L ++ [(b, N.length, a, t)]).map fun x => V.ref x.1))) x.2.2.1 = some (.tup (x.2.2.2.map V.int)) := by
      intro x hx
      rcases List.mem_append.mp hx with e | e
      · obtain ⟨q, q'⟩ := hL x e
        rw [upd_ne (ne_of q hls (by intro e; cases e)), upd_ne (ne_of_none q hb), upd_ne (ne_of q' hls (by intro e; cases e)), upd_ne (ne_of_none q' hb)]
        exact ⟨q, q'⟩
      · rw [List.mem_singleton.mp e]
        refine ⟨by rw [upd_ne nlb.symm]; exact upd_same, ?_⟩
        show (upd (upd H b (.tup [.int ((N.length : Nat) : Int), .ref a])) ls (.lst ((L ++ [(b, N.length, a, t)]).map fun x => V.ref x.1))) a = some (.tup (t.map V.int))
        rw [upd_ne nal, upd_ne nab]
        exact ha
    generalize (upd (upd H b (.tup [.int ((N.length : Nat) : Int), .ref a])) ls (.lst ((L ++ [(b, N.length, a, t)]).map fun x => V.ref x.1))) = H1 at *
    -- numbers.extend([..] + list(data))
    refine ⟨_, rfl, s, _, rfl, dg_numbers hd1, .inl ⟨rfl, _, SqL.of hn1⟩, _, rfl, a, _, rfl, .inr (SqT.of ha1), ?_⟩
    refine ⟨_, rfl, _, 256, rfl, rfl, ⟨by decide, by decide⟩, _, rfl, _, 256, rfl, rfl, (by decide : (256 : Int) ≠ 0), (by decide : (3 : Nat) ≤ sizeLine), fun c hc => ?_⟩
    refine ⟨_, rfl, a, _, rfl, .inr (SqT.of (same_new (Same.refl _) hc _ _ ha1)), fun e he => ?_⟩
    have nce : c ≠ e := ne_of_none upd_same he
    refine ⟨c, e, _, _, rfl, rfl, (by rw [upd_ne nce]; exact upd_same), upd_same, le_line (by rw [List.length_map]; show 3 + t.length ≤ _; omega), fun g hg => ?_⟩
    have elaid : ([V.int (((t.map V.int).length : Nat) : Int), V.int (((S.length : Nat) : Int).fdiv 256), V.int (((S.length : Nat) : Int).fmod 256)] ++ t.map V.int) = (laidN (S.length : Nat) t).map V.int := by
      unfold laidN
      rw [List.length_map]
      rfl
    rw [elaid]
    have s3 : Same H1 (upd (upd (upd H1 c (.lst [V.int (((t.map V.int).length : Nat) : Int), V.int (((S.length : Nat) : Int).fdiv 256), V.int (((S.length : Nat) : Int).fmod 256)])) e (.lst (t.map V.int))) g (.lst ((laidN (S.length : Nat) t).map V.int))) := same_new (same_new (same_new (Same.refl _) hc) he) hg
    have hg3 : (upd (upd (upd H1 c (.lst [V.int (((t.map V.int).length : Nat) : Int), V.int (((S.length : Nat) : Int).fdiv 256), V.int (((S.length : Nat) : Int).fmod 256)])) e (.lst (t.map V.int))) g (.lst ((laidN (S.length : Nat) t).map V.int))) g = some (.lst ((laidN (S.length : Nat) t).map V.int)) := upd_same
    generalize (upd (upd (upd H1 c (.lst [V.int (((t.map V.int).length : Nat) : Int), V.int (((S.length : Nat) : Int).fdiv 256), V.int (((S.length : Nat) : Int).fmod 256)])) e (.lst (t.map V.int))) g (.lst ((laidN (S.length : Nat) t).map V.int))) = H3 at *
    refine ⟨ln, g, _, _, rfl, rfl, s3 _ _ hn1, hg3, le_line (by rw [List.length_map, List.length_map, laidN_length]; omega), ?_⟩
    rw [← List.map_append]
    refine ⟨_, rfl, fin _ ⟨by rw [upd_ne nsn]; exact s3 _ _ hd1, upd_same, nnl, L ++ [(b, N.length, a, t)], by rw [upd_ne nnl.symm]; exact s3 _ _ hl1, fun x hx => ?_, ?_⟩ (keep_upd (k1.trans (Keep.of_same s3)) (by simp)) ((d1.trans (Dom.of_same s3)).upd _ _)⟩
    · have q := s3 _ _ (hL1 x hx).1
      have q' := s3 _ _ (hL1 x hx).2
      rw [upd_ne (ne_of q (s3 _ _ hn1) (by intro e; cases e)), upd_ne (ne_of q' (s3 _ _ hn1) (by intro e; cases e))]
      exact ⟨q, q'⟩
    · rw [List.map_append, ← hS]
      rfl
end
end K04

namespace K04
open PySem PySem.Spec PyProof.Rows L2 Sky
section
variable {P : Program} {w : World} {K : PySem.W.Frag} {mg : Str → Option Value} {base : Heap}
def sp_lfill : Sp := fun vs H Q _ => ∃ (s ln ls : Addr) (z : Nat) (N : List Int) (L : List (Nat × List Int)), vs = [.ref s] ∧ SAt H s ln ls z N L ∧ 0 < z ∧ z ≤ 100 ∧ N.length ≤ 1000000 ∧
  ∀ H', SAt H' s ln ls z (padN z N) L → Keep [ln] H H' → Dom H H' → Q (.bl (decide (((N.length % z : Nat) : Int) > 0))) H'
theorem ok_law_fill (T : Tx K mg) : FnOk P w K mg base CX0 1 T.a_law_fill T.d_law_fill ["_law_s"] sp_lfill := by
  have nd := sc_law_fill.nd
  refine T.F_law_fill.ok sc_law_fill (fun vs H Q E h => ?_) (fun cdv A outer s H vs Q E hr h => ?_)
  · obtain ⟨_, _, _, _, _, _, rfl, _⟩ := h
    rfl
  · obtain ⟨s, ln, ls, z, N, L0, rfl, hS0, hz, hz1, hN, fin⟩ := h
    have hS := hS0
    obtain ⟨hd, hn, nnl, L, hls, hL, hSe⟩ := hS
    refine ⟨_, (pss_cons (ps_set (i := 1) nd rfl (Or.inl rfl) (pe_op op_modN (pe_callB call_len_seq (by rfl) T.z_len PySem.boot_len (pa_cons (pe_dget (hu_of hr) (pv 0) pe_str (fun _ _ => rfl)) pa_nil)) (pe_dget (hu_of hr) (pv 0) pe_str (fun _ _ => rfl)))) (pss_cons (ps_expr (pe_bm PySem.F.plainAttrs_list PySem.F.slot_list_extend PySem.F.type_list_extend mt_extend (pe_dget (hu_of hr) (pv 0) pe_str (fun _ _ => rfl)) (pa_cons (pe_ifExp (pt_cmpR op_gt (pv 1) pe_int (nomark _)) (pe_op op_rep (pe_lst (pa_cons pe_int pa_nil)) (pe_op op_sub (pe_dget (hu_of hr) (pv 0) pe_str (fun _ _ => rfl)) (pv 1))) (pe_lst pa_nil)) pa_nil))) (pss_one (ps_ret (pe_cmpR op_gt (pv 1) pe_int (nomark _)))))), ?_⟩
    refine ⟨_, rfl, s, _, rfl, dg_numbers hd, ln, _, rfl, .inl (SqL.of hn), _, rfl, s, _, rfl, dg_size hd, _, _, rfl, rfl, (by show ((z : Nat) : Int) ≠ 0; omega), ?_⟩
    simp only [List.length_map, fmod_nat]
    have hm := Nat.mod_lt N.length hz
    refine ⟨_, rfl, s, _, rfl, dg_numbers hd, .inl ⟨rfl, _, SqL.of hn⟩, _, rfl, _, 0, rfl, rfl, _, rfl, ite2 (fun e => ?_) (fun e => ?_)⟩
    · have e0 : N.length % z ≠ 0 := by have := of_decide_eq_true e; omega
      refine ⟨(by decide : (1 : Nat) ≤ sizeLine), fun a ha => ?_⟩
      have s1 := same_new (Same.refl H) ha (o := .lst [.int 0])
      refine ⟨_, rfl, s, _, rfl, dg_size (s1 _ _ hd), _, rfl, _, _, rfl, rfl, ?_⟩
      refine ⟨a, _, _, rfl, rfl, upd_same, (by omega), (by omega), le_line (by rw [List.length_singleton]; omega), fun b hb => ?_⟩
      have ez : (List.replicate (((z : Nat) : Int) - ((N.length % z : Nat) : Int)).toNat [V.int 0]).flatten = (List.replicate (z - N.length % z) (0 : Int)).map V.int := by
        rw [show (((z : Nat) : Int) - ((N.length % z : Nat) : Int)).toNat = z - N.length % z by omega]
        induction (z - N.length % z) with
        | zero => rfl
        | succ n ih => rw [List.replicate_succ, List.replicate_succ, List.flatten_cons, ih]; rfl
      rw [ez]
      have s2 := same_new s1 hb (o := .lst ((List.replicate (z - N.length % z) (0 : Int)).map V.int))
      refine ⟨ln, b, _, _, rfl, rfl, s2 _ _ hn, upd_same, le_line (by rw [List.length_map, List.length_map, List.length_replicate]; omega), ?_⟩
      rw [← List.map_append]
      have nsn : s ≠ ln := ne_of hd hn (by intro e; cases e)
      refine ⟨_, rfl, _, 0, rfl, rfl, fin _ ⟨by rw [upd_ne nsn]; exact s2 _ _ hd, by unfold padN; rw [if_neg e0]; exact upd_same, nnl, L, by rw [upd_ne nnl.symm]; exact s2 _ _ hls, fun x hx => ?_, hSe⟩ (keep_upd (Keep.of_same s2) (by simp)) ((Dom.of_same s2).upd _ _)⟩
      obtain ⟨q, q'⟩ := hL x hx
      rw [upd_ne (ne_of q hn (by intro e; cases e)), upd_ne (ne_of q' hn (by intro e; cases e))]
      exact ⟨s2 _ _ q, s2 _ _ q'⟩
    · have e0 : N.length % z = 0 := by
        have h1 : ¬ (0 : Int) < ((N.length % z : Nat) : Int) := fun z1 => e (decide_eq_true z1)
        omega
      refine ⟨Nat.zero_le _, fun a ha => ?_⟩
      have s1 := same_new (Same.refl H) ha (o := .lst [])
      refine ⟨ln, a, _, _, rfl, rfl, s1 _ _ hn, upd_same, le_line (by rw [List.length_map]; show N.length + 0 ≤ _; omega), ?_⟩
      rw [List.append_nil]
      have nsn : s ≠ ln := ne_of hd hn (by intro e; cases e)
      refine ⟨_, rfl, _, 0, rfl, rfl, fin _ ⟨by rw [upd_ne nsn]; exact s1 _ _ hd, by unfold padN; rw [if_pos e0]; exact upd_same, nnl, L, by rw [upd_ne nnl.symm]; exact s1 _ _ hls, fun x hx => ?_, hSe⟩ (keep_upd (Keep.of_same s1) (by simp)) ((Dom.of_same s1).upd _ _)⟩
      obtain ⟨q, q'⟩ := hL x hx
      rw [upd_ne (ne_of q hn (by intro e; cases e)), upd_ne (ne_of q' hn (by intro e; cases e))]
      exact ⟨s1 _ _ q, s1 _ _ q'⟩
def sp_lmany : Sp := fun vs H Q _ => ∃ (s ln ls : Addr) (z : Nat) (N : List Int) (L : List (Nat × List Int)), vs = [.ref s] ∧ SAt H s ln ls z N L ∧ 0 < z ∧ z ≤ 100 ∧ Q (.int ((N.length / z : Nat) : Int)) H
theorem ok_law_many (T : Tx K mg) : FnOk P w K mg base CX0 1 T.a_law_many T.d_law_many ["_law_s"] sp_lmany := by
  have nd := sc_law_many.nd
  refine T.F_law_many.ok sc_law_many (fun vs H Q E h => ?_) (fun cdv A outer s H vs Q E hr h => ?_)
  · obtain ⟨_, _, _, _, _, _, rfl, _⟩ := h
    rfl
  · obtain ⟨s, ln, ls, z, N, S, rfl, hS, hz, hz1, fin⟩ := h
    refine ⟨_, (pss_one (ps_ret (pe_op op_fdivN (pe_callB call_len_seq (by rfl) T.z_len PySem.boot_len (pa_cons (pe_dget (hu_of hr) (pv 0) pe_str (fun _ _ => rfl)) pa_nil)) (pe_dget (hu_of hr) (pv 0) pe_str (fun _ _ => rfl))))), ?_⟩
    refine ⟨_, rfl, s, _, rfl, dg_numbers hS.d, ln, _, rfl, .inl (SqL.of hS.n), _, rfl, s, _, rfl, dg_size hS.d, _, _, rfl, rfl, ⟨by omega, by omega⟩, ?_⟩
    simp only [List.length_map, fdiv_nat]
    exact fin
def sp_lframe : Sp := fun vs H Q _ => ∃ (s ln ls : Addr) (z : Nat) (N : List Int) (L : List (Nat × List Int)) (st : Int) (c : Nat), vs = [.ref s, .int st, .int (c : Nat)] ∧ SAt H s ln ls z N L ∧ 0 < z ∧ z ≤ 100 ∧ N.length ≤ 1000000 ∧ L.length ≤ 1000000 ∧
  (L.map (·.1)).Pairwise (· ≤ ·) ∧ c * z + z ≤ N.length ∧ ∀ f H', TD H' (.ref f) (frmD st (frm z N (L.map (·.1)) c)) → Same H H' → Q (.ref f) H'
theorem ok_law_frame (T : Tx K mg) : FnOk P w K mg base CX0 1 T.a_law_frame T.d_law_frame ["_law_s", "_law_stream", "_law_count"] sp_lframe := by
  have nd := sc_law_frame.nd
  refine T.F_law_frame.ok sc_law_frame (fun vs H Q E h => ?_) (fun cdv A outer s H vs Q E hr h => ?_)
  · obtain ⟨_, _, _, _, _, _, _, _, rfl, _⟩ := h
    rfl
  · obtain ⟨s, ln, ls, z, N, L0, st, c, rfl, hS, hz, hz1, hN, hSl, asc, hc, fin⟩ := h
    obtain ⟨hd, hn, nnl, A0, hls0, hA0, hLe⟩ := hS
    obtain ⟨L, hls, hL, hSe⟩ : ∃ L : List (Addr × Nat × V), H ls = some (.lst (L.map fun x => V.ref x.1)) ∧ (∀ x ∈ L, H x.1 = some (.tup [.int (x.2.1 : Nat), x.2.2])) ∧ L0.map (·.1) = L.map (·.2.1) := by
      refine ⟨A0.map fun x => (x.1, x.2.1, V.ref x.2.2.1), by rw [List.map_map]; exact hls0, fun x hx => ?_, by rw [hLe, List.map_map, List.map_map]; rfl⟩
      obtain ⟨y, hy, rfl⟩ := List.mem_map.mp hx
      exact (hA0 y hy).1
    have hSl : (L0.map (·.1)).length ≤ 1000000 := by rw [List.length_map]; exact hSl
    generalize L0.map (·.1) = S at *
    have hLl : L.length = S.length := by rw [hSe, List.length_map]
    refine ⟨_, (pss_cons (ps_set (i := 3) nd rfl (Or.inr rfl) (pe_op op_mul (pv 2) (pe_dget (hu_of hr) (pv 0) pe_str (fun _ _ => rfl)))) (pss_cons (ps_set (i := 4) nd rfl (Or.inr rfl) (pe_op op_add (pv 3) (pe_dget (hu_of hr) (pv 0) pe_str (fun _ _ => rfl)))) (pss_cons (ps_setLc (i := 5) (own := [("_law_start", 6), ("_law_data_here", 7)]) rfl nd rfl rfl (sw_true rfl rfl rfl (by decide +kernel)) (pi_list (pe_dget (hu_of hr) (pv 0) pe_str (fun _ _ => rfl))) (blkOk_by (own := [("_law_start", 6), ("_law_data_here", 7)]) (N := N_law_frame) (sc := defScope s_law_frame) (by decide +kernel)) (fun _ _ _ _ _ => (pg_tupK (K := K) (n := 2) rfl rfl (pgs_cons (pg_name (i := 6) nd rfl (Or.inl rfl)) (pgs_cons (pg_name (i := 7) nd rfl (Or.inl rfl)) pgs_nil)))) (fun _ _ _ _ _ => (pts_one (pt_chain op_le op_lt (pv 3) (pv 6) (pv 4)))) (fun _ _ _ _ _ => (pe_op op_sub (pv 6) (pv 3)))) (pss_one (ps_ret (pe_tup (pa_cons (pv 1) (pa_cons (pv 2) (pa_cons (pe_ifExp (pt_cmpR (op_neD hr.units) (pv 5) (pe_lst pa_nil) (nomark _)) (pe_callB (cr_min rfl) (by rfl) T.z_min (by decide +kernel) (pa_cons (pv 5) pa_nil)) pe_non) (pa_cons (pe_tupleOf (by rfl) T.z_tuple (pe_slice sl_list (pe_dget (hu_of hr) (pv 0) pe_str (fun _ _ => rfl)) (po_some (pv 3)) (po_some (pv 4)))) pa_nil)))))))))), ?_⟩
    -- low, high
    refine ⟨_, rfl, _, rfl, s, _, rfl, dg_size hd, _, _, rfl, rfl, .inr ⟨by omega, by omega⟩, ?_⟩
    simp only [← Int.natCast_mul]
    refine ⟨_, rfl, _, rfl, s, _, rfl, dg_size hd, _, _, rfl, rfl, ?_⟩
    simp only [← Int.natCast_add]
    -- some
    refine ⟨_, rfl, s, _, rfl, dg_starts hd, ls, rfl, ⟨_, SqL.of hls⟩, fun D hD => ?_⟩
    refine lc_list (K := K) (a := ls) (xs := L.map fun x => V.ref x.1) (fun i H' => Same H H' ∧ H' D = some (.lst (((((S.take i).filter (inFr z c)).map (· - c * z)).map fun n : Nat => (n : Int)).map V.int))) ⟨same_new (Same.refl _) hD, upd_same⟩ (fun i H' _ p => SqL.of (p.1 _ _ hls)) ?_ ?_
    · rintro i y H' hy ⟨s', hD'⟩
      obtain ⟨x, hx, rfl⟩ := map_get hy
      have hSi : S[i]? = some x.2.1 := by rw [hSe, List.getElem?_map, hx]; rfl
      have hxt := s' _ _ (hL x (List.mem_of_getElem? hx))
      have il : i < S.length := (List.getElem?_eq_some_iff.mp hSi).1
      have hacc : ((((((S.take i).filter (inFr z c)).map (· - c * z)).map fun n : Nat => (n : Int)).map V.int)).length < sizeLine := by
        rw [List.length_map, List.length_map, List.length_map]
        refine lt_line ?_
        have := List.length_filter_le (inFr z c) (S.take i)
        rw [List.length_take] at this
        omega
      refine ⟨_, _, rfl, SqT.of hxt, rfl, _, _, rfl, _, _, rfl, rfl, rfl, ?_⟩
      refine ⟨_, rfl, _, rfl, _, _, rfl, rfl, _, rfl, ?_⟩
      by_cases g1 : c * z ≤ x.2.1
      · by_cases g2 : x.2.1 < c * z + z
        · rw [decide_eq_true (show ((c * z : Nat) : Int) ≤ ((x.2.1 : Nat) : Int) by omega)]
          refine iteT ⟨_, rfl, _, _, rfl, rfl, true, dT (by omega), iteT ?_⟩
          refine ⟨_, rfl, _, rfl, _, _, rfl, rfl, _, hD', hacc, same_mut s' hD, ?_⟩
          rw [upd_same, List.take_add_one, hSi, Option.toList_some, List.filter_append, List.filter_cons_of_pos (by unfold inFr; simp; omega), List.filter_nil, List.map_append, List.map_append, List.map_append]
          show _ = some (HO.lst (_ ++ [V.int (((x.2.1 - c * z : Nat) : Int))]))
          rw [show ((x.2.1 - c * z : Nat) : Int) = ((x.2.1 : Nat) : Int) - ((c * z : Nat) : Int) by omega]
        · rw [decide_eq_true (show ((c * z : Nat) : Int) ≤ ((x.2.1 : Nat) : Int) by omega)]
          refine iteT ⟨_, rfl, _, _, rfl, rfl, false, dF (by omega), iteF ⟨s', ?_⟩⟩
          rw [hD', List.take_add_one, hSi, Option.toList_some, List.filter_append, List.filter_cons_of_neg (by unfold inFr; simp; omega), List.filter_nil, List.append_nil]
      · rw [decide_eq_false (show ¬ ((c * z : Nat) : Int) ≤ ((x.2.1 : Nat) : Int) by omega)]
        refine iteF ⟨false, rfl, iteF ⟨s', ?_⟩⟩
        rw [hD', List.take_add_one, hSi, Option.toList_some, List.filter_append, List.filter_cons_of_neg (by unfold inFr; simp; omega), List.filter_nil, List.append_nil]
    · rintro H1 ⟨s1, hD1⟩
      rw [List.take_of_length_le (by rw [List.length_map, hLl]; exact Nat.le_refl _)] at hD1
      generalize exs : ((S.filter (inFr z c)).map (· - c * z)) = xs at hD1
      -- the tuple
      refine ⟨_, rfl, _, rfl, _, rfl, Nat.zero_le _, fun e he => ?_⟩
      have s2 := same_new (Same.refl H1) he (o := .lst [])
      refine ⟨.list ((xs.map fun n : Nat => (n : Int)).map PyData.int), .list [], .lst (SqL.of (s2 _ _ hD1)) (dpAll_ints _), .lst (SqL.of upd_same) .nil, (Lay.list (k := 0) fun x _ => Lay.int x).shaped (by decide), Lay.nil.shaped (by decide), _, rfl, ?_⟩
      rw [eqv_nil]
      generalize upd H1 e (.lst []) = H2 at *
      refine ife_skip (fun v H3 => v = optV (firstOf z c S) ∧ H3 = H2) (fun v H3 ⟨ev, eh⟩ => ?_) (fun g rest => ?_) (fun g rest => ?_)
      case refine_2 =>
        have hne : xs ≠ [] := fun h => by subst h; exact absurd g (by decide)
        refine ⟨_, rfl, D, _, rfl, SqL.of (s2 _ _ hD1), by rw [List.length_map]; exact List.length_pos_iff.mpr hne, fun m hm hle => rest _ _ ⟨?_, rfl⟩⟩
        obtain ⟨k, hk, rfl⟩ := List.mem_map.mp hm
        have e1 : firstOf z c S = some k := by
          refine firstOf_least asc (by rw [exs]; exact hk) fun y hy => ?_
          rw [exs] at hy
          have := hle _ (List.mem_map.mpr ⟨y, hy, rfl⟩)
          omega
        rw [e1]
        rfl
      case refine_3 =>
        refine rest _ _ ⟨?_, rfl⟩
        have hxe : xs = [] := by
          cases xs with
          | nil => rfl
          | cons x r => exact absurd rfl g
        unfold firstOf
        rw [exs, hxe]
        rfl
      subst ev eh
      have hS2 := s1.trans s2
      refine ⟨_, rfl, s, _, rfl, dg_numbers (hS2 _ _ hd), _, rfl, _, rfl, _, rfl, _, rfl, ln, _, rfl, SqL.of (hS2 _ _ hn), fun x hx => .inl ⟨x, _, rfl, SqL.of upd_same, fun y hy => ⟨(by decide : (4 : Nat) ≤ sizeLine), fun f hf => ?_⟩⟩⟩
      have ec : cutV (N.map V.int) (some ((c * z : Nat) : Int)) (some ((c * z + z : Nat) : Int)) = (((N.drop (c * z)).take z).map V.int) := by
        rw [cut_nat (by rw [List.length_map]; omega) (by rw [List.length_map]; omega), show (c * z + z - c * z) = z by omega, List.map_take, List.map_drop]
      rw [ec] at hy hf ⊢
      have nyf : y ≠ f := ne_of_none upd_same hf
      refine fin f _ (.tup upd_same (.cons (.int _) (.cons (.int _) (.cons (TD.opt _) (.cons (TD.tl ?_) .nil))))) (hS2.trans (same_new (same_new (same_new (Same.refl _) hx) hy) hf))
      rw [upd_ne nyf, upd_same]
      rfl
end
end K04

namespace K04
open PySem PySem.Spec PyProof.Rows L2 Sky
abbrev stOf (L : List (Nat × List Int)) : List Nat := L.map (·.1)
theorem frm_ok {z c : Nat} {st : Int} {N : List Int} {L : List (Nat × List Int)} (h : Lays z N L) (s0 : 0 ≤ st) (s3 : st ≤ 3) (c9 : c ≤ 9999) (hc : c * z + z ≤ N.length) : FOk z st (frm z N (stOf L) c) :=
  ⟨s0, s3, c9, fun x hx => by obtain ⟨_, _, _, h⟩ := first_at hx; exact h, by unfold frm; rw [List.length_take, List.length_drop]; omega, fun b hb => h.nums b (List.mem_of_mem_drop (List.mem_of_mem_take hb))⟩
end K04

namespace K04
open PySem PySem.Spec PyProof.Rows L2 Sky
/-! ### a sky, in numbers -/
inductive Ent where
  | tell (s : Nat) (t : List Int)
  | close (s : Nat)
  | sent (x : Nat × Frm)
  | came (x : Nat × Frm)
  | never (ks : List (Nat × Nat))
def xD (x : Nat × Frm) : PyData := frmD ((x.1 : Nat) : Int) x.2
def entD : Ent → PyData
  | .tell s t => .tuple [.str "tell", .int ((s : Nat) : Int), tlD t]
  | .close s => .tuple [.str "close", .int ((s : Nat) : Int)]
  | .sent x => .tuple [.str "sent", xD x]
  | .came x => .tuple [.str "came", xD x]
  | .never ks => .tuple [.str "never", .tuple (ks.map mD2)]
abbrev Strm := List Int × List (Nat × List Int)
def sS (n : Strm) : List Int × List Nat := (n.1, n.2.map (·.1))
structure Sk where
  m : Cr
  sl : List Strm
  cf : List (Nat × Frm)
  nv : List (Nat × Nat)
  dn : List Ent
  up : List (List (Nat × Nat) × List (Nat × Nat))
  lg : List Ent
def Sk.new : Sk := ⟨Cr.new, List.replicate 4 ([], []), [], [], [], [], []⟩
def Sk.ns (k : Sk) : List (List Int × List Nat) := k.sl.map sS
/-- a frame that was made -/
def Made (z : Nat) (sl : List Strm) (x : Nat × Frm) : Prop := ∃ n, sl[x.1]? = some n ∧ x.2.1 * z + z ≤ n.1.length ∧ x.2 = frm z n.1 (n.2.map (·.1)) x.2.1
def MadeK (z : Nat) (sl : List Strm) (j : Nat × Nat) : Prop := ∃ n, sl[j.1]? = some n ∧ j.2 * z + z ≤ n.1.length
theorem Made.k {z : Nat} {sl : List Strm} {x : Nat × Frm} (h : Made z sl x) : MadeK z sl (mkOf x) := by
  obtain ⟨n, h1, h2, _⟩ := h
  exact ⟨n, h1, h2⟩
theorem Made.inj {z : Nat} {sl : List Strm} {x y : Nat × Frm} (h : Made z sl x) (g : Made z sl y) (e : mkOf x = mkOf y) : x = y := by
  obtain ⟨n, h1, h2, h3⟩ := h
  obtain ⟨m, g1, g2, g3⟩ := g
  have e1 : (mkOf x).1 = (mkOf y).1 := congrArg Prod.fst e
  have e2 : (mkOf x).2 = (mkOf y).2 := congrArg Prod.snd e
  change x.1 = y.1 at e1
  change x.2.1 = y.2.1 at e2
  rw [e1, g1] at h1
  cases h1
  rw [e2] at h3
  exact Prod.ext e1 (h3.trans g3.symm)
def EntOk (z : Nat) (sl : List Strm) : Ent → Prop
  | .came x => Made z sl x
  | .never ks => ks ≠ [] ∧ ks.length ≤ 100000 ∧ ∀ j ∈ ks, MadeK z sl j
  | _ => False
/-- what holds all along: B, a bound of all that is laid and written -/
structure Good (z room B : Nat) (k : Sk) : Prop where
  four : k.sl.length = 4
  lay : ∀ n ∈ k.sl, Lays z n.1 (n.2)
  big : ∀ n ∈ k.sl, n.1.length ≤ B ∧ n.2.length ≤ B
  okm : k.m.Ok room
  r60 : 1 ≤ room ∧ room ≤ 60
  q : ∀ x ∈ k.m.q, Made z k.sl x
  cm : ∀ x ∈ k.cf, Made z k.sl x
  cn : (k.cf.map mkOf).Nodup
  nvm : ∀ j ∈ k.nv, MadeK z k.sl j
  dnm : ∀ e ∈ k.dn, EntOk z k.sl e
  upm : ∀ u ∈ k.up, (∀ j ∈ u.1, MadeK z k.sl j) ∧ (∀ j ∈ u.2, MadeK z k.sl j) ∧ u.1.length ≤ 100000 ∧ u.2.length ≤ 100000
  gl : k.m.gone.length ≤ B
  dl : k.dn.length ≤ B
  ul : k.up.length ≤ B
  ll : k.lg.length ≤ B
section
variable {z room B B' : Nat} {k : Sk}
theorem Good.more (h : Good z room B k) (b : B ≤ B') : Good z room B' k :=
  ⟨h.four, h.lay, fun n hn => ⟨Nat.le_trans (h.big n hn).1 b, Nat.le_trans (h.big n hn).2 b⟩, h.okm, h.r60, h.q, h.cm, h.cn, h.nvm, h.dnm, h.upm, Nat.le_trans h.gl b, Nat.le_trans h.dl b, Nat.le_trans h.ul b, Nat.le_trans h.ll b⟩
theorem Good.new (hr : 1 ≤ room ∧ room ≤ 60) : Good z room 0 Sk.new := by
  refine ⟨rfl, fun n hn => ?_, fun n hn => ?_, Cr.Ok.new room, hr, fun x hx => (by cases hx), fun x hx => (by cases hx), List.nodup_nil, fun x hx => (by cases hx), fun x hx => (by cases hx), fun x hx => (by cases hx), Nat.le_refl _, Nat.le_refl _, Nat.le_refl _, Nat.le_refl _⟩
  · rw [(List.mem_replicate.mp hn).2]; exact Lays.nil z
  · rw [(List.mem_replicate.mp hn).2]; exact ⟨Nat.le_refl _, Nat.le_refl _⟩
theorem MadeK.small (hz : 8 ≤ z) (h : Good z room B k) (hB : B ≤ 60000) {j : Nat × Nat} (hj : MadeK z k.sl j) : j.1 < 4 ∧ j.2 ≤ 7499 := by
  obtain ⟨n, h1, h2⟩ := hj
  have hl := (List.getElem?_eq_some_iff.mp h1).1
  rw [h.four] at hl
  have hb := (h.big n (List.mem_of_getElem? h1)).1
  refine ⟨hl, ?_⟩
  have h3 : j.2 * 8 + 8 ≤ j.2 * z + z := Nat.add_le_add (Nat.mul_le_mul_left _ hz) hz
  omega
theorem Made.ok {x : Nat × Frm} (hz : 8 ≤ z) (h : Good z room B k) (hB : B ≤ 60000) (hx : Made z k.sl x) : FOk z ((x.1 : Nat) : Int) x.2 := by
  obtain ⟨h4, h9⟩ := MadeK.small hz h hB hx.k
  obtain ⟨n, h1, h2, h3⟩ := hx
  rw [h3]
  have h4' : x.1 < 4 := h4
  have h9' : x.2.1 ≤ 7499 := h9
  exact frm_ok (h.lay n (List.mem_of_getElem? h1)) (by omega) (by omega) (by omega) h2
end
/-! ### what is laid stays laid -/
theorem Made.step {z : Nat} {sl : List Strm} {s : Nat} {n n' : Strm} (hn : sl[s]? = some n) (hl : n.1.length ≤ n'.1.length) (hf : ∀ c, c * z + z ≤ n.1.length → frm z n'.1 (n'.2.map (·.1)) c = frm z n.1 (n.2.map (·.1)) c) {x : Nat × Frm} (h : Made z sl x) : Made z (sl.set s n') x := by
  obtain ⟨m, h1, h2, h3⟩ := h
  by_cases e : s = x.1
  · subst e
    rw [hn] at h1
    cases h1
    exact ⟨n', List.getElem?_set_self (List.getElem?_eq_some_iff.mp hn).1, Nat.le_trans h2 hl, by rw [hf _ h2]; exact h3⟩
  · exact ⟨m, by rw [List.getElem?_set_ne e]; exact h1, h2, h3⟩
theorem MadeK.step {z : Nat} {sl : List Strm} {s : Nat} {n n' : Strm} (hn : sl[s]? = some n) (hl : n.1.length ≤ n'.1.length) {j : Nat × Nat} (h : MadeK z sl j) : MadeK z (sl.set s n') j := by
  obtain ⟨m, h1, h2⟩ := h
  by_cases e : s = j.1
  · subst e
    rw [hn] at h1
    cases h1
    exact ⟨n', List.getElem?_set_self (List.getElem?_eq_some_iff.mp hn).1, Nat.le_trans h2 hl⟩
  · exact ⟨m, by rw [List.getElem?_set_ne e]; exact h1, h2⟩
def lays1' (n : Strm) (t : List Int) : Strm := (n.1 ++ laidN ((n.2.length : Nat) : Int) t, n.2 ++ [(n.1.length, t)])
theorem sS_lays1 (n : Strm) (t : List Int) : sS (lays1' n t) = lay1 (sS n) t := by
  unfold sS lays1' lay1
  simp
def padS (z : Nat) (n : Strm) : Strm := (padN z n.1, n.2)
theorem sS_pad (z : Nat) (n : Strm) : sS (padS z n) = (padN z (sS n).1, (sS n).2) := rfl
theorem frm_lays1 {z : Nat} {n : Strm} {t : List Int} {c : Nat} (h : c * z + z ≤ n.1.length) : frm z (lays1' n t).1 ((lays1' n t).2.map (·.1)) c = frm z n.1 (n.2.map (·.1)) c := by
  show frm z (n.1 ++ _) ((n.2 ++ [(n.1.length, t)]).map (·.1)) c = _
  rw [frm_more h, List.map_append]
  exact frm_start h
theorem frm_padS {z : Nat} {n : Strm} {c : Nat} (h : c * z + z ≤ n.1.length) : frm z (padS z n).1 ((padS z n).2.map (·.1)) c = frm z n.1 (n.2.map (·.1)) c := by
  show frm z (padN z n.1) _ c = _
  unfold padN
  split
  · rfl
  · exact frm_more h
theorem lays1_len (n : Strm) (t : List Int) : (lays1' n t).1.length = n.1.length + (t.length + 3) := by
  show (n.1 ++ _).length = _
  rw [List.length_append, laidN_length]
theorem pad_grow (z : Nat) (n : Strm) : n.1.length ≤ (padS z n).1.length ∧ (0 < z → (padS z n).1.length ≤ n.1.length + z) := by
  show n.1.length ≤ (padN z n.1).length ∧ _
  unfold padS padN
  by_cases e : n.1.length % z = 0
  · simp only [if_pos e]
    exact ⟨Nat.le_refl _, fun _ => Nat.le_add_right _ _⟩
  · simp only [if_neg e, List.length_append, List.length_replicate]
    exact ⟨Nat.le_add_right _ _, fun _ => by omega⟩
/-- the frames of a telling were made -/
theorem tFrames_made {z : Nat} {sl : List Strm} {s : Nat} {n : Strm} {t : List Int} (hn : sl[s]? = some n) {f : Frm} (hf : f ∈ tFrames z (sS n) t) : Made z (sl.set s (lays1' n t)) (s, f) := by
  obtain ⟨i, hi⟩ := List.getElem?_of_mem hf
  obtain ⟨h1, h2⟩ := tFrames_at hi
  have hm : f ∈ frms z (lay1 (sS n) t).1 (lay1 (sS n) t).2 := List.mem_of_mem_drop hf
  unfold frms at hm
  obtain ⟨c, hc, e⟩ := List.mem_map.mp hm
  have ec : f.1 = c := by rw [← e]; rfl
  have hc2 := List.mem_range.mp hc
  refine ⟨lays1' n t, List.getElem?_set_self (List.getElem?_eq_some_iff.mp hn).1, ?_, ?_⟩
  · show f.1 * z + z ≤ _
    have h3 := Nat.mul_le_mul_right z (show f.1 + 1 ≤ (lay1 (sS n) t).1.length / z from h2)
    have h4 := div_lo z (lay1 (sS n) t).1.length
    rw [Nat.succ_mul] at h3
    have e1 : (lays1' n t).1 = (lay1 (sS n) t).1 := by rw [← sS_lays1]; rfl
    rw [e1]
    omega
  · show f = frm z (lays1' n t).1 ((lays1' n t).2.map (·.1)) f.1
    have e1 : (lays1' n t).1 = (lay1 (sS n) t).1 := by rw [← sS_lays1]; rfl
    have e2 : (lays1' n t).2.map (·.1) = (lay1 (sS n) t).2 := by rw [← sS_lays1]; rfl
    rw [e1, e2, ec]
    exact e.symm
theorem clFrame_made {z : Nat} (hz : 0 < z) {sl : List Strm} {s : Nat} {n : Strm} (hn : sl[s]? = some n) (e : n.1.length % z ≠ 0) : Made z (sl.set s (padS z n)) (s, clFrame z (sS n)) := by
  refine ⟨padS z n, List.getElem?_set_self (List.getElem?_eq_some_iff.mp hn).1, ?_, ?_⟩
  · show n.1.length / z * z + z ≤ (padN z n.1).length
    rw [pad_len hz e, Nat.add_mul, Nat.one_mul]
    exact Nat.le_refl _
  · have h := frms_pad (S := n.2.map (·.1)) hz e
    have hm : clFrame z (sS n) ∈ frms z (padN z n.1) (n.2.map (·.1)) := by
      rw [h]
      exact List.mem_append_right _ (List.mem_singleton.mpr rfl)
    unfold frms at hm
    obtain ⟨c, hc, e2⟩ := List.mem_map.mp hm
    have ec : (clFrame z (sS n)).1 = c := by rw [← e2]; rfl
    show clFrame z (sS n) = frm z (padN z n.1) (n.2.map (·.1)) (clFrame z (sS n)).1
    rw [ec]
    exact e2.symm
end K04

namespace K04
open PySem PySem.Spec PyProof.Rows L2 Sky
/-! ### the law's own craft -/
structure La where
  sl : Addr
  st : Addr
  ak : Addr
  lo : Addr
  md : Addr
  rs : List (Addr × Addr × Addr)
def lcd5 (room : Nat) (L : La) : List (Key × V) := [(.inr ("room" : Str), .int (room : Nat)), (.inr ("streams" : Str), .ref L.sl), (.inr ("store" : Str), .ref L.st), (.inr ("asked" : Str), .ref L.ak), (.inr ("lost" : Str), .ref L.lo)]
def lcd2 (md : Addr) (op : Bool) : List (Key × V) := [(.inr ("open" : Str), .bl op), (.inr ("made" : Str), .ref md)]
def lcd (room : Nat) (L : La) (op : Bool) : List (Key × V) := lcd5 room L ++ lcd2 L.md op
section
variable {room : Nat} {L : La} {op : Bool}
theorem lcd5_merge : mergeK [] (lcd5 room L) = lcd5 room L := by kernel_rfl
theorem lcd2_merge {md : Addr} : mergeK [] (lcd2 md op) = lcd2 md op := by kernel_rfl
theorem lcd_merge : mergeK (lcd5 room L) (lcd2 L.md op) = lcd room L op := by kernel_rfl
theorem v_room : valV (lcd room L op) (.inr ("room" : Str)) = some (.int (room : Nat)) := by kernel_rfl
theorem v_streams : valV (lcd room L op) (.inr ("streams" : Str)) = some (.ref L.sl) := by kernel_rfl
theorem v_store : valV (lcd room L op) (.inr ("store" : Str)) = some (.ref L.st) := by kernel_rfl
theorem v_asked : valV (lcd room L op) (.inr ("asked" : Str)) = some (.ref L.ak) := by kernel_rfl
theorem v_lost : valV (lcd room L op) (.inr ("lost" : Str)) = some (.ref L.lo) := by kernel_rfl
theorem v_open : valV (lcd room L op) (.inr ("open" : Str)) = some (.bl op) := by kernel_rfl
theorem v_made : valV (lcd room L op) (.inr ("made" : Str)) = some (.ref L.md) := by kernel_rfl
theorem p_asked {a : Addr} : putK (lcd room L op) (.inr ("asked" : Str)) (.ref a) = lcd room { L with ak := a } op := by kernel_rfl
theorem p_store {a : Addr} : putK (lcd room L op) (.inr ("store" : Str)) (.ref a) = lcd room { L with st := a } op := by kernel_rfl
theorem p_lost {a : Addr} : putK (lcd room L op) (.inr ("lost" : Str)) (.ref a) = lcd room { L with lo := a } op := by kernel_rfl
theorem p_open {b : Bool} : putK (lcd room L op) (.inr ("open" : Str)) (.bl b) = lcd room L b := by kernel_rfl
end
section
variable {H : Hp} {c : Addr} {room : Nat} {L : La} {op : Bool}
theorem g_room (h : H c = some (.dK (lcd room L op))) : DGet H c (.str "room") (some (.int (room : Nat))) := by
  have := DGet.k (k := Sum.inr ("room" : Str)) h
  rw [v_room] at this
  exact this
theorem g_streams (h : H c = some (.dK (lcd room L op))) : DGet H c (.str "streams") (some (.ref L.sl)) := by
  have := DGet.k (k := Sum.inr ("streams" : Str)) h
  rw [v_streams] at this
  exact this
theorem g_store (h : H c = some (.dK (lcd room L op))) : DGet H c (.str "store") (some (.ref L.st)) := by
  have := DGet.k (k := Sum.inr ("store" : Str)) h
  rw [v_store] at this
  exact this
theorem g_asked (h : H c = some (.dK (lcd room L op))) : DGet H c (.str "asked") (some (.ref L.ak)) := by
  have := DGet.k (k := Sum.inr ("asked" : Str)) h
  rw [v_asked] at this
  exact this
theorem g_lost (h : H c = some (.dK (lcd room L op))) : DGet H c (.str "lost") (some (.ref L.lo)) := by
  have := DGet.k (k := Sum.inr ("lost" : Str)) h
  rw [v_lost] at this
  exact this
theorem g_open (h : H c = some (.dK (lcd room L op))) : DGet H c (.str "open") (some (.bl op)) := by
  have := DGet.k (k := Sum.inr ("open" : Str)) h
  rw [v_open] at this
  exact this
theorem g_made (h : H c = some (.dK (lcd room L op))) : DGet H c (.str "made") (some (.ref L.md)) := by
  have := DGet.k (k := Sum.inr ("made" : Str)) h
  rw [v_made] at this
  exact this
theorem d_asked {a : Addr} (h : H c = some (.dK (lcd room L op))) : DPut H c (.str "asked") (.ref a) (upd H c (.dK (lcd room { L with ak := a } op))) := .inl ⟨_, .inr "asked", h, rfl, (by show 7 < sizeLine; decide), by rw [p_asked]⟩
theorem d_store {a : Addr} (h : H c = some (.dK (lcd room L op))) : DPut H c (.str "store") (.ref a) (upd H c (.dK (lcd room { L with st := a } op))) := .inl ⟨_, .inr "store", h, rfl, (by show 7 < sizeLine; decide), by rw [p_store]⟩
theorem d_lost {a : Addr} (h : H c = some (.dK (lcd room L op))) : DPut H c (.str "lost") (.ref a) (upd H c (.dK (lcd room { L with lo := a } op))) := .inl ⟨_, .inr "lost", h, rfl, (by show 7 < sizeLine; decide), by rw [p_lost]⟩
theorem d_open {b : Bool} (h : H c = some (.dK (lcd room L op))) : DPut H c (.str "open") (.bl b) (upd H c (.dK (lcd room L b))) := .inl ⟨_, .inr "open", h, rfl, (by show 7 < sizeLine; decide), by rw [p_open]⟩
end
theorem SAt.else {H H' : Hp} {N : List Addr} {s ln ls : Addr} {z : Nat} {M : List Int} {L : List (Nat × List Int)} (h : SAt H s ln ls z M L) (k : Keep N H H') (t : TSm H H') (n1 : s ∉ N) (n2 : ln ∉ N) (n3 : ls ∉ N) : SAt H' s ln ls z M L := by
  obtain ⟨A, h1, h2, h3⟩ := h.st
  exact ⟨k _ _ n1 h.d, k _ _ n2 h.n, h.ne, A, k _ _ n3 h1, fun x hx => ⟨t _ _ (h2 x hx).1, t _ _ (h2 x hx).2⟩, h3⟩
theorem SAt.lst {H : Hp} {s ln ls : Addr} {z : Nat} {N : List Int} {L : List (Nat × List Int)} (h : SAt H s ln ls z N L) : ∃ xs, H ls = some (.lst xs) := by
  obtain ⟨A, h1, _⟩ := h.st
  exact ⟨_, h1⟩
def pairD (m : Cr) (x : Nat × Frm) : PyData := .tuple [mD2 (mkOf x), .str (if mkOf x ∈ m.sent then "sent" else "fresh")]
def five (L : La) : List Addr := [L.sl, L.st, L.ak, L.lo, L.md]
def rM (L : La) : List Addr := L.rs.map (·.1) ++ (L.rs.map (·.2.1) ++ L.rs.map (·.2.2))
def lM (c : Addr) (L : La) : List Addr := c :: (five L ++ rM L)
structure LcAt (H : Hp) (c : Addr) (L : La) (room z : Nat) (nl : List Strm) (m : Cr) (mk : List Nat) : Prop where
  d : H c = some (.dK (lcd room L m.win))
  sl : H L.sl = some (.lst (L.rs.map fun r => V.ref r.1))
  r4 : L.rs.length = 4
  n4 : nl.length = 4
  m4 : mk.length = 4
  s : ∀ (i : Nat) (r : Addr × Addr × Addr) (n : Strm), L.rs[i]? = some r → nl[i]? = some n → SAt H r.1 r.2.1 r.2.2 z n.1 n.2
  st : ∃ vs, H L.st = some (.lst vs) ∧ TDs H vs (m.q.map (pairD m))
  ak : ∃ vs, H L.ak = some (.lst vs) ∧ TDs H vs (m.asked.map mD2)
  lo : ∃ vs, H L.lo = some (.lst vs) ∧ TDs H vs (m.gone.map mD2)
  md : H L.md = some (.lst (mk.map fun n : Nat => V.int (n : Int)))
  a5 : L.sl ≠ L.st ∧ L.sl ≠ L.ak ∧ L.sl ≠ L.lo ∧ L.sl ≠ L.md ∧ L.st ≠ L.ak ∧ L.st ≠ L.lo ∧ L.st ≠ L.md ∧ L.ak ≠ L.lo ∧ L.ak ≠ L.md ∧ L.lo ≠ L.md
  ar : ∀ r ∈ L.rs, r.2.1 ∉ five L ∧ r.2.2 ∉ five L
  rr : ∀ (i j : Nat) r r', i ≠ j → L.rs[i]? = some r → L.rs[j]? = some r' → r.2.1 ≠ r'.2.1 ∧ r.2.1 ≠ r'.2.2 ∧ r.2.2 ≠ r'.2.1 ∧ r.2.2 ≠ r'.2.2
section
variable {H H' : Hp} {c : Addr} {L : La} {room z : Nat} {nl : List Strm} {m : Cr} {mk : List Nat}
theorem LcAt.row (h : LcAt H c L room z nl m mk) {i : Nat} (hi : i < 4) : ∃ r n, L.rs[i]? = some r ∧ nl[i]? = some n ∧ SAt H r.1 r.2.1 r.2.2 z n.1 n.2 := by
  have h1 := List.getElem?_eq_getElem (l := L.rs) (i := i) (by rw [h.r4]; exact hi)
  have h2 := List.getElem?_eq_getElem (l := nl) (i := i) (by rw [h.n4]; exact hi)
  exact ⟨_, _, h1, h2, h.s i _ _ h1 h2⟩
theorem LcAt.rowOf (h : LcAt H c L room z nl m mk) {r : Addr × Addr × Addr} (hr : r ∈ L.rs) : ∃ n : Strm, SAt H r.1 r.2.1 r.2.2 z n.1 n.2 := by
  obtain ⟨i, hi⟩ := List.getElem?_of_mem hr
  obtain ⟨_, n, h1, _, h3⟩ := h.row (i := i) (by rw [← h.r4]; exact (List.getElem?_eq_some_iff.mp hi).1)
  rw [hi] at h1
  cases h1
  exact ⟨n, h3⟩
theorem LcAt.here (h : LcAt H c L room z nl m mk) : ∀ a ∈ lM c L, (∃ u, H a = some u) ∧ NoT H a := by
  intro a ha
  obtain ⟨_, h1, _⟩ := h.st
  obtain ⟨_, h2, _⟩ := h.ak
  obtain ⟨_, h3, _⟩ := h.lo
  rcases List.mem_cons.mp ha with e | ha
  · rw [e]; exact ⟨⟨_, h.d⟩, NoT.dK h.d⟩
  · rcases List.mem_append.mp ha with ha | ha
    · simp only [five, List.mem_cons, List.not_mem_nil, or_false] at ha
      rcases ha with e | e | e | e | e <;> rw [e]
      · exact ⟨⟨_, h.sl⟩, NoT.lst h.sl⟩
      · exact ⟨⟨_, h1⟩, NoT.lst h1⟩
      · exact ⟨⟨_, h2⟩, NoT.lst h2⟩
      · exact ⟨⟨_, h3⟩, NoT.lst h3⟩
      · exact ⟨⟨_, h.md⟩, NoT.lst h.md⟩
    · unfold rM at ha
      rcases List.mem_append.mp ha with ha | ha
      · obtain ⟨r, hr, rfl⟩ := List.mem_map.mp ha
        obtain ⟨n, hn⟩ := h.rowOf hr
        exact ⟨⟨_, hn.d⟩, NoT.dK hn.d⟩
      · rcases List.mem_append.mp ha with ha | ha
        · obtain ⟨r, hr, rfl⟩ := List.mem_map.mp ha
          obtain ⟨n, hn⟩ := h.rowOf hr
          exact ⟨⟨_, hn.n⟩, NoT.lst hn.n⟩
        · obtain ⟨r, hr, rfl⟩ := List.mem_map.mp ha
          obtain ⟨n, hn⟩ := h.rowOf hr
          obtain ⟨xs, hx⟩ := hn.lst
          exact ⟨⟨_, hx⟩, NoT.lst hx⟩
theorem LcAt.fresh (h : LcAt H c L room z nl m mk) {a : Addr} (n : H a = none) : a ∉ lM c L := fun z => by
  obtain ⟨⟨u, hu⟩, _⟩ := h.here a z
  rw [n] at hu; cases hu
theorem mem_r1 {r : Addr × Addr × Addr} (h : r ∈ L.rs) : r.1 ∈ lM c L := List.mem_cons_of_mem _ (List.mem_append_right _ (List.mem_append_left _ (List.mem_map.mpr ⟨_, h, rfl⟩)))
theorem mem_r2 {r : Addr × Addr × Addr} (h : r ∈ L.rs) : r.2.1 ∈ lM c L := List.mem_cons_of_mem _ (List.mem_append_right _ (List.mem_append_right _ (List.mem_append_left _ (List.mem_map.mpr ⟨_, h, rfl⟩))))
theorem mem_r3 {r : Addr × Addr × Addr} (h : r ∈ L.rs) : r.2.2 ∈ lM c L := List.mem_cons_of_mem _ (List.mem_append_right _ (List.mem_append_right _ (List.mem_append_right _ (List.mem_map.mpr ⟨_, h, rfl⟩))))
theorem mem_5 {a : Addr} (h : a ∈ five L) : a ∈ lM c L := List.mem_cons_of_mem _ (List.mem_append_left _ h)
/-- what is outside changes -/
theorem LcAt.else (h : LcAt H c L room z nl m mk) {N : List Addr} (k : Keep N H H') (t : TSm H H') (n : ∀ a ∈ lM c L, a ∉ N) : LcAt H' c L room z nl m mk := by
  obtain ⟨v1, h1, t1⟩ := h.st
  obtain ⟨v2, h2, t2⟩ := h.ak
  obtain ⟨v3, h3, t3⟩ := h.lo
  have n5 : ∀ a ∈ five L, a ∉ N := fun a ha => n a (mem_5 ha)
  refine ⟨k _ _ (n _ (List.mem_cons_self ..)) h.d, k _ _ (n5 _ (by simp [five])) h.sl, h.r4, h.n4, h.m4, fun i r x hr hx => ?_, ⟨v1, k _ _ (n5 _ (by simp [five])) h1, t1.mono t⟩, ⟨v2, k _ _ (n5 _ (by simp [five])) h2, t2.mono t⟩, ⟨v3, k _ _ (n5 _ (by simp [five])) h3, t3.mono t⟩, k _ _ (n5 _ (by simp [five])) h.md, h.a5, h.ar, h.rr⟩
  have hm := List.mem_of_getElem? hr
  exact (h.s i r x hr hx).else k t (n _ (mem_r1 hm)) (n _ (mem_r2 hm)) (n _ (mem_r3 hm))
theorem LcAt.same (h : LcAt H c L room z nl m mk) (s : Same H H') : LcAt H' c L room z nl m mk := h.else (N := []) (Keep.of_same s) (TSm.of_same s) (by simp)
/-- the lists and the dict change, the rows stand -/
theorem LcAt.put (h : LcAt H c L room z nl m mk) {L' : La} {m' : Cr} {mk' : List Nat} {N : List Addr} (rs : L'.rs = L.rs) (sl : L'.sl = L.sl) (k : Keep N H H') (t : TSm H H') (ns : L.sl ∉ N) (nr : ∀ r ∈ L.rs, r.1 ∉ N ∧ r.2.1 ∉ N ∧ r.2.2 ∉ N)
    (d : H' c = some (.dK (lcd room L' m'.win))) (m4 : mk'.length = 4) (st : ∃ vs, H' L'.st = some (.lst vs) ∧ TDs H' vs (m'.q.map (pairD m'))) (ak : ∃ vs, H' L'.ak = some (.lst vs) ∧ TDs H' vs (m'.asked.map mD2)) (lo : ∃ vs, H' L'.lo = some (.lst vs) ∧ TDs H' vs (m'.gone.map mD2))
    (md : H' L'.md = some (.lst (mk'.map fun n : Nat => V.int (n : Int)))) (a5 : L'.sl ≠ L'.st ∧ L'.sl ≠ L'.ak ∧ L'.sl ≠ L'.lo ∧ L'.sl ≠ L'.md ∧ L'.st ≠ L'.ak ∧ L'.st ≠ L'.lo ∧ L'.st ≠ L'.md ∧ L'.ak ≠ L'.lo ∧ L'.ak ≠ L'.md ∧ L'.lo ≠ L'.md)
    (ar : ∀ r ∈ L.rs, r.2.1 ∉ five L' ∧ r.2.2 ∉ five L') : LcAt H' c L' room z nl m' mk' := by
  refine ⟨d, by rw [sl, rs]; exact k _ _ ns h.sl, by rw [rs]; exact h.r4, h.n4, m4, fun i r x hr hx => ?_, st, ak, lo, md, a5, fun r hr => ar r (by rw [← rs]; exact hr), fun i j r r' hij hr hr' => h.rr i j r r' hij (by rw [← rs]; exact hr) (by rw [← rs]; exact hr')⟩
  rw [rs] at hr
  obtain ⟨n1, n2, n3⟩ := nr r (List.mem_of_getElem? hr)
  exact (h.s i r x hr hx).else k t n1 n2 n3
/-- a row changes -/
theorem LcAt.rowSet (h : LcAt H c L room z nl m mk) {i : Nat} {r : Addr × Addr × Addr} {n' : Strm} (hr : L.rs[i]? = some r) (hs : SAt H' r.1 r.2.1 r.2.2 z n'.1 n'.2) (k : Keep [r.2.1, r.2.2] H H') : LcAt H' c L room z (nl.set i n') m mk := by
  have hm := List.mem_of_getElem? hr
  have t : TSm H H' := k.ts fun a ha => by
    simp only [List.mem_cons, List.not_mem_nil, or_false] at ha
    rcases ha with e | e
    · rw [e]; exact (h.here _ (mem_r2 hm)).2
    · rw [e]; exact (h.here _ (mem_r3 hm)).2
  obtain ⟨v1, h1, t1⟩ := h.st
  obtain ⟨v2, h2, t2⟩ := h.ak
  obtain ⟨v3, h3, t3⟩ := h.lo
  obtain ⟨g1, g2⟩ := h.ar r hm
  have n5 : ∀ a ∈ five L, a ∉ [r.2.1, r.2.2] := fun a ha hz => by
    simp only [List.mem_cons, List.not_mem_nil, or_false] at hz
    rcases hz with e | e
    · exact g1 (by rw [← e]; exact ha)
    · exact g2 (by rw [← e]; exact ha)
  obtain ⟨nn, hnn⟩ := h.rowOf hm
  obtain ⟨xs, hxs⟩ := hnn.lst
  have kd : ∀ a kv, H a = some (.dK kv) → a ∉ [r.2.1, r.2.2] := fun a kv e hz => by
    simp only [List.mem_cons, List.not_mem_nil, or_false] at hz
    rcases hz with e1 | e1
    · rw [e1, hnn.n] at e; cases e
    · rw [e1, hxs] at e; cases e
  refine ⟨k _ _ (kd _ _ h.d) h.d, k _ _ (n5 _ (by simp [five])) h.sl, h.r4, by rw [List.length_set]; exact h.n4, h.m4, fun j r' x hr' hx => ?_, ⟨v1, k _ _ (n5 _ (by simp [five])) h1, t1.mono t⟩, ⟨v2, k _ _ (n5 _ (by simp [five])) h2, t2.mono t⟩, ⟨v3, k _ _ (n5 _ (by simp [five])) h3, t3.mono t⟩, k _ _ (n5 _ (by simp [five])) h.md, h.a5, h.ar, h.rr⟩
  by_cases e : j = i
  · subst e
    rw [hr] at hr'
    cases hr'
    rw [List.getElem?_set_self (by rw [h.n4, ← h.r4]; exact (List.getElem?_eq_some_iff.mp hr).1)] at hx
    cases hx
    exact hs
  · rw [List.getElem?_set_ne (fun z => e z.symm)] at hx
    obtain ⟨q1, q2, q3, q4⟩ := h.rr j i r' r e hr' hr
    have hj := h.s j r' x hr' hx
    exact hj.else k t (kd _ _ hj.d) (by simp [q1, q2]) (by simp [q3, q4])
end
theorem get_snoc {α : Type} {xs : List α} {x y : α} {j : Nat} (h : (xs ++ [x])[j]? = some y) : (j < xs.length ∧ xs[j]? = some y) ∨ (j = xs.length ∧ y = x) := by
  rcases Nat.lt_or_ge j xs.length with l | l
  · rw [List.getElem?_append_left l] at h
    exact .inl ⟨l, h⟩
  · rw [List.getElem?_append_right l] at h
    have h2 := (List.getElem?_eq_some_iff.mp h).1
    rw [List.length_singleton] at h2
    have e : j = xs.length := by omega
    rw [e, Nat.sub_self] at h
    exact .inr ⟨e, (Option.some.inj h).symm⟩
theorem eqv_mk2 (a b : Nat × Nat) : PyData.eqv (mD2 a) (mD2 b) = decide (a = b) := by
  unfold mD2 mkD
  by_cases h : a = b
  · subst h
    simp [PyData.eqv, PyData.eqvAll]
  · rw [decide_eq_false h]
    have : ¬ (a.1 = b.1 ∧ a.2 = b.2) := fun ⟨x, y⟩ => h (Prod.ext x y)
    by_cases h1 : a.1 = b.1
    · have h2 : a.2 ≠ b.2 := fun e => this ⟨h1, e⟩
      simp [PyData.eqv, PyData.eqvAll]
      omega
    · simp [PyData.eqv, PyData.eqvAll]
      omega
theorem lay_mk2 (k : Nat × Nat) : Lay 1 (mD2 k) := Lay.tuple (f := PyData.int) (xs := [((k.1 : Nat) : Int), ((k.2 : Nat) : Int)]) fun x _ => Lay.int x
theorem lay_mks2 (ks : List (Nat × Nat)) : Lay 2 (.list (ks.map mD2)) := Lay.list fun k _ => lay_mk2 k
theorem any_mk2 (ks : List (Nat × Nat)) (k : Nat × Nat) : ((ks.map mD2).any fun w => PyData.eqv w (mD2 k)) = decide (k ∈ ks) := by
  induction ks with
  | nil => rfl
  | cons x r ih =>
    rw [List.map_cons, List.any_cons, ih, eqv_mk2]
    by_cases h : x = k
    · subst h; simp
    · have h' : ¬ k = x := fun e => h e.symm
      simp [h, h', List.mem_cons]
def stW (m : Cr) (x : Nat × Frm) : Str := if mkOf x ∈ m.sent then "sent" else "fresh"
theorem stW_sent (m : Cr) (x : Nat × Frm) : decide (V.str (stW m x) = V.str "sent") = decide (mkOf x ∈ m.sent) := by
  unfold stW
  by_cases h : mkOf x ∈ m.sent
  · rw [if_pos h, decide_eq_true h]
    exact decide_eq_true rfl
  · rw [if_neg h, decide_eq_false h]
    exact (by decide +kernel : decide (V.str "fresh" = V.str "sent") = false)
theorem stW_fresh (m : Cr) (x : Nat × Frm) : decide (V.str (stW m x) = V.str "fresh") = !decide (mkOf x ∈ m.sent) := by
  unfold stW
  by_cases h : mkOf x ∈ m.sent
  · rw [if_pos h, decide_eq_true h]
    exact (by decide +kernel : decide (V.str "sent" = V.str "fresh") = false)
  · rw [if_neg h, decide_eq_false h]
    exact decide_eq_true rfl
theorem td_pair {H : Hp} {y : V} {m : Cr} {x : Nat × Frm} (h : TD H y (pairD m x)) : ∃ ya xa, y = .ref ya ∧ H ya = some (.tup [xa, .str (stW m x)]) ∧ TD H xa (mD2 (mkOf x)) := by
  cases h with
  | tup h t => cases t with
    | cons h1 t => cases t with
      | cons h2 t => cases t; cases h2; exact ⟨_, _, rfl, h, h1⟩
theorem td_mk2 {H : Hp} {y : V} {k : Nat × Nat} (h : TD H y (mD2 k)) : ∃ ya, y = .ref ya ∧ H ya = some (.tup [.int (k.1 : Int), .int (k.2 : Int)]) := by
  cases h with
  | tup h t => cases t with
    | cons h1 t => cases t with
      | cons h2 t => cases t; cases h1; cases h2; exact ⟨_, rfl, h⟩
theorem eqv_pair (m : Cr) (x y : Nat × Frm) : PyData.eqv (pairD m x) (pairD m y) = decide (mkOf x = mkOf y) := by
  unfold pairD
  have h := eqv_mk2 (mkOf x) (mkOf y)
  by_cases e : mkOf x = mkOf y
  · rw [e] at h ⊢
    have h2 : PyData.eqv (.str (if mkOf y ∈ m.sent then "sent" else "fresh" : Str)) (.str (if mkOf y ∈ m.sent then "sent" else "fresh" : Str)) = true := by rw [eqv_str]; exact decide_eq_true rfl
    simp [PyData.eqv, PyData.eqvAll] at h2 ⊢
    simp [h, h2]
  · rw [decide_eq_false e] at h ⊢
    simp [PyData.eqv, PyData.eqvAll]
    simp [h]
theorem lay_pair (m : Cr) (x : Nat × Frm) : Lay 2 (pairD m x) := by
  have h1 : Lay 1 (mD2 (mkOf x)) := lay_mk2 _
  have h2 : Lay 1 (.str (stW m x)) := by
    unfold stW
    split
    · exact ⟨by decide +kernel, by simp [PyData.depth]⟩
    · exact ⟨by decide +kernel, by simp [PyData.depth]⟩
  have h : ∀ d ∈ [mD2 (mkOf x), .str (stW m x)], Lay 1 d := fun d hd => by
    simp only [List.mem_cons, List.not_mem_nil, or_false] at hd
    rcases hd with e | e <;> rw [e]
    · exact h1
    · exact h2
  have := Lay.tuple (f := id) h
  rw [List.map_id] at this
  exact this
theorem fresh_q (m : Cr) : m.fresh = (m.q.filter fun x => !decide (mkOf x ∈ m.sent)).map mkOf := by
  unfold Cr.fresh Cr.marks
  rw [List.filter_map]
  rfl
theorem old_q (m : Cr) : m.old = (m.q.filter fun x => decide (mkOf x ∈ m.sent)).map mkOf := by
  unfold Cr.old Cr.marks
  rw [List.filter_map]
  rfl
theorem cut1 (xs : List V) : cutV xs (some 1) none = xs.drop 1 := by
  unfold cutV
  rw [HT.sIx_none]
  cases xs with
  | nil => rfl
  | cons x r =>
    have e : HT.sIx (x :: r).length 0 (some 1) = 1 := by
      show min (Int.toNat 1) (x :: r).length = 1
      rw [List.length_cons]
      show min 1 (r.length + 1) = 1
      omega
    rw [e]
    exact List.take_of_length_le (by rw [List.length_drop]; exact Nat.le_refl _)
theorem sends_asked {room : Nat} {m : Cr} (ok : m.Ok room) {k : Nat × Nat} {rest : List (Nat × Nat)} (e : m.asked ++ m.fresh = k :: rest) : (m.sends k).asked = m.asked.drop 1 := by
  show m.asked.filter (fun j => decide (j ≠ k)) = _
  have an := ok.an
  have ff : ∀ j ∈ m.fresh, j ∈ m.marks := fun j hj => (List.mem_filter.mp hj).1
  cases h : m.asked with
  | nil => rfl
  | cons x r =>
    rw [h] at e an
    have e1 : x = k := by injection e
    subst e1
    rw [List.filter_cons_of_neg (by simp), List.drop_one, List.tail_cons]
    refine List.filter_eq_self.mpr fun j hj => decide_eq_true fun z => ?_
    rw [z] at hj
    exact (List.nodup_cons.mp an).1 hj
theorem stW_sends (m : Cr) (k : Nat × Nat) (x : Nat × Frm) : stW (m.sends k) x = if mkOf x = k then ("sent" : Str) else stW m x := by
  unfold stW
  have hs : (m.sends k).sent = if k ∈ m.sent then m.sent else m.sent ++ [k] := rfl
  rw [hs]
  by_cases e : mkOf x = k
  · rw [if_pos e, e]
    by_cases h : k ∈ m.sent
    · rw [if_pos h, if_pos h]
    · rw [if_neg h, if_pos (by simp)]
  · rw [if_neg e]
    by_cases h : k ∈ m.sent
    · rw [if_pos h]
    · rw [if_neg h]
      by_cases h2 : mkOf x ∈ m.sent
      · rw [if_pos h2, if_pos (List.mem_append_left _ h2)]
      · rw [if_neg h2, if_neg (fun z => (List.mem_append.mp z).elim h2 fun z => e (List.mem_singleton.mp z))]
section
variable {H H' : Hp} {c : Addr} {L : La} {room z : Nat} {nl : List Strm} {m : Cr} {mk : List Nat}
theorem LcAt.ne (h : LcAt H c L room z nl m mk) : (∀ a ∈ five L, a ≠ c) ∧ ∀ r ∈ L.rs, r.1 ≠ c ∧ r.2.1 ≠ c ∧ r.2.2 ≠ c := by
  obtain ⟨_, h1, _⟩ := h.st
  obtain ⟨_, h2, _⟩ := h.ak
  obtain ⟨_, h3, _⟩ := h.lo
  have hd := h.d
  have l : ∀ a xs, H a = some (.lst xs) → a ≠ c := fun a xs e z => by rw [z, hd] at e; cases e
  refine ⟨fun a ha => ?_, fun r hr => ?_⟩
  · simp only [five, List.mem_cons, List.not_mem_nil, or_false] at ha
    rcases ha with e | e | e | e | e <;> rw [e]
    · exact l _ _ h.sl
    · exact l _ _ h1
    · exact l _ _ h2
    · exact l _ _ h3
    · exact l _ _ h.md
  · obtain ⟨n, hn⟩ := h.rowOf hr
    obtain ⟨xs, hx⟩ := hn.lst
    refine ⟨fun z => ?_, l _ _ hn.n, l _ _ hx⟩
    have e := hn.d
    rw [z, hd] at e
    have e2 := congrArg (fun o : Option HO => match o with | some (.dK kvs) => kvs.length | _ => 0) e
    exact absurd e2 (by show ¬ (7 = 3); decide)
theorem LcAt.ne5 (h : LcAt H c L room z nl m mk) {A : Addr} (nA : A ∉ lM c L) : A ≠ c ∧ L.sl ≠ A ∧ L.st ≠ A ∧ L.ak ≠ A ∧ L.lo ≠ A ∧ L.md ≠ A ∧ ∀ r ∈ L.rs, r.2.1 ≠ A ∧ r.2.2 ≠ A := by
  refine ⟨fun z => nA (by rw [z]; exact List.mem_cons_self ..), fun z => nA (mem_5 (by simp [five, ← z])), fun z => nA (mem_5 (by simp [five, ← z])), fun z => nA (mem_5 (by simp [five, ← z])), fun z => nA (mem_5 (by simp [five, ← z])), fun z => nA (mem_5 (by simp [five, ← z])), fun r hr => ⟨fun z => nA (by rw [← z]; exact mem_r2 hr), fun z => nA (by rw [← z]; exact mem_r3 hr)⟩⟩
theorem LcAt.ap_sa (h : LcAt H c L room z nl m mk) {A B : Addr} (nA : A ∉ lM c L) (nB : B ∉ lM c L) (n : A ≠ B) : (L.sl ≠ B ∧ L.sl ≠ A ∧ L.sl ≠ L.lo ∧ L.sl ≠ L.md ∧ B ≠ A ∧ B ≠ L.lo ∧ B ≠ L.md ∧ A ≠ L.lo ∧ A ≠ L.md ∧ L.lo ≠ L.md) ∧ ∀ r ∈ L.rs, r.2.1 ∉ five { L with st := B, ak := A } ∧ r.2.2 ∉ five { L with st := B, ak := A } := by
  obtain ⟨a1, a2, a3, a4, a5, a6, a7, a8, a9, a10⟩ := h.a5
  obtain ⟨_, b1, b2, b3, b4, b5, b6⟩ := h.ne5 nA
  obtain ⟨_, c1, c2, c3, c4, c5, c6⟩ := h.ne5 nB
  refine ⟨⟨c1, b1, a3, a4, n.symm, c4.symm, c5.symm, b4.symm, b5.symm, a10⟩, fun r hr => ?_⟩
  obtain ⟨g1, g2⟩ := h.ar r hr
  obtain ⟨d1, d2⟩ := b6 r hr
  obtain ⟨e1, e2⟩ := c6 r hr
  simp only [five, List.mem_cons, List.not_mem_nil, or_false, not_or] at g1 g2 ⊢
  exact ⟨⟨g1.1, e1, d1, g1.2.2.2.1, g1.2.2.2.2⟩, g2.1, e2, d2, g2.2.2.2.1, g2.2.2.2.2⟩
theorem LcAt.ap_al (h : LcAt H c L room z nl m mk) {A B : Addr} (nA : A ∉ lM c L) (nB : B ∉ lM c L) (n : A ≠ B) : (L.sl ≠ L.st ∧ L.sl ≠ A ∧ L.sl ≠ B ∧ L.sl ≠ L.md ∧ L.st ≠ A ∧ L.st ≠ B ∧ L.st ≠ L.md ∧ A ≠ B ∧ A ≠ L.md ∧ B ≠ L.md) ∧ ∀ r ∈ L.rs, r.2.1 ∉ five { L with lo := B, ak := A } ∧ r.2.2 ∉ five { L with lo := B, ak := A } := by
  obtain ⟨a1, a2, a3, a4, a5, a6, a7, a8, a9, a10⟩ := h.a5
  obtain ⟨_, b1, b2, b3, b4, b5, b6⟩ := h.ne5 nA
  obtain ⟨_, c1, c2, c3, c4, c5, c6⟩ := h.ne5 nB
  refine ⟨⟨a1, b1, c1, a4, b2, c2, a7, n, b5.symm, c5.symm⟩, fun r hr => ?_⟩
  obtain ⟨g1, g2⟩ := h.ar r hr
  obtain ⟨d1, d2⟩ := b6 r hr
  obtain ⟨e1, e2⟩ := c6 r hr
  simp only [five, List.mem_cons, List.not_mem_nil, or_false, not_or] at g1 g2 ⊢
  exact ⟨⟨g1.1, g1.2.1, d1, e1, g1.2.2.2.2⟩, g2.1, g2.2.1, d2, e2, g2.2.2.2.2⟩
theorem lM_sub {L' : La} {A B : Addr} (rs : L'.rs = L.rs) (h : ∀ x ∈ five L', x ∈ five L ∨ x = A ∨ x = B) (nA : H A = none) (nB : H B = none) : ∀ x ∈ lM c L', x ∈ lM c L ∨ H x = none := fun x hx => by
  rcases List.mem_cons.mp hx with e | hx
  · exact .inl (by rw [e]; exact List.mem_cons_self ..)
  · rcases List.mem_append.mp hx with hx | hx
    · rcases h x hx with e | e | e
      · exact .inl (mem_5 e)
      · rw [e]; exact .inr nA
      · rw [e]; exact .inr nB
    · unfold rM at hx
      rw [rs] at hx
      exact .inl (List.mem_cons_of_mem _ (List.mem_append_right _ hx))
end
structure Lk (M M' : List Addr) (H H' : Hp) : Prop where
  m : ∀ a ∈ M', a ∈ M ∨ H a = none
  kp : Keep M H H'
  d : Dom H H'
theorem Lk.refl (M : List Addr) (H : Hp) : Lk M M H H := ⟨fun _ h => .inl h, Keep.refl _ _, Dom.refl _⟩
theorem Lk.of_same {M : List Addr} {H H' : Hp} (s : Same H H') : Lk M M H H' := ⟨fun _ h => .inl h, Keep.of_same s, Dom.of_same s⟩
theorem Lk.trans {M M1 M2 : List Addr} {H H1 H2 : Hp} (a : Lk M M1 H H1) (b : Lk M1 M2 H1 H2) : Lk M M2 H H2 := by
  refine ⟨fun x hx => ?_, Keep.join a.kp b.kp fun n hn => a.m n hn, a.d.trans b.d⟩
  rcases b.m x hx with h | h
  · exact a.m x h
  · exact .inr (a.d x h)
theorem Lk.in {M N : List Addr} {H H' : Hp} (k : Keep N H H') (d : Dom H H') (n : ∀ a ∈ N, a ∈ M) : Lk M M H H' := ⟨fun _ h => .inl h, k.mono n, d⟩
end K04

namespace K04
open PySem PySem.Spec PyProof.Rows L2 Sky
/-! ### the deeds of a sky, in numbers -/
theorem keeps_q {room s : Nat} : ∀ {fs : List Frm} {m : Cr} {x : Nat × Frm}, x ∈ (m.keeps room s fs).q → x ∈ m.q ∨ ∃ f ∈ fs, x = (s, f)
  | [], m, x, h => .inl h
  | f :: fs, m, x, h => by
    rcases keeps_q (fs := fs) (m := m.keep room (s, f)) h with e | ⟨g, hg, e⟩
    · rcases keep_q e with e | e
      · exact .inl e
      · exact .inr ⟨f, List.mem_cons_self, e⟩
    · exact .inr ⟨g, List.mem_cons_of_mem _ hg, e⟩
theorem EntOk.step {z : Nat} {sl : List Strm} {s : Nat} {n n' : Strm} (hn : sl[s]? = some n) (hl : n.1.length ≤ n'.1.length) (hf : ∀ c, c * z + z ≤ n.1.length → frm z n'.1 (n'.2.map (·.1)) c = frm z n.1 (n.2.map (·.1)) c) {e : Ent} (h : EntOk z sl e) : EntOk z (sl.set s n') e := by
  cases e with
  | came x => exact Made.step hn hl hf h
  | never ks => exact ⟨h.1, h.2.1, fun j hj => MadeK.step hn hl (h.2.2 j hj)⟩
  | tell _ _ => exact h
  | close _ => exact h
  | sent _ => exact h
section
variable {z room B : Nat} {k : Sk}
theorem Good.grow (h : Good z room B k) {s : Nat} {n n' : Strm} (hn : k.sl[s]? = some n) (hl : n.1.length ≤ n'.1.length) (hf : ∀ c, c * z + z ≤ n.1.length → frm z n'.1 (n'.2.map (·.1)) c = frm z n.1 (n.2.map (·.1)) c)
    (lay : Lays z n'.1 n'.2) (b : n'.1.length ≤ B + 30 ∧ n'.2.length ≤ B + 30) {m' : Cr} (okm : m'.Ok room) (gl : m'.gone.length ≤ B + 30) (q : ∀ x ∈ m'.q, x ∈ k.m.q ∨ Made z (k.sl.set s n') x) {lg' : List Ent} (ll : lg'.length ≤ B + 30) :
    Good z room (B + 30) { k with m := m', sl := k.sl.set s n', lg := lg' } := by
  refine ⟨by rw [List.length_set]; exact h.four, fun x hx => ?_, fun x hx => ?_, okm, h.r60, fun x hx => ?_, fun x hx => (h.cm x hx).step hn hl hf, h.cn, fun j hj => (h.nvm j hj).step hn hl, fun e he => (h.dnm e he).step hn hl hf, fun u hu => ?_, gl, Nat.le_trans h.dl (by omega), Nat.le_trans h.ul (by omega), ll⟩
  · rcases List.mem_or_eq_of_mem_set hx with e | e
    · exact h.lay x e
    · rw [e]; exact lay
  · rcases List.mem_or_eq_of_mem_set hx with e | e
    · have := h.big x e; omega
    · rw [e]; exact b
  · rcases q x hx with e | e
    · exact (h.q x e).step hn hl hf
    · exact e
  · obtain ⟨a1, a2, a3, a4⟩ := h.upm u hu
    exact ⟨fun j hj => (a1 j hj).step hn hl, fun j hj => (a2 j hj).step hn hl, a3, a4⟩
/-- the craft alone -/
theorem Good.craft (h : Good z room B k) {m' : Cr} (okm : m'.Ok room) (gl : m'.gone.length ≤ B) (q : ∀ x ∈ m'.q, x ∈ k.m.q) : Good z room B { k with m := m' } :=
  ⟨h.four, h.lay, h.big, okm, h.r60, fun x hx => h.q x (q x hx), h.cm, h.cn, h.nvm, h.dnm, h.upm, gl, h.dl, h.ul, h.ll⟩
theorem Good.log (h : Good z room B k) {lg' : List Ent} (ll : lg'.length ≤ B + 30) : Good z room (B + 30) { k with lg := lg' } :=
  ⟨h.four, h.lay, fun n hn => ⟨Nat.le_trans (h.big n hn).1 (by omega), Nat.le_trans (h.big n hn).2 (by omega)⟩, h.okm, h.r60, h.q, h.cm, h.cn, h.nvm, h.dnm, h.upm, Nat.le_trans h.gl (by omega), Nat.le_trans h.dl (by omega), Nat.le_trans h.ul (by omega), ll⟩
theorem Good.down (h : Good z room B k) {dn' : List Ent} (hd : ∀ e ∈ dn', EntOk z k.sl e) (dl : dn'.length ≤ B + 30) : Good z room (B + 30) { k with dn := dn' } :=
  ⟨h.four, h.lay, fun n hn => ⟨Nat.le_trans (h.big n hn).1 (by omega), Nat.le_trans (h.big n hn).2 (by omega)⟩, h.okm, h.r60, h.q, h.cm, h.cn, h.nvm, hd, h.upm, Nat.le_trans h.gl (by omega), dl, Nat.le_trans h.ul (by omega), Nat.le_trans h.ll (by omega)⟩
theorem Good.ups (h : Good z room B k) {up' : List (List (Nat × Nat) × List (Nat × Nat))} (hu : ∀ u ∈ up', (∀ j ∈ u.1, MadeK z k.sl j) ∧ (∀ j ∈ u.2, MadeK z k.sl j) ∧ u.1.length ≤ 100000 ∧ u.2.length ≤ 100000) (ul : up'.length ≤ B + 30) : Good z room (B + 30) { k with up := up' } :=
  ⟨h.four, h.lay, fun n hn => ⟨Nat.le_trans (h.big n hn).1 (by omega), Nat.le_trans (h.big n hn).2 (by omega)⟩, h.okm, h.r60, h.q, h.cm, h.cn, h.nvm, h.dnm, hu, Nat.le_trans h.gl (by omega), Nat.le_trans h.dl (by omega), ul, Nat.le_trans h.ll (by omega)⟩
end
def Sk.tell (z room : Nat) (k : Sk) (s : Nat) (n : Strm) (t : List Int) : Sk := { k with m := k.m.keeps room s (tFrames z (sS n) t), sl := k.sl.set s (lays1' n t), lg := k.lg ++ [.tell s t] }
def Sk.close (z room : Nat) (k : Sk) (s : Nat) (n : Strm) : Sk := { k with m := k.m.keep room (s, clFrame z (sS n)), sl := k.sl.set s (padS z n), lg := k.lg ++ [.close s] }
theorem ns_tell (z room : Nat) (k : Sk) (s : Nat) (n : Strm) (t : List Int) : (k.tell z room s n t).ns = k.ns.set s (lay1 (sS n) t) := by
  show (k.sl.set s (lays1' n t)).map sS = _
  rw [List.map_set, sS_lays1]
  rfl
theorem ns_close (z room : Nat) (k : Sk) (s : Nat) (n : Strm) : (k.close z room s n).ns = k.ns.set s (padN z (sS n).1, (sS n).2) := by
  show (k.sl.set s (padS z n)).map sS = _
  rw [List.map_set, sS_pad]
  rfl
theorem ns_at {k : Sk} {s : Nat} {n : Strm} (h : k.sl[s]? = some n) : k.ns[s]? = some (sS n) := by
  show (k.sl.map sS)[s]? = _
  rw [List.getElem?_map, h]
  rfl
theorem Good.tell {z room B : Nat} {k : Sk} (h : Good z room B k) (hB : B ≤ 50000) {s : Nat} {n : Strm} {t : List Int} (hn : k.sl[s]? = some n) (ht : tellOk t) (okm : (k.m.keeps room s (tFrames z (sS n) t)).Ok room) (gl : (k.m.keeps room s (tFrames z (sS n) t)).gone.length ≤ k.m.gone.length + 23) : Good z room (B + 30) (k.tell z room s n t) := by
  have hm := List.mem_of_getElem? hn
  have hb := h.big n hm
  have hg := h.gl
  have hll := h.ll
  have := ht.2.1
  refine h.grow hn (by rw [lays1_len]; omega) (fun c hc => frm_lays1 hc) (Lays.lay (h.lay n hm) ht (by omega)) ⟨by rw [lays1_len]; omega, ?_⟩ okm (by omega) (fun x hx => ?_) ?_
  · show (n.2 ++ _).length ≤ _
    rw [List.length_append, List.length_singleton]; omega
  · rcases keeps_q hx with e | ⟨f, hf, e⟩
    · exact .inl e
    · rw [e]; exact .inr (tFrames_made hn hf)
  · rw [List.length_append, List.length_singleton]; omega
theorem Good.close {z room B : Nat} {k : Sk} (h : Good z room B k) (hz : 0 < z) (hz24 : z ≤ 24) {s : Nat} {n : Strm} (hn : k.sl[s]? = some n) (e : n.1.length % z ≠ 0) (okm : (k.m.keep room (s, clFrame z (sS n))).Ok room) : Good z room (B + 30) (k.close z room s n) := by
  have hm := List.mem_of_getElem? hn
  have hb := h.big n hm
  have hg := h.gl
  have hll := h.ll
  have hk := keep_gone room k.m (s, clFrame z (sS n))
  have hp := pad_grow z n
  refine h.grow hn hp.1 (fun c hc => frm_padS hc) ((h.lay n hm).pad hz) ⟨by have := hp.2 hz; omega, ?_⟩ okm (by omega) (fun x hx => ?_) ?_
  · show n.2.length ≤ _; omega
  · rcases keep_q hx with e2 | e2
    · exact .inl e2
    · rw [e2]; exact .inr (clFrame_made hz hn e)
  · rw [List.length_append, List.length_singleton]; omega
end K04

namespace K04
open PySem PySem.Spec PyProof.Rows L2 Sky
/-! ### both crafts -/
def kS0 (m : Cr) (nl : List Strm) : Sk := ⟨m, nl, [], [], [], [], []⟩
def mkl (z : Nat) (nl : List Strm) : List Nat := nl.map fun n => n.1.length / z
theorem CAt.noT {C CL : Addr} {H : Hp} {A : Ca} {ps : List (Addr × Addr × Addr)} {room z : Nat} {ns : List (List Int × List Nat)} {m : Cr} {qv : List KF} {gs : List V} (h : CAt C CL H A ps room z ns m qv gs) : ∀ a ∈ cM A ps, NoT H a ∧ ∃ o, H a = some o := by
  intro a ha
  unfold cM at ha
  rcases List.mem_append.mp ha with ha | ha
  · rcases List.mem_append.mp ha with ha | ha
    · simp only [List.mem_cons, List.not_mem_nil, or_false] at ha
      rcases ha with e | e | e | e | e | e
      · rw [e]; exact ⟨NoT.ins h.o, _, h.o⟩
      · rw [e]; exact ⟨NoT.lst h.la, _, h.la⟩
      · rw [e]; exact ⟨NoT.dT h.fr, _, h.fr⟩
      · rw [e]; exact ⟨NoT.dT h.se, _, h.se⟩
      · rw [e]; exact ⟨NoT.dT h.ak, _, h.ak⟩
      · rw [e]; exact ⟨NoT.lst h.go, _, h.go⟩
    · obtain ⟨p, hp, rfl⟩ := List.mem_map.mp ha
      obtain ⟨_, _, _, _, h1, _⟩ := h.lays hp
      exact ⟨NoT.ins h1, _, h1⟩
  · obtain ⟨p, hp, rfl⟩ := List.mem_map.mp ha
    obtain ⟨_, _, _, _, _, h2⟩ := h.lays hp
    exact ⟨NoT.lst h2, _, h2⟩
/-- the three lie apart -/
structure Sep (p q c : Addr) (L : La) (A : Ca) (ps : List (Addr × Addr × Addr)) : Prop where
  x1 : ∀ a ∈ lM c L, a ∉ cM A ps
  x2 : ∀ a ∈ lM c L, a ≠ p ∧ a ≠ q
  x3 : ∀ a ∈ cM A ps, a ≠ p ∧ a ≠ q
section
variable {C CL : Addr} {H H' : Hp} {p q c : Addr} {L L' : La} {A : Ca} {ps ps' : List (Addr × Addr × Addr)} {room z : Nat} {nl : List Strm} {ns : List (List Int × List Nat)} {m : Cr} {mk : List Nat} {qv : List KF} {gs : List V}
theorem HAt.keepM {M : List Addr} (h : HAt H p q) (k : Keep M H H') (n1 : p ∉ M) (n2 : q ∉ M) : HAt H' p q := by
  obtain ⟨m, k', ns, npq, hp, hq, r⟩ := h
  exact ⟨m, k', ns, npq, k _ _ n1 hp, k _ _ n2 hq, r⟩
theorem Sep.law (s : Sep p q c L A ps) (hC : CAt C CL H A ps room z ns m qv gs) (hA : HAt H p q) (lk : Lk (lM c L) (lM c L') H H') : Sep p q c L' A ps := by
  refine ⟨fun a ha hc => ?_, fun a ha => ?_, s.x3⟩
  · rcases lk.m a ha with e | e
    · exact s.x1 a e hc
    · obtain ⟨_, o, ho⟩ := hC.noT a hc
      rw [e] at ho; cases ho
  · rcases lk.m a ha with e | e
    · exact s.x2 a e
    · exact hA.fresh e
theorem Sep.cr (s : Sep p q c L A ps) (hL : LcAt H c L room z nl m mk) (hA : HAt H p q) (f : ∀ x ∈ cM A ps', x ∈ cM A ps ∨ H x = none) : Sep p q c L A ps' := by
  refine ⟨fun a ha hc => ?_, s.x2, fun a ha => ?_⟩
  · rcases f a hc with e | e
    · exact s.x1 a ha e
    · exact hL.fresh e ha
  · rcases f a ha with e | e
    · exact s.x3 a e
    · exact hA.fresh e
theorem Sep.hA_law (s : Sep p q c L A ps) (hA : HAt H p q) (k : Keep (lM c L) H H') : HAt H' p q := hA.keepM k (fun z => (s.x2 _ z).1 rfl) (fun z => (s.x2 _ z).2 rfl)
theorem Sep.hA_cr (s : Sep p q c L A ps) (hA : HAt H p q) (k : Keep (cM A ps) H H') : HAt H' p q := hA.keepM k (fun z => (s.x3 _ z).1 rfl) (fun z => (s.x3 _ z).2 rfl)
theorem Sep.hC_law (s : Sep p q c L A ps) (hL : LcAt H c L room z nl m mk) {m' : Cr} (hC : CAt C CL H A ps room z ns m' qv gs) (k : Keep (lM c L) H H') : CAt C CL H' A ps room z ns m' qv gs := hC.else k (k.ts fun a ha => (hL.here a ha).2) fun a ha z => s.x1 a z ha
theorem Sep.hL_cr (s : Sep p q c L A ps) (hC : CAt C CL H A ps room z ns m qv gs) {m' : Cr} (hL : LcAt H c L room z nl m' mk) (k : Keep (cM A ps) H H') : LcAt H' c L room z nl m' mk := hL.else k (k.ts fun a ha => (hC.noT a ha).1) fun a ha => s.x1 a ha
end
structure BoX (C CL : Addr) (z room : Nat) (p q c : Addr) (A : Ca) (B : Nat) (H : Hp) (L : La) (ps : List (Addr × Addr × Addr)) (nl : List Strm) (m : Cr) (qv : List KF) (gs : List V) : Prop where
  hA : HAt H p q
  hL : LcAt H c L room z nl m (mkl z nl)
  hC : CAt C CL H A ps room z (nl.map sS) m qv gs
  be : Below m z (nl.map sS)
  good : Good z room B (kS0 m nl)
  sep : Sep p q c L A ps
def Bo (C CL : Addr) (z room : Nat) (p q c : Addr) (A : Ca) (B : Nat) (H : Hp) : Prop := ∃ L ps nl m qv gs, BoX C CL z room p q c A B H L ps nl m qv gs
section
variable {C CL : Addr} {H H' : Hp} {p q c : Addr} {L : La} {A : Ca} {ps : List (Addr × Addr × Addr)} {room z B : Nat} {nl : List Strm} {m : Cr} {qv : List KF} {gs : List V}
theorem BoX.drawn (h : BoX C CL z room p q c A B H L ps nl m qv gs) (hA : HAt H' p q) (k : Keep [p, q] H H') : BoX C CL z room p q c A B H' L ps nl m qv gs := by
  have t := k.ts h.hA.noT
  refine ⟨hA, h.hL.else k t fun a ha => ?_, h.hC.else k t fun a ha => ?_, h.be, h.good, h.sep⟩
  · have := h.sep.x2 a ha; simp [this.1, this.2]
  · have := h.sep.x3 a ha; simp [this.1, this.2]
theorem BoX.same (h : BoX C CL z room p q c A B H L ps nl m qv gs) (s : Same H H') : BoX C CL z room p q c A B H' L ps nl m qv gs := h.drawn (h.hA.keepM (Keep.of_same (M := []) s) (by simp) (by simp)) (Keep.of_same s)
theorem frms_len (z : Nat) (N : List Int) (S : List Nat) : (frms z N S).length = N.length / z := by
  unfold frms
  rw [List.length_map, List.length_range]
theorem tFrames_n {z : Nat} {n : Strm} {t : List Int} : (lays1' n t).1.length / z = n.1.length / z + (tFrames z (sS n) t).length := by
  have h : (lay1 (sS n) t).1.length = (lays1' n t).1.length := by
    rw [← sS_lays1]; rfl
  have hg : n.1.length / z ≤ (lays1' n t).1.length / z := Nat.div_le_div_right (by rw [lays1_len]; omega)
  unfold tFrames
  rw [List.length_drop, frms_len, h]
  show _ = n.1.length / z + ((lays1' n t).1.length / z - n.1.length / z)
  omega
theorem mkl_set (z : Nat) (nl : List Strm) (s : Nat) (n' : Strm) (v : Nat) (e : n'.1.length / z = v) : (mkl z nl).set s v = mkl z (nl.set s n') := by
  unfold mkl
  rw [List.map_set, e]
theorem good0 {k : Sk} (h : Good z room B k) : Good z room B (kS0 k.m k.sl) :=
  ⟨h.four, h.lay, h.big, h.okm, h.r60, h.q, fun x hx => (by cases hx), List.nodup_nil, fun x hx => (by cases hx), fun x hx => (by cases hx), fun x hx => (by cases hx), h.gl, Nat.zero_le _, Nat.zero_le _, Nat.zero_le _⟩
theorem ns_set0 (nl : List Strm) (s : Nat) (n : Strm) (t : List Int) : (nl.map sS).set s (lay1 (sS n) t) = (nl.set s (lays1' n t)).map sS := by
  rw [List.map_set, sS_lays1]
theorem ns_pad0 (z : Nat) (nl : List Strm) (s : Nat) (n : Strm) : (nl.map sS).set s (padN z (sS n).1, (sS n).2) = (nl.set s (padS z n)).map sS := by
  rw [List.map_set, sS_pad]
theorem padS_0 {z : Nat} {n : Strm} (e : n.1.length % z = 0) : padS z n = n := by
  unfold padS padN
  rw [if_pos e]
theorem padS_1 {z : Nat} {n : Strm} (hz : 0 < z) (e : n.1.length % z ≠ 0) : (padS z n).1.length / z = n.1.length / z + 1 := by
  show (padN z n.1).length / z = _
  rw [padN_length hz, if_neg e]
  rw [show n.1.length / z * z + z = (n.1.length / z + 1) * z by rw [Nat.add_mul, Nat.one_mul]]
  exact Nat.mul_div_cancel _ hz
theorem dok_f {n : Nat} {st : Int} {f : Frm} (l : f.2.2.length ≤ 100) : DOk (n + 2) (frmD st f) := DOk.tuple (show 4 ≤ 10000000 by decide) fun e he => by
  simp only [List.mem_cons, List.not_mem_nil, or_false] at he
  rcases he with e | e | e | e <;> rw [e]
  · exact DOk.int _
  · exact DOk.int _
  · exact DOk.opt _
  · exact DOk.tl (by omega)
theorem dok_m {n : Nat} (k : Nat × Nat) : DOk (n + 1) (mD2 k) := DOk.tuple (show 2 ≤ 10000000 by decide) fun e he => by
  simp only [List.mem_cons, List.not_mem_nil, or_false] at he
  rcases he with e | e <;> rw [e] <;> exact DOk.int _
theorem BoX.else (h : BoX C CL z room p q c A B H L ps nl m qv gs) {N : List Addr} (k : Keep N H H') (t : TSm H H') (n1 : ∀ a ∈ lM c L, a ∉ N) (n2 : ∀ a ∈ cM A ps, a ∉ N) (n3 : p ∉ N ∧ q ∉ N) : BoX C CL z room p q c A B H' L ps nl m qv gs :=
  ⟨h.hA.keepM k n3.1 n3.2, h.hL.else k t n1, h.hC.else k t n2, h.be, h.good, h.sep⟩
theorem BoX.fresh (h : BoX C CL z room p q c A B H L ps nl m qv gs) {a : Addr} (e : H a = none) : a ∉ lM c L ∧ a ∉ cM A ps ∧ a ≠ p ∧ a ≠ q :=
  ⟨h.hL.fresh e, fun z => (by obtain ⟨_, o, ho⟩ := h.hC.noT a z; rw [e] at ho; cases ho), h.hA.fresh e⟩
theorem rep_int (n : Nat) (a : Int) : (List.replicate n [V.int a]).flatten = (List.replicate n a).map V.int := by
  induction n with
  | zero => rfl
  | succ n ih => rw [List.replicate_succ, List.replicate_succ, List.flatten_cons, ih]; rfl
theorem rep_ok {n : Nat} {a : Int} (h1 : 1 ≤ n) (h2 : n ≤ 20) (a0 : 0 ≤ a) (a1 : a ≤ 255) : tellOk (List.replicate n a) := by
  refine ⟨by rw [List.length_replicate]; exact h1, by rw [List.length_replicate]; exact h2, fun x hx => ?_⟩
  rw [(List.mem_replicate.mp hx).2]
  exact ⟨a0, a1⟩
end
end K04

namespace K04
open PySem PySem.Spec PyProof.Rows L2 Sky
section
variable {P : Program} {w : World} {K : PySem.W.Frag} {mg : Str → Option Value} {base : Heap}
def sp_lcraft : Sp := fun vs H Q _ => ∃ z room : Nat, vs = [.int (z : Nat), .int (room : Nat)] ∧ ∀ c L H', LcAt H' c L room z (List.replicate 4 ([], [])) Cr.new (List.replicate 4 0) → (∀ a ∈ lM c L, H a = none) → Same H H' → Q (.ref c) H'
theorem ok_law_craft (T : Tx K mg) : FnOk P w K mg base CX0 2 T.a_law_craft T.d_law_craft ["_law_size", "_law_room"] sp_lcraft := by
  have nd := sc_law_craft.nd
  refine T.F_law_craft.ok sc_law_craft (fun vs H Q E h => ?_) (fun cdv A0 outer s0 H vs Q E hr h => ?_)
  · obtain ⟨_, _, rfl, _⟩ := h
    rfl
  · obtain ⟨z, room, rfl, fin⟩ := h
    refine ⟨_, (pss_cons (ps_set (i := 2) nd rfl (Or.inl rfl) (pe_disp (pps_cons pe_str (pv 1) (pps_cons pe_str (pe_lc (own := [("_law_k", 3)]) rfl nd (pi_range1 rfl T.z_range (pa_cons pe_int pa_nil)) (blkOk_by (own := [("_law_k", 3)]) (N := N_law_craft) (sc := defScope s_law_craft) (by decide +kernel)) (fun _ _ _ _ _ => (pg_name (i := 3) nd rfl (Or.inl rfl))) (fun _ _ _ _ _ => pts_nil) (fun _ _ _ _ _ => (pe_call (ok_law_fresh T) (hr.mono (by decide)) (by rfl) T.m_law_fresh T.F_law_fresh.kp T.b_law_fresh .nil pass0 (pa_cons (pv 0) pa_nil)))) (pps_cons pe_str (pe_lst pa_nil) (pps_cons pe_str (pe_lst pa_nil) (pps_cons pe_str (pe_lst pa_nil) pps_nil))))) (by rfl) (by rfl) (fun z => by cases z) (by decide))) (pss_cons (ps_expr (pe_bm PySem.F.plainAttrs_dict PySem.F.slot_dict_update PySem.F.type_dict_update mt_updK (pv 2) (pa_cons (pe_disp (pps_cons pe_str pe_bl (pps_cons pe_str (pe_op op_rep (pe_lst (pa_cons pe_int pa_nil)) pe_int) pps_nil)) (by rfl) (by rfl) (fun z => by cases z) (by decide)) pa_nil))) (pss_one (ps_ret (pv 2))))), ?_⟩
    intro c hc
    refine ⟨_, rfl, 4, rfl, by decide, by decide, fun D nD => ?_⟩
    refine lc_range (lo := 0) (n := 4) (fun i H' => ∃ (rs : List (Addr × Addr × Addr)), H' D = some (.lst (rs.map fun r => V.ref r.1)) ∧ rs.length = i ∧ (∀ r ∈ rs, SAt H' r.1 r.2.1 r.2.2 z [] [] ∧ upd H c (.dK []) r.1 = none ∧ upd H c (.dK []) r.2.1 = none ∧ upd H c (.dK []) r.2.2 = none ∧ D ≠ r.2.1 ∧ D ≠ r.2.2) ∧ (∀ (j k : Nat) r r', j ≠ k → rs[j]? = some r → rs[k]? = some r' → r.2.1 ≠ r'.2.1 ∧ r.2.1 ≠ r'.2.2 ∧ r.2.2 ≠ r'.2.1 ∧ r.2.2 ≠ r'.2.2) ∧ Same (upd H c (.dK [])) H') ⟨[], upd_same, rfl, by simp, by simp, same_new (Same.refl _) nD⟩ ?_ ?_
    · rintro i H1 hi ⟨rs, hD, hl, hrs, hrr, s1⟩
      refine ⟨rfl, _, rfl, z, rfl, fun s ln ls H2 hS ns nln nls s2 => ?_⟩
      have hD2 := s2 _ _ hD
      have s3 : Same (upd H c (.dK [])) H2 := s1.trans s2
      have tt : TSm H2 (upd H2 D (.lst (rs.map (fun r => V.ref r.1) ++ [.ref s]))) := ts_upd (TSm.refl _) (NoT.lst hD2)
      have kD : Keep [D] H2 (upd H2 D (.lst (rs.map (fun r => V.ref r.1) ++ [.ref s]))) := keep_upd (Keep.refl _ _) (by simp)
      have gone : ∀ a o, H1 a = some o → a ≠ s ∧ a ≠ ln ∧ a ≠ ls := fun a o e => ⟨ne_of_none e ns, ne_of_none e nln, ne_of_none e nls⟩
      have nDl := gone _ _ hD
      refine ⟨_, hD2, lt_line (by rw [List.length_map]; omega), rs ++ [(s, ln, ls)], by rw [List.map_append]; exact upd_same, by rw [List.length_append, hl]; rfl, fun r hr => ?_, fun j k r r' hjk hr hr' => ?_, same_mut s3 nD⟩
      · rcases List.mem_append.mp hr with e | e
        · obtain ⟨h1, h2⟩ := hrs r e
          have h3 := h1.keep s2
          exact ⟨h3.else kD tt (by simp; exact fun z => by rw [z] at h3; have := h3.d; rw [hD2] at this; cases this) (by simp [h2.2.2.2.1.symm]) (by simp [h2.2.2.2.2.symm]), h2⟩
        · rw [List.mem_singleton.mp e]
          exact ⟨hS.else kD tt (by simp [nDl.1.symm]) (by simp [nDl.2.1.symm]) (by simp [nDl.2.2.symm]), s1.free ns, s1.free nln, s1.free nls, nDl.2.1, nDl.2.2⟩
      · have hx : ∀ r ∈ rs, (r.2.1 ≠ ln ∧ r.2.1 ≠ ls) ∧ r.2.2 ≠ ln ∧ r.2.2 ≠ ls := fun r hr => by
          obtain ⟨h1, _⟩ := hrs r hr
          obtain ⟨xs, h4⟩ := h1.lst
          exact ⟨(gone _ _ h1.n).2, (gone _ _ h4).2⟩
        rcases get_snoc hr with ⟨l1, e1⟩ | ⟨l1, e1⟩ <;> rcases get_snoc hr' with ⟨l2, e2⟩ | ⟨l2, e2⟩
        · exact hrr j k r r' hjk e1 e2
        · obtain ⟨⟨a1, a2⟩, a3, a4⟩ := hx r (List.mem_of_getElem? e1)
          rw [e2]; exact ⟨a1, a2, a3, a4⟩
        · obtain ⟨⟨a1, a2⟩, a3, a4⟩ := hx r' (List.mem_of_getElem? e2)
          rw [e1]; exact ⟨a1.symm, a3.symm, a2.symm, a4.symm⟩
        · omega
    rintro H1 ⟨rs, hD, hl, hrs, hrr, s1⟩
    refine ⟨Nat.zero_le _, fun st nst => ⟨Nat.zero_le _, fun ak nak => ⟨Nat.zero_le _, fun lo nlo => ?_⟩⟩⟩
    have hc0 : upd H c (.dK []) c = some (.dK []) := upd_same
    have hc1 := s1 _ _ hc0
    have ncD : c ≠ D := ne_of_none hc0 nD
    have S1 : Same H H1 := (same_mut (Same.refl H) hc).trans s1
    have ncs : c ≠ st := ne_of_none hc1 nst
    have nDs : D ≠ st := ne_of_none hD nst
    have est : upd H1 st (.lst []) st = some (.lst []) := upd_same
    have q2 := same_new (Same.refl H1) nst (o := .lst [])
    generalize upd H1 st (.lst []) = H2 at *
    have nca : c ≠ ak := ne_of_none (q2 _ _ hc1) nak
    have nDa : D ≠ ak := ne_of_none (q2 _ _ hD) nak
    have nsa : st ≠ ak := ne_of_none est nak
    have eak : upd H2 ak (.lst []) ak = some (.lst []) := upd_same
    have q3 := same_new (Same.refl H2) nak (o := .lst [])
    generalize upd H2 ak (.lst []) = H3 at *
    have q23 := q2.trans q3
    have ncl : c ≠ lo := ne_of_none (q23 _ _ hc1) nlo
    have nDl : D ≠ lo := ne_of_none (q23 _ _ hD) nlo
    have nsl : st ≠ lo := ne_of_none (q3 _ _ est) nlo
    have nal : ak ≠ lo := ne_of_none eak nlo
    have elo : upd H3 lo (.lst []) lo = some (.lst []) := upd_same
    have q4 := same_new (Same.refl H3) nlo (o := .lst [])
    generalize upd H3 lo (.lst []) = H4 at *
    have q24 := q23.trans q4
    have fr : ∀ a, H4 a = none → H a = none := fun a e => S1.free (q24.free e)
    obtain ⟨L0, eL0⟩ : ∃ L0 : La, L0 = ⟨D, st, ak, lo, lo, rs⟩ := ⟨_, rfl⟩
    refine ⟨q24 _ _ hc1, lcd5 room L0, by rw [eL0]; rfl, (by decide : (5 : Nat) ≤ 15), ?_⟩
    rw [lcd5_merge]
    have hc5 : upd H4 c (.dK (lcd5 room L0)) c = some (.dK (lcd5 room L0)) := upd_same
    have S5 : Same H (upd H4 c (.dK (lcd5 room L0))) := same_mut (S1.trans q24) hc
    have kp5 : ∀ a o, a ≠ c → H4 a = some o → upd H4 c (.dK (lcd5 room L0)) a = some o := fun a o n e => by rw [upd_ne n]; exact e
    have kc : Keep [c] H4 (upd H4 c (.dK (lcd5 room L0))) := keep_upd (Keep.refl _ _) (by simp)
    have kt : TSm H4 (upd H4 c (.dK (lcd5 room L0))) := ts_upd (TSm.refl _) (NoT.dK (q24 _ _ hc1))
    have hD5 := kp5 _ _ ncD.symm (q24 _ _ hD)
    have hs5 := kp5 _ _ ncs.symm ((q3.trans q4) _ _ est)
    have ha5 := kp5 _ _ nca.symm (q4 _ _ eak)
    have hl5 := kp5 _ _ ncl.symm elo
    have rows5 : ∀ r ∈ rs, SAt (upd H4 c (.dK (lcd5 room L0))) r.1 r.2.1 r.2.2 z [] [] := fun r hr => by
      obtain ⟨h1, h2, h3, h4, _⟩ := hrs r hr
      exact (h1.keep q24).else kc kt (by simp; exact fun z => by rw [z, hc0] at h2; cases h2) (by simp; exact fun z => by rw [z, hc0] at h3; cases h3) (by simp; exact fun z => by rw [z, hc0] at h4; cases h4)
    generalize upd H4 c (.dK (lcd5 room L0)) = H5 at *
    refine ⟨_, rfl, .inr (.inr (.inl ⟨rfl, .inl ⟨_, hc5⟩⟩)), fun p np => ⟨(by decide : (1 : Nat) ≤ sizeLine), fun o no => ?_⟩⟩
    have ncp : c ≠ p := ne_of_none hc5 np
    have ep : upd H5 p (.dK []) p = some (.dK []) := upd_same
    have q6 := same_new (Same.refl H5) np (o := .dK [])
    have np0 := fr _ (by
      have : H4 p = none := by
        cases h : H4 p with
        | none => rfl
        | some u => have := kp5 p u ncp.symm h; rw [np] at this; cases this
      exact this)
    generalize upd H5 p (.dK []) = H6 at *
    have npo : p ≠ o := ne_of_none ep no
    have eo : upd H6 o (.lst [.int 0]) o = some (.lst [.int 0]) := upd_same
    have q7 := same_new (Same.refl H6) no (o := .lst [.int 0])
    generalize upd H6 o (.lst [.int 0]) = H7 at *
    refine ⟨o, 4, [.int 0], rfl, rfl, eo, by decide, by decide, by decide, fun md nmd => ?_⟩
    have q67 := q6.trans q7
    have npm : p ≠ md := ne_of_none (q7 _ _ ep) nmd
    have e4 : (List.replicate (Int.toNat 4) [V.int 0]).flatten = ((List.replicate 4 0).map fun n : Nat => V.int (n : Int)) := rfl
    rw [e4]
    have q8 := same_new (Same.refl H7) nmd (o := .lst ((List.replicate 4 0).map fun n : Nat => V.int (n : Int)))
    have emd : upd H7 md (.lst ((List.replicate 4 0).map fun n : Nat => V.int (n : Int))) md = some (.lst ((List.replicate 4 0).map fun n : Nat => V.int (n : Int))) := upd_same
    have q57 := q67
    have mc : c ≠ md := ne_of_none (q67 _ _ hc5) nmd
    have mD : D ≠ md := ne_of_none (q67 _ _ hD5) nmd
    have ms : st ≠ md := ne_of_none (q67 _ _ hs5) nmd
    have ma : ak ≠ md := ne_of_none (q67 _ _ ha5) nmd
    have ml : lo ≠ md := ne_of_none (q67 _ _ hl5) nmd
    have nmd5 : H5 md = none := q67.free nmd
    have mr : ∀ r ∈ rs, r.2.1 ≠ md ∧ r.2.2 ≠ md := fun r hr => by
      have h1 := (rows5 r hr).keep q67
      obtain ⟨xs, h2⟩ := h1.lst
      exact ⟨ne_of_none h1.n nmd, ne_of_none h2 nmd⟩
    have q58 := q67.trans q8
    generalize upd H7 md (.lst ((List.replicate 4 0).map fun n : Nat => V.int (n : Int))) = H8 at *
    refine ⟨(q7.trans q8) _ _ ep, lcd2 md false, rfl, (by decide : (2 : Nat) ≤ 15), ?_⟩
    rw [lcd2_merge]
    have hc8 := q58 _ _ hc5
    have k9 : Keep [c, p] H8 (upd H8 p (.dK (lcd2 md false))) := keep_upd (Keep.refl _ _) (by simp)
    refine ⟨c, p, lcd5 room L0, lcd2 md false, rfl, rfl, ncp, by rw [upd_ne ncp]; exact hc8, upd_same, (by show 7 ≤ sizeLine; decide), ?_⟩
    have em : mergeK (lcd5 room L0) (lcd2 md false) = lcd room ⟨D, st, ak, lo, md, rs⟩ false := by
      rw [eL0]
      exact lcd_merge (L := ⟨D, st, ak, lo, md, rs⟩)
    rw [em]
    have t9 : TSm H8 (upd (upd H8 p (.dK (lcd2 md false))) c (.dK (lcd room ⟨D, st, ak, lo, md, rs⟩ false))) := ts_upd (ts_upd (TSm.refl _) (NoT.dK ((q7.trans q8) _ _ ep))) (NoT.dK (by rw [upd_ne ncp]; exact hc8))
    have k10 : Keep [c, p] H8 (upd (upd H8 p (.dK (lcd2 md false))) c (.dK (lcd room ⟨D, st, ak, lo, md, rs⟩ false))) := keep_upd k9 (by simp)
    have S9 : Same H (upd (upd H8 p (.dK (lcd2 md false))) c (.dK (lcd room ⟨D, st, ak, lo, md, rs⟩ false))) := same_mut (same_mut (S5.trans q58) np0) hc
    have ecc : upd (upd H8 p (.dK (lcd2 md false))) c (.dK (lcd room ⟨D, st, ak, lo, md, rs⟩ false)) c = some (.dK (lcd room ⟨D, st, ak, lo, md, rs⟩ false)) := upd_same
    generalize upd (upd H8 p (.dK (lcd2 md false))) c (.dK (lcd room ⟨D, st, ak, lo, md, rs⟩ false)) = H10 at *
    have lst10 : ∀ a xs, a ≠ c → H5 a = some (.lst xs) → H10 a = some (.lst xs) := fun a xs n e => k10 _ _ (by
      simp only [List.mem_cons, List.not_mem_nil, or_false, not_or]
      exact ⟨n, fun z => by rw [z, np] at e; cases e⟩) (q58 _ _ e)
    have hm10 : H10 md = some (.lst ((List.replicate 4 0).map fun n : Nat => V.int (n : Int))) := k10 _ _ (by simp [mc.symm, npm.symm]) emd
    refine ⟨_, rfl, fin c ⟨D, st, ak, lo, md, rs⟩ H10 ⟨ecc, lst10 _ _ ncD.symm hD5, hl, rfl, rfl, fun i r n hr hn => ?_, ⟨[], lst10 _ _ ncs.symm hs5, .nil⟩, ⟨[], lst10 _ _ nca.symm ha5, .nil⟩, ⟨[], lst10 _ _ ncl.symm hl5, .nil⟩, hm10, ⟨nDs, nDa, nDl, mD, nsa, nsl, ms, nal, ma, ml⟩, fun r hr => ?_, hrr⟩ ?_ S9⟩
    · have hm := List.mem_of_getElem? hr
      obtain ⟨_, en⟩ := List.mem_replicate.mp (List.mem_of_getElem? hn)
      subst en
      obtain ⟨_, h2, h3, h4, _⟩ := hrs r hm
      have h5 := rows5 r hm
      obtain ⟨xs, h6⟩ := h5.lst
      refine (h5.keep q58).else k10 t9 ?_ ?_ ?_ <;> simp only [List.mem_cons, List.not_mem_nil, or_false, not_or]
      · exact ⟨fun z => (by rw [z, hc0] at h2; cases h2), ne_of_none h5.d np⟩
      · exact ⟨fun z => (by rw [z, hc0] at h3; cases h3), ne_of_none h5.n np⟩
      · exact ⟨fun z => (by rw [z, hc0] at h4; cases h4), ne_of_none h6 np⟩
    · obtain ⟨h1, _, _, _, g1, g2⟩ := hrs r hr
      obtain ⟨xs, h6⟩ := h1.lst
      obtain ⟨m1, m2⟩ := mr r hr
      simp only [five, List.mem_cons, List.not_mem_nil, or_false, not_or]
      exact ⟨⟨g1.symm, ne_of_none h1.n nst, ne_of_none (q2 _ _ h1.n) nak, ne_of_none (q23 _ _ h1.n) nlo, m1⟩, g2.symm, ne_of_none h6 nst, ne_of_none (q2 _ _ h6) nak, ne_of_none (q23 _ _ h6) nlo, m2⟩
    · have un : ∀ a, upd H c (.dK []) a = none → H a = none := fun a e => by
        rw [upd_ne (fun z => by rw [z, hc0] at e; cases e)] at e
        exact e
      intro a ha
      rcases List.mem_cons.mp ha with e | ha
      · rw [e]; exact hc
      · rcases List.mem_append.mp ha with ha | ha
        · simp only [five, List.mem_cons, List.not_mem_nil, or_false] at ha
          rcases ha with e | e | e | e | e <;> rw [e]
          · exact un _ nD
          · exact S1.free nst
          · exact S1.free (q2.free nak)
          · exact S1.free (q23.free nlo)
          · exact S5.free nmd5
        · rcases List.mem_append.mp ha with ha | ha
          · obtain ⟨r, hr, rfl⟩ := List.mem_map.mp ha
            exact un _ (hrs r hr).2.1
          · rcases List.mem_append.mp ha with ha | ha
            · obtain ⟨r, hr, rfl⟩ := List.mem_map.mp ha
              exact un _ (hrs r hr).2.2.1
            · obtain ⟨r, hr, rfl⟩ := List.mem_map.mp ha
              exact un _ (hrs r hr).2.2.2.1
end
end K04

namespace K04
open PySem PySem.Spec PyProof.Rows L2 Sky
theorem room_eq {m : Cr} {y0 : Nat × Frm} {rest : List (Nat × Frm)} (e : (m.q.filter fun x => decide (mkOf x ∈ m.sent)) ++ m.q = y0 :: rest) : y0 ∈ m.q ∧ m.makeRoom = ⟨(m.letGo (mkOf y0)).q, (m.letGo (mkOf y0)).sent, (m.letGo (mkOf y0)).asked, m.gone ++ (if mkOf y0 ∈ m.sent then [] else [mkOf y0]), m.win⟩ := by
  cases hf : m.q.filter fun x => decide (mkOf x ∈ m.sent) with
  | nil =>
    rw [hf, List.nil_append] at e
    have h0 : y0 ∈ m.q := by rw [e]; exact List.mem_cons_self ..
    have hn : ¬ mkOf y0 ∈ m.sent := by
      have := List.filter_eq_nil_iff.mp hf y0 h0
      simpa using this
    refine ⟨h0, ?_⟩
    rw [if_neg hn]
    have h1 : m.old = [] := by rw [old_q, hf]; rfl
    have h2 : m.marks = mkOf y0 :: rest.map mkOf := by unfold Cr.marks; rw [e]; rfl
    unfold Cr.makeRoom
    rw [h1, h2]
    rfl
  | cons x r =>
    rw [hf] at e
    have e1 : x = y0 := by injection e
    subst e1
    have hm : x ∈ m.q.filter fun x => decide (mkOf x ∈ m.sent) := by rw [hf]; exact List.mem_cons_self ..
    obtain ⟨h0, h1⟩ := List.mem_filter.mp hm
    refine ⟨h0, ?_⟩
    rw [if_pos (of_decide_eq_true h1), List.append_nil]
    have h2 : m.old = mkOf x :: r.map mkOf := by rw [old_q, hf]; rfl
    unfold Cr.makeRoom
    rw [h2]
    rfl
theorem erase_qB : ∀ {q : List (Nat × Frm)} {j : Nat} {y0 : Nat × Frm}, (q.map mkOf).Nodup → q[j]? = some y0 → q.eraseIdx j = q.filter fun x => !decide (mkOf x = mkOf y0)
  | [], _, _, _, h => by cases h
  | x :: r, 0, y0, nd, h => by
    have e : x = y0 := Option.some.inj h
    subst e
    rw [List.filter_cons_of_neg (by simp), List.eraseIdx_cons_zero]
    rw [List.map_cons, List.nodup_cons] at nd
    refine (List.filter_eq_self.mpr fun y hy => ?_).symm
    have : ¬ mkOf y = mkOf x := fun z => nd.1 (by rw [← z]; exact List.mem_map.mpr ⟨y, hy, rfl⟩)
    rw [decide_eq_false this]; rfl
  | x :: r, j + 1, y0, nd, h => by
    rw [List.map_cons, List.nodup_cons] at nd
    have h' : r[j]? = some y0 := h
    have hx : ¬ mkOf x = mkOf y0 := fun z => nd.1 (by rw [z]; exact List.mem_map.mpr ⟨y0, List.mem_of_getElem? h', rfl⟩)
    rw [List.eraseIdx_cons_succ, List.filter_cons_of_pos (by rw [decide_eq_false hx]; rfl), erase_qB nd.2 h']
theorem erase_q {m : Cr} {j : Nat} {y0 : Nat × Frm} (nd : m.marks.Nodup) (h : m.q[j]? = some y0) : m.q.eraseIdx j = (m.letGo (mkOf y0)).q := by
  rw [erase_qB nd h]
  show _ = m.q.filter (fun x => decide (mkOf x ≠ mkOf y0))
  refine List.filter_congr fun x _ => ?_
  exact decide_not.symm
theorem map_erase {α β : Type} (f : α → β) : ∀ (l : List α) (j : Nat), (l.map f).eraseIdx j = (l.eraseIdx j).map f
  | [], _ => rfl
  | _ :: _, 0 => rfl
  | x :: r, j + 1 => by
    show f x :: (r.map f).eraseIdx j = f x :: (r.eraseIdx j).map f
    rw [map_erase f r j]
theorem go_pair {m : Cr} {g : List (Nat × Nat)} {k : Nat × Nat} {x : Nat × Frm} (h : mkOf x ≠ k) : pairD { m.letGo k with gone := g } x = pairD m x := by
  unfold pairD
  have : mkOf x ∈ ({ m.letGo k with gone := g } : Cr).sent ↔ mkOf x ∈ m.sent := by
    show mkOf x ∈ m.sent.filter (fun j => decide (j ≠ k)) ↔ _
    rw [List.mem_filter]
    exact ⟨fun z => z.1, fun z => ⟨z, decide_eq_true h⟩⟩
  simp only [this]
theorem put_pair {m : Cr} {y : Nat × Frm} : pairD (m.put y) = pairD m := rfl
def roomed (room : Nat) (m : Cr) : Cr := if m.q.length = room then m.makeRoom else m
theorem keep_eq (room : Nat) (m : Cr) (x : Nat × Frm) : m.keep room x = (roomed room m).put x := by
  unfold Cr.keep roomed
  split <;> rfl
section
variable {P : Program} {w : World} {K : PySem.W.Frag} {mg : Str → Option Value} {base : Heap}
def sp_lkeeps : Sp := fun vs H Q _ => ∃ (c : Addr) (L : La) (room z : Nat) (nl : List Strm) (m : Cr) (mk : List Nat) (s a : Nat) (n : Strm) (fs : List Frm), vs = [.ref c, .int (s : Nat)] ∧ LcAt H c L room z nl m mk ∧ m.Ok room ∧ 1 ≤ room ∧ room ≤ 60 ∧ 0 < z ∧ z ≤ 100 ∧ nl[s]? = some n ∧ mk[s]? = some a ∧ n.1.length / z = a + fs.length ∧
  (∀ (i : Nat) f, fs[i]? = some f → f.1 = a + i) ∧ (∀ x ∈ m.q, x.1 = s → x.2.1 < a) ∧ m.gone.length + fs.length ≤ 1000000 ∧
  ∀ L' H', LcAt H' c L' room z nl (m.keeps room s fs) (mk.set s (a + fs.length)) → Lk (lM c L) (lM c L') H H' → Q .non H'
theorem ok_law_keeps (T : Tx K mg) : FnOk P w K mg base CX0 2 T.a_law_keeps T.d_law_keeps ["_law_c", "_law_stream"] sp_lkeeps := by
  have nd := sc_law_keeps.nd
  refine T.F_law_keeps.ok sc_law_keeps (fun vs H Q E h => ?_) (fun cdv A0 outer s0 H vs Q E hr h => ?_)
  · obtain ⟨_, _, _, _, _, _, _, _, _, _, _, rfl, _⟩ := h
    rfl
  · obtain ⟨c, L, room, z, nl, m, mk, s, a, n, fs, rfl, hL, ok, hr1, hr60, hz0, hz100, hn, ha, hfl, hfs, hq, hg, fin⟩ := h
    refine ⟨_, (pss_one (ps_while PassesOwn.never (pt_cmpR op_lt (pe_ix ix_list (pe_dget (hu_of hr) (pv 0) pe_str (fun _ _ => rfl)) (pv 1) (fun _ _ => rfl)) (pe_call (ok_law_many T) (hr.mono (by decide)) (by rfl) T.m_law_many T.F_law_many.kp T.b_law_many .nil pass0 (pa_cons (pe_ix ix_list (pe_dget (hu_of hr) (pv 0) pe_str (fun _ _ => rfl)) (pv 1) (fun _ _ => rfl)) pa_nil)) (nomark _)) (pss_cons (ps_if (pt_cmpR op_eq (pe_callB call_len_seq (by rfl) T.z_len PySem.boot_len (pa_cons (pe_dget (hu_of hr) (pv 0) pe_str (fun _ _ => rfl)) pa_nil)) (pe_dget (hu_of hr) (pv 0) pe_str (fun _ _ => rfl)) (nomark _)) (pss_cons (ps_setLc (i := 2) (own := [("_law_pair", 4)]) rfl nd rfl rfl (sw_true rfl rfl rfl (by decide +kernel)) (pi_list (pe_dget (hu_of hr) (pv 0) pe_str (fun _ _ => rfl))) (blkOk_by (own := [("_law_pair", 4)]) (N := N_law_keeps) (sc := defScope s_law_keeps) (by decide +kernel)) (fun _ _ _ _ _ => (pg_name (i := 4) nd rfl (Or.inl rfl))) (fun _ _ _ _ _ => (pts_one (pt_cmpR op_eq (pe_ix (ix_tupK (K := K) rfl) (pv 4) pe_int (fun _ _ => rfl)) pe_str (nomark _)))) (fun _ _ _ _ _ => (pv 4))) (pss_cons (ps_set (i := 3) nd rfl (Or.inr rfl) (pe_ix ix_list (pe_op op_cat (pv 2) (pe_dget (hu_of hr) (pv 0) pe_str (fun _ _ => rfl))) pe_int (fun _ _ => rfl))) (pss_cons (ps_expr (pe_bm PySem.F.plainAttrs_list PySem.F.slot_list_remove PySem.F.type_list_remove (mt_removeD (u65 hr)) (pe_dget (hu_of hr) (pv 0) pe_str (fun _ _ => rfl)) (pa_cons (pv 3) pa_nil))) (pss_cons (ps_asg (pe_lc (own := [("_law_mark", 5)]) rfl nd (pi_list (pe_dget (hu_of hr) (pv 0) pe_str (fun _ _ => rfl))) (blkOk_by (own := [("_law_mark", 5)]) (N := N_law_keeps) (sc := defScope s_law_keeps) (by decide +kernel)) (fun _ _ _ _ _ => (pg_name (i := 5) nd rfl (Or.inl rfl))) (fun _ _ _ _ _ => (pts_one (pt_cmpR (op_neDK (K := K) rfl hr.units) (pv 5) (pe_ix (ix_tupK (K := K) rfl) (pv 3) pe_int (fun _ _ => rfl)) (nomark _)))) (fun _ _ _ _ _ => (pv 5))) (pg_sub (pv 0) pe_str (set_dict (hu_of hr)))) (pss_one (ps_asg (pe_op op_cat (pe_dget (hu_of hr) (pv 0) pe_str (fun _ _ => rfl)) (pe_op op_rep (pe_lst (pa_cons (pe_ix ix_tup (pv 3) pe_int (fun _ _ => rfl)) pa_nil)) (pe_callTy call_int1 (by rfl) T.z_int (by decide +kernel) (pa_cons (pe_cmpR op_eq (pe_ix ix_tup (pv 3) pe_int (fun _ _ => rfl)) pe_str (nomark _)) pa_nil)))) (pg_sub (pv 0) pe_str (set_dict (hu_of hr))))))))) pss_nil) (pss_cons (ps_expr (pe_bm PySem.F.plainAttrs_list PySem.F.slot_list_append PySem.F.type_list_append mt_append (pe_dget (hu_of hr) (pv 0) pe_str (fun _ _ => rfl)) (pa_cons (pe_tup (pa_cons (pe_tup (pa_cons (pv 1) (pa_cons (pe_ix ix_list (pe_dget (hu_of hr) (pv 0) pe_str (fun _ _ => rfl)) (pv 1) (fun _ _ => rfl)) pa_nil))) (pa_cons pe_str pa_nil))) pa_nil))) (pss_one (ps_asg (pe_op op_add (pe_ix ix_list (pe_dget (hu_of hr) (pv 0) pe_str (fun _ _ => rfl)) (pv 1) (fun _ _ => rfl)) pe_int) (pg_sub (pe_dget (hu_of hr) (pv 0) pe_str (fun _ _ => rfl)) (pv 1) set_list))))))), ?_⟩
    have hs4 : s < 4 := by rw [← hL.m4]; exact (List.getElem?_eq_some_iff.mp ha).1
    refine ⟨fun r σ H' => ∃ (i : Nat) (L' : La) (w2 w3 : Option V), i + r = fs.length ∧ σ = [some (.ref c), some (.int (s : Nat)), w2, w3, none, none] ∧ LcAt H' c L' room z nl (m.keeps room s (fs.take i)) (mk.set s (a + i)) ∧ Lk (lM c L) (lM c L') H H' ∧ (m.keeps room s (fs.take i)).Ok room ∧ (∀ x ∈ (m.keeps room s (fs.take i)).q, x.1 = s → x.2.1 < a + i) ∧ (m.keeps room s (fs.take i)).gone.length ≤ m.gone.length + i, ⟨fs.length, 0, L, _, _, Nat.zero_add _, rfl, ?_, Lk.refl _ _, ok, hq, Nat.le_refl _⟩, ?_⟩
    · have e : mk.set s (a + 0) = mk := by
        rw [Nat.add_zero]
        obtain ⟨h1, h2⟩ := List.getElem?_eq_some_iff.mp ha
        rw [← h2]; exact List.set_getElem_self h1
      rw [e]; exact hL
    rintro r σ H1 ⟨i, L1, w2, w3, hi, rfl, hL1, lk1, ok1, hq1, hg1⟩
    obtain ⟨row, n', hrow, hn', hSA⟩ := hL1.row hs4
    rw [hn] at hn'
    cases hn'
    have hmki : (mk.set s (a + i))[s]? = some (a + i) := List.getElem?_set_self (by rw [hL.m4]; exact hs4)
    have hmv : ((mk.set s (a + i)).map fun n : Nat => V.int (n : Int))[s]? = some (.int ((a + i : Nat) : Int)) := by rw [List.getElem?_map, hmki]; rfl
    have hrv : (L1.rs.map fun r => V.ref r.1)[s]? = some (.ref row.1) := by rw [List.getElem?_map, hrow]; rfl
    refine ⟨_, rfl, c, _, rfl, g_made hL1.d, _, rfl, L1.md, _, _, _, rfl, rfl, SqL.of hL1.md, atI_nat hmv, _, rfl, c, _, rfl, g_streams hL1.d, _, rfl, L1.sl, _, _, _, rfl, rfl, SqL.of hL1.sl, atI_nat hrv, row.1, row.2.1, row.2.2, z, _, _, rfl, hSA, hz0, hz100, _, _, rfl, rfl, _, rfl, ?_⟩
    by_cases hlt : i < fs.length
    rotate_left
    · have hie : i = fs.length := by omega
      have ed : decide (((a + i : Nat) : Int) < ((n.1.length / z : Nat) : Int)) = false := decide_eq_false (by rw [hfl]; omega)
      rw [ed]
      refine iteF ?_
      rw [hie, List.take_length] at hL1
      exact fin L1 H1 hL1 lk1
    have ed : decide (((a + i : Nat) : Int) < ((n.1.length / z : Nat) : Int)) = true := decide_eq_true (by rw [hfl]; omega)
    rw [ed]
    obtain ⟨f, hf⟩ : ∃ f, fs[i]? = some f := ⟨fs[i], List.getElem?_eq_getElem hlt⟩
    have hf1 := hfs i f hf
    have ekp : m.keeps room s (fs.take (i + 1)) = (roomed room (m.keeps room s (fs.take i))).put (s, f) := by
      rw [List.take_add_one, hf, Option.toList_some, keeps_snoc, keep_eq]
    generalize m.keeps room s (fs.take i) = m1 at *
    generalize hmk1 : mk.set s (a + i) = mk1 at *
    refine iteT ⟨fun σ' H' => ∃ (L' : La) (w2 w3 : Option V), σ' = [some (.ref c), some (.int (s : Nat)), w2, w3, none, none] ∧ LcAt H' c L' room z nl ((roomed room m1).put (s, f)) (mk1.set s (a + (i + 1))) ∧ Lk (lM c L) (lM c L') H H' ∧ ((roomed room m1).put (s, f)).Ok room ∧ (∀ x ∈ ((roomed room m1).put (s, f)).q, x.1 = s → x.2.1 < a + (i + 1)) ∧ ((roomed room m1).put (s, f)).gone.length ≤ m.gone.length + (i + 1), ?_, ?_⟩
    · rintro σ' H' ⟨L2, v2, v3, rfl, hL2, lk2, ok2, hq2, hg2⟩
      refine ⟨r - 1, by omega, i + 1, L2, v2, v3, by omega, rfl, ?_, lk2, by rw [ekp]; exact ok2, by rw [ekp]; exact hq2, by rw [ekp]; exact hg2⟩
      rw [ekp]
      have e2 : mk1.set s (a + (i + 1)) = mk.set s (a + (i + 1)) := by rw [← hmk1, List.set_set]
      rw [← e2]; exact hL2
    -- room
    have hne : m1.q.length = room → m1.q ≠ [] := fun e z => by rw [z] at e; simp at e; omega
    have ok1r : (roomed room m1).Ok room ∧ (roomed room m1).q.length < room ∧ (∀ k ∈ (roomed room m1).marks, k ∈ m1.marks) ∧ (roomed room m1).win = m1.win := by
      unfold roomed
      split
      · rename_i e; exact ok1.room (hne e)
      · rename_i e; exact ⟨ok1, by have := ok1.few; omega, fun k h => h, rfl⟩
    have hnew : mkOf (s, f) ∉ m1.marks := fun z => by
      obtain ⟨x, hx, ex⟩ := List.mem_map.mp z
      have e1 : x.1 = s := congrArg Prod.fst ex
      have e2 : x.2.1 = f.1 := congrArg Prod.snd ex
      have := hq1 x hx e1
      omega
    refine seq_cut (fun σ' H' => ∃ (L' : La) (w2 w3 : Option V), σ' = [some (.ref c), some (.int (s : Nat)), w2, w3, none, none] ∧ LcAt H' c L' room z nl (roomed room m1) mk1 ∧ Lk (lM c L1) (lM c L') H1 H' ∧ (roomed room m1).gone.length ≤ m1.gone.length + 1) (fun σ' H2 ⟨L2, v2, v3, es, hL2, lk2, hg2⟩ => ?_) (fun D' rest => ?_)
    · subst es
      obtain ⟨okr, lessr, subr, winr⟩ := ok1r
      generalize hmr : roomed room m1 = mr at *
      obtain ⟨v4, h4, t4⟩ := hL2.st
      have hne2 := hL2.ne
      obtain ⟨b1, b2, b3, b4, b5, b6, b7, b8, b9, b10⟩ := hL2.a5
      have hmv2 : (mk1.map fun n : Nat => V.int (n : Int))[s]? = some (.int ((a + i : Nat) : Int)) := by rw [List.getElem?_map, hmki]; rfl
      have hvl : v4.length ≤ 60 := by rw [t4.length, List.length_map]; omega
      refine ⟨_, rfl, c, _, rfl, g_store hL2.d, .inl ⟨rfl, _, SqL.of h4⟩, _, rfl, _, rfl, c, _, rfl, g_made hL2.d, _, rfl, L2.md, _, _, _, rfl, rfl, SqL.of hL2.md, atI_nat hmv2, (by decide : (2 : Nat) ≤ sizeLine), fun p1 np1 => ⟨(by decide : (2 : Nat) ≤ sizeLine), fun p2 np2 => ?_⟩⟩
      have q1 := same_new (Same.refl H2) np1 (o := .tup [.int (s : Nat), .int ((a + i : Nat) : Int)])
      have q2 := same_new (Same.refl _) np2 (o := .tup [.ref p1, .str "fresh"])
      have hns : ¬ mkOf (s, f) ∈ mr.sent := fun z => hnew (subr _ (okr.ss _ z))
      have tp : TD (upd (upd H2 p1 (.tup [.int (s : Nat), .int ((a + i : Nat) : Int)])) p2 (.tup [.ref p1, .str "fresh"])) (.ref p2) (pairD mr (s, f)) := by
        have e : pairD mr (s, f) = .tuple [mD2 (s, a + i), .str "fresh"] := by
          unfold pairD
          rw [if_neg hns]
          show PyData.tuple [mD2 (s, f.1), .str "fresh"] = _
          rw [hf1]
        rw [e]
        exact .tup upd_same (.cons (TD.mono (TSm.of_same q2) (.tup upd_same (.cons (.int _) (.cons (.int _) .nil)))) (.cons (.str _) .nil))
      have q12 := q1.trans q2
      have hL3 := hL2.same q12
      have h43 := q12 _ _ h4
      have t43 := t4.mono (TSm.of_same q12)
      generalize upd (upd H2 p1 (.tup [.int (s : Nat), .int ((a + i : Nat) : Int)])) p2 (.tup [.ref p1, .str "fresh"]) = H3 at *
      refine ⟨L2.st, v4, _, rfl, rfl, h43, lt_line (by omega), ?_⟩
      have k4 : Keep [L2.st, L2.md] H3 (upd H3 L2.st (.lst (v4 ++ [.ref p2]))) := keep_upd (Keep.refl _ _) (by simp)
      have tm4 : TSm H3 (upd H3 L2.st (.lst (v4 ++ [.ref p2]))) := ts_upd (TSm.refl _) (NoT.lst h43)
      have hs4' : upd H3 L2.st (.lst (v4 ++ [.ref p2])) L2.st = some (.lst (v4 ++ [.ref p2])) := upd_same
      have hm4 : upd H3 L2.st (.lst (v4 ++ [.ref p2])) L2.md = some (.lst (mk1.map fun n : Nat => V.int (n : Int))) := by rw [upd_ne b7.symm]; exact hL3.md
      have d4 : Dom H3 (upd H3 L2.st (.lst (v4 ++ [.ref p2]))) := dom_upd _ _ _
      have hc4 : upd H3 L2.st (.lst (v4 ++ [.ref p2])) c = some (.dK (lcd room L2 mr.win)) := by rw [upd_ne (hne2.1 L2.st (by simp [five])).symm]; exact hL3.d
      generalize upd H3 L2.st (.lst (v4 ++ [.ref p2])) = H4 at *
      refine ⟨_, rfl, c, _, rfl, g_made hc4, _, rfl, L2.md, _, _, _, rfl, rfl, SqL.of hm4, atI_nat hmv2, _, 1, rfl, rfl, _, rfl, c, _, rfl, g_made hc4, _, rfl, L2.md, _, _, s, rfl, rfl, hm4, ?_, ?_⟩
      · have hl : s < (mk1.map fun n : Nat => V.int (n : Int)).length := by rw [List.length_map]; exact (List.getElem?_eq_some_iff.mp hmki).1
        unfold ixN
        rw [if_pos (by omega), if_pos (by omega)]
        simp
      have ev : ((mk1.map fun n : Nat => V.int (n : Int)).set s ((fun i j => V.int (i + j)) (((a + i : Nat) : Nat) : Int) 1)) = (mk1.set s (a + (i + 1))).map fun n : Nat => V.int (n : Int) := by
        rw [List.map_set]
        congr 1
      rw [ev]
      have k5 : Keep [L2.st, L2.md] H4 (upd H4 L2.md (.lst ((mk1.set s (a + (i + 1))).map fun n : Nat => V.int (n : Int)))) := keep_upd (Keep.refl _ _) (by simp)
      have tm5 : TSm H4 (upd H4 L2.md (.lst ((mk1.set s (a + (i + 1))).map fun n : Nat => V.int (n : Int)))) := ts_upd (TSm.refl _) (NoT.lst hm4)
      have d5 : Dom H4 (upd H4 L2.md (.lst ((mk1.set s (a + (i + 1))).map fun n : Nat => V.int (n : Int)))) := dom_upd _ _ _
      have hm5 : upd H4 L2.md (.lst ((mk1.set s (a + (i + 1))).map fun n : Nat => V.int (n : Int))) L2.md = some (.lst ((mk1.set s (a + (i + 1))).map fun n : Nat => V.int (n : Int))) := upd_same
      have hs5 : upd H4 L2.md (.lst ((mk1.set s (a + (i + 1))).map fun n : Nat => V.int (n : Int))) L2.st = some (.lst (v4 ++ [.ref p2])) := by rw [upd_ne b7]; exact hs4'
      have hc5 : upd H4 L2.md (.lst ((mk1.set s (a + (i + 1))).map fun n : Nat => V.int (n : Int))) c = some (.dK (lcd room L2 mr.win)) := by rw [upd_ne (hne2.1 L2.md (by simp [five])).symm]; exact hc4
      show ∃ L' w2 w3, _ = _ ∧ LcAt (upd H4 L2.md (.lst ((mk1.set s (a + (i + 1))).map fun n : Nat => V.int (n : Int)))) c L' room z nl (mr.put (s, f)) (mk1.set s (a + (i + 1))) ∧ Lk (lM c L) (lM c L') H (upd H4 L2.md (.lst ((mk1.set s (a + (i + 1))).map fun n : Nat => V.int (n : Int)))) ∧ _
      generalize upd H4 L2.md (.lst ((mk1.set s (a + (i + 1))).map fun n : Nat => V.int (n : Int))) = H5 at *
      have k35 : Keep [L2.st, L2.md] H3 H5 := k4.trans k5
      have tm35 : TSm H3 H5 := tm4.trans tm5
      obtain ⟨v6, h6, t6⟩ := hL3.ak
      obtain ⟨v7, h7, t7⟩ := hL3.lo
      have n6 : ∀ x, x ≠ L2.st → x ≠ L2.md → x ∉ [L2.st, L2.md] := fun x e1 e2 => by simp [e1, e2]
      refine ⟨L2, v2, v3, rfl, hL3.put (L' := L2) (N := [L2.st, L2.md]) rfl rfl k35 tm35 (n6 _ b1 b4) (fun r hr => ?_) hc5 (by rw [List.length_set]; exact hL3.m4) ⟨_, hs5, ?_⟩ ⟨v6, k35 _ _ (n6 _ b5.symm b9) h6, t6.mono tm35⟩ ⟨v7, k35 _ _ (n6 _ b6.symm b10) h7, t7.mono tm35⟩ hm5 hL3.a5 hL3.ar, ?_, okr.put (fun z => hnew (subr _ z)) lessr, fun x hx es => ?_, ?_⟩
      · obtain ⟨g1, g2⟩ := hL3.ar r hr
        obtain ⟨nn, hnn⟩ := hL3.rowOf hr
        have hd := hnn.d
        have hmd3 := hL3.md
        refine ⟨n6 _ (fun z => by rw [z, h43] at hd; cases hd) (fun z => by rw [z, hmd3] at hd; cases hd), n6 _ (fun z => g1 (by rw [z]; simp [five])) (fun z => g1 (by rw [z]; simp [five])), n6 _ (fun z => g2 (by rw [z]; simp [five])) (fun z => g2 (by rw [z]; simp [five]))⟩
      · show TDs H5 (v4 ++ [.ref p2]) ((mr.q ++ [(s, f)]).map (pairD (mr.put (s, f))))
        rw [put_pair, List.map_append]
        exact (t43.mono tm35).app (.one (tp.mono tm35))
      · have l12 : Lk (lM c L1) (lM c L2) H1 H5 := lk2.trans ((Lk.of_same q12).trans (Lk.in k35 (d4.trans d5) (by
          intro x hx
          simp only [List.mem_cons, List.not_mem_nil, or_false] at hx
          rcases hx with e | e <;> rw [e] <;> exact mem_5 (by simp [five]))))
        exact lk1.trans l12
      · rcases List.mem_append.mp hx with e | e
        · obtain ⟨x', hx', ex⟩ := List.mem_map.mp (subr (mkOf x) (List.mem_map.mpr ⟨x, e, rfl⟩))
          have e1 : x'.1 = x.1 := (congrArg Prod.fst ex : (mkOf x').1 = (mkOf x).1)
          have e2 : x'.2.1 = x.2.1 := (congrArg Prod.snd ex : (mkOf x').2 = (mkOf x).2)
          have := hq1 x' hx' (e1.trans es)
          omega
        · rw [List.mem_singleton.mp e]
          show f.1 < _
          omega
      · show mr.gone.length ≤ _
        omega
    obtain ⟨vst, hst, tst⟩ := hL1.st
    have hvl : vst.length = m1.q.length := by rw [tst.length, List.length_map]
    refine ⟨_, rfl, c, _, rfl, g_store hL1.d, L1.st, vst, rfl, .inl (SqL.of hst), _, rfl, c, _, rfl, g_room hL1.d, rfl, _, rfl, ?_⟩
    by_cases hfull : m1.q.length = room
    rotate_left
    · have ed : decide (V.int ((vst.length : Nat) : Int) = V.int (room : Nat)) = false := decide_eq_false fun z => by
        injection z with z
        omega
      rw [ed]
      have er : roomed room m1 = m1 := if_neg hfull
      exact iteF (rest _ _ ⟨L1, _, _, rfl, by rw [er]; exact hL1, Lk.refl _ _, by rw [er]; omega⟩)
    have ed : decide (V.int ((vst.length : Nat) : Int) = V.int (room : Nat)) = true := decide_eq_true (by rw [hvl, hfull])
    rw [ed]
    refine iteT ?_
    have er : roomed room m1 = m1.makeRoom := if_pos hfull
    rw [er] at rest ok1r
    have hql : m1.q.length ≤ 60 := by omega
    refine ⟨_, rfl, c, _, rfl, g_store hL1.d, L1.st, rfl, ⟨_, SqL.of hst⟩, fun B hB => ?_⟩
    refine lc_list (K := K) (a := L1.st) (xs := vst) (fun j H' => ∃ ys, H' B = some (.lst ys) ∧ TDs H' ys (((m1.q.take j).filter fun x => decide (mkOf x ∈ m1.sent)).map (pairD m1)) ∧ ys.length ≤ j ∧ Same H1 H') ⟨[], upd_same, .nil, Nat.le_refl _, same_new (Same.refl _) hB⟩ (fun j H' _ ⟨_, _, _, _, s⟩ => SqL.of (s _ _ hst)) ?_ ?_
    · rintro j y H2 hy ⟨ys, hys, tys, hyl, s2⟩
      obtain ⟨d, hd, td⟩ := tst.get hy
      obtain ⟨x, hx, rfl⟩ := map_get hd
      have hjl : j < vst.length := (List.getElem?_eq_some_iff.mp hy).1
      have td2 := td.mono (TSm.of_same s2)
      obtain ⟨ya, xa, rfl, hya, tx⟩ := td_pair td2
      rw [List.take_add_one, hx, Option.toList_some, List.filter_append]
      refine ⟨rfl, _, rfl, ya, _, 1, _, rfl, rfl, SqT.of hya, atI_nat (j := 1) rfl, rfl, _, rfl, ?_⟩
      rw [stW_sent]
      refine ite2 (fun ek => ?_) (fun ek => ?_)
      · have tt : TSm H2 (upd H2 B (.lst (ys ++ [.ref ya]))) := ts_upd (TSm.refl _) (NoT.lst hys)
        refine ⟨_, rfl, ys, hys, lt_line (by omega), ys ++ [.ref ya], upd_same, ?_, by rw [List.length_append]; exact Nat.succ_le_succ hyl, same_mut s2 hB⟩
        rw [List.filter_cons_of_pos (p := fun x : Nat × Frm => decide (mkOf x ∈ m1.sent)) ek, List.filter_nil, List.map_append]
        exact (tys.mono tt).app (.one (td2.mono tt))
      · refine ⟨ys, hys, ?_, Nat.le_succ_of_le hyl, s2⟩
        rw [List.filter_cons_of_neg (p := fun x : Nat × Frm => decide (mkOf x ∈ m1.sent)) ek, List.filter_nil, List.append_nil]
        exact tys
    rintro H2 ⟨ys, hys, tys, hyl, s2⟩
    rw [hvl, List.take_length] at tys
    obtain ⟨y0, rest0, hcat⟩ : ∃ y0 rest0, (m1.q.filter fun x => decide (mkOf x ∈ m1.sent)) ++ m1.q = y0 :: rest0 := by
      cases h : (m1.q.filter fun x => decide (mkOf x ∈ m1.sent)) ++ m1.q with
      | nil => exact absurd (List.append_eq_nil_iff.mp h).2 (hne hfull)
      | cons y r => exact ⟨y, r, rfl⟩
    obtain ⟨hy0, eroom⟩ := room_eq hcat
    have hL2 := hL1.same s2
    have hst2 := s2 _ _ hst
    have tst2 := tst.mono (TSm.of_same s2)
    obtain ⟨g, hg0, tg⟩ : ∃ g, (ys ++ vst)[0]? = some g ∧ TD H2 g (pairD m1 y0) := by
      have t := tys.app tst2
      rw [← List.map_append, hcat] at t
      generalize ys ++ vst = zs at t
      cases t with
      | cons h1 _ => exact ⟨_, rfl, h1⟩
    have hyl2 : ys.length ≤ 60 := by omega
    refine ⟨_, rfl, _, rfl, c, _, rfl, g_store hL2.d, B, L1.st, ys, vst, rfl, rfl, hys, hst2, le_line (by omega), fun C nC => ⟨C, _, _, g, rfl, rfl, SqL.of upd_same, atI_nat (j := 0) hg0, ?_⟩⟩
    have q3 := same_new (Same.refl H2) nC (o := .lst (ys ++ vst))
    have hL3 := hL2.same q3
    have s13 := s2.trans q3
    have tg3 := tg.mono (TSm.of_same q3)
    generalize upd H2 C (.lst (ys ++ vst)) = H3 at *
    have hst3 := s13 _ _ hst
    have tst3 := tst.mono (TSm.of_same s13)
    obtain ⟨j, hj⟩ := List.getElem?_of_mem hy0
    obtain ⟨ga, gx, rfl, hga, tgx⟩ := td_pair tg3
    have nd1 : (m1.q.map mkOf).Nodup := ok1.nd
    refine ⟨_, rfl, c, _, rfl, g_store hL3.d, .inl ⟨rfl, _, SqL.of hst3⟩, _, rfl, L1.st, _, pairD m1 y0, vst, m1.q.map (pairD m1), j, pairD m1 y0, rfl, rfl, hst3, tst3.dp, tg3.dp, ?_, (lay_pair m1 y0).shaped (by decide), ?_, ?_, ?_, ?_⟩
    · exact (Lay.list (f := pairD m1) (xs := m1.q) (k := 2) fun x _ => lay_pair m1 x).shaped (by decide)
    · rw [List.getElem?_map, hj]; rfl
    · rw [eqv_pair]; exact decide_eq_true rfl
    · intro i2 z' hlt2 hz
      obtain ⟨x, hx, rfl⟩ := map_get hz
      rw [eqv_pair]
      refine decide_eq_false fun z => ?_
      have h1 : (m1.q.map mkOf)[i2]? = some (mkOf x) := by rw [List.getElem?_map, hx]; rfl
      have h2 : (m1.q.map mkOf)[j]? = some (mkOf y0) := by rw [List.getElem?_map, hj]; rfl
      have := (List.getElem?_inj (List.getElem?_eq_some_iff.mp h1).1 nd1).mp (h1.trans (by rw [z]; exact h2.symm))
      omega
    obtain ⟨b1, b2, b3, b4, b5, b6, b7, b8, b9, b10⟩ := hL3.a5
    have hne3 := hL3.ne
    have k4 : Keep [L1.st, c] H3 (upd H3 L1.st (.lst (vst.eraseIdx j))) := keep_upd (Keep.refl _ _) (by simp)
    have tm4 : TSm H3 (upd H3 L1.st (.lst (vst.eraseIdx j))) := ts_upd (TSm.refl _) (NoT.lst hst3)
    have d4 : Dom H3 (upd H3 L1.st (.lst (vst.eraseIdx j))) := dom_upd _ _ _
    have hs4' : upd H3 L1.st (.lst (vst.eraseIdx j)) L1.st = some (.lst (vst.eraseIdx j)) := upd_same
    have hc4 : upd H3 L1.st (.lst (vst.eraseIdx j)) c = some (.dK (lcd room L1 m1.win)) := by rw [upd_ne (hne3.1 L1.st (by simp [five])).symm]; exact hL3.d
    generalize upd H3 L1.st (.lst (vst.eraseIdx j)) = H4 at *
    have n6 : ∀ x, x ≠ L1.st → x ≠ c → x ∉ [L1.st, c] := fun x e1 e2 => by simp [e1, e2]
    obtain ⟨vak, hak, tak⟩ := hL3.ak
    obtain ⟨vlo, hlo, tlo⟩ := hL3.lo
    have hak4 := k4 _ _ (n6 _ b5.symm (hne3.1 _ (by simp [five]))) hak
    have tak4 := tak.mono tm4
    have hlo4 := k4 _ _ (n6 _ b6.symm (hne3.1 _ (by simp [five]))) hlo
    have tlo4 := tlo.mono tm4
    have hga4 := tm4 _ _ hga
    have tgx4 := tgx.mono tm4
    have hal : m1.asked.length ≤ 60 := by have := ok1.lens; omega
    have hval : vak.length = m1.asked.length := by rw [tak.length, List.length_map]
    -- asked
    refine ⟨_, rfl, c, _, rfl, g_asked hc4, L1.ak, rfl, ⟨_, SqL.of hak4⟩, fun A hA => ?_⟩
    have ncA : c ≠ A := ne_of_none hc4 hA
    have nA3 : H3 A = none := d4 _ hA
    refine lc_list (K := K) (a := L1.ak) (xs := vak) (fun j H' => ∃ zs, H' A = some (.lst zs) ∧ TDs H' zs (((m1.asked.take j).filter fun x => decide (x ≠ mkOf y0)).map mD2) ∧ zs.length ≤ j ∧ Same H4 H') ⟨[], upd_same, .nil, Nat.le_refl _, same_new (Same.refl _) hA⟩ (fun j H' _ ⟨_, _, _, _, s⟩ => SqL.of (s _ _ hak4)) ?_ ?_
    · rintro j y H5 hy ⟨zs, hzs, tzs, hzl, s5⟩
      obtain ⟨d, hd, td⟩ := tak4.get hy
      obtain ⟨x, hx, rfl⟩ := map_get hd
      have hjl : j < vak.length := (List.getElem?_eq_some_iff.mp hy).1
      have td5 := td.mono (TSm.of_same s5)
      rw [List.take_add_one, hx, Option.toList_some, List.filter_append]
      refine ⟨rfl, _, rfl, _, rfl, ga, _, 0, _, rfl, rfl, SqT.of (s5 _ _ hga4), atI_nat (j := 0) rfl, _, _, td5.dp, (tgx4.mono (TSm.of_same s5)).dp, (lay_mk2 _).shaped (by decide), (lay_mk2 _).shaped (by decide), _, rfl, ?_⟩
      rw [eqv_mk2, ← decide_not]
      refine ite2 (fun ek => ?_) (fun ek => ?_)
      · have tt : TSm H5 (upd H5 A (.lst (zs ++ [y]))) := ts_upd (TSm.refl _) (NoT.lst hzs)
        refine ⟨_, rfl, zs, hzs, lt_line (by omega), zs ++ [y], upd_same, ?_, by rw [List.length_append]; exact Nat.succ_le_succ hzl, same_mut s5 hA⟩
        rw [List.filter_cons_of_pos (p := fun x : Nat × Nat => decide (x ≠ mkOf y0)) ek, List.filter_nil, List.map_append]
        exact (tzs.mono tt).app (.one (td5.mono tt))
      · refine ⟨zs, hzs, ?_, Nat.le_succ_of_le hzl, s5⟩
        rw [List.filter_cons_of_neg (p := fun x : Nat × Nat => decide (x ≠ mkOf y0)) ek, List.filter_nil, List.append_nil]
        exact tzs
    rintro H5 ⟨zs, hzs, tzs, hzl, s5⟩
    rw [hval, List.take_length] at tzs
    have hc5 := s5 _ _ hc4
    refine ⟨_, rfl, c, _, rfl, d_asked (L := L1) (a := A) hc5, ?_⟩
    have k6c : Keep [c] H5 (upd H5 c (.dK (lcd room { L1 with ak := A } m1.win))) := keep_upd (Keep.refl _ _) (by simp)
    have k6 : Keep [L1.st, c] H5 (upd H5 c (.dK (lcd room { L1 with ak := A } m1.win))) := keep_upd (Keep.refl _ _) (by simp)
    have tm6 : TSm H5 (upd H5 c (.dK (lcd room { L1 with ak := A } m1.win))) := ts_upd (TSm.refl _) (NoT.dK hc5)
    have d6 : Dom H5 (upd H5 c (.dK (lcd room { L1 with ak := A } m1.win))) := dom_upd _ _ _
    have hc6 : upd H5 c (.dK (lcd room { L1 with ak := A } m1.win)) c = some (.dK (lcd room { L1 with ak := A } m1.win)) := upd_same
    have hA6 : upd H5 c (.dK (lcd room { L1 with ak := A } m1.win)) A = some (.lst zs) := by rw [upd_ne ncA.symm]; exact hzs
    show Ends.nx _ _ (upd H5 c (.dK (lcd room { L1 with ak := A } m1.win)))
    generalize upd H5 c (.dK (lcd room { L1 with ak := A } m1.win)) = H6 at *
    have k36 : Keep [L1.st, c] H3 H6 := (k4.trans (Keep.of_same s5)).trans k6
    have tm36 : TSm H3 H6 := (tm4.trans (TSm.of_same s5)).trans tm6
    have d36 : Dom H3 H6 := (d4.trans (Dom.of_same s5)).trans d6
    have hga6 := tm36 _ _ hga
    have tgx6 := tgx.mono tm36
    -- lost
    refine ⟨_, rfl, c, _, rfl, g_lost hc6, _, rfl, ga, _, 0, _, rfl, rfl, SqT.of hga6, atI_nat (j := 0) rfl, (by decide : (1 : Nat) ≤ sizeLine), fun o no => ?_⟩
    have q7 := same_new (Same.refl H6) no (o := .lst [gx])
    have ho7 : upd H6 o (.lst [gx]) o = some (.lst [gx]) := upd_same
    generalize upd H6 o (.lst [gx]) = H7 at *
    refine ⟨_, rfl, ga, _, 1, _, rfl, rfl, SqT.of (q7 _ _ hga6), atI_nat (j := 1) rfl, rfl, .inr ⟨_, rfl, ?_⟩⟩
    rw [stW_fresh]
    obtain ⟨kz, ekz⟩ : ∃ kz : Int, kz = (if (!decide (mkOf y0 ∈ m1.sent)) = true then (1 : Int) else 0) := ⟨_, rfl⟩
    rw [← ekz]
    have hkz : (0 ≤ kz ∧ kz ≤ 1) ∧ ∀ H', TD H' gx (mD2 (mkOf y0)) → TDs H' (List.replicate kz.toNat [gx]).flatten ((if mkOf y0 ∈ m1.sent then [] else [mkOf y0]).map mD2) := by
      rw [ekz]
      by_cases h : mkOf y0 ∈ m1.sent
      · rw [decide_eq_true h, if_pos h]
        exact ⟨by decide, fun _ _ => .nil⟩
      · rw [decide_eq_false h, if_neg h]
        exact ⟨by decide, fun _ t => .one t⟩
    obtain ⟨⟨kz0, kz1⟩, hex⟩ := hkz
    refine ⟨o, kz, [gx], rfl, rfl, ho7, by omega, by omega, le_line (by rw [List.length_singleton]; omega), fun p np => ?_⟩
    have q8 := same_new (Same.refl H7) np (o := .lst (List.replicate kz.toNat [gx]).flatten)
    have hp8 : upd H7 p (.lst (List.replicate kz.toNat [gx]).flatten) p = some (.lst (List.replicate kz.toNat [gx]).flatten) := upd_same
    generalize upd H7 p (.lst (List.replicate kz.toNat [gx]).flatten) = H8 at *
    have s68 := q7.trans q8
    have tex := hex H8 (tgx6.mono (TSm.of_same s68))
    have hexl : (List.replicate kz.toNat [gx]).flatten.length ≤ 1 := by
      rw [tex.length, List.length_map]
      split
      · exact Nat.zero_le _
      · exact Nat.le_refl _
    generalize (List.replicate kz.toNat [gx]).flatten = ex at *
    have hlo8 := s68 _ _ (k36 _ _ (n6 _ b6.symm (hne3.1 _ (by simp [five]))) hlo)
    have hlol : vlo.length ≤ 1000001 := by rw [tlo.length, List.length_map]; omega
    refine ⟨L1.lo, p, vlo, ex, rfl, rfl, hlo8, hp8, le_line (by omega), fun LO nLO => ?_⟩
    have q9 := same_new (Same.refl H8) nLO (o := .lst (vlo ++ ex))
    have hLO9 : upd H8 LO (.lst (vlo ++ ex)) LO = some (.lst (vlo ++ ex)) := upd_same
    generalize upd H8 LO (.lst (vlo ++ ex)) = H9 at *
    have s69 := s68.trans q9
    have hc9 := s69 _ _ hc6
    have nAL : A ≠ LO := ne_of_none (s68 _ _ hA6) nLO
    have ncL : c ≠ LO := ne_of_none (s68 _ _ hc6) nLO
    have nL3 : H3 LO = none := d36 _ (s68.free nLO)
    refine ⟨_, rfl, c, _, rfl, d_lost (L := { L1 with ak := A }) (a := LO) hc9, ?_⟩
    have k10c : Keep [c] H9 (upd H9 c (.dK (lcd room { L1 with ak := A, lo := LO } m1.win))) := keep_upd (Keep.refl _ _) (by simp)
    have k10 : Keep [L1.st, c] H9 (upd H9 c (.dK (lcd room { L1 with ak := A, lo := LO } m1.win))) := keep_upd (Keep.refl _ _) (by simp)
    have tm10 : TSm H9 (upd H9 c (.dK (lcd room { L1 with ak := A, lo := LO } m1.win))) := ts_upd (TSm.refl _) (NoT.dK hc9)
    have d10 : Dom H9 (upd H9 c (.dK (lcd room { L1 with ak := A, lo := LO } m1.win))) := dom_upd _ _ _
    have hc10 : upd H9 c (.dK (lcd room { L1 with ak := A, lo := LO } m1.win)) c = some (.dK (lcd room { L1 with ak := A, lo := LO } m1.win)) := upd_same
    show D'.nx _ (upd H9 c (.dK (lcd room { L1 with ak := A, lo := LO } m1.win)))
    generalize upd H9 c (.dK (lcd room { L1 with ak := A, lo := LO } m1.win)) = H10 at *
    have k310 : Keep [L1.st, c] H3 H10 := (k36.trans (Keep.of_same s69)).trans k10
    have tm310 : TSm H3 H10 := (tm36.trans (TSm.of_same s69)).trans tm10
    have d310 : Dom H3 H10 := (d36.trans (Dom.of_same s69)).trans d10
    obtain ⟨ap, ar⟩ := hL3.ap_al (A := A) (B := LO) (hL3.fresh nA3) (hL3.fresh nL3) nAL
    have nst : L1.st ≠ c := hne3.1 _ (by simp [five])
    have hst10 : H10 L1.st = some (.lst (vst.eraseIdx j)) := k10c _ _ (by simp [nst]) (s69 _ _ (k6c _ _ (by simp [nst]) (s5 _ _ hs4')))
    have hA10 : H10 A = some (.lst zs) := k10c _ _ (by simp [ncA.symm]) (s69 _ _ hA6)
    have hLO10 : H10 LO = some (.lst (vlo ++ ex)) := k10c _ _ (by simp [ncL.symm]) hLO9
    have hL10 : LcAt H10 c { L1 with ak := A, lo := LO } room z nl m1.makeRoom mk1 := by
      rw [eroom]
      refine hL3.put (L' := { L1 with ak := A, lo := LO }) (N := [L1.st, c]) rfl rfl k310 tm310 (n6 _ b1 (hne3.1 _ (by simp [five]))) (fun r hr => ?_) hc10 hL3.m4 ⟨_, hst10, ?_⟩ ⟨zs, hA10, tzs.mono ((tm6.trans (TSm.of_same s69)).trans tm10)⟩ ⟨_, hLO10, ?_⟩ (k310 _ _ (n6 _ b7.symm (hne3.1 _ (by simp [five]))) hL3.md) ap ar
      · obtain ⟨g1, g2⟩ := hL3.ar r hr
        obtain ⟨nn, hnn⟩ := hL3.rowOf hr
        have hd := hnn.d
        obtain ⟨r1, r2, r3⟩ := hne3.2 r hr
        exact ⟨n6 _ (fun z => by rw [z, hst3] at hd; cases hd) r1, n6 _ (fun z => g1 (by rw [z]; simp [five])) r2, n6 _ (fun z => g2 (by rw [z]; simp [five])) r3⟩
      · have te := (tst3.erase j).mono tm310
        rw [map_erase, erase_q ok1.nd hj] at te
        show TDs H10 (vst.eraseIdx j) ((m1.letGo (mkOf y0)).q.map (pairD _))
        have ec : (m1.letGo (mkOf y0)).q.map (pairD ⟨(m1.letGo (mkOf y0)).q, (m1.letGo (mkOf y0)).sent, (m1.letGo (mkOf y0)).asked, m1.gone ++ (if mkOf y0 ∈ m1.sent then [] else [mkOf y0]), m1.win⟩) = (m1.letGo (mkOf y0)).q.map (pairD m1) := List.map_congr_left fun x hx => go_pair (of_decide_eq_true (List.mem_filter.mp hx).2)
        rw [ec]
        exact te
      · show TDs H10 (vlo ++ ex) ((m1.gone ++ (if mkOf y0 ∈ m1.sent then [] else [mkOf y0])).map mD2)
        rw [List.map_append]
        exact (tlo.mono tm310).app (tex.mono ((TSm.of_same q9).trans tm10))
    refine rest _ _ ⟨{ L1 with ak := A, lo := LO }, _, _, rfl, hL10, ⟨fun x hx => ?_, (Keep.of_same s13).trans (k310.mono (by
      intro x hx
      simp only [List.mem_cons, List.not_mem_nil, or_false] at hx
      rcases hx with e | e <;> rw [e]
      · exact mem_5 (by simp [five])
      · exact List.mem_cons_self ..)), (Dom.of_same s13).trans d310⟩, ?_⟩
    · refine lM_sub (L := L1) (L' := { L1 with ak := A, lo := LO }) (A := A) (B := LO) rfl (fun x hx => ?_) (s13.free nA3) (s13.free nL3) x hx
      simp only [five, List.mem_cons, List.not_mem_nil, or_false] at hx ⊢
      rcases hx with e | e | e | e | e
      · exact .inl (.inl e)
      · exact .inl (.inr (.inl e))
      · exact .inr (.inl e)
      · exact .inr (.inr e)
      · exact .inl (.inr (.inr (.inr (.inr e))))
    · rw [eroom]
      show (m1.gone ++ (if mkOf y0 ∈ m1.sent then [] else [mkOf y0])).length ≤ _
      rw [List.length_append]
      split
      · simp
      · simp
end
end K04

namespace K04
open PySem PySem.Spec PyProof.Rows L2 Sky
section
variable {P : Program} {w : World} {K : PySem.W.Frag} {mg : Str → Option Value} {base : Heap}
def sp_lbeat : Sp := fun vs H Q _ => ∃ (c : Addr) (L : La) (room z : Nat) (nl : List Strm) (m : Cr) (mk : List Nat), vs = [.ref c] ∧ LcAt H c L room z nl m mk ∧ m.Ok room ∧ room ≤ 60 ∧
  ((m.win = false ∨ m.next = none) → ∀ H', Same H H' → Q .non H') ∧
  (∀ k, m.win = true → m.next = some k → ∀ v L' H', TD H' v (mD2 k) → LcAt H' c L' room z nl (m.sends k) mk → Lk (lM c L) (lM c L') H H' → Q v H')
theorem ok_law_beat (T : Tx K mg) : FnOk P w K mg base CX0 1 T.a_law_beat T.d_law_beat ["_law_c"] sp_lbeat := by
  have nd := sc_law_beat.nd
  refine T.F_law_beat.ok sc_law_beat (fun vs H Q E h => ?_) (fun cdv A0 outer s0 H vs Q E hr h => ?_)
  · obtain ⟨_, _, _, _, _, _, _, rfl, _⟩ := h
    rfl
  · obtain ⟨c, L, room, z, nl, m, mk, rfl, hL, ok, hr60, fin1, fin2⟩ := h
    refine ⟨_, (pss_cons (ps_setLc (i := 1) (own := [("_law_pair", 3)]) rfl nd rfl rfl (sw_true rfl rfl rfl (by decide +kernel)) (pi_list (pe_dget (hu_of hr) (pv 0) pe_str (fun _ _ => rfl))) (blkOk_by (own := [("_law_pair", 3)]) (N := N_law_beat) (sc := defScope s_law_beat) (by decide +kernel)) (fun _ _ _ _ _ => (pg_name (i := 3) nd rfl (Or.inl rfl))) (fun _ _ _ _ _ => (pts_one (pt_cmpR op_eq (pe_ix (ix_tupK (K := K) rfl) (pv 3) pe_int (fun _ _ => rfl)) pe_str (nomark _)))) (fun _ _ _ _ _ => (pe_ix (ix_tupK (K := K) rfl) (pv 3) pe_int (fun _ _ => rfl)))) (pss_cons (ps_if (PW.pt (pw_or (pt_not (pt_truth (pe_dget (hu_of hr) (pv 0) pe_str (fun _ _ => rfl)) (by intro _; rfl))) (pw_or1 (pt_cmpR (op_eqD hr.units) (pe_op op_cat (pe_dget (hu_of hr) (pv 0) pe_str (fun _ _ => rfl)) (pv 1)) (pe_lst pa_nil) (nomark _))))) (pss_one (ps_ret pe_non)) pss_nil) (pss_cons (ps_set (i := 2) nd rfl (Or.inr rfl) (pe_ix ix_list (pe_op op_cat (pe_dget (hu_of hr) (pv 0) pe_str (fun _ _ => rfl)) (pv 1)) pe_int (fun _ _ => rfl))) (pss_cons (ps_asg (pe_slice sl_list (pe_dget (hu_of hr) (pv 0) pe_str (fun _ _ => rfl)) (po_some pe_int) po_none) (pg_sub (pv 0) pe_str (set_dict (hu_of hr)))) (pss_cons (ps_asg (pe_lc (own := [("_law_pair", 3)]) rfl nd (pi_list (pe_dget (hu_of hr) (pv 0) pe_str (fun _ _ => rfl))) (blkOk_by (own := [("_law_pair", 3)]) (N := N_law_beat) (sc := defScope s_law_beat) (by decide +kernel)) (fun _ _ _ _ _ => (pg_name (i := 3) nd rfl (Or.inl rfl))) (fun _ _ _ _ _ => pts_nil) (fun _ _ _ _ _ => (pe_tup (pa_cons (pe_ix (ix_tupK (K := K) rfl) (pv 3) pe_int (fun _ _ => rfl)) (pa_cons (pe_ifExp (pt_cmpR (op_eqDK (K := K) rfl hr.units) (pe_ix (ix_tupK (K := K) rfl) (pv 3) pe_int (fun _ _ => rfl)) (pv 2) (nomark _)) pe_str (pe_ix (ix_tupK (K := K) rfl) (pv 3) pe_int (fun _ _ => rfl))) pa_nil))))) (pg_sub (pv 0) pe_str (set_dict (hu_of hr)))) (pss_one (ps_ret (pv 2)))))))), ?_⟩
    obtain ⟨vst, hst, tst⟩ := hL.st
    obtain ⟨vak, hak, tak⟩ := hL.ak
    have hql : m.q.length ≤ 60 := Nat.le_trans ok.few hr60
    have hvl : vst.length = m.q.length := by rw [tst.length, List.length_map]
    have hal : m.asked.length ≤ 60 := by
      have h1 := len_of_sub ok.an ok.as
      have h2 : m.marks.length = m.q.length := List.length_map _
      omega
    have hval : vak.length = m.asked.length := by rw [tak.length, List.length_map]
    refine ⟨_, rfl, c, _, rfl, g_store hL.d, L.st, rfl, ⟨_, SqL.of hst⟩, fun B hB => ?_⟩
    refine lc_list (K := K) (a := L.st) (xs := vst) (fun j H' => ∃ ys, H' B = some (.lst ys) ∧ TDs H' ys (((m.q.take j).filter fun x => !decide (mkOf x ∈ m.sent)).map fun x => mD2 (mkOf x)) ∧ ys.length ≤ j ∧ Same H H') ⟨[], upd_same, .nil, Nat.le_refl _, same_new (Same.refl _) hB⟩ (fun j H' _ ⟨_, _, _, _, s⟩ => SqL.of (s _ _ hst)) ?_ ?_
    · rintro j y H1 hy ⟨ys, hys, tys, hyl, s1⟩
      obtain ⟨d, hd, td⟩ := tst.get hy
      obtain ⟨x, hx, rfl⟩ := map_get hd
      have hjl : j < vst.length := (List.getElem?_eq_some_iff.mp hy).1
      obtain ⟨ya, xa, rfl, hya, tx⟩ := td_pair (td.mono (TSm.of_same s1))
      rw [List.take_add_one, hx, Option.toList_some, List.filter_append]
      refine ⟨rfl, _, rfl, ya, _, 1, _, rfl, rfl, SqT.of hya, atI_nat (j := 1) rfl, rfl, _, rfl, ?_⟩
      rw [stW_fresh]
      refine ite2 (fun ek => ?_) (fun ek => ?_)
      · have tt : TSm H1 (upd H1 B (.lst (ys ++ [xa]))) := ts_upd (TSm.refl _) (NoT.lst hys)
        refine ⟨_, rfl, ya, _, 0, _, rfl, rfl, SqT.of hya, atI_nat (j := 0) rfl, ys, hys, lt_line (by omega), ys ++ [xa], upd_same, ?_, by rw [List.length_append]; exact Nat.succ_le_succ hyl, same_mut s1 hB⟩
        rw [List.filter_cons_of_pos (p := fun x : Nat × Frm => !decide (mkOf x ∈ m.sent)) ek, List.filter_nil, List.map_append]
        exact (tys.mono tt).app (.one (tx.mono tt))
      · refine ⟨ys, hys, ?_, Nat.le_succ_of_le hyl, s1⟩
        rw [List.filter_cons_of_neg (p := fun x : Nat × Frm => !decide (mkOf x ∈ m.sent)) ek, List.filter_nil, List.append_nil]
        exact tys
    rintro H1 ⟨ys, hys, tys, hyl, s1⟩
    rw [hvl, List.take_length] at tys
    have efr : (m.q.filter fun x => !decide (mkOf x ∈ m.sent)).map (fun x => mD2 (mkOf x)) = m.fresh.map mD2 := by rw [fresh_q, List.map_map]; rfl
    rw [efr] at tys
    have hL1 := hL.same s1
    have hak1 := s1 _ _ hak
    have tak1 := tak.mono (TSm.of_same s1)
    have hst1 := s1 _ _ hst
    have tst1 := tst.mono (TSm.of_same s1)
    -- the window, and whether there is one
    refine ⟨_, rfl, c, _, rfl, g_open hL1.d, m.win, rfl, ?_⟩
    cases hw : m.win with
    | false => exact iteT (iteT (fin1 (.inl hw) _ s1))
    | true =>
    refine iteF ⟨_, rfl, c, _, rfl, g_asked hL1.d, _, rfl, ?_⟩
    have hfl : m.fresh.length ≤ 60 := by
      have h1 : m.fresh.length ≤ m.marks.length := List.length_filter_le _ _
      have h2 : m.marks.length = m.q.length := List.length_map _
      omega
    have hyl2 : ys.length ≤ 60 := by rw [tys.length, List.length_map]; exact hfl
    have tcat : TDs H1 (vak ++ ys) ((m.asked ++ m.fresh).map mD2) := by
      rw [List.map_append]
      exact tak1.app tys
    refine ⟨L.ak, B, vak, ys, rfl, rfl, hak1, hys, le_line (by omega), fun C nC => ⟨Nat.zero_le _, fun D nD => ?_⟩⟩
    have q1 := same_new (Same.refl H1) nC (o := .lst (vak ++ ys))
    have q2 := same_new (Same.refl _) nD (o := .lst [])
    have hC := q2 _ _ (upd_same : upd H1 C (.lst (vak ++ ys)) C = _)
    have hD : upd (upd H1 C (.lst (vak ++ ys))) D (.lst []) D = some (.lst []) := upd_same
    have q12 := q1.trans q2
    generalize upd (upd H1 C (.lst (vak ++ ys))) D (.lst []) = H2 at *
    refine ⟨.list ((m.asked ++ m.fresh).map mD2), .list [], .lst (SqL.of hC) (tcat.mono (TSm.of_same q12)).dp, .lst (SqL.of hD) .nil, (lay_mks2 _).shaped (by decide), Lay.nil.shaped (by decide), _, rfl, ?_⟩
    rw [eqv_nil]
    cases hcat : m.asked ++ m.fresh with
    | nil =>
      refine iteT ?_
      exact fin1 (.inr (by unfold Cr.next; rw [hcat]; rfl)) _ (s1.trans q12)
    | cons k rest =>
    refine iteF ?_
    have hnx : m.next = some k := by unfold Cr.next; rw [hcat]; rfl
    obtain ⟨v, hv0, tv⟩ : ∃ v, (vak ++ ys)[0]? = some v ∧ TD H1 v (mD2 k) := by
      rw [hcat] at tcat
      generalize vak ++ ys = zs at tcat
      cases tcat with
      | cons h1 _ => exact ⟨_, rfl, h1⟩
    have hL2 := hL1.same q12
    have hys2 := q12 _ _ hys
    have hak2 := q12 _ _ hak1
    have tak2 := tak1.mono (TSm.of_same q12)
    refine ⟨_, rfl, c, _, rfl, g_asked hL2.d, _, rfl, L.ak, B, vak, ys, rfl, rfl, hak2, hys2, le_line (by omega), fun C2 nC2 => ⟨C2, _, _, v, rfl, rfl, SqL.of upd_same, atI_nat (j := 0) hv0, ?_⟩⟩
    have q3 := same_new (Same.refl H2) nC2 (o := .lst (vak ++ ys))
    have hL3 := hL2.same q3
    have s13 : Same H1 (upd H2 C2 (.lst (vak ++ ys))) := q12.trans q3
    generalize upd H2 C2 (.lst (vak ++ ys)) = H3 at *
    clear hC hD q1 q2 q12 q3 hL2 hys2 hak2 tak2 nC nD nC2 hL1
    have hak3 := s13 _ _ hak1
    have tak3 := tak1.mono (TSm.of_same s13)
    have tv3 := tv.mono (TSm.of_same s13)
    refine ⟨_, rfl, c, _, rfl, g_asked hL3.d, 1, rfl, L.ak, vak, rfl, SqL.of hak3, fun A1 nA1 => ?_⟩
    rw [cut1]
    have ncA : c ≠ A1 := ne_of_none hL3.d nA1
    have q4 := same_new (Same.refl H3) nA1 (o := .lst (vak.drop 1))
    have hA1 : upd H3 A1 (.lst (vak.drop 1)) A1 = some (.lst (vak.drop 1)) := upd_same
    have hL4 := hL3.same q4
    have s14 := s13.trans q4
    have frA := hL3.fresh nA1
    generalize upd H3 A1 (.lst (vak.drop 1)) = H4 at *
    refine ⟨_, rfl, c, _, rfl, d_asked (a := A1) hL4.d, ?_⟩
    obtain ⟨n5, nrc⟩ := hL4.ne
    have ncs : L.st ≠ c := n5 _ (by simp [five])
    have hst4 := s14 _ _ hst1
    have tst4 := tst1.mono (TSm.of_same s14)
    have tv4 := tv3.mono (TSm.of_same q4)
    have tA4 : TDs H4 (vak.drop 1) ((m.sends k).asked.map mD2) := by
      rw [sends_asked ok hcat, List.map_drop]
      exact (tak3.mono (TSm.of_same q4)).drop 1
    have k5 : Keep [c] H4 (upd H4 c (.dK (lcd room { L with ak := A1 } m.win))) := keep_upd (Keep.refl _ _) (by simp)
    have t5 : TSm H4 (upd H4 c (.dK (lcd room { L with ak := A1 } m.win))) := ts_upd (TSm.refl _) (NoT.dK hL4.d)
    have hc5 : upd H4 c (.dK (lcd room { L with ak := A1 } m.win)) c = some (.dK (lcd room { L with ak := A1 } m.win)) := upd_same
    have d5 : Dom H4 (upd H4 c (.dK (lcd room { L with ak := A1 } m.win))) := dom_upd _ _ _
    generalize upd H4 c (.dK (lcd room { L with ak := A1 } m.win)) = H5 at *
    have hst5 := k5 _ _ (by simp [ncs]) hst4
    have tst5 := tst4.mono t5
    have tv5 := tv4.mono t5
    have hA5 := k5 _ _ (by simp [ncA.symm]) hA1
    have tA5 := tA4.mono t5
    refine ⟨_, rfl, c, _, rfl, g_store hc5, L.st, rfl, ⟨_, SqL.of hst5⟩, fun B2 nB2 => ?_⟩
    have nB4 : H4 B2 = none := d5 _ nB2
    have nBA : A1 ≠ B2 := ne_of_none hA5 nB2
    refine lc_list (K := K) (a := L.st) (xs := vst) (fun j H' => ∃ zs, H' B2 = some (.lst zs) ∧ TDs H' zs ((m.q.take j).map (pairD (m.sends k))) ∧ Same H5 H') ⟨[], upd_same, .nil, same_new (Same.refl _) nB2⟩ (fun j H' _ ⟨_, _, _, s⟩ => SqL.of (s _ _ hst5)) ?_ ?_
    · rintro j y H6 hy ⟨zs, hzs, tzs, s6⟩
      obtain ⟨d, hd, td⟩ := tst5.get hy
      obtain ⟨x, hx, rfl⟩ := map_get hd
      have hjl : j < vst.length := (List.getElem?_eq_some_iff.mp hy).1
      have hzl : zs.length ≤ j := by rw [tzs.length, List.length_map, List.length_take]; omega
      obtain ⟨ya, xa, rfl, hya, tx⟩ := td_pair (td.mono (TSm.of_same s6))
      refine ⟨rfl, _, rfl, ya, _, 0, _, rfl, rfl, SqT.of hya, atI_nat (j := 0) rfl, ?_⟩
      refine ⟨_, rfl, ya, _, 0, _, rfl, rfl, SqT.of hya, atI_nat (j := 0) rfl, _, rfl, _, _, tx.dp, (tv5.mono (TSm.of_same s6)).dp, (lay_mk2 _).shaped (by decide), (lay_mk2 _).shaped (by decide), _, rfl, ?_⟩
      rw [eqv_mk2]
      have step : ∀ (w : Str) (p : Addr), stW (m.sends k) x = w → H6 p = none → ∃ acc, upd H6 p (.tup [xa, .str w]) B2 = some (.lst acc) ∧ acc.length < sizeLine ∧ ∃ zs, upd (upd H6 p (.tup [xa, .str w])) B2 (.lst (acc ++ [.ref p])) B2 = some (.lst zs) ∧ TDs (upd (upd H6 p (.tup [xa, .str w])) B2 (.lst (acc ++ [.ref p]))) zs ((m.q.take (j + 1)).map (pairD (m.sends k))) ∧ Same H5 (upd (upd H6 p (.tup [xa, .str w])) B2 (.lst (acc ++ [.ref p]))) := by
        intro w p ew np
        have s7 := same_new (Same.refl H6) np (o := .tup [xa, .str w])
        have hzs7 := s7 _ _ hzs
        have tt : TSm (upd H6 p (.tup [xa, .str w])) (upd (upd H6 p (.tup [xa, .str w])) B2 (.lst (zs ++ [.ref p]))) := ts_upd (TSm.refl _) (NoT.lst hzs7)
        have tp : TD (upd H6 p (.tup [xa, .str w])) (.ref p) (pairD (m.sends k) x) := by
          unfold pairD
          show TD _ _ (.tuple [mD2 (mkOf x), .str (stW (m.sends k) x)])
          rw [ew]
          exact .tup upd_same (.cons (tx.mono (TSm.of_same s7)) (.cons (.str _) .nil))
        refine ⟨zs, hzs7, lt_line (by omega), zs ++ [.ref p], upd_same, ?_, same_mut (s6.trans s7) nB2⟩
        rw [List.take_add_one, hx, Option.toList_some, List.map_append]
        exact ((tzs.mono (TSm.of_same s7)).mono tt).app (.one (tp.mono tt))
      by_cases e : mkOf x = k
      · rw [decide_eq_true e]
        exact iteT ⟨(by decide : (2 : Nat) ≤ sizeLine), fun p np => step _ p (by rw [stW_sends, if_pos e]) np⟩
      · rw [decide_eq_false e]
        exact iteF ⟨_, rfl, ya, _, 1, _, rfl, rfl, SqT.of hya, atI_nat (j := 1) rfl, (by decide : (2 : Nat) ≤ sizeLine), fun p np => step _ p (by rw [stW_sends, if_neg e]) np⟩
    rintro H6 ⟨zs, hzs, tzs, s6⟩
    rw [hvl, List.take_length] at tzs
    have hc6 := s6 _ _ hc5
    have ncB : c ≠ B2 := ne_of_none hc5 nB2
    refine ⟨_, rfl, c, _, rfl, d_store (L := { L with ak := A1 }) (a := B2) hc6, ?_⟩
    have k7 : Keep [c] H6 (upd H6 c (.dK (lcd room { L with ak := A1, st := B2 } m.win))) := keep_upd (Keep.refl _ _) (by simp)
    have t7 : TSm H6 (upd H6 c (.dK (lcd room { L with ak := A1, st := B2 } m.win))) := ts_upd (TSm.refl _) (NoT.dK hc6)
    have hc7 : upd H6 c (.dK (lcd room { L with ak := A1, st := B2 } m.win)) c = some (.dK (lcd room { L with ak := A1, st := B2 } m.win)) := upd_same
    have d7 : Dom H6 (upd H6 c (.dK (lcd room { L with ak := A1, st := B2 } m.win))) := dom_upd _ _ _
    generalize upd H6 c (.dK (lcd room { L with ak := A1, st := B2 } m.win)) = H7 at *
    have k47 : Keep [c] H4 H7 := (k5.trans (Keep.of_same s6)).trans k7
    have t47 : TSm H4 H7 := (t5.trans (TSm.of_same s6)).trans t7
    obtain ⟨vlo, hlo, tlo⟩ := hL4.lo
    obtain ⟨ap, ar⟩ := hL4.ap_sa (A := A1) (B := B2) frA (hL4.fresh nB4) nBA
    refine ⟨_, rfl, fin2 k hw hnx v { L with ak := A1, st := B2 } H7 (tv4.mono t47) (hL4.put (L' := { L with ak := A1, st := B2 }) (N := [c]) rfl rfl k47 t47 (by simp [n5 _ (by simp [five] : L.sl ∈ five L)]) (fun r hr => by simp [nrc r hr]) hc7 hL4.m4 ⟨zs, k7 _ _ (by simp [ncB.symm]) hzs, tzs.mono t7⟩ ⟨_, k7 _ _ (by simp [ncA.symm]) (s6 _ _ hA5), (tA5.mono (TSm.of_same s6)).mono t7⟩ ⟨vlo, k47 _ _ (by simp [n5 _ (by simp [five] : L.lo ∈ five L)]) hlo, tlo.mono t47⟩ (k47 _ _ (by simp [n5 _ (by simp [five] : L.md ∈ five L)]) hL4.md) ap ar) ?_⟩
    have s04 := s1.trans s14
    refine ⟨fun a ha => ?_, (Keep.of_same s04).trans (k47.mono (by simp [lM])), (Dom.of_same s04).trans ((d5.trans (Dom.of_same s6)).trans d7)⟩
    refine lM_sub (L := L) (L' := { L with ak := A1, st := B2 }) (A := A1) (B := B2) rfl (fun x hx => ?_) (s1.free (s13.free nA1)) (s04.free nB4) a ha
    simp only [five, List.mem_cons, List.not_mem_nil, or_false] at hx ⊢
    rcases hx with e | e | e | e | e
    · exact .inl (.inl e)
    · exact .inr (.inr e)
    · exact .inr (.inl e)
    · exact .inl (.inr (.inr (.inr (.inl e))))
    · exact .inl (.inr (.inr (.inr (.inr e))))
end
end K04

namespace K04
open PySem PySem.Spec PyProof.Rows L2 Sky
section
variable {P : Program} {w : World} {K : PySem.W.Frag} {mg : Str → Option Value} {base : Heap}
def sp_lmarks : Sp := fun vs H Q _ => ∃ (p q : Addr) (n : Nat), vs = [.ref p, .int (n : Nat)] ∧ HAt H p q ∧ n ≤ 9000 ∧ ∀ r xs (ks : List (Nat × Nat)) H', H' r = some (.lst xs) → TDs H' xs (ks.map mD2) → (∀ k ∈ ks, k.1 ≤ 3 ∧ k.2 ≤ 9999) → ks.length ≤ 8 → H r = none → HAt H' p q → Keep [p, q] H H' → Dom H H' → Q (.ref r) H'
theorem ok_law_marks (T : Tx K mg) : FnOk P w K mg base CX0 2 T.a_law_marks T.d_law_marks ["_law_h", "_law_many_here"] sp_lmarks := by
  have nd := sc_law_marks.nd
  refine T.F_law_marks.ok sc_law_marks (fun vs H Q E h => ?_) (fun cdv A0 outer s0 H vs Q E hr h => ?_)
  · obtain ⟨_, _, _, rfl, _⟩ := h
    rfl
  · obtain ⟨p, q, n, rfl, hA, hn, fin⟩ := h
    refine ⟨_, (pss_cons (ps_set (i := 2) nd rfl (Or.inr rfl) (pe_ix ix_list (pe_lst (pa_cons (pe_op op_add (pv 1) pe_int) (pa_cons pe_int pa_nil))) (pe_callTy call_int1 (by rfl) T.z_int (by decide +kernel) (pa_cons (pe_cmpR op_eq (pe_call (ok_law_next T) (hr.mono (by decide)) (by rfl) T.m_law_next T.F_law_next.kp T.b_law_next .nil pass0 (pa_cons (pv 0) (pa_cons pe_int pa_nil))) pe_int (nomark _)) pa_nil)) (fun _ _ => rfl))) (pss_one (ps_ret (pe_lc (own := [("_law_k", 3)]) rfl nd (pi_range1 rfl T.z_range (pa_cons (pe_call (ok_law_next T) (hr.mono (by decide)) (by rfl) T.m_law_next T.F_law_next.kp T.b_law_next .nil pass0 (pa_cons (pv 0) (pa_cons pe_int pa_nil))) pa_nil)) (blkOk_by (own := [("_law_k", 3)]) (N := N_law_marks) (sc := defScope s_law_marks) (by decide +kernel)) (fun _ _ _ _ _ => (pg_name (i := 3) nd rfl (Or.inl rfl))) (fun _ _ _ _ _ => pts_nil) (fun _ _ _ _ _ => (pe_tup (pa_cons (pe_call (ok_law_next T) (hr.mono (by decide)) (by rfl) T.m_law_next T.F_law_next.kp T.b_law_next .nil pass0 (pa_cons (pv 0) (pa_cons pe_int pa_nil))) (pa_cons (pe_call (ok_law_next T) (hr.mono (by decide)) (by rfl) T.m_law_next T.F_law_next.kp T.b_law_next .nil pass0 (pa_cons (pv 0) (pa_cons (pv 2) pa_nil))) pa_nil)))))))), ?_⟩
    refine ⟨_, rfl, (n : Int), 2, rfl, rfl, (by decide : (2 : Nat) ≤ sizeLine), fun B hB => ?_⟩
    have hA1 := hA.new hB (o := .lst [.int ((n : Int) + 2), .int 10000])
    refine ⟨_, rfl, p, q, 9, rfl, hA1, by decide, by decide, fun r H1 r0 r1 hA2 k2 d2 => ?_⟩
    refine ⟨rfl, .inr ⟨_, rfl, ?_⟩⟩
    have npB := hA.fresh hB
    have hB1 : H1 B = some (.lst [.int ((n : Int) + 2), .int 10000]) := k2 _ _ (by simp [npB.1, npB.2]) upd_same
    obtain ⟨far, ef, f1, f2⟩ : ∃ far : Int, [V.int ((n : Int) + 2), .int 10000][(if decide (V.int r = V.int 0) = true then 1 else 0 : Nat)]? = some (.int far) ∧ 1 ≤ far ∧ far ≤ 10000 := by
      split
      · exact ⟨_, rfl, by omega, by omega⟩
      · exact ⟨_, rfl, by omega, by omega⟩
    have ei : (if decide (V.int r = V.int 0) = true then (1 : Int) else 0) = (((if decide (V.int r = V.int 0) = true then 1 else 0 : Nat) : Nat) : Int) := by split <;> rfl
    rw [ei]
    refine ⟨B, _, _, _, rfl, rfl, SqL.of hB1, atI_nat ef, ?_⟩
    have k12 : Keep [p, q] H H1 := by
      have hb := same_new (Same.refl H) hB (o := .lst [.int ((n : Int) + 2), .int 10000])
      exact (Keep.of_same hb).trans k2
    have d12 : Dom H H1 := (dom_upd _ _ _).trans d2
    refine ⟨_, rfl, p, q, 9, rfl, hA2, by decide, by decide, fun r3 H3 r30 r31 hA3 k3 d3 => ?_⟩
    obtain ⟨mx, rfl⟩ : ∃ mx : Nat, r3 = (mx : Int) := ⟨r3.toNat, (Int.toNat_of_nonneg r30).symm⟩
    refine ⟨_, rfl, by omega, by omega, fun D nD => ?_⟩
    have npD := hA3.fresh nD
    have nDH : H D = none := d12 _ (d3 _ nD)
    have fD : (mx : Int).toNat = mx := by omega
    rw [fD]
    refine lc_range (lo := 0) (n := mx) (fun i H' => ∃ (ks : List (Nat × Nat)) (ys : List V), H' D = some (.lst ys) ∧ TDs H' ys (ks.map mD2) ∧ (∀ k ∈ ks, k.1 ≤ 3 ∧ k.2 ≤ 9999) ∧ ks.length = i ∧ HAt H' p q ∧ Keep [p, q] H H' ∧ Dom H H') ⟨[], [], upd_same, .nil, by simp, rfl, hA3.new nD, keep_new (k12.trans k3) nDH, (d12.trans d3).upd _ _⟩ ?_ ?_
    · rintro i H4 hi ⟨ks, ys, hD, tD, hk, hl, hA4, k4, d4⟩
      refine ⟨rfl, _, rfl, p, q, 4, rfl, hA4, by decide, by decide, fun r5 H5 r50 r51 hA5 k5 d5 => ?_⟩
      refine ⟨_, rfl, _, rfl, p, q, far, rfl, hA5, by omega, by omega, fun r6 H6 r60 r61 hA6 k6 d6 => ⟨(by decide : (2 : Nat) ≤ sizeLine), fun t nt => ?_⟩⟩
      obtain ⟨st, rfl⟩ : ∃ x : Nat, r5 = (x : Int) := ⟨r5.toNat, (Int.toNat_of_nonneg r50).symm⟩
      obtain ⟨ct, rfl⟩ : ∃ x : Nat, r6 = (x : Int) := ⟨r6.toNat, (Int.toNat_of_nonneg r60).symm⟩
      have kk := k5.trans k6
      have hD6 := kk _ _ (by simp [npD.1, npD.2]) hD
      have tD6 := tD.mono (kk.ts hA4.noT)
      have s7 := same_new (Same.refl H6) nt (o := .tup [.int (st : Int), .int (ct : Int)])
      have tt7 : TD (upd H6 t (.tup [.int (st : Int), .int (ct : Int)])) (.ref t) (mD2 (st, ct)) := .tup upd_same (.cons (.int _) (.cons (.int _) .nil))
      have hD7 := s7 _ _ hD6
      have tD7 := tD6.mono (TSm.of_same s7)
      have hA7 := hA6.new nt (o := .tup [.int (st : Int), .int (ct : Int)])
      have k7 : Keep [p, q] H (upd H6 t (.tup [.int (st : Int), .int (ct : Int)])) := keep_new (k4.trans kk) ((d4.trans (d5.trans d6)) _ nt)
      have d7 : Dom H (upd H6 t (.tup [.int (st : Int), .int (ct : Int)])) := (d4.trans (d5.trans d6)).upd _ _
      generalize upd H6 t (.tup [.int (st : Int), .int (ct : Int)]) = H7 at *
      have t8 : TSm H7 (upd H7 D (.lst (ys ++ [.ref t]))) := ts_upd (TSm.refl _) (NoT.lst hD7)
      refine ⟨ys, hD7, lt_line (by rw [tD7.length, List.length_map]; omega), ks ++ [(st, ct)], ys ++ [.ref t], upd_same, ?_, fun k hkm => ?_, by rw [List.length_append, hl]; rfl, hA7.ne npD.1 npD.2, keep_mut k7 nDH, d7.upd _ _⟩
      · rw [List.map_append]
        exact (tD7.mono t8).app (.one (tt7.mono t8))
      · rcases List.mem_append.mp hkm with e | e
        · exact hk k e
        · rw [List.mem_singleton.mp e]
          exact ⟨by show st ≤ 3; omega, by show ct ≤ 9999; omega⟩
    · rintro H4 ⟨ks, ys, hD, tD, hk, hl, hA4, k4, d4⟩
      exact fin D ys ks H4 hD tD hk (by omega) nDH hA4 k4 d4
end
end K04

namespace K04
open PySem PySem.Spec PyProof.Rows L2 Sky
theorem know1_eq {room : Nat} {m : Cr} (ok : m.Ok room) (k : Nat × Nat) : (m.know1 k).q = m.q.filter (fun x => !decide (mkOf x = k)) ∧ (m.know1 k).asked = m.asked.filter (fun j => !decide (j = k)) ∧ (m.know1 k).sent = m.sent.filter (fun j => !decide (j = k)) ∧ (m.know1 k).gone = m.gone ∧ (m.know1 k).win = m.win := by
  have e1 : ∀ x : Nat × Frm, decide (mkOf x ≠ k) = !decide (mkOf x = k) := fun x => decide_not
  have e2 : ∀ j : Nat × Nat, decide (j ≠ k) = !decide (j = k) := fun j => decide_not
  unfold Cr.know1
  split
  · refine ⟨?_, ?_, ?_, rfl, rfl⟩
    · show m.q.filter (fun x => decide (mkOf x ≠ k)) = _
      simp only [e1]
    · show m.asked.filter (fun j => decide (j ≠ k)) = _
      simp only [e2]
    · show m.sent.filter (fun j => decide (j ≠ k)) = _
      simp only [e2]
  · rename_i hk
    refine ⟨(List.filter_eq_self.mpr fun x hx => ?_).symm, (List.filter_eq_self.mpr fun x hx => ?_).symm, (List.filter_eq_self.mpr fun x hx => ?_).symm, rfl, rfl⟩
    · rw [decide_eq_false (fun z => hk (by rw [← z]; exact List.mem_map.mpr ⟨x, hx, rfl⟩))]; rfl
    · rw [decide_eq_false (fun z => hk (by rw [← z]; exact ok.as x hx))]; rfl
    · rw [decide_eq_false (fun z => hk (by rw [← z]; exact ok.ss x hx))]; rfl
theorem know1_ok {room : Nat} {m : Cr} (ok : m.Ok room) (k : Nat × Nat) : (m.know1 k).Ok room := by
  unfold Cr.know1
  split
  · exact ok.letGo k
  · exact ok
theorem not_two (p q : Prop) [Decidable p] [Decidable q] : ((!decide p) && !decide q) = !decide (q ∨ p) := by
  by_cases h : p <;> by_cases g : q <;> simp [h, g]
theorem knows_eq {room : Nat} : ∀ (ks : List (Nat × Nat)) {m : Cr}, m.Ok room → (m.knows ks).q = m.q.filter (fun x => !decide (mkOf x ∈ ks)) ∧ (m.knows ks).asked = m.asked.filter (fun j => !decide (j ∈ ks)) ∧ (m.knows ks).sent = m.sent.filter (fun j => !decide (j ∈ ks)) ∧ (m.knows ks).gone = m.gone ∧ (m.knows ks).win = m.win
  | [], m, _ => ⟨(List.filter_eq_self.mpr fun x _ => by simp).symm, (List.filter_eq_self.mpr fun x _ => by simp).symm, (List.filter_eq_self.mpr fun x _ => by simp).symm, rfl, rfl⟩
  | k :: ks, m, ok => by
    obtain ⟨h1, h2, h3, h4, h5⟩ := knows_eq ks (know1_ok ok k)
    obtain ⟨g1, g2, g3, g4, g5⟩ := know1_eq ok k
    have e : m.knows (k :: ks) = (m.know1 k).knows ks := rfl
    rw [e]
    refine ⟨?_, ?_, ?_, h4.trans g4, h5.trans g5⟩
    · rw [h1, g1, List.filter_filter]
      refine List.filter_congr fun x _ => ?_
      rw [not_two]
      simp only [List.mem_cons]
    · rw [h2, g2, List.filter_filter]
      refine List.filter_congr fun x _ => ?_
      rw [not_two]
      simp only [List.mem_cons]
    · rw [h3, g3, List.filter_filter]
      refine List.filter_congr fun x _ => ?_
      rw [not_two]
      simp only [List.mem_cons]
theorem knows_pair {room : Nat} {m : Cr} (ok : m.Ok room) (ks : List (Nat × Nat)) (x : Nat × Frm) (hx : ¬ mkOf x ∈ ks) : pairD (m.knows ks) x = pairD m x := by
  unfold pairD
  rw [(knows_eq ks ok).2.2.1]
  have : (mkOf x ∈ m.sent.filter fun j => !decide (j ∈ ks)) ↔ mkOf x ∈ m.sent := by
    rw [List.mem_filter]
    exact ⟨fun h => h.1, fun h => ⟨h, by simp [hx]⟩⟩
  simp only [this]
section
variable {P : Program} {w : World} {K : PySem.W.Frag} {mg : Str → Option Value} {base : Heap}
def sp_lknown : Sp := fun vs H Q _ => ∃ (c : Addr) (L : La) (room z : Nat) (nl : List Strm) (m : Cr) (mk : List Nat) (lm : Addr) (us : List V) (ks : List (Nat × Nat)), vs = [.ref c, .ref lm] ∧ LcAt H c L room z nl m mk ∧ m.Ok room ∧ room ≤ 60 ∧ H lm = some (.lst us) ∧ TDs H us (ks.map mD2) ∧ ks.length ≤ 1000 ∧ lm ∉ lM c L ∧
  ∀ L' H', LcAt H' c L' room z nl (m.knows ks) mk → Lk (lM c L) (lM c L') H H' → Q (.int ((m.q.length - (m.knows ks).q.length : Nat) : Int)) H'
theorem ok_law_known (T : Tx K mg) : FnOk P w K mg base CX0 1 T.a_law_known T.d_law_known ["_law_c", "_law_marks_here"] sp_lknown := by
  have nd := sc_law_known.nd
  refine T.F_law_known.ok sc_law_known (fun vs H Q E h => ?_) (fun cdv A0 outer s0 H vs Q E hr h => ?_)
  · obtain ⟨_, _, _, _, _, _, _, _, _, _, rfl, _⟩ := h
    rfl
  · obtain ⟨c, L, room, z, nl, m, mk, lm, us, ks, rfl, hL, ok, hr60, hlm, tus, hks, nlm, fin⟩ := h
    refine ⟨_, (pss_cons (ps_set (i := 2) nd rfl (Or.inl rfl) (pe_callB call_len_seq (by rfl) T.z_len PySem.boot_len (pa_cons (pe_dget (hu_of hr) (pv 0) pe_str (fun _ _ => rfl)) pa_nil))) (pss_cons (ps_asg (pe_lc (own := [("_law_pair", 3)]) rfl nd (pi_list (pe_dget (hu_of hr) (pv 0) pe_str (fun _ _ => rfl))) (blkOk_by (own := [("_law_pair", 3)]) (N := N_law_known) (sc := defScope s_law_known) (by decide +kernel)) (fun _ _ _ _ _ => (pg_name (i := 3) nd rfl (Or.inl rfl))) (fun _ _ _ _ _ => (pts_one (pt_cmpR (op_notInDK (K := K) rfl (u65 hr)) (pe_ix (ix_tupK (K := K) rfl) (pv 3) pe_int (fun _ _ => rfl)) (pv 1) rfl))) (fun _ _ _ _ _ => (pv 3))) (pg_sub (pv 0) pe_str (set_dict (hu_of hr)))) (pss_cons (ps_asg (pe_lc (own := [("_law_mark", 4)]) rfl nd (pi_list (pe_dget (hu_of hr) (pv 0) pe_str (fun _ _ => rfl))) (blkOk_by (own := [("_law_mark", 4)]) (N := N_law_known) (sc := defScope s_law_known) (by decide +kernel)) (fun _ _ _ _ _ => (pg_name (i := 4) nd rfl (Or.inl rfl))) (fun _ _ _ _ _ => (pts_one (pt_cmpR (op_notInDK (K := K) rfl (u65 hr)) (pv 4) (pv 1) rfl))) (fun _ _ _ _ _ => (pv 4))) (pg_sub (pv 0) pe_str (set_dict (hu_of hr)))) (pss_one (ps_ret (pe_op op_sub (pv 2) (pe_callB call_len_seq (by rfl) T.z_len PySem.boot_len (pa_cons (pe_dget (hu_of hr) (pv 0) pe_str (fun _ _ => rfl)) pa_nil)))))))), ?_⟩
    obtain ⟨vst, hst, tst⟩ := hL.st
    obtain ⟨vak, hak, tak⟩ := hL.ak
    have hql : m.q.length ≤ 60 := Nat.le_trans ok.few hr60
    have hvl : vst.length = m.q.length := by rw [tst.length, List.length_map]
    have hal : m.asked.length ≤ 60 := by
      have h1 := len_of_sub ok.an ok.as
      have h2 : m.marks.length = m.q.length := List.length_map _
      omega
    have hval : vak.length = m.asked.length := by rw [tak.length, List.length_map]
    refine ⟨_, rfl, c, _, rfl, g_store hL.d, L.st, vst, rfl, .inl (SqL.of hst), ?_⟩
    refine ⟨_, rfl, c, _, rfl, g_store hL.d, L.st, rfl, ⟨_, SqL.of hst⟩, fun B hB => ?_⟩
    obtain ⟨e1, e2, e3, e4, e5⟩ := knows_eq ks ok
    refine lc_list (K := K) (a := L.st) (xs := vst) (fun j H' => ∃ ys, H' B = some (.lst ys) ∧ TDs H' ys (((m.q.take j).filter fun x => !decide (mkOf x ∈ ks)).map (pairD (m.knows ks))) ∧ ys.length ≤ j ∧ Same H H') ⟨[], upd_same, .nil, Nat.le_refl _, same_new (Same.refl _) hB⟩ (fun j H' _ ⟨_, _, _, _, s⟩ => SqL.of (s _ _ hst)) ?_ ?_
    · rintro j y H1 hy ⟨ys, hys, tys, hyl, s1⟩
      obtain ⟨d, hd, td⟩ := tst.get hy
      obtain ⟨x, hx, rfl⟩ := map_get hd
      have hjl : j < vst.length := (List.getElem?_eq_some_iff.mp hy).1
      have td1 := td.mono (TSm.of_same s1)
      obtain ⟨ya, xa, rfl, hya, tx⟩ := td_pair td1
      rw [List.take_add_one, hx, Option.toList_some, List.filter_append]
      refine ⟨rfl, _, rfl, ya, _, 0, _, rfl, rfl, SqT.of hya, atI_nat (j := 0) rfl, _, rfl, _, _, tx.dp, .lst (SqL.of (s1 _ _ hlm)) (tus.mono (TSm.of_same s1)).dp, (lay_mk2 _).shaped (by decide), (lay_mks2 _).shaped (by decide), _, rfl, ?_⟩
      rw [any_mk2]
      refine ite2 (fun ek => ?_) (fun ek => ?_)
      · have tt : TSm H1 (upd H1 B (.lst (ys ++ [.ref ya]))) := ts_upd (TSm.refl _) (NoT.lst hys)
        refine ⟨_, rfl, ys, hys, lt_line (by omega), ys ++ [.ref ya], upd_same, ?_, by rw [List.length_append]; exact Nat.succ_le_succ hyl, same_mut s1 hB⟩
        rw [List.filter_cons_of_pos (p := fun x : Nat × Frm => !decide (mkOf x ∈ ks)) ek, List.filter_nil, List.map_append]
        refine (tys.mono tt).app (.one ?_)
        rw [knows_pair ok ks x (by simpa using ek)]
        exact td1.mono tt
      · refine ⟨ys, hys, ?_, Nat.le_succ_of_le hyl, s1⟩
        rw [List.filter_cons_of_neg (p := fun x : Nat × Frm => !decide (mkOf x ∈ ks)) ek, List.filter_nil, List.append_nil]
        exact tys
    rintro H1 ⟨ys, hys, tys, hyl, s1⟩
    rw [hvl, List.take_length, ← e1] at tys
    have hL1 := hL.same s1
    have ncB : c ≠ B := ne_of_none hL.d hB
    refine ⟨_, rfl, c, _, rfl, d_store (L := L) (a := B) hL1.d, ?_⟩
    obtain ⟨n5, nrc⟩ := hL1.ne
    have k2 : Keep [c] H1 (upd H1 c (.dK (lcd room { L with st := B } m.win))) := keep_upd (Keep.refl _ _) (by simp)
    have t2 : TSm H1 (upd H1 c (.dK (lcd room { L with st := B } m.win))) := ts_upd (TSm.refl _) (NoT.dK hL1.d)
    have hc2 : upd H1 c (.dK (lcd room { L with st := B } m.win)) c = some (.dK (lcd room { L with st := B } m.win)) := upd_same
    have d2 : Dom H1 (upd H1 c (.dK (lcd room { L with st := B } m.win))) := dom_upd _ _ _
    generalize upd H1 c (.dK (lcd room { L with st := B } m.win)) = H2 at *
    have hak2 := k2 _ _ (by simp [n5 _ (by simp [five] : L.ak ∈ five L)]) (s1 _ _ hak)
    have tak2 := (tak.mono (TSm.of_same s1)).mono t2
    have nlc : lm ≠ c := fun z => nlm (by rw [z]; exact List.mem_cons_self ..)
    have hlm2 := k2 _ _ (by simp [nlc]) (s1 _ _ hlm)
    have tus2 := (tus.mono (TSm.of_same s1)).mono t2
    have hys2 := k2 _ _ (by simp [ncB.symm]) hys
    have tys2 := tys.mono t2
    -- asked
    refine ⟨_, rfl, c, _, rfl, g_asked hc2, L.ak, rfl, ⟨_, SqL.of hak2⟩, fun A hA => ?_⟩
    have nBA : A ≠ B := (ne_of_none hys2 hA).symm
    have ncA : c ≠ A := ne_of_none hc2 hA
    have hA1 : H1 A = none := d2 _ hA
    refine lc_list (K := K) (a := L.ak) (xs := vak) (fun j H' => ∃ zs, H' A = some (.lst zs) ∧ TDs H' zs (((m.asked.take j).filter fun x => !decide (x ∈ ks)).map mD2) ∧ zs.length ≤ j ∧ Same H2 H') ⟨[], upd_same, .nil, Nat.le_refl _, same_new (Same.refl _) hA⟩ (fun j H' _ ⟨_, _, _, _, s⟩ => SqL.of (s _ _ hak2)) ?_ ?_
    · rintro j y H3 hy ⟨zs, hzs, tzs, hzl, s3⟩
      obtain ⟨d, hd, td⟩ := tak2.get hy
      obtain ⟨x, hx, rfl⟩ := map_get hd
      have hjl : j < vak.length := (List.getElem?_eq_some_iff.mp hy).1
      have td3 := td.mono (TSm.of_same s3)
      rw [List.take_add_one, hx, Option.toList_some, List.filter_append]
      refine ⟨rfl, _, rfl, _, rfl, _, _, td3.dp, .lst (SqL.of (s3 _ _ hlm2)) (tus2.mono (TSm.of_same s3)).dp, (lay_mk2 _).shaped (by decide), (lay_mks2 _).shaped (by decide), _, rfl, ?_⟩
      rw [any_mk2]
      refine ite2 (fun ek => ?_) (fun ek => ?_)
      · have tt : TSm H3 (upd H3 A (.lst (zs ++ [y]))) := ts_upd (TSm.refl _) (NoT.lst hzs)
        refine ⟨_, rfl, zs, hzs, lt_line (by omega), zs ++ [y], upd_same, ?_, by rw [List.length_append]; exact Nat.succ_le_succ hzl, same_mut s3 hA⟩
        rw [List.filter_cons_of_pos (p := fun x : Nat × Nat => !decide (x ∈ ks)) ek, List.filter_nil, List.map_append]
        exact (tzs.mono tt).app (.one (td3.mono tt))
      · refine ⟨zs, hzs, ?_, Nat.le_succ_of_le hzl, s3⟩
        rw [List.filter_cons_of_neg (p := fun x : Nat × Nat => !decide (x ∈ ks)) ek, List.filter_nil, List.append_nil]
        exact tzs
    rintro H3 ⟨zs, hzs, tzs, hzl, s3⟩
    rw [hval, List.take_length, ← e2] at tzs
    have hc3 := s3 _ _ hc2
    refine ⟨_, rfl, c, _, rfl, d_asked (L := { L with st := B }) (a := A) hc3, ?_⟩
    have k4 : Keep [c] H3 (upd H3 c (.dK (lcd room { L with ak := A, st := B } m.win))) := keep_upd (Keep.refl _ _) (by simp)
    have t4 : TSm H3 (upd H3 c (.dK (lcd room { L with ak := A, st := B } m.win))) := ts_upd (TSm.refl _) (NoT.dK hc3)
    have hc4 : upd H3 c (.dK (lcd room { L with ak := A, st := B } m.win)) c = some (.dK (lcd room { L with ak := A, st := B } m.win)) := upd_same
    have d4 : Dom H3 (upd H3 c (.dK (lcd room { L with ak := A, st := B } m.win))) := dom_upd _ _ _
    obtain ⟨H4, eH4⟩ : ∃ H4, H4 = upd H3 c (.dK (lcd room { L with ak := A, st := B } m.win)) := ⟨_, rfl⟩
    show tSeq Ends.nx _ _ _ (upd H3 c (.dK (lcd room { L with ak := A, st := B } m.win)))
    rw [← eH4] at k4 t4 hc4 d4 ⊢
    have hB4 := k4 _ _ (by simp [ncB.symm]) (s3 _ _ hys2)
    have tB4 := (tys2.mono (TSm.of_same s3)).mono t4
    have hA4 := k4 _ _ (by simp [ncA.symm]) hzs
    have tA4 := tzs.mono t4
    have k14 : Keep [c] H1 H4 := (k2.trans (Keep.of_same s3)).trans k4
    have t14 : TSm H1 H4 := (t2.trans (TSm.of_same s3)).trans t4
    obtain ⟨vlo, hlo, tlo⟩ := hL1.lo
    have nB1 : B ∉ lM c L := hL.fresh hB
    obtain ⟨ap, ar⟩ := hL1.ap_sa (A := A) (B := B) (hL1.fresh hA1) nB1 nBA
    have hql2 : ys.length = (m.knows ks).q.length := by rw [tys.length, List.length_map]
    have hle : (m.knows ks).q.length ≤ m.q.length := by rw [e1]; exact List.length_filter_le _ _
    refine ⟨_, rfl, _, rfl, c, _, rfl, g_store hc4, B, ys, rfl, .inl (SqL.of hB4), _, _, rfl, rfl, ?_⟩
    have ev : ((vst.length : Nat) : Int) - ((ys.length : Nat) : Int) = ((m.q.length - (m.knows ks).q.length : Nat) : Int) := by
      rw [hvl, hql2]; omega
    show Q (V.int (((vst.length : Nat) : Int) - ((ys.length : Nat) : Int))) H4
    rw [ev]
    have hc4' : H4 c = some (.dK (lcd room { L with ak := A, st := B } (m.knows ks).win)) := by rw [e5]; exact hc4
    refine fin { L with ak := A, st := B } H4 (hL1.put (L' := { L with ak := A, st := B }) (N := [c]) rfl rfl k14 t14 (by simp [n5 _ (by simp [five] : L.sl ∈ five L)]) (fun r hr => by simp [nrc r hr]) hc4' hL1.m4 ⟨ys, hB4, tB4⟩ ⟨zs, hA4, tA4⟩ ⟨vlo, k14 _ _ (by simp [n5 _ (by simp [five] : L.lo ∈ five L)]) hlo, by rw [e4]; exact tlo.mono t14⟩ (k14 _ _ (by simp [n5 _ (by simp [five] : L.md ∈ five L)]) hL1.md) ap ar) ⟨fun a ha => ?_, (Keep.of_same s1).trans (k14.mono (by simp [lM])), (Dom.of_same s1).trans ((d2.trans (Dom.of_same s3)).trans d4)⟩
    refine lM_sub (L := L) (L' := { L with ak := A, st := B }) (A := A) (B := B) rfl (fun x hx => ?_) (s1.free hA1) hB a ha
    simp only [five, List.mem_cons, List.not_mem_nil, or_false] at hx ⊢
    rcases hx with e | e | e | e | e
    · exact .inl (.inl e)
    · exact .inr (.inr e)
    · exact .inr (.inl e)
    · exact .inl (.inr (.inr (.inr (.inl e))))
    · exact .inl (.inr (.inr (.inr (.inr e))))
end
end K04

namespace K04
open PySem PySem.Spec PyProof.Rows L2 Sky
section
variable {P : Program} {w : World} {K : PySem.W.Frag} {mg : Str → Option Value} {base : Heap}
def sp_lagain : Sp := fun vs H Q _ => ∃ (c : Addr) (L : La) (room z : Nat) (nl : List Strm) (m : Cr) (mk : List Nat) (lm : Addr) (us : List V) (ks : List (Nat × Nat)), vs = [.ref c, .ref lm] ∧ LcAt H c L room z nl m mk ∧ m.Ok room ∧ room ≤ 60 ∧ H lm = some (.lst us) ∧ TDs H us (ks.map mD2) ∧ ks.length ≤ 1000 ∧ lm ∉ lM c L ∧
  ∀ r xs H', H' r = some (.lst xs) → TDs H' xs ((ks.filter fun k => !decide (k ∈ m.marks)).map mD2) → H r = none → LcAt H' c L room z nl (m.agains ks) mk → Lk (lM c L) (lM c L) H H' → Q (.ref r) H'
theorem ok_law_again (T : Tx K mg) : FnOk P w K mg base CX0 1 T.a_law_again T.d_law_again ["_law_c", "_law_marks_here"] sp_lagain := by
  have nd := sc_law_again.nd
  refine T.F_law_again.ok sc_law_again (fun vs H Q E h => ?_) (fun cdv A0 outer s0 H vs Q E hr h => ?_)
  · obtain ⟨_, _, _, _, _, _, _, _, _, _, rfl, _⟩ := h
    rfl
  · obtain ⟨c, L, room, z, nl, m, mk, lm, us, ks, rfl, hL, ok, hr60, hlm, tus, hks, nlm, fin⟩ := h
    refine ⟨_, (pss_cons (ps_set (i := 2) nd rfl (Or.inr rfl) (pe_lc (own := [("_law_pair", 4)]) rfl nd (pi_list (pe_dget (hu_of hr) (pv 0) pe_str (fun _ _ => rfl))) (blkOk_by (own := [("_law_pair", 4)]) (N := N_law_again) (sc := defScope s_law_again) (by decide +kernel)) (fun _ _ _ _ _ => (pg_name (i := 4) nd rfl (Or.inl rfl))) (fun _ _ _ _ _ => pts_nil) (fun _ _ _ _ _ => (pe_ix (ix_tupK (K := K) rfl) (pv 4) pe_int (fun _ _ => rfl))))) (pss_cons (ps_for PassesOwn.never rfl (pi_list (pv 1)) (pg_name (i := 3) nd rfl (Or.inl rfl)) (pss_one (ps_if (PW.pt (pw_and (pt_cmpR (op_inD (u65 hr)) (pv 3) (pv 2) rfl) (pw_and1 (pt_cmpR (op_notInD (u65 hr)) (pv 3) (pe_dget (hu_of hr) (pv 0) pe_str (fun _ _ => rfl)) rfl)))) (pss_one (ps_expr (pe_bm PySem.F.plainAttrs_list PySem.F.slot_list_append PySem.F.type_list_append mt_append (pe_dget (hu_of hr) (pv 0) pe_str (fun _ _ => rfl)) (pa_cons (pv 3) pa_nil)))) pss_nil))) (pss_one (ps_ret (pe_lc (own := [("_law_mark", 3)]) rfl nd (pi_list (pv 1)) (blkOk_by (own := [("_law_mark", 3)]) (N := N_law_again) (sc := defScope s_law_again) (by decide +kernel)) (fun _ _ _ _ _ => (pg_name (i := 3) nd rfl (Or.inl rfl))) (fun _ _ _ _ _ => (pts_one (pt_cmpR (op_notInDK (K := K) rfl (u65 hr)) (pv 3) (pv 2) rfl))) (fun _ _ _ _ _ => (pv 3))))))), ?_⟩
    obtain ⟨vst, hst, tst⟩ := hL.st
    obtain ⟨vak, hak, tak⟩ := hL.ak
    have hql : m.q.length ≤ 60 := Nat.le_trans ok.few hr60
    have hvl : vst.length = m.q.length := by rw [tst.length, List.length_map]
    have hul : us.length = ks.length := by rw [tus.length, List.length_map]
    refine ⟨_, rfl, c, _, rfl, g_store hL.d, L.st, rfl, ⟨_, SqL.of hst⟩, fun B hB => ?_⟩
    refine lc_list (K := K) (a := L.st) (xs := vst) (fun j H' => ∃ ys, H' B = some (.lst ys) ∧ TDs H' ys ((m.q.take j).map fun x => mD2 (mkOf x)) ∧ Same H H') ⟨[], upd_same, .nil, same_new (Same.refl _) hB⟩ (fun j H' _ ⟨_, _, _, s⟩ => SqL.of (s _ _ hst)) ?_ ?_
    · rintro j y H1 hy ⟨ys, hys, tys, s1⟩
      obtain ⟨d, hd, td⟩ := tst.get hy
      obtain ⟨x, hx, rfl⟩ := map_get hd
      have hjl : j < vst.length := (List.getElem?_eq_some_iff.mp hy).1
      have hyl : ys.length ≤ j := by rw [tys.length, List.length_map, List.length_take]; omega
      obtain ⟨ya, xa, rfl, hya, tx⟩ := td_pair (td.mono (TSm.of_same s1))
      have tt : TSm H1 (upd H1 B (.lst (ys ++ [xa]))) := ts_upd (TSm.refl _) (NoT.lst hys)
      refine ⟨rfl, _, rfl, ya, _, 0, _, rfl, rfl, SqT.of hya, atI_nat (j := 0) rfl, ys, hys, lt_line (by omega), ys ++ [xa], upd_same, ?_, same_mut s1 hB⟩
      rw [List.take_add_one, hx, Option.toList_some, List.map_append]
      exact (tys.mono tt).app (.one (tx.mono tt))
    rintro H1 ⟨ys, hys, tys, s1⟩
    rw [hvl, List.take_length] at tys
    have em : m.q.map (fun x => mD2 (mkOf x)) = m.marks.map mD2 := by unfold Cr.marks; rw [List.map_map]; rfl
    rw [em] at tys
    have hL1 := hL.same s1
    have nB := hL.fresh hB
    have nlB : lm ≠ B := ne_of_none hlm hB
    have hlm1 := s1 _ _ hlm
    have tus1 := tus.mono (TSm.of_same s1)
    -- the marks
    refine ⟨_, rfl, lm, rfl, ⟨_, SqL.of hlm1⟩, ?_⟩
    refine for_list (K := K) (a := lm) (xs := us) (fun j σ H' => ∃ (v3 : Option V), σ = [some (.ref c), some (.ref lm), some (.ref B), v3, none] ∧ LcAt H' c L room z nl (m.agains (ks.take j)) mk ∧ H' B = some (.lst ys) ∧ H' lm = some (.lst us) ∧ Keep [L.ak] H1 H' ∧ TSm H1 H' ∧ Dom H1 H') ⟨_, rfl, hL1, hys, hlm1, Keep.refl _ _, TSm.refl _, Dom.refl _⟩ (fun j σ H' _ ⟨_, _, _, _, h, _⟩ => SqL.of h) ?_ ?_
    · rintro j y σ H2 hy ⟨v3, rfl, hL2, hB2, hl2, k2, t2, d2⟩
      obtain ⟨d, hd, td⟩ := tus1.get hy
      obtain ⟨k, hk, rfl⟩ := map_get hd
      have hjl : j < us.length := (List.getElem?_eq_some_iff.mp hy).1
      have td2 := td.mono t2
      have tys2 := tys.mono t2
      obtain ⟨vak2, hak2, tak2⟩ := hL2.ak
      have ek : m.agains (ks.take (j + 1)) = (m.agains (ks.take j)).again1 k := by rw [List.take_add_one, hk, Option.toList_some, agains_snoc]
      rw [ek]
      have emk : (m.agains (ks.take j)).marks = m.marks := agains_marks _ m
      refine ⟨_, rfl, _, rfl, _, _, td2.dp, .lst (SqL.of hB2) tys2.dp, (lay_mk2 _).shaped (by decide), (lay_mks2 _).shaped (by decide), _, rfl, ?_⟩
      rw [any_mk2]
      have ok2 := ok.agains (ks.take j)
      by_cases hkm : k ∈ m.marks
      · rw [decide_eq_true hkm]
        refine iteT ⟨_, rfl, _, rfl, c, _, rfl, g_asked hL2.d, _, _, td2.dp, .lst (SqL.of hak2) tak2.dp, (lay_mk2 _).shaped (by decide), (lay_mks2 _).shaped (by decide), _, rfl, ?_⟩
        rw [any_mk2]
        by_cases hka : k ∈ (m.agains (ks.take j)).asked
        · rw [decide_eq_true hka]
          refine iteF ⟨_, rfl, ?_, hB2, hl2, k2, t2, d2⟩
          have e1 : (m.agains (ks.take j)).again1 k = m.agains (ks.take j) := by
            unfold Cr.again1
            rw [emk, if_pos hkm, if_pos hka]
          rw [e1]; exact hL2
        · rw [decide_eq_false hka]
          have hal : vak2.length ≤ 60 := by
            have h1 := len_of_sub ok2.an ok2.as
            have h2 : (m.agains (ks.take j)).marks.length = m.q.length := by rw [emk]; exact List.length_map _
            rw [tak2.length, List.length_map]
            omega
          refine iteT ⟨_, rfl, c, _, rfl, g_asked hL2.d, .inl ⟨rfl, _, SqL.of hak2⟩, _, rfl, L.ak, vak2, _, rfl, rfl, hak2, lt_line (by omega), ?_⟩
          have nak5 := hL2.a5
          have k3 : Keep [L.ak] H2 (upd H2 L.ak (.lst (vak2 ++ [y]))) := keep_upd (Keep.refl _ _) (by simp)
          have t3 : TSm H2 (upd H2 L.ak (.lst (vak2 ++ [y]))) := ts_upd (TSm.refl _) (NoT.lst hak2)
          have d3 : Dom H2 (upd H2 L.ak (.lst (vak2 ++ [y]))) := dom_upd _ _ _
          have ha3 : upd H2 L.ak (.lst (vak2 ++ [y])) L.ak = some (.lst (vak2 ++ [y])) := upd_same
          generalize upd H2 L.ak (.lst (vak2 ++ [y])) = H3 at *
          have ea : ((m.agains (ks.take j)).again1 k).asked = (m.agains (ks.take j)).asked ++ [k] := by
            unfold Cr.again1
            rw [emk, if_pos hkm]
            show (if k ∈ (m.agains (ks.take j)).asked then _ else _) = _
            rw [if_neg hka]
          obtain ⟨g1, g2, g3, g4⟩ := again1_q (m.agains (ks.take j)) k
          obtain ⟨v4, h4, t4⟩ := hL2.st
          obtain ⟨v5, h5, t5⟩ := hL2.lo
          have hne := hL2.ne
          have epair : pairD ((m.agains (ks.take j)).again1 k) = pairD (m.agains (ks.take j)) := funext fun x => by unfold pairD; rw [g2]
          refine ⟨_, rfl, hL2.put (L' := L) (N := [L.ak]) rfl rfl k3 t3 (by simp [nak5.2.1]) (fun r hr => ?_) (k3 _ _ (by simp [(hne.1 L.ak (by simp [five])).symm]) (by rw [g4]; exact hL2.d)) hL2.m4 ⟨v4, k3 _ _ (by simp [nak5.2.2.2.2.1]) h4, by rw [g1, epair]; exact t4.mono t3⟩ ⟨_, ha3, by rw [ea, List.map_append]; exact (tak2.mono t3).app (.one (td2.mono t3))⟩ ⟨v5, k3 _ _ (by simp [nak5.2.2.2.2.2.2.2.1.symm]) h5, by rw [g3]; exact t5.mono t3⟩ (k3 _ _ (by simp [nak5.2.2.2.2.2.2.2.2.1.symm]) hL2.md) nak5 hL2.ar, ?_, ?_, k2.trans k3, t2.trans t3, d2.trans d3⟩
          · obtain ⟨q1, q2⟩ := hL2.ar r hr
            obtain ⟨nn, hnn⟩ := hL2.rowOf hr
            have hd := hnn.d
            refine ⟨?_, ?_, ?_⟩ <;> rw [List.mem_singleton]
            · exact fun z => by rw [z, hak2] at hd; cases hd
            · exact fun z => q1 (by rw [z]; simp [five])
            · exact fun z => q2 (by rw [z]; simp [five])
          · exact k3 _ _ (by rw [List.mem_singleton]; exact fun z => nB (mem_5 (by rw [z]; simp [five]))) hB2
          · exact k3 _ _ (by rw [List.mem_singleton]; exact fun z => nlm (mem_5 (by rw [z]; simp [five]))) hl2
      · rw [decide_eq_false hkm]
        refine iteF (iteF ⟨_, rfl, ?_, hB2, hl2, k2, t2, d2⟩)
        have e1 : (m.agains (ks.take j)).again1 k = m.agains (ks.take j) := by
          unfold Cr.again1
          rw [emk, if_neg hkm]
        rw [e1]; exact hL2
    rintro σ H2 ⟨v3, rfl, hL2, hB2, hl2, k2, t2, d2⟩
    rw [hul, List.take_length] at hL2
    have tus2 := tus1.mono t2
    have tys2 := tys.mono t2
    refine ⟨_, rfl, lm, rfl, ⟨_, SqL.of hl2⟩, fun R nR => ?_⟩
    refine lc_list (K := K) (a := lm) (xs := us) (fun j H' => ∃ zs, H' R = some (.lst zs) ∧ TDs H' zs (((ks.take j).filter fun k => !decide (k ∈ m.marks)).map mD2) ∧ zs.length ≤ j ∧ Same H2 H') ⟨[], upd_same, .nil, Nat.le_refl _, same_new (Same.refl _) nR⟩ (fun j H' _ ⟨_, _, _, _, s⟩ => SqL.of (s _ _ hl2)) ?_ ?_
    · rintro j y H3 hy ⟨zs, hzs, tzs, hzl, s3⟩
      obtain ⟨d, hd, td⟩ := tus2.get hy
      obtain ⟨x, hx, rfl⟩ := map_get hd
      have hjl : j < us.length := (List.getElem?_eq_some_iff.mp hy).1
      have td3 := td.mono (TSm.of_same s3)
      rw [List.take_add_one, hx, Option.toList_some, List.filter_append]
      refine ⟨rfl, _, rfl, _, rfl, _, _, td3.dp, .lst (SqL.of (s3 _ _ hB2)) (tys2.mono (TSm.of_same s3)).dp, (lay_mk2 _).shaped (by decide), (lay_mks2 _).shaped (by decide), _, rfl, ?_⟩
      rw [any_mk2]
      refine ite2 (fun ek => ?_) (fun ek => ?_)
      · have tt : TSm H3 (upd H3 R (.lst (zs ++ [y]))) := ts_upd (TSm.refl _) (NoT.lst hzs)
        refine ⟨_, rfl, zs, hzs, lt_line (by omega), zs ++ [y], upd_same, ?_, by rw [List.length_append]; exact Nat.succ_le_succ hzl, same_mut s3 nR⟩
        rw [List.filter_cons_of_pos (p := fun x : Nat × Nat => !decide (x ∈ m.marks)) ek, List.filter_nil, List.map_append]
        exact (tzs.mono tt).app (.one (td3.mono tt))
      · refine ⟨zs, hzs, ?_, Nat.le_succ_of_le hzl, s3⟩
        rw [List.filter_cons_of_neg (p := fun x : Nat × Nat => !decide (x ∈ m.marks)) ek, List.filter_nil, List.append_nil]
        exact tzs
    rintro H3 ⟨zs, hzs, tzs, hzl, s3⟩
    rw [hul, List.take_length] at tzs
    exact fin R zs H3 hzs tzs (s1.free (d2 _ nR)) (hL2.same s3) ⟨fun _ h => .inl h, ((Keep.of_same s1).trans (k2.mono (by simp [lM, five]))).trans (Keep.of_same s3), ((Dom.of_same s1).trans d2).trans (Dom.of_same s3)⟩
end
end K04

namespace K04
open PySem PySem.Spec PyProof.Rows L2 Sky
section
variable {P : Program} {w : World} {K : PySem.W.Frag} {mg : Str → Option Value} {base : Heap}
def sp_ldeed (C CL : Addr) : Sp := fun vs H Q _ => ∃ (z room : Nat) (p q c : Addr) (A : Ca) (B : Nat), vs = [.ref p, .ref c, .ref A.c] ∧ Bo C CL z room p q c A B H ∧ 8 ≤ z ∧ z ≤ 24 ∧ B ≤ 40000 ∧ ∀ H', Bo C CL z room p q c A (B + 30) H' → Q (.bl true) H'
theorem ok_law_deed (T : Tx K mg) : FnOk P w K mg base CX0 6 T.a_law_deed T.d_law_deed ["_law_h", "_law_c", "_law_craft_here"] (sp_ldeed T.A_Craft T.A_Laying) := by
  have nd := sc_law_deed.nd
  refine T.F_law_deed.ok sc_law_deed (fun vs H Q E h => ?_) (fun cdv A0 outer s0 H vs Q E hr h => ?_)
  · obtain ⟨_, _, _, _, _, _, _, rfl, _⟩ := h
    rfl
  · obtain ⟨z, room, p, q, c, A, B, rfl, ⟨L, ps, nl, m, qv, gs, hB⟩, hz8, hz24, hB4, fin⟩ := h
    refine ⟨_, (pss_cons (ps_par (i := 3) (j := 4) rfl nd rfl rfl (by decide) rfl rfl (pa_cons (pe_call (ok_law_next T) (hr.mono (by decide)) (by rfl) T.m_law_next T.F_law_next.kp T.b_law_next .nil pass0 (pa_cons (pv 0) (pa_cons pe_int pa_nil))) (pa_cons (pe_call (ok_law_next T) (hr.mono (by decide)) (by rfl) T.m_law_next T.F_law_next.kp T.b_law_next .nil pass0 (pa_cons (pv 0) (pa_cons pe_int pa_nil))) pa_nil)) (by rfl)) (pss_cons (ps_if (pt_cmpR op_lt (pv 3) pe_int (nomark _)) (pss_cons (ps_set (i := 5) nd rfl (Or.inl rfl) (pe_call (ok_law_data T) (hr.mono (by decide)) (by rfl) T.m_law_data T.F_law_data.kp T.b_law_data .nil pass0 (pa_cons (pv 0) pa_nil))) (pss_cons (ps_set (i := 6) nd rfl (Or.inl rfl) (pe_call (ok_law_lay T) (hr.mono (by decide)) (by rfl) T.m_law_lay T.F_law_lay.kp T.b_law_lay .nil pass0 (pa_cons (pe_ix ix_list (pe_dget (hu_of hr) (pv 1) pe_str (fun _ _ => rfl)) (pv 4) (fun _ _ => rfl)) (pa_cons (pv 5) pa_nil)))) (pss_cons (ps_expr (pe_call (ok_law_keeps T) (hr.mono (by decide)) (by rfl) T.m_law_keeps T.F_law_keeps.kp T.b_law_keeps .nil pass0 (pa_cons (pv 1) (pa_cons (pv 4) pa_nil)))) (pss_one (ps_ret (pe_call (ok_law_alike T 5) (hr.mono (by decide)) (by rfl) T.m_law_alike T.F_law_alike.kp T.b_law_alike .nil pass0 (pa_cons (pe_meth (pv 2) T.cl_Craft T.M_Craft_tell (ok_Craft_tell T) (hr.mono (by decide)) T.b_Craft_tell .nil pass0 (pa_cons (pv 4) (pa_cons (pv 5) pa_nil))) (pa_cons (pv 6) pa_nil)))))))) pss_nil) (pss_cons (ps_if (pt_cmpR op_eq (pv 3) pe_int (nomark _)) (pss_cons (ps_set (i := 6) nd rfl (Or.inl rfl) (pe_call (ok_law_fill T) (hr.mono (by decide)) (by rfl) T.m_law_fill T.F_law_fill.kp T.b_law_fill .nil pass0 (pa_cons (pe_ix ix_list (pe_dget (hu_of hr) (pv 1) pe_str (fun _ _ => rfl)) (pv 4) (fun _ _ => rfl)) pa_nil))) (pss_cons (ps_expr (pe_call (ok_law_keeps T) (hr.mono (by decide)) (by rfl) T.m_law_keeps T.F_law_keeps.kp T.b_law_keeps .nil pass0 (pa_cons (pv 1) (pa_cons (pv 4) pa_nil)))) (pss_one (ps_ret (pe_call (ok_law_alike T 5) (hr.mono (by decide)) (by rfl) T.m_law_alike T.F_law_alike.kp T.b_law_alike .nil pass0 (pa_cons (pe_meth (pv 2) T.cl_Craft T.M_Craft_close (ok_Craft_close T) (hr.mono (by decide)) T.b_Craft_close .nil pass0 (pa_cons (pv 4) pa_nil)) (pa_cons (pv 6) pa_nil))))))) pss_nil) (pss_cons (ps_if (pt_cmpR op_eq (pv 3) pe_int (nomark _)) (pss_cons (ps_set (i := 7) nd rfl (Or.inl rfl) (pe_cmpR op_gt (pe_call (ok_law_next T) (hr.mono (by decide)) (by rfl) T.m_law_next T.F_law_next.kp T.b_law_next .nil pass0 (pa_cons (pv 0) (pa_cons pe_int pa_nil))) pe_int (nomark _))) (pss_cons (ps_set (i := 6) nd rfl (Or.inl rfl) (pe_cmpR op_ne (pe_dget (hu_of hr) (pv 1) pe_str (fun _ _ => rfl)) (pv 7) (nomark _))) (pss_cons (ps_asg (pv 7) (pg_sub (pv 1) pe_str (set_dict (hu_of hr)))) (pss_one (ps_ret (pe_call (ok_law_alike T 5) (hr.mono (by decide)) (by rfl) T.m_law_alike T.F_law_alike.kp T.b_law_alike .nil pass0 (pa_cons (pe_ifExp (pt_truth (pv 7) (by intro _; rfl)) (pe_meth0 (pv 2) T.cl_Craft T.M_Craft_begin (ok_Craft_begin T) (hr.mono (by decide)) T.b_Craft_begin .nil pass0) (pe_meth0 (pv 2) T.cl_Craft T.M_Craft_shut (ok_Craft_shut T) (hr.mono (by decide)) T.b_Craft_shut .nil pass0)) (pa_cons (pv 6) pa_nil)))))))) pss_nil) (pss_cons (ps_if (pt_cmpR op_lt (pv 3) pe_int (nomark _)) (pss_cons (ps_set (i := 8) nd rfl (Or.inl rfl) (pe_call (ok_law_beat T) (hr.mono (by decide)) (by rfl) T.m_law_beat T.F_law_beat.kp T.b_law_beat .nil pass0 (pa_cons (pv 1) pa_nil))) (pss_cons (ps_set (i := 6) nd rfl (Or.inl rfl) (pe_ifExp (pt_cmpR op_isN (pv 8) pe_non (nomark _)) pe_non (pe_call (ok_law_frame T) (hr.mono (by decide)) (by rfl) T.m_law_frame T.F_law_frame.kp T.b_law_frame .nil pass0 (pa_cons (pe_ix ix_list (pe_dget (hu_of hr) (pv 1) pe_str (fun _ _ => rfl)) (pe_ix ix_tup (pv 8) pe_int (fun _ _ => rfl)) (fun _ _ => rfl)) (pa_cons (pe_ix ix_tup (pv 8) pe_int (fun _ _ => rfl)) (pa_cons (pe_ix ix_tup (pv 8) pe_int (fun _ _ => rfl)) pa_nil)))))) (pss_one (ps_ret (pe_call (ok_law_alike T 5) (hr.mono (by decide)) (by rfl) T.m_law_alike T.F_law_alike.kp T.b_law_alike .nil pass0 (pa_cons (pe_meth0 (pv 2) T.cl_Craft T.M_Craft_beat (ok_Craft_beat T) (hr.mono (by decide)) T.b_Craft_beat .nil pass0) (pa_cons (pv 6) pa_nil))))))) pss_nil) (pss_cons (ps_set (i := 9) nd rfl (Or.inl rfl) (pe_call (ok_law_marks T) (hr.mono (by decide)) (by rfl) T.m_law_marks T.F_law_marks.kp T.b_law_marks .nil pass0 (pa_cons (pv 0) (pa_cons (pe_callB (cr_max rfl) (by rfl) T.z_max (by decide +kernel) (pa_cons (pe_dget (hu_of hr) (pv 1) pe_str (fun _ _ => rfl)) pa_nil)) pa_nil)))) (pss_cons (ps_if (pt_cmpR op_eq (pe_call (ok_law_next T) (hr.mono (by decide)) (by rfl) T.m_law_next T.F_law_next.kp T.b_law_next .nil pass0 (pa_cons (pv 0) (pa_cons pe_int pa_nil))) pe_int (nomark _)) (pss_cons (ps_setLc (i := 9) (own := [("_law_k", 13)]) rfl nd rfl rfl (sw_true rfl rfl rfl (by decide +kernel)) (pi_range1 rfl T.z_range (pa_cons pe_int pa_nil)) (blkOk_by (own := [("_law_k", 13)]) (N := N_law_deed) (sc := defScope s_law_deed) (by decide +kernel)) (fun _ _ _ _ _ => (pg_name (i := 13) nd rfl (Or.inl rfl))) (fun _ _ _ _ _ => pts_nil) (fun _ _ _ _ _ => (pe_tup (pa_cons (pe_op op_fdivN (pv 13) pe_int) (pa_cons (pe_op op_sub (pe_op op_sub (pe_ix (ix_listK (K := K) rfl) (pe_dget (hu_of hr) (pv 1) pe_str (fun _ _ => rfl)) (pe_op op_fdivN (pv 13) pe_int) (fun _ _ => rfl)) pe_int) (pe_op op_modN (pv 13) pe_int)) pa_nil))))) (pss_one (ps_setLc (i := 9) (own := [("_law_mark", 8)]) rfl nd rfl rfl (sw_true rfl rfl rfl (by decide +kernel)) (pi_list (pv 9)) (blkOk_by (own := [("_law_mark", 8)]) (N := N_law_deed) (sc := defScope s_law_deed) (by decide +kernel)) (fun _ _ _ _ _ => (pg_name (i := 8) nd rfl (Or.inl rfl))) (fun _ _ _ _ _ => (pts_one (pt_cmpR op_ge (pe_ix (ix_tupK (K := K) rfl) (pv 8) pe_int (fun _ _ => rfl)) pe_int (nomark _)))) (fun _ _ _ _ _ => (pv 8))))) pss_nil) (pss_cons (ps_set (i := 10) nd rfl (Or.inl rfl) (pe_callTy call_list_of (by rfl) T.z_list (by decide +kernel) (pa_cons (pv 9) pa_nil))) (pss_cons (ps_if (pt_cmpR op_eq (pv 3) pe_int (nomark _)) (pss_one (ps_set (i := 11) nd rfl (Or.inl rfl) (pe_call (ok_law_alike T 5) (hr.mono (by decide)) (by rfl) T.m_law_alike T.F_law_alike.kp T.b_law_alike .nil pass0 (pa_cons (pe_meth (pv 2) T.cl_Craft T.M_Craft_known (ok_Craft_known T) (hr.mono (by decide)) T.b_Craft_known .nil pass0 (pa_cons (pv 10) pa_nil)) (pa_cons (pe_call (ok_law_known T) (hr.mono (by decide)) (by rfl) T.m_law_known T.F_law_known.kp T.b_law_known .nil pass0 (pa_cons (pv 1) (pa_cons (pv 9) pa_nil))) pa_nil))))) (pss_cons (ps_set (i := 12) nd rfl (Or.inl rfl) (pe_meth (pv 2) T.cl_Craft T.M_Craft_again (ok_Craft_again T) (hr.mono (by decide)) T.b_Craft_again .nil pass0 (pa_cons (pv 10) pa_nil))) (pss_cons (ps_set (i := 11) nd rfl (Or.inl rfl) (pe_call (ok_law_alike T 5) (hr.mono (by decide)) (by rfl) T.m_law_alike T.F_law_alike.kp T.b_law_alike .nil pass0 (pa_cons (pv 12) (pa_cons (pe_call (ok_law_again T) (hr.mono (by decide)) (by rfl) T.m_law_again T.F_law_again.kp T.b_law_again .nil pass0 (pa_cons (pv 1) (pa_cons (pv 9) pa_nil))) pa_nil)))) (pss_one (ps_expr (pe_bm PySem.F.plainAttrs_list PySem.F.slot_list_append PySem.F.type_list_append mt_append (pv 12) (pa_cons (pe_tup pa_nil) pa_nil))))))) (pss_one (ps_ret (pe_and (pv 11) (pe_one (pe_cmpR (op_eqD hr.units) (pv 10) (pv 9) (nomark _))))))))))))))), ?_⟩
    refine ⟨_, rfl, p, q, 12, rfl, hB.hA, by decide, by decide, fun way H1 w0 w1 hA1 k1 _ => ?_⟩
    have hB1 := hB.drawn hA1 k1
    refine ⟨_, rfl, p, q, 4, rfl, hA1, by decide, by decide, fun s' H2 s0' s1' hA2 k2 _ => ⟨_, _, rfl, ?_⟩⟩
    have hB2 := hB1.drawn hA2 k2
    obtain ⟨s, rfl⟩ : ∃ s : Nat, s' = (s : Int) := ⟨s'.toNat, (Int.toNat_of_nonneg s0').symm⟩
    have hs4 : s < 4 := by omega
    clear hB hB1 hA1 k1 hA2 k2
    obtain ⟨row, n, hrow, hn, hSA⟩ := hB2.hL.row hs4
    have hrv : (L.rs.map fun r => V.ref r.1)[s]? = some (.ref row.1) := by rw [List.getElem?_map, hrow]; rfl
    have hnm := List.mem_of_getElem? hn
    have hbig := hB2.good.big n hnm
    have okm := hB2.good.okm
    have r60 := hB2.good.r60
    have hgl := hB2.good.gl
    have hmk : (mkl z nl)[s]? = some (n.1.length / z) := by unfold mkl; rw [List.getElem?_map, hn]; rfl
    have hns : (nl.map sS)[s]? = some (sS n) := by rw [List.getElem?_map, hn]; rfl
    have below : ∀ x ∈ m.q, x.1 = s → x.2.1 < n.1.length / z := fun x hx es => by
      obtain ⟨n', h1, h2⟩ := hB2.be x hx
      rw [es, hns] at h1
      cases h1
      exact h2
    -- way < 5
    refine ⟨_, rfl, _, 5, rfl, rfl, _, rfl, ?_⟩
    refine ite2 (fun ek => ?_) (fun ek => ?_)
    · clear ek
      refine ⟨_, rfl, p, q, rfl, hB2.hA, fun t xs H3 hxs ht nt hA3 k3 _ => ?_⟩
      have hB3 := hB2.drawn hA3 k3
      have hSA3 := hB3.hL.s s row n hrow hn
      have hxl := hxs.2.1
      refine ⟨_, rfl, c, _, rfl, g_streams hB3.hL.d, _, rfl, L.sl, _, _, _, rfl, rfl, SqL.of hB3.hL.sl, atI_nat hrv, _, rfl, row.1, row.2.1, row.2.2, t, z, n.1, n.2, xs, rfl, hSA3, ht, by omega, by omega, by omega, fun H4 hS4 k4 d4 => ?_⟩
      have hL4 : LcAt H4 c L room z (nl.set s (lays1' n xs)) m (mkl z nl) := hB3.hL.rowSet (n' := lays1' n xs) hrow hS4 k4
      have hrm := List.mem_of_getElem? hrow
      have lk4 : Lk (lM c L) (lM c L) H3 H4 := Lk.in k4 d4 (by
        intro x hx
        simp only [List.mem_cons, List.not_mem_nil, or_false] at hx
        rcases hx with e | e <;> rw [e]
        · exact mem_r2 hrm
        · exact mem_r3 hrm)
      have hA4 := hB3.sep.hA_law hA3 lk4.kp
      have hC4 := hB3.sep.hC_law hB3.hL hB3.hC lk4.kp
      have t4 := lk4.kp.ts fun a ha => (hB3.hL.here a ha).2
      have htl := tFrames_len (z := z) (n := sS n) (t := xs) (by omega) hxl
      refine ⟨_, rfl, _, rfl, c, L, room, z, nl.set s (lays1' n xs), m, mkl z nl, s, n.1.length / z, lays1' n xs, tFrames z (sS n) xs, rfl, hL4, okm, r60.1, r60.2, by omega, by omega, List.getElem?_set_self (List.getElem?_eq_some_iff.mp hn).1, hmk, tFrames_n, fun i f hf => (tFrames_at hf).1, below, (by have : m.gone.length ≤ B := hgl; omega), fun L5 H5 hL5 lk5 => ?_⟩
      rw [mkl_set z nl s (lays1' n xs) _ tFrames_n] at hL5
      have sep5 := hB3.sep.law hC4 hA4 lk5
      have hA5 := hB3.sep.hA_law hA4 lk5.kp
      have hC5 := hB3.sep.hC_law hL4 hC4 lk5.kp
      have t5 := lk5.kp.ts fun a ha => (hL4.here a ha).2
      have ht5 := t5 _ _ (t4 _ _ ht)
      refine ⟨_, rfl, A.c, A.dx, _, rfl, hC5.o, cf_no (by decide), _, rfl, _, rfl, A, ps, room, z, nl.map sS, m, qv, gs, s, sS n, t, xs, rfl, hC5, hB2.be, hns, ht5, hxs, hz8, hz24, (by have : m.gone.length ≤ B := hgl; omega), fun H6 ps6 qv6 gs6 hC6 be6 g6 new6 k6 d6 => ?_⟩
      have hA6 := sep5.hA_cr hA5 k6
      have hL6 := sep5.hL_cr hC5 hL5 k6
      have sep6 := sep5.cr hL5 hA5 new6
      have good6 := good0 (hB2.good.tell (by omega) hn hxs hC6.ok g6)
      rw [ns_set0] at hC6 be6
      refine ⟨_, rfl, _, _, .int (n.2.length : Nat), rfl, ?_, .int _, DOk.int _, fun H7 s7 => fin H7 ⟨L5, ps6, nl.set s (lays1' n xs), m.keeps room s (tFrames z (sS n) xs), qv6, gs6, BoX.same ⟨hA6, hL6, hC6, be6, good6, sep6⟩ s7⟩⟩
      have e : (sS n).2.length = n.2.length := List.length_map _
      rw [e]
      exact .int _
    clear ek
    -- way == 5
    refine ⟨_, rfl, rfl, _, rfl, ?_⟩
    refine ite2 (fun ek => ?_) (fun ek => ?_)
    · clear ek
      have hgl' : m.gone.length ≤ B := hgl
      refine ⟨_, rfl, c, _, rfl, g_streams hB2.hL.d, _, rfl, L.sl, _, _, _, rfl, rfl, SqL.of hB2.hL.sl, atI_nat hrv, row.1, row.2.1, row.2.2, z, n.1, n.2, rfl, hSA, by omega, by omega, by omega, fun H4 hS4 k4 d4 => ?_⟩
      have k4' : Keep [row.2.1, row.2.2] H2 H4 := k4.mono (by simp)
      have hL4 : LcAt H4 c L room z (nl.set s (padS z n)) m (mkl z nl) := hB2.hL.rowSet (n' := padS z n) hrow hS4 k4'
      have hrm := List.mem_of_getElem? hrow
      have lk4 : Lk (lM c L) (lM c L) H2 H4 := Lk.in k4' d4 (by
        intro x hx
        simp only [List.mem_cons, List.not_mem_nil, or_false] at hx
        rcases hx with e | e <;> rw [e]
        · exact mem_r2 hrm
        · exact mem_r3 hrm)
      have hA4 := hB2.sep.hA_law hB2.hA lk4.kp
      have hC4 := hB2.sep.hC_law hB2.hL hB2.hC lk4.kp
      have hset : (nl.set s (padS z n))[s]? = some (padS z n) := List.getElem?_set_self (List.getElem?_eq_some_iff.mp hn).1
      by_cases e : n.1.length % z = 0
      · have en : (padS z n).1.length / z = n.1.length / z + 0 := by rw [padS_0 e, Nat.add_zero]
        refine ⟨_, rfl, _, rfl, c, L, room, z, nl.set s (padS z n), m, mkl z nl, s, n.1.length / z, padS z n, [], rfl, hL4, okm, r60.1, r60.2, by omega, by omega, hset, hmk, en, fun i f hf => (by cases hf), below, (by show _ + 0 ≤ _; omega), fun L5 H5 hL5 lk5 => ?_⟩
        change LcAt H5 c L5 room z (nl.set s (padS z n)) m ((mkl z nl).set s (n.1.length / z + 0)) at hL5
        rw [mkl_set z nl s (padS z n) _ en] at hL5
        have enl : nl.set s (padS z n) = nl := by
          rw [padS_0 e]
          obtain ⟨h1, h2⟩ := List.getElem?_eq_some_iff.mp hn
          rw [← h2]; exact List.set_getElem_self h1
        rw [enl] at hL5
        have sep5 := hB2.sep.law hC4 hA4 lk5
        have hA5 := hB2.sep.hA_law hA4 lk5.kp
        have hC5 := hB2.sep.hC_law hL4 hC4 lk5.kp
        refine ⟨_, rfl, A.c, A.dx, _, rfl, hC5.o, cf_no (by decide), _, rfl, A, ps, room, z, nl.map sS, m, qv, gs, s, sS n, rfl, hC5, hB2.be, hns, hz8, hz24, by omega, fun _ H6 s6 => ?_, fun e2 => absurd e e2⟩
        have hB5 : BoX T.A_Craft T.A_Laying z room p q c A B H5 L5 ps nl m qv gs := ⟨hA5, hL5, hC5, hB2.be, hB2.good, sep5⟩
        have eb : decide (((n.1.length % z : Nat) : Int) > 0) = false := decide_eq_false (by rw [e]; omega)
        rw [eb]
        refine ⟨_, rfl, _, _, .bool false, rfl, .bl _, .bl _, .sc (.inr (.inr (.inl ⟨_, rfl⟩))), fun H7 s7 => fin H7 ⟨L5, ps, nl, m, qv, gs, ?_⟩⟩
        have h7 := (hB5.same s6).same s7
        exact ⟨h7.hA, h7.hL, h7.hC, h7.be, h7.good.more (by omega), h7.sep⟩
      · have en : (padS z n).1.length / z = n.1.length / z + 1 := padS_1 (by omega) e
        refine ⟨_, rfl, _, rfl, c, L, room, z, nl.set s (padS z n), m, mkl z nl, s, n.1.length / z, padS z n, [clFrame z (sS n)], rfl, hL4, okm, r60.1, r60.2, by omega, by omega, hset, hmk, en, fun i f hf => ?_, below, (by show _ + 1 ≤ _; omega), fun L5 H5 hL5 lk5 => ?_⟩
        · have hi := (List.getElem?_eq_some_iff.mp hf).1
          have hi0 : i = 0 := by
            have : i < 1 := hi
            omega
          subst hi0
          have : clFrame z (sS n) = f := Option.some.inj hf
          rw [← this]
          rfl
        change LcAt H5 c L5 room z (nl.set s (padS z n)) (m.keep room (s, clFrame z (sS n))) ((mkl z nl).set s (n.1.length / z + 1)) at hL5
        rw [mkl_set z nl s (padS z n) _ en] at hL5
        have sep5 := hB2.sep.law hC4 hA4 lk5
        have hA5 := hB2.sep.hA_law hA4 lk5.kp
        have hC5 := hB2.sep.hC_law hL4 hC4 lk5.kp
        refine ⟨_, rfl, A.c, A.dx, _, rfl, hC5.o, cf_no (by decide), _, rfl, A, ps, room, z, nl.map sS, m, qv, gs, s, sS n, rfl, hC5, hB2.be, hns, hz8, hz24, by omega, fun e2 => absurd e2 e, fun _ H6 ps6 qv6 gs6 hC6 be6 new6 k6 d6 => ?_⟩
        have hA6 := sep5.hA_cr hA5 k6
        have hL6 := sep5.hL_cr hC5 hL5 k6
        have sep6 := sep5.cr hL5 hA5 new6
        have good6 := good0 (hB2.good.close (by omega) hz24 hn e hC6.ok)
        rw [ns_pad0] at hC6 be6
        have eb : decide (((n.1.length % z : Nat) : Int) > 0) = true := decide_eq_true (by omega)
        rw [eb]
        exact ⟨_, rfl, _, _, .bool true, rfl, .bl _, .bl _, .sc (.inr (.inr (.inl ⟨_, rfl⟩))), fun H7 s7 => fin H7 ⟨L5, ps6, nl.set s (padS z n), m.keep room (s, clFrame z (sS n)), qv6, gs6, BoX.same ⟨hA6, hL6, hC6, be6, good6, sep6⟩ s7⟩⟩
    clear ek
    -- way == 6
    refine ⟨_, rfl, rfl, _, rfl, ?_⟩
    refine ite2 (fun ek => ?_) (fun ek => ?_)
    · clear ek
      refine ⟨_, rfl, p, q, 3, rfl, hB2.hA, by decide, by decide, fun r H3 r0 r1 hA3 k3 _ => ⟨_, 0, rfl, rfl, ?_⟩⟩
      have hB3 := hB2.drawn hA3 k3
      obtain ⟨b, eb⟩ : ∃ b : Bool, decide ((0 : Int) < r) = b := ⟨_, rfl⟩
      show gName 7 (V.bl (decide ((0 : Int) < r))) _ _ _
      rw [eb]
      refine ⟨_, rfl, c, _, rfl, g_open hB3.hL.d, _, rfl, rfl, ?_⟩
      refine ⟨_, rfl, _, rfl, c, _, rfl, d_open (b := b) hB3.hL.d, ?_⟩
      have hL3 := hB3.hL
      have k4 : Keep [c] H3 (upd H3 c (.dK (lcd room L b))) := keep_upd (Keep.refl _ _) (by simp)
      have t4 : TSm H3 (upd H3 c (.dK (lcd room L b))) := ts_upd (TSm.refl _) (NoT.dK hL3.d)
      have d4 : Dom H3 (upd H3 c (.dK (lcd room L b))) := dom_upd _ _ _
      have hc4 : upd H3 c (.dK (lcd room L b)) c = some (.dK (lcd room L b)) := upd_same
      show Ends.nx _ _ (upd H3 c (.dK (lcd room L b)))
      generalize upd H3 c (.dK (lcd room L b)) = H4 at *
      obtain ⟨n5, nrc⟩ := hL3.ne
      obtain ⟨v1, g1, u1⟩ := hL3.st
      obtain ⟨v2, g2, u2⟩ := hL3.ak
      obtain ⟨v3, g3, u3⟩ := hL3.lo
      have k5 : ∀ x ∈ five L, x ∉ [c] := fun x hx => by simp [n5 x hx]
      have hL4 : LcAt H4 c L room z nl { m with win := b } (mkl z nl) := hL3.put (L' := L) (N := [c]) rfl rfl k4 t4 (k5 _ (by simp [five])) (fun r hr => by simp [nrc r hr]) hc4 hL3.m4 ⟨v1, k4 _ _ (k5 _ (by simp [five])) g1, u1.mono t4⟩ ⟨v2, k4 _ _ (k5 _ (by simp [five])) g2, u2.mono t4⟩ ⟨v3, k4 _ _ (k5 _ (by simp [five])) g3, u3.mono t4⟩ (k4 _ _ (k5 _ (by simp [five])) hL3.md) hL3.a5 hL3.ar
      have lk4 : Lk (lM c L) (lM c L) H3 H4 := Lk.in k4 d4 (by simp [lM])
      have hA4 := hB3.sep.hA_law hA3 lk4.kp
      have hC4 := hB3.sep.hC_law hL3 hB3.hC lk4.kp
      have okw : Cr.Ok room { m with win := b } := ⟨okm.nd, okm.few, okm.sn, okm.ss, okm.an, okm.as⟩
      have goodw : Good z room (B + 30) (kS0 { m with win := b } nl) := (good0 (hB3.good.craft okw hgl (fun x hx => hx))).more (by omega)
      have kA : ∀ x ∈ [A.c], x ∈ cM A ps := by simp [cM]
      refine ⟨_, rfl, b, rfl, ?_⟩
      cases b with
      | true =>
        refine iteT ⟨_, rfl, A.c, A.dx, _, rfl, hC4.o, cf_no (by decide), A, ps, room, z, nl.map sS, m, qv, gs, rfl, hC4, fun H6 hC6 k6 d6 => ?_⟩
        have hA6 := hB3.sep.hA_cr hA4 (k6.mono kA)
        have hL6 := hB3.sep.hL_cr hC4 hL4 (k6.mono kA)
        refine ⟨_, rfl, _, _, .bool (!m.win), rfl, .bl _, ?_, .sc (.inr (.inr (.inl ⟨_, rfl⟩))), fun H7 s7 => fin H7 ⟨L, ps, nl, { m with win := true }, qv, gs, BoX.same ⟨hA6, hL6, hC6, hB3.be, goodw, hB3.sep⟩ s7⟩⟩
        have ed : (!decide (V.bl m.win = V.bl true)) = !m.win := by cases m.win <;> decide
        show Dp K H6 (V.bl (!decide (V.bl m.win = V.bl true))) _
        rw [ed]
        exact .bl _
      | false =>
        refine iteF ⟨_, rfl, A.c, A.dx, _, rfl, hC4.o, cf_no (by decide), A, ps, room, z, nl.map sS, m, qv, gs, rfl, hC4, fun H6 hC6 k6 d6 => ?_⟩
        have hA6 := hB3.sep.hA_cr hA4 (k6.mono kA)
        have hL6 := hB3.sep.hL_cr hC4 hL4 (k6.mono kA)
        refine ⟨_, rfl, _, _, .bool m.win, rfl, .bl _, ?_, .sc (.inr (.inr (.inl ⟨_, rfl⟩))), fun H7 s7 => fin H7 ⟨L, ps, nl, { m with win := false }, qv, gs, BoX.same ⟨hA6, hL6, hC6, hB3.be, goodw, hB3.sep⟩ s7⟩⟩
        have ed : (!decide (V.bl m.win = V.bl false)) = m.win := by cases m.win <;> decide
        show Dp K H6 (V.bl (!decide (V.bl m.win = V.bl false))) _
        rw [ed]
        exact .bl _
    clear ek
    -- way < 10
    refine ⟨_, rfl, _, 10, rfl, rfl, _, rfl, ?_⟩
    refine ite2 (fun ek => ?_) (fun ek => ?_)
    · clear ek
      refine ⟨_, rfl, c, L, room, z, nl, m, mkl z nl, rfl, hB2.hL, okm, r60.2, fun e H3 s3 => ?_, fun k hw hk v L3 H3 tv hL3 lk3 => ?_⟩
      · refine ⟨_, rfl, rfl, _, rfl, ?_⟩
        rw [decide_eq_true (rfl : V.non = V.non)]
        have hB3 := hB2.same s3
        refine iteT ⟨_, rfl, A.c, A.dx, _, rfl, hB3.hC.o, cf_no (by decide), A, ps, room, z, nl.map sS, m, qv, gs, rfl, hB3.hC, fun _ H4 s4 => ?_, fun k x hw hk => ?_⟩
        · refine ⟨_, rfl, _, _, .none, rfl, .non, .non, DOk.none, fun H7 s7 => fin H7 ⟨L, ps, nl, m, qv, gs, ?_⟩⟩
          have h7 := (hB3.same s4).same s7
          exact ⟨h7.hA, h7.hL, h7.hC, h7.be, h7.good.more (by omega), h7.sep⟩
        · rcases e with e | e
          · rw [e] at hw; cases hw
          · rw [e] at hk; cases hk
      · obtain ⟨ya, rfl, hya⟩ := td_mk2 tv
        refine ⟨_, rfl, rfl, _, rfl, ?_⟩
        rw [decide_eq_false (show ¬ (V.ref ya = V.non) from fun z => nomatch z)]
        obtain ⟨x, hx, ex⟩ := List.mem_map.mp (okm.next hk)
        obtain ⟨n', hn', hle, hfr⟩ := hB2.good.q x hx
        subst ex
        have hx4 : x.1 < 4 := by rw [← hB2.hL.n4]; exact (List.getElem?_eq_some_iff.mp hn').1
        obtain ⟨row', n2, hrow', hn2, hSA'⟩ := hL3.row hx4
        have en : n2 = n' := Option.some.inj (hn2.symm.trans hn')
        subst en
        have hrv' : (L3.rs.map fun r => V.ref r.1)[x.1]? = some (.ref row'.1) := by rw [List.getElem?_map, hrow']; rfl
        have hb' := hB2.good.big n2 (List.mem_of_getElem? hn2)
        have hl' := hB2.good.lay n2 (List.mem_of_getElem? hn2)
        have hA3 := hB2.sep.hA_law hB2.hA lk3.kp
        have hC3 := hB2.sep.hC_law hB2.hL hB2.hC lk3.kp
        have sep3 := hB2.sep.law hB2.hC hB2.hA lk3
        refine iteF ⟨_, rfl, c, _, rfl, g_streams hL3.d, _, rfl, ya, _, 0, _, rfl, rfl, SqT.of hya, atI_nat (j := 0) rfl, L3.sl, _, _, _, rfl, rfl, SqL.of hL3.sl, atI_nat hrv', _, rfl, ya, _, 0, _, rfl, rfl, SqT.of hya, atI_nat (j := 0) rfl, _, rfl, ya, _, 1, _, rfl, rfl, SqT.of hya, atI_nat (j := 1) rfl, row'.1, row'.2.1, row'.2.2, z, n2.1, n2.2, _, x.2.1, rfl, hSA', by omega, by omega, by omega, by omega, ?_, hle, fun fr H4 tf s4 => ?_⟩
        · exact hl'.laid.asc
        refine ⟨_, rfl, A.c, A.dx, _, rfl, (hC3.same s4).o, cf_no (by decide), A, ps, room, z, nl.map sS, m, qv, gs, rfl, hC3.same s4, fun e H5 s5 => ?_, fun k2 x2 _ hk2 hx2 ex2 v2 H5 hC5 tv2 k5 d5 => ?_⟩
        · rcases e with e | e
          · rw [e] at hw; cases hw
          · rw [e] at hk; cases hk
        have ek : k2 = mkOf x := Option.some.inj (hk2.symm.trans hk)
        have exx : x2 = x := Made.inj (hB2.good.q x2 hx2) (hB2.good.q x hx) (ex2.trans ek)
        subst exx
        rw [← hfr] at tf
        have hC4 := hC3.same s4
        have hL4 := hL3.same s4
        have hA4 := hA3.keepM (Keep.of_same (M := []) s4) (by simp) (by simp)
        have kA : ∀ y ∈ [A.se, A.ak], y ∈ cM A ps := by
          intro y hy
          simp only [List.mem_cons, List.not_mem_nil, or_false] at hy
          rcases hy with e | e <;> rw [e] <;> simp [cM]
        have t5 := k5.ts fun y hy => (hC4.noT y (kA y hy)).1
        have hA5 := sep3.hA_cr hA4 (k5.mono kA)
        have hL5 := sep3.hL_cr hC4 hL4 (k5.mono kA)
        rw [ek] at hC5
        have tf5 := tf.mono t5
        have goodb : Good z room (B + 30) (kS0 (m.sends (mkOf x2)) nl) := (good0 (hB2.good.craft hC5.ok hgl (fun y hy => hy))).more (by omega)
        have hlen : x2.2.2.2.length ≤ 100 := by
          rw [hfr]
          show ((n2.1.drop (x2.2.1 * z)).take z).length ≤ 100
          rw [List.length_take]
          omega
        exact ⟨_, rfl, _, _, frmD ((x2.1 : Nat) : Int) x2.2, rfl, tv2.dp, tf5.dp, dok_f hlen, fun H7 s7 => fin H7 ⟨L3, ps, nl, m.sends (mkOf x2), qv, gs, BoX.same ⟨hA5, hL5, hC5, hB2.be, goodb, sep3⟩ s7⟩⟩
    clear ek
    -- marks
    have hmd := hB2.hL.md
    have emd : ((mkl z nl).map fun n : Nat => V.int (n : Int)) = ((mkl z nl).map fun n : Nat => (n : Int)).map V.int := by rw [List.map_map]; rfl
    have small : ∀ x ∈ mkl z nl, x ≤ 5000 := fun x hx => by
      obtain ⟨n', hn', rfl⟩ := List.mem_map.mp hx
      have h1 := (hB2.good.big n' hn').1
      have h2 : n'.1.length / z ≤ n'.1.length / 8 := Nat.div_le_div_left hz8 (by decide)
      have h3 : n'.1.length ≤ B := h1
      omega
    have ml4 : (mkl z nl).length = 4 := hB2.hL.m4
    refine ⟨_, rfl, _, rfl, c, _, rfl, g_made hB2.hL.d, L.md, (mkl z nl).map fun n : Nat => (n : Int), rfl, (by rw [← emd]; exact SqL.of hmd), (by rw [List.length_map, ml4]; decide), fun mx hmx _ => ?_⟩
    obtain ⟨mn, hmn, rfl⟩ := List.mem_map.mp hmx
    have hmn5 := small mn hmn
    refine ⟨p, q, mn, rfl, hB2.hA, by omega, fun r xs ks H3 hr tx hk hkl nr hA3 k3 d3 => ?_⟩
    have hB3 := hB2.drawn hA3 k3
    have nr2 := hB2.fresh nr
    clear hmx
    refine gn_cut (fun σ' H' => ∃ (r : Addr) (xs : List V) (ks : List (Nat × Nat)), σ' = [some (.ref p), some (.ref c), some (.ref A.c), some (.int way), some (.int (s : Nat)), none, none, none, none, some (.ref r), none, none, none, none] ∧ H' r = some (.lst xs) ∧ TDs H' xs (ks.map mD2) ∧ (∀ k ∈ ks, k.1 ≤ 3 ∧ k.2 ≤ 9999) ∧ ks.length ≤ 400 ∧ (r ∉ lM c L ∧ r ∉ cM A ps ∧ r ≠ p ∧ r ≠ q) ∧ BoX T.A_Craft T.A_Laying z room p q c A B H' L ps nl m qv gs) (fun σ' H4 ⟨r', xs', ks', es, hr', tx', hk', hkl', nr', hB4'⟩ => ?_) (fun D' rest => ?_)
    rotate_left
    · refine ⟨_, rfl, p, q, 15, rfl, hA3, by decide, by decide, fun r5 H5 r50 r51 hA5 k5 d5 => ⟨rfl, _, rfl, ?_⟩⟩
      have hB5 := hB3.drawn hA5 k5
      have hr5 : H5 r = some (.lst xs) := k5 _ _ (by simp [nr2.2.2.1, nr2.2.2.2]) hr
      have tx5 := tx.mono (k5.ts hA3.noT)
      refine ite2 (fun ek => ?_) (fun ek => ?_)
      rotate_left
      · exact rest _ _ ⟨r, xs, ks, rfl, hr5, tx5, hk, by omega, nr2, hB5⟩
      clear ek
      refine ⟨400, rfl, by decide, by decide, fun D nD => ?_⟩
      have hmd5 := hB5.hL.md
      refine lc_range (lo := 0) (n := 400) (fun i H' => ∃ ys, H' D = some (.lst ys) ∧ ys.length = i ∧ (∀ y ∈ ys, ∃ (a : Addr) (s : Nat) (v : Int), y = .ref a ∧ H' a = some (.tup [.int (s : Nat), .int v]) ∧ s ≤ 3 ∧ v ≤ 9999) ∧ Same H5 H') ⟨[], upd_same, rfl, by simp, same_new (Same.refl _) nD⟩ ?_ ?_
      · rintro i H6 hi ⟨ys, hys, hyl, hall, s6⟩
        obtain ⟨cnt, hcnt⟩ : ∃ cnt, (mkl z nl)[i / 100]? = some cnt := ⟨_, List.getElem?_eq_getElem (by rw [ml4]; omega)⟩
        have hcs := small cnt (List.mem_of_getElem? hcnt)
        have hcv : ((mkl z nl).map fun n : Nat => V.int (n : Int))[i / 100]? = some (.int ((cnt : Nat) : Int)) := by rw [List.getElem?_map, hcnt]; rfl
        have hL6 := hB5.hL.same s6
        simp only [Int.zero_add]
        have ef : ((i : Nat) : Int).fdiv 100 = ((i / 100 : Nat) : Int) := fdiv_nat i 100
        have em : ((i : Nat) : Int).fmod 100 = ((i % 100 : Nat) : Int) := fmod_nat i 100
        refine ⟨rfl, _, rfl, _, 100, rfl, rfl, ⟨by decide, by decide⟩, _, rfl, c, _, rfl, g_made hL6.d, _, rfl, _, 100, rfl, rfl, ⟨by decide, by decide⟩, L.md, _, _, _, rfl, rfl, SqL.of hL6.md, (by rw [ef]; exact atI_nat hcv), _, 1, rfl, rfl, _, rfl, _, 100, rfl, rfl, (by decide : (100 : Int) ≠ 0), _, _, rfl, rfl, (by decide : (2 : Nat) ≤ sizeLine), fun a na => ?_⟩
        have s7 := same_new (Same.refl H6) na (o := .tup [.int (((i : Nat) : Int).fdiv 100), .int (((cnt : Nat) : Int) - 1 - ((i : Nat) : Int).fmod 100)])
        have hys7 := s7 _ _ hys
        have t8 : ∀ b xs, upd H6 a (.tup [.int (((i : Nat) : Int).fdiv 100), .int (((cnt : Nat) : Int) - 1 - ((i : Nat) : Int).fmod 100)]) b = some (.tup xs) → upd (upd H6 a (.tup [.int (((i : Nat) : Int).fdiv 100), .int (((cnt : Nat) : Int) - 1 - ((i : Nat) : Int).fmod 100)])) D (.lst (ys ++ [.ref a])) b = some (.tup xs) := fun b xs e => ts_upd (TSm.refl _) (NoT.lst hys7) b xs e
        refine ⟨ys, hys7, lt_line (by omega), ys ++ [.ref a], upd_same, by rw [List.length_append, hyl]; rfl, fun y hy => ?_, same_mut (s6.trans s7) nD⟩
        rcases List.mem_append.mp hy with e | e
        · obtain ⟨b, s2, v, e1, e2, e3, e4⟩ := hall y e
          exact ⟨b, s2, v, e1, t8 _ _ (s7 _ _ e2), e3, e4⟩
        · rw [List.mem_singleton.mp e]
          refine ⟨a, i / 100, ((cnt : Nat) : Int) - 1 - ((i : Nat) : Int).fmod 100, rfl, t8 _ _ (by rw [← ef]; exact upd_same), by omega, by rw [em]; omega⟩
      rintro H6 ⟨ys, hys, hyl, hall, s6⟩
      have hB6 := hB5.same s6
      refine ⟨_, rfl, D, rfl, ⟨_, SqL.of hys⟩, fun D2 nD2 => ?_⟩
      have nd2 := hB6.fresh nD2
      refine lc_list (K := K) (a := D) (xs := ys) (fun j H' => ∃ (zs : List V) (ks2 : List (Nat × Nat)), H' D2 = some (.lst zs) ∧ TDs H' zs (ks2.map mD2) ∧ ks2.length ≤ j ∧ (∀ k ∈ ks2, k.1 ≤ 3 ∧ k.2 ≤ 9999) ∧ Same H6 H') ⟨[], [], upd_same, .nil, Nat.le_refl _, by simp, same_new (Same.refl _) nD2⟩ (fun j H' _ ⟨_, _, _, _, _, _, s⟩ => SqL.of (s _ _ hys)) ?_ ?_
      · rintro j y H7 hy ⟨zs, ks2, hzs, tzs, hkl2, hkb, s7⟩
        obtain ⟨a, s2, v, rfl, ha, hs3, hv9⟩ := hall y (List.mem_of_getElem? hy)
        have ha7 := s7 _ _ ha
        have hjl : j < ys.length := (List.getElem?_eq_some_iff.mp hy).1
        have hzl : zs.length ≤ 400 := by rw [tzs.length, List.length_map]; omega
        refine ⟨rfl, _, rfl, a, _, 1, _, rfl, rfl, SqT.of ha7, atI_nat (j := 1) rfl, _, 0, rfl, rfl, _, rfl, ?_⟩
        by_cases hv : 0 ≤ v
        · have ed : decide ((0 : Int) ≤ v) = true := decide_eq_true hv
          have tt : TSm H7 (upd H7 D2 (.lst (zs ++ [.ref a]))) := ts_upd (TSm.refl _) (NoT.lst hzs)
          have ta : TD H7 (.ref a) (mD2 (s2, v.toNat)) := by
            have ev : ((v.toNat : Nat) : Int) = v := Int.toNat_of_nonneg hv
            refine .tup ha7 (.cons (.int _) (.cons ?_ .nil))
            show TD H7 (.int v) (.int ((v.toNat : Nat) : Int))
            rw [ev]
            exact .int _
          rw [ed]
          refine iteT ⟨_, rfl, zs, hzs, lt_line (by omega), zs ++ [.ref a], ks2 ++ [(s2, v.toNat)], upd_same, ?_, by rw [List.length_append]; exact Nat.succ_le_succ hkl2, fun k hk => ?_, same_mut s7 nD2⟩
          · rw [List.map_append]
            exact (tzs.mono tt).app (.one (ta.mono tt))
          · rcases List.mem_append.mp hk with e | e
            · exact hkb k e
            · rw [List.mem_singleton.mp e]
              exact ⟨hs3, by show v.toNat ≤ 9999; omega⟩
        · have ed : decide ((0 : Int) ≤ v) = false := decide_eq_false hv
          rw [ed]
          exact iteF ⟨zs, ks2, hzs, tzs, Nat.le_succ_of_le hkl2, hkb, s7⟩
      rintro H7 ⟨zs, ks2, hzs, tzs, hkl2, hkb, s7⟩
      exact rest _ _ ⟨D2, zs, ks2, rfl, hzs, tzs, hkb, by omega, nd2, hB6.same s7⟩
    subst es
    have hxl : xs'.length = ks'.length := by rw [tx'.length, List.length_map]
    refine ⟨_, rfl, r', xs', rfl, .inl (SqL.of hr'), fun hd nhd => ?_⟩
    have q1 := same_new (Same.refl H4) nhd (o := .lst xs')
    have hhd : upd H4 hd (.lst xs') hd = some (.lst xs') := upd_same
    have hB5 := hB4'.same q1
    have hr5 := q1 _ _ hr'
    have tx5 := tx'.mono (TSm.of_same q1)
    have nhd4 := hB4'.fresh nhd
    generalize upd H4 hd (.lst xs') = H5 at *
    refine gn_cut (fun σ' H' => ∃ (w12 : Option V), σ' = [some (.ref p), some (.ref c), some (.ref A.c), some (.int way), some (.int (s : Nat)), none, none, none, none, some (.ref r'), some (.ref hd), some (.bl true), w12, none] ∧ H' r' = some (.lst xs') ∧ H' hd = some (.lst xs') ∧ TDs H' xs' (ks'.map mD2) ∧ Bo T.A_Craft T.A_Laying z room p q c A (B + 30) H') (fun σ' H6 ⟨w12, es, hr6, hhd6, tx6, hBo⟩ => ?_) (fun D' rest => ?_)
    · subst es
      refine ⟨_, rfl, true, rfl, iteT ⟨_, rfl, _, rfl, .list (ks'.map mD2), .list (ks'.map mD2), .lst (SqL.of hhd6) tx6.dp, .lst (SqL.of hr6) tx6.dp, (lay_mks2 _).shaped (by decide), (lay_mks2 _).shaped (by decide), ?_⟩⟩
      rw [(lay_mks2 ks').refl]
      exact fin H6 hBo
    have kA : ∀ y ∈ [A.fr, A.se, A.ak], y ∈ cM A ps := by
      intro y hy
      simp only [List.mem_cons, List.not_mem_nil, or_false] at hy
      rcases hy with e | e | e <;> rw [e] <;> simp [cM]
    have nrh : r' ≠ hd := ne_of_none hr' nhd
    refine ⟨_, rfl, rfl, _, rfl, ?_⟩
    refine ite2 (fun ek => ?_) (fun ek => ?_)
    · clear ek
      refine ⟨_, rfl, A.c, A.dx, _, rfl, hB5.hC.o, cf_no (by decide), _, rfl, A, ps, room, z, nl.map sS, m, qv, gs, hd, xs', ks', rfl, hB5.hC, hhd, tx5, hk', (fun e => nhd4.2.1 (by rw [e]; simp [cM])), fun H6 qv6 hC6 k6 d6 => ?_⟩
      have k6' := k6.mono kA
      have hA6 := hB5.sep.hA_cr hB5.hA k6'
      have hL6 := hB5.sep.hL_cr hB5.hC hB5.hL k6'
      have t6 := k6'.ts fun y hy => (hB5.hC.noT y hy).1
      have hr6 := k6' _ _ nr'.2.1 hr5
      have hd6 := k6' _ _ nhd4.2.1 hhd
      have tx6 := tx5.mono t6
      refine ⟨_, rfl, _, rfl, c, L, room, z, nl, m, mkl z nl, r', xs', ks', rfl, hL6, okm, r60.2, hr6, tx6, by omega, nr'.1, fun L7 H7 hL7 lk7 => ?_⟩
      have hA7 := hB5.sep.hA_law hA6 lk7.kp
      have hC7 := hB5.sep.hC_law hL6 hC6 lk7.kp
      have sep7 := hB5.sep.law hC6 hA6 lk7
      have t7 := lk7.kp.ts fun y hy => (hL6.here y hy).2
      obtain ⟨e1, e2, e3, e4, e5⟩ := knows_eq (m := m) ks' okm
      have hsub : ∀ x ∈ (m.knows ks').q, x ∈ m.q := fun x hx => by rw [e1] at hx; exact (List.mem_filter.mp hx).1
      have good7 : Good z room (B + 30) (kS0 (m.knows ks') nl) := (good0 (hB5.good.craft hC7.ok (by rw [e4]; exact hgl) hsub)).more (by omega)
      refine ⟨_, _, .int _, rfl, .int _, .int _, DOk.int _, fun H8 s8 => rest _ _ ⟨_, rfl, s8 _ _ (lk7.kp _ _ nr'.1 hr6), s8 _ _ (lk7.kp _ _ nhd4.1 hd6), (tx6.mono t7).mono (TSm.of_same s8), L7, ps, nl, m.knows ks', qv6, gs, BoX.same ⟨hA7, hL7, hC7, fun x hx => hB5.be x (hsub x hx), good7, sep7⟩ s8⟩⟩
    · clear ek
      refine ⟨_, rfl, A.c, A.dx, _, rfl, hB5.hC.o, cf_no (by decide), _, rfl, A, ps, room, z, nl.map sS, m, qv, gs, hd, xs', ks', rfl, hB5.hC, hhd, tx5, hk', by omega, fun R zs H6 hR tR hC6 nR k6 d6 => ?_⟩
      have k6' : Keep (cM A ps) H5 H6 := k6.mono (by simp [cM])
      have hA6 := hB5.sep.hA_cr hB5.hA k6'
      have hL6 := hB5.sep.hL_cr hB5.hC hB5.hL k6'
      have t6 := k6'.ts fun y hy => (hB5.hC.noT y hy).1
      have hr6 := k6' _ _ nr'.2.1 hr5
      have hd6 := k6' _ _ nhd4.2.1 hhd
      have tx6 := tx5.mono t6
      have frR := hB5.fresh nR
      refine ⟨_, rfl, _, rfl, _, rfl, c, L, room, z, nl, m, mkl z nl, r', xs', ks', rfl, hL6, okm, r60.2, hr6, tx6, by omega, nr'.1, fun R2 zs2 H7 hR2 tR2 nR2 hL7 lk7 => ?_⟩
      have hA7 := hB5.sep.hA_law hA6 lk7.kp
      have hC7 := hB5.sep.hC_law hL6 hC6 lk7.kp
      have t7 := lk7.kp.ts fun y hy => (hL6.here y hy).2
      obtain ⟨e1, e2, e3, e4⟩ := agains_q ks' m
      have good7 : Good z room (B + 30) (kS0 (m.agains ks') nl) := (good0 (hB5.good.craft hC7.ok (by rw [e3]; exact hgl) (fun x hx => by rw [e1] at hx; exact hx))).more (by omega)
      have hR7 := lk7.kp _ _ frR.1 hR
      have hzl : zs.length ≤ 400 := by
        rw [tR.length, List.length_map]
        exact Nat.le_trans (List.length_filter_le _ _) hkl'
      refine ⟨_, _, .list ((ks'.filter fun k => !decide (k ∈ m.marks)).map mD2), rfl, .lst (SqL.of hR7) (tR.mono t7).dp, .lst (SqL.of hR2) tR2.dp, DOk.list (by rw [← tR.length]; omega) (fun e he => by
        obtain ⟨k, _, rfl⟩ := List.mem_map.mp he
        exact dok_m k), fun H8 s8 => ?_⟩
      have hB8 : BoX T.A_Craft T.A_Laying z room p q c A (B + 30) H8 L ps nl (m.agains ks') qv gs := BoX.same ⟨hA7, hL7, hC7, fun x hx => hB5.be x (by rw [e1] at hx; exact hx), good7, hB5.sep⟩ s8
      have hR8 := s8 _ _ hR7
      refine ⟨_, rfl, .inl ⟨rfl, _, SqL.of hR8⟩, Nat.zero_le _, fun e ne => ?_⟩
      have s9 := same_new (Same.refl H8) ne (o := .tup [])
      have hR9 := s9 _ _ hR8
      have s79 := s8.trans s9
      refine ⟨R, zs, _, rfl, rfl, hR9, lt_line (by omega), ?_⟩
      have k10 : Keep [R] (upd H8 e (.tup [])) (upd (upd H8 e (.tup [])) R (.lst (zs ++ [.ref e]))) := keep_upd (Keep.refl _ _) (by simp)
      have t10 : TSm (upd H8 e (.tup [])) (upd (upd H8 e (.tup [])) R (.lst (zs ++ [.ref e]))) := ts_upd (TSm.refl _) (NoT.lst hR9)
      have nRr : r' ≠ R := ne_of_none hr5 nR
      have nRh : hd ≠ R := ne_of_none hhd nR
      refine rest _ _ ⟨_, rfl, k10 _ _ (by simp [nRr]) (s79 _ _ (lk7.kp _ _ nr'.1 hr6)), k10 _ _ (by simp [nRh]) (s79 _ _ (lk7.kp _ _ nhd4.1 hd6)), ((tx6.mono t7).mono (TSm.of_same s79)).mono t10, L, ps, nl, m.agains ks', qv, gs, (hB8.same s9).else k10 t10 (fun a ha z => frR.1 (by rw [← List.mem_singleton.mp z]; exact ha)) (fun a ha z => frR.2.1 (by rw [← List.mem_singleton.mp z]; exact ha)) ⟨by simp [frR.2.2.1.symm], by simp [frR.2.2.2.symm]⟩⟩
end
end K04

namespace K04
open PySem PySem.Spec PyProof.Rows L2 Sky
section
variable {P : Program} {w : World} {K : PySem.W.Frag} {mg : Str → Option Value} {base : Heap}
def sp_law (K : PySem.W.Frag) : Sp := fun vs H Q _ => ∃ (a : Addr) (ns : List Int), vs = [.ref a] ∧ SqL K H a (ns.map V.int) ∧ ns.length ≤ 63 ∧ ∀ H', Q (.bl true) H'
theorem ok_law (T : Tx K mg) : FnOk P w K mg base CX0 7 T.a_law T.d_law ["_law_script"] (sp_law K) := by
  have nd := sc_law.nd
  refine T.F_law.ok sc_law (fun vs H Q E h => ?_) (fun cdv A0 outer s0 H vs Q E hr h => ?_)
  · obtain ⟨_, _, rfl, _⟩ := h
    rfl
  · obtain ⟨sa, ns, rfl, hS, hlen, fin⟩ := h
    refine ⟨_, (pss_cons (ps_set (i := 1) nd rfl (Or.inl rfl) (pe_call (ok_law_mix T) (hr.mono (by decide)) (by rfl) T.m_law_mix T.F_law_mix.kp T.b_law_mix .nil pass0 (pa_cons (pv 0) (pa_cons pe_int pa_nil)))) (pss_cons (ps_par (i := 2) (j := 3) rfl nd rfl rfl (by decide) rfl rfl (pa_cons (pe_op op_add pe_int (pe_call (ok_law_next T) (hr.mono (by decide)) (by rfl) T.m_law_next T.F_law_next.kp T.b_law_next .nil pass0 (pa_cons (pv 1) (pa_cons pe_int pa_nil)))) (pa_cons (pe_op op_add pe_int (pe_call (ok_law_next T) (hr.mono (by decide)) (by rfl) T.m_law_next T.F_law_next.kp T.b_law_next .nil pass0 (pa_cons (pv 1) (pa_cons (pe_ix ix_list (pe_lst (pa_cons pe_int (pa_cons pe_int (pa_cons pe_int pa_nil)))) (pe_call (ok_law_next T) (hr.mono (by decide)) (by rfl) T.m_law_next T.F_law_next.kp T.b_law_next .nil pass0 (pa_cons (pv 1) (pa_cons pe_int pa_nil))) (fun _ _ => rfl)) pa_nil)))) pa_nil)) (by rfl)) (pss_cons (ps_par (i := 4) (j := 5) rfl nd rfl rfl (by decide) rfl rfl (pa_cons (pe_call (ok_law_craft T) (hr.mono (by decide)) (by rfl) T.m_law_craft T.F_law_craft.kp T.b_law_craft .nil pass0 (pa_cons (pv 2) (pa_cons (pv 3) pa_nil))) (pa_cons (pe_make T.mk_Craft (ok_Craft_init T) (hr.mono (by decide)) (by rfl) T.m_Craft T.b_Craft_init .nil pass0 (pa_cons (pv 2) (pa_cons (pv 3) pa_nil))) pa_nil)) (by rfl)) (pss_cons (ps_set (i := 6) nd rfl (Or.inl rfl) (pe_call (ok_law_next T) (hr.mono (by decide)) (by rfl) T.m_law_next T.F_law_next.kp T.b_law_next .nil pass0 (pa_cons (pv 1) (pa_cons pe_int pa_nil)))) (pss_cons (ps_for PassesOwn.never rfl (pi_range1 rfl T.z_range (pa_cons (pe_op op_mul pe_int (pe_callTy call_int1 (by rfl) T.z_int (by decide +kernel) (pa_cons (pe_cmpR op_eq (pe_call (ok_law_next T) (hr.mono (by decide)) (by rfl) T.m_law_next T.F_law_next.kp T.b_law_next .nil pass0 (pa_cons (pv 1) (pa_cons pe_int pa_nil))) pe_int (nomark _)) pa_nil))) pa_nil)) (pg_name (i := 7) nd rfl (Or.inl rfl)) (pss_cons (ps_set (i := 8) nd rfl (Or.inl rfl) (pe_op (op_repT.or op_onceT) (pe_tup (pa_cons (pe_op op_modN (pv 7) pe_int) pa_nil)) (pe_op op_add pe_int (pe_op op_modN (pv 7) pe_int)))) (pss_cons (ps_expr (pe_meth (pv 5) T.cl_Craft T.M_Craft_tell (ok_Craft_tell T) (hr.mono (by decide)) T.b_Craft_tell .nil pass0 (pa_cons (pv 6) (pa_cons (pv 8) pa_nil)))) (pss_cons (ps_expr (pe_call (ok_law_lay T) (hr.mono (by decide)) (by rfl) T.m_law_lay T.F_law_lay.kp T.b_law_lay .nil pass0 (pa_cons (pe_ix ix_list (pe_dget (hu_of hr) (pv 4) pe_str (fun _ _ => rfl)) (pv 6) (fun _ _ => rfl)) (pa_cons (pv 8) pa_nil)))) (pss_one (ps_expr (pe_call (ok_law_keeps T) (hr.mono (by decide)) (by rfl) T.m_law_keeps T.F_law_keeps.kp T.b_law_keeps .nil pass0 (pa_cons (pv 4) (pa_cons (pv 6) pa_nil))))))))) (pss_cons (ps_for PassesOwn.never rfl (pi_range1 rfl T.z_range (pa_cons (pe_call (ok_law_next T) (hr.mono (by decide)) (by rfl) T.m_law_next T.F_law_next.kp T.b_law_next .nil pass0 (pa_cons (pv 1) (pa_cons pe_int pa_nil))) pa_nil)) (pg_name (i := 7) nd rfl (Or.inl rfl)) (pss_cons (ps_if (pt_not (pt_val (pe_call (ok_law_deed T) (hr.mono (by decide)) (by rfl) T.m_law_deed T.F_law_deed.kp T.b_law_deed .nil pass0 (pa_cons (pv 1) (pa_cons (pv 4) (pa_cons (pv 5) pa_nil)))))) (pss_one (ps_ret pe_bl)) pss_nil) (pss_cons (ps_set (i := 9) nd rfl (Or.inl rfl) (pe_lst (pa_cons (pe_meth0 (pv 5) T.cl_Craft T.M_Craft_kept (ok_Craft_kept T) (hr.mono (by decide)) T.b_Craft_kept .nil pass0) (pa_cons (pe_meth0 (pv 5) T.cl_Craft T.M_Craft_lost (ok_Craft_lost T) (hr.mono (by decide)) T.b_Craft_lost .nil pass0) (pa_cons (pe_meth0 (pv 5) T.cl_Craft T.M_Craft_waits (ok_Craft_waits T) (hr.mono (by decide)) T.b_Craft_waits .nil pass0) pa_nil))))) (pss_cons (ps_if (pt_not (pt_val (pe_call (ok_law_alike T 5) (hr.mono (by decide)) (by rfl) T.m_law_alike T.F_law_alike.kp T.b_law_alike .nil pass0 (pa_cons (pv 9) (pa_cons (pe_lst (pa_cons (pe_lc (own := [("_law_pair", 11)]) rfl nd (pi_list (pe_dget (hu_of hr) (pv 4) pe_str (fun _ _ => rfl))) (blkOk_by (own := [("_law_pair", 11)]) (N := N_law) (sc := defScope s_law) (by decide +kernel)) (fun _ _ _ _ _ => (pg_name (i := 11) nd rfl (Or.inl rfl))) (fun _ _ _ _ _ => pts_nil) (fun _ _ _ _ _ => (pe_op (op_catTK (K := K) rfl) (pe_ix (ix_tupK (K := K) rfl) (pv 11) pe_int (fun _ _ => rfl)) (pe_tup (pa_cons (pe_ix (ix_tupK (K := K) rfl) (pv 11) pe_int (fun _ _ => rfl)) pa_nil))))) (pa_cons (pe_dget (hu_of hr) (pv 4) pe_str (fun _ _ => rfl)) (pa_cons (pe_dget (hu_of hr) (pv 4) pe_str (fun _ _ => rfl)) pa_nil)))) pa_nil))))) (pss_one (ps_ret pe_bl)) pss_nil) (pss_one (ps_for PassesOwn.never rfl (pi_list (pv 9)) (pg_name (i := 10) nd rfl (Or.inl rfl)) (pss_one (ps_expr (pe_bm PySem.F.plainAttrs_list PySem.F.slot_list_append PySem.F.type_list_append mt_append (pv 10) (pa_cons (pe_tup pa_nil) pa_nil)))))))))) (pss_one (ps_ret pe_bl)))))))), ?_⟩
    refine ⟨_, rfl, sa, ns, 11, rfl, hS, by decide, by decide, hlen, fun p q H1 hA1 _ _ _ => ?_⟩
    -- size, room
    refine ⟨_, rfl, p, q, 17, rfl, hA1, by decide, by decide, fun r1 H2 r10 r11 hA2 _ _ => ⟨8, r1, rfl, rfl, ?_⟩⟩
    obtain ⟨z, ez⟩ : ∃ z : Nat, 8 + r1 = (z : Int) := ⟨(8 + r1).toNat, (Int.toNat_of_nonneg (by omega)).symm⟩
    simp only [ez]
    have hz8 : 8 ≤ z := by omega
    have hz24 : z ≤ 24 := by omega
    refine ⟨_, rfl, (by decide : (3 : Nat) ≤ sizeLine), fun ch nch => ?_⟩
    have hA3 := hA2.new nch (o := .lst [.int 4, .int 20, .int 60])
    have npc := hA2.fresh nch
    refine ⟨_, rfl, p, q, 3, rfl, hA3, by decide, by decide, fun r3 H4 r30 r31 hA4 k4 _ => ?_⟩
    have hch : H4 ch = some (.lst [.int 4, .int 20, .int 60]) := k4 _ _ (by simp [npc.1, npc.2]) upd_same
    obtain ⟨v, hv, m0, rfl, m1, m60⟩ := at_of (R := fun v => ∃ n : Int, v = .int n ∧ 1 ≤ n ∧ n ≤ 60) r30 (xs := [.int 4, .int 20, .int 60]) r31 (by
      intro v hv
      simp only [List.mem_cons, List.not_mem_nil, or_false] at hv
      rcases hv with rfl | rfl | rfl
      · exact ⟨_, rfl, by omega, by omega⟩
      · exact ⟨_, rfl, by omega, by omega⟩
      · exact ⟨_, rfl, by omega, by omega⟩)
    refine ⟨ch, _, _, _, rfl, rfl, SqL.of hch, hv, p, q, m0, rfl, hA4, by omega, by omega, fun r5 H5 r50 r51 hA5 _ _ => ⟨1, r5, rfl, rfl, _, _, rfl, ?_⟩⟩
    obtain ⟨room, er⟩ : ∃ room : Nat, 1 + r5 = (room : Int) := ⟨(1 + r5).toNat, (Int.toNat_of_nonneg (by omega)).symm⟩
    simp only [er]
    have hr1 : 1 ≤ room := by omega
    have hr60 : room ≤ 60 := by omega
    clear hA1 hA2 hA3 hA4 k4 hch hv npc nch ez er
    -- both crafts
    refine ⟨_, rfl, _, rfl, z, room, rfl, fun c L H6 hL6 frL s6 => ?_⟩
    have hA6 := hA5.keepM (Keep.of_same (M := []) s6) (by simp) (by simp)
    refine ⟨_, rfl, _, rfl, fun cr dx hc hdx ncx => ⟨cr, dx, z, room, rfl, upd_same, hz8, hz24, hr1, hr60, fun A ps H7 eA hC7 hcM k7 d7 => ⟨rfl, _, _, rfl, ?_⟩⟩⟩
    have sa7 : Same H6 (upd (upd H6 dx (.own cr)) cr (.ins T.A_Craft dx [])) := same_mut (same_new (Same.refl _) hdx) hc
    have s7 : Same H6 H7 := k7.same sa7 (by intro x hx; rw [List.mem_singleton.mp hx]; exact hc)
    have frC : ∀ x ∈ cM A ps, H6 x = none := fun x hx => by
      rcases hcM x hx with e | e
      · rw [e]; exact hc
      · exact sa7.free e
    have hA7 := hA6.keepM (Keep.of_same (M := []) s7) (by simp) (by simp)
    have hB7 : Bo T.A_Craft T.A_Laying z room p q c A 0 H7 := by
      refine ⟨L, ps, List.replicate 4 ([], []), Cr.new, [], [], hA7, ?_, hC7, fun x hx => (by cases hx), Good.new ⟨hr1, hr60⟩, ⟨fun a ha hz => ?_, fun a ha => hA5.fresh (frL a ha), fun a ha => hA6.fresh (frC a ha)⟩⟩
      · have e : mkl z (List.replicate 4 ([], [])) = List.replicate 4 0 := by
          unfold mkl
          rw [List.map_replicate, List.length_nil, Nat.zero_div]
        rw [e]
        exact hL6.same s7
      · obtain ⟨⟨u, hu⟩, _⟩ := hL6.here a ha
        rw [frC a hz] at hu; cases hu
    subst eA
    clear sa7 s7 frC hA6 hL6 frL s6 hC7 hcM k7 d7 hc hdx ncx hA5
    -- a stream, many tellings ahead
    refine ⟨_, rfl, p, q, 4, rfl, hA7, by decide, by decide, fun s' H8 s0' s1' hA8 k8 _ => ?_⟩
    obtain ⟨s, rfl⟩ : ∃ s : Nat, s' = (s : Int) := ⟨s'.toNat, (Int.toNat_of_nonneg s0').symm⟩
    have hs4 : s < 4 := by omega
    have hB8 : Bo T.A_Craft T.A_Laying z room p q c A 0 H8 := by
      obtain ⟨L, ps, nl, m, qv, gs, h⟩ := hB7
      exact ⟨L, ps, nl, m, qv, gs, h.drawn hA8 k8⟩
    refine ⟨_, rfl, p, q, 9, rfl, hA8, by decide, by decide, fun r9 H9 r90 r91 hA9 k9 _ => ⟨rfl, .inr ⟨_, rfl, _, _, rfl, rfl, .inl ⟨by decide, by decide⟩, ?_⟩⟩⟩
    have hB9 : Bo T.A_Craft T.A_Laying z room p q c A 0 H9 := by
      obtain ⟨L, ps, nl, m, qv, gs, h⟩ := hB8
      exact ⟨L, ps, nl, m, qv, gs, h.drawn hA9 k9⟩
    obtain ⟨j7, ej7, hj7⟩ : ∃ j : Nat, (700 : Int) * (if decide (V.int r9 = V.int 0) = true then 1 else 0) = (j : Int) ∧ j ≤ 700 := by
      split
      · exact ⟨700, rfl, Nat.le_refl _⟩
      · exact ⟨0, rfl, Nat.zero_le _⟩
    refine ⟨_, rfl, by rw [ej7]; omega, by rw [ej7]; omega, ?_⟩
    rw [ej7, Int.toNat_natCast]
    refine for_range (lo := 0) (n := j7) (fun i σ H' => ∃ (w7 w8 : Option V), σ = [some (.ref sa), some (.ref p), some (.int (z : Nat)), some (.int (room : Nat)), some (.ref c), some (.ref A.c), some (.int (s : Nat)), w7, w8, none, none, none] ∧ Bo T.A_Craft T.A_Laying z room p q c A (30 * i) H') ⟨_, _, rfl, hB9⟩ ?_ ?_
    · rintro i σ H10 hi ⟨w7, w8, rfl, L, ps, nl, m, qv, gs, hB⟩
      simp only [Int.zero_add]
      have em3 : ((i : Nat) : Int).fmod 3 = ((i % 3 : Nat) : Int) := fmod_nat i 3
      have em2 : ((i : Nat) : Int).fmod 256 = ((i % 256 : Nat) : Int) := fmod_nat i 256
      refine gb_cut (fun σ' H' => ∃ (t : Addr) (xs : List Int), σ' = [some (.ref sa), some (.ref p), some (.int (z : Nat)), some (.int (room : Nat)), some (.ref c), some (.ref A.c), some (.int (s : Nat)), some (.int (i : Nat)), some (.ref t), none, none, none] ∧ H' t = some (.tup (xs.map V.int)) ∧ tellOk xs ∧ BoX T.A_Craft T.A_Laying z room p q c A (30 * i) H' L ps nl m qv gs) (fun σ' H11 ⟨t, xs, es, ht, hxs, hB1⟩ => ?_) (fun D' rest => ?_)
      rotate_left
      · refine ⟨_, rfl, _, 256, rfl, rfl, (by decide : (256 : Int) ≠ 0), (by decide : (1 : Nat) ≤ sizeLine), fun t1 nt1 => ⟨_, rfl, _, 3, rfl, rfl, (by decide : (3 : Int) ≠ 0), 1, _, rfl, rfl, ?_⟩⟩
        have q1 := same_new (Same.refl H10) nt1 (o := .tup [.int (((i : Nat) : Int).fmod 256)])
        have ht1 : upd H10 t1 (.tup [.int (((i : Nat) : Int).fmod 256)]) t1 = some (.tup [.int (((i : Nat) : Int).fmod 256)]) := upd_same
        have hB1 := hB.same q1
        generalize upd H10 t1 (.tup [.int (((i : Nat) : Int).fmod 256)]) = H11 at *
        by_cases h0 : i % 3 = 0
        · refine .inr ⟨t1, _, rfl, by rw [em3, h0]; rfl, SqT.of ht1, ?_⟩
          exact rest _ _ ⟨t1, [((i : Nat) : Int).fmod 256], rfl, ht1, rep_ok (n := 1) (by decide) (by decide) (by rw [em2]; omega) (by rw [em2]; omega), hB1⟩
        · refine .inl ⟨t1, _, [.int (((i : Nat) : Int).fmod 256)], rfl, rfl, SqT.of ht1, by simp, by rw [em3]; omega, by rw [em3]; omega, (show (1 : Nat) ≤ 1000 by decide), fun t2 nt2 => ?_⟩
          rw [rep_int]
          exact rest _ _ ⟨t2, _, rfl, upd_same, rep_ok (by rw [em3]; omega) (by rw [em3]; omega) (by rw [em2]; omega) (by rw [em2]; omega), hB1.same (same_new (Same.refl _) nt2)⟩
      subst es
      obtain ⟨row, n, hrow, hn, hSA⟩ := hB1.hL.row hs4
      have hrv : (L.rs.map fun r => V.ref r.1)[s]? = some (.ref row.1) := by rw [List.getElem?_map, hrow]; rfl
      have hbig := hB1.good.big n (List.mem_of_getElem? hn)
      have okm := hB1.good.okm
      have hgl : m.gone.length ≤ 30 * i := hB1.good.gl
      have hmk : (mkl z nl)[s]? = some (n.1.length / z) := by unfold mkl; rw [List.getElem?_map, hn]; rfl
      have hns : (nl.map sS)[s]? = some (sS n) := by rw [List.getElem?_map, hn]; rfl
      have below : ∀ x ∈ m.q, x.1 = s → x.2.1 < n.1.length / z := fun x hx es => by
        obtain ⟨n', h1, h2⟩ := hB1.be x hx
        rw [es, hns] at h1
        cases h1
        exact h2
      have hxl := hxs.2.1
      refine ⟨_, rfl, A.c, A.dx, _, rfl, hB1.hC.o, cf_no (by decide), _, rfl, _, rfl, A, ps, room, z, nl.map sS, m, qv, gs, s, sS n, t, xs, rfl, hB1.hC, hB1.be, hns, ht, hxs, hz8, hz24, by omega, fun H12 ps2 qv2 gs2 hC12 be12 g12 new12 k12 d12 => ?_⟩
      have hA12 := hB1.sep.hA_cr hB1.hA k12
      have hL12 := hB1.sep.hL_cr hB1.hC hB1.hL k12
      have sep12 := hB1.sep.cr hB1.hL hB1.hA new12
      have ht12 := (k12.ts fun y hy => (hB1.hC.noT y hy).1) _ _ ht
      have hSA12 := hL12.s s row n hrow hn
      refine ⟨_, rfl, c, _, rfl, g_streams hL12.d, _, rfl, L.sl, _, _, _, rfl, rfl, SqL.of hL12.sl, atI_nat hrv, _, rfl, row.1, row.2.1, row.2.2, t, z, n.1, n.2, xs, rfl, hSA12, ht12, by omega, by omega, by omega, fun H13 hS13 k13 d13 => ?_⟩
      have hL13 : LcAt H13 c L room z (nl.set s (lays1' n xs)) m (mkl z nl) := hL12.rowSet (n' := lays1' n xs) hrow hS13 k13
      have hrm := List.mem_of_getElem? hrow
      have lk13 : Lk (lM c L) (lM c L) H12 H13 := Lk.in k13 d13 (by
        intro x hx
        simp only [List.mem_cons, List.not_mem_nil, or_false] at hx
        rcases hx with e | e <;> rw [e]
        · exact mem_r2 hrm
        · exact mem_r3 hrm)
      have hA13 := sep12.hA_law hA12 lk13.kp
      have hC13 := sep12.hC_law hL12 hC12 lk13.kp
      have htl := tFrames_len (z := z) (n := sS n) (t := xs) (by omega) hxl
      refine ⟨_, rfl, _, rfl, c, L, room, z, nl.set s (lays1' n xs), m, mkl z nl, s, n.1.length / z, lays1' n xs, tFrames z (sS n) xs, rfl, hL13, okm, hr1, hr60, by omega, by omega, List.getElem?_set_self (List.getElem?_eq_some_iff.mp hn).1, hmk, tFrames_n, fun i f hf => (tFrames_at hf).1, below, by omega, fun L14 H14 hL14 lk14 => ?_⟩
      rw [mkl_set z nl s (lays1' n xs) _ tFrames_n] at hL14
      have sep14 := sep12.law hC13 hA13 lk14
      have hA14 := sep12.hA_law hA13 lk14.kp
      have hC14 := sep12.hC_law hL13 hC13 lk14.kp
      have good14 := good0 (hB1.good.tell (by omega) hn hxs hC14.ok g12)
      rw [ns_set0] at hC14 be12
      have e30 : 30 * (i + 1) = 30 * i + 30 := Nat.mul_succ 30 i
      rw [e30]
      exact ⟨_, _, rfl, L14, ps2, nl.set s (lays1' n xs), m.keeps room s (tFrames z (sS n) xs), qv2, gs2, ⟨hA14, hL14, hC14, be12, good14, sep14⟩⟩
    rintro σ H10 ⟨w7, w8, rfl, hB10⟩
    have hB10 : Bo T.A_Craft T.A_Laying z room p q c A 21000 H10 := by
      obtain ⟨L, ps, nl, m, qv, gs, h⟩ := hB10
      exact ⟨L, ps, nl, m, qv, gs, ⟨h.hA, h.hL, h.hC, h.be, h.good.more (by omega), h.sep⟩⟩
    -- the deeds
    have hA10 : HAt H10 p q := by obtain ⟨_, _, _, _, _, _, h⟩ := hB10; exact h.hA
    refine ⟨_, rfl, p, q, 91, rfl, hA10, by decide, by decide, fun r11 H11 r110 r111 hA11 k11 _ => ?_⟩
    have hB11 : Bo T.A_Craft T.A_Laying z room p q c A 21000 H11 := by
      obtain ⟨L, ps, nl, m, qv, gs, h⟩ := hB10
      exact ⟨L, ps, nl, m, qv, gs, h.drawn hA11 k11⟩
    obtain ⟨j11, rfl⟩ : ∃ j : Nat, r11 = (j : Int) := ⟨r11.toNat, (Int.toNat_of_nonneg r110).symm⟩
    refine ⟨_, rfl, by omega, by omega, ?_⟩
    rw [Int.toNat_natCast]
    refine for_range (lo := 0) (n := j11) (fun i σ H' => ∃ (w7 w8 w9 w10 : Option V), σ = [some (.ref sa), some (.ref p), some (.int (z : Nat)), some (.int (room : Nat)), some (.ref c), some (.ref A.c), some (.int (s : Nat)), w7, w8, w9, w10, none] ∧ Bo T.A_Craft T.A_Laying z room p q c A (21000 + 30 * i) H') ⟨_, _, _, _, rfl, hB11⟩ ?_ ?_
    rotate_left
    · rintro σ H12 ⟨w7, w8, w9, w10, rfl, _⟩
      exact fin _
    rintro i σ H12 hi ⟨v7, v8, v9, v10, rfl, hB12⟩
    simp only [Int.zero_add]
    refine ⟨_, rfl, _, rfl, _, rfl, z, room, p, q, c, A, 21000 + 30 * i, rfl, hB12, hz8, hz24, by omega, fun H13 ⟨L, ps, nl, m, qv, gs, hB⟩ => ⟨true, rfl, iteF ?_⟩⟩
    -- kept, lost, waits
    refine ⟨_, rfl, A.c, A.dx, _, rfl, hB.hC.o, cf_no (by decide), A, ps, room, z, nl.map sS, m, qv, gs, rfl, hB.hC, fun R1 us1 H14 hR1 tR1 nR1 s14 => ?_⟩
    have hB14 := hB.same s14
    refine ⟨_, rfl, A.c, A.dx, _, rfl, hB14.hC.o, cf_no (by decide), A, ps, room, z, nl.map sS, m, qv, gs, rfl, hB14.hC, fun R2 H15 hR2 tR2 nR2 s15 => ?_⟩
    have hB15 := hB14.same s15
    refine ⟨_, rfl, A.c, A.dx, _, rfl, hB15.hC.o, cf_no (by decide), A, ps, room, z, nl.map sS, m, qv, gs, rfl, hB15.hC, fun R3 us3 H16 hR3 tR3 nR3 s16 => ⟨(by decide : (3 : Nat) ≤ sizeLine), fun F nF => ?_⟩⟩
    have hB16 := hB15.same s16
    have q17 := same_new (Same.refl H16) nF (o := .lst [.ref R1, .ref R2, .ref R3])
    have hF : upd H16 F (.lst [.ref R1, .ref R2, .ref R3]) F = some (.lst [.ref R1, .ref R2, .ref R3]) := upd_same
    have hB17 := hB16.same q17
    have s1517 := s16.trans q17
    have s1417 := s15.trans s1517
    have hR1' := s1417 _ _ hR1
    have hR2' := s1517 _ _ hR2
    have hR3' := q17 _ _ hR3
    have tR1' := tR1.mono (TSm.of_same s1417)
    have tR2' := tR2.mono (TSm.of_same s1517)
    have tR3' := tR3.mono (TSm.of_same q17)
    have n12 : R1 ≠ R2 := ne_of_none hR1 nR2
    have n13 : R1 ≠ R3 := ne_of_none (s15 _ _ hR1) nR3
    have n23 : R2 ≠ R3 := ne_of_none hR2 nR3
    have nF1 : F ≠ R1 := (ne_of_none ((s15.trans s16) _ _ hR1) nF).symm
    have nF2 : F ≠ R2 := (ne_of_none (s16 _ _ hR2) nF).symm
    have nF3 : F ≠ R3 := (ne_of_none hR3 nF).symm
    have f1 := hB.fresh nR1
    have f2 := hB14.fresh nR2
    have f3 := hB15.fresh nR3
    generalize upd H16 F (.lst [.ref R1, .ref R2, .ref R3]) = H17 at *
    clear hB hB14 hB15 hB16 s14 s15 s16 q17 s1517 s1417 hR1 hR2 hR3 tR1 tR2 tR3 nR1 nR2 nR3 nF hB12
    have okm : m.Ok room := hB17.good.okm
    have hgl : m.gone.length ≤ 21000 + 30 * i + 30 := hB17.good.gl
    have hql : m.q.length ≤ 60 := Nat.le_trans okm.few hr60
    have hal : m.asked.length ≤ 60 := by have := okm.lens; omega
    obtain ⟨vst, hst, tst⟩ := hB17.hL.st
    obtain ⟨vak, hak, tak⟩ := hB17.hL.ak
    obtain ⟨vlo, hlo, tlo⟩ := hB17.hL.lo
    have hvl : vst.length = m.q.length := by rw [tst.length, List.length_map]
    refine ⟨_, rfl, _, rfl, c, _, rfl, g_store hB17.hL.d, L.st, rfl, ⟨_, SqL.of hst⟩, fun G nG => ?_⟩
    refine lc_list (K := K) (a := L.st) (xs := vst) (fun j H' => ∃ zs, H' G = some (.lst zs) ∧ TDs H' zs ((m.q.take j).map (keptD m)) ∧ Same H17 H') ⟨[], upd_same, .nil, same_new (Same.refl _) nG⟩ (fun j H' _ ⟨_, _, _, s⟩ => SqL.of (s _ _ hst)) ?_ ?_
    · rintro j y H18 hy ⟨zs, hzs, tzs, s18⟩
      obtain ⟨d, hd, td⟩ := tst.get hy
      obtain ⟨x, hx, rfl⟩ := map_get hd
      have hjl : j < vst.length := (List.getElem?_eq_some_iff.mp hy).1
      have hzl : zs.length ≤ j := by rw [tzs.length, List.length_map, List.length_take]; omega
      obtain ⟨ya, xa, rfl, hya, tx⟩ := td_pair (td.mono (TSm.of_same s18))
      obtain ⟨xb, rfl, hxb⟩ := td_mk2 tx
      refine ⟨rfl, _, rfl, ya, _, 0, _, rfl, rfl, SqT.of hya, atI_nat (j := 0) rfl, _, rfl, ya, _, 1, _, rfl, rfl, SqT.of hya, atI_nat (j := 1) rfl, (by decide : (1 : Nat) ≤ sizeLine), fun t nt => ?_⟩
      have s19 := same_new (Same.refl H18) nt (o := .tup [.str (stW m x)])
      refine ⟨xb, t, _, _, rfl, rfl, SqT.of (s19 _ _ hxb), SqT.of upd_same, by simp, (by decide : (3 : Nat) ≤ sizeLine), fun e => (by cases e), fun _ u nu => ?_⟩
      have s20 := same_new (Same.refl _) nu (o := .tup ([.int ((mkOf x).1 : Int), .int ((mkOf x).2 : Int)] ++ [.str (stW m x)]))
      have su := s19.trans s20
      have hzs2 := su _ _ hzs
      have tu : TD (upd (upd H18 t (.tup [.str (stW m x)])) u (.tup ([.int ((mkOf x).1 : Int), .int ((mkOf x).2 : Int)] ++ [.str (stW m x)]))) (.ref u) (keptD m x) := .tup upd_same (.cons (.int _) (.cons (.int _) (.cons (.str _) .nil)))
      have tt : TSm (upd (upd H18 t (.tup [.str (stW m x)])) u (.tup ([.int ((mkOf x).1 : Int), .int ((mkOf x).2 : Int)] ++ [.str (stW m x)]))) (upd (upd (upd H18 t (.tup [.str (stW m x)])) u (.tup ([.int ((mkOf x).1 : Int), .int ((mkOf x).2 : Int)] ++ [.str (stW m x)]))) G (.lst (zs ++ [.ref u]))) := ts_upd (TSm.refl _) (NoT.lst hzs2)
      refine ⟨zs, hzs2, lt_line (by omega), zs ++ [.ref u], upd_same, ?_, same_mut (s18.trans su) nG⟩
      rw [List.take_add_one, hx, Option.toList_some, List.map_append]
      exact ((tzs.mono (TSm.of_same su)).mono tt).app (.one (tu.mono tt))
    rintro H18 ⟨zs, hzs, tzs, s18⟩
    rw [hvl, List.take_length] at tzs
    have hB18 := hB17.same s18
    refine ⟨_, rfl, c, _, rfl, g_lost hB18.hL.d, _, rfl, c, _, rfl, g_asked hB18.hL.d, (by decide : (3 : Nat) ≤ sizeLine), fun G2 nG2 => ?_⟩
    have q19 := same_new (Same.refl H18) nG2 (o := .lst [.ref G, .ref L.lo, .ref L.ak])
    have s1719 := s18.trans q19
    refine ⟨_, _, .list [.list (m.q.map (keptD m)), .list (m.gone.map mD2), .list (m.asked.map mD2)], rfl, .lst (SqL.of (s1719 _ _ hF)) (.cons (.lst (SqL.of (s1719 _ _ hR1')) (tR1'.mono (TSm.of_same s1719)).dp) (.cons (.lst (SqL.of (s1719 _ _ hR2')) (tR2'.mono (TSm.of_same s1719)).dp) (.cons (.lst (SqL.of (s1719 _ _ hR3')) (tR3'.mono (TSm.of_same s1719)).dp) .nil))),
      .lst (SqL.of upd_same) (.cons (.lst (SqL.of (q19 _ _ hzs)) (tzs.mono (TSm.of_same q19)).dp) (.cons (.lst (SqL.of (s1719 _ _ hlo)) (tlo.mono (TSm.of_same s1719)).dp) (.cons (.lst (SqL.of (s1719 _ _ hak)) (tak.mono (TSm.of_same s1719)).dp) .nil))), DOk.list (show 3 ≤ 10000000 by decide) (fun e he => ?_), fun H20 s20 => ⟨true, rfl, iteF ?_⟩⟩
    · simp only [List.mem_cons, List.not_mem_nil, or_false] at he
      rcases he with e | e | e <;> rw [e]
      · refine DOk.list (by rw [List.length_map]; omega) fun e he => ?_
        obtain ⟨x, _, rfl⟩ := List.mem_map.mp he
        exact DOk.tuple (show 3 ≤ 10000000 by decide) fun e he => by
          simp only [List.mem_cons, List.not_mem_nil, or_false] at he
          rcases he with e | e | e <;> rw [e]
          · exact DOk.int _
          · exact DOk.int _
          · exact .sc (.inr (.inr (.inr ⟨_, rfl⟩)))
      · refine DOk.list (by rw [List.length_map]; omega) fun e he => ?_
        obtain ⟨x, _, rfl⟩ := List.mem_map.mp he
        exact dok_m x
      · refine DOk.list (by rw [List.length_map]; omega) fun e he => ?_
        obtain ⟨x, _, rfl⟩ := List.mem_map.mp he
        exact dok_m x
    have s1720 := s1719.trans s20
    have hB20 := hB17.same s1720
    have l1 : us1.length ≤ 100000 := by rw [tR1'.length, List.length_map]; omega
    have l2 : gs.length ≤ 100000 := by rw [tR2'.length, List.length_map]; omega
    have l3 : us3.length ≤ 100000 := by rw [tR3'.length, List.length_map]; omega
    refine ⟨_, rfl, F, rfl, ⟨_, SqL.of (s1720 _ _ hF)⟩, ?_⟩
    refine for_list (K := K) (a := F) (xs := [.ref R1, .ref R2, .ref R3]) (fun j σ H' => ∃ (w10 : Option V), σ = [some (.ref sa), some (.ref p), some (.int (z : Nat)), some (.int (room : Nat)), some (.ref c), some (.ref A.c), some (.int (s : Nat)), some (.int (i : Nat)), v8, some (.ref F), w10, none] ∧ H' F = some (.lst [.ref R1, .ref R2, .ref R3]) ∧
      (∀ R ∈ [R1, R2, R3], ∃ xs, H' R = some (.lst xs) ∧ xs.length ≤ 100000 + j) ∧ BoX T.A_Craft T.A_Laying z room p q c A (21000 + 30 * i + 30) H' L ps nl m qv gs) ⟨_, rfl, s1720 _ _ hF, fun R hR => ?_, hB20⟩ (fun j σ H' _ ⟨_, _, h, _⟩ => SqL.of h) ?_ ?_
    · simp only [List.mem_cons, List.not_mem_nil, or_false] at hR
      rcases hR with e | e | e <;> rw [e]
      · exact ⟨_, s1720 _ _ hR1', l1⟩
      · exact ⟨_, s1720 _ _ hR2', l2⟩
      · exact ⟨_, s1720 _ _ hR3', l3⟩
    · rintro j y σ H21 hy ⟨w10, rfl, hF21, hall, hB21⟩
      obtain ⟨R, hR, rfl⟩ : ∃ R ∈ [R1, R2, R3], y = .ref R := by
        have := List.mem_of_getElem? hy
        simp only [List.mem_cons, List.not_mem_nil, or_false] at this
        rcases this with e | e | e
        · exact ⟨R1, by simp, e⟩
        · exact ⟨R2, by simp, e⟩
        · exact ⟨R3, by simp, e⟩
      have hj3 : j < 3 := (List.getElem?_eq_some_iff.mp hy).1
      have fR : (R ∉ lM c L ∧ R ∉ cM A ps ∧ R ≠ p ∧ R ≠ q) ∧ F ≠ R := by
        simp only [List.mem_cons, List.not_mem_nil, or_false] at hR
        rcases hR with e | e | e <;> rw [e]
        · exact ⟨f1, nF1⟩
        · exact ⟨f2, nF2⟩
        · exact ⟨f3, nF3⟩
      obtain ⟨xs, hxs, hxl⟩ := hall R hR
      refine ⟨_, rfl, .inl ⟨rfl, _, SqL.of hxs⟩, Nat.zero_le _, fun e ne => ?_⟩
      have s22 := same_new (Same.refl H21) ne (o := .tup [])
      have hx22 := s22 _ _ hxs
      refine ⟨R, xs, _, rfl, rfl, hx22, lt_line (by omega), ?_⟩
      have k23 : Keep [R] (upd H21 e (.tup [])) (upd (upd H21 e (.tup [])) R (.lst (xs ++ [.ref e]))) := keep_upd (Keep.refl _ _) (by simp)
      have t23 : TSm (upd H21 e (.tup [])) (upd (upd H21 e (.tup [])) R (.lst (xs ++ [.ref e]))) := ts_upd (TSm.refl _) (NoT.lst hx22)
      refine ⟨_, rfl, k23 _ _ (by simp [fR.2]) (s22 _ _ hF21), fun R' hR' => ?_, (hB21.same s22).else k23 t23 (fun a ha z => fR.1.1 (by rw [← List.mem_singleton.mp z]; exact ha)) (fun a ha z => fR.1.2.1 (by rw [← List.mem_singleton.mp z]; exact ha)) ⟨by simp [fR.1.2.2.1.symm], by simp [fR.1.2.2.2.symm]⟩⟩
      by_cases e2 : R' = R
      · rw [e2]
        exact ⟨_, upd_same, by rw [List.length_append, List.length_singleton]; omega⟩
      · obtain ⟨ws, hws, hwl⟩ := hall R' hR'
        exact ⟨ws, k23 _ _ (by simp [e2]) (s22 _ _ hws), by omega⟩
    · rintro σ H21 ⟨w10, rfl, _, _, hB21⟩
      have e30 : 21000 + 30 * (i + 1) = 21000 + 30 * i + 30 := by omega
      rw [e30]
      exact ⟨_, _, _, _, rfl, L, ps, nl, m, qv, gs, hB21⟩
end
end K04

namespace K04
open PySem PySem.Spec PyProof.Rows L2 Sky
/-- the facts of the top, put together -/
def mkTx {K : PySem.W.Frag} {h : Heap} {mg : Str → Option Value} (X : K.In h) (G : h.Ns mainGlobals mg)
    {A_Laying A_Craft f_is_number f_is_stream f_holds_numbers f_is_telling f_is_mark f_check_stream f_check_telling f_check_size f_check_room f_check_marks f_Laying_init f_Laying_lay f_Laying_fill f_Laying_done f_Craft_init f_Craft_tell f_Craft_close f_Craft_begin f_Craft_shut f_Craft_beat f_Craft_known f_Craft_again f_Craft_kept f_Craft_lost f_Craft_waits f_Craft_next_mark f_Craft_keep f_Craft_make_room f_Craft_let_go f_law_mix f_law_next f_law_alike f_law_data f_law_fresh f_law_lay f_law_fill f_law_many f_law_frame f_law_craft f_law_keeps f_law_beat f_law_known f_law_again f_law_marks f_law_deed f_law : Addr} {od_is_number an_is_number od_is_stream an_is_stream od_holds_numbers an_holds_numbers od_is_telling an_is_telling od_is_mark an_is_mark od_check_stream an_check_stream od_check_telling an_check_telling od_check_size an_check_size od_check_room an_check_room od_check_marks an_check_marks od_Laying_init an_Laying_init od_Laying_lay an_Laying_lay od_Laying_fill an_Laying_fill od_Laying_done an_Laying_done od_Craft_init an_Craft_init od_Craft_tell an_Craft_tell od_Craft_close an_Craft_close od_Craft_begin an_Craft_begin od_Craft_shut an_Craft_shut od_Craft_beat an_Craft_beat od_Craft_known an_Craft_known od_Craft_again an_Craft_again od_Craft_kept an_Craft_kept od_Craft_lost an_Craft_lost od_Craft_waits an_Craft_waits od_Craft_next_mark an_Craft_next_mark od_Craft_keep an_Craft_keep od_Craft_make_room an_Craft_make_room od_Craft_let_go an_Craft_let_go od_law_mix an_law_mix od_law_next an_law_next od_law_alike an_law_alike od_law_data an_law_data od_law_fresh an_law_fresh od_law_lay an_law_lay od_law_fill an_law_fill od_law_many an_law_many od_law_frame an_law_frame od_law_craft an_law_craft od_law_keeps an_law_keeps od_law_beat an_law_beat od_law_known an_law_known od_law_again an_law_again od_law_marks an_law_marks od_law_deed an_law_deed od_law an_law : Option Addr} {sl_is_number sl_is_stream sl_holds_numbers sl_is_telling sl_is_mark sl_check_stream sl_check_telling sl_check_size sl_check_room sl_check_marks sl_Laying_init sl_Laying_lay sl_Laying_fill sl_Laying_done sl_Craft_init sl_Craft_tell sl_Craft_close sl_Craft_begin sl_Craft_shut sl_Craft_beat sl_Craft_known sl_Craft_again sl_Craft_kept sl_Craft_lost sl_Craft_waits sl_Craft_next_mark sl_Craft_keep sl_Craft_make_room sl_Craft_let_go sl_law_mix sl_law_next sl_law_alike sl_law_data sl_law_fresh sl_law_lay sl_law_fill sl_law_many sl_law_frame sl_law_craft sl_law_keeps sl_law_beat sl_law_known sl_law_again sl_law_marks sl_law_deed sl_law : Array (Option Value)}
    {oc_is_number kV_is_number dc_is_number pm_is_number cd_is_number ct_is_number oc_is_stream kV_is_stream dc_is_stream pm_is_stream cd_is_stream ct_is_stream oc_holds_numbers kV_holds_numbers dc_holds_numbers pm_holds_numbers cd_holds_numbers ct_holds_numbers oc_is_telling kV_is_telling dc_is_telling pm_is_telling cd_is_telling ct_is_telling oc_is_mark kV_is_mark dc_is_mark pm_is_mark cd_is_mark ct_is_mark oc_check_stream kV_check_stream dc_check_stream pm_check_stream cd_check_stream ct_check_stream oc_check_telling kV_check_telling dc_check_telling pm_check_telling cd_check_telling ct_check_telling oc_check_size kV_check_size dc_check_size pm_check_size cd_check_size ct_check_size oc_check_room kV_check_room dc_check_room pm_check_room cd_check_room ct_check_room oc_check_marks kV_check_marks dc_check_marks pm_check_marks cd_check_marks ct_check_marks oc_Laying_init kV_Laying_init dc_Laying_init pm_Laying_init cd_Laying_init ct_Laying_init oc_Laying_lay kV_Laying_lay dc_Laying_lay pm_Laying_lay cd_Laying_lay ct_Laying_lay oc_Laying_fill kV_Laying_fill dc_Laying_fill pm_Laying_fill cd_Laying_fill ct_Laying_fill oc_Laying_done kV_Laying_done dc_Laying_done pm_Laying_done cd_Laying_done ct_Laying_done oc_Craft_init kV_Craft_init dc_Craft_init pm_Craft_init cd_Craft_init ct_Craft_init oc_Craft_tell kV_Craft_tell dc_Craft_tell pm_Craft_tell cd_Craft_tell ct_Craft_tell oc_Craft_close kV_Craft_close dc_Craft_close pm_Craft_close cd_Craft_close ct_Craft_close oc_Craft_begin kV_Craft_begin dc_Craft_begin pm_Craft_begin cd_Craft_begin ct_Craft_begin oc_Craft_shut kV_Craft_shut dc_Craft_shut pm_Craft_shut cd_Craft_shut ct_Craft_shut oc_Craft_beat kV_Craft_beat dc_Craft_beat pm_Craft_beat cd_Craft_beat ct_Craft_beat oc_Craft_known kV_Craft_known dc_Craft_known pm_Craft_known cd_Craft_known ct_Craft_known oc_Craft_again kV_Craft_again dc_Craft_again pm_Craft_again cd_Craft_again ct_Craft_again oc_Craft_kept kV_Craft_kept dc_Craft_kept pm_Craft_kept cd_Craft_kept ct_Craft_kept oc_Craft_lost kV_Craft_lost dc_Craft_lost pm_Craft_lost cd_Craft_lost ct_Craft_lost oc_Craft_waits kV_Craft_waits dc_Craft_waits pm_Craft_waits cd_Craft_waits ct_Craft_waits oc_Craft_next_mark kV_Craft_next_mark dc_Craft_next_mark pm_Craft_next_mark cd_Craft_next_mark ct_Craft_next_mark oc_Craft_keep kV_Craft_keep dc_Craft_keep pm_Craft_keep cd_Craft_keep ct_Craft_keep oc_Craft_make_room kV_Craft_make_room dc_Craft_make_room pm_Craft_make_room cd_Craft_make_room ct_Craft_make_room oc_Craft_let_go kV_Craft_let_go dc_Craft_let_go pm_Craft_let_go cd_Craft_let_go ct_Craft_let_go oc_law_mix kV_law_mix dc_law_mix pm_law_mix cd_law_mix ct_law_mix oc_law_next kV_law_next dc_law_next pm_law_next cd_law_next ct_law_next oc_law_alike kV_law_alike dc_law_alike pm_law_alike cd_law_alike ct_law_alike oc_law_data kV_law_data dc_law_data pm_law_data cd_law_data ct_law_data oc_law_fresh kV_law_fresh dc_law_fresh pm_law_fresh cd_law_fresh ct_law_fresh oc_law_lay kV_law_lay dc_law_lay pm_law_lay cd_law_lay ct_law_lay oc_law_fill kV_law_fill dc_law_fill pm_law_fill cd_law_fill ct_law_fill oc_law_many kV_law_many dc_law_many pm_law_many cd_law_many ct_law_many oc_law_frame kV_law_frame dc_law_frame pm_law_frame cd_law_frame ct_law_frame oc_law_craft kV_law_craft dc_law_craft pm_law_craft cd_law_craft ct_law_craft oc_law_keeps kV_law_keeps dc_law_keeps pm_law_keeps cd_law_keeps ct_law_keeps oc_law_beat kV_law_beat dc_law_beat pm_law_beat cd_law_beat ct_law_beat oc_law_known kV_law_known dc_law_known pm_law_known cd_law_known ct_law_known oc_law_again kV_law_again dc_law_again pm_law_again cd_law_again ct_law_again oc_law_marks kV_law_marks dc_law_marks pm_law_marks cd_law_marks ct_law_marks oc_law_deed kV_law_deed dc_law_deed pm_law_deed cd_law_deed ct_law_deed oc_law kV_law dc_law pm_law cd_law ct_law : Value} {t_STREAMS t_MOST_NUMBERS t_LEAST_SIZE t_MOST_SIZE t_MOST_ROOM t_MOST_COUNT t_HUNDRED : Tok}
    (hA_Laying : PySem.W.nsIn K mainGlobals "Laying" = some (some (.ref A_Laying)))
    (hA_Craft : PySem.W.nsIn K mainGlobals "Craft" = some (some (.ref A_Craft)))
    (h_is_number : PySem.W.nsIn K mainGlobals "is_number" = some (some (.ref f_is_number)))
    (l_is_number : K.lookup f_is_number = some ⟨oc_is_number, od_is_number, .func (PySem.W.fnOf "is_number" "is_number" (defArgs s_is_number) (defBody s_is_number) (defScope s_is_number) .none kV_is_number dc_is_number pm_is_number an_is_number cd_is_number ct_is_number), sl_is_number⟩)
    (c_is_number : PySem.W.codeIn K cd_is_number "is_number" = true)
    (k_is_number : PySem.W.keepIn K (.ref f_is_number) = true)
    (h_is_stream : PySem.W.nsIn K mainGlobals "is_stream" = some (some (.ref f_is_stream)))
    (l_is_stream : K.lookup f_is_stream = some ⟨oc_is_stream, od_is_stream, .func (PySem.W.fnOf "is_stream" "is_stream" (defArgs s_is_stream) (defBody s_is_stream) (defScope s_is_stream) .none kV_is_stream dc_is_stream pm_is_stream an_is_stream cd_is_stream ct_is_stream), sl_is_stream⟩)
    (c_is_stream : PySem.W.codeIn K cd_is_stream "is_stream" = true)
    (k_is_stream : PySem.W.keepIn K (.ref f_is_stream) = true)
    (h_holds_numbers : PySem.W.nsIn K mainGlobals "holds_numbers" = some (some (.ref f_holds_numbers)))
    (l_holds_numbers : K.lookup f_holds_numbers = some ⟨oc_holds_numbers, od_holds_numbers, .func (PySem.W.fnOf "holds_numbers" "holds_numbers" (defArgs s_holds_numbers) (defBody s_holds_numbers) (defScope s_holds_numbers) .none kV_holds_numbers dc_holds_numbers pm_holds_numbers an_holds_numbers cd_holds_numbers ct_holds_numbers), sl_holds_numbers⟩)
    (c_holds_numbers : PySem.W.codeIn K cd_holds_numbers "holds_numbers" = true)
    (k_holds_numbers : PySem.W.keepIn K (.ref f_holds_numbers) = true)
    (h_is_telling : PySem.W.nsIn K mainGlobals "is_telling" = some (some (.ref f_is_telling)))
    (l_is_telling : K.lookup f_is_telling = some ⟨oc_is_telling, od_is_telling, .func (PySem.W.fnOf "is_telling" "is_telling" (defArgs s_is_telling) (defBody s_is_telling) (defScope s_is_telling) .none kV_is_telling dc_is_telling pm_is_telling an_is_telling cd_is_telling ct_is_telling), sl_is_telling⟩)
    (c_is_telling : PySem.W.codeIn K cd_is_telling "is_telling" = true)
    (k_is_telling : PySem.W.keepIn K (.ref f_is_telling) = true)
    (h_is_mark : PySem.W.nsIn K mainGlobals "is_mark" = some (some (.ref f_is_mark)))
    (l_is_mark : K.lookup f_is_mark = some ⟨oc_is_mark, od_is_mark, .func (PySem.W.fnOf "is_mark" "is_mark" (defArgs s_is_mark) (defBody s_is_mark) (defScope s_is_mark) .none kV_is_mark dc_is_mark pm_is_mark an_is_mark cd_is_mark ct_is_mark), sl_is_mark⟩)
    (c_is_mark : PySem.W.codeIn K cd_is_mark "is_mark" = true)
    (k_is_mark : PySem.W.keepIn K (.ref f_is_mark) = true)
    (h_check_stream : PySem.W.nsIn K mainGlobals "check_stream" = some (some (.ref f_check_stream)))
    (l_check_stream : K.lookup f_check_stream = some ⟨oc_check_stream, od_check_stream, .func (PySem.W.fnOf "check_stream" "check_stream" (defArgs s_check_stream) (defBody s_check_stream) (defScope s_check_stream) .none kV_check_stream dc_check_stream pm_check_stream an_check_stream cd_check_stream ct_check_stream), sl_check_stream⟩)
    (c_check_stream : PySem.W.codeIn K cd_check_stream "check_stream" = true)
    (k_check_stream : PySem.W.keepIn K (.ref f_check_stream) = true)
    (h_check_telling : PySem.W.nsIn K mainGlobals "check_telling" = some (some (.ref f_check_telling)))
    (l_check_telling : K.lookup f_check_telling = some ⟨oc_check_telling, od_check_telling, .func (PySem.W.fnOf "check_telling" "check_telling" (defArgs s_check_telling) (defBody s_check_telling) (defScope s_check_telling) .none kV_check_telling dc_check_telling pm_check_telling an_check_telling cd_check_telling ct_check_telling), sl_check_telling⟩)
    (c_check_telling : PySem.W.codeIn K cd_check_telling "check_telling" = true)
    (k_check_telling : PySem.W.keepIn K (.ref f_check_telling) = true)
    (h_check_size : PySem.W.nsIn K mainGlobals "check_size" = some (some (.ref f_check_size)))
    (l_check_size : K.lookup f_check_size = some ⟨oc_check_size, od_check_size, .func (PySem.W.fnOf "check_size" "check_size" (defArgs s_check_size) (defBody s_check_size) (defScope s_check_size) .none kV_check_size dc_check_size pm_check_size an_check_size cd_check_size ct_check_size), sl_check_size⟩)
    (c_check_size : PySem.W.codeIn K cd_check_size "check_size" = true)
    (k_check_size : PySem.W.keepIn K (.ref f_check_size) = true)
    (h_check_room : PySem.W.nsIn K mainGlobals "check_room" = some (some (.ref f_check_room)))
    (l_check_room : K.lookup f_check_room = some ⟨oc_check_room, od_check_room, .func (PySem.W.fnOf "check_room" "check_room" (defArgs s_check_room) (defBody s_check_room) (defScope s_check_room) .none kV_check_room dc_check_room pm_check_room an_check_room cd_check_room ct_check_room), sl_check_room⟩)
    (c_check_room : PySem.W.codeIn K cd_check_room "check_room" = true)
    (k_check_room : PySem.W.keepIn K (.ref f_check_room) = true)
    (h_check_marks : PySem.W.nsIn K mainGlobals "check_marks" = some (some (.ref f_check_marks)))
    (l_check_marks : K.lookup f_check_marks = some ⟨oc_check_marks, od_check_marks, .func (PySem.W.fnOf "check_marks" "check_marks" (defArgs s_check_marks) (defBody s_check_marks) (defScope s_check_marks) .none kV_check_marks dc_check_marks pm_check_marks an_check_marks cd_check_marks ct_check_marks), sl_check_marks⟩)
    (c_check_marks : PySem.W.codeIn K cd_check_marks "check_marks" = true)
    (k_check_marks : PySem.W.keepIn K (.ref f_check_marks) = true)
    (h_Laying_init : PySem.W.findIn K (.ref A_Laying) "__init__" = some (some (.ref f_Laying_init)))
    (i_Laying_init : PySem.W.isFn K (.ref f_Laying_init) = true)
    (l_Laying_init : K.lookup f_Laying_init = some ⟨oc_Laying_init, od_Laying_init, .func (PySem.W.fnOf "__init__" "Laying.__init__" (defArgs s_Laying_init) (defBody s_Laying_init) (defScope s_Laying_init) .none kV_Laying_init dc_Laying_init pm_Laying_init an_Laying_init cd_Laying_init ct_Laying_init), sl_Laying_init⟩)
    (c_Laying_init : PySem.W.codeIn K cd_Laying_init "Laying.__init__" = true)
    (k_Laying_init : PySem.W.keepIn K (.ref f_Laying_init) = true)
    (h_Laying_lay : PySem.W.findIn K (.ref A_Laying) "lay" = some (some (.ref f_Laying_lay)))
    (i_Laying_lay : PySem.W.isFn K (.ref f_Laying_lay) = true)
    (l_Laying_lay : K.lookup f_Laying_lay = some ⟨oc_Laying_lay, od_Laying_lay, .func (PySem.W.fnOf "lay" "Laying.lay" (defArgs s_Laying_lay) (defBody s_Laying_lay) (defScope s_Laying_lay) .none kV_Laying_lay dc_Laying_lay pm_Laying_lay an_Laying_lay cd_Laying_lay ct_Laying_lay), sl_Laying_lay⟩)
    (c_Laying_lay : PySem.W.codeIn K cd_Laying_lay "Laying.lay" = true)
    (k_Laying_lay : PySem.W.keepIn K (.ref f_Laying_lay) = true)
    (h_Laying_fill : PySem.W.findIn K (.ref A_Laying) "fill" = some (some (.ref f_Laying_fill)))
    (i_Laying_fill : PySem.W.isFn K (.ref f_Laying_fill) = true)
    (l_Laying_fill : K.lookup f_Laying_fill = some ⟨oc_Laying_fill, od_Laying_fill, .func (PySem.W.fnOf "fill" "Laying.fill" (defArgs s_Laying_fill) (defBody s_Laying_fill) (defScope s_Laying_fill) .none kV_Laying_fill dc_Laying_fill pm_Laying_fill an_Laying_fill cd_Laying_fill ct_Laying_fill), sl_Laying_fill⟩)
    (c_Laying_fill : PySem.W.codeIn K cd_Laying_fill "Laying.fill" = true)
    (k_Laying_fill : PySem.W.keepIn K (.ref f_Laying_fill) = true)
    (h_Laying_done : PySem.W.findIn K (.ref A_Laying) "_done" = some (some (.ref f_Laying_done)))
    (i_Laying_done : PySem.W.isFn K (.ref f_Laying_done) = true)
    (l_Laying_done : K.lookup f_Laying_done = some ⟨oc_Laying_done, od_Laying_done, .func (PySem.W.fnOf "_done" "Laying._done" (defArgs s_Laying_done) (defBody s_Laying_done) (defScope s_Laying_done) .none kV_Laying_done dc_Laying_done pm_Laying_done an_Laying_done cd_Laying_done ct_Laying_done), sl_Laying_done⟩)
    (c_Laying_done : PySem.W.codeIn K cd_Laying_done "Laying._done" = true)
    (k_Laying_done : PySem.W.keepIn K (.ref f_Laying_done) = true)
    (h_Craft_init : PySem.W.findIn K (.ref A_Craft) "__init__" = some (some (.ref f_Craft_init)))
    (i_Craft_init : PySem.W.isFn K (.ref f_Craft_init) = true)
    (l_Craft_init : K.lookup f_Craft_init = some ⟨oc_Craft_init, od_Craft_init, .func (PySem.W.fnOf "__init__" "Craft.__init__" (defArgs s_Craft_init) (defBody s_Craft_init) (defScope s_Craft_init) .none kV_Craft_init dc_Craft_init pm_Craft_init an_Craft_init cd_Craft_init ct_Craft_init), sl_Craft_init⟩)
    (c_Craft_init : PySem.W.codeIn K cd_Craft_init "Craft.__init__" = true)
    (k_Craft_init : PySem.W.keepIn K (.ref f_Craft_init) = true)
    (h_Craft_tell : PySem.W.findIn K (.ref A_Craft) "tell" = some (some (.ref f_Craft_tell)))
    (i_Craft_tell : PySem.W.isFn K (.ref f_Craft_tell) = true)
    (l_Craft_tell : K.lookup f_Craft_tell = some ⟨oc_Craft_tell, od_Craft_tell, .func (PySem.W.fnOf "tell" "Craft.tell" (defArgs s_Craft_tell) (defBody s_Craft_tell) (defScope s_Craft_tell) .none kV_Craft_tell dc_Craft_tell pm_Craft_tell an_Craft_tell cd_Craft_tell ct_Craft_tell), sl_Craft_tell⟩)
    (c_Craft_tell : PySem.W.codeIn K cd_Craft_tell "Craft.tell" = true)
    (k_Craft_tell : PySem.W.keepIn K (.ref f_Craft_tell) = true)
    (h_Craft_close : PySem.W.findIn K (.ref A_Craft) "close" = some (some (.ref f_Craft_close)))
    (i_Craft_close : PySem.W.isFn K (.ref f_Craft_close) = true)
    (l_Craft_close : K.lookup f_Craft_close = some ⟨oc_Craft_close, od_Craft_close, .func (PySem.W.fnOf "close" "Craft.close" (defArgs s_Craft_close) (defBody s_Craft_close) (defScope s_Craft_close) .none kV_Craft_close dc_Craft_close pm_Craft_close an_Craft_close cd_Craft_close ct_Craft_close), sl_Craft_close⟩)
    (c_Craft_close : PySem.W.codeIn K cd_Craft_close "Craft.close" = true)
    (k_Craft_close : PySem.W.keepIn K (.ref f_Craft_close) = true)
    (h_Craft_begin : PySem.W.findIn K (.ref A_Craft) "begin" = some (some (.ref f_Craft_begin)))
    (i_Craft_begin : PySem.W.isFn K (.ref f_Craft_begin) = true)
    (l_Craft_begin : K.lookup f_Craft_begin = some ⟨oc_Craft_begin, od_Craft_begin, .func (PySem.W.fnOf "begin" "Craft.begin" (defArgs s_Craft_begin) (defBody s_Craft_begin) (defScope s_Craft_begin) .none kV_Craft_begin dc_Craft_begin pm_Craft_begin an_Craft_begin cd_Craft_begin ct_Craft_begin), sl_Craft_begin⟩)
    (c_Craft_begin : PySem.W.codeIn K cd_Craft_begin "Craft.begin" = true)
    (k_Craft_begin : PySem.W.keepIn K (.ref f_Craft_begin) = true)
    (h_Craft_shut : PySem.W.findIn K (.ref A_Craft) "shut" = some (some (.ref f_Craft_shut)))
    (i_Craft_shut : PySem.W.isFn K (.ref f_Craft_shut) = true)
    (l_Craft_shut : K.lookup f_Craft_shut = some ⟨oc_Craft_shut, od_Craft_shut, .func (PySem.W.fnOf "shut" "Craft.shut" (defArgs s_Craft_shut) (defBody s_Craft_shut) (defScope s_Craft_shut) .none kV_Craft_shut dc_Craft_shut pm_Craft_shut an_Craft_shut cd_Craft_shut ct_Craft_shut), sl_Craft_shut⟩)
    (c_Craft_shut : PySem.W.codeIn K cd_Craft_shut "Craft.shut" = true)
    (k_Craft_shut : PySem.W.keepIn K (.ref f_Craft_shut) = true)
    (h_Craft_beat : PySem.W.findIn K (.ref A_Craft) "beat" = some (some (.ref f_Craft_beat)))
    (i_Craft_beat : PySem.W.isFn K (.ref f_Craft_beat) = true)
    (l_Craft_beat : K.lookup f_Craft_beat = some ⟨oc_Craft_beat, od_Craft_beat, .func (PySem.W.fnOf "beat" "Craft.beat" (defArgs s_Craft_beat) (defBody s_Craft_beat) (defScope s_Craft_beat) .none kV_Craft_beat dc_Craft_beat pm_Craft_beat an_Craft_beat cd_Craft_beat ct_Craft_beat), sl_Craft_beat⟩)
    (c_Craft_beat : PySem.W.codeIn K cd_Craft_beat "Craft.beat" = true)
    (k_Craft_beat : PySem.W.keepIn K (.ref f_Craft_beat) = true)
    (h_Craft_known : PySem.W.findIn K (.ref A_Craft) "known" = some (some (.ref f_Craft_known)))
    (i_Craft_known : PySem.W.isFn K (.ref f_Craft_known) = true)
    (l_Craft_known : K.lookup f_Craft_known = some ⟨oc_Craft_known, od_Craft_known, .func (PySem.W.fnOf "known" "Craft.known" (defArgs s_Craft_known) (defBody s_Craft_known) (defScope s_Craft_known) .none kV_Craft_known dc_Craft_known pm_Craft_known an_Craft_known cd_Craft_known ct_Craft_known), sl_Craft_known⟩)
    (c_Craft_known : PySem.W.codeIn K cd_Craft_known "Craft.known" = true)
    (k_Craft_known : PySem.W.keepIn K (.ref f_Craft_known) = true)
    (h_Craft_again : PySem.W.findIn K (.ref A_Craft) "again" = some (some (.ref f_Craft_again)))
    (i_Craft_again : PySem.W.isFn K (.ref f_Craft_again) = true)
    (l_Craft_again : K.lookup f_Craft_again = some ⟨oc_Craft_again, od_Craft_again, .func (PySem.W.fnOf "again" "Craft.again" (defArgs s_Craft_again) (defBody s_Craft_again) (defScope s_Craft_again) .none kV_Craft_again dc_Craft_again pm_Craft_again an_Craft_again cd_Craft_again ct_Craft_again), sl_Craft_again⟩)
    (c_Craft_again : PySem.W.codeIn K cd_Craft_again "Craft.again" = true)
    (k_Craft_again : PySem.W.keepIn K (.ref f_Craft_again) = true)
    (h_Craft_kept : PySem.W.findIn K (.ref A_Craft) "kept" = some (some (.ref f_Craft_kept)))
    (i_Craft_kept : PySem.W.isFn K (.ref f_Craft_kept) = true)
    (l_Craft_kept : K.lookup f_Craft_kept = some ⟨oc_Craft_kept, od_Craft_kept, .func (PySem.W.fnOf "kept" "Craft.kept" (defArgs s_Craft_kept) (defBody s_Craft_kept) (defScope s_Craft_kept) .none kV_Craft_kept dc_Craft_kept pm_Craft_kept an_Craft_kept cd_Craft_kept ct_Craft_kept), sl_Craft_kept⟩)
    (c_Craft_kept : PySem.W.codeIn K cd_Craft_kept "Craft.kept" = true)
    (k_Craft_kept : PySem.W.keepIn K (.ref f_Craft_kept) = true)
    (h_Craft_lost : PySem.W.findIn K (.ref A_Craft) "lost" = some (some (.ref f_Craft_lost)))
    (i_Craft_lost : PySem.W.isFn K (.ref f_Craft_lost) = true)
    (l_Craft_lost : K.lookup f_Craft_lost = some ⟨oc_Craft_lost, od_Craft_lost, .func (PySem.W.fnOf "lost" "Craft.lost" (defArgs s_Craft_lost) (defBody s_Craft_lost) (defScope s_Craft_lost) .none kV_Craft_lost dc_Craft_lost pm_Craft_lost an_Craft_lost cd_Craft_lost ct_Craft_lost), sl_Craft_lost⟩)
    (c_Craft_lost : PySem.W.codeIn K cd_Craft_lost "Craft.lost" = true)
    (k_Craft_lost : PySem.W.keepIn K (.ref f_Craft_lost) = true)
    (h_Craft_waits : PySem.W.findIn K (.ref A_Craft) "waits" = some (some (.ref f_Craft_waits)))
    (i_Craft_waits : PySem.W.isFn K (.ref f_Craft_waits) = true)
    (l_Craft_waits : K.lookup f_Craft_waits = some ⟨oc_Craft_waits, od_Craft_waits, .func (PySem.W.fnOf "waits" "Craft.waits" (defArgs s_Craft_waits) (defBody s_Craft_waits) (defScope s_Craft_waits) .none kV_Craft_waits dc_Craft_waits pm_Craft_waits an_Craft_waits cd_Craft_waits ct_Craft_waits), sl_Craft_waits⟩)
    (c_Craft_waits : PySem.W.codeIn K cd_Craft_waits "Craft.waits" = true)
    (k_Craft_waits : PySem.W.keepIn K (.ref f_Craft_waits) = true)
    (h_Craft_next_mark : PySem.W.findIn K (.ref A_Craft) "_next_mark" = some (some (.ref f_Craft_next_mark)))
    (i_Craft_next_mark : PySem.W.isFn K (.ref f_Craft_next_mark) = true)
    (l_Craft_next_mark : K.lookup f_Craft_next_mark = some ⟨oc_Craft_next_mark, od_Craft_next_mark, .func (PySem.W.fnOf "_next_mark" "Craft._next_mark" (defArgs s_Craft_next_mark) (defBody s_Craft_next_mark) (defScope s_Craft_next_mark) .none kV_Craft_next_mark dc_Craft_next_mark pm_Craft_next_mark an_Craft_next_mark cd_Craft_next_mark ct_Craft_next_mark), sl_Craft_next_mark⟩)
    (c_Craft_next_mark : PySem.W.codeIn K cd_Craft_next_mark "Craft._next_mark" = true)
    (k_Craft_next_mark : PySem.W.keepIn K (.ref f_Craft_next_mark) = true)
    (h_Craft_keep : PySem.W.findIn K (.ref A_Craft) "_keep" = some (some (.ref f_Craft_keep)))
    (i_Craft_keep : PySem.W.isFn K (.ref f_Craft_keep) = true)
    (l_Craft_keep : K.lookup f_Craft_keep = some ⟨oc_Craft_keep, od_Craft_keep, .func (PySem.W.fnOf "_keep" "Craft._keep" (defArgs s_Craft_keep) (defBody s_Craft_keep) (defScope s_Craft_keep) .none kV_Craft_keep dc_Craft_keep pm_Craft_keep an_Craft_keep cd_Craft_keep ct_Craft_keep), sl_Craft_keep⟩)
    (c_Craft_keep : PySem.W.codeIn K cd_Craft_keep "Craft._keep" = true)
    (k_Craft_keep : PySem.W.keepIn K (.ref f_Craft_keep) = true)
    (h_Craft_make_room : PySem.W.findIn K (.ref A_Craft) "_make_room" = some (some (.ref f_Craft_make_room)))
    (i_Craft_make_room : PySem.W.isFn K (.ref f_Craft_make_room) = true)
    (l_Craft_make_room : K.lookup f_Craft_make_room = some ⟨oc_Craft_make_room, od_Craft_make_room, .func (PySem.W.fnOf "_make_room" "Craft._make_room" (defArgs s_Craft_make_room) (defBody s_Craft_make_room) (defScope s_Craft_make_room) .none kV_Craft_make_room dc_Craft_make_room pm_Craft_make_room an_Craft_make_room cd_Craft_make_room ct_Craft_make_room), sl_Craft_make_room⟩)
    (c_Craft_make_room : PySem.W.codeIn K cd_Craft_make_room "Craft._make_room" = true)
    (k_Craft_make_room : PySem.W.keepIn K (.ref f_Craft_make_room) = true)
    (h_Craft_let_go : PySem.W.findIn K (.ref A_Craft) "_let_go" = some (some (.ref f_Craft_let_go)))
    (i_Craft_let_go : PySem.W.isFn K (.ref f_Craft_let_go) = true)
    (l_Craft_let_go : K.lookup f_Craft_let_go = some ⟨oc_Craft_let_go, od_Craft_let_go, .func (PySem.W.fnOf "_let_go" "Craft._let_go" (defArgs s_Craft_let_go) (defBody s_Craft_let_go) (defScope s_Craft_let_go) .none kV_Craft_let_go dc_Craft_let_go pm_Craft_let_go an_Craft_let_go cd_Craft_let_go ct_Craft_let_go), sl_Craft_let_go⟩)
    (c_Craft_let_go : PySem.W.codeIn K cd_Craft_let_go "Craft._let_go" = true)
    (k_Craft_let_go : PySem.W.keepIn K (.ref f_Craft_let_go) = true)
    (h_law_mix : PySem.W.nsIn K mainGlobals "_law_mix" = some (some (.ref f_law_mix)))
    (l_law_mix : K.lookup f_law_mix = some ⟨oc_law_mix, od_law_mix, .func (PySem.W.fnOf "_law_mix" "_law_mix" (defArgs s_law_mix) (defBody s_law_mix) (defScope s_law_mix) .none kV_law_mix dc_law_mix pm_law_mix an_law_mix cd_law_mix ct_law_mix), sl_law_mix⟩)
    (c_law_mix : PySem.W.codeIn K cd_law_mix "_law_mix" = true)
    (k_law_mix : PySem.W.keepIn K (.ref f_law_mix) = true)
    (h_law_next : PySem.W.nsIn K mainGlobals "_law_next" = some (some (.ref f_law_next)))
    (l_law_next : K.lookup f_law_next = some ⟨oc_law_next, od_law_next, .func (PySem.W.fnOf "_law_next" "_law_next" (defArgs s_law_next) (defBody s_law_next) (defScope s_law_next) .none kV_law_next dc_law_next pm_law_next an_law_next cd_law_next ct_law_next), sl_law_next⟩)
    (c_law_next : PySem.W.codeIn K cd_law_next "_law_next" = true)
    (k_law_next : PySem.W.keepIn K (.ref f_law_next) = true)
    (h_law_alike : PySem.W.nsIn K mainGlobals "_law_alike" = some (some (.ref f_law_alike)))
    (l_law_alike : K.lookup f_law_alike = some ⟨oc_law_alike, od_law_alike, .func (PySem.W.fnOf "_law_alike" "_law_alike" (defArgs s_law_alike) (defBody s_law_alike) (defScope s_law_alike) .none kV_law_alike dc_law_alike pm_law_alike an_law_alike cd_law_alike ct_law_alike), sl_law_alike⟩)
    (c_law_alike : PySem.W.codeIn K cd_law_alike "_law_alike" = true)
    (k_law_alike : PySem.W.keepIn K (.ref f_law_alike) = true)
    (h_law_data : PySem.W.nsIn K mainGlobals "_law_data" = some (some (.ref f_law_data)))
    (l_law_data : K.lookup f_law_data = some ⟨oc_law_data, od_law_data, .func (PySem.W.fnOf "_law_data" "_law_data" (defArgs s_law_data) (defBody s_law_data) (defScope s_law_data) .none kV_law_data dc_law_data pm_law_data an_law_data cd_law_data ct_law_data), sl_law_data⟩)
    (c_law_data : PySem.W.codeIn K cd_law_data "_law_data" = true)
    (k_law_data : PySem.W.keepIn K (.ref f_law_data) = true)
    (h_law_fresh : PySem.W.nsIn K mainGlobals "_law_fresh" = some (some (.ref f_law_fresh)))
    (l_law_fresh : K.lookup f_law_fresh = some ⟨oc_law_fresh, od_law_fresh, .func (PySem.W.fnOf "_law_fresh" "_law_fresh" (defArgs s_law_fresh) (defBody s_law_fresh) (defScope s_law_fresh) .none kV_law_fresh dc_law_fresh pm_law_fresh an_law_fresh cd_law_fresh ct_law_fresh), sl_law_fresh⟩)
    (c_law_fresh : PySem.W.codeIn K cd_law_fresh "_law_fresh" = true)
    (k_law_fresh : PySem.W.keepIn K (.ref f_law_fresh) = true)
    (h_law_lay : PySem.W.nsIn K mainGlobals "_law_lay" = some (some (.ref f_law_lay)))
    (l_law_lay : K.lookup f_law_lay = some ⟨oc_law_lay, od_law_lay, .func (PySem.W.fnOf "_law_lay" "_law_lay" (defArgs s_law_lay) (defBody s_law_lay) (defScope s_law_lay) .none kV_law_lay dc_law_lay pm_law_lay an_law_lay cd_law_lay ct_law_lay), sl_law_lay⟩)
    (c_law_lay : PySem.W.codeIn K cd_law_lay "_law_lay" = true)
    (k_law_lay : PySem.W.keepIn K (.ref f_law_lay) = true)
    (h_law_fill : PySem.W.nsIn K mainGlobals "_law_fill" = some (some (.ref f_law_fill)))
    (l_law_fill : K.lookup f_law_fill = some ⟨oc_law_fill, od_law_fill, .func (PySem.W.fnOf "_law_fill" "_law_fill" (defArgs s_law_fill) (defBody s_law_fill) (defScope s_law_fill) .none kV_law_fill dc_law_fill pm_law_fill an_law_fill cd_law_fill ct_law_fill), sl_law_fill⟩)
    (c_law_fill : PySem.W.codeIn K cd_law_fill "_law_fill" = true)
    (k_law_fill : PySem.W.keepIn K (.ref f_law_fill) = true)
    (h_law_many : PySem.W.nsIn K mainGlobals "_law_many" = some (some (.ref f_law_many)))
    (l_law_many : K.lookup f_law_many = some ⟨oc_law_many, od_law_many, .func (PySem.W.fnOf "_law_many" "_law_many" (defArgs s_law_many) (defBody s_law_many) (defScope s_law_many) .none kV_law_many dc_law_many pm_law_many an_law_many cd_law_many ct_law_many), sl_law_many⟩)
    (c_law_many : PySem.W.codeIn K cd_law_many "_law_many" = true)
    (k_law_many : PySem.W.keepIn K (.ref f_law_many) = true)
    (h_law_frame : PySem.W.nsIn K mainGlobals "_law_frame" = some (some (.ref f_law_frame)))
    (l_law_frame : K.lookup f_law_frame = some ⟨oc_law_frame, od_law_frame, .func (PySem.W.fnOf "_law_frame" "_law_frame" (defArgs s_law_frame) (defBody s_law_frame) (defScope s_law_frame) .none kV_law_frame dc_law_frame pm_law_frame an_law_frame cd_law_frame ct_law_frame), sl_law_frame⟩)
    (c_law_frame : PySem.W.codeIn K cd_law_frame "_law_frame" = true)
    (k_law_frame : PySem.W.keepIn K (.ref f_law_frame) = true)
    (h_law_craft : PySem.W.nsIn K mainGlobals "_law_craft" = some (some (.ref f_law_craft)))
    (l_law_craft : K.lookup f_law_craft = some ⟨oc_law_craft, od_law_craft, .func (PySem.W.fnOf "_law_craft" "_law_craft" (defArgs s_law_craft) (defBody s_law_craft) (defScope s_law_craft) .none kV_law_craft dc_law_craft pm_law_craft an_law_craft cd_law_craft ct_law_craft), sl_law_craft⟩)
    (c_law_craft : PySem.W.codeIn K cd_law_craft "_law_craft" = true)
    (k_law_craft : PySem.W.keepIn K (.ref f_law_craft) = true)
    (h_law_keeps : PySem.W.nsIn K mainGlobals "_law_keeps" = some (some (.ref f_law_keeps)))
    (l_law_keeps : K.lookup f_law_keeps = some ⟨oc_law_keeps, od_law_keeps, .func (PySem.W.fnOf "_law_keeps" "_law_keeps" (defArgs s_law_keeps) (defBody s_law_keeps) (defScope s_law_keeps) .none kV_law_keeps dc_law_keeps pm_law_keeps an_law_keeps cd_law_keeps ct_law_keeps), sl_law_keeps⟩)
    (c_law_keeps : PySem.W.codeIn K cd_law_keeps "_law_keeps" = true)
    (k_law_keeps : PySem.W.keepIn K (.ref f_law_keeps) = true)
    (h_law_beat : PySem.W.nsIn K mainGlobals "_law_beat" = some (some (.ref f_law_beat)))
    (l_law_beat : K.lookup f_law_beat = some ⟨oc_law_beat, od_law_beat, .func (PySem.W.fnOf "_law_beat" "_law_beat" (defArgs s_law_beat) (defBody s_law_beat) (defScope s_law_beat) .none kV_law_beat dc_law_beat pm_law_beat an_law_beat cd_law_beat ct_law_beat), sl_law_beat⟩)
    (c_law_beat : PySem.W.codeIn K cd_law_beat "_law_beat" = true)
    (k_law_beat : PySem.W.keepIn K (.ref f_law_beat) = true)
    (h_law_known : PySem.W.nsIn K mainGlobals "_law_known" = some (some (.ref f_law_known)))
    (l_law_known : K.lookup f_law_known = some ⟨oc_law_known, od_law_known, .func (PySem.W.fnOf "_law_known" "_law_known" (defArgs s_law_known) (defBody s_law_known) (defScope s_law_known) .none kV_law_known dc_law_known pm_law_known an_law_known cd_law_known ct_law_known), sl_law_known⟩)
    (c_law_known : PySem.W.codeIn K cd_law_known "_law_known" = true)
    (k_law_known : PySem.W.keepIn K (.ref f_law_known) = true)
    (h_law_again : PySem.W.nsIn K mainGlobals "_law_again" = some (some (.ref f_law_again)))
    (l_law_again : K.lookup f_law_again = some ⟨oc_law_again, od_law_again, .func (PySem.W.fnOf "_law_again" "_law_again" (defArgs s_law_again) (defBody s_law_again) (defScope s_law_again) .none kV_law_again dc_law_again pm_law_again an_law_again cd_law_again ct_law_again), sl_law_again⟩)
    (c_law_again : PySem.W.codeIn K cd_law_again "_law_again" = true)
    (k_law_again : PySem.W.keepIn K (.ref f_law_again) = true)
    (h_law_marks : PySem.W.nsIn K mainGlobals "_law_marks" = some (some (.ref f_law_marks)))
    (l_law_marks : K.lookup f_law_marks = some ⟨oc_law_marks, od_law_marks, .func (PySem.W.fnOf "_law_marks" "_law_marks" (defArgs s_law_marks) (defBody s_law_marks) (defScope s_law_marks) .none kV_law_marks dc_law_marks pm_law_marks an_law_marks cd_law_marks ct_law_marks), sl_law_marks⟩)
    (c_law_marks : PySem.W.codeIn K cd_law_marks "_law_marks" = true)
    (k_law_marks : PySem.W.keepIn K (.ref f_law_marks) = true)
    (h_law_deed : PySem.W.nsIn K mainGlobals "_law_deed" = some (some (.ref f_law_deed)))
    (l_law_deed : K.lookup f_law_deed = some ⟨oc_law_deed, od_law_deed, .func (PySem.W.fnOf "_law_deed" "_law_deed" (defArgs s_law_deed) (defBody s_law_deed) (defScope s_law_deed) .none kV_law_deed dc_law_deed pm_law_deed an_law_deed cd_law_deed ct_law_deed), sl_law_deed⟩)
    (c_law_deed : PySem.W.codeIn K cd_law_deed "_law_deed" = true)
    (k_law_deed : PySem.W.keepIn K (.ref f_law_deed) = true)
    (h_law : PySem.W.nsIn K mainGlobals "law" = some (some (.ref f_law)))
    (l_law : K.lookup f_law = some ⟨oc_law, od_law, .func (PySem.W.fnOf "law" "law" (defArgs s_law) (defBody s_law) (defScope s_law) .none kV_law dc_law pm_law an_law cd_law ct_law), sl_law⟩)
    (c_law : PySem.W.codeIn K cd_law "law" = true)
    (k_law : PySem.W.keepIn K (.ref f_law) = true)
    (pg_Laying : PySem.W.plainGet K A_Laying Str.empty = true)
    (hd_Laying : PySem.W.hasDictIn K A_Laying = true)
    (po_Laying : PySem.W.plainOver K A_Laying = true)
    (sa_Laying : PySem.W.findIn K (.ref A_Laying) "__setattr__" = some (some (.builtin "object.__setattr__")))
    (mk_Laying : PySem.W.makesIn K A_Laying = true)
    (kc_Laying : PySem.W.keepIn K (.ref A_Laying) = true)
    (n_Laying_body : PySem.W.findIn K (.ref A_Laying) "_body" = some none)
    (n_Laying_count : PySem.W.findIn K (.ref A_Laying) "_count" = some none)
    (n_Laying_first : PySem.W.findIn K (.ref A_Laying) "_first" = some none)
    (n_Laying_size : PySem.W.findIn K (.ref A_Laying) "_size" = some none)
    (n_Laying_stream : PySem.W.findIn K (.ref A_Laying) "_stream" = some none)
    (n_Laying_many : PySem.W.findIn K (.ref A_Laying) "many" = some none)
    (pg_Craft : PySem.W.plainGet K A_Craft Str.empty = true)
    (hd_Craft : PySem.W.hasDictIn K A_Craft = true)
    (po_Craft : PySem.W.plainOver K A_Craft = true)
    (sa_Craft : PySem.W.findIn K (.ref A_Craft) "__setattr__" = some (some (.builtin "object.__setattr__")))
    (mk_Craft : PySem.W.makesIn K A_Craft = true)
    (kc_Craft : PySem.W.keepIn K (.ref A_Craft) = true)
    (n_Craft_asked : PySem.W.findIn K (.ref A_Craft) "_asked" = some none)
    (n_Craft_frames : PySem.W.findIn K (.ref A_Craft) "_frames" = some none)
    (n_Craft_gone : PySem.W.findIn K (.ref A_Craft) "_gone" = some none)
    (n_Craft_layings : PySem.W.findIn K (.ref A_Craft) "_layings" = some none)
    (n_Craft_room : PySem.W.findIn K (.ref A_Craft) "_room" = some none)
    (n_Craft_sent : PySem.W.findIn K (.ref A_Craft) "_sent" = some none)
    (n_Craft_window : PySem.W.findIn K (.ref A_Craft) "_window" = some none)
    (z_all : PySem.W.nsIn K mainGlobals "all" = some none)
    (z_bool : PySem.W.nsIn K mainGlobals "bool" = some none)
    (z_enumerate : PySem.W.nsIn K mainGlobals "enumerate" = some none)
    (z_int : PySem.W.nsIn K mainGlobals "int" = some none)
    (z_isinstance : PySem.W.nsIn K mainGlobals "isinstance" = some none)
    (z_len : PySem.W.nsIn K mainGlobals "len" = some none)
    (z_list : PySem.W.nsIn K mainGlobals "list" = some none)
    (z_max : PySem.W.nsIn K mainGlobals "max" = some none)
    (z_min : PySem.W.nsIn K mainGlobals "min" = some none)
    (z_range : PySem.W.nsIn K mainGlobals "range" = some none)
    (z_str : PySem.W.nsIn K mainGlobals "str" = some none)
    (z_tuple : PySem.W.nsIn K mainGlobals "tuple" = some none)
    (c_STREAMS : PySem.W.nsIn K mainGlobals "STREAMS" = some (some (.int 4 t_STREAMS)))
    (c_MOST_NUMBERS : PySem.W.nsIn K mainGlobals "MOST_NUMBERS" = some (some (.int 20 t_MOST_NUMBERS)))
    (c_LEAST_SIZE : PySem.W.nsIn K mainGlobals "LEAST_SIZE" = some (some (.int 8 t_LEAST_SIZE)))
    (c_MOST_SIZE : PySem.W.nsIn K mainGlobals "MOST_SIZE" = some (some (.int 24 t_MOST_SIZE)))
    (c_MOST_ROOM : PySem.W.nsIn K mainGlobals "MOST_ROOM" = some (some (.int 60 t_MOST_ROOM)))
    (c_MOST_COUNT : PySem.W.nsIn K mainGlobals "MOST_COUNT" = some (some (.int 9999 t_MOST_COUNT)))
    (c_HUNDRED : PySem.W.nsIn K mainGlobals "HUNDRED" = some (some (.int 256 t_HUNDRED)))
    : Tx K mg where
  A_Laying := A_Laying
  A_Craft := A_Craft
  a_is_number := f_is_number
  d_is_number := PySem.W.fnOf "is_number" "is_number" (defArgs s_is_number) (defBody s_is_number) (defScope s_is_number) .none kV_is_number dc_is_number pm_is_number an_is_number cd_is_number ct_is_number
  F_is_number := fun_mk (st := s_is_number) l_is_number c_is_number k_is_number
  b_is_number := (fun_mk (st := s_is_number) l_is_number c_is_number k_is_number).binds (ps := ["value", "low", "high"]) fun _ _ _ _ _ _ us hl => match us, hl with | [_, _, _], _ => rfl
  m_is_number := PySem.W.mg_of X G h_is_number
  a_is_stream := f_is_stream
  d_is_stream := PySem.W.fnOf "is_stream" "is_stream" (defArgs s_is_stream) (defBody s_is_stream) (defScope s_is_stream) .none kV_is_stream dc_is_stream pm_is_stream an_is_stream cd_is_stream ct_is_stream
  F_is_stream := fun_mk (st := s_is_stream) l_is_stream c_is_stream k_is_stream
  b_is_stream := (fun_mk (st := s_is_stream) l_is_stream c_is_stream k_is_stream).binds (ps := ["value"]) fun _ _ _ _ _ _ us hl => match us, hl with | [_], _ => rfl
  m_is_stream := PySem.W.mg_of X G h_is_stream
  a_holds_numbers := f_holds_numbers
  d_holds_numbers := PySem.W.fnOf "holds_numbers" "holds_numbers" (defArgs s_holds_numbers) (defBody s_holds_numbers) (defScope s_holds_numbers) .none kV_holds_numbers dc_holds_numbers pm_holds_numbers an_holds_numbers cd_holds_numbers ct_holds_numbers
  F_holds_numbers := fun_mk (st := s_holds_numbers) l_holds_numbers c_holds_numbers k_holds_numbers
  b_holds_numbers := (fun_mk (st := s_holds_numbers) l_holds_numbers c_holds_numbers k_holds_numbers).binds (ps := ["value"]) fun _ _ _ _ _ _ us hl => match us, hl with | [_], _ => rfl
  m_holds_numbers := PySem.W.mg_of X G h_holds_numbers
  a_is_telling := f_is_telling
  d_is_telling := PySem.W.fnOf "is_telling" "is_telling" (defArgs s_is_telling) (defBody s_is_telling) (defScope s_is_telling) .none kV_is_telling dc_is_telling pm_is_telling an_is_telling cd_is_telling ct_is_telling
  F_is_telling := fun_mk (st := s_is_telling) l_is_telling c_is_telling k_is_telling
  b_is_telling := (fun_mk (st := s_is_telling) l_is_telling c_is_telling k_is_telling).binds (ps := ["value"]) fun _ _ _ _ _ _ us hl => match us, hl with | [_], _ => rfl
  m_is_telling := PySem.W.mg_of X G h_is_telling
  a_is_mark := f_is_mark
  d_is_mark := PySem.W.fnOf "is_mark" "is_mark" (defArgs s_is_mark) (defBody s_is_mark) (defScope s_is_mark) .none kV_is_mark dc_is_mark pm_is_mark an_is_mark cd_is_mark ct_is_mark
  F_is_mark := fun_mk (st := s_is_mark) l_is_mark c_is_mark k_is_mark
  b_is_mark := (fun_mk (st := s_is_mark) l_is_mark c_is_mark k_is_mark).binds (ps := ["value"]) fun _ _ _ _ _ _ us hl => match us, hl with | [_], _ => rfl
  m_is_mark := PySem.W.mg_of X G h_is_mark
  a_check_stream := f_check_stream
  d_check_stream := PySem.W.fnOf "check_stream" "check_stream" (defArgs s_check_stream) (defBody s_check_stream) (defScope s_check_stream) .none kV_check_stream dc_check_stream pm_check_stream an_check_stream cd_check_stream ct_check_stream
  F_check_stream := fun_mk (st := s_check_stream) l_check_stream c_check_stream k_check_stream
  b_check_stream := (fun_mk (st := s_check_stream) l_check_stream c_check_stream k_check_stream).binds (ps := ["stream"]) fun _ _ _ _ _ _ us hl => match us, hl with | [_], _ => rfl
  m_check_stream := PySem.W.mg_of X G h_check_stream
  a_check_telling := f_check_telling
  d_check_telling := PySem.W.fnOf "check_telling" "check_telling" (defArgs s_check_telling) (defBody s_check_telling) (defScope s_check_telling) .none kV_check_telling dc_check_telling pm_check_telling an_check_telling cd_check_telling ct_check_telling
  F_check_telling := fun_mk (st := s_check_telling) l_check_telling c_check_telling k_check_telling
  b_check_telling := (fun_mk (st := s_check_telling) l_check_telling c_check_telling k_check_telling).binds (ps := ["telling"]) fun _ _ _ _ _ _ us hl => match us, hl with | [_], _ => rfl
  m_check_telling := PySem.W.mg_of X G h_check_telling
  a_check_size := f_check_size
  d_check_size := PySem.W.fnOf "check_size" "check_size" (defArgs s_check_size) (defBody s_check_size) (defScope s_check_size) .none kV_check_size dc_check_size pm_check_size an_check_size cd_check_size ct_check_size
  F_check_size := fun_mk (st := s_check_size) l_check_size c_check_size k_check_size
  b_check_size := (fun_mk (st := s_check_size) l_check_size c_check_size k_check_size).binds (ps := ["size"]) fun _ _ _ _ _ _ us hl => match us, hl with | [_], _ => rfl
  m_check_size := PySem.W.mg_of X G h_check_size
  a_check_room := f_check_room
  d_check_room := PySem.W.fnOf "check_room" "check_room" (defArgs s_check_room) (defBody s_check_room) (defScope s_check_room) .none kV_check_room dc_check_room pm_check_room an_check_room cd_check_room ct_check_room
  F_check_room := fun_mk (st := s_check_room) l_check_room c_check_room k_check_room
  b_check_room := (fun_mk (st := s_check_room) l_check_room c_check_room k_check_room).binds (ps := ["room"]) fun _ _ _ _ _ _ us hl => match us, hl with | [_], _ => rfl
  m_check_room := PySem.W.mg_of X G h_check_room
  a_check_marks := f_check_marks
  d_check_marks := PySem.W.fnOf "check_marks" "check_marks" (defArgs s_check_marks) (defBody s_check_marks) (defScope s_check_marks) .none kV_check_marks dc_check_marks pm_check_marks an_check_marks cd_check_marks ct_check_marks
  F_check_marks := fun_mk (st := s_check_marks) l_check_marks c_check_marks k_check_marks
  b_check_marks := (fun_mk (st := s_check_marks) l_check_marks c_check_marks k_check_marks).binds (ps := ["marks"]) fun _ _ _ _ _ _ us hl => match us, hl with | [_], _ => rfl
  m_check_marks := PySem.W.mg_of X G h_check_marks
  a_Laying_init := f_Laying_init
  d_Laying_init := PySem.W.fnOf "__init__" "Laying.__init__" (defArgs s_Laying_init) (defBody s_Laying_init) (defScope s_Laying_init) .none kV_Laying_init dc_Laying_init pm_Laying_init an_Laying_init cd_Laying_init ct_Laying_init
  F_Laying_init := fun_mk (st := s_Laying_init) l_Laying_init c_Laying_init k_Laying_init
  b_Laying_init := (fun_mk (st := s_Laying_init) l_Laying_init c_Laying_init k_Laying_init).binds (ps := ["self", "stream", "size"]) fun _ _ _ _ _ _ us hl => match us, hl with | [_, _, _], _ => rfl
  a_Laying_lay := f_Laying_lay
  d_Laying_lay := PySem.W.fnOf "lay" "Laying.lay" (defArgs s_Laying_lay) (defBody s_Laying_lay) (defScope s_Laying_lay) .none kV_Laying_lay dc_Laying_lay pm_Laying_lay an_Laying_lay cd_Laying_lay ct_Laying_lay
  F_Laying_lay := fun_mk (st := s_Laying_lay) l_Laying_lay c_Laying_lay k_Laying_lay
  b_Laying_lay := (fun_mk (st := s_Laying_lay) l_Laying_lay c_Laying_lay k_Laying_lay).binds (ps := ["self", "telling"]) fun _ _ _ _ _ _ us hl => match us, hl with | [_, _], _ => rfl
  M_Laying_lay := ⟨h_Laying_lay, i_Laying_lay, k_Laying_lay⟩
  a_Laying_fill := f_Laying_fill
  d_Laying_fill := PySem.W.fnOf "fill" "Laying.fill" (defArgs s_Laying_fill) (defBody s_Laying_fill) (defScope s_Laying_fill) .none kV_Laying_fill dc_Laying_fill pm_Laying_fill an_Laying_fill cd_Laying_fill ct_Laying_fill
  F_Laying_fill := fun_mk (st := s_Laying_fill) l_Laying_fill c_Laying_fill k_Laying_fill
  b_Laying_fill := (fun_mk (st := s_Laying_fill) l_Laying_fill c_Laying_fill k_Laying_fill).binds (ps := ["self"]) fun _ _ _ _ _ _ us hl => match us, hl with | [_], _ => rfl
  M_Laying_fill := ⟨h_Laying_fill, i_Laying_fill, k_Laying_fill⟩
  a_Laying_done := f_Laying_done
  d_Laying_done := PySem.W.fnOf "_done" "Laying._done" (defArgs s_Laying_done) (defBody s_Laying_done) (defScope s_Laying_done) .none kV_Laying_done dc_Laying_done pm_Laying_done an_Laying_done cd_Laying_done ct_Laying_done
  F_Laying_done := fun_mk (st := s_Laying_done) l_Laying_done c_Laying_done k_Laying_done
  b_Laying_done := (fun_mk (st := s_Laying_done) l_Laying_done c_Laying_done k_Laying_done).binds (ps := ["self"]) fun _ _ _ _ _ _ us hl => match us, hl with | [_], _ => rfl
  M_Laying_done := ⟨h_Laying_done, i_Laying_done, k_Laying_done⟩
  a_Craft_init := f_Craft_init
  d_Craft_init := PySem.W.fnOf "__init__" "Craft.__init__" (defArgs s_Craft_init) (defBody s_Craft_init) (defScope s_Craft_init) .none kV_Craft_init dc_Craft_init pm_Craft_init an_Craft_init cd_Craft_init ct_Craft_init
  F_Craft_init := fun_mk (st := s_Craft_init) l_Craft_init c_Craft_init k_Craft_init
  b_Craft_init := (fun_mk (st := s_Craft_init) l_Craft_init c_Craft_init k_Craft_init).binds (ps := ["self", "size", "room"]) fun _ _ _ _ _ _ us hl => match us, hl with | [_, _, _], _ => rfl
  a_Craft_tell := f_Craft_tell
  d_Craft_tell := PySem.W.fnOf "tell" "Craft.tell" (defArgs s_Craft_tell) (defBody s_Craft_tell) (defScope s_Craft_tell) .none kV_Craft_tell dc_Craft_tell pm_Craft_tell an_Craft_tell cd_Craft_tell ct_Craft_tell
  F_Craft_tell := fun_mk (st := s_Craft_tell) l_Craft_tell c_Craft_tell k_Craft_tell
  b_Craft_tell := (fun_mk (st := s_Craft_tell) l_Craft_tell c_Craft_tell k_Craft_tell).binds (ps := ["self", "stream", "data"]) fun _ _ _ _ _ _ us hl => match us, hl with | [_, _, _], _ => rfl
  M_Craft_tell := ⟨h_Craft_tell, i_Craft_tell, k_Craft_tell⟩
  a_Craft_close := f_Craft_close
  d_Craft_close := PySem.W.fnOf "close" "Craft.close" (defArgs s_Craft_close) (defBody s_Craft_close) (defScope s_Craft_close) .none kV_Craft_close dc_Craft_close pm_Craft_close an_Craft_close cd_Craft_close ct_Craft_close
  F_Craft_close := fun_mk (st := s_Craft_close) l_Craft_close c_Craft_close k_Craft_close
  b_Craft_close := (fun_mk (st := s_Craft_close) l_Craft_close c_Craft_close k_Craft_close).binds (ps := ["self", "stream"]) fun _ _ _ _ _ _ us hl => match us, hl with | [_, _], _ => rfl
  M_Craft_close := ⟨h_Craft_close, i_Craft_close, k_Craft_close⟩
  a_Craft_begin := f_Craft_begin
  d_Craft_begin := PySem.W.fnOf "begin" "Craft.begin" (defArgs s_Craft_begin) (defBody s_Craft_begin) (defScope s_Craft_begin) .none kV_Craft_begin dc_Craft_begin pm_Craft_begin an_Craft_begin cd_Craft_begin ct_Craft_begin
  F_Craft_begin := fun_mk (st := s_Craft_begin) l_Craft_begin c_Craft_begin k_Craft_begin
  b_Craft_begin := (fun_mk (st := s_Craft_begin) l_Craft_begin c_Craft_begin k_Craft_begin).binds (ps := ["self"]) fun _ _ _ _ _ _ us hl => match us, hl with | [_], _ => rfl
  M_Craft_begin := ⟨h_Craft_begin, i_Craft_begin, k_Craft_begin⟩
  a_Craft_shut := f_Craft_shut
  d_Craft_shut := PySem.W.fnOf "shut" "Craft.shut" (defArgs s_Craft_shut) (defBody s_Craft_shut) (defScope s_Craft_shut) .none kV_Craft_shut dc_Craft_shut pm_Craft_shut an_Craft_shut cd_Craft_shut ct_Craft_shut
  F_Craft_shut := fun_mk (st := s_Craft_shut) l_Craft_shut c_Craft_shut k_Craft_shut
  b_Craft_shut := (fun_mk (st := s_Craft_shut) l_Craft_shut c_Craft_shut k_Craft_shut).binds (ps := ["self"]) fun _ _ _ _ _ _ us hl => match us, hl with | [_], _ => rfl
  M_Craft_shut := ⟨h_Craft_shut, i_Craft_shut, k_Craft_shut⟩
  a_Craft_beat := f_Craft_beat
  d_Craft_beat := PySem.W.fnOf "beat" "Craft.beat" (defArgs s_Craft_beat) (defBody s_Craft_beat) (defScope s_Craft_beat) .none kV_Craft_beat dc_Craft_beat pm_Craft_beat an_Craft_beat cd_Craft_beat ct_Craft_beat
  F_Craft_beat := fun_mk (st := s_Craft_beat) l_Craft_beat c_Craft_beat k_Craft_beat
  b_Craft_beat := (fun_mk (st := s_Craft_beat) l_Craft_beat c_Craft_beat k_Craft_beat).binds (ps := ["self"]) fun _ _ _ _ _ _ us hl => match us, hl with | [_], _ => rfl
  M_Craft_beat := ⟨h_Craft_beat, i_Craft_beat, k_Craft_beat⟩
  a_Craft_known := f_Craft_known
  d_Craft_known := PySem.W.fnOf "known" "Craft.known" (defArgs s_Craft_known) (defBody s_Craft_known) (defScope s_Craft_known) .none kV_Craft_known dc_Craft_known pm_Craft_known an_Craft_known cd_Craft_known ct_Craft_known
  F_Craft_known := fun_mk (st := s_Craft_known) l_Craft_known c_Craft_known k_Craft_known
  b_Craft_known := (fun_mk (st := s_Craft_known) l_Craft_known c_Craft_known k_Craft_known).binds (ps := ["self", "marks"]) fun _ _ _ _ _ _ us hl => match us, hl with | [_, _], _ => rfl
  M_Craft_known := ⟨h_Craft_known, i_Craft_known, k_Craft_known⟩
  a_Craft_again := f_Craft_again
  d_Craft_again := PySem.W.fnOf "again" "Craft.again" (defArgs s_Craft_again) (defBody s_Craft_again) (defScope s_Craft_again) .none kV_Craft_again dc_Craft_again pm_Craft_again an_Craft_again cd_Craft_again ct_Craft_again
  F_Craft_again := fun_mk (st := s_Craft_again) l_Craft_again c_Craft_again k_Craft_again
  b_Craft_again := (fun_mk (st := s_Craft_again) l_Craft_again c_Craft_again k_Craft_again).binds (ps := ["self", "marks"]) fun _ _ _ _ _ _ us hl => match us, hl with | [_, _], _ => rfl
  M_Craft_again := ⟨h_Craft_again, i_Craft_again, k_Craft_again⟩
  a_Craft_kept := f_Craft_kept
  d_Craft_kept := PySem.W.fnOf "kept" "Craft.kept" (defArgs s_Craft_kept) (defBody s_Craft_kept) (defScope s_Craft_kept) .none kV_Craft_kept dc_Craft_kept pm_Craft_kept an_Craft_kept cd_Craft_kept ct_Craft_kept
  F_Craft_kept := fun_mk (st := s_Craft_kept) l_Craft_kept c_Craft_kept k_Craft_kept
  b_Craft_kept := (fun_mk (st := s_Craft_kept) l_Craft_kept c_Craft_kept k_Craft_kept).binds (ps := ["self"]) fun _ _ _ _ _ _ us hl => match us, hl with | [_], _ => rfl
  M_Craft_kept := ⟨h_Craft_kept, i_Craft_kept, k_Craft_kept⟩
  a_Craft_lost := f_Craft_lost
  d_Craft_lost := PySem.W.fnOf "lost" "Craft.lost" (defArgs s_Craft_lost) (defBody s_Craft_lost) (defScope s_Craft_lost) .none kV_Craft_lost dc_Craft_lost pm_Craft_lost an_Craft_lost cd_Craft_lost ct_Craft_lost
  F_Craft_lost := fun_mk (st := s_Craft_lost) l_Craft_lost c_Craft_lost k_Craft_lost
  b_Craft_lost := (fun_mk (st := s_Craft_lost) l_Craft_lost c_Craft_lost k_Craft_lost).binds (ps := ["self"]) fun _ _ _ _ _ _ us hl => match us, hl with | [_], _ => rfl
  M_Craft_lost := ⟨h_Craft_lost, i_Craft_lost, k_Craft_lost⟩
  a_Craft_waits := f_Craft_waits
  d_Craft_waits := PySem.W.fnOf "waits" "Craft.waits" (defArgs s_Craft_waits) (defBody s_Craft_waits) (defScope s_Craft_waits) .none kV_Craft_waits dc_Craft_waits pm_Craft_waits an_Craft_waits cd_Craft_waits ct_Craft_waits
  F_Craft_waits := fun_mk (st := s_Craft_waits) l_Craft_waits c_Craft_waits k_Craft_waits
  b_Craft_waits := (fun_mk (st := s_Craft_waits) l_Craft_waits c_Craft_waits k_Craft_waits).binds (ps := ["self"]) fun _ _ _ _ _ _ us hl => match us, hl with | [_], _ => rfl
  M_Craft_waits := ⟨h_Craft_waits, i_Craft_waits, k_Craft_waits⟩
  a_Craft_next_mark := f_Craft_next_mark
  d_Craft_next_mark := PySem.W.fnOf "_next_mark" "Craft._next_mark" (defArgs s_Craft_next_mark) (defBody s_Craft_next_mark) (defScope s_Craft_next_mark) .none kV_Craft_next_mark dc_Craft_next_mark pm_Craft_next_mark an_Craft_next_mark cd_Craft_next_mark ct_Craft_next_mark
  F_Craft_next_mark := fun_mk (st := s_Craft_next_mark) l_Craft_next_mark c_Craft_next_mark k_Craft_next_mark
  b_Craft_next_mark := (fun_mk (st := s_Craft_next_mark) l_Craft_next_mark c_Craft_next_mark k_Craft_next_mark).binds (ps := ["self"]) fun _ _ _ _ _ _ us hl => match us, hl with | [_], _ => rfl
  M_Craft_next_mark := ⟨h_Craft_next_mark, i_Craft_next_mark, k_Craft_next_mark⟩
  a_Craft_keep := f_Craft_keep
  d_Craft_keep := PySem.W.fnOf "_keep" "Craft._keep" (defArgs s_Craft_keep) (defBody s_Craft_keep) (defScope s_Craft_keep) .none kV_Craft_keep dc_Craft_keep pm_Craft_keep an_Craft_keep cd_Craft_keep ct_Craft_keep
  F_Craft_keep := fun_mk (st := s_Craft_keep) l_Craft_keep c_Craft_keep k_Craft_keep
  b_Craft_keep := (fun_mk (st := s_Craft_keep) l_Craft_keep c_Craft_keep k_Craft_keep).binds (ps := ["self", "frame"]) fun _ _ _ _ _ _ us hl => match us, hl with | [_, _], _ => rfl
  M_Craft_keep := ⟨h_Craft_keep, i_Craft_keep, k_Craft_keep⟩
  a_Craft_make_room := f_Craft_make_room
  d_Craft_make_room := PySem.W.fnOf "_make_room" "Craft._make_room" (defArgs s_Craft_make_room) (defBody s_Craft_make_room) (defScope s_Craft_make_room) .none kV_Craft_make_room dc_Craft_make_room pm_Craft_make_room an_Craft_make_room cd_Craft_make_room ct_Craft_make_room
  F_Craft_make_room := fun_mk (st := s_Craft_make_room) l_Craft_make_room c_Craft_make_room k_Craft_make_room
  b_Craft_make_room := (fun_mk (st := s_Craft_make_room) l_Craft_make_room c_Craft_make_room k_Craft_make_room).binds (ps := ["self"]) fun _ _ _ _ _ _ us hl => match us, hl with | [_], _ => rfl
  M_Craft_make_room := ⟨h_Craft_make_room, i_Craft_make_room, k_Craft_make_room⟩
  a_Craft_let_go := f_Craft_let_go
  d_Craft_let_go := PySem.W.fnOf "_let_go" "Craft._let_go" (defArgs s_Craft_let_go) (defBody s_Craft_let_go) (defScope s_Craft_let_go) .none kV_Craft_let_go dc_Craft_let_go pm_Craft_let_go an_Craft_let_go cd_Craft_let_go ct_Craft_let_go
  F_Craft_let_go := fun_mk (st := s_Craft_let_go) l_Craft_let_go c_Craft_let_go k_Craft_let_go
  b_Craft_let_go := (fun_mk (st := s_Craft_let_go) l_Craft_let_go c_Craft_let_go k_Craft_let_go).binds (ps := ["self", "mark"]) fun _ _ _ _ _ _ us hl => match us, hl with | [_, _], _ => rfl
  M_Craft_let_go := ⟨h_Craft_let_go, i_Craft_let_go, k_Craft_let_go⟩
  a_law_mix := f_law_mix
  d_law_mix := PySem.W.fnOf "_law_mix" "_law_mix" (defArgs s_law_mix) (defBody s_law_mix) (defScope s_law_mix) .none kV_law_mix dc_law_mix pm_law_mix an_law_mix cd_law_mix ct_law_mix
  F_law_mix := fun_mk (st := s_law_mix) l_law_mix c_law_mix k_law_mix
  b_law_mix := (fun_mk (st := s_law_mix) l_law_mix c_law_mix k_law_mix).binds (ps := ["_law_script", "_law_seed"]) fun _ _ _ _ _ _ us hl => match us, hl with | [_, _], _ => rfl
  m_law_mix := PySem.W.mg_of X G h_law_mix
  a_law_next := f_law_next
  d_law_next := PySem.W.fnOf "_law_next" "_law_next" (defArgs s_law_next) (defBody s_law_next) (defScope s_law_next) .none kV_law_next dc_law_next pm_law_next an_law_next cd_law_next ct_law_next
  F_law_next := fun_mk (st := s_law_next) l_law_next c_law_next k_law_next
  b_law_next := (fun_mk (st := s_law_next) l_law_next c_law_next k_law_next).binds (ps := ["_law_h", "_law_many_here"]) fun _ _ _ _ _ _ us hl => match us, hl with | [_, _], _ => rfl
  m_law_next := PySem.W.mg_of X G h_law_next
  a_law_alike := f_law_alike
  d_law_alike := PySem.W.fnOf "_law_alike" "_law_alike" (defArgs s_law_alike) (defBody s_law_alike) (defScope s_law_alike) .none kV_law_alike dc_law_alike pm_law_alike an_law_alike cd_law_alike ct_law_alike
  F_law_alike := fun_mk (st := s_law_alike) l_law_alike c_law_alike k_law_alike
  b_law_alike := (fun_mk (st := s_law_alike) l_law_alike c_law_alike k_law_alike).binds (ps := ["_law_found", "_law_due"]) fun _ _ _ _ _ _ us hl => match us, hl with | [_, _], _ => rfl
  m_law_alike := PySem.W.mg_of X G h_law_alike
  a_law_data := f_law_data
  d_law_data := PySem.W.fnOf "_law_data" "_law_data" (defArgs s_law_data) (defBody s_law_data) (defScope s_law_data) .none kV_law_data dc_law_data pm_law_data an_law_data cd_law_data ct_law_data
  F_law_data := fun_mk (st := s_law_data) l_law_data c_law_data k_law_data
  b_law_data := (fun_mk (st := s_law_data) l_law_data c_law_data k_law_data).binds (ps := ["_law_h"]) fun _ _ _ _ _ _ us hl => match us, hl with | [_], _ => rfl
  m_law_data := PySem.W.mg_of X G h_law_data
  a_law_fresh := f_law_fresh
  d_law_fresh := PySem.W.fnOf "_law_fresh" "_law_fresh" (defArgs s_law_fresh) (defBody s_law_fresh) (defScope s_law_fresh) .none kV_law_fresh dc_law_fresh pm_law_fresh an_law_fresh cd_law_fresh ct_law_fresh
  F_law_fresh := fun_mk (st := s_law_fresh) l_law_fresh c_law_fresh k_law_fresh
  b_law_fresh := (fun_mk (st := s_law_fresh) l_law_fresh c_law_fresh k_law_fresh).binds (ps := ["_law_size"]) fun _ _ _ _ _ _ us hl => match us, hl with | [_], _ => rfl
  m_law_fresh := PySem.W.mg_of X G h_law_fresh
  a_law_lay := f_law_lay
  d_law_lay := PySem.W.fnOf "_law_lay" "_law_lay" (defArgs s_law_lay) (defBody s_law_lay) (defScope s_law_lay) .none kV_law_lay dc_law_lay pm_law_lay an_law_lay cd_law_lay ct_law_lay
  F_law_lay := fun_mk (st := s_law_lay) l_law_lay c_law_lay k_law_lay
  b_law_lay := (fun_mk (st := s_law_lay) l_law_lay c_law_lay k_law_lay).binds (ps := ["_law_s", "_law_data_here"]) fun _ _ _ _ _ _ us hl => match us, hl with | [_, _], _ => rfl
  m_law_lay := PySem.W.mg_of X G h_law_lay
  a_law_fill := f_law_fill
  d_law_fill := PySem.W.fnOf "_law_fill" "_law_fill" (defArgs s_law_fill) (defBody s_law_fill) (defScope s_law_fill) .none kV_law_fill dc_law_fill pm_law_fill an_law_fill cd_law_fill ct_law_fill
  F_law_fill := fun_mk (st := s_law_fill) l_law_fill c_law_fill k_law_fill
  b_law_fill := (fun_mk (st := s_law_fill) l_law_fill c_law_fill k_law_fill).binds (ps := ["_law_s"]) fun _ _ _ _ _ _ us hl => match us, hl with | [_], _ => rfl
  m_law_fill := PySem.W.mg_of X G h_law_fill
  a_law_many := f_law_many
  d_law_many := PySem.W.fnOf "_law_many" "_law_many" (defArgs s_law_many) (defBody s_law_many) (defScope s_law_many) .none kV_law_many dc_law_many pm_law_many an_law_many cd_law_many ct_law_many
  F_law_many := fun_mk (st := s_law_many) l_law_many c_law_many k_law_many
  b_law_many := (fun_mk (st := s_law_many) l_law_many c_law_many k_law_many).binds (ps := ["_law_s"]) fun _ _ _ _ _ _ us hl => match us, hl with | [_], _ => rfl
  m_law_many := PySem.W.mg_of X G h_law_many
  a_law_frame := f_law_frame
  d_law_frame := PySem.W.fnOf "_law_frame" "_law_frame" (defArgs s_law_frame) (defBody s_law_frame) (defScope s_law_frame) .none kV_law_frame dc_law_frame pm_law_frame an_law_frame cd_law_frame ct_law_frame
  F_law_frame := fun_mk (st := s_law_frame) l_law_frame c_law_frame k_law_frame
  b_law_frame := (fun_mk (st := s_law_frame) l_law_frame c_law_frame k_law_frame).binds (ps := ["_law_s", "_law_stream", "_law_count"]) fun _ _ _ _ _ _ us hl => match us, hl with | [_, _, _], _ => rfl
  m_law_frame := PySem.W.mg_of X G h_law_frame
  a_law_craft := f_law_craft
  d_law_craft := PySem.W.fnOf "_law_craft" "_law_craft" (defArgs s_law_craft) (defBody s_law_craft) (defScope s_law_craft) .none kV_law_craft dc_law_craft pm_law_craft an_law_craft cd_law_craft ct_law_craft
  F_law_craft := fun_mk (st := s_law_craft) l_law_craft c_law_craft k_law_craft
  b_law_craft := (fun_mk (st := s_law_craft) l_law_craft c_law_craft k_law_craft).binds (ps := ["_law_size", "_law_room"]) fun _ _ _ _ _ _ us hl => match us, hl with | [_, _], _ => rfl
  m_law_craft := PySem.W.mg_of X G h_law_craft
  a_law_keeps := f_law_keeps
  d_law_keeps := PySem.W.fnOf "_law_keeps" "_law_keeps" (defArgs s_law_keeps) (defBody s_law_keeps) (defScope s_law_keeps) .none kV_law_keeps dc_law_keeps pm_law_keeps an_law_keeps cd_law_keeps ct_law_keeps
  F_law_keeps := fun_mk (st := s_law_keeps) l_law_keeps c_law_keeps k_law_keeps
  b_law_keeps := (fun_mk (st := s_law_keeps) l_law_keeps c_law_keeps k_law_keeps).binds (ps := ["_law_c", "_law_stream"]) fun _ _ _ _ _ _ us hl => match us, hl with | [_, _], _ => rfl
  m_law_keeps := PySem.W.mg_of X G h_law_keeps
  a_law_beat := f_law_beat
  d_law_beat := PySem.W.fnOf "_law_beat" "_law_beat" (defArgs s_law_beat) (defBody s_law_beat) (defScope s_law_beat) .none kV_law_beat dc_law_beat pm_law_beat an_law_beat cd_law_beat ct_law_beat
  F_law_beat := fun_mk (st := s_law_beat) l_law_beat c_law_beat k_law_beat
  b_law_beat := (fun_mk (st := s_law_beat) l_law_beat c_law_beat k_law_beat).binds (ps := ["_law_c"]) fun _ _ _ _ _ _ us hl => match us, hl with | [_], _ => rfl
  m_law_beat := PySem.W.mg_of X G h_law_beat
  a_law_known := f_law_known
  d_law_known := PySem.W.fnOf "_law_known" "_law_known" (defArgs s_law_known) (defBody s_law_known) (defScope s_law_known) .none kV_law_known dc_law_known pm_law_known an_law_known cd_law_known ct_law_known
  F_law_known := fun_mk (st := s_law_known) l_law_known c_law_known k_law_known
  b_law_known := (fun_mk (st := s_law_known) l_law_known c_law_known k_law_known).binds (ps := ["_law_c", "_law_marks_here"]) fun _ _ _ _ _ _ us hl => match us, hl with | [_, _], _ => rfl
  m_law_known := PySem.W.mg_of X G h_law_known
  a_law_again := f_law_again
  d_law_again := PySem.W.fnOf "_law_again" "_law_again" (defArgs s_law_again) (defBody s_law_again) (defScope s_law_again) .none kV_law_again dc_law_again pm_law_again an_law_again cd_law_again ct_law_again
  F_law_again := fun_mk (st := s_law_again) l_law_again c_law_again k_law_again
  b_law_again := (fun_mk (st := s_law_again) l_law_again c_law_again k_law_again).binds (ps := ["_law_c", "_law_marks_here"]) fun _ _ _ _ _ _ us hl => match us, hl with | [_, _], _ => rfl
  m_law_again := PySem.W.mg_of X G h_law_again
  a_law_marks := f_law_marks
  d_law_marks := PySem.W.fnOf "_law_marks" "_law_marks" (defArgs s_law_marks) (defBody s_law_marks) (defScope s_law_marks) .none kV_law_marks dc_law_marks pm_law_marks an_law_marks cd_law_marks ct_law_marks
  F_law_marks := fun_mk (st := s_law_marks) l_law_marks c_law_marks k_law_marks
  b_law_marks := (fun_mk (st := s_law_marks) l_law_marks c_law_marks k_law_marks).binds (ps := ["_law_h", "_law_many_here"]) fun _ _ _ _ _ _ us hl => match us, hl with | [_, _], _ => rfl
  m_law_marks := PySem.W.mg_of X G h_law_marks
  a_law_deed := f_law_deed
  d_law_deed := PySem.W.fnOf "_law_deed" "_law_deed" (defArgs s_law_deed) (defBody s_law_deed) (defScope s_law_deed) .none kV_law_deed dc_law_deed pm_law_deed an_law_deed cd_law_deed ct_law_deed
  F_law_deed := fun_mk (st := s_law_deed) l_law_deed c_law_deed k_law_deed
  b_law_deed := (fun_mk (st := s_law_deed) l_law_deed c_law_deed k_law_deed).binds (ps := ["_law_h", "_law_c", "_law_craft_here"]) fun _ _ _ _ _ _ us hl => match us, hl with | [_, _, _], _ => rfl
  m_law_deed := PySem.W.mg_of X G h_law_deed
  a_law := f_law
  d_law := PySem.W.fnOf "law" "law" (defArgs s_law) (defBody s_law) (defScope s_law) .none kV_law dc_law pm_law an_law cd_law ct_law
  F_law := fun_mk (st := s_law) l_law c_law k_law
  b_law := (fun_mk (st := s_law) l_law c_law k_law).binds (ps := ["_law_script"]) fun _ _ _ _ _ _ us hl => match us, hl with | [_], _ => rfl
  m_law := PySem.W.mg_of X G h_law
  cl_Laying := ⟨pg_Laying, hd_Laying, po_Laying, sa_Laying⟩
  m_Laying := PySem.W.mg_of X G hA_Laying
  mk_Laying := ⟨mk_Laying, h_Laying_init, i_Laying_init, kc_Laying⟩
  n_Laying_body := n_Laying_body
  n_Laying_count := n_Laying_count
  n_Laying_first := n_Laying_first
  n_Laying_size := n_Laying_size
  n_Laying_stream := n_Laying_stream
  n_Laying_many := n_Laying_many
  cl_Craft := ⟨pg_Craft, hd_Craft, po_Craft, sa_Craft⟩
  m_Craft := PySem.W.mg_of X G hA_Craft
  mk_Craft := ⟨mk_Craft, h_Craft_init, i_Craft_init, kc_Craft⟩
  n_Craft_asked := n_Craft_asked
  n_Craft_frames := n_Craft_frames
  n_Craft_gone := n_Craft_gone
  n_Craft_layings := n_Craft_layings
  n_Craft_room := n_Craft_room
  n_Craft_sent := n_Craft_sent
  n_Craft_window := n_Craft_window
  z_all := PySem.W.mg_none_of X G z_all
  z_bool := PySem.W.mg_none_of X G z_bool
  z_enumerate := PySem.W.mg_none_of X G z_enumerate
  z_int := PySem.W.mg_none_of X G z_int
  z_isinstance := PySem.W.mg_none_of X G z_isinstance
  z_len := PySem.W.mg_none_of X G z_len
  z_list := PySem.W.mg_none_of X G z_list
  z_max := PySem.W.mg_none_of X G z_max
  z_min := PySem.W.mg_none_of X G z_min
  z_range := PySem.W.mg_none_of X G z_range
  z_str := PySem.W.mg_none_of X G z_str
  z_tuple := PySem.W.mg_none_of X G z_tuple
  t_STREAMS := t_STREAMS
  c_STREAMS := PySem.W.mg_of X G c_STREAMS
  t_MOST_NUMBERS := t_MOST_NUMBERS
  c_MOST_NUMBERS := PySem.W.mg_of X G c_MOST_NUMBERS
  t_LEAST_SIZE := t_LEAST_SIZE
  c_LEAST_SIZE := PySem.W.mg_of X G c_LEAST_SIZE
  t_MOST_SIZE := t_MOST_SIZE
  c_MOST_SIZE := PySem.W.mg_of X G c_MOST_SIZE
  t_MOST_ROOM := t_MOST_ROOM
  c_MOST_ROOM := PySem.W.mg_of X G c_MOST_ROOM
  t_MOST_COUNT := t_MOST_COUNT
  c_MOST_COUNT := PySem.W.mg_of X G c_MOST_COUNT
  t_HUNDRED := t_HUNDRED
  c_HUNDRED := PySem.W.mg_of X G c_HUNDRED
theorem all_mk {l : PySem.W.OpenLaw} {w : World} {K : PySem.W.Frag} {h : Heap} {mg : Str → Option Value} {fa : Addr} (X : K.In h) (G : h.Ns mainGlobals mg) (hfa : mg "law" = some (.ref fa)) (T : Tx K mg) :
    ∃ fd : FuncData, (∀ (s : Shared) (v : Value), BindsTo s fd ⟨[v], []⟩ [("_law_script", v)]) ∧ ∀ base : Heap, K.In base → base.Ns mainGlobals mg → FnOk l.prog w K mg base CX0 7 fa fd ["_law_script"] (sp_law K) := by
  have e := hfa.symm.trans T.m_law
  cases e
  obtain ⟨oc, od, kV, doc, pm, an, cdv, ct, osl, efd, lk, hcd⟩ := T.F_law.ex
  exact ⟨T.d_law, fun s v => by rw [efd]; exact .of_eq rfl, fun base _ _ => ok_law T⟩
end K04
open PySem PySem.W PyProof.Rows in
set_option maxRecDepth 100000 in
set_option maxHeartbeats 0 in
theorem PySem.Challenge.cw_skyframes_k04_a_craft_step_by_step_holds : PySem.Challenge.rw_skyframes_k04_a_craft_step_by_step.Holds := by
  w_on; o_law; k_head; (case hw => w_witness2)
  k_fill
  refine L2.walk_of (l := PySem.Challenge.rw_skyframes_k04_a_craft_step_by_step) (n := 63) (k := 7) (x := "_law_script") (CX := fun _ => L2.CX0) (sp := fun w => K04.sp_law _) rfl (by decide) rfl ⟨rfl, by decide, by decide⟩ (fun w h Y => PySem.W.kIn_of Y) ?F (fun _ _ a ns hl _ hS => ⟨a, ns, rfl, hS, hl, fun _ => rfl⟩) (fun _ _ _ _ _ h => h)
  case F =>
    intro w mg fa h KX G hmg
    refine' K04.all_mk KX G hmg (K04.mkTx KX G ?hA_Laying ?hA_Craft ?h_is_number ?l_is_number ?c_is_number ?k_is_number ?h_is_stream ?l_is_stream ?c_is_stream ?k_is_stream ?h_holds_numbers ?l_holds_numbers ?c_holds_numbers ?k_holds_numbers ?h_is_telling ?l_is_telling ?c_is_telling ?k_is_telling ?h_is_mark ?l_is_mark ?c_is_mark ?k_is_mark ?h_check_stream ?l_check_stream ?c_check_stream ?k_check_stream ?h_check_telling ?l_check_telling ?c_check_telling ?k_check_telling ?h_check_size ?l_check_size ?c_check_size ?k_check_size ?h_check_room ?l_check_room ?c_check_room ?k_check_room ?h_check_marks ?l_check_marks ?c_check_marks ?k_check_marks ?h_Laying_init ?i_Laying_init ?l_Laying_init ?c_Laying_init ?k_Laying_init ?h_Laying_lay ?i_Laying_lay ?l_Laying_lay ?c_Laying_lay ?k_Laying_lay ?h_Laying_fill ?i_Laying_fill ?l_Laying_fill ?c_Laying_fill ?k_Laying_fill ?h_Laying_done ?i_Laying_done ?l_Laying_done ?c_Laying_done ?k_Laying_done ?h_Craft_init ?i_Craft_init ?l_Craft_init ?c_Craft_init ?k_Craft_init ?h_Craft_tell ?i_Craft_tell ?l_Craft_tell ?c_Craft_tell ?k_Craft_tell ?h_Craft_close ?i_Craft_close ?l_Craft_close ?c_Craft_close ?k_Craft_close ?h_Craft_begin ?i_Craft_begin ?l_Craft_begin ?c_Craft_begin ?k_Craft_begin ?h_Craft_shut ?i_Craft_shut ?l_Craft_shut ?c_Craft_shut ?k_Craft_shut ?h_Craft_beat ?i_Craft_beat ?l_Craft_beat ?c_Craft_beat ?k_Craft_beat ?h_Craft_known ?i_Craft_known ?l_Craft_known ?c_Craft_known ?k_Craft_known ?h_Craft_again ?i_Craft_again ?l_Craft_again ?c_Craft_again ?k_Craft_again ?h_Craft_kept ?i_Craft_kept ?l_Craft_kept ?c_Craft_kept ?k_Craft_kept ?h_Craft_lost ?i_Craft_lost ?l_Craft_lost ?c_Craft_lost ?k_Craft_lost ?h_Craft_waits ?i_Craft_waits ?l_Craft_waits ?c_Craft_waits ?k_Craft_waits ?h_Craft_next_mark ?i_Craft_next_mark ?l_Craft_next_mark ?c_Craft_next_mark ?k_Craft_next_mark ?h_Craft_keep ?i_Craft_keep ?l_Craft_keep ?c_Craft_keep ?k_Craft_keep ?h_Craft_make_room ?i_Craft_make_room ?l_Craft_make_room ?c_Craft_make_room ?k_Craft_make_room ?h_Craft_let_go ?i_Craft_let_go ?l_Craft_let_go ?c_Craft_let_go ?k_Craft_let_go ?h_law_mix ?l_law_mix ?c_law_mix ?k_law_mix ?h_law_next ?l_law_next ?c_law_next ?k_law_next ?h_law_alike ?l_law_alike ?c_law_alike ?k_law_alike ?h_law_data ?l_law_data ?c_law_data ?k_law_data ?h_law_fresh ?l_law_fresh ?c_law_fresh ?k_law_fresh ?h_law_lay ?l_law_lay ?c_law_lay ?k_law_lay ?h_law_fill ?l_law_fill ?c_law_fill ?k_law_fill ?h_law_many ?l_law_many ?c_law_many ?k_law_many ?h_law_frame ?l_law_frame ?c_law_frame ?k_law_frame ?h_law_craft ?l_law_craft ?c_law_craft ?k_law_craft ?h_law_keeps ?l_law_keeps ?c_law_keeps ?k_law_keeps ?h_law_beat ?l_law_beat ?c_law_beat ?k_law_beat ?h_law_known ?l_law_known ?c_law_known ?k_law_known ?h_law_again ?l_law_again ?c_law_again ?k_law_again ?h_law_marks ?l_law_marks ?c_law_marks ?k_law_marks ?h_law_deed ?l_law_deed ?c_law_deed ?k_law_deed ?h_law ?l_law ?c_law ?k_law ?pg_Laying ?hd_Laying ?po_Laying ?sa_Laying ?mk_Laying ?kc_Laying ?n_Laying_body ?n_Laying_count ?n_Laying_first ?n_Laying_size ?n_Laying_stream ?n_Laying_many ?pg_Craft ?hd_Craft ?po_Craft ?sa_Craft ?mk_Craft ?kc_Craft ?n_Craft_asked ?n_Craft_frames ?n_Craft_gone ?n_Craft_layings ?n_Craft_room ?n_Craft_sent ?n_Craft_window ?z_all ?z_bool ?z_enumerate ?z_int ?z_isinstance ?z_len ?z_list ?z_max ?z_min ?z_range ?z_str ?z_tuple ?c_STREAMS ?c_MOST_NUMBERS ?c_LEAST_SIZE ?c_MOST_SIZE ?c_MOST_ROOM ?c_MOST_COUNT ?c_HUNDRED)
    (case hA_Laying => k_is)
    (case hA_Craft => k_is)
    (case h_is_number => k_is)
    (case l_is_number => k_is)
    (case c_is_number => k_is)
    (case k_is_number => k_is)
    (case h_is_stream => k_is)
    (case l_is_stream => k_is)
    (case c_is_stream => k_is)
    (case k_is_stream => k_is)
    (case h_holds_numbers => k_is)
    (case l_holds_numbers => k_is)
    (case c_holds_numbers => k_is)
    (case k_holds_numbers => k_is)
    (case h_is_telling => k_is)
    (case l_is_telling => k_is)
    (case c_is_telling => k_is)
    (case k_is_telling => k_is)
    (case h_is_mark => k_is)
    (case l_is_mark => k_is)
    (case c_is_mark => k_is)
    (case k_is_mark => k_is)
    (case h_check_stream => k_is)
    (case l_check_stream => k_is)
    (case c_check_stream => k_is)
    (case k_check_stream => k_is)
    (case h_check_telling => k_is)
    (case l_check_telling => k_is)
    (case c_check_telling => k_is)
    (case k_check_telling => k_is)
    (case h_check_size => k_is)
    (case l_check_size => k_is)
    (case c_check_size => k_is)
    (case k_check_size => k_is)
    (case h_check_room => k_is)
    (case l_check_room => k_is)
    (case c_check_room => k_is)
    (case k_check_room => k_is)
    (case h_check_marks => k_is)
    (case l_check_marks => k_is)
    (case c_check_marks => k_is)
    (case k_check_marks => k_is)
    (case h_Laying_init => k_is)
    (case i_Laying_init => k_is)
    (case l_Laying_init => k_is)
    (case c_Laying_init => k_is)
    (case k_Laying_init => k_is)
    (case h_Laying_lay => k_is)
    (case i_Laying_lay => k_is)
    (case l_Laying_lay => k_is)
    (case c_Laying_lay => k_is)
    (case k_Laying_lay => k_is)
    (case h_Laying_fill => k_is)
    (case i_Laying_fill => k_is)
    (case l_Laying_fill => k_is)
    (case c_Laying_fill => k_is)
    (case k_Laying_fill => k_is)
    (case h_Laying_done => k_is)
    (case i_Laying_done => k_is)
    (case l_Laying_done => k_is)
    (case c_Laying_done => k_is)
    (case k_Laying_done => k_is)
    (case h_Craft_init => k_is)
    (case i_Craft_init => k_is)
    (case l_Craft_init => k_is)
    (case c_Craft_init => k_is)
    (case k_Craft_init => k_is)
    (case h_Craft_tell => k_is)
    (case i_Craft_tell => k_is)
    (case l_Craft_tell => k_is)
    (case c_Craft_tell => k_is)
    (case k_Craft_tell => k_is)
    (case h_Craft_close => k_is)
    (case i_Craft_close => k_is)
    (case l_Craft_close => k_is)
    (case c_Craft_close => k_is)
    (case k_Craft_close => k_is)
    (case h_Craft_begin => k_is)
    (case i_Craft_begin => k_is)
    (case l_Craft_begin => k_is)
    (case c_Craft_begin => k_is)
    (case k_Craft_begin => k_is)
    (case h_Craft_shut => k_is)
    (case i_Craft_shut => k_is)
    (case l_Craft_shut => k_is)
    (case c_Craft_shut => k_is)
    (case k_Craft_shut => k_is)
    (case h_Craft_beat => k_is)
    (case i_Craft_beat => k_is)
    (case l_Craft_beat => k_is)
    (case c_Craft_beat => k_is)
    (case k_Craft_beat => k_is)
    (case h_Craft_known => k_is)
    (case i_Craft_known => k_is)
    (case l_Craft_known => k_is)
    (case c_Craft_known => k_is)
    (case k_Craft_known => k_is)
    (case h_Craft_again => k_is)
    (case i_Craft_again => k_is)
    (case l_Craft_again => k_is)
    (case c_Craft_again => k_is)
    (case k_Craft_again => k_is)
    (case h_Craft_kept => k_is)
    (case i_Craft_kept => k_is)
    (case l_Craft_kept => k_is)
    (case c_Craft_kept => k_is)
    (case k_Craft_kept => k_is)
    (case h_Craft_lost => k_is)
    (case i_Craft_lost => k_is)
    (case l_Craft_lost => k_is)
    (case c_Craft_lost => k_is)
    (case k_Craft_lost => k_is)
    (case h_Craft_waits => k_is)
    (case i_Craft_waits => k_is)
    (case l_Craft_waits => k_is)
    (case c_Craft_waits => k_is)
    (case k_Craft_waits => k_is)
    (case h_Craft_next_mark => k_is)
    (case i_Craft_next_mark => k_is)
    (case l_Craft_next_mark => k_is)
    (case c_Craft_next_mark => k_is)
    (case k_Craft_next_mark => k_is)
    (case h_Craft_keep => k_is)
    (case i_Craft_keep => k_is)
    (case l_Craft_keep => k_is)
    (case c_Craft_keep => k_is)
    (case k_Craft_keep => k_is)
    (case h_Craft_make_room => k_is)
    (case i_Craft_make_room => k_is)
    (case l_Craft_make_room => k_is)
    (case c_Craft_make_room => k_is)
    (case k_Craft_make_room => k_is)
    (case h_Craft_let_go => k_is)
    (case i_Craft_let_go => k_is)
    (case l_Craft_let_go => k_is)
    (case c_Craft_let_go => k_is)
    (case k_Craft_let_go => k_is)
    (case h_law_mix => k_is)
    (case l_law_mix => k_is)
    (case c_law_mix => k_is)
    (case k_law_mix => k_is)
    (case h_law_next => k_is)
    (case l_law_next => k_is)
    (case c_law_next => k_is)
    (case k_law_next => k_is)
    (case h_law_alike => k_is)
    (case l_law_alike => k_is)
    (case c_law_alike => k_is)
    (case k_law_alike => k_is)
    (case h_law_data => k_is)
    (case l_law_data => k_is)
    (case c_law_data => k_is)
    (case k_law_data => k_is)
    (case h_law_fresh => k_is)
    (case l_law_fresh => k_is)
    (case c_law_fresh => k_is)
    (case k_law_fresh => k_is)
    (case h_law_lay => k_is)
    (case l_law_lay => k_is)
    (case c_law_lay => k_is)
    (case k_law_lay => k_is)
    (case h_law_fill => k_is)
    (case l_law_fill => k_is)
    (case c_law_fill => k_is)
    (case k_law_fill => k_is)
    (case h_law_many => k_is)
    (case l_law_many => k_is)
    (case c_law_many => k_is)
    (case k_law_many => k_is)
    (case h_law_frame => k_is)
    (case l_law_frame => k_is)
    (case c_law_frame => k_is)
    (case k_law_frame => k_is)
    (case h_law_craft => k_is)
    (case l_law_craft => k_is)
    (case c_law_craft => k_is)
    (case k_law_craft => k_is)
    (case h_law_keeps => k_is)
    (case l_law_keeps => k_is)
    (case c_law_keeps => k_is)
    (case k_law_keeps => k_is)
    (case h_law_beat => k_is)
    (case l_law_beat => k_is)
    (case c_law_beat => k_is)
    (case k_law_beat => k_is)
    (case h_law_known => k_is)
    (case l_law_known => k_is)
    (case c_law_known => k_is)
    (case k_law_known => k_is)
    (case h_law_again => k_is)
    (case l_law_again => k_is)
    (case c_law_again => k_is)
    (case k_law_again => k_is)
    (case h_law_marks => k_is)
    (case l_law_marks => k_is)
    (case c_law_marks => k_is)
    (case k_law_marks => k_is)
    (case h_law_deed => k_is)
    (case l_law_deed => k_is)
    (case c_law_deed => k_is)
    (case k_law_deed => k_is)
    (case h_law => k_is)
    (case l_law => k_is)
    (case c_law => k_is)
    (case k_law => k_is)
    (case pg_Laying => k_is)
    (case hd_Laying => k_is)
    (case po_Laying => k_is)
    (case sa_Laying => k_is)
    (case mk_Laying => k_is)
    (case kc_Laying => k_is)
    (case n_Laying_body => k_is)
    (case n_Laying_count => k_is)
    (case n_Laying_first => k_is)
    (case n_Laying_size => k_is)
    (case n_Laying_stream => k_is)
    (case n_Laying_many => k_is)
    (case pg_Craft => k_is)
    (case hd_Craft => k_is)
    (case po_Craft => k_is)
    (case sa_Craft => k_is)
    (case mk_Craft => k_is)
    (case kc_Craft => k_is)
    (case n_Craft_asked => k_is)
    (case n_Craft_frames => k_is)
    (case n_Craft_gone => k_is)
    (case n_Craft_layings => k_is)
    (case n_Craft_room => k_is)
    (case n_Craft_sent => k_is)
    (case n_Craft_window => k_is)
    (case z_all => k_is)
    (case z_bool => k_is)
    (case z_enumerate => k_is)
    (case z_int => k_is)
    (case z_isinstance => k_is)
    (case z_len => k_is)
    (case z_list => k_is)
    (case z_max => k_is)
    (case z_min => k_is)
    (case z_range => k_is)
    (case z_str => k_is)
    (case z_tuple => k_is)
    (case c_STREAMS => k_is)
    (case c_MOST_NUMBERS => k_is)
    (case c_LEAST_SIZE => k_is)
    (case c_MOST_SIZE => k_is)
    (case c_MOST_ROOM => k_is)
    (case c_MOST_COUNT => k_is)
    (case c_HUNDRED => k_is)
