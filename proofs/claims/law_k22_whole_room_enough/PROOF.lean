import PyProof.Rows.All
import Wide.All
import OpenK.AllK
import Wide.FinOn
import HandS.ForMost
import HandS.IsInst
import HandS.Conv
import HandS.Star
import HandS.Flow
import HandS.Style
import HandS.DictComp
import HandS.SortInts
import HandS.SetKeys
import HandS.Deep
import KE.DataMinMax
import HandS.SortKw
import HandS.SortRule
import KE.GoesEnum
import HandS.TupAny
import HandS.Rev
import KE.KTupSum
import PySem.Challenge.RW_skyframes_k22_whole_room_enough
set_option Elab.async false
set_option linter.all false
set_option maxRecDepth 100000
set_option maxHeartbeats 4000000
/-! Heaps: tuples stay, what is not named stays; data made of tuples; fields by their places. -/
namespace Sky
open PySem PySem.Spec PyProof.Rows L2

/-- all but what stands at M is as it was -/
def Keep (M : List Addr) (H H' : Hp) : Prop := ∀ b o, b ∉ M → H b = some o → H' b = some o
/-- tuples stay -/
def TSm (H H' : Hp) : Prop := ∀ a xs, H a = some (.tup xs) → H' a = some (.tup xs)
theorem Keep.refl (M : List Addr) (H : Hp) : Keep M H H := fun _ _ _ h => h
theorem Keep.trans {M : List Addr} {H H1 H2 : Hp} (a : Keep M H H1) (b : Keep M H1 H2) : Keep M H H2 := fun c o n h => b c o n (a c o n h)
theorem Keep.of_same {M : List Addr} {H H' : Hp} (a : Same H H') : Keep M H H' := fun c o _ h => a c o h
theorem Keep.mono {M N : List Addr} {H H' : Hp} (a : Keep M H H') (h : ∀ m, m ∈ M → m ∈ N) : Keep N H H' := fun c o n q => a c o (fun z => n (h c z)) q
theorem Keep.same {M : List Addr} {S H H' : Hp} (k : Keep M H H') (s : Same S H) (h : ∀ m ∈ M, S m = none) : Same S H' := fun b o e => by
  refine k b o (fun hb => ?_) (s b o e)
  rw [h b hb] at e
  cases e
theorem Keep.nil {H H' : Hp} (k : Keep [] H H') : Same H H' := fun b o e => k b o (by simp) e
theorem keep_upd {M : List Addr} {H H' : Hp} {a : Addr} {o : HO} (k : Keep M H H') (h : a ∈ M) : Keep M H (upd H' a o) := fun b u n e => by
  rw [upd_ne (show b ≠ a from fun z => n (by rw [z]; exact h))]
  exact k b u n e
theorem keep_new {M : List Addr} {H H' : Hp} {a : Addr} {o : HO} (k : Keep M H H') (h : H a = none) : Keep M H (upd H' a o) := fun b u n e => by
  rw [upd_ne (ne_of_none e h)]
  exact k b u n e
/-- a new object, fresh in the heap just ahead of it -/
theorem keep_new' {M : List Addr} {H H' : Hp} {a : Addr} {o : HO} (k : Keep M H H') (h : H' a = none) : Keep M H (upd H' a o) := fun b u n e => by
  rw [upd_ne (ne_of_none (k b u n e) h)]
  exact k b u n e
/-- a changed object that was fresh at the start -/
theorem keep_mut {M : List Addr} {H H' : Hp} {a : Addr} {o : HO} (k : Keep M H H') (h : H a = none) : Keep M H (upd H' a o) := keep_new k h
theorem same_new {H H' : Hp} {a : Addr} {o : HO} (k : Same H H') (h : H' a = none) : Same H (upd H' a o) := fun b u e => by
  rw [upd_ne (ne_of_none (k b u e) h)]
  exact k b u e
theorem same_mut {H H' : Hp} {a : Addr} {o : HO} (k : Same H H') (h : H a = none) : Same H (upd H' a o) := fun b u e => by
  rw [upd_ne (ne_of_none e h)]
  exact k b u e
theorem TSm.refl (H : Hp) : TSm H H := fun _ _ h => h
theorem TSm.trans {H H1 H2 : Hp} (a : TSm H H1) (b : TSm H1 H2) : TSm H H2 := fun c o h => b c o (a c o h)
theorem TSm.of_same {H H' : Hp} (a : Same H H') : TSm H H' := fun c o h => a c _ h
/-- no tuple -/
def NoT (H : Hp) (a : Addr) : Prop := ∀ xs, H a ≠ some (.tup xs)
theorem NoT.none {H : Hp} {a : Addr} (h : H a = none) : NoT H a := fun xs e => by
  rw [h] at e
  cases e
theorem NoT.lst {H : Hp} {a : Addr} {xs : List V} (h : H a = some (.lst xs)) : NoT H a := fun ys e => by
  rw [h] at e
  cases e
theorem NoT.dK {H : Hp} {a : Addr} {xs : List (Key × V)} (h : H a = some (.dK xs)) : NoT H a := fun ys e => by
  rw [h] at e
  cases e
theorem NoT.dT {H : Hp} {a : Addr} {xs : List (List Key × V)} (h : H a = some (.dT xs)) : NoT H a := fun ys e => by
  rw [h] at e
  cases e
theorem NoT.ins {H : Hp} {a C dx : Addr} {fs : List (Str × V)} (h : H a = some (.ins C dx fs)) : NoT H a := fun ys e => by
  rw [h] at e
  cases e
theorem ts_upd {H H' : Hp} {a : Addr} {o : HO} (k : TSm H H') (h : NoT H' a) : TSm H (upd H' a o) := fun b u e => by
  have q := k b u e
  rw [upd_ne (show b ≠ a from fun z => h u (by rw [← z]; exact q))]
  exact q
theorem Keep.ts {M : List Addr} {H H' : Hp} (k : Keep M H H') (h : ∀ m ∈ M, NoT H m) : TSm H H' := fun a xs e => k a _ (fun z => h a z xs e) e
/-- an address that is there is not a new one -/
theorem ne_new {H : Hp} {a b : Addr} {o : HO} (h : H a = some o) (h' : H b = none) : a ≠ b := ne_of_none h h'

/-! ### data made of tuples -/
mutual
inductive TD (H : Hp) : V → PyData → Prop
  | non : TD H .non .none
  | bl (b : Bool) : TD H (.bl b) (.bool b)
  | int (i : Int) : TD H (.int i) (.int i)
  | str (x : Str) : TD H (.str x) (.str x)
  | tup {a : Addr} {xs : List V} {ds : List PyData} : H a = some (.tup xs) → TDs H xs ds → TD H (.ref a) (.tuple ds)
inductive TDs (H : Hp) : List V → List PyData → Prop
  | nil : TDs H [] []
  | cons {v : V} {vs : List V} {d : PyData} {ds : List PyData} : TD H v d → TDs H vs ds → TDs H (v :: vs) (d :: ds)
end
mutual
theorem TD.mono {H H' : Hp} (k : TSm H H') : ∀ {d : PyData} {v : V}, TD H v d → TD H' v d
  | _, _, .non => .non
  | _, _, .bl b => .bl b
  | _, _, .int i => .int i
  | _, _, .str x => .str x
  | _, _, .tup h t => .tup (k _ _ h) (TDs.mono k t)
theorem TDs.mono {H H' : Hp} (k : TSm H H') : ∀ {ds : List PyData} {vs : List V}, TDs H vs ds → TDs H' vs ds
  | _, _, .nil => .nil
  | _, _, .cons h t => .cons (TD.mono k h) (TDs.mono k t)
end
mutual
theorem TD.dp {K : PySem.W.Frag} {H : Hp} : ∀ {d : PyData} {v : V}, TD H v d → Dp K H v d
  | _, _, .non => .non
  | _, _, .bl b => .bl b
  | _, _, .int i => .int i
  | _, _, .str x => .str x
  | _, _, .tup h t => .tup (SqT.of h) (TDs.dp t)
theorem TDs.dp {K : PySem.W.Frag} {H : Hp} : ∀ {ds : List PyData} {vs : List V}, TDs H vs ds → DpAll K H vs ds
  | _, _, .nil => .nil
  | _, _, .cons h t => .cons (TD.dp h) (TDs.dp t)
end
theorem TDs.length {H : Hp} : ∀ {vs : List V} {ds : List PyData}, TDs H vs ds → vs.length = ds.length
  | _, _, .nil => rfl
  | _, _, .cons _ t => by simp [TDs.length t]
theorem TDs.app {H : Hp} : ∀ {vs us : List V} {ds es : List PyData}, TDs H vs ds → TDs H us es → TDs H (vs ++ us) (ds ++ es)
  | _, _, _, _, .nil, s => s
  | _, _, _, _, .cons h t, s => .cons h (TDs.app t s)
theorem TDs.get {H : Hp} : ∀ {vs : List V} {ds : List PyData} {i : Nat} {v : V}, TDs H vs ds → vs[i]? = some v → ∃ d, ds[i]? = some d ∧ TD H v d
  | _, _, _, _, .nil, e => by simp at e
  | _, _, 0, _, .cons h _, e => by simp at e; subst e; exact ⟨_, rfl, h⟩
  | _, _, i + 1, _, .cons _ t, e => by
    obtain ⟨d, h1, h2⟩ := TDs.get (i := i) t (by simpa using e)
    exact ⟨d, by simpa using h1, h2⟩
theorem TDs.getD {H : Hp} : ∀ {vs : List V} {ds : List PyData} {i : Nat} {d : PyData}, TDs H vs ds → ds[i]? = some d → ∃ v, vs[i]? = some v ∧ TD H v d
  | _, _, _, _, .nil, e => by simp at e
  | _, _, 0, _, .cons h _, e => by simp at e; subst e; exact ⟨_, rfl, h⟩
  | _, _, i + 1, _, .cons _ t, e => by
    obtain ⟨d, h1, h2⟩ := TDs.getD (i := i) t (by simpa using e)
    exact ⟨d, by simpa using h1, h2⟩
theorem TDs.ints {H : Hp} : ∀ (ns : List Int), TDs H (ns.map V.int) (ns.map PyData.int)
  | [] => .nil
  | n :: r => .cons (.int n) (TDs.ints r)
theorem TDs.one {H : Hp} {v : V} {d : PyData} (h : TD H v d) : TDs H [v] [d] := .cons h .nil
theorem TDs.of_ints {H : Hp} : ∀ {ns : List Int} {vs : List V}, TDs H vs (ns.map PyData.int) → vs = ns.map V.int
  | [], _, .nil => rfl
  | n :: r, _, .cons h t => by
    cases h
    rw [TDs.of_ints t]
    rfl
/-- an int's | None's data -/
def optD : Option Nat → PyData
  | none => .none
  | some n => .int n
def optV : Option Nat → V
  | none => .non
  | some n => .int n
theorem TD.opt {H : Hp} : ∀ o : Option Nat, TD H (optV o) (optD o)
  | none => .non
  | some n => .int n
/-- a telling's data -/
abbrev tlD (t : List Int) : PyData := .tuple (t.map PyData.int)
theorem TD.tl {H : Hp} {a : Addr} {t : List Int} (h : H a = some (.tup (t.map V.int))) : TD H (.ref a) (tlD t) := .tup h (TDs.ints t)
theorem TD.of_tl {H : Hp} {v : V} {t : List Int} (h : TD H v (tlD t)) : ∃ a, v = .ref a ∧ H a = some (.tup (t.map V.int)) := by
  cases h with
  | tup h t =>
    have e := TDs.of_ints t
    subst e
    exact ⟨_, rfl, h⟩

mutual
theorem dp_same {K : PySem.W.Frag} {H H' : Hp} (k : Same H H') : ∀ {d : PyData} {v : V}, Dp K H v d → Dp K H' v d
  | _, _, .non => .non
  | _, _, .bl b => .bl b
  | _, _, .int i => .int i
  | _, _, .str x => .str x
  | _, _, .lst h t => .lst (k.seq h) (dps_same k t)
  | _, _, .tup h t => .tup (by
      rcases h with (h | ⟨o, h⟩) | h
      · exact .inl (.inl (k _ _ h))
      · exact .inl (.inr ⟨o, k _ _ h⟩)
      · exact .inr h) (dps_same k t)
theorem dps_same {K : PySem.W.Frag} {H H' : Hp} (k : Same H H') : ∀ {ds : List PyData} {vs : List V}, DpAll K H vs ds → DpAll K H' vs ds
  | _, _, .nil => .nil
  | _, _, .cons h t => .cons (dp_same k h) (dps_same k t)
end
theorem DpAll.len {K : PySem.W.Frag} {H : Hp} : ∀ {vs : List V} {ds : List PyData}, DpAll K H vs ds → vs.length = ds.length
  | _, _, .nil => rfl
  | _, _, .cons _ t => by simp [DpAll.len t]
theorem DpAll.at {K : PySem.W.Frag} {H : Hp} : ∀ {vs : List V} {ds : List PyData} {i : Nat} {d : PyData}, DpAll K H vs ds → ds[i]? = some d → ∃ v, vs[i]? = some v ∧ Dp K H v d
  | _, _, _, _, .nil, e => by simp at e
  | _, _, 0, _, .cons h _, e => by simp at e; subst e; exact ⟨_, rfl, h⟩
  | _, _, i + 1, _, .cons _ t, e => by
    obtain ⟨v, h1, h2⟩ := DpAll.at (i := i) t (by simpa using e)
    exact ⟨v, by simpa using h1, h2⟩
/-- a value's type by its data -/
def tyN : PyData → String
  | .none => "NoneType"
  | .bool _ => "bool"
  | .int _ => "int"
  | .str _ => "str"
  | .list _ => "list"
  | .tuple _ => "tuple"
  | .dict _ => "dict"
theorem dp_ty {K : PySem.W.Frag} {H : Hp} {v : V} {d : PyData} (h : Dp K H v d) : TyX K H v (.type (tyN d)) := by
  cases h with
  | non => exact .base .non
  | bl b => exact .base (.bl b)
  | int i => exact .base (.int i)
  | str x => exact .base (.str x)
  | lst h t =>
    rcases h with (h | ⟨o, h⟩) | ⟨o, its, n, hk, hc, _⟩
    · exact .base (.lst h)
    · exact .base (.frz h)
    · exact .kList hk hc
  | tup h t =>
    rcases h with (h | ⟨o, h⟩) | ⟨o, its, n, hk, hc, _⟩
    · exact .base (.tup h)
    · exact .fTuple h
    · exact .kTuple hk hc
/-- data of so many levels, no level too long -/
def DOk : Nat → PyData → Prop
  | 0, d => (d = .none ∨ (∃ i, d = .int i) ∨ (∃ b, d = .bool b) ∨ ∃ x, d = .str x)
  | n + 1, d => (d = .none ∨ (∃ i, d = .int i) ∨ (∃ b, d = .bool b) ∨ ∃ x, d = .str x) ∨ ∃ ds : List PyData, (d = .list ds ∨ d = .tuple ds) ∧ ds.length ≤ 10000000 ∧ ∀ e ∈ ds, DOk n e
theorem DOk.sc {n : Nat} {d : PyData} (h : d = .none ∨ (∃ i, d = .int i) ∨ (∃ b, d = .bool b) ∨ ∃ x, d = .str x) : DOk n d := by
  cases n with
  | zero => exact h
  | succ n => exact .inl h
theorem DOk.int {n : Nat} (i : Int) : DOk n (.int i) := .sc (.inr (.inl ⟨i, rfl⟩))
theorem DOk.none {n : Nat} : DOk n .none := .sc (.inl rfl)
theorem DOk.tuple {n : Nat} {ds : List PyData} (l : ds.length ≤ 10000000) (h : ∀ e ∈ ds, DOk n e) : DOk (n + 1) (.tuple ds) := .inr ⟨ds, .inr rfl, l, h⟩
theorem DOk.list {n : Nat} {ds : List PyData} (l : ds.length ≤ 10000000) (h : ∀ e ∈ ds, DOk n e) : DOk (n + 1) (.list ds) := .inr ⟨ds, .inl rfl, l, h⟩
theorem DOk.opt {n : Nat} (o : Option Nat) : DOk n (optD o) := by
  cases o with
  | none => exact DOk.none
  | some x => exact DOk.int _
theorem DOk.tl {n : Nat} {t : List Int} (l : t.length ≤ 10000000) : DOk (n + 1) (tlD t) := DOk.tuple (by rw [List.length_map]; exact l) fun e he => by
  obtain ⟨x, _, rfl⟩ := List.mem_map.mp he
  exact DOk.int x
theorem kit2F {K : PySem.W.Frag} {a b c : String} (h1 : kitB a b = some false) (h2 : kitB a c = some false) : PySem.W.kitAny K (.type a) [.type b, .type c] = some false :=
  kitAny_cons (kit_ty h1) (fun _ => kitAny_cons (kit_ty h2) (fun _ => kitAny_nil) (fun z => nomatch z)) (fun z => nomatch z)
theorem kit2T {K : PySem.W.Frag} {a b c : String} (h1 : kitB a b = some true) : PySem.W.kitAny K (.type a) [.type b, .type c] = some true :=
  kitAny_cons (kit_ty h1) (fun z => nomatch z) (fun _ => rfl)
theorem kit2T' {K : PySem.W.Frag} {a b c : String} (h1 : kitB a b = some false) (h2 : kitB a c = some true) : PySem.W.kitAny K (.type a) [.type b, .type c] = some true :=
  kitAny_cons (kit_ty h1) (fun _ => kitAny_cons (kit_ty h2) (fun z => nomatch z) (fun _ => rfl)) (fun _ => rfl)

/-! ### fields by their places -/
theorem lookup_zip : ∀ (ks : List Str) (vs : List V) (i : Nat) (f : Str), ks.Nodup → ks.length = vs.length → ks[i]? = some f → (ks.zip vs).lookup f = vs[i]?
  | [], _, _, _, _, _, h => by simp at h
  | k :: ks, [], _, _, _, h, _ => by simp at h
  | k :: ks, v :: vs, 0, f, _, _, h => by
    simp at h
    subst h
    simp [List.lookup]
  | k :: ks, v :: vs, i + 1, f, nd, l, h => by
    have nd' := List.nodup_cons.mp nd
    have hm : f ∈ ks := List.mem_of_getElem? (by simpa using h)
    have ne : (f == k) = false := by
      rw [beq_eq_false_iff_ne]
      intro e
      exact nd'.1 (e ▸ hm)
    show List.lookup f ((k, v) :: ks.zip vs) = _
    rw [List.lookup_cons, ne]
    simpa using lookup_zip ks vs i f nd'.2 (by simpa using l) (by simpa using h)
theorem lookup_zip_none : ∀ (ks : List Str) (vs : List V) (f : Str), f ∉ ks → (ks.zip vs).lookup f = none
  | [], _, _, _ => by simp
  | k :: ks, [], _, _ => by simp
  | k :: ks, v :: vs, f, h => by
    have ne : (f == k) = false := by
      rw [beq_eq_false_iff_ne]
      intro e
      exact h (e ▸ List.mem_cons_self ..)
    show List.lookup f ((k, v) :: ks.zip vs) = _
    rw [List.lookup_cons, ne]
    exact lookup_zip_none ks vs f fun z => h (List.mem_cons_of_mem _ z)
theorem putF_zip : ∀ (ks : List Str) (vs : List V) (i : Nat) (f : Str) (x : V), ks.Nodup → ks.length = vs.length → ks[i]? = some f → putF f x (ks.zip vs) = ks.zip (vs.set i x)
  | [], _, _, _, _, _, _, h => by simp at h
  | k :: ks, [], _, _, _, _, h, _ => by simp at h
  | k :: ks, v :: vs, 0, f, x, _, _, h => by
    simp at h
    subst h
    show (if k = k then (k, x) :: ks.zip vs else _) = _
    rw [if_pos rfl]
    rfl
  | k :: ks, v :: vs, i + 1, f, x, nd, l, h => by
    have nd' := List.nodup_cons.mp nd
    have hm : f ∈ ks := List.mem_of_getElem? (by simpa using h)
    have ne : ¬ k = f := fun e => nd'.1 (e ▸ hm)
    show (if k = f then (k, x) :: ks.zip vs else (k, v) :: putF f x (ks.zip vs)) = _
    rw [if_neg ne, putF_zip ks vs i f x nd'.2 (by simpa using l) (by simpa using h)]
    rfl
theorem putF_zip_new : ∀ (ks : List Str) (vs : List V) (f : Str) (x : V), ks.length = vs.length → f ∉ ks → putF f x (ks.zip vs) = (ks ++ [f]).zip (vs ++ [x])
  | [], [], f, x, _, _ => rfl
  | [], v :: vs, _, _, h, _ => by simp at h
  | k :: ks, [], _, _, h, _ => by simp at h
  | k :: ks, v :: vs, f, x, l, h => by
    have ne : ¬ k = f := fun e => h (e ▸ List.mem_cons_self ..)
    show (if k = f then (k, x) :: ks.zip vs else (k, v) :: putF f x (ks.zip vs)) = _
    rw [if_neg ne, putF_zip_new ks vs f x (by simpa using l) fun z => h (List.mem_cons_of_mem _ z)]
    rfl
theorem putF_take {ks : List Str} {vs : List V} {i : Nat} {f : Str} {x : V} (nd : ks.Nodup) (h : ks[i]? = some f) (l : vs.length = i) : putF f x ((ks.take i).zip vs) = (ks.take (i + 1)).zip (vs ++ [x]) := by
  have hi : i < ks.length := (List.getElem?_eq_some_iff.mp h).1
  rw [List.take_add_one, h]
  refine putF_zip_new (ks.take i) vs f x ?_ ?_
  · rw [List.length_take, l]
    omega
  · intro hm
    obtain ⟨j, hj, e⟩ := List.mem_take_iff_getElem.mp hm
    have h1 : ks[j]? = some f := by
      rw [List.getElem?_eq_getElem (by omega), e]
    have := nodup_ix nd h1 h
    omega
theorem Keep.join {M N : List Addr} {H0 Hb H : Hp} (a : Keep M H0 Hb) (b : Keep N Hb H) (h : ∀ n ∈ N, n ∈ M ∨ H0 n = none) : Keep M H0 H := fun c o n e => by
  refine b c o (fun hc => ?_) (a c o n e)
  rcases h c hc with q | q
  · exact n q
  · rw [q] at e
    cases e
theorem fresh_of {M : List Addr} {H H1 : Hp} {b : Addr} (k : Keep M H H1) (h : ∀ m ∈ M, ∃ o, H1 m = some o) (n : H1 b = none) : H b = none := by
  cases e : H b with
  | none => rfl
  | some o =>
    by_cases e1 : b ∈ M
    · obtain ⟨u, hu⟩ := h b e1
      rw [hu] at n
      cases n
    · rw [k _ _ e1 e] at n
      cases n
/-- what was there is there -/
def Dom (H H' : Hp) : Prop := ∀ b, H' b = none → H b = none
theorem Dom.refl (H : Hp) : Dom H H := fun _ h => h
theorem Dom.trans {H H1 H2 : Hp} (a : Dom H H1) (b : Dom H1 H2) : Dom H H2 := fun c h => a c (b c h)
theorem dom_upd (H : Hp) (a : Addr) (o : HO) : Dom H (upd H a o) := fun b h => by
  by_cases e : b = a
  · rw [e, upd_same] at h
    cases h
  · rw [upd_ne e] at h
    exact h
theorem Dom.upd {H H' : Hp} (k : Dom H H') (a : Addr) (o : HO) : Dom H (L2.upd H' a o) := k.trans (dom_upd _ _ _)
theorem Dom.of_keep {M : List Addr} {H H1 : Hp} (k : Keep M H H1) (h : ∀ m ∈ M, ∃ o, H1 m = some o) : Dom H H1 := fun _ n => fresh_of k h n
theorem Dom.of_same {H H1 : Hp} (k : Same H H1) : Dom H H1 := fun _ n => k.free n
/-- a plain if without an else, its rest once -/
theorem if_skip {c : Prop} [Decidable c] {t : L2.TS} {D : Ends} {σ : L2.St} {H : Hp} (Cd : Hp → Prop) (rest : ∀ H1, Cd H1 → D.nx σ H1) (h1 : c → (∀ H1, Cd H1 → D.nx σ H1) → t D σ H) (h2 : ¬ c → Cd H) :
    if c then t D σ H else tNext D σ H := by
  by_cases hc : c
  · rw [if_pos hc]
    exact h1 hc rest
  · rw [if_neg hc]
    exact rest H (h2 hc)
/-- a if c else b, its rest once -/
theorem ife_skip {c : Prop} [Decidable c] {ta tb : TE} {σ : L2.St} {H : Hp} {Q : VK} (R : V → Hp → Prop) (rest : ∀ v H1, R v H1 → Q v H1) (h1 : c → (∀ v H1, R v H1 → Q v H1) → ta σ H Q) (h2 : ¬ c → (∀ v H1, R v H1 → Q v H1) → tb σ H Q) :
    if c then ta σ H Q else tb σ H Q := by
  by_cases hc : c
  · rw [if_pos hc]
    exact h1 hc rest
  · rw [if_neg hc]
    exact h2 hc rest
theorem zip_len (ks : List Str) (vs : List V) : (ks.zip vs).length ≤ ks.length := by
  rw [List.length_zip]
  exact Nat.min_le_left _ _
theorem canLayAll_of {α : Type} {f : α → PyData} : ∀ {xs : List α}, (∀ x ∈ xs, (f x).canLay0 = true) → PyData.canLayAll0 (xs.map f) = true
  | [], _ => by simp [PyData.canLayAll0]
  | x :: r, h => by
    simp only [List.map_cons, PyData.canLayAll0, Bool.and_eq_true]
    exact ⟨h x (List.mem_cons_self ..), canLayAll_of fun y hy => h y (List.mem_cons_of_mem _ hy)⟩
theorem depthAll_of {α : Type} {f : α → PyData} {k : Nat} : ∀ {xs : List α}, (∀ x ∈ xs, (f x).depth ≤ k) → PyData.depthAll (xs.map f) ≤ k
  | [], _ => by simp [PyData.depthAll]
  | x :: r, h => by
    simp only [List.map_cons, PyData.depthAll]
    exact Nat.max_le.mpr ⟨h x (List.mem_cons_self ..), depthAll_of fun y hy => h y (List.mem_cons_of_mem _ hy)⟩
/-- data that can be compared: how deep -/
def Lay (k : Nat) (d : PyData) : Prop := d.canLay0 = true ∧ d.depth ≤ k
theorem Lay.shaped {k : Nat} {d : PyData} (h : Lay k d) (hk : k ≤ 64) : SeqAt.shaped d = true := by
  unfold SeqAt.shaped
  rw [Bool.and_eq_true]
  exact ⟨h.1, decide_eq_true (Nat.le_trans h.2 hk)⟩
theorem Lay.mono {j k : Nat} {d : PyData} (h : Lay j d) (hk : j ≤ k) : Lay k d := ⟨h.1, Nat.le_trans h.2 hk⟩
theorem Lay.int (i : Int) : Lay 0 (.int i) := ⟨by simp [PyData.canLay0], by simp [PyData.depth]⟩
theorem Lay.none : Lay 0 .none := ⟨by simp [PyData.canLay0], by simp [PyData.depth]⟩
theorem Lay.bool (b : Bool) : Lay 0 (.bool b) := ⟨by simp [PyData.canLay0], by simp [PyData.depth]⟩
theorem Lay.list {α : Type} {f : α → PyData} {k : Nat} {xs : List α} (h : ∀ x ∈ xs, Lay k (f x)) : Lay (k + 1) (.list (xs.map f)) := by
  refine ⟨?_, ?_⟩
  · rw [PyData.canLay0]
    exact canLayAll_of fun x hx => (h x hx).1
  · rw [PyData.depth]
    exact Nat.succ_le_succ (depthAll_of fun x hx => (h x hx).2)
theorem Lay.tuple {α : Type} {f : α → PyData} {k : Nat} {xs : List α} (h : ∀ x ∈ xs, Lay k (f x)) : Lay (k + 1) (.tuple (xs.map f)) := by
  refine ⟨?_, ?_⟩
  · rw [PyData.canLay0]
    exact canLayAll_of fun x hx => (h x hx).1
  · rw [PyData.depth]
    exact Nat.succ_le_succ (depthAll_of fun x hx => (h x hx).2)
theorem Lay.nil : Lay 1 (.list []) := Lay.list (f := PyData.int) (xs := []) (k := 0) (by simp)
theorem Lay.tl (t : List Int) : Lay 1 (tlD t) := Lay.tuple fun x _ => Lay.int x
theorem Lay.refl {k : Nat} {d : PyData} (h : Lay k d) : PyData.eqv d d = true := SeqAt.eqv_refl d h.1
theorem eqv_nil (ds : List PyData) : PyData.eqv (.list ds) (.list []) = ds.isEmpty := by
  cases ds with
  | nil => simp [PyData.eqv, PyData.eqvAll]
  | cons x r => simp [PyData.eqv, PyData.eqvAll]
theorem dpAll_ints {K : PySem.W.Frag} {H : Hp} (ns : List Int) : DpAll K H (ns.map V.int) (ns.map PyData.int) := (TDs.ints ns).dp
theorem fmod_nat (a b : Nat) : ((a : Nat) : Int).fmod ((b : Nat) : Int) = ((a % b : Nat) : Int) := by
  rw [Int.fmod_eq_emod_of_nonneg _ (by omega)]
  rfl
theorem fdiv_nat (a b : Nat) : ((a : Nat) : Int).fdiv ((b : Nat) : Int) = ((a / b : Nat) : Int) := by
  rw [Int.fdiv_eq_ediv_of_nonneg _ (by omega)]
  rfl
theorem cut_nat {xs : List V} {a b : Nat} (ha : a ≤ xs.length) (hb : b ≤ xs.length) : cutV xs (some ((a : Nat) : Int)) (some ((b : Nat) : Int)) = (xs.drop a).take (b - a) := by
  unfold cutV
  rw [HT.sIx_nat, HT.sIx_nat, Nat.min_eq_left ha, Nat.min_eq_left hb]
/-! ### rules within a comprehension: the written part is told -/
section
variable {X : Cx} {K : PySem.W.Frag}
theorem ix_listK (h : X.K = K) : IxR X (rIxL K) := h ▸ ix_list
theorem ix_tupK (h : X.K = K) : IxR X (rIxT K) := h ▸ ix_tup
theorem ix_seqK (h : X.K = K) : IxR X (rIx K) := h ▸ ix_seq
def rLenSq (K : PySem.W.Frag) : List V → Hp → VK → Prop := fun xs H Q => ∃ p ys, xs = [.ref p] ∧ (SqL K H p ys ∨ SqT K H p ys) ∧ Q (.int ys.length) H
theorem call_lenK (h : X.K = K) : CallR X (.builtin "len") (rLenSq K) := h ▸ call_len_seq
theorem op_eqDK (h : X.K = K) (hu : X.A.units + 64 < cLine) : OpR X (compareOp .Eq) (rEqD K) := h ▸ op_eqD hu
theorem op_neDK (h : X.K = K) (hu : X.A.units + 64 < cLine) : OpR X (compareOp .NotEq) (rNeD K) := h ▸ op_neD hu
theorem op_in_seqK (h : X.K = K) : OpR X (compareOp .In) (rIn K false) := h ▸ op_in_seq
theorem op_notIn_seqK (h : X.K = K) : OpR X (compareOp .NotIn) (rIn K true) := h ▸ op_notIn_seq
theorem sl_listK (h : X.K = K) : SlR X (rSlL K) := h ▸ sl_list
theorem sl_tupK (h : X.K = K) : SlR X (rSlT K) := h ▸ sl_tup
theorem call_isiK' (h : X.K = K) : CallR X (.builtin "isinstance") (rIsi K) := h ▸ call_isi
theorem pe_fldK {e : Expr} {f : Str} {pos : Pos} {ta : TE} (h : X.K = K) (he : PE X e ta) (hb : attributeBase e f X.env (eval e X.env) = eval e X.env) : PE X (.Attribute e f pos) (tFld K ta f) := h ▸ pe_fld he hb
theorem pe_bmK {o e : Expr} {es : List Expr} {to : TE} {t : TA} {name : Str} {apos cpos : Pos} {T id : String} {r : V → List V → Hp → VK → Prop} (hK : X.K = K)
    (pa : PlainAttrs T) (sl : Slot T name id) (ty : typeOf (.builtin id) = pure (.type "method_descriptor")) (m : MtR X id r) (po : PE X o to) (args : PA X (e :: es) t)
    (h1 : attributeBase o name X.env (eval o X.env) = eval o X.env := by rfl)
    (h2 : ((backTo cpos (starEach (e :: es) X.env)).all (fun x => !x.1) && (backToKw cpos (keywordEach [] X.env)).all (fun x => x.1.isSome) && decide ((e :: es).length + ([] : List Keyword).length + (if ([] : List Keyword).isEmpty then 0 else 1) < 30)) = true := by rfl)
    (h3 : (apos.endLine == cpos.line) = true := by rfl)
    (h4 : starEach (e :: es) X.env = (false, eval e X.env) :: starEach es X.env := by rfl)
    (h5 : (backTo cpos (starEach es X.env)).any (·.1) = false := by rfl) :
    PE X (.Call (.Attribute o name apos) (e :: es) [] cpos) (tBM K T r to t) := hK ▸ pe_bm pa sl ty m po args h1 h2 h3 h4 h5
theorem pg_tupK {es : List Expr} {k : Nat} {pos : Pos} {t : TGs} {n : Nat} (hK : X.K = K) (hc : X.calm = true) (h : PGs X es t) (hn : (assignEach es X.env).length = n := by rfl) (hst : (assignEach es X.env).findIdx? (·.1) = none := by rfl) :
    PG X (.Tuple es k pos) (gTup K n t) := hK ▸ pg_tup hc h hn hst
end
theorem le_line {n : Nat} (h : n ≤ 16000000) : n ≤ sizeLine := Nat.le_trans h (by decide)
theorem lt_line {n : Nat} (h : n < 16000000) : n < sizeLine := Nat.lt_of_lt_of_le h (by decide)
theorem bl_of {c : Prop} [Decidable c] {Q : V → Hp → Prop} {H : Hp} (hc : c) (h : Q (.bl true) H) : Q (.bl (decide c)) H := by
  rw [decide_eq_true hc]
  exact h
theorem dT {c : Prop} [Decidable c] (h : c) : V.bl (decide c) = V.bl true := by rw [decide_eq_true h]
theorem dF {c : Prop} [Decidable c] (h : ¬ c) : V.bl (decide c) = V.bl false := by rw [decide_eq_false h]
theorem ndT {c : Prop} [Decidable c] (h : ¬ c) : V.bl (!decide c) = V.bl true := by rw [decide_eq_false h]; rfl
theorem ndF {c : Prop} [Decidable c] (h : c) : V.bl (!decide c) = V.bl false := by rw [decide_eq_true h]; rfl
theorem map_get {α β : Type} {f : α → β} {xs : List α} {i : Nat} {y : β} (h : (xs.map f)[i]? = some y) : ∃ x, xs[i]? = some x ∧ y = f x := by
  rw [List.getElem?_map] at h
  cases e : xs[i]? with
  | none => rw [e] at h; cases h
  | some x => rw [e] at h; exact ⟨x, rfl, (Option.some.inj h).symm⟩
end Sky

/-! Tellings laid into frames: the numbers, the frames of them. -/
namespace Sky
open PySem PySem.Spec PyProof.Rows L2
def tellOk (t : List Int) : Prop := 1 ≤ t.length ∧ t.length ≤ 20 ∧ ∀ x ∈ t, 0 ≤ x ∧ x ≤ 255
/-- a frame: count, first, body -/
abbrev Frm := Nat × Option Nat × List Int
def inFr (z c s : Nat) : Bool := decide (c * z ≤ s) && decide (s < c * z + z)
def firstOf (z c : Nat) (S : List Nat) : Option Nat := ((S.filter (inFr z c)).map (· - c * z)).head?
def frm (z : Nat) (N : List Int) (S : List Nat) (c : Nat) : Frm := (c, firstOf z c S, (N.drop (c * z)).take z)
def frms (z : Nat) (N : List Int) (S : List Nat) : List Frm := (List.range (N.length / z)).map (frm z N S)
def frmD (st : Int) (f : Frm) : PyData := .tuple [.int st, .int f.1, optD f.2.1, tlD f.2.2]
def laidN (m : Int) (t : List Int) : List Int := (t.length : Int) :: m.fdiv 256 :: m.fmod 256 :: t
def lay1 (x : List Int × List Nat) (t : List Int) : List Int × List Nat := (x.1 ++ laidN (x.2.length : Int) t, x.2 ++ [x.1.length])
def layAll (ts : List (List Int)) : List Int × List Nat := ts.foldl lay1 ([], [])
def padN (z : Nat) (N : List Int) : List Int := if N.length % z = 0 then N else N ++ List.replicate (z - N.length % z) 0
theorem laidN_length (m : Int) (t : List Int) : (laidN m t).length = t.length + 3 := by simp [laidN]
theorem layAll_snoc (ts : List (List Int)) (t : List Int) : layAll (ts ++ [t]) = lay1 (layAll ts) t := by
  unfold layAll
  rw [List.foldl_append]
  rfl
theorem layAll_take {ts : List (List Int)} {i : Nat} {t : List Int} (h : ts[i]? = some t) : layAll (ts.take (i + 1)) = lay1 (layAll (ts.take i)) t := by
  rw [List.take_add_one, h]
  exact layAll_snoc _ _
/-- what holds of the numbers and the starts of such -/
structure Laid (N : List Int) (S : List Nat) : Prop where
  le : ∀ s ∈ S, s ≤ N.length
  asc : S.Pairwise (· ≤ ·)
theorem Laid.nil : Laid [] [] := ⟨by simp, by simp⟩
theorem Laid.start {N : List Int} {S : List Nat} (h : Laid N S) : Laid N (S ++ [N.length]) := by
  refine ⟨fun s hs => ?_, ?_⟩
  · rcases List.mem_append.mp hs with q | q
    · exact h.le s q
    · rw [List.mem_singleton.mp q]
      exact Nat.le_refl _
  · rw [List.pairwise_append]
    refine ⟨h.asc, by simp, fun a ha b hb => ?_⟩
    rw [List.mem_singleton.mp hb]
    exact h.le a ha
theorem Laid.more {N : List Int} {S : List Nat} (h : Laid N S) (xs : List Int) : Laid (N ++ xs) S := ⟨fun s hs => by
  rw [List.length_append]
  exact Nat.le_trans (h.le s hs) (Nat.le_add_right _ _), h.asc⟩
theorem Laid.lay1 {x : List Int × List Nat} (h : Laid x.1 x.2) (t : List Int) : Laid (lay1 x t).1 (lay1 x t).2 := (h.start).more _
theorem laid_all : ∀ ts : List (List Int), Laid (layAll ts).1 (layAll ts).2 := fun ts => by
  unfold layAll
  suffices h : ∀ (ts : List (List Int)) (x : List Int × List Nat), Laid x.1 x.2 → Laid (ts.foldl Sky.lay1 x).1 (ts.foldl Sky.lay1 x).2 from h ts _ Laid.nil
  intro ts
  induction ts with
  | nil => exact fun x h => h
  | cons t r ih => exact fun x h => ih _ (h.lay1 t)
theorem firstOf_app (z c : Nat) (S : List Nat) (n : Nat) : firstOf z c (S ++ [n]) = (firstOf z c S).or (if inFr z c n = true then some (n - c * z) else none) := by
  unfold firstOf
  rw [List.filter_append, List.map_append, List.head?_append]
  congr 1
  by_cases h : inFr z c n = true
  · rw [if_pos h, List.filter_cons_of_pos h]
    rfl
  · rw [if_neg h, List.filter_cons_of_neg h]
    rfl
theorem firstOf_none {z c : Nat} {S : List Nat} (h : ∀ s ∈ S, s < c * z) : firstOf z c S = none := by
  unfold firstOf
  have e : S.filter (inFr z c) = [] := by
    rw [List.filter_eq_nil_iff]
    intro s hs
    have := h s hs
    unfold inFr
    simp
    omega
  rw [e]
  rfl
theorem div_eq {z n c : Nat} (h1 : c * z ≤ n) (h2 : n < c * z + z) : n / z = c := by
  apply Nat.div_eq_of_lt_le h1
  rw [Nat.succ_mul]
  exact h2
theorem div_lo (z n : Nat) : n / z * z ≤ n := Nat.div_mul_le_self n z
theorem div_hi {z : Nat} (hz : 0 < z) (n : Nat) : n < n / z * z + z := by
  have := Nat.lt_div_mul_add hz (a := n)
  omega
theorem div_mod (z n : Nat) : n / z * z + n % z = n := by
  have := Nat.div_add_mod n z
  rw [Nat.mul_comm] at this
  exact this
/-- the frames that are full depend neither on later numbers nor on later starts -/
theorem frm_more {z c : Nat} {N xs : List Int} {S : List Nat} (h : c * z + z ≤ N.length) : frm z (N ++ xs) S c = frm z N S c := by
  unfold frm
  rw [List.drop_append_of_le_length (by omega), List.take_append_of_le_length (by rw [List.length_drop]; omega)]
theorem frm_start {z c : Nat} {N : List Int} {S : List Nat} {n : Nat} (h : c * z + z ≤ n) : frm z N (S ++ [n]) c = frm z N S c := by
  unfold frm
  rw [firstOf_app, if_neg, Option.or_none]
  unfold inFr
  simp
  omega
theorem frms_start (z : Nat) (N : List Int) (S : List Nat) : frms z N (S ++ [N.length]) = frms z N S := by
  unfold frms
  refine List.map_congr_left fun c hc => ?_
  have h1 : c < N.length / z := List.mem_range.mp hc
  refine frm_start ?_
  have := Nat.mul_le_mul_right z (show c + 1 ≤ N.length / z from h1)
  rw [Nat.succ_mul] at this
  have := div_lo z N.length
  omega
theorem frms_low {z : Nat} {N xs : List Int} {S : List Nat} : (List.range (N.length / z)).map (frm z (N ++ xs) S) = frms z N S := by
  unfold frms
  refine List.map_congr_left fun c hc => frm_more ?_
  have h1 : c < N.length / z := List.mem_range.mp hc
  have := Nat.mul_le_mul_right z (show c + 1 ≤ N.length / z from h1)
  rw [Nat.succ_mul] at this
  have := div_lo z N.length
  omega
theorem frms_same {z : Nat} (hz : 0 < z) {N xs : List Int} {S : List Nat} (h : N.length + xs.length < N.length / z * z + z) : frms z (N ++ xs) S = frms z N S := by
  have e : (N ++ xs).length / z = N.length / z := by
    rw [List.length_append]
    refine div_eq ?_ h
    have := div_lo z N.length
    omega
  unfold frms
  rw [e]
  exact frms_low
/-- some numbers that just fill the frame -/
theorem frms_full {z : Nat} (hz : 0 < z) {N xs : List Int} {S : List Nat} (h : N.length + xs.length = N.length / z * z + z) :
    frms z (N ++ xs) S = frms z N S ++ [(N.length / z, firstOf z (N.length / z) S, N.drop (N.length / z * z) ++ xs)] := by
  have e : (N ++ xs).length / z = N.length / z + 1 := by
    rw [List.length_append, h]
    refine div_eq ?_ ?_ <;> rw [Nat.succ_mul] <;> omega
  have := div_lo z N.length
  show (List.range ((N ++ xs).length / z)).map (frm z (N ++ xs) S) = _
  rw [e, List.range_succ, List.map_append, frms_low]
  congr 1
  show [frm z (N ++ xs) S (N.length / z)] = _
  unfold frm
  rw [List.drop_append_of_le_length this, List.take_of_length_le]
  rw [List.length_append, List.length_drop]
  omega
theorem frms_pad {z : Nat} (hz : 0 < z) {N : List Int} {S : List Nat} (h : N.length % z ≠ 0) :
    frms z (padN z N) S = frms z N S ++ [(N.length / z, firstOf z (N.length / z) S, N.drop (N.length / z * z) ++ List.replicate (z - N.length % z) 0)] := by
  unfold padN
  rw [if_neg h]
  refine frms_full hz ?_
  rw [List.length_replicate]
  have := div_mod z N.length
  have := Nat.mod_lt N.length hz
  omega
theorem frms_pad0 {z : Nat} {N : List Int} {S : List Nat} (h : N.length % z = 0) : frms z (padN z N) S = frms z N S := by
  unfold padN
  rw [if_pos h]
theorem body_length (z : Nat) (N : List Int) : (N.drop (N.length / z * z)).length = N.length % z := by
  rw [List.length_drop]
  have := div_mod z N.length
  omega
theorem step_full {z : Nat} (hz : 0 < z) {N : List Int} {x : Int} (h : N.length % z + 1 = z) :
    N.length + 1 = N.length / z * z + z ∧ (N ++ [x]).length / z = N.length / z + 1 ∧ (N ++ [x]).drop ((N.length / z + 1) * z) = [] := by
  have h1 := div_mod z N.length
  have h2 : N.length + 1 = N.length / z * z + z := by omega
  refine ⟨h2, ?_, ?_⟩
  · rw [List.length_append, List.length_singleton, h2]
    refine div_eq ?_ ?_ <;> rw [Nat.succ_mul] <;> omega
  · apply List.drop_eq_nil_of_le
    rw [List.length_append, List.length_singleton, h2, Nat.succ_mul]
    exact Nat.le_refl _
theorem step_not {z : Nat} (hz : 0 < z) {N : List Int} {x : Int} (h : N.length % z + 1 ≠ z) :
    N.length + 1 < N.length / z * z + z ∧ (N ++ [x]).length / z = N.length / z ∧ (N ++ [x]).drop (N.length / z * z) = N.drop (N.length / z * z) ++ [x] := by
  have h1 := div_mod z N.length
  have h3 := Nat.mod_lt N.length hz
  have h2 : N.length + 1 < N.length / z * z + z := by omega
  refine ⟨h2, ?_, ?_⟩
  · rw [List.length_append, List.length_singleton]
    exact div_eq (by omega) h2
  · exact List.drop_append_of_le_length (by omega)
theorem first_start {z : Nat} (hz : 0 < z) (N : List Int) (S : List Nat) : firstOf z (N.length / z) (S ++ [N.length]) = (firstOf z (N.length / z) S).or (some (N.length % z)) := by
  have h1 := div_mod z N.length
  have h2 := div_hi hz N.length
  rw [firstOf_app, if_pos (by unfold inFr; simp; omega)]
  congr 2
  omega
theorem frms_length (z : Nat) (N : List Int) (S : List Nat) : (frms z N S).length = N.length / z := by simp [frms]
theorem frms_lay {z : Nat} (x : List Int × List Nat) (t : List Int) :
    frms z x.1 x.2 ++ (frms z (lay1 x t).1 (lay1 x t).2).drop (x.1.length / z) = frms z (lay1 x t).1 (lay1 x t).2 := by
  have e : (frms z (lay1 x t).1 (lay1 x t).2).take (x.1.length / z) = frms z x.1 x.2 := by
    have h : x.1.length / z ≤ (lay1 x t).1.length / z := Nat.div_le_div_right (by unfold lay1; rw [List.length_append]; exact Nat.le_add_right _ _)
    unfold frms
    rw [← List.map_take, List.take_range, Nat.min_eq_left h]
    show (List.range (x.1.length / z)).map (frm z (x.1 ++ laidN (x.2.length : Int) t) (x.2 ++ [x.1.length])) = _
    rw [frms_low, frms_start]
    rfl
  rw [← e]
  exact List.take_append_drop _ _
theorem layAll_le : ∀ (ts : List (List Int)), (∀ t ∈ ts, t.length ≤ 20) → (layAll ts).1.length ≤ 23 * ts.length := by
  intro ts h
  unfold layAll
  suffices g : ∀ (ts : List (List Int)) (x : List Int × List Nat), (∀ t ∈ ts, t.length ≤ 20) → (ts.foldl lay1 x).1.length ≤ x.1.length + 23 * ts.length by
    have := g ts ([], []) h
    simpa using this
  intro ts
  induction ts with
  | nil => intro x _; exact Nat.le_refl _
  | cons t r ih =>
    intro x hx
    have h1 := ih (lay1 x t) fun u hu => hx u (List.mem_cons_of_mem _ hu)
    have h2 := hx t (List.mem_cons_self ..)
    have h3 : (lay1 x t).1.length = x.1.length + (t.length + 3) := by unfold lay1; rw [List.length_append, laidN_length]
    rw [List.foldl_cons, List.length_cons]
    omega
theorem layAll_len : ∀ (ts : List (List Int)), (layAll ts).2.length = ts.length := by
  intro ts
  unfold layAll
  suffices g : ∀ (ts : List (List Int)) (x : List Int × List Nat), (ts.foldl lay1 x).2.length = x.2.length + ts.length by
    have := g ts ([], [])
    simpa using this
  intro ts
  induction ts with
  | nil => intro x; rfl
  | cons t r ih =>
    intro x
    rw [List.foldl_cons, ih, List.length_cons]
    unfold lay1
    rw [List.length_append, List.length_singleton]
    omega
/-- the first of ascending ones is the least -/
theorem head_least : ∀ {ns : List Nat} {m : Nat}, ns.Pairwise (· ≤ ·) → m ∈ ns → (∀ y ∈ ns, m ≤ y) → ns.head? = some m
  | x :: r, m, p, hm, hl => by
    have h1 : m ≤ x := hl x (List.mem_cons_self ..)
    have h2 : x ≤ m := by
      rcases List.mem_cons.mp hm with e | e
      · exact Nat.le_of_eq e.symm
      · exact (List.pairwise_cons.mp p).1 m e
    show some x = some m
    rw [Nat.le_antisymm h2 h1]
theorem firstOf_least {z c : Nat} {S : List Nat} {m : Nat} (p : S.Pairwise (· ≤ ·)) (hm : m ∈ (S.filter (inFr z c)).map (· - c * z)) (hl : ∀ y ∈ (S.filter (inFr z c)).map (· - c * z), m ≤ y) : firstOf z c S = some m := by
  refine head_least ?_ hm hl
  refine List.Pairwise.map _ (fun a b h => ?_) (p.filter _)
  show a - c * z ≤ b - c * z
  exact Nat.sub_le_sub_right h _
end Sky

/-! What is read from frames: tellings by their starts, the places in a frame at which some begin, the rows. -/
namespace Sky
open PySem PySem.Spec PyProof.Rows L2
/-- numbers N in which tellings begin at places, one behind the other or behind a filled-up frame -/
structure Lays (z : Nat) (N : List Int) (L : List (Nat × List Int)) : Prop where
  item : ∀ j a t, L[j]? = some (a, t) → a + (t.length + 3) ≤ N.length ∧ (N.drop a).take (t.length + 3) = laidN (j : Nat) t ∧ tellOk t
  next : ∀ j a t a' t', L[j]? = some (a, t) → L[j + 1]? = some (a', t') → a' = a + (t.length + 3) ∨ (N[a + (t.length + 3)]? = some 0 ∧ (a + (t.length + 3)) / z * z + z ≤ a')
  last : ∀ j a t, L[j]? = some (a, t) → L[j + 1]? = none → a + (t.length + 3) = N.length ∨ (N[a + (t.length + 3)]? = some 0 ∧ (a + (t.length + 3)) / z * z + z ≤ N.length)
  laid : Laid N (L.map (·.1))
  nums : ∀ x ∈ N, 0 ≤ x ∧ x ≤ 255
theorem Lays.nil (z : Nat) : Lays z [] [] := ⟨by simp, by simp, by simp, Laid.nil, by simp⟩
theorem Lays.lay {z : Nat} {N : List Int} {L : List (Nat × List Int)} {t : List Int} (h : Lays z N L) (ok : tellOk t) (few : L.length < 65536) : Lays z (N ++ laidN (L.length : Nat) t) (L ++ [(N.length, t)]) := by
  have hll : (laidN (L.length : Nat) t).length = t.length + 3 := laidN_length _ _
  refine ⟨fun j a u e => ?_, fun j a u a' u' e e' => ?_, fun j a u e e' => ?_, ?_, fun x hx => ?_⟩
  · by_cases hj : j < L.length
    · rw [List.getElem?_append_left hj] at e
      obtain ⟨h1, h2, h3⟩ := h.item j a u e
      refine ⟨by rw [List.length_append]; omega, ?_, h3⟩
      rw [List.drop_append_of_le_length (by omega), List.take_append_of_le_length (by rw [List.length_drop]; omega)]
      exact h2
    · have hj' : j = L.length := by
        have := (List.getElem?_eq_some_iff.mp e).1
        rw [List.length_append, List.length_singleton] at this
        omega
      subst hj'
      rw [List.getElem?_append_right (Nat.le_refl _), Nat.sub_self] at e
      have e2 : (N.length, t) = (a, u) := Option.some.inj e
      injection e2 with e3 e4
      subst e3 e4
      refine ⟨by rw [List.length_append, hll]; omega, ?_, ok⟩
      rw [List.drop_append_of_le_length (Nat.le_refl _), List.drop_length, List.nil_append, List.take_of_length_le (by omega)]
  · by_cases hj : j + 1 < L.length
    · rw [List.getElem?_append_left (by omega)] at e
      rw [List.getElem?_append_left hj] at e'
      rcases h.next j a u a' u' e e' with q | ⟨q, r⟩
      · exact .inl q
      · refine .inr ⟨?_, r⟩
        rw [List.getElem?_append_left (List.getElem?_eq_some_iff.mp q).1]
        exact q
    · have hj' : j + 1 = L.length := by
        have := (List.getElem?_eq_some_iff.mp e').1
        rw [List.length_append, List.length_singleton] at this
        omega
      rw [List.getElem?_append_left (by omega)] at e
      rw [hj', List.getElem?_append_right (Nat.le_refl _), Nat.sub_self] at e'
      have e2 : (N.length, t) = (a', u') := Option.some.inj e'
      injection e2 with e3 e4
      subst e3
      rcases h.last j a u e (List.getElem?_eq_none (by omega)) with q | ⟨q, r⟩
      · exact .inl q.symm
      · refine .inr ⟨?_, r⟩
        rw [List.getElem?_append_left (List.getElem?_eq_some_iff.mp q).1]
        exact q
  · have hj' : j = L.length := by
      have h1 := (List.getElem?_eq_some_iff.mp e).1
      have h2 := List.getElem?_eq_none_iff.mp e'
      rw [List.length_append, List.length_singleton] at h1 h2
      omega
    subst hj'
    rw [List.getElem?_append_right (Nat.le_refl _), Nat.sub_self] at e
    have e2 : (N.length, t) = (a, u) := Option.some.inj e
    injection e2 with e3 e4
    subst e3 e4
    left
    rw [List.length_append, hll]
  · rw [List.map_append]
    exact h.laid.start.more _
  · rcases List.mem_append.mp hx with q | q
    · exact h.nums x q
    · unfold laidN at q
      simp only [List.mem_cons] at q
      have h1 := ok.1
      have h2 := ok.2.1
      rcases q with e | e | e | e
      · omega
      · rw [e, Int.fdiv_eq_ediv_of_nonneg _ (by omega)]
        omega
      · rw [e, Int.fmod_eq_emod_of_nonneg _ (by omega)]
        omega
      · exact ok.2.2 x e
theorem padN_length {z : Nat} (hz : 0 < z) (N : List Int) : (padN z N).length = if N.length % z = 0 then N.length else N.length / z * z + z := by
  unfold padN
  have := div_mod z N.length
  have := Nat.mod_lt N.length hz
  split
  · rfl
  · rw [List.length_append, List.length_replicate]
    omega
theorem Lays.pad {z : Nat} {N : List Int} {L : List (Nat × List Int)} (hz : 0 < z) (h : Lays z N L) : Lays z (padN z N) L := by
  by_cases h0 : N.length % z = 0
  · unfold padN
    rw [if_pos h0]
    exact h
  · have hp : padN z N = N ++ List.replicate (z - N.length % z) 0 := by unfold padN; rw [if_neg h0]
    have hl : (padN z N).length = N.length / z * z + z := by rw [padN_length hz, if_neg h0]
    have hm := div_mod z N.length
    have hmz := Nat.mod_lt N.length hz
    refine ⟨fun j a t e => ?_, fun j a t a' t' e e' => ?_, fun j a t e e' => ?_, ?_, fun x hx => ?_⟩
    · obtain ⟨h1, h2, h3⟩ := h.item j a t e
      refine ⟨by omega, ?_, h3⟩
      rw [hp, List.drop_append_of_le_length (by omega), List.take_append_of_le_length (by rw [List.length_drop]; omega)]
      exact h2
    · rcases h.next j a t a' t' e e' with q | ⟨q, r⟩
      · exact .inl q
      · refine .inr ⟨?_, r⟩
        rw [hp, List.getElem?_append_left (List.getElem?_eq_some_iff.mp q).1]
        exact q
    · right
      rcases h.last j a t e e' with q | ⟨q, r⟩
      · rw [q]
        refine ⟨?_, by omega⟩
        rw [hp, List.getElem?_append_right (Nat.le_refl _), Nat.sub_self]
        rw [List.getElem?_replicate, if_pos (by omega)]
      · refine ⟨?_, by omega⟩
        rw [hp, List.getElem?_append_left (List.getElem?_eq_some_iff.mp q).1]
        exact q
    · rw [hp]
      exact h.laid.more _
    · rw [hp] at hx
      rcases List.mem_append.mp hx with q | q
      · exact h.nums x q
      · rw [List.eq_of_mem_replicate q]
        decide
theorem Lays.at {z : Nat} {N : List Int} {L : List (Nat × List Int)} (h : Lays z N L) {j a : Nat} {t : List Int} (e : L[j]? = some (a, t)) : N[a]? = some (t.length : Int) := by
  obtain ⟨h1, h2, h3⟩ := h.item j a t e
  have e1 : ((N.drop a).take (t.length + 3))[0]? = (laidN (j : Nat) t)[0]? := by rw [h2]
  rw [List.getElem?_take_of_lt (by omega), List.getElem?_drop, Nat.add_zero] at e1
  exact e1
theorem Lays.S_at {z : Nat} {N : List Int} {L : List (Nat × List Int)} (h : Lays z N L) {i j : Nat} {x y : Nat} (hij : i ≤ j) (e : (L.map (·.1))[i]? = some x) (e' : (L.map (·.1))[j]? = some y) : x ≤ y := by
  rcases Nat.lt_or_eq_of_le hij with q | q
  · have hi := (List.getElem?_eq_some_iff.mp e)
    have hj := (List.getElem?_eq_some_iff.mp e')
    obtain ⟨hi1, hi2⟩ := hi
    obtain ⟨hj1, hj2⟩ := hj
    rw [← hi2, ← hj2]
    exact List.pairwise_iff_getElem.mp h.laid.asc i j hi1 hj1 q
  · subst q
    rw [e] at e'
    cases e'
    exact Nat.le_refl _
theorem Lays.lt {z : Nat} {N : List Int} {L : List (Nat × List Int)} (h : Lays z N L) {j a a' : Nat} {t t' : List Int} (e : L[j]? = some (a, t)) (e' : L[j + 1]? = some (a', t')) : a < a' := by
  rcases h.next j a t a' t' e e' with q | ⟨_, q⟩
  · omega
  · have h1 := (h.item j a t e).1
    rcases Nat.eq_zero_or_pos z with hz | hz
    · subst hz
      have h2 : a ≤ a' := h.S_at (Nat.le_succ j) (by rw [List.getElem?_map, e]; rfl) (by rw [List.getElem?_map, e']; rfl)
      rcases Nat.lt_or_eq_of_le h2 with r | r
      · exact r
      · exfalso
        subst r
        have h3 := (h.item (j + 1) a t' e')
        have h4 := (h.item j a t e)
        have e1 : (laidN ((j : Nat) : Int) t)[0]? = (laidN ((j + 1 : Nat) : Int) t')[0]? := by
          rw [← h4.2.1, ← h3.2.1, List.getElem?_take_of_lt (by omega), List.getElem?_take_of_lt (by omega)]
        have e2 : (t.length : Int) = t'.length := Option.some.inj e1
        have e3 : laidN ((j : Nat) : Int) t = laidN ((j + 1 : Nat) : Int) t' := by
          rw [← h4.2.1, ← h3.2.1, show t.length = t'.length by omega]
        unfold laidN at e3
        injection e3 with _ e3
        injection e3 with e4 e3
        injection e3 with e5 e3
        rw [Int.fdiv_eq_ediv_of_nonneg _ (by omega), Int.fdiv_eq_ediv_of_nonneg _ (by omega)] at e4
        rw [Int.fmod_eq_emod_of_nonneg _ (by omega), Int.fmod_eq_emod_of_nonneg _ (by omega)] at e5
        omega
    · have h2 := div_hi hz (a + (t.length + 3))
      omega
theorem Lays.rise {z : Nat} {N : List Int} {L : List (Nat × List Int)} (h : Lays z N L) {j a : Nat} {t : List Int} (e : L[j]? = some (a, t)) : ∀ (k : Nat) (a' : Nat) (t' : List Int), L[j + 1 + k]? = some (a', t') → a < a'
  | 0, a', t', e' => h.lt e e'
  | k + 1, a', t', e' => by
    have hl := (List.getElem?_eq_some_iff.mp e').1
    have e1 : L[j + 1 + k]? = some (L[j + 1 + k]'(by omega)) := List.getElem?_eq_getElem (by omega)
    have h1 := h.rise e k _ _ e1
    have h2 := h.lt e1 e'
    omega
/-- no two begin at one place -/
theorem Lays.one {z : Nat} {N : List Int} {L : List (Nat × List Int)} (h : Lays z N L) {i j a : Nat} {t t' : List Int} (e : L[i]? = some (a, t)) (e' : L[j]? = some (a, t')) : i = j := by
  rcases Nat.lt_trichotomy i j with q | q | q
  · have := h.rise e (j - (i + 1)) a t' (by rw [show i + 1 + (j - (i + 1)) = j by omega]; exact e')
    omega
  · exact q
  · have := h.rise e' (i - (j + 1)) a t (by rw [show j + 1 + (i - (j + 1)) = i by omega]; exact e)
    omega
/-- from a start to the next one, within a frame -/
theorem Lays.step {z : Nat} {N : List Int} {L : List (Nat × List Int)} (h : Lays z N L) {c p j a : Nat} {t : List Int} (hz : 0 < z) (hc : c * z + z ≤ N.length) (e : L[j]? = some (a, t)) (ea : a = c * z + p) (hp : p < z) :
    (∃ a' t', L[j + 1]? = some (a', t') ∧ a' = c * z + (p + (3 + t.length))) ∨
    ((∀ i, j + 1 ≤ i → ∀ x, (L.map (·.1))[i]? = some x → c * z + z ≤ x) ∧ (z ≤ p + (3 + t.length) ∨ N[c * z + (p + (3 + t.length))]? = some 0)) := by
  have ee : a + (t.length + 3) = c * z + (p + (3 + t.length)) := by omega
  cases e1 : L[j + 1]? with
  | some x =>
    obtain ⟨a', t'⟩ := x
    rcases h.next j a t a' t' e e1 with q | ⟨q, r⟩
    · exact .inl ⟨a', t', rfl, by omega⟩
    · rw [ee] at q r
      refine .inr ⟨fun i hi x hx => ?_, ?_⟩
      · have h1 : a' ≤ x := h.S_at hi (by rw [List.getElem?_map, e1]; rfl) hx
        have h2 := div_lo z (c * z + (p + (3 + t.length)))
        have h3 := div_hi hz (c * z + (p + (3 + t.length)))
        by_cases h4 : p + (3 + t.length) < z
        · have : (c * z + (p + (3 + t.length))) / z = c := div_eq (by omega) (by omega)
          rw [this] at r
          omega
        · omega
      · exact .inr q
  | none =>
    refine .inr ⟨fun i hi x hx => ?_, ?_⟩
    · have h1 := (List.getElem?_eq_some_iff.mp hx).1
      have h2 := List.getElem?_eq_none_iff.mp e1
      rw [List.length_map] at h1
      omega
    · rcases h.last j a t e e1 with q | ⟨q, r⟩
      · rw [ee] at q
        exact .inl (by omega)
      · rw [ee] at q
        exact .inr q
theorem filter_take_all {p : Nat → Bool} : ∀ {S : List Nat} {j : Nat}, (∀ i, j ≤ i → ∀ x, S[i]? = some x → p x = false) → (S.take j).filter p = S.filter p
  | [], _, _ => by simp
  | x :: r, 0, h => by
    rw [List.take_zero, List.filter_nil]
    symm
    rw [List.filter_eq_nil_iff]
    intro y hy
    obtain ⟨i, hi, e⟩ := List.getElem_of_mem hy
    rw [h i (Nat.zero_le _) y (by rw [← e]; exact List.getElem?_eq_getElem hi)]
    simp
  | x :: r, j + 1, h => by
    have ih := filter_take_all (p := p) (S := r) (j := j) fun i hi y hy => h (i + 1) (by omega) y (by simpa using hy)
    rw [List.take_succ_cons, List.filter_cons, List.filter_cons, ih]
theorem filter_head {p : Nat → Bool} : ∀ {S : List Nat} {y : Nat}, (S.filter p).head? = some y → ∃ j, S[j]? = some y ∧ (S.take j).filter p = []
  | [], _, h => by simp at h
  | x :: r, y, h => by
    by_cases hp : p x = true
    · rw [List.filter_cons_of_pos hp] at h
      exact ⟨0, h, rfl⟩
    · rw [List.filter_cons_of_neg hp] at h
      obtain ⟨j, h1, h2⟩ := filter_head h
      refine ⟨j + 1, by simpa using h1, ?_⟩
      rw [List.take_succ_cons, List.filter_cons_of_neg hp]
      exact h2
theorem first_at {z c : Nat} {S : List Nat} {x : Nat} (h : firstOf z c S = some x) : ∃ j, S[j]? = some (c * z + x) ∧ (S.take j).filter (inFr z c) = [] ∧ x < z := by
  unfold firstOf at h
  rw [List.head?_map] at h
  cases e : (S.filter (inFr z c)).head? with
  | none => rw [e] at h; cases h
  | some y =>
    rw [e] at h
    have ex : y - c * z = x := Option.some.inj h
    obtain ⟨j, h1, h2⟩ := filter_head e
    have hm : y ∈ S.filter (inFr z c) := List.mem_of_head? e
    have hp := (List.mem_filter.mp hm).2
    unfold inFr at hp
    simp at hp
    exact ⟨j, by rw [h1, ← ex]; congr 1; omega, h2, by omega⟩
theorem first_no {z c : Nat} {S : List Nat} (h : firstOf z c S = none) : S.filter (inFr z c) = [] := by
  unfold firstOf at h
  rw [List.head?_map] at h
  cases e : S.filter (inFr z c) with
  | nil => rfl
  | cons x r => rw [e] at h; cases h
/-- which numbers of a telling lie in frames that there are -/
def covers (z : Nat) (cs : List Nat) (a n : Nat) : Bool := (List.range n).all fun k => decide ((a + k) / z ∈ cs)
def toldJ (z : Nat) (L : List (Nat × List Int)) (cs : List Nat) (j : Nat) : Bool := match L[j]? with
  | some x => covers z cs x.1 (x.2.length + 3)
  | none => false
def toldL (z : Nat) (L : List (Nat × List Int)) (cs : List Nat) : List Nat := (List.range L.length).filter (toldJ z L cs)
def gapD (lo hi : Nat) : PyData := .tuple [.str "gap", .int lo, .int hi]
def toldD (j : Nat) (t : List Int) : PyData := .tuple [.str "told", .int j, tlD t]
def textOf (L : List (Nat × List Int)) (j : Nat) : List Int := match L[j]? with
  | some x => x.2
  | none => []
def rowsD (L : List (Nat × List Int)) : Nat → List Nat → List PyData
  | _, [] => []
  | lo, j :: r => (if lo < j then [gapD lo (j - 1)] else []) ++ (toldD j (textOf L j) :: rowsD L (j + 1) r)
theorem rowsD_snoc (L : List (Nat × List Int)) : ∀ (js : List Nat) (lo j : Nat), rowsD L lo (js ++ [j]) = rowsD L lo js ++ rowsD L (js.foldl (fun _ x => x + 1) lo) [j]
  | [], lo, j => rfl
  | x :: r, lo, j => by
    rw [List.cons_append]
    show (if lo < x then [gapD lo (x - 1)] else []) ++ (toldD x (textOf L x) :: rowsD L (x + 1) (r ++ [j])) = _
    rw [rowsD_snoc L r (x + 1) j]
    show _ = ((if lo < x then [gapD lo (x - 1)] else []) ++ (toldD x (textOf L x) :: rowsD L (x + 1) r)) ++ _
    rw [List.append_assoc]
    rfl
theorem lo_snoc (js : List Nat) (lo j : Nat) : (js ++ [j]).foldl (fun _ x => x + 1) lo = j + 1 := by rw [List.foldl_append]; rfl
theorem covers_iff {z a n : Nat} {cs : List Nat} : covers z cs a n = true ↔ ∀ k, k < n → (a + k) / z ∈ cs := by
  unfold covers
  rw [List.all_eq_true]
  exact ⟨fun h k hk => of_decide_eq_true (h k (List.mem_range.mpr hk)), fun h k hk => decide_eq_true (h k (List.mem_range.mp hk))⟩
/-- by the frames from the first to the last of them -/
theorem covers_range {z a n : Nat} {cs : List Nat} (hz : 0 < z) (hn : 0 < n) : covers z cs a n = true ↔ ∀ c, a / z ≤ c → c ≤ (a + (n - 1)) / z → c ∈ cs := by
  rw [covers_iff]
  refine ⟨fun h c h1 h2 => ?_, fun h k hk => h _ (Nat.div_le_div_right (by omega)) (Nat.div_le_div_right (by omega))⟩
  by_cases h3 : c * z ≤ a
  · have e : a / z = c := by
      have := (Nat.le_div_iff_mul_le hz).mpr h3
      omega
    have := h 0 hn
    rw [Nat.add_zero, e] at this
    exact this
  · have h4 : c * z ≤ a + (n - 1) := (Nat.le_div_iff_mul_le hz).mp h2
    have := h (c * z - a) (by omega)
    rw [show a + (c * z - a) = c * z by omega, Nat.mul_div_cancel _ hz] at this
    exact this
/-- two rising lists without equal ones that hold the same are one -/
theorem rising_same : ∀ {xs ys : List Int}, xs.Pairwise (· < ·) → ys.Pairwise (· < ·) → (∀ x, x ∈ xs ↔ x ∈ ys) → xs = ys
  | [], [], _, _, _ => rfl
  | [], y :: r, _, _, h => absurd ((h y).mpr (List.mem_cons_self ..)) (by simp)
  | x :: r, [], _, _, h => absurd ((h x).mp (List.mem_cons_self ..)) (by simp)
  | x :: xs, y :: ys, hx, hy, h => by
    have hx' := List.pairwise_cons.mp hx
    have hy' := List.pairwise_cons.mp hy
    have e : x = y := by
      rcases List.mem_cons.mp ((h x).mp (List.mem_cons_self ..)) with q | q
      · exact q
      · rcases List.mem_cons.mp ((h y).mpr (List.mem_cons_self ..)) with q' | q'
        · exact q'.symm
        · have := hy'.1 x q
          have := hx'.1 y q'
          omega
    subst e
    congr 1
    refine rising_same hx'.2 hy'.2 fun u => ⟨fun hu => ?_, fun hu => ?_⟩
    · rcases List.mem_cons.mp ((h u).mp (List.mem_cons_of_mem _ hu)) with q | q
      · have := hx'.1 u hu
        omega
      · exact q
    · rcases List.mem_cons.mp ((h u).mpr (List.mem_cons_of_mem _ hu)) with q | q
      · have := hy'.1 u hu
        omega
      · exact q
/-- all of a list of tellings -/
def lays1 (x : List Int × List (Nat × List Int)) (t : List Int) : List Int × List (Nat × List Int) := (x.1 ++ laidN (x.2.length : Nat) t, x.2 ++ [(x.1.length, t)])
def laysAll (ts : List (List Int)) : List Int × List (Nat × List Int) := ts.foldl lays1 ([], [])
theorem laysAll_take {ts : List (List Int)} {i : Nat} {t : List Int} (h : ts[i]? = some t) : laysAll (ts.take (i + 1)) = lays1 (laysAll (ts.take i)) t := by
  rw [List.take_add_one, h]
  show laysAll (ts.take i ++ [t]) = _
  unfold laysAll
  rw [List.foldl_append]
  rfl
theorem laysAll_lay (ts : List (List Int)) : layAll ts = ((laysAll ts).1, (laysAll ts).2.map (·.1)) := by
  unfold layAll laysAll
  suffices g : ∀ (ts : List (List Int)) (x : List Int × List (Nat × List Int)), ts.foldl lay1 (x.1, x.2.map (·.1)) = ((ts.foldl lays1 x).1, (ts.foldl lays1 x).2.map (·.1)) from g ts ([], [])
  intro ts
  induction ts with
  | nil => intro x; rfl
  | cons t r ih =>
    intro x
    rw [List.foldl_cons, List.foldl_cons, ← ih]
    congr 1
    unfold lay1 lays1
    rw [List.map_append, List.length_map]
    rfl
theorem laysAll_texts (ts : List (List Int)) : (laysAll ts).2.map (·.2) = ts := by
  unfold laysAll
  suffices g : ∀ (ts : List (List Int)) (x : List Int × List (Nat × List Int)), (ts.foldl lays1 x).2.map (·.2) = x.2.map (·.2) ++ ts from g ts ([], [])
  intro ts
  induction ts with
  | nil => intro x; simp
  | cons t r ih =>
    intro x
    rw [List.foldl_cons, ih]
    unfold lays1
    rw [List.map_append, List.append_assoc]
    rfl
theorem laysAll_len (ts : List (List Int)) : (laysAll ts).2.length = ts.length := by
  have := congrArg List.length (laysAll_texts ts)
  rw [List.length_map] at this
  exact this
theorem laysAll_ok {z : Nat} {ts : List (List Int)} (ok : ∀ t ∈ ts, tellOk t) (few : ts.length ≤ 65536) : Lays z (laysAll ts).1 (laysAll ts).2 := by
  suffices g : ∀ i, i ≤ ts.length → Lays z (laysAll (ts.take i)).1 (laysAll (ts.take i)).2 by
    have := g ts.length (Nat.le_refl _)
    rw [List.take_length] at this
    exact this
  intro i
  induction i with
  | zero => intro _; rw [List.take_zero]; exact Lays.nil z
  | succ i ih =>
    intro hi
    have ht : ts[i]? = some ts[i] := List.getElem?_eq_getElem (by omega)
    rw [laysAll_take ht]
    exact (ih (by omega)).lay (ok _ (List.getElem_mem _)) (by rw [laysAll_len, List.length_take]; omega)
theorem rows_len' (L : List (Nat × List Int)) : ∀ (js : List Nat) (lo : Nat), (rowsD L lo js).length ≤ 2 * js.length
  | [], _ => Nat.le_refl _
  | j :: r, lo => by
    have ih := rows_len' L r (j + 1)
    show ((if lo < j then [gapD lo (j - 1)] else []) ++ (toldD j (textOf L j) :: rowsD L (j + 1) r)).length ≤ _
    rw [List.length_append, List.length_cons, List.length_cons]
    split
    · rw [List.length_singleton]; omega
    · rw [List.length_nil]; omega
/-! ### rows as data -/
def isTold : PyData → Bool
  | .tuple (.str x :: _) => decide (x = ("told" : Str))
  | _ => false
theorem gap_told : ¬ (("gap" : Str) = "told") := by decide +kernel
theorem isTold_told (j : Nat) (t : List Int) : isTold (toldD j t) = true := by
  show decide (("told" : Str) = "told") = true
  exact decide_eq_true rfl
theorem isTold_gap (lo hi : Nat) : isTold (gapD lo hi) = false := by
  show decide (("gap" : Str) = "told") = false
  exact decide_eq_false gap_told
theorem rows_mem {L : List (Nat × List Int)} : ∀ {js : List Nat} {lo : Nat} {d : PyData}, d ∈ rowsD L lo js → (∃ a b, d = gapD a b) ∨ ∃ j ∈ js, d = toldD j (textOf L j)
  | [], _, _, h => by cases h
  | j :: r, lo, d, h => by
    have h' : d ∈ (if lo < j then [gapD lo (j - 1)] else []) ++ (toldD j (textOf L j) :: rowsD L (j + 1) r) := h
    rcases List.mem_append.mp h' with q | q
    · split at q
      · exact .inl ⟨_, _, List.mem_singleton.mp q⟩
      · cases q
    · rcases List.mem_cons.mp q with q | q
      · exact .inr ⟨j, List.mem_cons_self .., q⟩
      · rcases rows_mem q with q | ⟨k, hk, e⟩
        · exact .inl q
        · exact .inr ⟨k, List.mem_cons_of_mem _ hk, e⟩
theorem told_mem {L : List (Nat × List Int)} : ∀ {js : List Nat} {lo j : Nat}, j ∈ js → toldD j (textOf L j) ∈ rowsD L lo js
  | [], _, _, h => by cases h
  | i :: r, lo, j, h => by
    show _ ∈ (if lo < i then [gapD lo (i - 1)] else []) ++ (toldD i (textOf L i) :: rowsD L (i + 1) r)
    refine List.mem_append_right _ ?_
    rcases List.mem_cons.mp h with q | q
    · rw [q]; exact List.mem_cons_self ..
    · exact List.mem_cons_of_mem _ (told_mem q)
theorem rows_all (L : List (Nat × List Int)) : ∀ (n lo : Nat), rowsD L lo (List.range' lo n) = (List.range' lo n).map fun k => toldD k (textOf L k)
  | 0, lo => rfl
  | n + 1, lo => by
    rw [List.range'_succ]
    show (if lo < lo then [gapD lo (lo - 1)] else []) ++ (toldD lo (textOf L lo) :: rowsD L (lo + 1) (List.range' (lo + 1) n)) = _
    rw [if_neg (Nat.lt_irrefl _), List.nil_append, rows_all L n (lo + 1)]
    rfl
theorem rows_range (L : List (Nat × List Int)) (n : Nat) : rowsD L 0 (List.range n) = (List.range n).map fun k => toldD k (textOf L k) := by
  rw [List.range_eq_range']
  exact rows_all L n 0
theorem toldL_congr {z : Nat} {L : List (Nat × List Int)} {cs cs' : List Nat} (h : ∀ c, c ∈ cs ↔ c ∈ cs') : toldL z L cs = toldL z L cs' := by
  unfold toldL
  congr 1
  funext j
  unfold toldJ
  cases L[j]? with
  | none => rfl
  | some x =>
    show covers z cs _ _ = covers z cs' _ _
    rw [Bool.eq_iff_iff, covers_iff, covers_iff]
    exact ⟨fun g k hk => (h _).mp (g k hk), fun g k hk => (h _).mpr (g k hk)⟩
theorem toldL_mono {z : Nat} {L : List (Nat × List Int)} {cs cs' : List Nat} (h : ∀ c, c ∈ cs → c ∈ cs') {j : Nat} (hj : j ∈ toldL z L cs) : j ∈ toldL z L cs' := by
  unfold toldL at hj ⊢
  rw [List.mem_filter] at hj ⊢
  refine ⟨hj.1, ?_⟩
  have := hj.2
  unfold toldJ at this ⊢
  cases e : L[j]? with
  | none => rw [e] at this; cases this
  | some x =>
    rw [e] at this
    exact covers_iff.mpr fun k hk => h _ (covers_iff.mp this k hk)
/-- all frames that there are tell all -/
theorem toldL_all {z : Nat} {N : List Int} {L : List (Nat × List Int)} (h : Lays z N L) (hz : 0 < z) (full : N.length % z = 0) : toldL z L (List.range (N.length / z)) = List.range L.length := by
  unfold toldL
  rw [List.filter_eq_self]
  intro j hj
  have hj' := List.mem_range.mp hj
  unfold toldJ
  rw [List.getElem?_eq_getElem hj']
  refine covers_iff.mpr fun k hk => List.mem_range.mpr ?_
  have h1 := (h.item j L[j].1 L[j].2 (List.getElem?_eq_getElem hj')).1
  have h2 := div_mod z N.length
  rw [Nat.div_lt_iff_lt_mul hz]
  omega
theorem pad_full {z : Nat} (hz : 0 < z) (N : List Int) : (padN z N).length % z = 0 := by
  rw [padN_length hz]
  split
  · assumption
  · rw [Nat.add_mod_right, Nat.mul_mod_left]
theorem Lay.strT : Lay 0 (.str "told") := ⟨by decide +kernel, by simp [PyData.depth]⟩
theorem Lay.strG : Lay 0 (.str "gap") := ⟨by decide +kernel, by simp [PyData.depth]⟩
theorem lay_told (j : Nat) (t : List Int) : Lay 2 (toldD j t) := by
  have h := Lay.tuple (f := fun d : PyData => d) (k := 1) (xs := [.str "told", .int (j : Nat), tlD t]) (by
    intro x hx
    simp only [List.mem_cons, List.not_mem_nil, or_false] at hx
    rcases hx with rfl | rfl | rfl
    · exact Lay.strT.mono (by decide)
    · exact (Lay.int _).mono (by decide)
    · exact Lay.tl _)
  rw [List.map_id'] at h
  exact h
theorem lay_gap (a b : Nat) : Lay 2 (gapD a b) := by
  have h := Lay.tuple (f := fun d : PyData => d) (k := 1) (xs := [.str "gap", .int (a : Nat), .int (b : Nat)]) (by
    intro x hx
    simp only [List.mem_cons, List.not_mem_nil, or_false] at hx
    rcases hx with rfl | rfl | rfl
    · exact Lay.strG.mono (by decide)
    · exact (Lay.int _).mono (by decide)
    · exact (Lay.int _).mono (by decide))
  rw [List.map_id'] at h
  exact h
theorem Lay.of_list {k : Nat} {ds : List PyData} (h : ∀ d ∈ ds, Lay k d) : Lay (k + 1) (.list ds) := by
  have := Lay.list (f := fun d : PyData => d) (xs := ds) h
  rw [List.map_id'] at this
  exact this
theorem lay_rows (L : List (Nat × List Int)) (js : List Nat) (lo : Nat) : Lay 3 (.list (rowsD L lo js)) := Lay.of_list fun d hd => by
  rcases rows_mem hd with ⟨a, b, rfl⟩ | ⟨j, _, rfl⟩
  · exact lay_gap a b
  · exact lay_told j _
theorem dok_told (j : Nat) {t : List Int} (h : t.length ≤ 10000000) : DOk 2 (toldD j t) := DOk.tuple (show 3 ≤ 10000000 by decide) fun e he => by
  simp only [List.mem_cons, List.not_mem_nil, or_false] at he
  rcases he with rfl | rfl | rfl
  · exact .sc (.inr (.inr (.inr ⟨_, rfl⟩)))
  · exact DOk.int _
  · exact DOk.tl h
theorem dok_gap (a b : Nat) : DOk 2 (gapD a b) := DOk.tuple (show 3 ≤ 10000000 by decide) fun e he => by
  simp only [List.mem_cons, List.not_mem_nil, or_false] at he
  rcases he with rfl | rfl | rfl
  · exact .sc (.inr (.inr (.inr ⟨_, rfl⟩)))
  · exact DOk.int _
  · exact DOk.int _
theorem dok_rows {L : List (Nat × List Int)} {js : List Nat} {lo : Nat} (h : js.length ≤ 1000000) (hL : ∀ x ∈ L, x.2.length ≤ 1000) : DOk 3 (.list (rowsD L lo js)) := by
  refine DOk.list (by have := rows_len' L js lo; omega) fun d hd => ?_
  rcases rows_mem hd with ⟨a, b, rfl⟩ | ⟨j, _, rfl⟩
  · exact dok_gap a b
  · refine dok_told j ?_
    unfold textOf
    cases e : L[j]? with
    | none => exact Nat.zero_le _
    | some x => exact Nat.le_trans (hL x (List.mem_of_getElem? e)) (by decide)
theorem TDs.erase {H : Hp} : ∀ {vs : List V} {ds : List PyData} (k : Nat), TDs H vs ds → TDs H (vs.eraseIdx k) (ds.eraseIdx k)
  | _, _, _, .nil => .nil
  | _, _, 0, .cons _ t => t
  | _, _, k + 1, .cons h t => .cons h (TDs.erase k t)
theorem erase_map {α β : Type} (f : α → β) : ∀ (xs : List α) (k : Nat), (xs.map f).eraseIdx k = (xs.eraseIdx k).map f
  | [], _ => rfl
  | _ :: _, 0 => rfl
  | x :: xs, k + 1 => by
    show f x :: (xs.map f).eraseIdx k = f x :: (xs.eraseIdx k).map f
    rw [erase_map f xs k]
theorem perm_erase {α : Type} : ∀ {xs : List α} {k : Nat} {x : α}, xs[k]? = some x → (x :: xs.eraseIdx k).Perm xs
  | [], _, _, h => by simp at h
  | y :: ys, 0, x, h => by
    have e : y = x := Option.some.inj h
    rw [e]
    exact List.Perm.refl _
  | y :: ys, k + 1, x, h => by
    have ih := perm_erase (xs := ys) (k := k) (x := x) (by simpa using h)
    exact (List.Perm.swap y x _).trans (ih.cons y)
theorem rising_of {ys ks : List Int} (hp : ys.Perm ks) (hs : ys.Pairwise (· ≤ ·)) (nd : ks.Nodup) : ys.Pairwise (· < ·) := by
  have h1 : ys.Nodup := hp.nodup_iff.mpr nd
  refine List.Pairwise.imp₂ (fun a b h1 h2 => ?_) hs h1
  omega
end Sky

/-! Frames of the first tellings; what gaps are; runs of frames. -/
namespace Sky
open PySem PySem.Spec PyProof.Rows L2
theorem lays_more' : ∀ (ss : List (List Int)) (x : List Int × List (Nat × List Int)), ∃ xs M, (ss.foldl lays1 x).1 = x.1 ++ xs ∧ (ss.foldl lays1 x).2.map (·.1) = x.2.map (·.1) ++ M ∧ ∀ s ∈ M, x.1.length ≤ s
  | [], x => ⟨[], [], by simp, by simp, by simp⟩
  | t :: r, x => by
    obtain ⟨xs, M, h1, h2, h3⟩ := lays_more' r (lays1 x t)
    refine ⟨laidN (x.2.length : Nat) t ++ xs, x.1.length :: M, ?_, ?_, ?_⟩
    · show (r.foldl lays1 (lays1 x t)).1 = _
      rw [h1, ← List.append_assoc]
      rfl
    · show (r.foldl lays1 (lays1 x t)).2.map (·.1) = _
      rw [h2]
      show (x.2 ++ [(x.1.length, t)]).map (·.1) ++ M = _
      rw [List.map_append, List.append_assoc]
      rfl
    · intro s hs
      rcases List.mem_cons.mp hs with e | e
      · omega
      · have := h3 s e
        have e2 : (lays1 x t).1.length = x.1.length + (t.length + 3) := by
          show (x.1 ++ laidN _ t).length = _
          rw [List.length_append, laidN_length]
        omega
theorem lays_more (ts ss : List (List Int)) : ∃ xs M, (laysAll (ts ++ ss)).1 = (laysAll ts).1 ++ xs ∧ (laysAll (ts ++ ss)).2.map (·.1) = (laysAll ts).2.map (·.1) ++ M ∧ ∀ s ∈ M, (laysAll ts).1.length ≤ s := by
  have := lays_more' ss (laysAll ts)
  unfold laysAll at *
  rw [List.foldl_append]
  exact this
theorem pad_app (z : Nat) (N : List Int) : ∃ p, padN z N = N ++ p := by
  unfold padN
  split
  · exact ⟨[], by simp⟩
  · exact ⟨_, rfl⟩
theorem firstOf_more {z c : Nat} (S M : List Nat) : firstOf z c (S ++ M) = (firstOf z c S).or (firstOf z c M) := by
  unfold firstOf
  rw [List.filter_append, List.map_append, List.head?_append]
theorem firstOf_late {z c : Nat} {M : List Nat} (h : ∀ s ∈ M, c * z + z ≤ s) : firstOf z c M = none := by
  unfold firstOf
  have e : M.filter (inFr z c) = [] := by
    rw [List.filter_eq_nil_iff]
    intro s hs
    have := h s hs
    unfold inFr
    simp
    omega
  rw [e]
  rfl
/-- the frames of the first tellings, but the last of them, are frames of all -/
theorem frm_first {z c : Nat} {N N' xs : List Int} {S M : List Nat} (hc : c * z + z ≤ N.length) (e : N' = N ++ xs) (hM : ∀ s ∈ M, N.length ≤ s) :
    frm z (padN z N) S c = frm z (padN z N') (S ++ M) c := by
  obtain ⟨p, e1⟩ := pad_app z N
  obtain ⟨p', e2⟩ := pad_app z N'
  rw [e1, e2, e, List.append_assoc, frm_more hc, frm_more hc]
  unfold frm
  rw [firstOf_more, firstOf_late (M := M) (fun s hs => by have := hM s hs; omega), Option.or_none]
theorem first_first {z c x : Nat} {S M : List Nat} (h : firstOf z c S = some x) : firstOf z c (S ++ M) = some x := by
  rw [firstOf_more, h]
  rfl
theorem count_le {z a b na nb : Nat} (hz : 0 < z) (hab : a ≤ b) (h1 : na * z < a + z) (h2 : b ≤ nb * z) : na ≤ nb := by
  have h3 : na * z < (nb + 1) * z := by rw [Nat.succ_mul]; omega
  have := Nat.lt_of_mul_lt_mul_right h3
  omega
/-! ### gaps -/
inductive Gaps : Nat → List PyData → Prop
  | nil (lo : Nat) : Gaps lo []
  | gap {lo hi : Nat} {d : PyData} {r : List PyData} : lo ≤ hi → Gaps (hi + 1) (d :: r) → Gaps lo (gapD lo hi :: d :: r)
  | told {j : Nat} {t : List Int} {r : List PyData} : Gaps (j + 1) r → Gaps j (toldD j t :: r)
theorem gaps_rows (L : List (Nat × List Int)) : ∀ (js : List Nat) (lo : Nat), js.Pairwise (· < ·) → (∀ j ∈ js, lo ≤ j) → Gaps lo (rowsD L lo js)
  | [], lo, _, _ => .nil lo
  | j :: r, lo, p, h => by
    have hj := h j (List.mem_cons_self)
    have ih := gaps_rows L r (j + 1) (List.pairwise_cons.mp p).2 fun k hk => (List.pairwise_cons.mp p).1 k hk
    show Gaps lo ((if lo < j then [gapD lo (j - 1)] else []) ++ (toldD j (textOf L j) :: rowsD L (j + 1) r))
    by_cases e : lo < j
    · rw [if_pos e]
      refine Gaps.gap (by omega) ?_
      rw [show j - 1 + 1 = j by omega]
      exact .told ih
    · rw [if_neg e]
      have e2 : lo = j := by omega
      rw [e2]
      exact .told ih
theorem gaps_told (z : Nat) (L : List (Nat × List Int)) (cs : List Nat) : Gaps 0 (rowsD L 0 (toldL z L cs)) :=
  gaps_rows L _ 0 (List.Pairwise.filter _ List.pairwise_lt_range) fun _ _ => Nat.zero_le _
theorem gaps_last : ∀ {lo : Nat} {ds : List PyData}, Gaps lo ds → ds ≠ [] → ∃ j t, ds.getLast? = some (toldD j t)
  | _, _, .nil _, h => absurd rfl h
  | _, _, .gap _ g, _ => by
    obtain ⟨j, t, e⟩ := gaps_last g (by simp)
    exact ⟨j, t, by rw [List.getLast?_cons_cons]; exact e⟩
  | _, _, .told (r := []) g, _ => ⟨_, _, rfl⟩
  | _, _, .told (r := d :: r) g, _ => by
    obtain ⟨j, t, e⟩ := gaps_last g (by simp)
    exact ⟨j, t, by rw [List.getLast?_cons_cons]; exact e⟩
/-! ### the first frames tell the first tellings -/
theorem filter_down {p : Nat → Bool} : ∀ n : Nat, (∀ i j, i ≤ j → j < n → p j = true → p i = true) → (List.range n).filter p = List.range ((List.range n).filter p).length
  | 0, _ => rfl
  | n + 1, h => by
    rw [List.range_succ, List.filter_append]
    by_cases e : p n = true
    · have e1 : (List.range n).filter p = List.range n := List.filter_eq_self.mpr fun i hi => h i n (Nat.le_of_lt (List.mem_range.mp hi)) (by omega) e
      rw [e1, List.filter_cons_of_pos e, List.filter_nil, List.length_append, List.length_range, ← List.range_succ]
      rfl
    · rw [List.filter_cons_of_neg e, List.filter_nil, List.append_nil]
      exact filter_down n fun i j h1 h2 => h i j h1 (by omega)
theorem told_down {z : Nat} {N : List Int} {L : List (Nat × List Int)} (hz : 0 < z) (h : Lays z N L) {low i j : Nat} (hij : i ≤ j) (hj : toldJ z L (List.range low) j = true) : toldJ z L (List.range low) i = true := by
  rcases Nat.eq_or_lt_of_le hij with e | e
  · rw [e]; exact hj
  unfold toldJ at hj ⊢
  cases ej : L[j]? with
  | none => rw [ej] at hj; cases hj
  | some x =>
    rw [ej] at hj
    have hjl := (List.getElem?_eq_some_iff.mp ej).1
    have hil : i < L.length := by omega
    have hi1 : i + 1 < L.length := by omega
    have ei := List.getElem?_eq_getElem hil
    have ei1 := List.getElem?_eq_getElem hi1
    rw [ei]
    have h1 := covers_iff.mp hj 0 (by omega)
    have h2 : L[i].1 + (L[i].2.length + 3) ≤ L[i + 1].1 := by
      rcases h.next i _ _ _ _ (by rw [ei]) (by rw [ei1]) with e | ⟨_, e⟩
      · omega
      · have := div_hi hz (L[i].1 + (L[i].2.length + 3))
        omega
    have h3 : L[i + 1].1 ≤ x.1 := h.S_at (show i + 1 ≤ j by omega) (by rw [List.getElem?_map, ei1]; rfl) (by rw [List.getElem?_map, ej]; rfl)
    refine covers_iff.mpr fun k hk => List.mem_range.mpr ?_
    have h4 := List.mem_range.mp h1
    exact Nat.lt_of_le_of_lt (Nat.div_le_div_right (by omega)) h4
theorem told_first {z : Nat} {N : List Int} {L : List (Nat × List Int)} (hz : 0 < z) (h : Lays z N L) (low : Nat) : toldL z L (List.range low) = List.range (toldL z L (List.range low)).length :=
  filter_down _ fun i j hij _ hj => told_down hz h hij hj
/-- apart -/
theorem told_apart {z : Nat} {L : List (Nat × List Int)} {cs cs' : List Nat} (h : ∀ c, c ∈ cs → c ∉ cs') {j : Nat} (hj : j ∈ toldL z L cs) (hj' : j ∈ toldL z L cs') : False := by
  have h1 := (List.mem_filter.mp hj).2
  have h2 := (List.mem_filter.mp hj').2
  unfold toldJ at h1 h2
  cases e : L[j]? with
  | none => rw [e] at h1; cases h1
  | some x =>
    rw [e] at h1 h2
    exact h _ (covers_iff.mp h1 0 (by omega)) (covers_iff.mp h2 0 (by omega))
theorem eqv_gap_told (a b j : Nat) (t : List Int) : PyData.eqv (gapD a b) (toldD j t) = false := by
  have e : (("gap" : Str) == "told") = false := by decide +kernel
  unfold gapD toldD
  simp [PyData.eqv, PyData.eqvAll, e]
theorem eqv_told_told {i j : Nat} (h : i ≠ j) (t u : List Int) : PyData.eqv (toldD i u) (toldD j t) = false := by
  have e : (((i : Nat) : Int) == ((j : Nat) : Int)) = false := by
    rw [beq_eq_false_iff_ne]
    omega
  unfold toldD
  simp only [PyData.eqv, PyData.eqvAll, e, Bool.false_and, Bool.and_false]
theorem rows_apart {z : Nat} {L : List (Nat × List Int)} {cs cs' : List Nat} (h : ∀ c, c ∈ cs → c ∉ cs') {j : Nat} (hj : j ∈ toldL z L cs) : ((rowsD L 0 (toldL z L cs')).any fun w => PyData.eqv w (toldD j (textOf L j))) = false := by
  rw [List.any_eq_false]
  intro w hw
  rcases rows_mem hw with ⟨a, b, rfl⟩ | ⟨k, hk, rfl⟩
  · rw [eqv_gap_told]; decide
  · rw [eqv_told_told (fun e => told_apart h hj (by rw [← e]; exact hk))]; decide
theorem TDs.drop {H : Hp} : ∀ {vs : List V} {ds : List PyData} (k : Nat), TDs H vs ds → TDs H (vs.drop k) (ds.drop k)
  | _, _, 0, h => h
  | _, _, _ + 1, .nil => .nil
  | _, _, k + 1, .cons _ t => TDs.drop k t
theorem TDs.take {H : Hp} : ∀ {vs : List V} {ds : List PyData} (k : Nat), TDs H vs ds → TDs H (vs.take k) (ds.take k)
  | _, _, 0, _ => .nil
  | _, _, _ + 1, .nil => .nil
  | _, _, k + 1, .cons h t => .cons h (TDs.take k t)
end Sky

/-! Rules of my own: a dict comprehension over a list, stored in a name; sorted of a dict with any number of ints for keys. -/
namespace Sky
open PySem PySem.Spec PyProof.Rows L2
section
variable {K : PySem.W.Frag}
/-- a dict comprehension's turns over a list that stands still -/
theorem dc_list {l : Addr} {ys : List V} {g : TG} {tt : TT} {tk tv : TE} {ws : List Nat} {τ : L2.St} {G : Hp} {dd : Addr} {fin : Hp → Prop} (Pv : Nat → Hp → Prop)
    (start : Pv 0 (upd G dd (.dK []))) (stays : ∀ i H, i ≤ ys.length → Pv i H → SqL K H l ys)
    (turn : ∀ i x H, ys[i]? = some x → Pv i H → g x (wipe τ ws) H fun σ2 H2 => wipe σ2 ws = wipe τ ws ∧ tt σ2 H2 fun b H3 =>
      if b = true then (tk σ2 H3 fun y H4 => tv σ2 H4 fun z H5 => ∃ kvs k, y = kV k ∧ H5 dd = some (.dK kvs) ∧ kvs.length < sizeLine ∧ Pv (i + 1) (upd H5 dd (.dK (putK kvs k z))))
      else Pv (i + 1) H3)
    (last : ∀ H, Pv ys.length H → fin H) :
    ∃ W : Nat → Nat → Hp → Prop, (∃ m, W 0 m (upd G dd (.dK []))) ∧ ∀ i m H, W i m H →
      ((Itl K l).stop i H ∧ fin H) ∨ ((Itl K l).go i H ∧ ∃ Nx : Hp → Prop, (∀ H', Nx H' → ∃ m', m' < m ∧ W (i + 1) m' H') ∧
        ∀ x H', (Itl K l).yld i H x H' → g x (wipe τ ws) H' fun σ2 H2 => wipe σ2 ws = wipe τ ws ∧ tt σ2 H2 fun b H3 =>
          if b = true then (tk σ2 H3 fun y H4 => tv σ2 H4 fun z H5 => ∃ kvs k, y = kV k ∧ H5 dd = some (.dK kvs) ∧ kvs.length < sizeLine ∧ Nx (upd H5 dd (.dK (putK kvs k z)))) else Nx H3) := by
  refine ⟨fun i m H => i ≤ ys.length ∧ m = ys.length - i ∧ Pv i H, ⟨ys.length, Nat.zero_le _, (Nat.sub_zero _).symm, start⟩, ?_⟩
  rintro i m H ⟨le, rfl, hv⟩
  have there := stays i H le hv
  by_cases lt : i < ys.length
  · refine .inr ⟨⟨ys, ys[i], there, List.getElem?_eq_getElem lt⟩, Pv (i + 1), fun H' w => ⟨ys.length - (i + 1), by omega, lt, rfl, w⟩, ?_⟩
    rintro x H' ⟨e, hy⟩
    subst e
    exact turn i x _ (hy ys there) hv
  · have e : i = ys.length := by omega
    subst e
    exact .inl ⟨⟨ys, there, Nat.le_refl _⟩, last H hv⟩
/-- enumerate(ys): each turn a new pair -/
theorem for_enum {l : Addr} {ys : List V} {g : TG} {tb : L2.TS} {D : Ends} {τ : L2.St} {G : Hp} (Pv : Nat → L2.St → Hp → Prop) (start : Pv 0 τ G) (stays : ∀ i σ H, i ≤ ys.length → Pv i σ H → SqL K H l ys)
    (turn : ∀ i x σ H T, ys[i]? = some x → Pv i σ H → H T = none → g (.ref T) σ (upd H T (.tup [.int (i : Nat), x])) fun σ2 H2 => tb { D with nx := Pv (i + 1), ct := Pv (i + 1), bk := D.nx } σ2 H2)
    (last : ∀ σ H, Pv ys.length σ H → D.nx σ H) :
    ∃ W : Nat → Nat → L2.St → Hp → Prop, (∃ m, W 0 m τ G) ∧ ∀ i m σ H, W i m σ H →
      ((Ite K l).stop i H ∧ D.nx σ H) ∨ ((Ite K l).go i H ∧ ∃ N : L2.St → Hp → Prop, (∀ σ' H', N σ' H' → ∃ m', m' < m ∧ W (i + 1) m' σ' H') ∧
        ∀ x H', (Ite K l).yld i H x H' → g x σ H' fun σ2 H2 => tb { D with nx := N, ct := N, bk := D.nx } σ2 H2) := by
  refine ⟨fun i m σ H => i ≤ ys.length ∧ m = ys.length - i ∧ Pv i σ H, ⟨ys.length, Nat.zero_le _, (Nat.sub_zero _).symm, start⟩, ?_⟩
  rintro i m σ H ⟨le, rfl, hv⟩
  have there := stays i σ H le hv
  by_cases lt : i < ys.length
  · refine .inr ⟨⟨ys, ys[i], there, List.getElem?_eq_getElem lt⟩, Pv (i + 1), fun σ' H' w => ⟨ys.length - (i + 1), by omega, lt, rfl, w⟩, ?_⟩
    rintro x H' ⟨T, y, rfl, hT, rfl, hy⟩
    exact turn i y σ H T (hy ys there) hv hT
  · have e : i = ys.length := by omega
    subst e
    exact .inl ⟨⟨ys, there, Nat.le_refl _⟩, last σ H hv⟩
/-! ### the keys of a dict -/
theorem len_of_sub {α : Type} [DecidableEq α] : ∀ {xs l : List α}, xs.Nodup → (∀ x ∈ xs, x ∈ l) → xs.length ≤ l.length
  | [], _, _, _ => Nat.zero_le _
  | x :: xs, l, nd, h => by
    have nd' := List.nodup_cons.mp nd
    have hx := h x (List.mem_cons_self ..)
    have ih := len_of_sub (l := l.erase x) nd'.2 fun y hy => (List.mem_erase_of_ne (fun e => nd'.1 (by rw [← e]; exact hy))).mpr (h y (List.mem_cons_of_mem _ hy))
    have h2 := List.length_erase_of_mem hx
    have h3 := List.length_pos_of_mem hx
    rw [List.length_cons]
    omega
theorem mem_keys {kvs : List (Key × V)} {k : Key} : k ∈ kvs.map (·.1) ↔ (valV kvs k).isSome = true := by
  rw [← valV_any, List.any_eq_true, List.mem_map]
  exact ⟨fun ⟨kv, hm, e⟩ => ⟨kv, hm, decide_eq_true e⟩, fun ⟨kv, hm, e⟩ => ⟨kv, hm, of_decide_eq_true e⟩⟩
theorem keys_put {kvs : List (Key × V)} {k : Key} {v : V} (nd : (kvs.map (·.1)).Nodup) : ((putK kvs k v).map (·.1)).Nodup := by
  cases e : valV kvs k with
  | none =>
    rw [L2.putK_new v e, List.map_append]
    refine List.nodup_append.mpr ⟨nd, by simp, fun a ha b hb => ?_⟩
    rw [List.mem_singleton.mp hb]
    intro q
    subst q
    have := mem_keys.mp ha
    rw [e] at this
    cases this
  | some x =>
    have h : (kvs.any fun kv => decide (kv.1 = k)) = true := by rw [valV_any, e]; rfl
    unfold putK
    rw [if_pos h, List.map_map]
    have : ((fun x : Key × V => x.1) ∘ fun kv : Key × V => if kv.1 = k then (kv.1, v) else kv) = fun x => x.1 := by
      funext kv
      show (if kv.1 = k then (kv.1, v) else kv).1 = kv.1
      split <;> rfl
    rw [this]
    exact nd
theorem keys_ints' : ∀ {kvs : List (Key × V)}, (∀ k ∈ kvs.map (·.1), ∃ i : Int, k = Sum.inl i) → ∃ ks : List Int, kvs.map (·.1) = ks.map Sum.inl
  | [], _ => ⟨[], rfl⟩
  | kv :: r, h => by
    obtain ⟨i, e⟩ := h kv.1 (by simp)
    obtain ⟨ks, e'⟩ := keys_ints' (kvs := r) fun k hk => h k (by rw [List.map_cons]; exact List.mem_cons_of_mem _ hk)
    exact ⟨i :: ks, by rw [List.map_cons, List.map_cons, e, e']⟩
end
section
variable {X : Cx}
theorem sw_trueD {kx vx : Expr} {gs : List Comprehension} {sc : Scope} {pos py : Pos} {y : Str} {l : Nat} {env : Env}
    (kind : env.scope.kind = .function) (isl : env.scope.names.lookup y = some .local) (line : (py.line == pos.line) = true)
    (free : (sc.names.any fun (n, k) => n == y && (k == .local || k == .cell)) = false) :
    swapsWith (.DictComp kx vx gs sc pos) (some (.Name y py)) l env = pure true := by
  have k1 : env.kindOf y = some .local := isl
  have k2 : env.blockKind = .function := by
    unfold Env.blockKind
    rw [kind]
    rfl
  unfold swapsWith
  simp only [k2, k1, free, Expr.pos, line]
  rfl
/-- name = {k: v for ..} on one line, the name a local -/
theorem ps_setDc {i : Nat} {y : Str} {py : Pos} {kx vx tg iter : Expr} {ifs : List Expr} {scope : Scope} {own : List (Str × Nat)} {pos spos : Pos} {wi : TI} {g : TG} {tt : TT} {tk tv : TE}
    (calm : X.calm = true) (hN : X.N.Nodup) (hy : X.N[i]? = some y) (loc : X.env.scope.names.lookup y = some .local)
    (sw : swapsWith (.DictComp kx vx [⟨tg, iter, ifs, 0⟩] scope pos) (some (.Name y py)) spos.line X.env = pure true)
    (hi : PI X tg iter wi) (ok : BlkOk X.N X.env.scope scope own)
    (hg : ∀ (s : Shared) (H : Hp) (C : Addr) (cl : List (Str × Addr)) (fp : List Addr), PG (X.blk s H scope (compEnvC scope cl C X.env) fp) tg g)
    (ht : ∀ (s : Shared) (H : Hp) (C : Addr) (cl : List (Str × Addr)) (fp : List Addr), PTs (X.blk s H scope (compEnvC scope cl C X.env) fp) ifs tt)
    (hk : ∀ (s : Shared) (H : Hp) (C : Addr) (cl : List (Str × Addr)) (fp : List Addr), PE (X.blk s H scope (compEnvC scope cl C X.env) fp) kx tk)
    (he : ∀ (s : Shared) (H : Hp) (C : Addr) (cl : List (Str × Addr)) (fp : List Addr), PE (X.blk s H scope (compEnvC scope cl C X.env) fp) vx tv)
    (hs : ∀ x, foldedSetIterable iter X.env x = pure x := by intro _; rfl) :
    PS X (.Assign [.Name y py] (.DictComp kx vx [⟨tg, iter, ifs, 0⟩] scope pos) spos) (tAsg (tDc wi g tt tk tv (own.map (·.2))) (gName i)) := by
  constructor
  intro pins s σ H D I h
  rw [exec_Assign_Name_used _ _ _ _ sw]
  apply wpAny_bind
  apply wpAny_standAt
  apply wpAny_bind
  have want : tDc wi g tt tk tv (own.map (·.2)) σ H (fun x H1 => gName i x σ H1 D.nx) := h
  show wpAny _ X.A (do
    let _ ← comprehension (.DictComp kx vx [⟨tg, iter, ifs, 0⟩] scope pos) scope X.env (firstIterPos [⟨tg, iter, ifs, 0⟩] pos) newDict false (eval iter X.env) (some (assign (.Name y py) X.env))) _ _ s
  apply wpAny_bind
  refine thn (dc_core (Qf := fun _ s' => SP X pins D .next s') calm hN I hi ok hg ht hk he hs want ?_) fun _ s' q => wpAny_pure (wpAny_pure q)
  intro L C s' m H' J q hn fp
  show wpAny _ _ (assign (.Name y py) X.env (.ref L)) _ _ _
  refine wpAny_assign_Name (store_ok2 (v := V.ref L) J hN hy (.inl loc) rfl ?_ (.inr loc))
  rintro s2 J2 ⟨a, sb, ha⟩
  obtain ⟨u0, u1, u2, u3, u4, u5⟩ := fp
  have apart : C ≠ a := by
    rcases ha with z | z
    · rw [z]
      exact u1
    · exact fun e => u4 y a z e.symm
  refine ⟨m, hn.sameBut sb apart, fun h3 sb3 => ⟨_, H', ?_, q⟩⟩
  exact J2.turned (t' := s2.toks) (fun b o hb e => (sb3.2 b hb).trans e) u0 u1 u3 u4 u5
theorem u65 {k : Nat} {A : Around} (r : Room k A) : A.units + 65 < cLine := by
  have := r.un
  omega
theorem op_notInDK {K : PySem.W.Frag} (h : X.K = K) (hu : X.A.units + 65 < cLine) : OpR X (compareOp .NotIn) (rNotInD K) := h ▸ op_notInD hu
theorem op_catTK {K : PySem.W.Frag} (h : X.K = K) : OpR X (binaryOp .Add) (rCatT K) := h ▸ op_catT
theorem op_inDK {K : PySem.W.Frag} (h : X.K = K) (hu : X.A.units + 65 < cLine) : OpR X (compareOp .In) (rInD K) := h ▸ op_inD hu
/-- sorted(d): the keys all ints, any number of them -/
def rSortDk : List V → Hp → VK → Prop := fun xs H Q => ∃ (a : Addr) (kvs : List (Key × V)) (ks : List Int), xs = [.ref a] ∧ H a = some (.dK kvs) ∧ kvs.map (·.1) = ks.map Sum.inl ∧
  ∀ (ys : List Int) (p : Addr), ys.Perm ks → ys.Pairwise (· ≤ ·) → H p = none → Q (.ref p) (upd H p (.lst (ys.map V.int)))
theorem keys_ints {P : Program} {w : World} : ∀ {vs : List (Key × Value)} {us : List Value} {ks : List Int}, vs.map (·.1) = ks.map Sum.inl → us.length = vs.length →
    (∀ (j : Nat) (v : Value), us[j]? = some v → ∃ k x, vs[j]? = some (k, x) ∧ (mixKind P w).is k v = true) → IntsAre us ks
  | [], [], [], _, _, _ => .nil
  | [], [], _ :: _, e, _, _ => by simp at e
  | _ :: _, _, [], e, _, _ => by simp at e
  | [], _ :: _, _, _, e, _ => by simp at e
  | _ :: _, [], _, _, e, _ => by simp at e
  | (k, x) :: vs, u :: us, n :: ks, e, l, h => by
    rw [List.map_cons, List.map_cons] at e
    injection e with e1 e2
    obtain ⟨k', x', a, b⟩ := h 0 u rfl
    have ek : (k, x) = (k', x') := Option.some.inj a
    injection ek with ek _
    subst ek
    have ek : k = Sum.inl n := e1
    subst ek
    rcases keyIs_shape (show keyIs (Sum.inl n) u = true from b) with ⟨i, t, q, eu⟩ | ⟨z, t, q, eu⟩
    · cases q
      subst eu
      exact .cons _ _ (keys_ints (P := P) (w := w) e2 (by simpa using l) fun j v hv => by
        obtain ⟨k2, x2, c, d⟩ := h (j + 1) v (by simpa using hv)
        exact ⟨k2, x2, by simpa using c, d⟩)
    · cases q
theorem call_sortedDk (calm : X.calm = true) : CallR X (.builtin "sorted") rSortDk := by
  intro pins s σ H xs us Q I r h
  obtain ⟨a, kvs, ks, rfl, hd, hks, fin⟩ := h
  obtain ⟨u, rfl, ru⟩ := vals1 r
  cases ru
  obtain ⟨small, lo, vs, rel, held⟩ := dk_rd I.hok (Rd.of hd)
  obtain ⟨ep, there⟩ := held.dictAt
  have keys : vs.map (·.1) = ks.map Sum.inl := rel.keys.symm.trans hks
  have many : vs.length = ks.length := by
    have e := congrArg List.length keys
    rwa [List.length_map, List.length_map] at e
  have kvl : kvs.length = ks.length := by
    have e := congrArg List.length hks
    rwa [List.length_map, List.length_map] at e
  have line : vs.length ≤ sizeLine := by rw [many, ← kvl]; exact small
  refine Calls.call_function_entry kind_sorted plain_sorted entry_sorted (args_sorted1 _) ?_
  unfold Builtin.«sorted»
  apply wpAny_bind (m := checkCount "sorted" 1 1 _)
  apply wpAny_pure
  apply wpAny_bind
  refine PySem.W.kdu_collect (A := X.A.in1) (PySem.W.kdl_dict (knd := mixKind X.prog X.w) (kvs := vs) (ep := ep) lo) (I.ok.hd calm) there line ?_
  intro h1 tk acc kept items
  have len : acc.toList.length = vs.length := by rw [Array.length_toList]; exact items.1
  have nums : IntsAre acc.toList ks := keys_ints (P := X.prog) (w := X.w) keys len fun j v e => by
    obtain ⟨k, x, e1, e2⟩ := items.2 j v (by rw [← Array.getElem?_toList]; exact e)
    exact ⟨k, x, e1, e2⟩
  have J : Inv X pins σ H { s with heap := h1, toks := tk } := I.kept kept
  have line' : acc.toList.length ≤ sizeLine := by rw [len]; exact line
  apply wpAny_bind
  refine wpAny_newList ?_ line'
  have laid : (h1.push (seqObj "list" acc.toList.toArray 0)).get? h1.objs.size = some (seqObj "list" acc.toList.toArray 0) := Heap.get?_push_size _ rfl
  show wpAny _ _ _ _ _ { s with heap := h1.push (seqObj "list" acc.toList.toArray 0), toks := tk }
  apply wpAny_bind
  apply wpAny_holding
  refine wpAny_call_entry slot_list_sort ⟨_, laid, rfl⟩ entry_list_sort ?_ (args_list_sort _)
  refine SrtO.list_sort_ord (s := { s with heap := h1.push (seqObj "list" acc.toList.toArray 0), toks := tk }) SrtO.swo_int laid line' (fun two => SrtO.ints_sortable nums two) ?_
  intro out srt stb
  refine ⟨_, rfl, ?_⟩
  obtain ⟨g1, g2, g3⟩ := SrtO.ints_out nums srt stb
  obtain ⟨e', at'⟩ := sortedHeap_at (vs := acc.toList) (out := out.toArray) laid
  have fits : ((out.map SrtO.iv).map V.int).length ≤ sizeLine := by
    rw [List.length_map, g2.length_eq, ← kvl]
    exact small
  refine wpAny_pure ⟨_, rfl, .ref h1.objs.size, upd H h1.objs.size (.lst ((out.map SrtO.iv).map V.int)), ?_, rfl, fin _ _ g2 g3 (J.hok.fresh (Nat.le_refl _))⟩
  refine J.laid (t' := tk) ?_ (Nat.le_refl _) ⟨fits, out, e', vals_of_ints g1, at'⟩
  intro b o e
  have lt : b < h1.objs.size := Heap.lt_size e
  rw [sortedHeap_old (Nat.ne_of_lt lt) (by rw [size_push']; exact Nat.lt_succ_of_lt lt)]
  exact Heap.get?_push_of_some _ e
end
end Sky

/-! list(d.values()) -/
namespace L2
open PySem PySem.Spec PyProof.Rows
section
variable {X : Cx} {o : Expr} {p pos apos mpos : Pos} {td : TE}
/-- list(o.values()): the values as they stand -/
def tListVals (td : TE) : TE := fun σ H Q => td σ H fun x H1 => ∃ a kvs, x = V.ref a ∧ H1 a = some (.dK kvs) ∧ ∀ q, H1 q = none → Q (.ref q) (upd H1 q (.lst (kvs.map (·.2))))
/-- the view that o.values() lays down -/
abbrev viewObj (a : Addr) : Obj := { cls := .type "dict_values", data := .fields #[.ref a] }
abbrev valuesCall (o : Expr) (pa pm : Pos) : Expr := .Call (.Attribute o "values" pa) [] [] pm
theorem pe_listVals (calm : X.calm = true) (free : Gl X "list") (unset : X.mg "list" = none) (sub : PE X o td)
    (plain : attributeBase o "values" X.env (eval o X.env) = eval o X.env := by rfl) (line : (apos.endLine == mpos.line) = true := by rfl)
    (star : starEach [valuesCall o apos mpos] X.env = [(false, eval (valuesCall o apos mpos) X.env)] := by rfl) :
    PE X (.Call (.Name "list" p) [valuesCall o apos mpos] [] pos) (tListVals td) := by
  constructor
  intro pins s σ G R inv told
  refine wpAny_Call_Name_kw (ld_blt inv free unset (u := .type "list") (by first | rfl | decide +kernel) ?_ (by decide +kernel) (by decide +kernel))
  rw [star]
  refine PySem.callWith_type1 (wpAny_Call_method0_late plain line ?_)
  refine thn (sub.run pins s σ G _ inv told) ?_
  rintro v t ⟨x, G1, inv1, rx, a, kvs, rfl, isD, fin⟩
  cases rx
  obtain ⟨few, low, ws, rel, held⟩ := dk_of inv1.hok isD
  obtain ⟨ep, stands⟩ := held.dictAt
  have copy := stands
  obtain ⟨ob, _, at', exact', _⟩ := copy
  refine ⟨"dict", "dict.values", F.plainAttrs_dict, F.slot_dict_values,
    F.type_dict_values, ⟨ob, at', exact'.1⟩, ?_, Calls.callWith_builtin rfl (PySem.evalArgs_none ?_)⟩
  · intro _ same
    cases same
    exact ⟨ob, at', exact'.2.1⟩
  refine call_meetsIn F.slot_dict_values ⟨ob, at', exact'.1⟩
    F.entry_dict_values (F.args_dict_values_1 _)
    (meets_dict_values (mixKind X.prog X.w) a low) ⟨⟨ws, held⟩, ?_⟩
  have grown : ∀ b u, t.heap.get? b = some u → (t.heap.push (viewObj a)).get? b = some u := fun _ _ => Heap.get?_push_of_some _
  have still : (t.heap.push (viewObj a)).DictAt (mixKind X.prog X.w) a ws ep := stands.keep grown
  have many : kvs.length = ws.length := KV.length rel
  have more : (t.heap.push (viewObj a)).objs.size = t.heap.objs.size + 1 := Heap.size_push _ _
  have behind : t.heap.objs.size ≤ (t.heap.push (viewObj a)).objs.size := by omega
  refine PySem.W.kdl_call (PySem.W.kdl_values (knd := mixKind X.prog X.w) (kvs := ws) (ep := ep))
    (inv.ok.hd calm) ⟨⟨_, Heap.get?_push_size _ rfl, rfl, rfl⟩, still⟩ (by rw [← many]; exact few) ?_
  intro h2 tk acc c kept laid items
  have ok : ObjOk X.prog X.w (upd G1 (t.heap.push (viewObj a)).objs.size (.lst (kvs.map (·.2)))) h2 (t.heap.push (viewObj a)).objs.size (.lst (kvs.map (·.2))) := by
    refine ⟨by rw [List.length_map]; exact few, acc.toList, c, ?_, by rw [Array.toArray_toList]; exact laid⟩
    have size : acc.toList.length = acc.size := by simp
    apply vals_of_at
    · rw [List.length_map, size, items.1, many]
    · intro j x u ex eu
      obtain ⟨k, ek⟩ := items.2 j u (by rw [← Array.getElem?_toList]; exact eu)
      obtain ⟨y, ey, ry⟩ := KV.at' rel ek
      rw [List.getElem?_map, ey] at ex
      cases ex
      exact ry
  exact ⟨.ref _, _, inv1.laid (fun b u e => kept b u (grown b u e)) behind ok, rfl, fin _ (inv1.hok.fresh behind)⟩
/-! max(d, default=n) of a dict whose keys are ints -/
def rMaxDk : List V → List V → Hp → VK → Prop := fun vs zs H Q => ∃ (a : Addr) (kvs : List (Key × V)) (ks : List Int) (d : Int), vs = [V.ref a] ∧ zs = [V.int d] ∧ H a = some (.dK kvs) ∧ kvs.map (·.1) = ks.map Sum.inl ∧ (ks = [] → Q (.int d) H) ∧ ∀ m, m ∈ ks → (∀ j ∈ ks, j ≤ m) → Q (.int m) H
theorem argBest_gt (f : Nat → Int) : ∀ n : Nat, PySem.argBest (fun i j => decide (f i > f j)) n ≤ n ∧ ∀ i, i ≤ n → f i ≤ f (PySem.argBest (fun i j => decide (f i > f j)) n)
  | 0 => ⟨Nat.le_refl _, fun i hi => by
      have : i = 0 := by omega
      subst this
      exact Int.le_refl _⟩
  | n + 1 => by
    obtain ⟨h1, h2⟩ := argBest_gt f n
    have e : PySem.argBest (fun i j => decide (f i > f j)) (n + 1) = if decide (f (n + 1) > f (PySem.argBest (fun i j => decide (f i > f j)) n)) = true then n + 1 else PySem.argBest (fun i j => decide (f i > f j)) n := rfl
    rw [e]
    by_cases c : f (n + 1) > f (PySem.argBest (fun i j => decide (f i > f j)) n)
    · rw [if_pos (decide_eq_true c)]
      refine ⟨Nat.le_refl _, fun i hi => ?_⟩
      rcases Nat.lt_or_ge i (n + 1) with z | z
      · have := h2 i (by omega)
        omega
      · have : i = n + 1 := by omega
        subst this
        exact Int.le_refl _
    · rw [if_neg (by rw [decide_eq_true_eq]; exact c)]
      refine ⟨by omega, fun i hi => ?_⟩
      rcases Nat.lt_or_ge i (n + 1) with z | z
      · exact h2 i (by omega)
      · have : i = n + 1 := by omega
        subst this
        omega
theorem cr_maxDk (hc : X.calm = true) : CallRK X (.builtin "max") [Str.ofString "default"] rMaxDk := by
  intro pins s σ H vs zs us ws Q I r rz h
  obtain ⟨a, kvs, ks, d, rfl, rfl, ha, hks, q0, q1⟩ := h
  obtain rfl := Vals.ref1 r
  obtain ⟨w1, rfl, e1⟩ := vals1 rz
  obtain ⟨td, rfl⟩ : ∃ t, w1 = Value.int d t := e1
  obtain ⟨z, lo, vs, rel, held⟩ := dk_rd I.hok (Rd.of ha)
  obtain ⟨ep, there⟩ := held.dictAt
  have keys : vs.map (·.1) = ks.map Sum.inl := rel.keys.symm.trans hks
  have many : vs.length = ks.length := by
    have e := congrArg List.length keys
    rwa [List.length_map, List.length_map] at e
  have hval : ∀ (i : Nat) (v : Value), (∃ k x, vs[i]? = some (k, x) ∧ (mixKind X.prog X.w).is k v = true) → ∃ t, v = Value.int (ks.getD i 0) t := fun i v ⟨k, x, e1, e2⟩ => by
    have h1 : (vs.map (·.1))[i]? = some k := by rw [List.getElem?_map, e1] <;> rfl
    rw [keys, List.getElem?_map] at h1
    obtain ⟨j, hj, ek⟩ := Option.map_eq_some_iff.mp h1
    subst ek
    rcases keyIs_shape (k := Sum.inl j) (v := v) e2 with ⟨i', t, g1, g2⟩ | ⟨x', t, g1, g2⟩
    · injection g1 with g1
      subst g1
      exact ⟨t, by rw [g2, List.getD_eq_getElem?_getD, hj] <;> rfl⟩
    · cases g1
  obtain ⟨oI, St, hit, W, st0⟩ := (PySem.W.kdl_dict (prog := X.prog) (w := X.w) (knd := mixKind X.prog X.w) (kvs := vs) (ep := ep) lo).iter X.A.in1 s (I.ok.hd hc) there
  have hlt := there.lt_size
  refine PySem.call_max_walkD (hit _ _ ⟨_, _, _, _, _, _, _, s.heap, (fun i j => decide (ks.getD i 0 > ks.getD j 0)), rfl, W.toS, st0, fun b hb => ?_, fun b o e hb => ?_, fun b o e => Heap.get?_push_of_some _ e, fun hz s' m => ?_, fun hp => ⟨fun i j vi vj s2 Q E _ hi hj hq => CmpOf.ints_gt (fun i => ks.getD i 0) hval i j vi vj s2 Q E hi hj hq, fun v s' hP m => ?_⟩⟩)
  · show b < (s.heap.push _).objs.size
    rw [Heap.size_push]
    rcases List.mem_cons.mp hb with e | hb
    · rw [e]
      exact Nat.lt_succ_self _
    · rw [List.mem_singleton.mp hb]
      exact Nat.lt_succ_of_lt hlt
  · exact absurd (Heap.lt_size e) ((List.mem_singleton.mp hb) ▸ Nat.lt_irrefl _)
  · obtain ⟨h', tk, rfl, hk'⟩ := PySem.W.moved_old rfl rfl m
    exact ⟨.int d, H, I.kept (t' := tk) hk', ⟨td, rfl⟩, q0 (List.eq_nil_of_length_eq_zero (by omega))⟩
  · obtain ⟨h', tk, rfl, hk'⟩ := PySem.W.moved_old rfl rfl m
    obtain ⟨t, rfl⟩ := hval _ v hP
    obtain ⟨b1, b2⟩ := argBest_gt (fun i => ks.getD i 0) (vs.length - 1)
    have hb : PySem.argBest (fun i j => decide (ks.getD i 0 > ks.getD j 0)) (vs.length - 1) < ks.length := by omega
    refine ⟨.int _, H, I.kept (t' := tk) hk', ⟨t, rfl⟩, q1 _ ?_ fun j hj => ?_⟩
    · rw [List.getD_eq_getElem?_getD, List.getElem?_eq_getElem hb]
      exact List.getElem_mem hb
    · obtain ⟨i, hi, e⟩ := List.mem_iff_getElem.mp hj
      have e2 : ks.getD i 0 = j := by rw [List.getD_eq_getElem?_getD, List.getElem?_eq_getElem hi, ← e] <;> rfl
      rw [← e2]
      exact b2 i (by omega)
/-! a list walked within a comprehension: the written part is told -/
theorem pi_listK {K : PySem.W.Frag} {X : Cx} {tg e : Expr} {te : TE} (h : X.K = K) (he : PE X e te) : PI X tg e (iList K te) := h ▸ pi_list he
end
end L2

/-! A rule of my own: name = {k: v for .. in .. for .. in ..}, keys ints or texts, no tests. -/
namespace Sky
open PySem PySem.Spec PyProof.Rows L2
/-- the comprehension -/
abbrev dc2 (kx vx ta ia tb ib : Expr) (sc : Scope) (ps : Pos) : Expr := .DictComp kx vx [⟨ta, ia, [], 0⟩, ⟨tb, ib, [], 0⟩] sc ps
section
variable (kx vx ta ia tb ib : Expr) (sc : Scope) (ps : Pos) (it acc : Value) (D : Addr) (en : Env)
theorem dc2_outer : compTurn (dc2 kx vx ta ia tb ib sc ps) 0 it acc en = (do
    standAt ia.pos
    let nx ← pyNext it
    match nx with
    | none => pure (.done .next)
    | some v => do
      letOwnedTupleGo ta it v
      assign ta en v
      let x ← eval ib en
      standAt ib.pos
      let x2 ← foldedSetIterable ib en x
      let j ← holding [x2] (pyIter x2)
      let _ ← runOwn (.compStart (dc2 kx vx ta ia tb ib sc ps) 1 j acc en) en
      again (.compLoop (dc2 kx vx ta ia tb ib sc ps) 0 it acc en)) := by rfl
theorem dc2_inner : compTurn (dc2 kx vx ta ia tb ib sc ps) 1 it (.ref D) en = (do
    standAt ib.pos
    let nx ← pyNext it
    match nx with
    | none => pure (.done .next)
    | some v => do
      letOwnedTupleGo tb it v
      assign tb en v
      (do
        let kv ← eval kx en
        let vv ← holding [kv] (eval vx en)
        standAt { kx.pos with endLine := vx.pos.endLine, endCol := vx.pos.endCol }
        holding [kv, vv] (dictSet D kv vv))
      again (.compLoop (dc2 kx vx ta ia tb ib sc ps) 1 it (.ref D) en)) := by rfl
end
section
variable {prog : Program} {w : World} {A : Around} {R : Result → Shared → Prop} {s : Shared} {kx vx ta ia tb ib : Expr} {sc : Scope} {ps : Pos} {it acc : Value} {D : Addr} {en : Env}
/-- what a raise within does -/
abbrev off (prog : Program) (w : World) (A : Around) (en : Env) (R : Result → Shared → Prop) : Value → Shared → Prop := notedBy (model prog w) A en fun x t => R (.error x) t
theorem dc2_walk (fold : ∀ x, foldedSetIterable ib en x = pure x) (J : Nat → Shared → Prop)
    (step : ∀ n t, J n t → wpAny (model prog w) A (pyNext it) (fun got t1 => match got with
      | none => R (.ok .next) t1
      | some v => wpAny (model prog w) A (letOwnedTupleGo ta it v) (fun _ t2 => wpAny (model prog w) A (assign ta en v) (fun _ t3 =>
          wpAny (model prog w) A (eval ib en) (fun x t4 => wpAny (model prog w) A (pyIter x) (fun jt t5 =>
            codeAny (model prog w) A (.compStart (dc2 kx vx ta ia tb ib sc ps) 1 jt acc en) (fun r t6 => match r with
              | .ok _ => ∃ k, k < n ∧ J k t6
              | .error _ => False) t5) (off prog w A en R) t4) (off prog w A en R) t3) (off prog w A en R) t2) (off prog w A en R) t1) (off prog w A en R) t)
    (n : Nat) (start : J n s) : codeAny (model prog w) A (.compLoop (dc2 kx vx ta ia tb ib sc ps) 0 it acc en) R s := by
  apply codeAny_loop rfl J _ n start
  intro n t hJ
  show wpAny _ A ((compTurn (dc2 kx vx ta ia tb ib sc ps) 0 it acc en).onRaise (fun x => do noteFrame x en; theTreesLotGoes x)) _ _ t
  apply wpAny_noted
  rw [dc2_outer]
  apply wpAny_bind; apply wpAny_standAt; apply wpAny_bind
  refine wpAny_mono (step n t hJ) (fun got t1 h1 => ?_) fun _ _ z => z
  match got, h1 with
  | none, h1 => exact wpAny_pure h1
  | some v, h1 =>
    apply wpAny_bind
    refine wpAny_mono h1 (fun _ t2 h2 => ?_) fun _ _ z => z
    apply wpAny_bind
    refine wpAny_mono h2 (fun _ t3 h3 => ?_) fun _ _ z => z
    apply wpAny_bind
    refine wpAny_mono h3 (fun x t4 h4 => ?_) fun _ _ z => z
    apply wpAny_bind; apply wpAny_standAt; apply wpAny_bind
    refine wpAny_of_eq (fold x) ?_
    apply wpAny_bind; apply wpAny_holding
    refine wpAny_mono h4 (fun jt t5 h5 => ?_) fun _ _ z => z
    apply wpAny_bind
    refine wpAny_runOwn ?_
    rw [Around.mark_none]
    refine codeAny_mono h5 fun r t6 h6 => ?_
    match r, h6 with
    | .ok f, h6 => exact wpAny_pure ⟨rfl, h6⟩
    | .error e, h6 => exact False.elim h6
theorem dc2_walk1 (J : Nat → Shared → Prop)
    (step : ∀ n t, J n t → wpAny (model prog w) A (pyNext it) (fun got t1 => match got with
      | none => R (.ok .next) t1
      | some v => wpAny (model prog w) A (letOwnedTupleGo tb it v) (fun _ t2 => wpAny (model prog w) A (assign tb en v) (fun _ t3 =>
          wpAny (model prog w) A (eval kx en) (fun a t4 => wpAny (model prog w) A (eval vx en) (fun b t5 =>
            wpAny (model prog w) A (dictSet D a b) (fun _ t6 => ∃ k, k < n ∧ J k t6) (off prog w A en R) t5) (off prog w A en R) t4) (off prog w A en R) t3) (off prog w A en R) t2) (off prog w A en R) t1) (off prog w A en R) t)
    (n : Nat) (start : J n s) : codeAny (model prog w) A (.compLoop (dc2 kx vx ta ia tb ib sc ps) 1 it (.ref D) en) R s := by
  apply codeAny_loop rfl J _ n start
  intro n t hJ
  show wpAny _ A ((compTurn (dc2 kx vx ta ia tb ib sc ps) 1 it (.ref D) en).onRaise (fun x => do noteFrame x en; theTreesLotGoes x)) _ _ t
  apply wpAny_noted
  rw [dc2_inner]
  apply wpAny_bind; apply wpAny_standAt; apply wpAny_bind
  refine wpAny_mono (step n t hJ) (fun got t1 h1 => ?_) fun _ _ z => z
  match got, h1 with
  | none, h1 => exact wpAny_pure h1
  | some v, h1 =>
    apply wpAny_bind
    refine wpAny_mono h1 (fun _ t2 h2 => ?_) fun _ _ z => z
    apply wpAny_bind
    refine wpAny_mono h2 (fun _ t3 h3 => ?_) fun _ _ z => z
    apply wpAny_bind; apply wpAny_bind
    refine wpAny_mono h3 (fun a t4 h4 => ?_) fun _ _ z => z
    apply wpAny_bind; apply wpAny_holding
    refine wpAny_mono h4 (fun b t5 h5 => ?_) fun _ _ z => z
    apply wpAny_bind; apply wpAny_standAt; apply wpAny_holding
    refine wpAny_mono h5 (fun _ t6 h6 => ?_) fun _ _ z => z
    exact wpAny_pure ⟨rfl, h6⟩
/-- the inner clause begins -/
theorem dc2_start1 (self : codeAny (model prog w) A (.compLoop (dc2 kx vx ta ia tb ib sc ps) 1 it acc en) R s)
    (other : wpAny (model prog w) A (pyIter it) (fun jt t => codeAny (model prog w) A (.compLoop (dc2 kx vx ta ia tb ib sc ps) 1 jt acc en) R t) (off prog w A en R) s) :
    codeAny (model prog w) A (.compStart (dc2 kx vx ta ia tb ib sc ps) 1 it acc en) R s := by
  apply codeAny_of_tree
  show wpAny _ _ ((compStart (dc2 kx vx ta ia tb ib sc ps) 1 it acc en).onRaise (fun x => do noteFrame x en; standAt theWindowsPlace)) _ _ s
  apply wpAny_notedAt
  unfold compStart
  show wpAny _ _ (ask >>= _) _ _ s
  apply wpAny_bind; apply wpAny_askSetting; apply wpAny_ite
  split
  · exact wpAny_bind (wpAny_pure (wpAny_pure (And.intro rfl self)))
  · apply wpAny_bind; apply wpAny_rule
    show wpAny _ _ (standAt ib.pos >>= _) _ _ s
    apply wpAny_bind; apply wpAny_standAt; apply wpAny_bind
    exact wpAny_mono other (fun jt t h => wpAny_pure (And.intro rfl h)) fun _ _ z => z
end
section
variable {X : Cx}
/-- the reading: for each item of the first source the second source's own loop, from which the first's next turn is reached -/
def tDc2 (wi : TI) (ga : TG) (wj : TI) (gb : TG) (tk tv : TE) (va vb : List Nat) : TE := fun σ H Q =>
  wi σ H fun J G1 => ∀ D, G1 D = none →
    ∃ W : Nat → Nat → Hp → Prop, (∃ m, W 0 m (upd G1 D (.dK []))) ∧ ∀ i m G, W i m G →
      (J.stop i G ∧ Q (.ref D) G) ∨
      (J.go i G ∧ ∃ Nx : Hp → Prop, (∀ G', Nx G' → ∃ m', m' < m ∧ W (i + 1) m' G') ∧ ∀ x G', J.yld i G x G' →
        ga x (wipe σ va) G' fun τ G2 => wipe τ va = wipe σ va ∧
          wj τ G2 fun L G3 => ∃ V1 : Nat → Nat → Hp → Prop, (∃ k, V1 0 k G3) ∧ ∀ j k F, V1 j k F →
            (L.stop j F ∧ Nx F) ∨
            (L.go j F ∧ ∃ Ny : Hp → Prop, (∀ F', Ny F' → ∃ k', k' < k ∧ V1 (j + 1) k' F') ∧ ∀ y F', L.yld j F y F' →
              gb y (wipe τ vb) F' fun ρ F2 => wipe ρ vb = wipe τ vb ∧
                tk ρ F2 fun a F3 => tv ρ F3 fun b F4 => ∃ kvs key, a = kV key ∧ F4 D = some (.dK kvs) ∧ kvs.length < sizeLine ∧ Ny (upd F4 D (.dK (putK kvs key b)))))
theorem dc2_all {pins : List (Addr × Obj)} {u : Shared} {σ : L2.St} {H : Hp} {Q : VK} {kx vx ta ia tb ib : Expr} {sc : Scope} {own : List (Str × Nat)} {vb : List Nat} {ps pf : Pos} {wi wj : TI} {ga gb : TG} {tk tv : TE} {use : Option (Value → Sem Unit)} {Qf : Value → Shared → Prop}
    (calm : X.calm = true) (nd : X.N.Nodup) (I0 : Inv X pins σ H u) (pa : PI X ta ia wi) (ok : BlkOk X.N X.env.scope sc own) (sub : ∀ i ∈ vb, i ∈ own.map (·.2))
    (pga : ∀ (u : Shared) (G : Hp) (C : Addr) (cl : List (Str × Addr)) (fp : List Addr), PG (X.blk u G sc (compEnvC sc cl C X.env) fp) ta ga)
    (pb : ∀ (u : Shared) (G : Hp) (C : Addr) (cl : List (Str × Addr)) (fp : List Addr), PI (X.blk u G sc (compEnvC sc cl C X.env) fp) tb ib wj)
    (pgb : ∀ (u : Shared) (G : Hp) (C : Addr) (cl : List (Str × Addr)) (fp : List Addr), PG (X.blk u G sc (compEnvC sc cl C X.env) fp) tb gb)
    (pk : ∀ (u : Shared) (G : Hp) (C : Addr) (cl : List (Str × Addr)) (fp : List Addr), PE (X.blk u G sc (compEnvC sc cl C X.env) fp) kx tk)
    (pv : ∀ (u : Shared) (G : Hp) (C : Addr) (cl : List (Str × Addr)) (fp : List Addr), PE (X.blk u G sc (compEnvC sc cl C X.env) fp) vx tv)
    (fa : ∀ x, foldedSetIterable ia X.env x = pure x) (fb : ∀ en x, foldedSetIterable ib en x = pure x)
    (want : tDc2 wi ga wj gb tk tv (own.map (·.2)) vb σ H Q)
    (last : ∀ D C u' m G', Inv X pins σ G' u' → Q (.ref D) G' → u'.heap.Ns C m → FpOk X pins G' C → compPost (model X.prog X.w) X.A X.xe use Qf (.ref D) C (.ok .next) u') :
    wpAny (model X.prog X.w) X.A (comprehension (dc2 kx vx ta ia tb ib sc ps) sc X.env pf newDict false (eval ia X.env) use) Qf X.xe u := by
  have outer : ∀ y ∈ sc.names, y.2 = .free → ∃ c, X.env.cells.lookup y.1 = some c := by
    intro y hy e
    rcases ok.free y hy e with z | z
    · exact I0.ok.has _ (.inl z)
    · exact I0.ok.has _ (.inr z)
  refine wpAny_comprehension_free (use := use) rfl fa (closure_ok outer) ok.kind (fun y hy e => by rw [ok.uniq y hy, e]) ?_
  refine thn (pa.run pins u σ H _ I0 want) fun _ u1 h1 => thn h1 fun _ u2 h2 => ?_
  obtain ⟨src, fp, tn, J, G2, rfl, I2, T, at2, foot2, q⟩ := h2
  refine wpAny_newObj_type (newEnv_comp ?_)
  generalize eD : u2.heap.objs.size = D
  have freeD : G2 D = none := I2.hok.fresh (Nat.le_of_eq eD)
  obtain ⟨W, ⟨m0, begin0⟩, turn⟩ := q D freeD
  -- the dict that is filled
  generalize e3 : ({ u2 with heap := u2.heap.push { cls := .type "dict", data := .dict #[] } } : Shared) = u3
  have I3 : Inv X pins σ (upd G2 D (.dK [])) u3 := by
    subst e3
    refine I2.laid (t' := u2.toks) (fun b o e => Heap.get?_push_of_some _ e) (Nat.le_of_eq eD) ?_
    subst eD
    exact dk_empty u2.heap I2.big
  have push3 : u3.heap = u2.heap.push { cls := .type "dict", data := .dict #[] } := by subst e3; rfl
  have low : ∀ b ∈ fp, b < u2.heap.objs.size := by
    intro b hb
    obtain ⟨o, e, _⟩ := T.obj _ _ at2 b hb
    exact Heap.lt_size e
  have foot3 : ∀ b ∈ fp, FpOk X pins (upd G2 D (.dK [])) b ∧ b < u3.heap.objs.size := by
    intro b hb
    have lt := low b hb
    refine ⟨⟨?_, (foot2 b hb).2⟩, ?_⟩
    · have nb : b ≠ D := by subst eD; exact Nat.ne_of_lt lt
      rw [upd_ne nb]
      exact (foot2 b hb).1
    · rw [push3, Heap.size_push]
      exact Nat.lt_succ_of_lt lt
  have at3 : tn 0 u3.heap := by
    refine T.keep _ _ _ at2 fun b _ o e => ?_
    rw [push3]
    exact Heap.get?_push_of_some _ e
  have I4 := block_start I3 ok nd foot3
  show codeAny _ _ (.compStart (dc2 kx vx ta ia tb ib sc ps) 0 (.ref src) (.ref D) (compEnvC sc (cellsFrom (u3.heap.objs.size + 1) sc.names (cloFrom X.env.cells sc.names [])) u3.heap.objs.size X.env))
    (compPost (model X.prog X.w) X.A X.xe use Qf (.ref D) u3.heap.objs.size) ({ u3 with heap := pushCells (u3.heap.push { cls := .type "dict", data := .dict #[] }) sc.names } : Shared)
  generalize eC : u3.heap.objs.size = C at I4 foot3 ⊢
  generalize ecl : cellsFrom (C + 1) sc.names (cloFrom X.env.cells sc.names []) = cl at I4 ⊢
  generalize eG : upd G2 D (.dK []) = G3 at I3 I4 foot3 begin0
  have qa := pga u3 G3 C cl fp
  have qb := pb u3 G3 C cl fp
  have qgb := pgb u3 G3 C cl fp
  have qk := pk u3 G3 C cl fp
  have qv := pv u3 G3 C cl fp
  have un : ∀ b ∈ fp, G3 b = none := fun b hb => (foot3 b hb).1.1
  have here : (compEnvC sc cl C X.env).locals = C := rfl
  generalize compEnvC sc cl C X.env = en at *
  generalize e4 : ({ u3 with heap := pushCells (u3.heap.push { cls := .type "dict", data := .dict #[] }) sc.names } : Shared) = u4 at *
  have at4 : tn 0 u4.heap := by
    refine T.keep _ _ _ at3 fun b _ o e => ?_
    subst e4
    exact pushCells_keeps _ _ _ _ (Heap.get?_push_of_some _ e)
  have foot : ∀ {τ : L2.St} {G : Hp} {t : Shared}, Inv (X.blk u3 G3 sc en fp) [] τ G t → (∀ b ∈ fp, G b = none) → ∀ b ∈ fp, FpOk (X.blk u3 G3 sc en fp) [] G b := by
    intro τ G t Iv no b hb
    refine ⟨no b hb, (Iv.ok.exf b hb).1, Iv.ok.exfs b hb, .inl hb, fun x c e => (Iv.ok.exf b hb).2 x c e, fun z hz => ?_⟩
    have hz' : z ∈ ([] : List (Addr × Obj)) ++ [] := hz
    simp at hz'
  have whole : codeAny (model X.prog X.w) X.A (.compLoop (dc2 kx vx ta ia tb ib sc ps) 0 (.ref src) (.ref D) en) (compPost (model X.prog X.w) X.A X.xe use Qf (.ref D) C) u4 := by
    refine dc2_walk (fb en) (fun n t => ∃ i G, Inv (X.blk u3 G3 sc en fp) [] (wipe σ (own.map (·.2))) G t ∧ tn i t.heap ∧ (∀ b ∈ fp, G b = none) ∧ W i n G) ?_ m0 ⟨0, G3, I4, at4, un, begin0⟩
    rintro n t5 ⟨i, G5, I5, at5, un5, w5⟩
    rcases turn i n G5 w5 with ⟨stop, done⟩ | ⟨goes, Nx, down, one⟩
    · -- none is left: back in the def
      refine thnF (T.done (X.blk u3 G3 sc en fp) rfl rfl rfl calm i [] t5 _ G5 (fun _ _ => False) I5 (foot I5 un5) at5 stop) fun r t6 ⟨er, I6⟩ => ?_
      subst er
      have I7 : Inv X pins σ G5 t6 := I3.call' (ch := fp) I6.os I6.base I6.hok I6.bare fun b hb => by
        obtain ⟨⟨_, z2, z3, z4, z5, z6⟩, _⟩ := foot3 b hb
        exact ⟨z4, z2, z5, z6⟩
      have noC : G5 C = none := by
        have z : G5 en.locals = none := I6.free
        rw [here] at z
        exact z
      obtain ⟨m, ns, _⟩ := I6.loc
      have ns' : t6.heap.Ns en.locals m := ns
      rw [here] at ns'
      exact last D C t6 m G5 I7 done ns' (I3.fpOk (Nat.le_of_eq eC) noC)
    · refine thnF (T.item (X.blk u3 G3 sc en fp) rfl rfl rfl calm i [] t5 _ G5 (fun _ _ => False) I5 (foot I5 un5) at5 goes) fun r t6 ⟨v, er, h6⟩ => ?_
      subst er
      refine thnF h6 fun _ t7 ⟨x, G7, I7, rx, yl, at7, un7⟩ => ?_
      have I7p := I7.pinned (foot I7 un7) (T.obj _ _ at7)
      refine thnF (qa.run _ t7 _ G7 x v _ I7p rx (one x G7 yl)) fun _ t8 ⟨τ, G8, I8, ewipe, q8⟩ => ?_
      have lenτ : (wipe σ (own.map (·.2))).length = τ.length := by rw [← ewipe, wipe_length]
      have keepτ : ∀ (j : Nat) v, (wipe σ (own.map (·.2)))[j]? = some (some v) → (wipe τ vb)[j]? = some (some v) := by
        intro j v e
        rw [← ewipe] at e
        obtain ⟨z1, z2⟩ := wipe_some e
        rw [wipe_out fun z => z2 (sub j z)]
        exact z1
      -- the turn is done
      have next : ∀ {ρ : L2.St} {t : Shared} {G : Hp}, Inv (X.blk u3 G3 sc en fp) ([] ++ pinsAt fp t7.heap) ρ G t → (wipe σ (own.map (·.2))).length = ρ.length → (∀ (j : Nat) v, (wipe σ (own.map (·.2)))[j]? = some (some v) → ρ[j]? = some (some v)) → Nx G →
          ∃ m, m < n ∧ ∃ i G, Inv (X.blk u3 G3 sc en fp) [] (wipe σ (own.map (·.2))) G t ∧ tn i t.heap ∧ (∀ b ∈ fp, G b = none) ∧ W i m G := by
        intro ρ t G Iv len keep nx
        obtain ⟨m, less, w'⟩ := down G nx
        have pinned : ∀ b ∈ fp, ∀ o, t7.heap.get? b = some o → t.heap.get? b = some o ∧ G b = none := by
          intro b hb o e
          have z := Iv.pin (b, o) (List.mem_append_right _ (List.mem_append_right _ (mem_pinsAt hb e)))
          exact ⟨z.1, z.2.1⟩
        refine ⟨m, less, i + 1, G, (Iv.unpinned (pins := [])).weak len keep, T.keep _ _ _ at7 fun b hb o e => (pinned b hb o e).1, fun b hb => ?_, w'⟩
        obtain ⟨o, e, _⟩ := T.obj _ _ at7 b hb
        exact (pinned b hb o e).2
      refine thnF (qb.run _ t8 τ G8 _ I8 q8) fun _ t9 h9 => thnF h9 fun _ t10 h10 => ?_
      obtain ⟨src2, fp2, tn2, L, G10, rfl, I10, T2, at10, foot10, V1, ⟨k0, begin1⟩, turn1⟩ := h10
      have foot2 : ∀ {G : Hp}, (∀ b ∈ fp2, G b = none) → ∀ b ∈ fp2, FpOk (X.blk u3 G3 sc en fp) ([] ++ pinsAt fp t7.heap) G b := fun no b hb => ⟨no b hb, (foot10 b hb).2⟩
      have inner : codeAny (model X.prog X.w) X.A (.compLoop (dc2 kx vx ta ia tb ib sc ps) 1 (.ref src2) (.ref D) en)
          (fun r t => match r with
            | .ok _ => ∃ m, m < n ∧ ∃ i G, Inv (X.blk u3 G3 sc en fp) [] (wipe σ (own.map (·.2))) G t ∧ tn i t.heap ∧ (∀ b ∈ fp, G b = none) ∧ W i m G
            | .error _ => False) t10 := by
        refine dc2_walk1 (fun k t => ∃ j G, Inv (X.blk u3 G3 sc en fp) ([] ++ pinsAt fp t7.heap) (wipe τ vb) G t ∧ tn2 j t.heap ∧ (∀ b ∈ fp2, G b = none) ∧ V1 j k G) ?_ k0 ⟨0, G10, I10.weak (wipe_length _ _) (fun j v e => (wipe_some e).1), at10, fun b hb => (foot10 b hb).1, begin1⟩
        rintro k t11 ⟨j, G11, I11, at11, un11, w11⟩
        rcases turn1 j k G11 w11 with ⟨stop1, nx⟩ | ⟨goes1, Ny, down1, one1⟩
        · refine thnF (T2.done (X.blk u3 G3 sc en fp) rfl rfl rfl calm j _ t11 (wipe τ vb) G11 (fun _ _ => False) I11 (foot2 un11) at11 stop1) fun r t12 ⟨er, I12⟩ => ?_
          subst er
          exact next I12 (lenτ.trans (wipe_length τ vb).symm) keepτ nx
        · refine thnF (T2.item (X.blk u3 G3 sc en fp) rfl rfl rfl calm j _ t11 (wipe τ vb) G11 (fun _ _ => False) I11 (foot2 un11) at11 goes1) fun r t12 ⟨v1, er, h12⟩ => ?_
          subst er
          refine thnF h12 fun _ t13 ⟨y, G13, I13, ry, yl1, at13, un13⟩ => ?_
          have I13p := I13.pinned (foot2 un13) (T2.obj _ _ at13)
          refine thnF (qgb.run _ t13 (wipe τ vb) G13 y v1 _ I13p ry (one1 y G13 yl1)) fun _ t14 ⟨ρ, G14, I14, ewipe1, q14⟩ => ?_
          refine thnF (qk.run _ t14 ρ G14 _ I14 q14) fun ka t15 ⟨a, G15, I15, ra, q15⟩ => ?_
          refine thnF (qv.run _ t15 ρ G15 _ I15 q15) fun kb t16 ⟨b, G16, I16, rb, kvs, key, ea, hd16, few, nx⟩ => ?_
          subst ea
          refine d_dictSet (X := X.blk u3 G3 sc en fp) I16 hd16 few ra rb fun t17 I17 => ?_
          obtain ⟨k', less, w'⟩ := down1 _ nx
          have pinned : ∀ c ∈ fp2, ∀ o, t13.heap.get? c = some o → t17.heap.get? c = some o ∧ (upd G16 D (.dK (putK kvs key b))) c = none := by
            intro c hc o e
            have z := I17.pin (c, o) (List.mem_append_right _ (List.mem_append_right _ (mem_pinsAt hc e)))
            exact ⟨z.1, z.2.1⟩
          refine ⟨k', less, j + 1, _, I17.unpinned.weak ?_ (fun n v e => ?_), T2.keep _ _ _ at13 fun c hc o e => (pinned c hc o e).1, fun c hc => ?_, w'⟩
          · rw [← ewipe1, wipe_length]
          · rw [← ewipe1] at e
            exact (wipe_some e).1
          · obtain ⟨o, e, _⟩ := T2.obj _ _ at13 c hc
            exact (pinned c hc o e).2
      exact dc2_start1 inner (T2.self X.A 0 _ _ _ at10 inner)
  exact codeAny_compStart_dict whole (T.self X.A 0 _ _ _ at4 whole)
end
section
variable {X : Cx}
/-- name = {k: v for .. for ..} on one line, the name a local -/
theorem ps_setDc2 {i : Nat} {y : Str} {py : Pos} {kx vx ta ia tb ib : Expr} {sc : Scope} {own : List (Str × Nat)} {vb : List Nat} {ps sp : Pos} {wi wj : TI} {ga gb : TG} {tk tv : TE}
    (calm : X.calm = true) (nd : X.N.Nodup) (hy : X.N[i]? = some y) (loc : X.env.scope.names.lookup y = some .local)
    (sw : swapsWith (dc2 kx vx ta ia tb ib sc ps) (some (.Name y py)) sp.line X.env = pure true)
    (pa : PI X ta ia wi) (ok : BlkOk X.N X.env.scope sc own) (sub : ∀ i ∈ vb, i ∈ own.map (·.2))
    (pga : ∀ (u : Shared) (G : Hp) (C : Addr) (cl : List (Str × Addr)) (fp : List Addr), PG (X.blk u G sc (compEnvC sc cl C X.env) fp) ta ga)
    (pb : ∀ (u : Shared) (G : Hp) (C : Addr) (cl : List (Str × Addr)) (fp : List Addr), PI (X.blk u G sc (compEnvC sc cl C X.env) fp) tb ib wj)
    (pgb : ∀ (u : Shared) (G : Hp) (C : Addr) (cl : List (Str × Addr)) (fp : List Addr), PG (X.blk u G sc (compEnvC sc cl C X.env) fp) tb gb)
    (pk : ∀ (u : Shared) (G : Hp) (C : Addr) (cl : List (Str × Addr)) (fp : List Addr), PE (X.blk u G sc (compEnvC sc cl C X.env) fp) kx tk)
    (pv : ∀ (u : Shared) (G : Hp) (C : Addr) (cl : List (Str × Addr)) (fp : List Addr), PE (X.blk u G sc (compEnvC sc cl C X.env) fp) vx tv)
    (fa : ∀ x, foldedSetIterable ia X.env x = pure x := by intro _; rfl) (fb : ∀ en x, foldedSetIterable ib en x = pure x := by intro _ _; rfl) :
    PS X (.Assign [.Name y py] (.DictComp kx vx [⟨ta, ia, [], 0⟩, ⟨tb, ib, [], 0⟩] sc ps) sp) (tAsg (tDc2 wi ga wj gb tk tv (own.map (·.2)) vb) (gName i)) := by
  constructor
  intro pins u σ H D I h
  have want : tDc2 wi ga wj gb tk tv (own.map (·.2)) vb σ H (fun x G => gName i x σ G D.nx) := h
  rw [exec_Assign_Name_used _ _ _ _ sw]
  apply wpAny_bind; apply wpAny_standAt; apply wpAny_bind
  show wpAny _ X.A (do
    let _ ← comprehension (dc2 kx vx ta ia tb ib sc ps) sc X.env (firstIterPos [⟨ta, ia, [], 0⟩, ⟨tb, ib, [], 0⟩] ps) newDict false (eval ia X.env) (some (assign (.Name y py) X.env))) _ _ u
  apply wpAny_bind
  refine thn (dc2_all (Qf := fun _ t => SP X pins D .next t) calm nd I pa ok sub pga pb pgb pk pv fa fb want ?_) fun _ t q => wpAny_pure (wpAny_pure q)
  intro L C t m G J q ns fp
  show wpAny _ _ (assign (.Name y py) X.env (.ref L)) _ _ _
  refine wpAny_assign_Name (store_ok2 (v := V.ref L) J nd hy (.inl loc) rfl ?_ (.inr loc))
  rintro t2 J2 ⟨a, sb, ha⟩
  obtain ⟨z0, z1, z2, z3, z4, z5⟩ := fp
  have apart : C ≠ a := by
    rcases ha with z | z
    · rw [z]
      exact z1
    · exact fun e => z4 y a z e.symm
  refine ⟨m, ns.sameBut sb apart, fun h3 sb3 => ⟨_, G, ?_, q⟩⟩
  exact J2.turned (t' := t2.toks) (fun b o hb e => (sb3.2 b hb).trans e) z0 z1 z3 z4 z5
/-! max(xs, default=n) of a list of ints -/
def rMaxL (K : PySem.W.Frag) : List V → List V → Hp → VK → Prop := fun vs zs H Q => ∃ (a : Addr) (ns : List Int) (d : Int), vs = [V.ref a] ∧ zs = [V.int d] ∧ SqL K H a (ns.map V.int) ∧ (ns = [] → Q (.int d) H) ∧ ∀ m, m ∈ ns → (∀ j ∈ ns, j ≤ m) → Q (.int m) H
theorem fold_max : ∀ (ns : List Int) (n : Int), (ns.foldl max n = n ∨ ns.foldl max n ∈ ns) ∧ n ≤ ns.foldl max n ∧ ∀ j ∈ ns, j ≤ ns.foldl max n
  | [], n => ⟨.inl rfl, Int.le_refl _, by simp⟩
  | x :: r, n => by
    obtain ⟨h1, h2, h3⟩ := fold_max r (max n x)
    rw [List.foldl_cons]
    refine ⟨?_, by omega, fun j hj => ?_⟩
    · rcases h1 with e | e
      · rw [e]
        rcases Int.le_total n x with z | z
        · right; rw [Int.max_eq_right z]; exact List.mem_cons_self
        · left; exact Int.max_eq_left z
      · exact .inr (List.mem_cons_of_mem _ e)
    · rcases List.mem_cons.mp hj with e | e
      · rw [e]; omega
      · exact h3 j e
theorem cr_maxL (calm : X.calm = true) (few : X.A.units + 65 < cLine) : CallRK X (.builtin "max") [Str.ofString "default"] (rMaxL X.K) := by
  intro pins u σ H vs zs us ws Q I r rz h
  obtain ⟨a, ns, d, rfl, rfl, hs, q0, q1⟩ := h
  obtain ⟨its, rv, hl, _⟩ := I.list hs
  obtain rfl := Vals.ref1 r
  obtain ⟨w1, rfl, e1⟩ := vals1 rz
  obtain ⟨td, rfl⟩ : ∃ t, w1 = Value.int d t := e1
  have all : PySem.ReadsAll u.heap its.toArray.toList (ns.map .int) [] := IntsAre.reads u.heap rv.ints
  have alike : PySem.W.AlikeAll (ns.map PyData.int) := by
    refine ⟨fun x hx y hy => ?_, fun x hx => ?_⟩
    · obtain ⟨i, _, rfl⟩ := List.mem_map.mp hx
      obtain ⟨j, _, rfl⟩ := List.mem_map.mp hy
      rfl
    · obtain ⟨i, _, rfl⟩ := List.mem_map.mp hx
      intro e
      cases e
  have flat : PyData.depthAll (ns.map PyData.int) = 0 := by
    have := depthAll_of (f := PyData.int) (k := 0) (xs := ns) fun x _ => by simp [PyData.depth]
    omega
  refine PySem.W.max_list_default (I.ok.hd calm) hl.isList all alike (by rw [flat]; omega) (fun e h' tk hk => ?_) fun y ys i v h' tk bs e hv hr hk => ?_
  · exact ⟨.int d, H, I.kept (t' := tk) hk, ⟨td, rfl⟩, q0 (List.map_eq_nil_iff.mp e)⟩
  · cases ns with
    | nil => cases e
    | cons n r =>
      injection e with e1 e2
      subst e1 e2
      rw [PySem.W.maxD_ints] at hr
      obtain ⟨g1, g2, g3⟩ := fold_max r n
      cases hr
      refine ⟨.int _, H, I.kept (t' := tk) hk, ⟨_, rfl⟩, q1 _ ?_ fun j hj => ?_⟩
      · rcases g1 with z | z
        · rw [z]; exact List.mem_cons_self
        · exact List.mem_cons_of_mem _ z
      · rcases List.mem_cons.mp hj with z | z
        · rw [z]; exact g2
        · exact g3 j z
end
end Sky

/-! A rule of my own: for i, x in enumerate(t), t a tuple. -/
namespace Sky
open PySem PySem.Spec PyProof.Rows L2 PySem.W
theorem new_enum {v : Value} {o : Obj} {Z : Heap → Prop} (B : Begins v o Z) :
    Meets (Builtin.«enumerate.__new__» ⟨[.type "enumerate", v], []⟩) (fun _ R u => Z u.heap ∧
      R (.ok (.ret (.ref (u.heap.push o).objs.size))) ({ u with heap := (u.heap.push o).push { cls := .type "enumerate", data := .fields #[.none, .bool false, .ref u.heap.objs.size, rawInt 0, .none, .none] } } : Shared)) := by
  refine .of_wp fun prog w A R u both => ?_
  obtain ⟨hp, g, d, tk, os⟩ := u
  obtain ⟨z, fin⟩ := both
  have sub := sub_enumerate
  have goes : ∀ {A2 : Around} {E2 : Value → Shared → Prop} {Q2 : Value → Shared → Prop}, Q2 (.ref hp.objs.size) ⟨hp.push o, g, d, tk, os⟩ → wpAny (model prog w) A2 (pyIter v) Q2 E2 ⟨hp, g, d, tk, os⟩ := by
    intro A2 E2 Q2 q
    exact B.iter prog w A2 E2 ⟨hp, g, d, tk, os⟩ Q2 z q
  wp_walk using goes
  refine wpAny_stack_any fun st => wpAny_pure ?_
  split
  · rename_i c _ _ _ _ _
    cases c == Value.type "enumerate" <;> (wp_walk using goes; exact ⟨_, rfl, fin⟩)
  · wp_walk using goes
    exact ⟨_, rfl, fin⟩
section
variable {prog : Program} {w : World} {A : Around} {E : Value → Shared → Prop} {u : Shared}
theorem call_enum {v : Value} {o : Obj} {Z : Heap → Prop} {Q : Value → Shared → Prop} (B : Begins v o Z) (z : Z u.heap)
    (fin : ∀ g, IsEnum g (u.heap.objs.size + 1) u.heap.objs.size 0 .none → g.get? u.heap.objs.size = some o → g.objs.size = u.heap.objs.size + 2 → (∀ b x, u.heap.get? b = some x → g.get? b = some x) → Q (.ref (u.heap.objs.size + 1)) { u with heap := g }) :
    wpAny (model prog w) A (call (.type "enumerate") [v]) Q E u := by
  refine callType_new F.called_enumerate (by decide) (F.typeCall_enumerate_1 _) (F.newCall_enumerate_1 _) (fun ob => F.args_object_init_2 ob _) F.entry_enumerate_new (new_enum B) ⟨z, ?_⟩
  have size1 : (u.heap.push o).objs.size = u.heap.objs.size + 1 := Heap.size_push ..
  show _ ∧ _
  rw [size1]
  have made : IsEnum ((u.heap.push o).push { cls := .type "enumerate", data := .fields #[.none, .bool false, .ref u.heap.objs.size, rawInt 0, .none, .none] }) (u.heap.objs.size + 1) u.heap.objs.size 0 .none := by
    have e := Heap.get?_push_size (u.heap.push o) (o := { cls := .type "enumerate", data := .fields #[.none, .bool false, .ref u.heap.objs.size, rawInt 0, .none, .none] }) rfl
    rw [size1] at e
    exact e
  refine ⟨⟨_, made, rfl⟩, fin _ made ?_ (by rw [Heap.size_push, size1]) fun b x e => ?_⟩
  · exact Heap.get?_push_of_some _ (Heap.get?_push_size _ B.free)
  · exact Heap.get?_push_of_some _ (Heap.get?_push_of_some _ e)
end
/-- the tuple at a, each item in a new pair -/
def Iet (K : PySem.W.Frag) (a : Addr) : It where
  go i H := ∃ (xs : List V) (x : V), SqT K H a xs ∧ xs[i]? = some x
  yld i H v H' := ∃ T x, v = .ref T ∧ H T = none ∧ H' = upd H T (.tup [.int (i : Nat), x]) ∧ ∀ xs, SqT K H a xs → xs[i]? = some x
  stop i H := ∃ xs : List V, SqT K H a xs ∧ xs.length ≤ i
theorem enum_ne {h : Heap} {e it a : Addr} {k : Int} {old : Value} {items : Array Value} (x : IsEnum h e it k old) (y : h.IsTuple a items) : e ≠ a := by
  intro z
  subst z
  obtain ⟨o, e1, e2, _⟩ := y
  have e3 := e1.symm.trans x
  injection e3 with e3
  rw [e3] at e2
  injection e2 with e4
  exact absurd e4 (by decide)
theorem iter_ne {h : Heap} {it a : Addr} {k : Nat} {items : Array Value} (x : h.IsTupleIter it a k) (y : h.IsTuple a items) : a ≠ it := by
  intro z
  subst z
  obtain ⟨o, e1, e2, _⟩ := y
  obtain ⟨o2, e3, e4, _⟩ := x
  have e5 := e1.symm.trans e3
  injection e5 with e5
  rw [e5, e4] at e2
  injection e2 with e6
  exact absurd e6 (by decide)
theorem turn_iet {P : Program} {w : World} {K : PySem.W.Frag} {elts : List Expr} {kk : Nat} {tpos : Pos} (a e it : Addr) :
    Turn P w K (.Tuple elts kk tpos) (Iet K a) [e, it] e (fun i h => (∃ old, IsEnum h e it ((i : Nat) : Int) old) ∧ h.IsTupleIter it a i ∧ e ≠ it) where
  mem := List.mem_cons_self
  obj := by
    intro i h st b hb
    obtain ⟨⟨old, he⟩, ⟨o, ho, hc, hd⟩, _⟩ := st
    rcases List.mem_cons.mp hb with z | z
    · subst z; exact ⟨_, he, fun v q => nomatch q⟩
    · rw [List.mem_singleton.mp z]; exact ⟨o, ho, fun v q => by rw [hd] at q; cases q⟩
  keep := by
    intro i h h' st k
    obtain ⟨⟨old, he⟩, hi, hne⟩ := st
    exact ⟨⟨old, k e (by simp) _ he⟩, hi.at fun o q => k it (by simp) o q, hne⟩
  item := by
    intro X hP hw hK hc i pins u σ H E I hf st hg
    subst hP hw hK
    obtain ⟨⟨old, he⟩, hit, hne⟩ := st
    obtain ⟨xs, x, hq, hx⟩ := hg
    obtain ⟨its, rv, p, _⟩ := I.tuple hq
    obtain ⟨v, hv, rx⟩ := rv.get hx
    have pt : u.heap.IsTuple a its.toArray := p
    have lowe : e < u.heap.objs.size := Heap.lt_size he
    have lowi : it < u.heap.objs.size := by obtain ⟨_, q, _⟩ := hit; exact Heap.lt_size q
    have nea := enum_ne he pt
    have draws := Draws.tuple (prog := X.prog) (w := X.w) (A := X.A.in1) (I.ok.hd hc) it a (iter_ne hit pt) its.toArray
    have hil : i < its.toArray.size := by
      have := (List.getElem?_eq_some_iff.mp hv).1
      simpa using this
    refine wpAny_pyNext_enum_itemD draws he ⟨hit, pt⟩ hil hne (by simp [hne, nea]) fun v2 g tk hv2 out st2 hT hsz kept => ?_
    have ev : v2 = v := by
      rw [show its.toArray[i]? = some v by simpa using hv] at hv2
      exact (Option.some.inj hv2).symm
    subst ev
    refine ⟨_, rfl, wpAny_letOwnedTupleGo_enum (s := { u with heap := g, toks := tk + 1 }) out fun g2 he2 sb => ?_⟩
    have tup : g2.get? u.heap.objs.size = some { cls := .type "tuple", data := .seq #[.int i tk, v2] } := (sb.2 _ (Nat.ne_of_gt lowe)).trans hT
    have new : ObjOk X.prog X.w (upd H u.heap.objs.size (.tup [.int (i : Nat), x])) g2 u.heap.objs.size (.tup [.int (i : Nat), x]) := by
      refine ⟨?_, [.int i tk, v2], .cons ⟨_, rfl⟩ (.cons rx .nil), ⟨_, tup, rfl, _, rfl⟩⟩
      show 2 ≤ sizeLine
      decide
    have J : Inv X pins σ (upd H u.heap.objs.size (.tup [.int (i : Nat), x])) { u with heap := g2, toks := tk + 1 } := by
      refine I.turnedNew (ch := [e, it]) (fun b ob hb q => ?_) hf (Nat.le_refl _) new
      have b1 : b ≠ e := fun z => hb (by simp [z])
      have b2 : b ≠ it := fun z => hb (by simp [z])
      exact (sb.2 b b1).trans (kept b ob b1 b2 q)
    refine ⟨.ref u.heap.objs.size, _, J, rfl, ⟨_, x, rfl, I.hok.fresh (Nat.le_refl _), rfl, fun ys hy => by rw [I.tuple_inj hy hq]; exact hx⟩, ⟨⟨v2, ?_⟩, st2.1.at fun o q => (sb.2 it (Ne.symm hne)).trans q, hne⟩, fun b hb => ?_⟩
    · rw [show ((i + 1 : Nat) : Int) = (i : Int) + 1 by omega]
      exact he2
    · have low : b < u.heap.objs.size := by
        rcases List.mem_cons.mp hb with z | z
        · rw [z]; exact lowe
        · rw [List.mem_singleton.mp z]; exact lowi
      rw [upd_ne (Nat.ne_of_lt low)]
      exact (hf b hb).1
  done := by
    intro X hP hw hK hc i pins u σ H E I hf st hg
    subst hP hw hK
    obtain ⟨⟨old, he⟩, hit, hne⟩ := st
    obtain ⟨xs, hq, hx⟩ := hg
    obtain ⟨its, rv, p, _⟩ := I.tuple hq
    have pt : u.heap.IsTuple a its.toArray := p
    obtain ⟨f0, f1, f2, f3, f4, f5⟩ := hf it (by simp)
    have hl := rv.length
    have ends : Draws X.prog X.w X.A.in1 it [it, a] i (fun _ _ => True) (fun j h => j = i ∧ h.IsTupleIter it a i ∧ h.IsTuple a its.toArray) := by
      refine ⟨fun _ _ z => ?_, fun _ _ _ z k => ?_, fun j _ _ _ lt z => ?_, fun t Q2 E2 z q => ?_⟩
      · obtain ⟨_, ⟨o, ho, _⟩, _⟩ := z
        exact ⟨o, ho⟩
      · exact ⟨z.1, z.2.1.at fun o e => k it (by simp) o e, z.2.2.at fun o e => k a (by simp) o e⟩
      · have := z.1
        omega
      · exact wpAny_nextOf_tuple_end (I.ok.hd hc) z.2.1 z.2.2 (by simp; omega) q
    exact wpAny_pyNext_enum_endD ends he ⟨rfl, hit, pt⟩ fun g eb => ⟨rfl, I.turned (t' := u.toks) (fun b o hb q => eb b o hb q) f0 f1 f3 f4 f5⟩
  self := by
    intro A i u Q E st h
    obtain ⟨⟨_, he⟩, _⟩ := st
    exact wpAny_pyIter_enum he h
def iEnumT (K : PySem.W.Frag) (ta : TA) : TI := fun σ H R => ta σ H fun vs G => ∃ a xs, vs = [.ref a] ∧ SqT K G a xs ∧ R (Iet K a) G
theorem pi_enumT {X : Cx} {e : Expr} {ta : TA} {p pos tpos : Pos} {elts : List Expr} {kk : Nat} (glob : Gl X "enumerate") (unset : X.mg "enumerate" = none) (arg : PA X [e] ta) (one : starEach [e] X.env = [(false, eval e X.env)] := by rfl) :
    PI X (.Tuple elts kk tpos) (.Call (.Name "enumerate" p) [e] [] pos) (iEnumT X.K ta) := by
  constructor
  intro pins u σ H R I h
  refine Call_ (ld_blt I glob unset boot_enumerate (PyProof.Rows.callWith_type1 (thn (arg.run pos pins u σ H _ I h) fun us u1 ⟨vs, G, I1, r1, q1⟩ => ?_) one rfl))
  obtain ⟨a, xs, ex, hq, q⟩ := q1
  subst ex
  obtain rfl := Vals.ref1 r1
  obtain ⟨its, rv, pt, _⟩ := I1.tuple hq
  refine call_enum (begins_tuple a its.toArray) (show u1.heap.IsTuple a its.toArray from pt) fun g he hit hsz hk => wpAny_pyIter_enum he ?_
  have I2 : Inv X pins σ G { u1 with heap := g } := I1.kept (t' := u1.toks) hk
  refine ⟨u1.heap.objs.size + 1, [u1.heap.objs.size + 1, u1.heap.objs.size], _, _, G, rfl, I2, turn_iet a (u1.heap.objs.size + 1) u1.heap.objs.size, ⟨⟨.none, he⟩, ⟨_, hit, rfl, rfl⟩, Nat.succ_ne_self _⟩, fun b hb => ?_, q⟩
  have low : u1.heap.objs.size ≤ b := by
    rcases List.mem_cons.mp hb with z | z
    · rw [z]; exact Nat.le_add_right _ _
    · rw [List.mem_singleton.mp z]; exact Nat.le_refl _
  exact I1.fpOk low (I1.hok.fresh low)
/-- enumerate(t): each turn a new pair -/
theorem for_enumT {K : PySem.W.Frag} {l : Addr} {ys : List V} {g : TG} {tb : L2.TS} {D : Ends} {τ : L2.St} {G : Hp} (Pv : Nat → L2.St → Hp → Prop) (start : Pv 0 τ G) (stays : ∀ i σ H, i ≤ ys.length → Pv i σ H → SqT K H l ys)
    (turn : ∀ i x σ H T, ys[i]? = some x → Pv i σ H → H T = none → g (.ref T) σ (upd H T (.tup [.int (i : Nat), x])) fun σ2 H2 => tb { D with nx := Pv (i + 1), ct := Pv (i + 1), bk := D.nx } σ2 H2)
    (last : ∀ σ H, Pv ys.length σ H → D.nx σ H) :
    ∃ W : Nat → Nat → L2.St → Hp → Prop, (∃ m, W 0 m τ G) ∧ ∀ i m σ H, W i m σ H →
      ((Iet K l).stop i H ∧ D.nx σ H) ∨ ((Iet K l).go i H ∧ ∃ N : L2.St → Hp → Prop, (∀ σ' H', N σ' H' → ∃ m', m' < m ∧ W (i + 1) m' σ' H') ∧
        ∀ x H', (Iet K l).yld i H x H' → g x σ H' fun σ2 H2 => tb { D with nx := N, ct := N, bk := D.nx } σ2 H2) := by
  refine ⟨fun i m σ H => i ≤ ys.length ∧ m = ys.length - i ∧ Pv i σ H, ⟨ys.length, Nat.zero_le _, (Nat.sub_zero _).symm, start⟩, ?_⟩
  rintro i m σ H ⟨le, rfl, hv⟩
  have there := stays i σ H le hv
  by_cases lt : i < ys.length
  · refine .inr ⟨⟨ys, ys[i], there, List.getElem?_eq_getElem lt⟩, Pv (i + 1), fun σ' H' w => ⟨ys.length - (i + 1), by omega, lt, rfl, w⟩, ?_⟩
    rintro x H' ⟨T, y, rfl, hT, rfl, hy⟩
    exact turn i y σ H T (hy ys there) hv hT
  · have e : i = ys.length := by omega
    subst e
    exact .inl ⟨⟨ys, there, Nat.le_refl _⟩, last σ H hv⟩
/-- the outer walk of a two-for dict comprehension over a tuple that stays -/
theorem dc2_tup {K : PySem.W.Frag} {a : Addr} {xs : List V} {ga : TG} {wj : TI} {gb : TG} {tk tv : TE} {va vb : List Nat} {σ : L2.St} {G1 : Hp} {D : Addr} {fin : Hp → Prop} (Pv : Nat → Hp → Prop) (start : Pv 0 (upd G1 D (.dK []))) (stays : ∀ i H, i ≤ xs.length → Pv i H → SqT K H a xs)
    (turn : ∀ i x H, xs[i]? = some x → Pv i H → ga x (wipe σ va) H fun τ G2 => wipe τ va = wipe σ va ∧ wj τ G2 fun L G3 => ∃ V1 : Nat → Nat → Hp → Prop, (∃ k, V1 0 k G3) ∧ ∀ j k F, V1 j k F →
      (L.stop j F ∧ Pv (i + 1) F) ∨ (L.go j F ∧ ∃ Ny : Hp → Prop, (∀ F', Ny F' → ∃ k', k' < k ∧ V1 (j + 1) k' F') ∧ ∀ y F', L.yld j F y F' →
        gb y (wipe τ vb) F' fun ρ F2 => wipe ρ vb = wipe τ vb ∧ tk ρ F2 fun a F3 => tv ρ F3 fun b F4 => ∃ kvs key, a = kV key ∧ F4 D = some (.dK kvs) ∧ kvs.length < sizeLine ∧ Ny (upd F4 D (.dK (putK kvs key b)))))
    (last : ∀ H, Pv xs.length H → fin H) :
    ∃ W : Nat → Nat → Hp → Prop, (∃ m, W 0 m (upd G1 D (.dK []))) ∧ ∀ i m G, W i m G →
      ((Itt K a).stop i G ∧ fin G) ∨
      ((Itt K a).go i G ∧ ∃ Nx : Hp → Prop, (∀ G', Nx G' → ∃ m', m' < m ∧ W (i + 1) m' G') ∧ ∀ x G', (Itt K a).yld i G x G' →
        ga x (wipe σ va) G' fun τ G2 => wipe τ va = wipe σ va ∧
          wj τ G2 fun L G3 => ∃ V1 : Nat → Nat → Hp → Prop, (∃ k, V1 0 k G3) ∧ ∀ j k F, V1 j k F →
            (L.stop j F ∧ Nx F) ∨
            (L.go j F ∧ ∃ Ny : Hp → Prop, (∀ F', Ny F' → ∃ k', k' < k ∧ V1 (j + 1) k' F') ∧ ∀ y F', L.yld j F y F' →
              gb y (wipe τ vb) F' fun ρ F2 => wipe ρ vb = wipe τ vb ∧
                tk ρ F2 fun a F3 => tv ρ F3 fun b F4 => ∃ kvs key, a = kV key ∧ F4 D = some (.dK kvs) ∧ kvs.length < sizeLine ∧ Ny (upd F4 D (.dK (putK kvs key b))))) := by
  refine ⟨fun i m H => i ≤ xs.length ∧ m = xs.length - i ∧ Pv i H, ⟨xs.length, Nat.zero_le _, (Nat.sub_zero _).symm, start⟩, ?_⟩
  rintro i m H ⟨le, rfl, hv⟩
  have there := stays i H le hv
  by_cases lt : i < xs.length
  · refine .inr ⟨⟨xs, xs[i], there, List.getElem?_eq_getElem lt⟩, Pv (i + 1), fun H' w => ⟨xs.length - (i + 1), by omega, lt, rfl, w⟩, ?_⟩
    rintro x H' ⟨e, hy⟩
    subst e
    exact turn i x _ (hy xs there) hv
  · have e : i = xs.length := by omega
    subst e
    exact .inl ⟨⟨xs, there, Nat.le_refl _⟩, last H hv⟩
/-- its inner walk over a range -/
theorem dc2_range {lo : Int} {n : Nat} {gb : TG} {tk tv : TE} {vb : List Nat} {τ : L2.St} {F0 : Hp} {D : Addr} {fin : Hp → Prop} (Pv : Nat → Hp → Prop) (start : Pv 0 F0)
    (turn : ∀ j F, j < n → Pv j F → gb (.int (lo + j)) (wipe τ vb) F fun ρ F2 => wipe ρ vb = wipe τ vb ∧ tk ρ F2 fun a F3 => tv ρ F3 fun b F4 => ∃ kvs key, a = kV key ∧ F4 D = some (.dK kvs) ∧ kvs.length < sizeLine ∧ Pv (j + 1) (upd F4 D (.dK (putK kvs key b))))
    (last : ∀ F, Pv n F → fin F) :
    ∃ V1 : Nat → Nat → Hp → Prop, (∃ k, V1 0 k F0) ∧ ∀ j k F, V1 j k F →
      ((Itr lo n).stop j F ∧ fin F) ∨ ((Itr lo n).go j F ∧ ∃ Ny : Hp → Prop, (∀ F', Ny F' → ∃ k', k' < k ∧ V1 (j + 1) k' F') ∧ ∀ y F', (Itr lo n).yld j F y F' →
        gb y (wipe τ vb) F' fun ρ F2 => wipe ρ vb = wipe τ vb ∧ tk ρ F2 fun a F3 => tv ρ F3 fun b F4 => ∃ kvs key, a = kV key ∧ F4 D = some (.dK kvs) ∧ kvs.length < sizeLine ∧ Ny (upd F4 D (.dK (putK kvs key b)))) := by
  refine ⟨fun j left F => left + j = n ∧ Pv j F, ⟨n, rfl, start⟩, ?_⟩
  rintro j left F ⟨sum, hv⟩
  cases left with
  | zero =>
    have all : j = n := by omega
    exact .inl ⟨by rw [all]; exact Nat.le_refl n, last F (by rw [← all]; exact hv)⟩
  | succ left =>
    have less : j < n := by omega
    refine .inr ⟨less, Pv (j + 1), fun F' h => ⟨left, by omega, by omega, h⟩, ?_⟩
    rintro _ _ ⟨rfl, rfl⟩
    exact turn j _ less hv
end Sky

/-! Rules of my own: sum of a tuple of ints; within a comprehension. -/
namespace Sky
open PySem PySem.Spec PyProof.Rows L2
def rSumT (K : PySem.W.Frag) : List V → Hp → VK → Prop := fun vs H Q => ∃ (a : Addr) (ns : List Int), vs = [V.ref a] ∧ SqT K H a (ns.map V.int) ∧ Q (.int ns.sum) H
section
variable {X : Cx}
theorem cr_sumT (calm : X.calm = true) : CallR X (.builtin "sum") (rSumT X.K) := by
  intro pins u σ H vs us Q I r h
  obtain ⟨a, ns, rfl, hs, q⟩ := h
  obtain ⟨its, rv, pt, _⟩ := I.tuple hs
  rw [Vals.ref1 r]
  have hints := rv.ints
  obtain ⟨xs, ex⟩ := hints.allInts.items
  have en : numsOf (intItems xs).toList = ns := by rw [← ex]; exact hints.numsOf
  rw [nums_intItems] at en
  have pt2 : u.heap.IsTuple a its.toArray := pt
  rw [ex] at pt2
  refine PySem.W.ktm_sumG (I.ok.hd calm) pt2 fun h' tk t' hk => ?_
  rw [preSum_eq, List.take_of_length_le (by simp), en]
  exact ⟨.int _, H, I.kept (t' := tk) hk, ⟨_, rfl⟩, q⟩
theorem cr_sumTK {K : PySem.W.Frag} (h : X.K = K) (calm : X.calm = true) : CallR X (.builtin "sum") (rSumT K) := h ▸ cr_sumT calm
theorem sl_tupAK {K : PySem.W.Frag} (h : X.K = K) : SlR X (rSlA K) := h ▸ sl_tupA
end
end Sky

/-! Rules of my own: max of a tuple of ints; sum of a list, walks of tuples within comprehensions. -/
namespace Sky
open PySem PySem.Spec PyProof.Rows L2
def rMaxT (K : PySem.W.Frag) : List V → Hp → VK → Prop := fun vs H Q => ∃ (a : Addr) (ns : List Int), vs = [V.ref a] ∧ SqT K H a (ns.map V.int) ∧ ns ≠ [] ∧ ∀ m, m ∈ ns → (∀ j ∈ ns, j ≤ m) → Q (.int m) H
section
variable {X : Cx}
theorem cr_maxT (calm : X.calm = true) (few : X.A.units + 65 < cLine) : CallR X (.builtin "max") (rMaxT X.K) := by
  intro pins u σ H vs us Q I r h
  obtain ⟨a, ns, rfl, hs, hne, q1⟩ := h
  obtain ⟨its, rv, pt, _⟩ := I.tuple hs
  rw [Vals.ref1 r]
  have all : PySem.ReadsAll u.heap its.toArray.toList (ns.map .int) [] := IntsAre.reads u.heap rv.ints
  have flat : PyData.depthAll (ns.map PyData.int) = 0 := by
    have := depthAll_of (f := PyData.int) (k := 0) (xs := ns) fun x _ => by simp [PyData.depth]
    omega
  have alike : PySem.W.AlikeAll (ns.map PyData.int) := by
    refine ⟨fun x hx y hy => ?_, fun x hx => ?_⟩
    · obtain ⟨i, _, rfl⟩ := List.mem_map.mp hx
      obtain ⟨j, _, rfl⟩ := List.mem_map.mp hy
      rfl
    · obtain ⟨i, _, rfl⟩ := List.mem_map.mp hx
      intro e
      cases e
  cases ns with
  | nil => exact absurd rfl hne
  | cons n r =>
    refine PySem.W.max_tuple_data (I.ok.hd calm) (show u.heap.IsTuple a its.toArray from pt) all alike (by rw [show PyData.int n :: r.map PyData.int = (n :: r).map PyData.int from rfl, flat]; omega) fun i v h' tk bs hv hr hk => ?_
    rw [PySem.W.maxD_ints] at hr
    obtain ⟨g1, g2, g3⟩ := fold_max r n
    cases hr
    refine ⟨.int _, H, I.kept (t' := tk) hk, ⟨_, rfl⟩, q1 _ ?_ fun j hj => ?_⟩
    · rcases g1 with z | z
      · rw [z]; exact List.mem_cons_self
      · exact List.mem_cons_of_mem _ z
    · rcases List.mem_cons.mp hj with z | z
      · rw [z]; exact g2
      · exact g3 j z
theorem cr_sumK {K : PySem.W.Frag} (h : X.K = K) (calm : X.calm = true) : CallR X (.builtin "sum") (rSum K) := h ▸ cr_sum calm
theorem pi_tupK {K : PySem.W.Frag} {tg l : Expr} {tl : TE} (h : X.K = K) (hl : PE X l tl) : PI X tg l (iTup K tl) := h ▸ pi_tup hl
end
end Sky

namespace K22
open PySem PySem.Spec PyProof.Rows L2 Sky
def topS (i : Nat) : Stmt := PySem.Challenge.pw_skyframes_k22_whole_room_enough.main.body.getD i (.Pass ⟨0, 0, 0, 0⟩)
abbrev s_is_number : Stmt := topS 8
abbrev N_is_number : List Str := ["value", "low", "high"]
theorem sc_is_number : FnScope N_is_number ["value", "low", "high"] (defScope s_is_number) := ⟨rfl, rfl, rfl, by decide +kernel, rfl, by decide +kernel, by decide +kernel⟩
abbrev s_is_window : Stmt := topS 9
abbrev N_is_window : List Str := ["value", "low", "high", "begin", "end"]
theorem sc_is_window : FnScope N_is_window ["value", "low", "high"] (defScope s_is_window) := ⟨rfl, rfl, rfl, by decide +kernel, rfl, by decide +kernel, by decide +kernel⟩
abbrev s_check_room : Stmt := topS 10
abbrev N_check_room : List Str := ["room"]
theorem sc_check_room : FnScope N_check_room ["room"] (defScope s_check_room) := ⟨rfl, rfl, rfl, by decide +kernel, rfl, by decide +kernel, by decide +kernel⟩
abbrev s_check_makes : Stmt := topS 11
abbrev N_check_makes : List Str := ["makes", "many"]
theorem sc_check_makes : FnScope N_check_makes ["makes"] (defScope s_check_makes) := ⟨rfl, rfl, rfl, by decide +kernel, rfl, by decide +kernel, by decide +kernel⟩
abbrev s_check_windows : Stmt := topS 12
abbrev N_check_windows : List Str := ["windows", "beats", "low", "window"]
theorem sc_check_windows : FnScope N_check_windows ["windows", "beats"] (defScope s_check_windows) := ⟨rfl, rfl, rfl, by decide +kernel, rfl, by decide +kernel, by decide +kernel⟩
abbrev s_most_kept : Stmt := topS 14
abbrev N_most_kept : List Str := ["makes", "windows"]
theorem sc_most_kept : FnScope N_most_kept ["makes", "windows"] (defScope s_most_kept) := ⟨rfl, rfl, rfl, by decide +kernel, rfl, by decide +kernel, by decide +kernel⟩
abbrev s_short_at : Stmt := topS 15
abbrev N_short_at : List Str := ["makes", "windows", "room"]
theorem sc_short_at : FnScope N_short_at ["makes", "windows", "room"] (defScope s_short_at) := ⟨rfl, rfl, rfl, by decide +kernel, rfl, by decide +kernel, by decide +kernel⟩
abbrev s_least_windows : Stmt := topS 16
abbrev N_least_windows : List Str := ["makes", "room", "windows"]
theorem sc_least_windows : FnScope N_least_windows ["makes", "room"] (defScope s_least_windows) := ⟨rfl, rfl, rfl, by decide +kernel, rfl, by decide +kernel, by decide +kernel⟩
abbrev s_kept_at_beats : Stmt := topS 17
abbrev N_kept_at_beats : List Str := ["makes", "windows", "beat", "sends", "rows", "kept", "many", "begin", "end"]
theorem sc_kept_at_beats : FnScope N_kept_at_beats ["makes", "windows"] (defScope s_kept_at_beats) := ⟨rfl, rfl, rfl, by decide +kernel, rfl, by decide +kernel, by decide +kernel⟩
abbrev s_first_short : Stmt := topS 18
abbrev N_first_short : List Str := ["makes", "windows", "room", "beat", "kept"]
theorem sc_first_short : FnScope N_first_short ["makes", "windows", "room"] (defScope s_first_short) := ⟨rfl, rfl, rfl, by decide +kernel, rfl, by decide +kernel, by decide +kernel⟩
abbrev s_latest_beats : Stmt := topS 19
abbrev N_latest_beats : List Str := ["makes", "room", "due", "made", "beat", "many", "beats", "ahead"]
theorem sc_latest_beats : FnScope N_latest_beats ["makes", "room"] (defScope s_latest_beats) := ⟨rfl, rfl, rfl, by decide +kernel, rfl, by decide +kernel, by decide +kernel⟩
abbrev s_windows_of : Stmt := topS 20
abbrev N_windows_of : List Str := ["beats", "windows", "beat"]
theorem sc_windows_of : FnScope N_windows_of ["beats"] (defScope s_windows_of) := ⟨rfl, rfl, rfl, by decide +kernel, rfl, by decide +kernel, by decide +kernel⟩
abbrev s_law_mix : Stmt := topS 22
abbrev N_law_mix : List Str := ["_law_script", "_law_seed", "_law_mixed", "_law_cell"]
theorem sc_law_mix : FnScope N_law_mix ["_law_script", "_law_seed"] (defScope s_law_mix) := ⟨rfl, rfl, rfl, by decide +kernel, rfl, by decide +kernel, by decide +kernel⟩
abbrev s_law_next : Stmt := topS 23
abbrev N_law_next : List Str := ["_law_h", "_law_many", "_law_at", "_law_cell"]
theorem sc_law_next : FnScope N_law_next ["_law_h", "_law_many"] (defScope s_law_next) := ⟨rfl, rfl, rfl, by decide +kernel, rfl, by decide +kernel, by decide +kernel⟩
abbrev s_law_windows : Stmt := topS 24
abbrev N_law_windows : List Str := ["_law_h", "_law_many", "_law_found", "_law_last", "_law_begin", "_law_end"]
theorem sc_law_windows : FnScope N_law_windows ["_law_h", "_law_many"] (defScope s_law_windows) := ⟨rfl, rfl, rfl, by decide +kernel, rfl, by decide +kernel, by decide +kernel⟩
abbrev s_law_ahead : Stmt := topS 25
abbrev N_law_ahead : List Str := ["_law_windows_here", "_law_beat", "_law_begin", "_law_end"]
theorem sc_law_ahead : FnScope N_law_ahead ["_law_windows_here", "_law_beat"] (defScope s_law_ahead) := ⟨rfl, rfl, rfl, by decide +kernel, rfl, by decide +kernel, by decide +kernel⟩
abbrev s_law : Stmt := topS 26
abbrev N_law : List Str := ["_law_script", "_law_h", "_law_turn", "_law_often", "_law_makes", "_law_windows_here", "_law_most", "_law_room", "_law_short", "_law_some", "_law_wider", "_law_found", "_law_beats", "_law_k", "_law_begin", "_law_end"]
theorem sc_law : FnScope N_law ["_law_script"] (defScope s_law) := ⟨rfl, rfl, rfl, by decide +kernel, rfl, by decide +kernel, by decide +kernel⟩
structure Tx (K : PySem.W.Frag) (mg : Str → Option Value) where
  a_is_number : Addr
  d_is_number : FuncData
  F_is_number : Fun K "is_number" "is_number" s_is_number a_is_number d_is_number
  b_is_number : Binds K d_is_number ["value", "low", "high"] []
  m_is_number : mg "is_number" = some (.ref a_is_number)
  a_is_window : Addr
  d_is_window : FuncData
  F_is_window : Fun K "is_window" "is_window" s_is_window a_is_window d_is_window
  b_is_window : Binds K d_is_window ["value", "low", "high"] []
  m_is_window : mg "is_window" = some (.ref a_is_window)
  a_check_room : Addr
  d_check_room : FuncData
  F_check_room : Fun K "check_room" "check_room" s_check_room a_check_room d_check_room
  b_check_room : Binds K d_check_room ["room"] []
  m_check_room : mg "check_room" = some (.ref a_check_room)
  a_check_makes : Addr
  d_check_makes : FuncData
  F_check_makes : Fun K "check_makes" "check_makes" s_check_makes a_check_makes d_check_makes
  b_check_makes : Binds K d_check_makes ["makes"] []
  m_check_makes : mg "check_makes" = some (.ref a_check_makes)
  a_check_windows : Addr
  d_check_windows : FuncData
  F_check_windows : Fun K "check_windows" "check_windows" s_check_windows a_check_windows d_check_windows
  b_check_windows : Binds K d_check_windows ["windows", "beats"] []
  m_check_windows : mg "check_windows" = some (.ref a_check_windows)
  a_most_kept : Addr
  d_most_kept : FuncData
  F_most_kept : Fun K "most_kept" "most_kept" s_most_kept a_most_kept d_most_kept
  b_most_kept : Binds K d_most_kept ["makes", "windows"] []
  m_most_kept : mg "most_kept" = some (.ref a_most_kept)
  a_short_at : Addr
  d_short_at : FuncData
  F_short_at : Fun K "short_at" "short_at" s_short_at a_short_at d_short_at
  b_short_at : Binds K d_short_at ["makes", "windows", "room"] []
  m_short_at : mg "short_at" = some (.ref a_short_at)
  a_least_windows : Addr
  d_least_windows : FuncData
  F_least_windows : Fun K "least_windows" "least_windows" s_least_windows a_least_windows d_least_windows
  b_least_windows : Binds K d_least_windows ["makes", "room"] []
  m_least_windows : mg "least_windows" = some (.ref a_least_windows)
  a_kept_at_beats : Addr
  d_kept_at_beats : FuncData
  F_kept_at_beats : Fun K "_kept_at_beats" "_kept_at_beats" s_kept_at_beats a_kept_at_beats d_kept_at_beats
  b_kept_at_beats : Binds K d_kept_at_beats ["makes", "windows"] []
  m_kept_at_beats : mg "_kept_at_beats" = some (.ref a_kept_at_beats)
  a_first_short : Addr
  d_first_short : FuncData
  F_first_short : Fun K "_first_short" "_first_short" s_first_short a_first_short d_first_short
  b_first_short : Binds K d_first_short ["makes", "windows", "room"] []
  m_first_short : mg "_first_short" = some (.ref a_first_short)
  a_latest_beats : Addr
  d_latest_beats : FuncData
  F_latest_beats : Fun K "_latest_beats" "_latest_beats" s_latest_beats a_latest_beats d_latest_beats
  b_latest_beats : Binds K d_latest_beats ["makes", "room"] []
  m_latest_beats : mg "_latest_beats" = some (.ref a_latest_beats)
  a_windows_of : Addr
  d_windows_of : FuncData
  F_windows_of : Fun K "_windows_of" "_windows_of" s_windows_of a_windows_of d_windows_of
  b_windows_of : Binds K d_windows_of ["beats"] []
  m_windows_of : mg "_windows_of" = some (.ref a_windows_of)
  a_law_mix : Addr
  d_law_mix : FuncData
  F_law_mix : Fun K "_law_mix" "_law_mix" s_law_mix a_law_mix d_law_mix
  b_law_mix : Binds K d_law_mix ["_law_script", "_law_seed"] []
  m_law_mix : mg "_law_mix" = some (.ref a_law_mix)
  a_law_next : Addr
  d_law_next : FuncData
  F_law_next : Fun K "_law_next" "_law_next" s_law_next a_law_next d_law_next
  b_law_next : Binds K d_law_next ["_law_h", "_law_many"] []
  m_law_next : mg "_law_next" = some (.ref a_law_next)
  a_law_windows : Addr
  d_law_windows : FuncData
  F_law_windows : Fun K "_law_windows" "_law_windows" s_law_windows a_law_windows d_law_windows
  b_law_windows : Binds K d_law_windows ["_law_h", "_law_many"] []
  m_law_windows : mg "_law_windows" = some (.ref a_law_windows)
  a_law_ahead : Addr
  d_law_ahead : FuncData
  F_law_ahead : Fun K "_law_ahead" "_law_ahead" s_law_ahead a_law_ahead d_law_ahead
  b_law_ahead : Binds K d_law_ahead ["_law_windows_here", "_law_beat"] []
  m_law_ahead : mg "_law_ahead" = some (.ref a_law_ahead)
  a_law : Addr
  d_law : FuncData
  F_law : Fun K "law" "law" s_law a_law d_law
  b_law : Binds K d_law ["_law_script"] []
  m_law : mg "law" = some (.ref a_law)
  z_all : mg "all" = none
  z_bool : mg "bool" = none
  z_enumerate : mg "enumerate" = none
  z_int : mg "int" = none
  z_isinstance : mg "isinstance" = none
  z_len : mg "len" = none
  z_list : mg "list" = none
  z_max : mg "max" = none
  z_min : mg "min" = none
  z_range : mg "range" = none
  z_reversed : mg "reversed" = none
  z_sorted : mg "sorted" = none
  z_sum : mg "sum" = none
  z_tuple : mg "tuple" = none
  t_MOST_ROOM : Tok
  c_MOST_ROOM : mg "MOST_ROOM" = some (.int 60 t_MOST_ROOM)
  t_MOST_BEATS : Tok
  c_MOST_BEATS : mg "MOST_BEATS" = some (.int 200 t_MOST_BEATS)
  t_MOST_MADE : Tok
  c_MOST_MADE : mg "MOST_MADE" = some (.int 6 t_MOST_MADE)
end K22

namespace K22
open PySem PySem.Spec PyProof.Rows L2 Sky
section
variable {P : Program} {w : World} {K : PySem.W.Frag} {mg : Str → Option Value} {base : Heap}
/-! ### what may be handed in -/
def sp_is_number : Sp := fun vs H Q _ => ∃ n lo hi : Int, vs = [.int n, .int lo, .int hi] ∧ Q (.bl (decide (lo ≤ n) && decide (n ≤ hi))) H
theorem ok_is_number (T : Tx K mg) : FnOk P w K mg base CX0 1 T.a_is_number T.d_is_number ["value", "low", "high"] sp_is_number := by
  have nd := sc_is_number.nd
  refine T.F_is_number.ok sc_is_number (fun vs H Q E h => ?_) (fun cdv A outer s H vs Q E hr h => ?_)
  · obtain ⟨n, lo, hi, rfl, _⟩ := h
    rfl
  · obtain ⟨n, lo, hi, rfl, q⟩ := h
    refine ⟨_, (pss_one (ps_ret (pe_and (pe_callB call_isi (by rfl) T.z_isinstance (by decide +kernel) (pa_cons (pv 0) (pa_cons (pe_bltn (v := .ty "int") (u := .type "int") (by rfl) T.z_int (by decide +kernel) rfl) pa_nil))) (pe_and (pe_not (pe_callB call_isi (by rfl) T.z_isinstance (by decide +kernel) (pa_cons (pv 0) (pa_cons (pe_bltn (v := .ty "bool") (u := .type "bool") (by rfl) T.z_bool (by decide +kernel) rfl) pa_nil)))) (pe_one (pe_chain op_le op_le (pv 1) (pv 0) (pv 2))))))), ?_⟩
    refine ⟨_, rfl, _, _, _, _, true, rfl, .ty "int", .base (.int n), kit_ty (by decide +kernel), true, rfl, iteT ?_⟩
    refine ⟨_, rfl, _, _, _, _, false, rfl, .ty "bool", .base (.int n), kit_ty (by decide +kernel), false, rfl, true, rfl, iteT ?_⟩
    refine ⟨_, rfl, _, rfl, _, _, rfl, rfl, _, rfl, ite2 (fun a => ?_) (fun a => ?_)⟩
    · refine ⟨_, rfl, _, _, rfl, rfl, ?_⟩
      rw [a, Bool.true_and] at q
      exact q
    · rw [Bool.eq_false_iff.mpr a, Bool.false_and] at q
      exact q
end
end K22

namespace K22
open PySem PySem.Spec PyProof.Rows L2 Sky
/-! ### plans, in numbers: ms, how many frames are made at each beat; iw, whether one goes at a beat; ws, windows -/
def inZ (ws : List (Int × Int)) (b : Int) : Bool := ws.any fun w => decide (w.1 ≤ b) && decide (b < w.2)
def inB (ws : List (Int × Int)) (b : Nat) : Bool := inZ ws (b : Nat)
/-- what is kept ahead of a beat -/
def keptB (ms : List Nat) (iw : Nat → Bool) : Nat → Nat
  | 0 => 0
  | i + 1 => keptB ms iw i + ms.getD i 0 - (if iw i = true then 1 else 0)
def rowB (ms : List Nat) (iw : Nat → Bool) (i : Nat) : Nat := keptB ms iw i + ms.getD i 0
def rowsB (ms : List Nat) (iw : Nat → Bool) : List Nat := (List.range ms.length).map (rowB ms iw)
/-- the first at which more than r -/
def firstN (l : List Nat) (r : Nat) : Option Nat := ((List.range l.length).filter fun i => decide (r < l.getD i 0)).head?
structure PlanZ (n : Nat) (ws : List (Int × Int)) : Prop where
  ok : ∀ w ∈ ws, 0 ≤ w.1 ∧ w.1 < w.2 ∧ w.2 ≤ (n : Nat)
  asc : ws.Pairwise fun a b => a.2 ≤ b.1
theorem six_at {ms : List Nat} (h : ∀ m ∈ ms, m ≤ 6) (i : Nat) : ms.getD i 0 ≤ 6 := by
  rw [List.getD_eq_getElem?_getD]
  cases e : ms[i]? with
  | none => exact Nat.zero_le _
  | some x => exact h x (List.mem_of_getElem? e)
theorem keptB_le (ms : List Nat) (iw : Nat → Bool) (h : ∀ m ∈ ms, m ≤ 6) : ∀ i, keptB ms iw i ≤ 6 * i
  | 0 => Nat.le_refl _
  | i + 1 => by
    have h1 := keptB_le ms iw h i
    have h2 := six_at h i
    show keptB ms iw i + ms.getD i 0 - _ ≤ _
    omega
theorem rowB_le (ms : List Nat) (iw : Nat → Bool) (h : ∀ m ∈ ms, m ≤ 6) (i : Nat) : rowB ms iw i ≤ 6 * i + 6 := by
  have h1 := keptB_le ms iw h i
  have h2 := six_at h i
  unfold rowB
  omega
theorem firstN_hit {l : List Nat} {r i : Nat} (hi : i < l.length) (h : r < l.getD i 0) (no : ∀ j, j < i → ¬ r < l.getD j 0) : firstN l r = some i := by
  unfold firstN
  refine head_least ((List.Pairwise.filter _ List.pairwise_lt_range).imp fun h => Nat.le_of_lt h) (List.mem_filter.mpr ⟨List.mem_range.mpr hi, decide_eq_true h⟩) fun y hy => ?_
  rcases Nat.lt_or_ge y i with z | z
  · exact absurd (of_decide_eq_true (List.mem_filter.mp hy).2) (no y z)
  · exact z
theorem firstN_none {l : List Nat} {r : Nat} (no : ∀ j, j < l.length → ¬ r < l.getD j 0) : firstN l r = none := by
  unfold firstN
  rw [List.head?_eq_none_iff, List.filter_eq_nil_iff]
  intro j hj h
  exact no j (List.mem_range.mp hj) (of_decide_eq_true h)
def wZ (w : Int × Int) : PyData := .tuple [.int w.1, .int w.2]
theorem td_w {H : Hp} {v : V} {w : Int × Int} (h : TD H v (wZ w)) : ∃ p, v = .ref p ∧ H p = some (.tup [.int w.1, .int w.2]) := by
  cases h with
  | tup h t =>
    cases t with
    | cons t1 t =>
      cases t1
      cases t with
      | cons t2 t =>
        cases t2
        cases t
        exact ⟨_, rfl, h⟩
/-- numbers of a plan lie in a tuple -/
structure MsAt (H : Hp) (am : Addr) (ms : List Nat) : Prop where
  m : H am = some (.tup ((ms.map fun x : Nat => (x : Int)).map V.int))
  six : ∀ x ∈ ms, x ≤ 6
  few : ms.length ≤ 200
theorem MsAt.ts {H H' : Hp} {am : Addr} {ms : List Nat} (h : MsAt H am ms) (s : TSm H H') : MsAt H' am ms := ⟨s _ _ h.m, h.six, h.few⟩
theorem MsAt.same {H H' : Hp} {am : Addr} {ms : List Nat} (h : MsAt H am ms) (s : Same H H') : MsAt H' am ms := h.ts (TSm.of_same s)
/-- windows lie in a tuple, near 0 -/
structure WsAt (H : Hp) (aw : Addr) (vs : List V) (ws : List (Int × Int)) : Prop where
  w : H aw = some (.tup vs)
  t : TDs H vs (ws.map wZ)
  lim : ∀ w ∈ ws, -3000 ≤ w.1 ∧ w.1 ≤ w.2 ∧ w.2 ≤ 3000
  wl : ws.length ≤ 2000
theorem WsAt.ts {H H' : Hp} {aw : Addr} {vs : List V} {ws : List (Int × Int)} (h : WsAt H aw vs ws) (s : TSm H H') : WsAt H' aw vs ws := ⟨s _ _ h.w, h.t.mono s, h.lim, h.wl⟩
theorem WsAt.same {H H' : Hp} {aw : Addr} {vs : List V} {ws : List (Int × Int)} (h : WsAt H aw vs ws) (s : Same H H') : WsAt H' aw vs ws := h.ts (TSm.of_same s)
theorem WsAt.len {H : Hp} {aw : Addr} {vs : List V} {ws : List (Int × Int)} (h : WsAt H aw vs ws) : vs.length = ws.length := by rw [h.t.length, List.length_map]
section
variable {P : Program} {w : World} {K : PySem.W.Frag} {mg : Str → Option Value} {base : Heap}
/-! ### what may be handed in -/
def sp_is_window : Sp := fun vs H Q _ => ∃ (p : Addr) (b e lo hi : Int), vs = [.ref p, .int lo, .int hi] ∧ H p = some (.tup [.int b, .int e]) ∧ lo ≤ b ∧ b < e ∧ e ≤ hi ∧ Q (.bl true) H
theorem ok_is_window (T : Tx K mg) : FnOk P w K mg base CX0 2 T.a_is_window T.d_is_window ["value", "low", "high"] sp_is_window := by
  have nd := sc_is_window.nd
  refine T.F_is_window.ok sc_is_window (fun vs H Q E h => ?_) (fun cdv A outer s H vs Q E hr h => ?_)
  · obtain ⟨_, _, _, _, _, rfl, _⟩ := h
    rfl
  · obtain ⟨p, b, e, lo, hi, rfl, hp, h1, h2, h3, q⟩ := h
    refine ⟨_, (pss_cons (ps_if (PW.pt (pw_or (pt_not (pt_val (pe_callB call_isi (by rfl) T.z_isinstance (by decide +kernel) (pa_cons (pv 0) (pa_cons (pe_bltn (v := .ty "tuple") (u := .type "tuple") (by rfl) T.z_tuple (by decide +kernel) rfl) pa_nil))))) (pw_or1 (pt_cmpR op_ne (pe_callB call_len_seq (by rfl) T.z_len PySem.boot_len (pa_cons (pv 0) pa_nil)) pe_int (nomark _))))) (pss_one (ps_ret pe_bl)) pss_nil) (pss_cons (ps_asg (pv 0) (pg_tup rfl (pgs_cons (pg_name (i := 3) nd rfl (Or.inl rfl)) (pgs_cons (pg_name (i := 4) nd rfl (Or.inl rfl)) pgs_nil)))) (pss_one (ps_ret (pe_and (pe_call (ok_is_number T) (hr.mono (by decide)) (by rfl) T.m_is_number T.F_is_number.kp T.b_is_number .nil pass0 (pa_cons (pv 3) (pa_cons (pv 1) (pa_cons (pv 2) pa_nil)))) (pe_one (pe_call (ok_is_number T) (hr.mono (by decide)) (by rfl) T.m_is_number T.F_is_number.kp T.b_is_number .nil pass0 (pa_cons (pv 4) (pa_cons (pe_op op_add (pv 3) pe_int) (pa_cons (pv 2) pa_nil)))))))))), ?_⟩
    refine ⟨_, rfl, _, _, _, _, true, rfl, .ty "tuple", .base (.tup hp), kit_ty (by decide +kernel), true, rfl, iteF ?_⟩
    refine ⟨_, rfl, _, _, rfl, .inr (SqT.of hp), rfl, _, rfl, iteF ?_⟩
    refine ⟨_, rfl, p, _, rfl, SqT.of hp, rfl, _, _, rfl, _, _, rfl, rfl, ?_⟩
    refine ⟨_, rfl, _, rfl, _, rfl, _, _, _, rfl, ?_⟩
    rw [decide_eq_true (show lo ≤ b by omega), decide_eq_true (show b ≤ hi by omega)]
    refine ⟨true, rfl, iteT ?_⟩
    refine ⟨_, rfl, _, rfl, _, 1, rfl, rfl, _, rfl, _, _, _, rfl, ?_⟩
    rw [decide_eq_true (show b + 1 ≤ e by omega), decide_eq_true (show e ≤ hi by omega)]
    exact q
def sp_check_room : Sp := fun vs H Q _ => ∃ r : Nat, vs = [.int (r : Nat)] ∧ 1 ≤ r ∧ r ≤ 60 ∧ Q .non H
theorem ok_check_room (T : Tx K mg) : FnOk P w K mg base CX0 2 T.a_check_room T.d_check_room ["room"] sp_check_room := by
  have nd := sc_check_room.nd
  refine T.F_check_room.ok sc_check_room (fun vs H Q E h => ?_) (fun cdv A outer s H vs Q E hr h => ?_)
  · obtain ⟨_, rfl, _⟩ := h
    rfl
  · obtain ⟨r, rfl, h1, h2, q⟩ := h
    refine ⟨_, (pss_one (ps_if (pt_not (pt_val (pe_call (ok_is_number T) (hr.mono (by decide)) (by rfl) T.m_is_number T.F_is_number.kp T.b_is_number .nil pass0 (pa_cons (pv 0) (pa_cons pe_int (pa_cons (pe_glob (v := .int 60) (by rfl) T.c_MOST_ROOM ⟨_, rfl⟩) pa_nil)))))) (pss_one ps_never) pss_nil)), ?_⟩
    refine ⟨_, rfl, _, 1, 60, rfl, ?_⟩
    rw [decide_eq_true (show (1 : Int) ≤ ((r : Nat) : Int) by omega), decide_eq_true (show ((r : Nat) : Int) ≤ 60 by omega)]
    exact ⟨true, rfl, iteF q⟩
def sp_check_makes : Sp := fun vs H Q _ => ∃ (a : Addr) (ms : List Nat), vs = [.ref a] ∧ H a = some (.tup ((ms.map fun x : Nat => (x : Int)).map V.int)) ∧ (∀ x ∈ ms, x ≤ 6) ∧ ms.length ≤ 200 ∧ ∀ H', Same H H' → Q .non H'
theorem ok_check_makes (T : Tx K mg) : FnOk P w K mg base CX0 2 T.a_check_makes T.d_check_makes ["makes"] sp_check_makes := by
  have nd := sc_check_makes.nd
  refine T.F_check_makes.ok sc_check_makes (fun vs H Q E h => ?_) (fun cdv A outer s H vs Q E hr h => ?_)
  · obtain ⟨_, _, rfl, _⟩ := h
    rfl
  · obtain ⟨a, ms, rfl, ha, hx, hl, q⟩ := h
    refine ⟨_, (pss_cons (ps_if (PW.pt (pw_or (pt_not (pt_val (pe_callB call_isi (by rfl) T.z_isinstance (by decide +kernel) (pa_cons (pv 0) (pa_cons (pe_bltn (v := .ty "tuple") (u := .type "tuple") (by rfl) T.z_tuple (by decide +kernel) rfl) pa_nil))))) (pw_or1 (pt_cmpR op_gt (pe_callB call_len_seq (by rfl) T.z_len PySem.boot_len (pa_cons (pv 0) pa_nil)) (pe_glob (v := .int 200) (by rfl) T.c_MOST_BEATS ⟨_, rfl⟩) (nomark _))))) (pss_one ps_never) pss_nil) (pss_one (ps_if (pt_not (pt_val (pe_callB (cr_all rfl) (by rfl) T.z_all (by decide +kernel) (pa_cons (pe_lc (own := [("many", 1)]) rfl nd (pi_tup (pv 0)) (blkOk_by (own := [("many", 1)]) (N := N_check_makes) (sc := defScope s_check_makes) (by decide +kernel)) (fun _ _ _ _ _ => (pg_name (i := 1) nd rfl (Or.inl rfl))) (fun _ _ _ _ _ => pts_nil) (fun _ _ _ _ _ => (pe_call (ok_is_number T) (hr.mono (by decide)) (by rfl) T.m_is_number T.F_is_number.kp T.b_is_number .nil pass0 (pa_cons (pv 1) (pa_cons pe_int (pa_cons (pe_glob (v := .int 6) (by rfl) T.c_MOST_MADE ⟨_, rfl⟩) pa_nil)))))) pa_nil)))) (pss_one ps_never) pss_nil))), ?_⟩
    refine ⟨_, rfl, _, _, _, _, true, rfl, .ty "tuple", .base (.tup ha), kit_ty (by decide +kernel), true, rfl, iteF ?_⟩
    refine ⟨_, rfl, _, _, rfl, .inr (SqT.of ha), _, 200, rfl, rfl, false, dF (by rw [List.length_map, List.length_map]; omega), iteF ?_⟩
    refine ⟨_, rfl, a, rfl, ⟨_, SqT.of ha⟩, fun D hD => ?_⟩
    refine lc_tup (K := K) (a := a) (xs := (ms.map fun x : Nat => (x : Int)).map V.int) (fun i H' => Same H H' ∧ H' D = some (.lst ((List.replicate i true).map V.bl))) ⟨same_new (Same.refl H) hD, upd_same⟩ (fun i H' _ p => SqT.of (p.1 _ _ ha)) ?_ ?_
    · intro i x H' hi p
      obtain ⟨n, hn, rfl⟩ := map_get hi
      obtain ⟨m, hm, rfl⟩ := map_get hn
      have hlt : i < ms.length := (List.getElem?_eq_some_iff.mp hm).1
      have hb := hx m (List.mem_of_getElem? hm)
      refine ⟨rfl, _, rfl, ((m : Nat) : Int), 0, 6, rfl, ?_⟩
      rw [decide_eq_true (show (0 : Int) ≤ ((m : Nat) : Int) by omega), decide_eq_true (show ((m : Nat) : Int) ≤ 6 by omega)]
      refine ⟨_, p.2, ?_, same_mut p.1 hD, ?_⟩
      · rw [List.length_map, List.length_replicate]
        exact lt_line (by omega)
      · rw [upd_same, List.replicate_succ', List.map_append]
        rfl
    · intro H' p
      refine ⟨D, List.replicate ((ms.map fun x : Nat => (x : Int)).map V.int).length true, rfl, SqL.of p.2, ?_⟩
      have e : (List.replicate ((ms.map fun x : Nat => (x : Int)).map V.int).length true).all id = true := by simp
      rw [e]
      exact ⟨true, rfl, iteF (q _ p.1)⟩
def sp_check_windows : Sp := fun vs H Q _ => ∃ (a : Addr) (us : List V) (n : Nat) (ws : List (Int × Int)), vs = [.ref a, .int (n : Nat)] ∧ H a = some (.tup us) ∧ TDs H us (ws.map wZ) ∧ PlanZ n ws ∧ Q .non H
theorem ok_check_windows (T : Tx K mg) : FnOk P w K mg base CX0 3 T.a_check_windows T.d_check_windows ["windows", "beats"] sp_check_windows := by
  have nd := sc_check_windows.nd
  refine T.F_check_windows.ok sc_check_windows (fun vs H Q E h => ?_) (fun cdv A outer s H vs Q E hr h => ?_)
  · obtain ⟨_, _, _, _, rfl, _⟩ := h
    rfl
  · obtain ⟨a, us, n, ws, rfl, ha, tu, hW, q⟩ := h
    have hul : us.length = ws.length := by rw [tu.length, List.length_map]
    refine ⟨_, (pss_cons (ps_if (pt_not (pt_val (pe_callB call_isi (by rfl) T.z_isinstance (by decide +kernel) (pa_cons (pv 0) (pa_cons (pe_bltn (v := .ty "tuple") (u := .type "tuple") (by rfl) T.z_tuple (by decide +kernel) rfl) pa_nil))))) (pss_one ps_never) pss_nil) (pss_cons (ps_set (i := 2) nd rfl (Or.inl rfl) pe_int) (pss_one (ps_for PassesOwn.never rfl (pi_tup (pv 0)) (pg_name (i := 3) nd rfl (Or.inl rfl)) (pss_cons (ps_if (pt_not (pt_val (pe_call (ok_is_window T) (hr.mono (by decide)) (by rfl) T.m_is_window T.F_is_window.kp T.b_is_window .nil pass0 (pa_cons (pv 3) (pa_cons (pv 2) (pa_cons (pv 1) pa_nil)))))) (pss_one ps_never) pss_nil) (pss_one (ps_set (i := 2) nd rfl (Or.inl rfl) (pe_ix ix_tup (pv 3) pe_int (fun _ _ => rfl))))))))), ?_⟩
    refine ⟨_, rfl, _, _, _, _, true, rfl, .ty "tuple", .base (.tup ha), kit_ty (by decide +kernel), true, rfl, iteF ?_⟩
    refine ⟨_, rfl, a, rfl, ⟨_, SqT.of ha⟩, ?_⟩
    refine for_tup (K := K) (a := a) (xs := us) (fun i σ H' => ∃ (lo : Int) (v3 : Option V), σ = [some (.ref a), some (.int (n : Nat)), some (.int lo), v3] ∧ (∀ w, ws[i]? = some w → lo ≤ w.1) ∧ H' = H) ⟨0, none, rfl, fun w hw => (hW.ok w (List.mem_of_getElem? hw)).1, rfl⟩ (fun i σ H' _ ⟨_, _, _, _, e⟩ => by rw [e]; exact SqT.of ha) ?_ ?_
    · rintro i y σ H' hy ⟨lo, v3, rfl, hlo, rfl⟩
      obtain ⟨d, hd, td⟩ := tu.get hy
      obtain ⟨w, hw, rfl⟩ := map_get hd
      obtain ⟨p, rfl, hp⟩ := td_w td
      obtain ⟨_, h1, h2⟩ := hW.ok w (List.mem_of_getElem? hw)
      refine ⟨_, rfl, _, rfl, _, rfl, p, w.1, w.2, lo, n, rfl, hp, hlo w hw, h1, h2, true, rfl, iteF ?_⟩
      refine ⟨_, rfl, p, _, 1, _, rfl, rfl, SqT.of hp, atI_nat (j := 1) rfl, w.2, _, rfl, fun w2 hw2 => ?_, rfl⟩
      obtain ⟨l1, e1⟩ := List.getElem?_eq_some_iff.mp hw
      obtain ⟨l2, e2⟩ := List.getElem?_eq_some_iff.mp hw2
      have := List.pairwise_iff_getElem.mp hW.asc i (i + 1) l1 l2 (Nat.lt_succ_self _)
      rw [e1, e2] at this
      exact this
    · rintro σ H' ⟨lo, v3, rfl, _, rfl⟩
      exact q
end
end K22

namespace K22
open PySem PySem.Spec PyProof.Rows L2 Sky
section
variable {P : Program} {w : World} {K : PySem.W.Frag} {mg : Str → Option Value} {base : Heap}
theorem getD_nat {ms : List Nat} {i : Nat} {x : Nat} (h : ms[i]? = some x) : ms.getD i 0 = x := by rw [List.getD_eq_getElem?_getD, h]; rfl
/-- the keys of the dict of beats that windows hold -/
theorem sends_key {ws : List (Int × Int)} {b : Int} {i : Nat} {x : Int × Int} (h : ws[i]? = some x) : inZ (ws.take (i + 1)) b = (inZ (ws.take i) b || (decide (x.1 ≤ b) && decide (b < x.2))) := by
  unfold inZ
  rw [List.take_add_one, h, Option.toList_some, List.any_append]
  simp
theorem putK_len9 {κ : Type} [DecidableEq κ] (kvs : List (κ × V)) (k : κ) (v : V) : (putK kvs k v).length ≤ kvs.length + 1 := by
  unfold putK
  split
  · rw [List.length_map]; omega
  · rw [List.length_append, List.length_singleton]; exact Nat.le_refl _
def sp_kept : Sp := fun vs H Q _ => ∃ (am aw : Addr) (us : List V) (ms : List Nat) (ws : List (Int × Int)), vs = [.ref am, .ref aw] ∧ MsAt H am ms ∧ WsAt H aw us ws ∧
  ∀ r H', H' r = some (.lst (((rowsB ms (inB ws)).map fun x : Nat => (x : Int)).map V.int)) → H r = none → Same H H' → Q (.ref r) H'
theorem ok_kept_at_beats (T : Tx K mg) : FnOk P w K mg base CX0 1 T.a_kept_at_beats T.d_kept_at_beats ["makes", "windows"] sp_kept := by
  have nd := sc_kept_at_beats.nd
  refine T.F_kept_at_beats.ok sc_kept_at_beats (fun vs H Q E h => ?_) (fun cdv A outer s H vs Q E hr h => ?_)
  · obtain ⟨_, _, _, _, _, rfl, _⟩ := h
    rfl
  · obtain ⟨am, aw, us, ms, ws, rfl, hM, hP, fin⟩ := h
    have hul : us.length = ws.length := hP.len
    refine ⟨_, (pss_cons (ps_setDc2 (i := 3) (own := [("begin", 7), ("end", 8), ("beat", 2)]) (vb := [2]) rfl nd rfl rfl (sw_trueD rfl rfl rfl (by decide +kernel)) (pi_tup (pv 1)) (blkOk_by (own := [("begin", 7), ("end", 8), ("beat", 2)]) (N := N_kept_at_beats) (sc := defScope s_kept_at_beats) (by decide +kernel)) (by decide) (fun _ _ _ _ _ => (pg_tupK (K := K) (n := 2) rfl rfl (pgs_cons (pg_name (i := 7) nd rfl (Or.inl rfl)) (pgs_cons (pg_name (i := 8) nd rfl (Or.inl rfl)) pgs_nil)))) (fun _ _ _ _ _ => (pi_range2 rfl T.z_range (pa_cons (pv 7) (pa_cons (pv 8) pa_nil)))) (fun _ _ _ _ _ => (pg_name (i := 2) nd rfl (Or.inl rfl))) (fun _ _ _ _ _ => (pv 2)) (fun _ _ _ _ _ => pe_bl)) (pss_cons (ps_set (i := 4) nd rfl (Or.inl rfl) (pe_lst pa_nil)) (pss_cons (ps_set (i := 5) nd rfl (Or.inl rfl) pe_int) (pss_cons (ps_for PassesOwn.never rfl (pi_enumT (by rfl) T.z_enumerate (pa_cons (pv 0) pa_nil)) (pg_tup rfl (pgs_cons (pg_name (i := 2) nd rfl (Or.inl rfl)) (pgs_cons (pg_name (i := 6) nd rfl (Or.inl rfl)) pgs_nil))) (pss_cons (ps_aug (i := 5) nd rfl (Or.inl rfl) (pv 6) ip_add) (pss_cons (ps_expr (pe_bm PySem.F.plainAttrs_list PySem.F.slot_list_append PySem.F.type_list_append mt_append (pv 4) (pa_cons (pv 5) pa_nil))) (pss_one (ps_if (PW.pt (pw_and (pt_cmpR op_gt (pv 5) pe_int (nomark _)) (pw_and1 (pt_cmp (pc_din (hu_of hr) (pv 2) (pv 3)))))) (pss_one (ps_aug (i := 5) nd rfl (Or.inl rfl) pe_int ip_sub)) pss_nil))))) (pss_one (ps_ret (pv 4))))))), ?_⟩
    -- sends
    refine ⟨_, rfl, aw, rfl, ⟨_, SqT.of hP.w⟩, fun D hD => ?_⟩
    refine dc2_tup (K := K) (a := aw) (xs := us) (fun i H' => ∃ kvs : List (Key × V), H' D = some (.dK kvs) ∧ (∀ b : Int, (valV kvs (Sum.inl b)).isSome = inZ (ws.take i) b) ∧ kvs.length ≤ 6000 * i ∧ Same H H') ⟨[], upd_same, fun b => rfl, Nat.le_refl _, same_new (Same.refl _) hD⟩ (fun i H' _ ⟨_, _, _, _, s⟩ => SqT.of (s _ _ hP.w)) ?_ ?_
    · rintro i y H1 hy ⟨kvs, hk, hkv, hkl, s1⟩
      obtain ⟨d, hd, td⟩ := hP.t.get hy
      obtain ⟨x, hx, rfl⟩ := map_get hd
      obtain ⟨p, rfl, hp⟩ := td_w (td.mono (TSm.of_same s1))
      obtain ⟨hx1, hx2, hx3⟩ := hP.lim x (List.mem_of_getElem? hx)
      have hil : i < ws.length := (List.getElem?_eq_some_iff.mp hx).1
      have hwl := hP.wl
      refine ⟨p, _, rfl, SqT.of hp, rfl, _, _, rfl, _, _, rfl, rfl, rfl, ?_⟩
      refine ⟨_, rfl, _, rfl, _, _, rfl, ⟨by omega, by omega, by omega, by omega⟩, ?_⟩
      refine dc2_range (lo := x.1) (n := (x.2 - x.1).toNat) (fun j H' => ∃ kvs : List (Key × V), H' D = some (.dK kvs) ∧ (∀ b : Int, (valV kvs (Sum.inl b)).isSome = (inZ (ws.take i) b || (decide (x.1 ≤ b) && decide (b < x.1 + (j : Nat))))) ∧ kvs.length ≤ 6000 * i + j ∧ Same H H') ⟨kvs, hk, fun b => ?_, by omega, s1⟩ ?_ ?_
      · rw [hkv]
        by_cases h : x.1 ≤ b
        · rw [decide_eq_false (show ¬ b < x.1 + ((0 : Nat) : Int) by omega), Bool.and_false, Bool.or_false]
        · rw [decide_eq_false h, Bool.false_and, Bool.or_false]
      · rintro j H2 hj ⟨kvs, hk, hkv, hkl, s2⟩
        refine ⟨rfl, _, rfl, kvs, Sum.inl (x.1 + ((j : Nat) : Int)), rfl, hk, lt_line (by omega), putK kvs (Sum.inl (x.1 + ((j : Nat) : Int))) (.bl true), upd_same, fun b => ?_, Nat.le_trans (putK_len9 _ _ _) (by omega), same_mut s2 hD⟩
        rw [valV_put]
        by_cases e : b = x.1 + ((j : Nat) : Int)
        · subst e
          rw [if_pos rfl, decide_eq_true (show x.1 ≤ x.1 + ((j : Nat) : Int) by omega), decide_eq_true (show x.1 + ((j : Nat) : Int) < x.1 + ((j + 1 : Nat) : Int) by omega)]
          simp
        · rw [if_neg (fun z => e (by injection z)), hkv]
          by_cases h : x.1 ≤ b
          · rw [decide_eq_true h]
            by_cases h2 : b < x.1 + ((j : Nat) : Int)
            · rw [decide_eq_true h2, decide_eq_true (show b < x.1 + ((j + 1 : Nat) : Int) by omega)]
            · rw [decide_eq_false h2, decide_eq_false (show ¬ b < x.1 + ((j + 1 : Nat) : Int) by omega)]
          · rw [decide_eq_false h, Bool.false_and, Bool.false_and]
      · rintro H2 ⟨kvs, hk, hkv, hkl, s2⟩
        refine ⟨kvs, hk, fun b => ?_, by omega, s2⟩
        rw [hkv, sends_key hx, show x.1 + (((x.2 - x.1).toNat : Nat) : Int) = x.2 by omega]
    rintro H1 ⟨kvs, hk, hkv, hkl, s1⟩
    rw [List.take_of_length_le (by omega)] at hkv
    -- rows, kept
    refine ⟨Nat.zero_le _, fun R hR => ?_⟩
    have nDR : D ≠ R := ne_of_none hk hR
    have s2 := same_new (Same.refl H1) hR (o := .lst [])
    have hR2 : upd H1 R (.lst []) R = some (.lst []) := upd_same
    have hk2 := s2 _ _ hk
    have fR : H R = none := s1.free hR
    have s02 := s1.trans s2
    generalize upd H1 R (.lst []) = H2 at *
    refine ⟨_, rfl, am, _, rfl, SqT.of (s02 _ _ hM.m), ?_⟩
    refine for_enumT (K := K) (l := am) (ys := (ms.map fun x : Nat => (x : Int)).map V.int) (fun i σ H' => ∃ (v2 v6 v7 v8 : Option V), σ = [some (.ref am), some (.ref aw), v2, some (.ref D), some (.ref R), some (.int ((keptB ms (inB ws) i : Nat) : Int)), v6, v7, v8] ∧
      H' R = some (.lst (((((List.range i).map (rowB ms (inB ws))).map fun x : Nat => (x : Int)).map V.int))) ∧ H' D = some (.dK kvs) ∧ Same H H') ⟨_, _, _, _, rfl, hR2, hk2, s02⟩ (fun i σ H' _ ⟨_, _, _, _, _, _, _, s⟩ => SqT.of (s _ _ hM.m)) ?_ ?_
    · rintro i y σ H3 t hy ⟨v2, v6, v7, v8, rfl, hR3, hk3, s3⟩ ht
      obtain ⟨n, hn, rfl⟩ := map_get hy
      obtain ⟨m, hm, rfl⟩ := map_get hn
      have hil : i < ms.length := (List.getElem?_eq_some_iff.mp hm).1
      have hfew := hM.few
      have nRt : R ≠ t := ne_of_none hR3 ht
      have nDt : D ≠ t := ne_of_none hk3 ht
      have s4 := s3.trans (same_new (Same.refl H3) ht (o := .tup [.int ((i : Nat) : Int), .int ((m : Nat) : Int)]))
      have hR4 : upd H3 t (.tup [.int ((i : Nat) : Int), .int ((m : Nat) : Int)]) R = some (.lst (((((List.range i).map (rowB ms (inB ws))).map fun x : Nat => (x : Int)).map V.int))) := by rw [upd_ne nRt]; exact hR3
      have hk4 : upd H3 t (.tup [.int ((i : Nat) : Int), .int ((m : Nat) : Int)]) D = some (.dK kvs) := by rw [upd_ne nDt]; exact hk3
      refine ⟨t, _, rfl, SqT.of upd_same, rfl, _, _, rfl, _, _, rfl, rfl, ?_⟩
      generalize upd H3 t (.tup [.int ((i : Nat) : Int), .int ((m : Nat) : Int)]) = H4 at *
      have erow : ((keptB ms (inB ws) i : Nat) : Int) + ((m : Nat) : Int) = ((rowB ms (inB ws) i : Nat) : Int) := by
        unfold rowB
        rw [getD_nat hm]
        omega
      refine ⟨_, rfl, _, rfl, _, _, rfl, rfl, ?_⟩
      simp only [erow]
      refine ⟨_, rfl, .inl ⟨rfl, _, SqL.of hR4⟩, _, rfl, R, _, _, rfl, rfl, hR4, lt_line (by rw [List.length_map, List.length_map, List.length_map, List.length_range]; omega), ?_⟩
      have hR5 : upd H4 R (.lst ((((List.range i).map (rowB ms (inB ws))).map fun x : Nat => (x : Int)).map V.int ++ [.int ((rowB ms (inB ws) i : Nat) : Int)])) R = some (.lst ((((List.range (i + 1)).map (rowB ms (inB ws))).map fun x : Nat => (x : Int)).map V.int)) := by
        rw [upd_same, List.range_succ, List.map_append, List.map_append, List.map_append]
        rfl
      have hk5 : upd H4 R (.lst ((((List.range i).map (rowB ms (inB ws))).map fun x : Nat => (x : Int)).map V.int ++ [.int ((rowB ms (inB ws) i : Nat) : Int)])) D = some (.dK kvs) := by rw [upd_ne nDR]; exact hk4
      have s5 : Same H (upd H4 R (.lst ((((List.range i).map (rowB ms (inB ws))).map fun x : Nat => (x : Int)).map V.int ++ [.int ((rowB ms (inB ws) i : Nat) : Int)]))) := same_mut s4 fR
      generalize upd H4 R (.lst ((((List.range i).map (rowB ms (inB ws))).map fun x : Nat => (x : Int)).map V.int ++ [.int ((rowB ms (inB ws) i : Nat) : Int)])) = H5 at *
      -- if kept > 0 and beat in sends
      have enext : keptB ms (inB ws) (i + 1) = rowB ms (inB ws) i - (if inB ws i = true then 1 else 0) := rfl
      refine ⟨_, rfl, _, _, rfl, rfl, _, rfl, ?_⟩
      by_cases c1 : (0 : Int) < ((rowB ms (inB ws) i : Nat) : Int)
      · rw [decide_eq_true c1]
        refine iteT ⟨_, rfl, _, rfl, D, _, rfl, DGet.k (k := Sum.inl ((i : Nat) : Int)) hk5, _, rfl, ?_⟩
        rw [show (valV kvs (Sum.inl ((i : Nat) : Int))).isSome = inB ws i from hkv _]
        by_cases c2 : inB ws i = true
        · rw [c2]
          refine iteT ⟨_, rfl, _, 1, rfl, rfl, ?_⟩
          refine ⟨some (.int ((i : Nat) : Int)), some (.int ((m : Nat) : Int)), v7, v8, ?_, hR5, hk5, s5⟩
          rw [enext, if_pos c2, show ((rowB ms (inB ws) i - 1 : Nat) : Int) = ((rowB ms (inB ws) i : Nat) : Int) - 1 by omega]
          rfl
        · have c3 : inB ws i = false := by simpa using c2
          rw [c3]
          refine iteF ⟨some (.int ((i : Nat) : Int)), some (.int ((m : Nat) : Int)), v7, v8, ?_, hR5, hk5, s5⟩
          rw [enext, if_neg c2, Nat.sub_zero]
          rfl
      · rw [decide_eq_false c1]
        refine iteF (iteF ⟨some (.int ((i : Nat) : Int)), some (.int ((m : Nat) : Int)), v7, v8, ?_, hR5, hk5, s5⟩)
        have e0 : rowB ms (inB ws) i = 0 := by omega
        rw [enext, e0, Nat.zero_sub]
        rfl
    · rintro σ H3 ⟨v2, v6, v7, v8, rfl, hR3, hk3, s3⟩
      refine ⟨_, rfl, fin R H3 ?_ fR s3⟩
      rw [hR3, List.length_map, List.length_map]
      rfl
theorem rowsB_len (ms : List Nat) (ws : List (Int × Int)) : (rowsB ms (inB ws)).length = ms.length := by unfold rowsB; rw [List.length_map, List.length_range]
theorem rowsB_at {ms : List Nat} {ws : List (Int × Int)} {i : Nat} (h : i < ms.length) : (rowsB ms (inB ws))[i]? = some (rowB ms (inB ws) i) := by unfold rowsB; rw [List.getElem?_map, List.getElem?_range h]; rfl
/-- the most of all rows -/
def mostN : List Nat → Nat
  | [] => 0
  | x :: l => max x (mostN l)
theorem mostN_le : ∀ {l : List Nat} {c : Nat}, c ∈ l → c ≤ mostN l
  | x :: l, c, h => by
    rcases List.mem_cons.mp h with e | e
    · rw [e]; exact Nat.le_max_left _ _
    · exact Nat.le_trans (mostN_le e) (Nat.le_max_right _ _)
theorem mostN_mem : ∀ {l : List Nat}, l ≠ [] → mostN l ∈ l
  | [], h => absurd rfl h
  | [x], _ => by show max x 0 ∈ [x]; rw [Nat.max_eq_left (Nat.zero_le _)]; exact List.mem_singleton.mpr rfl
  | x :: y :: l, _ => by
    show max x (mostN (y :: l)) ∈ x :: y :: l
    have h := mostN_mem (l := y :: l) (by simp)
    rcases Nat.le_total x (mostN (y :: l)) with e | e
    · rw [Nat.max_eq_right e]; exact List.mem_cons_of_mem _ h
    · rw [Nat.max_eq_left e]; exact List.mem_cons_self
theorem mostN_is {l : List Nat} {m : Int} (h1 : m ∈ l.map fun x : Nat => (x : Int)) (h2 : ∀ j ∈ l.map fun x : Nat => (x : Int), j ≤ m) : m = ((mostN l : Nat) : Int) := by
  obtain ⟨c, hc, rfl⟩ := List.mem_map.mp h1
  have e : l ≠ [] := fun e => by rw [e] at hc; cases hc
  have h3 := h2 _ (List.mem_map.mpr ⟨mostN l, mostN_mem e, rfl⟩)
  have h4 := mostN_le hc
  omega
def sp_first_short : Sp := fun vs H Q _ => ∃ (am aw : Addr) (us : List V) (ms : List Nat) (ws : List (Int × Int)) (r : Nat), vs = [.ref am, .ref aw, .int (r : Nat)] ∧ MsAt H am ms ∧ WsAt H aw us ws ∧ ∀ H', Same H H' → Q (optV (firstN (rowsB ms (inB ws)) r)) H'
theorem ok_first_short (T : Tx K mg) : FnOk P w K mg base CX0 2 T.a_first_short T.d_first_short ["makes", "windows", "room"] sp_first_short := by
  have nd := sc_first_short.nd
  refine T.F_first_short.ok sc_first_short (fun vs H Q E h => ?_) (fun cdv A outer s H vs Q E hr h => ?_)
  · obtain ⟨_, _, _, _, _, _, rfl, _⟩ := h
    rfl
  · obtain ⟨am, aw, us, ms, ws, r, rfl, hM, hP, fin⟩ := h
    refine ⟨_, (pss_cons (ps_for PassesOwn.never rfl (pi_enum (by rfl) T.z_enumerate (pa_cons (pe_call (ok_kept_at_beats T) (hr.mono (by decide)) (by rfl) T.m_kept_at_beats T.F_kept_at_beats.kp T.b_kept_at_beats .nil pass0 (pa_cons (pv 0) (pa_cons (pv 1) pa_nil))) pa_nil)) (pg_tup rfl (pgs_cons (pg_name (i := 3) nd rfl (Or.inl rfl)) (pgs_cons (pg_name (i := 4) nd rfl (Or.inl rfl)) pgs_nil))) (pss_one (ps_if (pt_cmpR op_gt (pv 4) (pv 2) (nomark _)) (pss_one (ps_ret (pv 3))) pss_nil))) (pss_one (ps_ret pe_non))), ?_⟩
    refine ⟨_, rfl, _, rfl, am, aw, us, ms, ws, rfl, hM, hP, fun R H1 hR nR s1 => ?_⟩
    refine ⟨R, _, rfl, SqL.of hR, ?_⟩
    refine for_enum (K := K) (l := R) (ys := ((rowsB ms (inB ws)).map fun x : Nat => (x : Int)).map V.int) (fun i σ H' => ∃ (v3 v4 : Option V), σ = [some (.ref am), some (.ref aw), some (.int (r : Nat)), v3, v4] ∧ (∀ j, j < i → ¬ r < (rowsB ms (inB ws)).getD j 0) ∧ Same H1 H') ⟨_, _, rfl, fun j hj => absurd hj (Nat.not_lt_zero _), Same.refl _⟩ (fun i σ H' _ ⟨_, _, _, _, s⟩ => SqL.of (s _ _ hR)) ?_ ?_
    · rintro i y σ H2 t hy ⟨v3, v4, rfl, hno, s2⟩ ht
      obtain ⟨n, hn, rfl⟩ := map_get hy
      obtain ⟨m, hm, rfl⟩ := map_get hn
      have s3 := s2.trans (same_new (Same.refl H2) ht (o := .tup [.int ((i : Nat) : Int), .int ((m : Nat) : Int)]))
      refine ⟨t, _, rfl, SqT.of upd_same, rfl, _, _, rfl, _, _, rfl, rfl, ?_⟩
      refine ⟨_, rfl, _, rfl, _, _, rfl, rfl, _, rfl, ?_⟩
      by_cases c : r < m
      · rw [decide_eq_true (show ((m : Nat) : Int) > ((r : Nat) : Int) by omega)]
        refine iteT ⟨_, rfl, ?_⟩
        have := fin _ (s1.trans s3)
        rw [firstN_hit (i := i) (List.getElem?_eq_some_iff.mp hm).1 (by rw [getD_nat hm]; exact c) hno] at this
        exact this
      · rw [decide_eq_false (show ¬ ((m : Nat) : Int) > ((r : Nat) : Int) by omega)]
        refine iteF ⟨_, _, rfl, fun j hj => ?_, s3⟩
        rcases Nat.lt_or_ge j i with z | z
        · exact hno j z
        · have : j = i := by omega
          subst this
          rw [getD_nat hm]
          exact c
    · rintro σ H2 ⟨v3, v4, rfl, hno, s2⟩
      rw [List.length_map, List.length_map] at hno
      have := fin _ (s1.trans s2)
      rw [firstN_none hno] at this
      exact this
def sp_short_at : Sp := fun vs H Q _ => ∃ (am aw : Addr) (us : List V) (ms : List Nat) (ws : List (Int × Int)) (r : Nat), vs = [.ref am, .ref aw, .int (r : Nat)] ∧ MsAt H am ms ∧ WsAt H aw us ws ∧ PlanZ ms.length ws ∧ 1 ≤ r ∧ r ≤ 60 ∧ ∀ H', Same H H' → Q (optV (firstN (rowsB ms (inB ws)) r)) H'
theorem ok_short_at (T : Tx K mg) : FnOk P w K mg base CX0 4 T.a_short_at T.d_short_at ["makes", "windows", "room"] sp_short_at := by
  have nd := sc_short_at.nd
  refine T.F_short_at.ok sc_short_at (fun vs H Q E h => ?_) (fun cdv A outer s H vs Q E hr h => ?_)
  · obtain ⟨_, _, _, _, _, _, rfl, _⟩ := h
    rfl
  · obtain ⟨am, aw, us, ms, ws, r, rfl, hM, hP, hpl, h1, h2, fin⟩ := h
    refine ⟨_, (pss_cons (ps_expr (pe_call (ok_check_makes T) (hr.mono (by decide)) (by rfl) T.m_check_makes T.F_check_makes.kp T.b_check_makes .nil pass0 (pa_cons (pv 0) pa_nil))) (pss_cons (ps_expr (pe_call (ok_check_windows T) (hr.mono (by decide)) (by rfl) T.m_check_windows T.F_check_windows.kp T.b_check_windows .nil pass0 (pa_cons (pv 1) (pa_cons (pe_callB call_len_seq (by rfl) T.z_len PySem.boot_len (pa_cons (pv 0) pa_nil)) pa_nil)))) (pss_cons (ps_expr (pe_call (ok_check_room T) (hr.mono (by decide)) (by rfl) T.m_check_room T.F_check_room.kp T.b_check_room .nil pass0 (pa_cons (pv 2) pa_nil))) (pss_one (ps_ret (pe_call (ok_first_short T) (hr.mono (by decide)) (by rfl) T.m_first_short T.F_first_short.kp T.b_first_short .nil pass0 (pa_cons (pv 0) (pa_cons (pv 1) (pa_cons (pv 2) pa_nil))))))))), ?_⟩
    refine ⟨_, rfl, am, ms, rfl, hM.m, hM.six, hM.few, fun H1 s1 => ?_⟩
    have hP1 := hP.same s1
    have hM1 := hM.same s1
    refine ⟨_, rfl, _, rfl, am, _, rfl, .inr (SqT.of hM1.m), aw, us, ms.length, ws, ?_, hP1.w, hP1.t, hpl, ?_⟩
    · rw [List.length_map, List.length_map]; rfl
    refine ⟨_, rfl, r, rfl, h1, h2, ?_⟩
    exact ⟨_, rfl, _, rfl, _, rfl, am, aw, us, ms, ws, r, rfl, hM1, hP1, fun H2 s2 => fin H2 (s1.trans s2)⟩
end
end K22

namespace K22
open PySem PySem.Spec PyProof.Rows L2 Sky
section
variable {P : Program} {w : World} {K : PySem.W.Frag} {mg : Str → Option Value} {base : Heap}
def sp_most_kept : Sp := fun vs H Q _ => ∃ (am aw : Addr) (us : List V) (ms : List Nat) (ws : List (Int × Int)), vs = [.ref am, .ref aw] ∧ MsAt H am ms ∧ WsAt H aw us ws ∧ PlanZ ms.length ws ∧ ∀ H', Same H H' → Q (.int ((mostN (rowsB ms (inB ws)) : Nat) : Int)) H'
theorem ok_most_kept (T : Tx K mg) : FnOk P w K mg base CX0 4 T.a_most_kept T.d_most_kept ["makes", "windows"] sp_most_kept := by
  have nd := sc_most_kept.nd
  refine T.F_most_kept.ok sc_most_kept (fun vs H Q E h => ?_) (fun cdv A outer s H vs Q E hr h => ?_)
  · obtain ⟨_, _, _, _, _, rfl, _⟩ := h
    rfl
  · obtain ⟨am, aw, us, ms, ws, rfl, hM, hP, hpl, fin⟩ := h
    refine ⟨_, (pss_cons (ps_expr (pe_call (ok_check_makes T) (hr.mono (by decide)) (by rfl) T.m_check_makes T.F_check_makes.kp T.b_check_makes .nil pass0 (pa_cons (pv 0) pa_nil))) (pss_cons (ps_expr (pe_call (ok_check_windows T) (hr.mono (by decide)) (by rfl) T.m_check_windows T.F_check_windows.kp T.b_check_windows .nil pass0 (pa_cons (pv 1) (pa_cons (pe_callB call_len_seq (by rfl) T.z_len PySem.boot_len (pa_cons (pv 0) pa_nil)) pa_nil)))) (pss_one (ps_ret (pe_callBK (cr_maxL rfl (u65 hr)) (by rfl) T.z_max (by decide +kernel) (pa_cons (pe_call (ok_kept_at_beats T) (hr.mono (by decide)) (by rfl) T.m_kept_at_beats T.F_kept_at_beats.kp T.b_kept_at_beats .nil pass0 (pa_cons (pv 0) (pa_cons (pv 1) pa_nil))) pa_nil) (pk_cons pe_int pk_nil)))))), ?_⟩
    refine ⟨_, rfl, am, ms, rfl, hM.m, hM.six, hM.few, fun H1 s1 => ?_⟩
    have hP1 := hP.same s1
    have hM1 := hM.same s1
    refine ⟨_, rfl, _, rfl, am, _, rfl, .inr (SqT.of hM1.m), aw, us, ms.length, ws, ?_, hP1.w, hP1.t, hpl, ?_⟩
    · rw [List.length_map, List.length_map]; rfl
    refine ⟨_, rfl, _, rfl, am, aw, us, ms, ws, rfl, hM1, hP1, fun r H2 hr2 nr s2 => ?_⟩
    refine ⟨r, _, 0, rfl, rfl, SqL.of hr2, fun e => ?_, fun m h1 h2 => ?_⟩
    · have e2 : rowsB ms (inB ws) = [] := List.map_eq_nil_iff.mp e
      have := fin H2 (s1.trans s2)
      rw [e2] at this
      exact this
    · rw [mostN_is h1 h2]
      exact fin H2 (s1.trans s2)
end
end K22

namespace K22
open PySem PySem.Spec PyProof.Rows L2 Sky
/-! ### the latest beats, in numbers -/
def preN (ms : List Nat) : Nat → Nat
  | 0 => 0
  | i + 1 => preN ms i + ms.getD i 0
theorem preN_mono (ms : List Nat) {i j : Nat} (h : i ≤ j) : preN ms i ≤ preN ms j := by
  induction j with
  | zero => have : i = 0 := by omega
            subst this; exact Nat.le_refl _
  | succ j ih =>
    by_cases e : i = j + 1
    · subst e; exact Nat.le_refl _
    · have := ih (by omega)
      show _ ≤ preN ms j + _
      omega
/-- how many of the d beats from lo on are taken -/
def cntB (iw : Nat → Bool) (lo : Nat) : Nat → Nat
  | 0 => 0
  | d + 1 => cntB iw lo d + (if iw (lo + d) = true then 1 else 0)
theorem cntB_le (iw : Nat → Bool) (lo : Nat) : ∀ d, cntB iw lo d ≤ d
  | 0 => Nat.le_refl _
  | d + 1 => by
    have := cntB_le iw lo d
    show cntB iw lo d + _ ≤ _
    split <;> omega
theorem cntB_add (iw : Nat → Bool) (j : Nat) : ∀ d, cntB iw 0 (j + d) = cntB iw 0 j + cntB iw j d
  | 0 => rfl
  | d + 1 => by
    have := cntB_add iw j d
    show cntB iw 0 (j + d) + (if iw (0 + (j + d)) = true then 1 else 0) = cntB iw 0 j + (cntB iw j d + (if iw (j + d) = true then 1 else 0))
    rw [this, Nat.zero_add]
    omega
theorem cntB_filter (iw : Nat → Bool) : ∀ i, cntB iw 0 i = ((List.range i).filter iw).length
  | 0 => rfl
  | i + 1 => by
    rw [List.range_succ, List.filter_append, List.length_append, ← cntB_filter iw i]
    show cntB iw 0 i + (if iw (0 + i) = true then 1 else 0) = _
    rw [Nat.zero_add]
    by_cases h : iw i = true
    · rw [if_pos h, List.filter_cons_of_pos h]; rfl
    · rw [if_neg h, List.filter_cons_of_neg h]; rfl
theorem kept_low (ms : List Nat) (iw : Nat → Bool) (j : Nat) : ∀ d, preN ms (j + d) ≤ preN ms j + cntB iw j d + keptB ms iw (j + d)
  | 0 => by show preN ms j ≤ preN ms j + 0 + _; omega
  | d + 1 => by
    have := kept_low ms iw j d
    show preN ms (j + d) + ms.getD (j + d) 0 ≤ preN ms j + (cntB iw j d + (if iw (j + d) = true then 1 else 0)) + (keptB ms iw (j + d) + ms.getD (j + d) 0 - (if iw (j + d) = true then 1 else 0))
    split <;> omega
theorem kept_eq (ms : List Nat) (iw : Nat → Bool) : ∀ i, ∃ j d, j + d = i ∧ preN ms i = preN ms j + cntB iw j d + keptB ms iw i
  | 0 => ⟨0, 0, rfl, rfl⟩
  | i + 1 => by
    obtain ⟨j, d, e, h⟩ := kept_eq ms iw i
    have hk : keptB ms iw (i + 1) = keptB ms iw i + ms.getD i 0 - (if iw i = true then 1 else 0) := rfl
    have hp : preN ms (i + 1) = preN ms i + ms.getD i 0 := rfl
    have hc : cntB iw j (d + 1) = cntB iw j d + (if iw (j + d) = true then 1 else 0) := rfl
    rw [e] at hc
    by_cases c : iw i = true
    · rw [if_pos c] at hk hc
      by_cases z : keptB ms iw i + ms.getD i 0 = 0
      · refine ⟨i + 1, 0, rfl, ?_⟩
        show _ = preN ms (i + 1) + 0 + _
        omega
      · exact ⟨j, d + 1, by omega, by omega⟩
    · rw [if_neg c] at hk hc
      exact ⟨j, d + 1, by omega, by omega⟩
theorem kept_mono {ms : List Nat} {iw iw' : Nat → Bool} (h : ∀ t, iw t = true → iw' t = true) : ∀ i, keptB ms iw' i ≤ keptB ms iw i
  | 0 => Nat.le_refl _
  | i + 1 => by
    have ih := kept_mono (ms := ms) h i
    show keptB ms iw' i + ms.getD i 0 - (if iw' i = true then 1 else 0) ≤ keptB ms iw i + ms.getD i 0 - (if iw i = true then 1 else 0)
    by_cases c : iw i = true
    · rw [if_pos c, if_pos (h i c)]; omega
    · rw [if_neg c]
      split <;> omega
/-- of each frame that has to go the first beat at which it is one too many -/
def dueR (ms : List Nat) (r : Nat) : Nat → List Nat
  | 0 => []
  | i + 1 => dueR ms r i ++ List.replicate (preN ms (i + 1) - r - (dueR ms r i).length) i
theorem due_facts (ms : List Nat) (r : Nat) : ∀ i, (∀ c d, (dueR ms r i)[c]? = some d → d < i ∧ r + c + 1 ≤ preN ms (d + 1) ∧ preN ms d ≤ r + c) ∧ ∀ j, j ≤ i → preN ms j ≤ r + (dueR ms r i).length
  | 0 => ⟨fun c d h => by simp [dueR] at h, fun j hj => by
      have : j = 0 := by omega
      subst this
      exact Nat.zero_le _⟩
  | i + 1 => by
    obtain ⟨h1, h2⟩ := due_facts ms r i
    have e : dueR ms r (i + 1) = dueR ms r i ++ List.replicate (preN ms (i + 1) - r - (dueR ms r i).length) i := rfl
    have h3 := h2 i (Nat.le_refl _)
    refine ⟨fun c d h => ?_, fun j hj => ?_⟩
    · rw [e] at h
      by_cases hc : c < (dueR ms r i).length
      · rw [List.getElem?_append_left hc] at h
        obtain ⟨a1, a2, a3⟩ := h1 c d h
        exact ⟨by omega, a2, a3⟩
      · rw [List.getElem?_append_right (by omega)] at h
        have hl := (List.getElem?_eq_some_iff.mp h).1
        rw [List.length_replicate] at hl
        have hd : d = i := (List.mem_replicate.mp (List.mem_of_getElem? h)).2
        subst hd
        exact ⟨Nat.lt_succ_self _, by omega, by omega⟩
    · rw [e, List.length_append, List.length_replicate]
      by_cases hj2 : j ≤ i
      · have := h2 j hj2
        omega
      · have : j = i + 1 := by omega
        subst this
        omega
theorem due_prefix (ms : List Nat) (r : Nat) {i n : Nat} (h : i ≤ n) : ∃ t, dueR ms r n = dueR ms r i ++ t := by
  induction n with
  | zero =>
    have : i = 0 := by omega
    subst this
    exact ⟨[], by simp⟩
  | succ n ih =>
    by_cases e : i = n + 1
    · subst e; exact ⟨[], by simp⟩
    · obtain ⟨t, ht⟩ := ih (by omega)
      exact ⟨t ++ List.replicate (preN ms (n + 1) - r - (dueR ms r n).length) n, by show dueR ms r n ++ _ = _; rw [← List.append_assoc, ← ht]⟩
theorem due_by {ms : List Nat} {r i n c : Nat} (hi : i < n) (h : r + c < preN ms (i + 1)) : ∃ d, (dueR ms r n)[c]? = some d ∧ d ≤ i := by
  have h1 := (due_facts ms r (i + 1)).2 (i + 1) (Nat.le_refl _)
  have hc : c < (dueR ms r (i + 1)).length := by omega
  obtain ⟨t, ht⟩ := due_prefix ms r (i := i + 1) (n := n) (by omega)
  have h2 := List.getElem?_eq_getElem hc
  have h3 := ((due_facts ms r (i + 1)).1 c _ h2).1
  exact ⟨_, by rw [ht, List.getElem?_append_left hc]; exact h2, by omega⟩
def hdF (n : Int) : List Int → Int
  | [] => n
  | b :: _ => b
def latF (n : Int) : List Nat → List Int
  | [] => []
  | d :: ds => (min (d : Int) (hdF n (latF n ds)) - 1) :: latF n ds
theorem latF_len (n : Int) : ∀ ds : List Nat, (latF n ds).length = ds.length
  | [] => rfl
  | d :: ds => by show (latF n ds).length + 1 = _; rw [latF_len n ds]; rfl
theorem latF_drop (n : Int) : ∀ (ds : List Nat) (c : Nat), latF n (ds.drop c) = (latF n ds).drop c
  | ds, 0 => by simp
  | [], c + 1 => by simp [latF]
  | d :: ds, c + 1 => by show latF n (ds.drop c) = (latF n ds).drop c; exact latF_drop n ds c
theorem latF_asc (n : Int) : ∀ ds : List Nat, (latF n ds).Pairwise (· < ·)
  | [] => List.Pairwise.nil
  | d :: ds => by
    have ih := latF_asc n ds
    refine List.pairwise_cons.mpr ⟨fun b hb => ?_, ih⟩
    cases e : latF n ds with
    | nil => rw [e] at hb; cases hb
    | cons x l =>
      rw [e] at hb ih
      show min (d : Int) x - 1 < b
      rcases List.mem_cons.mp hb with z | z
      · rw [z]; omega
      · have := (List.pairwise_cons.mp ih).1 b z
        omega
theorem latF_head {n : Int} {ds : List Nat} (h : ds ≠ []) : (latF n ds)[0]? = some (hdF n (latF n ds)) := by
  cases ds with
  | nil => exact absurd rfl h
  | cons d ds => rfl
theorem latF_lt {n : Int} : ∀ {ds : List Nat} {c : Nat} {b : Int} {d : Nat}, (latF n ds)[c]? = some b → ds[c]? = some d → b < d
  | d :: ds, 0, b, d', h1, h2 => by
    have e1 : min (d : Int) (hdF n (latF n ds)) - 1 = b := Option.some.inj h1
    have e2 : d = d' := Option.some.inj h2
    subst e1 e2
    omega
  | _ :: ds, c + 1, b, d', h1, h2 => latF_lt (n := n) (ds := ds) (c := c) (by simpa [latF] using h1) (by simpa using h2)
theorem latF_step {n : Int} : ∀ {ds : List Nat} {c : Nat} {b : Int} {d : Nat}, (∀ d ∈ ds, (d : Int) ≤ n) → (latF n ds)[c]? = some b → ds[c]? = some d → b = d - 1 ∨ ∃ b', (latF n ds)[c + 1]? = some b' ∧ b = b' - 1
  | d :: ds, 0, b, d', hn, h1, h2 => by
    have e1 : min (d : Int) (hdF n (latF n ds)) - 1 = b := Option.some.inj h1
    have e2 : d = d' := Option.some.inj h2
    subst e1 e2
    have hd := hn d List.mem_cons_self
    cases ds with
    | nil =>
      left
      show min (d : Int) n - 1 = _
      omega
    | cons x l =>
      by_cases z : (d : Int) ≤ hdF n (latF n (x :: l))
      · left; omega
      · right
        exact ⟨hdF n (latF n (x :: l)), rfl, by omega⟩
  | _ :: ds, c + 1, b, d', hn, h1, h2 => by
    rcases latF_step (n := n) (ds := ds) (c := c) (fun d hd => hn d (List.mem_cons_of_mem _ hd)) (by simpa [latF] using h1) (by simpa using h2) with z | ⟨b', z1, z2⟩
    · exact .inl z
    · exact .inr ⟨b', by simpa [latF] using z1, z2⟩
theorem latF_chain {n : Int} : ∀ {ds : List Nat}, (∀ d ∈ ds, (d : Int) ≤ n) → ds ≠ [] → ∃ (e d : Nat), ds[e]? = some d ∧ (latF n ds)[e]? = some ((d : Int) - 1) ∧ (d : Int) - 1 = hdF n (latF n ds) + (e : Int)
  | [], _, h => absurd rfl h
  | [d], hn, _ => by
    have hd := hn d List.mem_cons_self
    have e : (latF n [d]) = [(d : Int) - 1] := by
      show [min (d : Int) n - 1] = _
      rw [show min (d : Int) n = d by omega]
    refine ⟨0, d, rfl, by rw [e]; rfl, by rw [e]; show (d : Int) - 1 = (d : Int) - 1 + ((0 : Nat) : Int); omega⟩
  | d :: x :: l, hn, _ => by
    have hh : hdF n (latF n (d :: x :: l)) = min (d : Int) (hdF n (latF n (x :: l))) - 1 := rfl
    by_cases z : (d : Int) ≤ hdF n (latF n (x :: l))
    · refine ⟨0, d, rfl, ?_, by rw [hh]; omega⟩
      show some (min (d : Int) (hdF n (latF n (x :: l))) - 1) = _
      rw [show min (d : Int) (hdF n (latF n (x :: l))) = d by omega]
    · obtain ⟨e, d', h1, h2, h3⟩ := latF_chain (n := n) (ds := x :: l) (fun d hd => hn d (List.mem_cons_of_mem _ hd)) (by simp)
      exact ⟨e + 1, d', h1, h2, by rw [hh]; omega⟩
/-- the beats are taken -/
def iwB (B : List Int) (t : Nat) : Bool := decide ((t : Int) ∈ B)
theorem cnt_ge {B : List Int} {c i : Nat} {b : Int} (asc : B.Pairwise (· < ·)) (pos : ∀ x ∈ B, 0 ≤ x) (h : B[c]? = some b) (hb : b < i) : c + 1 ≤ cntB (iwB B) 0 i := by
  rw [cntB_filter]
  have hl := (List.getElem?_eq_some_iff.mp h).1
  have e : ((B.take (c + 1)).map Int.toNat).length = c + 1 := by rw [List.length_map, List.length_take]; omega
  rw [← e]
  have pos2 : ∀ x ∈ B.take (c + 1), 0 ≤ x := fun x hx => pos x (List.mem_of_mem_take hx)
  refine len_of_sub ?_ fun t ht => ?_
  · refine List.pairwise_map.mpr (List.Pairwise.imp_of_mem (R := (· < ·)) (fun {a b} ha hb' hab e => ?_) (List.Pairwise.sublist (List.take_sublist _ _) asc))
    have := pos2 a ha
    have := pos2 b hb'
    omega
  · obtain ⟨x, hx, rfl⟩ := List.mem_map.mp ht
    have p := pos2 x hx
    obtain ⟨k, hk⟩ := List.getElem?_of_mem hx
    have hkl := (List.getElem?_eq_some_iff.mp hk).1
    rw [List.length_take] at hkl
    rw [List.getElem?_take_of_lt (by omega)] at hk
    have hle : x ≤ b := by
      by_cases z : k = c
      · subst z; rw [hk] at h; rw [Option.some.inj h]; exact Int.le_refl _
      · obtain ⟨l1, e1⟩ := List.getElem?_eq_some_iff.mp hk
        obtain ⟨l2, e2⟩ := List.getElem?_eq_some_iff.mp h
        have := List.pairwise_iff_getElem.mp asc k c l1 l2 (by omega)
        rw [e1, e2] at this
        omega
    refine List.mem_filter.mpr ⟨List.mem_range.mpr (by omega), decide_eq_true ?_⟩
    rw [Int.toNat_of_nonneg p]
    exact List.mem_of_mem_take hx
theorem cnt_lt {B : List Int} {c i : Nat} (asc : B.Pairwise (· < ·)) (h : ∀ b, B[c]? = some b → (i : Int) ≤ b) : cntB (iwB B) 0 i ≤ c := by
  rw [cntB_filter]
  have e1 : (((List.range i).filter (iwB B)).map fun t : Nat => (t : Int)).length = ((List.range i).filter (iwB B)).length := List.length_map _
  rw [← e1]
  refine Nat.le_trans (len_of_sub (l := B.take c) ?_ fun x hx => ?_) (by rw [List.length_take]; omega)
  · refine List.pairwise_map.mpr (List.Pairwise.imp (R := (· < ·)) (fun {a b} h e => ?_) (List.Pairwise.filter _ List.pairwise_lt_range))
    omega
  · obtain ⟨t, ht, rfl⟩ := List.mem_map.mp hx
    obtain ⟨h1, h2⟩ := List.mem_filter.mp ht
    have hti := List.mem_range.mp h1
    have hm : (t : Int) ∈ B := of_decide_eq_true h2
    obtain ⟨k, hk⟩ := List.getElem?_of_mem hm
    obtain ⟨l1, e1⟩ := List.getElem?_eq_some_iff.mp hk
    have hkc : k < c := by
      apply Classical.byContradiction
      intro z
      have l2 : c < B.length := by omega
      have h3 := h _ (List.getElem?_eq_getElem l2)
      by_cases z2 : k = c
      · subst z2
        rw [e1] at h3
        omega
      · have := List.pairwise_iff_getElem.mp asc c k l2 l1 (by omega)
        rw [e1] at this
        omega
    rw [List.mem_iff_getElem?]
    exact ⟨k, by rw [List.getElem?_take_of_lt hkc]; exact hk⟩
/-- the latest beats -/
def latB (ms : List Nat) (r : Nat) : List Int := latF (ms.length : Nat) (dueR ms r ms.length)
section
variable {ms : List Nat} {r : Nat}
theorem due_le : ∀ d ∈ dueR ms r ms.length, (d : Int) ≤ (ms.length : Nat) := fun d hd => by
  obtain ⟨c, hc⟩ := List.getElem?_of_mem hd
  have := ((due_facts ms r ms.length).1 c d hc).1
  omega
theorem latB_asc : (latB ms r).Pairwise (· < ·) := latF_asc _ _
theorem latB_due {c : Nat} {b : Int} (h : (latB ms r)[c]? = some b) : ∃ d, (dueR ms r ms.length)[c]? = some d ∧ b < d ∧ d < ms.length ∧ r + c + 1 ≤ preN ms (d + 1) := by
  have hl := (List.getElem?_eq_some_iff.mp h).1
  unfold latB at hl
  rw [latF_len] at hl
  have hd := List.getElem?_eq_getElem hl
  obtain ⟨h1, h2, _⟩ := (due_facts ms r ms.length).1 c _ hd
  exact ⟨_, hd, latF_lt h hd, h1, h2⟩
theorem latB_lt {c : Nat} {b : Int} (h : (latB ms r)[c]? = some b) : b < (ms.length : Nat) - 1 ∨ b + 1 < (ms.length : Nat) := by
  obtain ⟨d, _, h1, h2, _⟩ := latB_due h
  right; omega
/-- from each beat on, one behind the other, up to one that is due -/
theorem latB_chain {c : Nat} {b : Int} (h : (latB ms r)[c]? = some b) : ∃ (e d : Nat), c ≤ e ∧ (dueR ms r ms.length)[e]? = some d ∧ (d : Int) - 1 = b + ((e : Int) - (c : Int)) := by
  have hl := (List.getElem?_eq_some_iff.mp h).1
  unfold latB at hl
  rw [latF_len] at hl
  have hne : (dueR ms r ms.length).drop c ≠ [] := by
    intro e
    have := congrArg List.length e
    rw [List.length_drop, List.length_nil] at this
    omega
  obtain ⟨e, d, h1, _, h3⟩ := latF_chain (n := (ms.length : Nat)) (ds := (dueR ms r ms.length).drop c) (fun d hd => due_le d (List.mem_of_mem_drop hd)) hne
  have h4 := latF_head (n := (ms.length : Nat)) hne
  rw [latF_drop, List.getElem?_drop, Nat.add_zero] at h4
  have h5 : hdF (ms.length : Nat) (latF (ms.length : Nat) ((dueR ms r ms.length).drop c)) = b := by
    have h6 : (latF (ms.length : Nat) (dueR ms r ms.length))[c]? = some b := h
    rw [h6] at h4
    rw [latF_drop]
    exact (Option.some.inj h4).symm
  rw [h5] at h3
  rw [List.getElem?_drop] at h1
  exact ⟨c + e, d, by omega, h1, by omega⟩
theorem row_pre {iw : Nat → Bool} {i : Nat} : rowB ms iw i = keptB ms iw i + (preN ms (i + 1) - preN ms i) := by
  unfold rowB
  have : preN ms (i + 1) = preN ms i + ms.getD i 0 := rfl
  omega
/-- where the whole time is enough, no beat lies ahead of all -/
theorem latB_pos (ev : ∀ i, i < ms.length → rowB ms (fun _ => true) i ≤ r) {c : Nat} {b : Int} (h : (latB ms r)[c]? = some b) : 0 ≤ b := by
  apply Classical.byContradiction
  intro neg
  obtain ⟨e, d, hce, hd, hb⟩ := latB_chain h
  obtain ⟨h1, h2, _⟩ := (due_facts ms r ms.length).1 e d hd
  have h3 := ev d h1
  rw [row_pre] at h3
  have h4 := kept_low ms (fun _ => true) 0 d
  have h5 := cntB_le (fun _ => true) 0 d
  rw [Nat.zero_add] at h4
  have h6 : preN ms 0 = 0 := rfl
  have h7 := preN_mono ms (show d ≤ d + 1 by omega)
  omega
/-- and the latest beats are enough -/
theorem latB_ok (ev : ∀ i, i < ms.length → rowB ms (fun _ => true) i ≤ r) {i : Nat} (hi : i < ms.length) : rowB ms (iwB (latB ms r)) i ≤ r := by
  apply Classical.byContradiction
  intro short
  have pos : ∀ x ∈ latB ms r, 0 ≤ x := fun x hx => by
    obtain ⟨k, hk⟩ := List.getElem?_of_mem hx
    exact latB_pos ev hk
  obtain ⟨j, d0, ej, hk⟩ := kept_eq ms (iwB (latB ms r)) i
  rw [row_pre] at short
  have hm := preN_mono ms (show i ≤ i + 1 by omega)
  have hji := preN_mono ms (show j ≤ i by omega)
  -- as many beats lie ahead of i as have to
  have hcnt : preN ms (i + 1) - r ≤ cntB (iwB (latB ms r)) 0 i := by
    by_cases z : preN ms (i + 1) ≤ r
    · omega
    · obtain ⟨d, hd, hdi⟩ := due_by (ms := ms) (r := r) (i := i) (n := ms.length) (c := preN ms (i + 1) - r - 1) hi (by omega)
      have hl := (List.getElem?_eq_some_iff.mp hd).1
      have hl2 : preN ms (i + 1) - r - 1 < (latB ms r).length := by unfold latB; rw [latF_len]; exact hl
      have hb := List.getElem?_eq_getElem hl2
      have hlt := latF_lt (n := (ms.length : Nat)) (show (latF (ms.length : Nat) (dueR ms r ms.length))[preN ms (i + 1) - r - 1]? = some _ from hb) hd
      have := cnt_ge latB_asc pos hb (i := i) (by omega)
      omega
  have hadd := cntB_add (iwB (latB ms r)) j d0
  rw [ej] at hadd
  have hc0 : preN ms j + 1 ≤ cntB (iwB (latB ms r)) 0 j := by omega
  -- so one lies ahead of j
  have hex : ∃ b, (latB ms r)[preN ms j]? = some b ∧ b < (j : Int) := by
    apply Classical.byContradiction
    intro no
    have := cnt_lt (B := latB ms r) (c := preN ms j) (i := j) latB_asc fun b hb => by
      apply Classical.byContradiction
      intro z
      exact no ⟨b, hb, by omega⟩
    omega
  obtain ⟨b, hb, hbj⟩ := hex
  obtain ⟨e, d, hce, hd, hbe⟩ := latB_chain hb
  obtain ⟨h1, h2, _⟩ := (due_facts ms r ms.length).1 e d hd
  have hjd : j ≤ d := by
    apply Classical.byContradiction
    intro z
    have := preN_mono ms (show d + 1 ≤ j by omega)
    omega
  have h3 := ev d h1
  rw [row_pre] at h3
  have h4 := kept_low ms (fun _ => true) j (d - j)
  rw [show j + (d - j) = d by omega] at h4
  have h5 := cntB_le (fun _ => true) j (d - j)
  have h7 := preN_mono ms (show d ≤ d + 1 by omega)
  omega
/-- one beat later: too late -/
theorem latB_late {c : Nat} {b : Int} (h : (latB ms r)[c]? = some b) (hno : b + 1 ∉ latB ms r) {iw : Nat → Bool} (hiw : ∀ t : Nat, (t : Int) ≤ b → iw t = true → ∃ k b', k < c ∧ (latB ms r)[k]? = some b' ∧ b' = (t : Int)) : ∃ i, i < ms.length ∧ r < rowB ms iw i := by
  obtain ⟨d, hd, _, h1, h2⟩ := latB_due h
  have hb : b = (d : Int) - 1 := by
    rcases latF_step (n := (ms.length : Nat)) due_le h hd with z | ⟨b', z1, z2⟩
    · exact z
    · exact absurd (List.mem_of_getElem? z1) (by rw [show b' = b + 1 by omega]; exact hno)
  refine ⟨d, h1, ?_⟩
  rw [row_pre]
  have h4 := kept_low ms iw 0 d
  rw [Nat.zero_add] at h4
  have h5 : cntB iw 0 d ≤ c := by
    rw [cntB_filter]
    have e1 : (((List.range d).filter iw).map fun t : Nat => (t : Int)).length = ((List.range d).filter iw).length := List.length_map _
    rw [← e1]
    refine Nat.le_trans (len_of_sub (l := (latB ms r).take c) ?_ fun x hx => ?_) (by rw [List.length_take]; omega)
    · refine List.pairwise_map.mpr (List.Pairwise.imp (R := (· < ·)) (fun {a b} h e => ?_) (List.Pairwise.filter _ List.pairwise_lt_range))
      omega
    · obtain ⟨t, ht, rfl⟩ := List.mem_map.mp hx
      obtain ⟨g1, g2⟩ := List.mem_filter.mp ht
      have := List.mem_range.mp g1
      obtain ⟨k, b', hk, hkb, e⟩ := hiw t (by omega) g2
      rw [List.mem_iff_getElem?]
      exact ⟨k, by rw [List.getElem?_take_of_lt hk, hkb, e]⟩
  have h6 : preN ms 0 = 0 := rfl
  have h7 := preN_mono ms (show d ≤ d + 1 by omega)
  omega
theorem firstB_none {iw : Nat → Bool} : firstN (rowsB ms iw) r = none ↔ ∀ i, i < ms.length → rowB ms iw i ≤ r := by
  have hl : (rowsB ms iw).length = ms.length := by unfold rowsB; rw [List.length_map, List.length_range]
  have hg : ∀ i, i < ms.length → (rowsB ms iw).getD i 0 = rowB ms iw i := fun i hi => by
    rw [List.getD_eq_getElem?_getD]
    unfold rowsB
    rw [List.getElem?_map, List.getElem?_range hi]
    rfl
  constructor
  · intro h i hi
    unfold firstN at h
    rw [List.head?_eq_none_iff, List.filter_eq_nil_iff] at h
    have := h i (List.mem_range.mpr (by omega))
    rw [hg i hi, decide_eq_true_iff] at this
    omega
  · intro h
    refine firstN_none fun j hj => ?_
    rw [hg j (by omega)]
    have := h j (by omega)
    omega
/-- the latest beats are enough just where the whole time is -/
theorem latB_iff : firstN (rowsB ms (iwB (latB ms r))) r = none ↔ firstN (rowsB ms (fun _ => true)) r = none := by
  rw [firstB_none, firstB_none]
  constructor
  · intro h i hi
    have h1 := h i hi
    have h2 := kept_mono (ms := ms) (iw := iwB (latB ms r)) (iw' := fun _ => true) (fun _ _ => rfl) i
    unfold rowB at h1 ⊢
    omega
  · intro h i hi
    exact latB_ok h hi
end
end K22

namespace K22
open PySem PySem.Spec PyProof.Rows L2 Sky
/-! ### beats as windows -/
def spanStep (ws : List (Int × Int)) (b : Int) : List (Int × Int) := match ws.getLast? with
  | some w => if w.2 = b then ws.dropLast ++ [(w.1, b + 1)] else ws ++ [(b, b + 1)]
  | none => [(b, b + 1)]
def spansZ (B : List Int) : List (Int × Int) := B.foldl spanStep []
def beatsOf (w : Int × Int) : List Int := (List.range (w.2 - w.1).toNat).map fun i : Nat => w.1 + (i : Int)
def flatZ (ws : List (Int × Int)) : List Int := ws.flatMap beatsOf
theorem mem_beats {w : Int × Int} {t : Int} : t ∈ beatsOf w ↔ w.1 ≤ t ∧ t < w.2 := by
  unfold beatsOf
  rw [List.mem_map]
  constructor
  · rintro ⟨i, hi, rfl⟩
    have := List.mem_range.mp hi
    omega
  · rintro ⟨h1, h2⟩
    exact ⟨(t - w.1).toNat, List.mem_range.mpr (by omega), by omega⟩
theorem inZ_flat (ws : List (Int × Int)) (t : Int) : inZ ws t = decide (t ∈ flatZ ws) := by
  unfold inZ flatZ
  rw [Bool.eq_iff_iff, List.any_eq_true, decide_eq_true_iff, List.mem_flatMap]
  constructor
  · rintro ⟨w, hw, h⟩
    rw [Bool.and_eq_true, decide_eq_true_iff, decide_eq_true_iff] at h
    exact ⟨w, hw, mem_beats.mpr h⟩
  · rintro ⟨w, hw, h⟩
    have := mem_beats.mp h
    exact ⟨w, hw, by rw [decide_eq_true this.1, decide_eq_true this.2]; rfl⟩
structure SpanOk (ws : List (Int × Int)) (B : List Int) : Prop where
  flat : flatZ ws = B
  pos : ∀ w ∈ ws, w.1 < w.2
  asc : ws.Pairwise fun a b => a.2 ≤ b.1
  len : ws.length ≤ B.length
theorem SpanOk.in {ws : List (Int × Int)} {B : List Int} (h : SpanOk ws B) {w : Int × Int} (hw : w ∈ ws) : w.1 ∈ B ∧ w.2 - 1 ∈ B := by
  have hp := h.pos w hw
  have hf := h.flat
  rw [← hf]
  exact ⟨List.mem_flatMap.mpr ⟨w, hw, mem_beats.mpr ⟨by omega, hp⟩⟩, List.mem_flatMap.mpr ⟨w, hw, mem_beats.mpr ⟨by omega, by omega⟩⟩⟩
theorem beats_one (b : Int) : beatsOf (b, b + 1) = [b] := by
  unfold beatsOf
  show (List.range (b + 1 - b).toNat).map _ = _
  rw [show (b + 1 - b).toNat = 1 by omega]
  show [b + ((0 : Nat) : Int)] = [b]
  rw [show b + ((0 : Nat) : Int) = b by omega]
theorem beats_more {a b : Int} (h : a ≤ b) : beatsOf (a, b + 1) = beatsOf (a, b) ++ [b] := by
  unfold beatsOf
  show (List.range (b + 1 - a).toNat).map _ = (List.range (b - a).toNat).map _ ++ _
  rw [show (b + 1 - a).toNat = (b - a).toNat + 1 by omega, List.range_succ, List.map_append]
  congr 1
  show [a + (((b - a).toNat : Nat) : Int)] = [b]
  rw [show a + (((b - a).toNat : Nat) : Int) = b by omega]
theorem getLast_snoc {α : Type} {l : List α} {x : α} (h : l.getLast? = some x) : l = l.dropLast ++ [x] := by
  have hne : l ≠ [] := fun e => by rw [e] at h; cases h
  have h1 := List.dropLast_concat_getLast hne
  rw [List.getLast?_eq_getLast hne] at h
  rw [← Option.some.inj h]
  exact h1.symm
theorem SpanOk.step {ws : List (Int × Int)} {B : List Int} (h : SpanOk ws B) {b : Int} (lt : ∀ x ∈ B, x < b) : SpanOk (spanStep ws b) (B ++ [b]) := by
  have add : SpanOk (ws ++ [(b, b + 1)]) (B ++ [b]) := by
    refine ⟨?_, fun w hw => ?_, ?_, by rw [List.length_append, List.length_append]; exact Nat.add_le_add_right h.len 1⟩
    · unfold flatZ
      rw [List.flatMap_append, List.flatMap_cons, List.flatMap_nil, List.append_nil, beats_one]
      rw [← h.flat]; rfl
    · rcases List.mem_append.mp hw with e | e
      · exact h.pos w e
      · rw [List.mem_singleton.mp e]; show b < b + 1; omega
    · rw [List.pairwise_append]
      refine ⟨h.asc, List.pairwise_singleton _ _, fun x hx y hy => ?_⟩
      rw [List.mem_singleton.mp hy]
      have := lt _ (h.in hx).2
      show x.2 ≤ b
      omega
  unfold spanStep
  cases e : ws.getLast? with
  | none =>
    have : ws = [] := List.getLast?_eq_none_iff.mp e
    subst this
    exact add
  | some w =>
    show SpanOk (if w.2 = b then ws.dropLast ++ [(w.1, b + 1)] else ws ++ [(b, b + 1)]) _
    by_cases c : w.2 = b
    · rw [if_pos c]
      have es := getLast_snoc e
      have hw : w ∈ ws := by rw [es]; exact List.mem_append_right _ (List.mem_singleton.mpr rfl)
      have hp := h.pos w hw
      have hasc := h.asc
      rw [es, List.pairwise_append] at hasc
      have hl := h.len
      rw [es, List.length_append, List.length_singleton] at hl
      refine ⟨?_, fun x hx => ?_, ?_, by rw [List.length_append, List.length_append, List.length_singleton, List.length_singleton]; omega⟩
      · have hf := h.flat
        rw [es] at hf
        unfold flatZ at hf ⊢
        rw [List.flatMap_append, List.flatMap_cons, List.flatMap_nil, List.append_nil] at hf ⊢
        rw [beats_more (by omega), ← List.append_assoc]
        have e2 : beatsOf (w.1, b) = beatsOf w := by rw [← c]
        rw [e2, hf]
      · rcases List.mem_append.mp hx with z | z
        · exact h.pos x (by rw [es]; exact List.mem_append_left _ z)
        · rw [List.mem_singleton.mp z]; show w.1 < b + 1; omega
      · rw [List.pairwise_append]
        refine ⟨hasc.1, List.pairwise_singleton _ _, fun x hx y hy => ?_⟩
        rw [List.mem_singleton.mp hy]
        exact hasc.2.2 x hx w (List.mem_singleton.mpr rfl)
    · rw [if_neg c]
      exact add
theorem spans_snoc (B : List Int) (b : Int) : spansZ (B ++ [b]) = spanStep (spansZ B) b := by
  unfold spansZ
  rw [List.foldl_append]
  rfl
theorem spans_take {B : List Int} {i : Nat} {b : Int} (h : B[i]? = some b) : spansZ (B.take (i + 1)) = spanStep (spansZ (B.take i)) b := by
  rw [List.take_add_one, h, Option.toList_some, spans_snoc]
theorem spans_ok_take {B : List Int} (asc : B.Pairwise (· < ·)) : ∀ i, i ≤ B.length → SpanOk (spansZ (B.take i)) (B.take i)
  | 0, _ => ⟨by simp [spansZ, flatZ], by simp [spansZ], by simp [spansZ], by simp [spansZ]⟩
  | i + 1, hi => by
    have hl : i < B.length := hi
    rw [spans_take (List.getElem?_eq_getElem hl)]
    have e : B.take (i + 1) = B.take i ++ [B[i]] := by rw [List.take_add_one, List.getElem?_eq_getElem hl, Option.toList_some]
    rw [e]
    refine (spans_ok_take asc i (by omega)).step fun x hx => ?_
    obtain ⟨k, hk⟩ := List.getElem?_of_mem hx
    have hkl := (List.getElem?_eq_some_iff.mp hk).1
    rw [List.length_take] at hkl
    rw [List.getElem?_take_of_lt (by omega)] at hk
    obtain ⟨l1, e1⟩ := List.getElem?_eq_some_iff.mp hk
    rw [← e1]
    exact List.pairwise_iff_getElem.mp asc k i l1 hl (by omega)
theorem spans_ok {B : List Int} (asc : B.Pairwise (· < ·)) : SpanOk (spansZ B) B := by
  have := spans_ok_take asc B.length (Nat.le_refl _)
  rwa [List.take_length] at this
theorem spans_inB {B : List Int} (asc : B.Pairwise (· < ·)) : inB (spansZ B) = iwB B := by
  funext t
  unfold inB iwB
  rw [inZ_flat, (spans_ok asc).flat]
theorem spans_plan {B : List Int} {n : Nat} (asc : B.Pairwise (· < ·)) (h : ∀ b ∈ B, 0 ≤ b ∧ b < (n : Nat)) : PlanZ n (spansZ B) := by
  have hs := spans_ok asc
  refine ⟨fun w hw => ?_, hs.asc⟩
  obtain ⟨h1, h2⟩ := hs.in hw
  have a := h _ h1
  have b := h _ h2
  have c := hs.pos w hw
  exact ⟨a.1, c, by omega⟩
section
variable {P : Program} {w : World} {K : PySem.W.Frag} {mg : Str → Option Value} {base : Heap}
theorem set_last (us : List V) (u v : V) : (us ++ [u]).set us.length v = us ++ [v] := by
  rw [List.set_append_right _ _ (Nat.le_refl _), Nat.sub_self]
  rfl
/-- what the windows are when one more beat is put to them -/
theorem td_last {H : Hp} {us : List V} {ws : List (Int × Int)} (t : TDs H us (ws.map wZ)) {x : Int × Int} (h : ws.getLast? = some x) : ∃ us0 p, us = us0 ++ [V.ref p] ∧ H p = some (.tup [.int x.1, .int x.2]) ∧ TDs H us0 (ws.dropLast.map wZ) := by
  have es := getLast_snoc h
  have hlen : us.length = ws.dropLast.length + 1 := by
    have := t.length
    rw [es, List.length_map, List.length_append, List.length_singleton] at this
    exact this
  have tt := t.take ws.dropLast.length
  rw [es, List.map_append, List.take_left' (by rw [List.length_map, List.dropLast_concat])] at tt
  obtain ⟨v, hv, tv⟩ := t.getD (i := ws.dropLast.length) (d := wZ x) (by
    rw [List.getElem?_map]
    rw [show ws[ws.dropLast.length]? = some x by rw [es]; simp]
    rfl)
  obtain ⟨p, rfl, hp⟩ := td_w tv
  refine ⟨us.take ws.dropLast.length, p, ?_, hp, by simpa using tt⟩
  have hl2 : ws.dropLast.length < us.length := by omega
  have e1 : us.drop ws.dropLast.length = [V.ref p] := by
    rw [List.drop_eq_getElem_cons hl2, (List.getElem?_eq_some_iff.mp hv).2, List.drop_of_length_le (by omega)]
  rw [← e1, List.take_append_drop]
end
end K22

namespace K22
open PySem PySem.Spec PyProof.Rows L2 Sky
section
variable {P : Program} {w : World} {K : PySem.W.Frag} {mg : Str → Option Value} {base : Heap}
/-- how the windows so far stand while one more beat is put to them -/
theorem span_none {ws : List (Int × Int)} (h : ws = []) (b : Int) : spanStep ws b = ws ++ [(b, b + 1)] := by subst h; rfl
theorem span_other {ws : List (Int × Int)} {x : Int × Int} {b : Int} (h : ws.getLast? = some x) (c : ¬ x.2 = b) : spanStep ws b = ws ++ [(b, b + 1)] := by
  unfold spanStep
  rw [h]
  exact if_neg c
theorem span_same {ws : List (Int × Int)} {x : Int × Int} {b : Int} (h : ws.getLast? = some x) (c : x.2 = b) : spanStep ws b = ws.dropLast ++ [(x.1, b + 1)] := by
  unfold spanStep
  rw [h]
  exact if_pos c
def sp_windows_of : Sp := fun vs H Q _ => ∃ (lb : Addr) (B : List Int), vs = [.ref lb] ∧ H lb = some (.lst (B.map V.int)) ∧ B.length ≤ 2000 ∧ B.Pairwise (· < ·) ∧ (∀ b ∈ B, -2500 ≤ b ∧ b ≤ 2500) ∧
  ∀ r us H', WsAt H' r us (spansZ B) → H r = none → Same H H' → Q (.ref r) H'
theorem spans_ws {B : List Int} {H : Hp} {r : Addr} {us : List V} (asc : B.Pairwise (· < ·)) (few : B.length ≤ 2000) (lim : ∀ b ∈ B, -2500 ≤ b ∧ b ≤ 2500) (hr : H r = some (.tup us)) (t : TDs H us ((spansZ B).map wZ)) : WsAt H r us (spansZ B) := by
  have hs := spans_ok asc
  refine ⟨hr, t, fun w hw => ?_, Nat.le_trans hs.len few⟩
  obtain ⟨h1, h2⟩ := hs.in hw
  have a := lim _ h1
  have b := lim _ h2
  have c := hs.pos w hw
  omega
theorem ok_windows_of (T : Tx K mg) : FnOk P w K mg base CX0 1 T.a_windows_of T.d_windows_of ["beats"] sp_windows_of := by
  have nd := sc_windows_of.nd
  refine T.F_windows_of.ok sc_windows_of (fun vs H Q E h => ?_) (fun cdv A outer s H vs Q E hr h => ?_)
  · obtain ⟨_, _, rfl, _⟩ := h
    rfl
  · obtain ⟨lb, B, rfl, hB, few, asc, lim, fin⟩ := h
    refine ⟨_, (pss_cons (ps_set (i := 1) nd rfl (Or.inl rfl) (pe_lst pa_nil)) (pss_cons (ps_for PassesOwn.never rfl (pi_list (pv 0)) (pg_name (i := 2) nd rfl (Or.inl rfl)) (pss_one (ps_if (PW.pt (pw_and (pt_truth (pv 1) (by intro _; rfl)) (pw_and1 (pt_cmpR op_eq (pe_ix ix_tup (pe_ix ix_list (pv 1) (pe_un un_neg pe_int) (fun _ _ => rfl)) pe_int (fun _ _ => rfl)) (pv 2) (nomark _))))) (pss_one (ps_asg (pe_tup (pa_cons (pe_ix ix_tup (pe_ix ix_list (pv 1) (pe_un un_neg pe_int) (fun _ _ => rfl)) pe_int (fun _ _ => rfl)) (pa_cons (pe_op op_add (pv 2) pe_int) pa_nil))) (pg_sub (pv 1) (pe_un un_neg pe_int) set_list))) (pss_one (ps_expr (pe_bm PySem.F.plainAttrs_list PySem.F.slot_list_append PySem.F.type_list_append mt_append (pv 1) (pa_cons (pe_tup (pa_cons (pv 2) (pa_cons (pe_op op_add (pv 2) pe_int) pa_nil))) pa_nil))))))) (pss_one (ps_ret (pe_tupleOf (by rfl) T.z_tuple (pv 1)))))), ?_⟩
    refine ⟨Nat.zero_le _, fun F hF => ?_⟩
    have nBF : lb ≠ F := ne_of_none hB hF
    have s1 := same_new (Same.refl H) hF (o := .lst [])
    have hF1 : upd H F (.lst []) F = some (.lst []) := upd_same
    generalize upd H F (.lst []) = H1 at *
    refine ⟨_, rfl, lb, rfl, ⟨_, SqL.of (s1 _ _ hB)⟩, ?_⟩
    refine for_list (K := K) (a := lb) (xs := B.map V.int) (fun i σ H' => ∃ (v2 : Option V) (us : List V), σ = [some (.ref lb), some (.ref F), v2] ∧ H' F = some (.lst us) ∧ TDs H' us ((spansZ (B.take i)).map wZ) ∧ Same H H') ⟨_, [], rfl, hF1, .nil, s1⟩ (fun i σ H' _ ⟨_, _, _, _, _, s⟩ => SqL.of (s _ _ hB)) ?_ ?_
    · rintro i y σ H2 hy ⟨v2, us, rfl, hF2, tu, s2⟩
      obtain ⟨b, hb, rfl⟩ := map_get hy
      have hil : i < B.length := (List.getElem?_eq_some_iff.mp hb).1
      have hsl := (spans_ok_take asc i (by omega)).len
      rw [List.length_take] at hsl
      have hul : us.length = (spansZ (B.take i)).length := by rw [tu.length, List.length_map]
      rw [spans_take hb]
      generalize spansZ (B.take i) = ws at *
      -- a new one
      have new : ∀ H3, Same H H3 → H3 F = some (.lst us) → TDs H3 us (ws.map wZ) → spanStep ws b = ws ++ [(b, b + 1)] → ∀ t : Addr, H3 t = none → ∃ (v2 : Option V) (us2 : List V), [some (V.ref lb), some (.ref F), some (.int b)] = [some (.ref lb), some (.ref F), v2] ∧
          (upd (upd H3 t (.tup [.int b, .int (b + 1)])) F (.lst (us ++ [.ref t]))) F = some (.lst us2) ∧ TDs (upd (upd H3 t (.tup [.int b, .int (b + 1)])) F (.lst (us ++ [.ref t]))) us2 ((spanStep ws b).map wZ) ∧ Same H (upd (upd H3 t (.tup [.int b, .int (b + 1)])) F (.lst (us ++ [.ref t]))) := by
        intro H3 s3 hF3 tu3 es t ht
        have nFt : F ≠ t := ne_of_none hF3 ht
        refine ⟨_, us ++ [.ref t], rfl, upd_same, ?_, same_mut (same_new s3 ht) hF⟩
        have t1 := TSm.of_same (same_new (Same.refl H3) ht (o := .tup [.int b, .int (b + 1)]))
        rw [es, List.map_append]
        exact ((tu3.mono t1).app (.one (.tup upd_same (.cons (.int _) (.cons (.int _) .nil))))).mono (ts_upd (TSm.refl _) (NoT.lst (by rw [upd_ne nFt]; exact hF3)))
      cases hw : ws.getLast? with
      | none =>
        have e0 : ws = [] := List.getLast?_eq_none_iff.mp hw
        have eu : us = [] := List.eq_nil_of_length_eq_zero (by rw [hul, e0]; rfl)
        refine ⟨_, rfl, false, .inl ⟨us, SqL.of hF2, by rw [eu]; rfl⟩, iteF (iteF ?_)⟩
        refine ⟨_, rfl, .inl ⟨rfl, _, SqL.of hF2⟩, _, rfl, _, rfl, _, 1, rfl, rfl, (by decide : (2 : Nat) ≤ sizeLine), fun t ht => ?_⟩
        have nFt : F ≠ t := ne_of_none hF2 ht
        refine ⟨F, us, _, rfl, rfl, by rw [upd_ne nFt]; exact hF2, lt_line (by omega), ?_⟩
        exact new H2 s2 hF2 tu (span_none e0 b) t ht
      | some x =>
        obtain ⟨us0, p, eu, hp, tu0⟩ := td_last tu hw
        have hat : atI us (-1) = some (.ref p) := by rw [eu]; exact atI_last _ _
        refine ⟨_, rfl, true, .inl ⟨us, SqL.of hF2, by rw [eu]; simp⟩, iteT ?_⟩
        refine ⟨_, rfl, 1, rfl, F, us, _, .ref p, rfl, rfl, SqL.of hF2, hat, p, _, 1, _, rfl, rfl, SqT.of hp, atI_nat (j := 1) rfl, _, rfl, rfl, _, rfl, ?_⟩
        by_cases c : x.2 = b
        · have ec : decide (V.int x.2 = V.int b) = true := by rw [c]; exact decide_eq_true rfl
          refine ite2 (fun _ => ?_) (fun z => absurd ec z)
          refine ⟨_, rfl, 1, rfl, F, us, _, .ref p, rfl, rfl, SqL.of hF2, hat, p, _, 0, _, rfl, rfl, SqT.of hp, atI_nat (j := 0) rfl, _, rfl, _, 1, rfl, rfl, (by decide : (2 : Nat) ≤ sizeLine), fun t ht => ?_⟩
          have nFt : F ≠ t := ne_of_none hF2 ht
          have hix : ixN us.length (-1) = some us0.length := by
            rw [eu, List.length_append, List.length_singleton]
            unfold ixN
            rw [if_neg (by omega), if_pos (by omega)]
            congr 1
            omega
          refine ⟨_, rfl, 1, rfl, F, us, _, us0.length, rfl, rfl, by rw [upd_ne nFt]; exact hF2, hix, ?_⟩
          rw [eu, set_last]
          refine ⟨_, us0 ++ [.ref t], rfl, upd_same, ?_, same_mut (same_new s2 ht) hF⟩
          have t1 := TSm.of_same (same_new (Same.refl H2) ht (o := .tup [.int x.1, .int (b + 1)]))
          rw [span_same hw c, List.map_append]
          exact ((tu0.mono t1).app (.one (.tup upd_same (.cons (.int _) (.cons (.int _) .nil))))).mono (ts_upd (TSm.refl _) (NoT.lst (by rw [upd_ne nFt]; exact hF2)))
        · have ec : ¬ decide (V.int x.2 = V.int b) = true := fun z => c (by have := of_decide_eq_true z; injection this)
          refine ite2 (fun z => absurd z ec) (fun _ => ?_)
          refine ⟨_, rfl, .inl ⟨rfl, _, SqL.of hF2⟩, _, rfl, _, rfl, _, 1, rfl, rfl, (by decide : (2 : Nat) ≤ sizeLine), fun t ht => ?_⟩
          have nFt : F ≠ t := ne_of_none hF2 ht
          refine ⟨F, us, _, rfl, rfl, by rw [upd_ne nFt]; exact hF2, lt_line (by omega), ?_⟩
          exact new H2 s2 hF2 tu (span_other hw c) t ht
    · rintro σ H2 ⟨v2, us, rfl, hF2, tu, s2⟩
      rw [List.length_map, List.take_length] at tu
      refine ⟨_, rfl, .inl ⟨F, _, rfl, SqL.of hF2, fun r hr2 => ?_⟩⟩
      have s3 := s2.trans (same_new (Same.refl H2) hr2 (o := .tup us))
      exact fin r us _ (spans_ws asc few lim upd_same (tu.mono (TSm.of_same (same_new (Same.refl H2) hr2)))) (s2.free hr2) s3
/-! ### the latest beats -/
theorem rep_ints (n : Nat) (i : Nat) : (List.replicate n [V.int ((i : Nat) : Int)]).flatten = ((List.replicate n i).map fun x : Nat => (x : Int)).map V.int := by
  induction n with
  | zero => rfl
  | succ n ih => rw [List.replicate_succ, List.replicate_succ, List.flatten_cons, ih]; rfl
theorem preN_le {ms : List Nat} (h : ∀ x ∈ ms, x ≤ 6) : ∀ i, preN ms i ≤ 6 * i
  | 0 => Nat.le_refl _
  | i + 1 => by
    have h1 := preN_le h i
    have h2 := six_at h i
    show preN ms i + _ ≤ _
    omega
theorem dueR_len {ms : List Nat} {r : Nat} : ∀ i, (dueR ms r i).length ≤ preN ms i - r
  | 0 => Nat.zero_le _
  | i + 1 => by
    have h1 := dueR_len (ms := ms) (r := r) i
    have h2 := preN_mono ms (show i ≤ i + 1 by omega)
    show (dueR ms r i ++ List.replicate _ i).length ≤ _
    rw [List.length_append, List.length_replicate]
    omega
theorem due_beats (ms : List Nat) (r : Nat) : (dueR ms r ms.length).length ≤ ms.length ∨ True := .inr trivial
theorem latB_len (ms : List Nat) (r : Nat) : (latB ms r).length = (dueR ms r ms.length).length := latF_len _ _
theorem latF_low {n : Int} : ∀ (ds : List Nat), 0 ≤ n → ∀ b ∈ latF n ds, -(ds.length : Int) ≤ b
  | [], _, b, h => by cases h
  | d :: ds, hn, b, h => by
    have ih := latF_low (n := n) ds hn
    rcases List.mem_cons.mp h with e | e
    · rw [e, List.length_cons]
      have : -(ds.length : Int) ≤ hdF n (latF n ds) := by
        cases e2 : latF n ds with
        | nil => show _ ≤ n; omega
        | cons x l => show _ ≤ x; exact ih x (by rw [e2]; exact List.mem_cons_self)
      omega
    · have := ih b e
      rw [List.length_cons]
      omega
def sp_latest : Sp := fun vs H Q _ => ∃ (am : Addr) (ms : List Nat) (r : Nat), vs = [.ref am, .int (r : Nat)] ∧ MsAt H am ms ∧ r ≤ 1000 ∧ ∀ p H', H' p = some (.lst ((latB ms r).map V.int)) → H p = none → Same H H' → Q (.ref p) H'
theorem sorted_is {xs ys : List Int} (p : ys.Perm xs.reverse) (s : ys.Pairwise (· ≤ ·)) (asc : xs.Pairwise (· < ·)) : ys = xs := by
  have nd : xs.reverse.Nodup := by
    exact (List.reverse_perm xs).nodup_iff.mpr (asc.imp fun h => Int.ne_of_lt h)
  refine rising_same (rising_of p s nd) asc fun x => ?_
  rw [p.mem_iff, List.mem_reverse]
theorem ok_latest_beats (T : Tx K mg) : FnOk P w K mg base CX0 1 T.a_latest_beats T.d_latest_beats ["makes", "room"] sp_latest := by
  have nd := sc_latest_beats.nd
  refine T.F_latest_beats.ok sc_latest_beats (fun vs H Q E h => ?_) (fun cdv A outer s H vs Q E hr h => ?_)
  · obtain ⟨_, _, _, rfl, _⟩ := h
    rfl
  · obtain ⟨am, ms, r, rfl, hM, hr1, fin⟩ := h
    have hfew := hM.few
    refine ⟨_, (pss_cons (ps_set (i := 2) nd rfl (Or.inl rfl) (pe_lst pa_nil)) (pss_cons (ps_set (i := 3) nd rfl (Or.inl rfl) pe_int) (pss_cons (ps_for PassesOwn.never rfl (pi_enumT (by rfl) T.z_enumerate (pa_cons (pv 0) pa_nil)) (pg_tup rfl (pgs_cons (pg_name (i := 4) nd rfl (Or.inl rfl)) (pgs_cons (pg_name (i := 5) nd rfl (Or.inl rfl)) pgs_nil))) (pss_cons (ps_aug (i := 3) nd rfl (Or.inl rfl) (pv 5) ip_add) (pss_one (ps_expr (pe_bm PySem.F.plainAttrs_list PySem.F.slot_list_extend PySem.F.type_list_extend mt_extend (pv 2) (pa_cons (pe_op op_rep (pe_lst (pa_cons (pv 4) pa_nil)) (pe_op op_sub (pe_op op_sub (pv 3) (pv 1)) (pe_callB call_len_seq (by rfl) T.z_len PySem.boot_len (pa_cons (pv 2) pa_nil)))) pa_nil)))))) (pss_cons (ps_set (i := 6) nd rfl (Or.inl rfl) (pe_lst pa_nil)) (pss_cons (ps_set (i := 7) nd rfl (Or.inl rfl) (pe_callB call_len_seq (by rfl) T.z_len PySem.boot_len (pa_cons (pv 0) pa_nil))) (pss_cons (ps_for PassesOwn.never rfl (pi_reversed (by rfl) T.z_reversed (pa_cons (pv 2) pa_nil)) (pg_name (i := 4) nd rfl (Or.inl rfl)) (pss_cons (ps_set (i := 7) nd rfl (Or.inl rfl) (pe_op op_sub (pe_callB (call_min2 rfl) (by rfl) T.z_min (by decide +kernel) (pa_cons (pv 4) (pa_cons (pv 7) pa_nil))) pe_int)) (pss_one (ps_expr (pe_bm PySem.F.plainAttrs_list PySem.F.slot_list_append PySem.F.type_list_append mt_append (pv 6) (pa_cons (pv 7) pa_nil)))))) (pss_one (ps_ret (pe_callB cr_sortedI (by rfl) T.z_sorted (by decide +kernel) (pa_cons (pv 6) pa_nil)))))))))), ?_⟩
    -- due
    refine ⟨Nat.zero_le _, fun U hU => ?_⟩
    have s1 := same_new (Same.refl H) hU (o := .lst [])
    have hU1 : upd H U (.lst []) U = some (.lst []) := upd_same
    generalize upd H U (.lst []) = H1 at *
    refine ⟨_, rfl, am, _, rfl, SqT.of (s1 _ _ hM.m), ?_⟩
    refine for_enumT (K := K) (l := am) (ys := (ms.map fun x : Nat => (x : Int)).map V.int) (fun i σ H' => ∃ (v4 v5 : Option V), σ = [some (.ref am), some (.int (r : Nat)), some (.ref U), some (.int ((preN ms i : Nat) : Int)), v4, v5, none, none] ∧
      H' U = some (.lst (((dueR ms r i).map fun x : Nat => (x : Int)).map V.int)) ∧ Same H H') ⟨_, _, rfl, hU1, s1⟩ (fun i σ H' _ ⟨_, _, _, _, s⟩ => SqT.of (s _ _ hM.m)) ?_ ?_
    · rintro i y σ H3 t hy ⟨v4, v5, rfl, hU3, s3⟩ ht
      obtain ⟨n, hn, rfl⟩ := map_get hy
      obtain ⟨m, hm, rfl⟩ := map_get hn
      have hil : i < ms.length := (List.getElem?_eq_some_iff.mp hm).1
      have nUt : U ≠ t := ne_of_none hU3 ht
      have s4 := s3.trans (same_new (Same.refl H3) ht (o := .tup [.int ((i : Nat) : Int), .int ((m : Nat) : Int)]))
      have hU4 : upd H3 t (.tup [.int ((i : Nat) : Int), .int ((m : Nat) : Int)]) U = some (.lst (((dueR ms r i).map fun x : Nat => (x : Int)).map V.int)) := by rw [upd_ne nUt]; exact hU3
      refine ⟨t, _, rfl, SqT.of upd_same, rfl, _, _, rfl, _, _, rfl, rfl, ?_⟩
      generalize upd H3 t (.tup [.int ((i : Nat) : Int), .int ((m : Nat) : Int)]) = H4 at *
      have epre : ((preN ms i : Nat) : Int) + ((m : Nat) : Int) = ((preN ms (i + 1) : Nat) : Int) := by
        show _ = ((preN ms i + ms.getD i 0 : Nat) : Int)
        rw [getD_nat hm]
        omega
      refine ⟨_, rfl, _, rfl, _, _, rfl, rfl, ?_⟩
      simp only [epre]
      have hp6 := preN_le hM.six (i + 1)
      have hdl := dueR_len (ms := ms) (r := r) i
      have hpm := preN_mono ms (show i ≤ i + 1 by omega)
      refine ⟨_, rfl, .inl ⟨rfl, _, SqL.of hU4⟩, _, rfl, (by decide : (1 : Nat) ≤ sizeLine), fun l1 hl1 => ?_⟩
      have s5 := same_new (Same.refl H4) hl1 (o := .lst [.int ((i : Nat) : Int)])
      have hl5 : upd H4 l1 (.lst [.int ((i : Nat) : Int)]) l1 = some (.lst [.int ((i : Nat) : Int)]) := upd_same
      have hU5 := s5 _ _ hU4
      generalize upd H4 l1 (.lst [.int ((i : Nat) : Int)]) = H5 at *
      refine ⟨_, rfl, _, rfl, _, _, rfl, rfl, _, rfl, U, _, rfl, .inl (SqL.of hU5), _, _, rfl, rfl, ?_⟩
      have hz : (((dueR ms r i).map fun x : Nat => (x : Int)).map V.int).length = (dueR ms r i).length := by rw [List.length_map, List.length_map]
      rw [hz]
      refine ⟨l1, _, _, rfl, rfl, hl5, (by omega), (by omega), le_line (by rw [List.length_singleton]; omega), fun l2 hl2 => ?_⟩
      have en : (((preN ms (i + 1) : Nat) : Int) - ((r : Nat) : Int) - (((dueR ms r i).length : Nat) : Int)).toNat = preN ms (i + 1) - r - (dueR ms r i).length := by omega
      rw [en, rep_ints]
      have s6 := same_new (Same.refl H5) hl2 (o := .lst (((List.replicate (preN ms (i + 1) - r - (dueR ms r i).length) i).map fun x : Nat => (x : Int)).map V.int))
      have hU6 := s6 _ _ hU5
      refine ⟨U, l2, _, _, rfl, rfl, hU6, upd_same, le_line (by rw [hz, List.length_map, List.length_map, List.length_replicate]; omega), ?_⟩
      refine ⟨_, _, rfl, ?_, same_mut ((s4.trans s5).trans s6) hU⟩
      rw [upd_same, ← List.map_append, ← List.map_append]
      rfl
    · rintro σ H3 ⟨v4, v5, rfl, hU3, s3⟩
      rw [List.length_map, List.length_map] at hU3
      have hdl := dueR_len (ms := ms) (r := r) ms.length
      have hp6 := preN_le hM.six ms.length
      generalize hds : dueR ms r ms.length = ds at *
      -- beats, ahead
      refine ⟨Nat.zero_le _, fun F hF => ?_⟩
      have nUF : U ≠ F := ne_of_none hU3 hF
      have s4 := s3.trans (same_new (Same.refl H3) hF (o := .lst []))
      have hF4 : upd H3 F (.lst []) F = some (.lst []) := upd_same
      have hU4 : upd H3 F (.lst []) U = some (.lst ((ds.map fun x : Nat => (x : Int)).map V.int)) := by rw [upd_ne nUF]; exact hU3
      have fF := s3.free hF
      generalize upd H3 F (.lst []) = H4 at *
      refine ⟨_, rfl, am, _, rfl, .inr (SqT.of (s4 _ _ hM.m)), ?_⟩
      rw [List.length_map, List.length_map]
      refine ⟨_, rfl, U, _, rfl, SqL.of hU4, ?_⟩
      refine RT.for_Itv (K := K) (a := U) (xs := (ds.map fun x : Nat => (x : Int)).map V.int) (fun i σ H' => ∃ (w4 : Option V), σ = [some (.ref am), some (.int (r : Nat)), some (.ref U), some (.int ((preN ms ms.length : Nat) : Int)), w4, v5, some (.ref F), some (.int (hdF ((ms.length : Nat) : Int) (latF ((ms.length : Nat) : Int) (ds.drop (ds.length - i)))))] ∧
        H' F = some (.lst ((latF ((ms.length : Nat) : Int) (ds.drop (ds.length - i))).reverse.map V.int)) ∧ H' U = some (.lst ((ds.map fun x : Nat => (x : Int)).map V.int)) ∧ Same H H') ⟨_, by rw [Nat.sub_zero, List.drop_length]; rfl, by rw [Nat.sub_zero, List.drop_length]; exact hF4, hU4, s4⟩ (fun i σ H' ⟨_, _, _, h, _⟩ => SqL.of h) ?_ ?_
      · rintro i y σ H5 hi hy ⟨w4, rfl, hF5, hU5, s5⟩
        rw [List.length_map, List.length_map] at hi hy
        obtain ⟨n, hn, rfl⟩ := map_get hy
        obtain ⟨d, hd, rfl⟩ := map_get hn
        have edrop : ds.drop (ds.length - (i + 1)) = d :: ds.drop (ds.length - i) := by
          have hl : ds.length - 1 - i < ds.length := by omega
          rw [show ds.length - (i + 1) = ds.length - 1 - i by omega, List.drop_eq_getElem_cons hl, (List.getElem?_eq_some_iff.mp hd).2, show ds.length - 1 - i + 1 = ds.length - i by omega]
        rw [edrop]
        have elat : latF ((ms.length : Nat) : Int) (d :: ds.drop (ds.length - i)) = (min (d : Int) (hdF ((ms.length : Nat) : Int) (latF ((ms.length : Nat) : Int) (ds.drop (ds.length - i)))) - 1) :: latF ((ms.length : Nat) : Int) (ds.drop (ds.length - i)) := rfl
        have hll : (latF ((ms.length : Nat) : Int) (ds.drop (ds.length - i))).length ≤ ds.length := by rw [latF_len, List.length_drop]; omega
        rw [elat]
        generalize latF ((ms.length : Nat) : Int) (ds.drop (ds.length - i)) = l at *
        refine ⟨_, rfl, _, rfl, _, _, rfl, ?_⟩
        have emin : (if hdF ((ms.length : Nat) : Int) l < ((d : Nat) : Int) then hdF ((ms.length : Nat) : Int) l else ((d : Nat) : Int)) = min ((d : Nat) : Int) (hdF ((ms.length : Nat) : Int) l) := by
          split <;> omega
        simp only [emin]
        refine ⟨_, 1, rfl, rfl, ?_⟩
        refine ⟨_, rfl, .inl ⟨rfl, _, SqL.of hF5⟩, _, rfl, F, _, _, rfl, rfl, hF5, lt_line (by rw [List.length_map, List.length_reverse]; omega), ?_⟩
        refine ⟨_, rfl, ?_, by rw [upd_ne nUF]; exact hU5, same_mut s5 fF⟩
        rw [upd_same, List.reverse_cons, List.map_append]
        rfl
      · rintro σ H5 ⟨w4, rfl, hF5, hU5, s5⟩
        rw [List.length_map, List.length_map, Nat.sub_self, List.drop_zero] at hF5
        refine ⟨_, rfl, F, _, rfl, SqL.of hF5, fun ys p hp hs hnp => ?_⟩
        have e : ys = latB ms r := by
          have e2 : latB ms r = latF ((ms.length : Nat) : Int) ds := by unfold latB; rw [hds]
          rw [e2]
          exact sorted_is hp hs (latF_asc _ _)
        rw [e]
        exact fin p _ upd_same (s5.free hnp) (s5.trans (same_new (Same.refl _) hnp))
/-! ### the latest windows -/
def sp_least : Sp := fun vs H Q _ => ∃ (am : Addr) (ms : List Nat) (r : Nat), vs = [.ref am, .int (r : Nat)] ∧ MsAt H am ms ∧ 1 ≤ r ∧ r ≤ 60 ∧
  (firstN (rowsB ms (fun _ => true)) r ≠ none → ∀ H', Same H H' → Q .non H') ∧
  (firstN (rowsB ms (fun _ => true)) r = none → ∀ w us H', WsAt H' w us (spansZ (latB ms r)) → H w = none → Same H H' → Q (.ref w) H')
theorem latB_len_le {ms : List Nat} {r : Nat} (h6 : ∀ x ∈ ms, x ≤ 6) (few : ms.length ≤ 200) : (latB ms r).length ≤ 1200 := by
  rw [latB_len]
  have h1 := dueR_len (ms := ms) (r := r) ms.length
  have h2 := preN_le h6 ms.length
  omega
theorem latB_lim {ms : List Nat} {r : Nat} (h6 : ∀ x ∈ ms, x ≤ 6) (few : ms.length ≤ 200) : ∀ b ∈ latB ms r, -2500 ≤ b ∧ b ≤ 2500 := fun b hb => by
  have h1 := latF_low (n := ((ms.length : Nat) : Int)) (dueR ms r ms.length) (by omega) b hb
  have h2 := latB_len_le (r := r) h6 few
  rw [latB_len] at h2
  obtain ⟨c, hc⟩ := List.getElem?_of_mem hb
  rcases latB_lt hc with z | z <;> omega
theorem ok_least_windows (T : Tx K mg) : FnOk P w K mg base CX0 3 T.a_least_windows T.d_least_windows ["makes", "room"] sp_least := by
  have nd := sc_least_windows.nd
  refine T.F_least_windows.ok sc_least_windows (fun vs H Q E h => ?_) (fun cdv A outer s H vs Q E hr h => ?_)
  · obtain ⟨_, _, _, rfl, _⟩ := h
    rfl
  · obtain ⟨am, ms, r, rfl, hM, hr1, hr60, no, yes⟩ := h
    refine ⟨_, (pss_cons (ps_expr (pe_call (ok_check_makes T) (hr.mono (by decide)) (by rfl) T.m_check_makes T.F_check_makes.kp T.b_check_makes .nil pass0 (pa_cons (pv 0) pa_nil))) (pss_cons (ps_expr (pe_call (ok_check_room T) (hr.mono (by decide)) (by rfl) T.m_check_room T.F_check_room.kp T.b_check_room .nil pass0 (pa_cons (pv 1) pa_nil))) (pss_cons (ps_set (i := 2) nd rfl (Or.inl rfl) (pe_call (ok_windows_of T) (hr.mono (by decide)) (by rfl) T.m_windows_of T.F_windows_of.kp T.b_windows_of .nil pass0 (pa_cons (pe_call (ok_latest_beats T) (hr.mono (by decide)) (by rfl) T.m_latest_beats T.F_latest_beats.kp T.b_latest_beats .nil pass0 (pa_cons (pv 0) (pa_cons (pv 1) pa_nil))) pa_nil))) (pss_one (ps_ret (pe_ifExp (pt_cmpR op_isN (pe_call (ok_first_short T) (hr.mono (by decide)) (by rfl) T.m_first_short T.F_first_short.kp T.b_first_short .nil pass0 (pa_cons (pv 0) (pa_cons (pv 2) (pa_cons (pv 1) pa_nil)))) pe_non (nomark _)) (pv 2) pe_non)))))), ?_⟩
    refine ⟨_, rfl, am, ms, rfl, hM.m, hM.six, hM.few, fun H1 s1 => ?_⟩
    have hM1 := hM.same s1
    refine ⟨_, rfl, r, rfl, hr1, hr60, ?_⟩
    refine ⟨_, rfl, _, rfl, am, ms, r, rfl, hM1, (by omega), fun lb H2 hlb nlb s2 => ?_⟩
    refine ⟨lb, latB ms r, rfl, hlb, (by have := latB_len_le (r := r) hM.six hM.few; omega), latB_asc, latB_lim hM.six hM.few, fun w us H3 hw nw s3 => ?_⟩
    have s13 := s1.trans (s2.trans s3)
    have hM3 := hM.same s13
    refine ⟨_, rfl, _, rfl, _, rfl, am, w, us, ms, spansZ (latB ms r), r, rfl, hM3, hw, fun H4 s4 => ?_⟩
    rw [spans_inB latB_asc]
    have nw0 : H w = none := (s1.trans s2).free nw
    cases e : firstN (rowsB ms (iwB (latB ms r))) r with
    | none =>
      refine ⟨rfl, _, rfl, iteT ⟨_, rfl, yes (latB_iff.mp e) w us H4 (hw.same s4) nw0 (s13.trans s4)⟩⟩
    | some i =>
      refine ⟨rfl, _, rfl, iteF ?_⟩
      refine no (fun z => ?_) H4 (s13.trans s4)
      rw [latB_iff.mpr z] at e
      cases e
end
end K22

namespace K22
open PySem PySem.Spec PyProof.Rows L2 Sky
section
variable {P : Program} {w : World} {K : PySem.W.Frag} {mg : Str → Option Value} {base : Heap}
/-- the drawing list: [mixed, the script's rest, which is next] -/
def HAt (H : Hp) (p q : Addr) : Prop := ∃ (m k : Int) (ns : List Int), p ≠ q ∧ H p = some (.lst [.int m, .ref q, .int k]) ∧ H q = some (.lst (ns.map V.int)) ∧ 0 ≤ m ∧ m < 2147483647 ∧ 0 ≤ k ∧ ns.length ≤ 63
theorem fmod_nn {a b : Int} (hb : 0 < b) : 0 ≤ a.fmod b := Int.fmod_nonneg_of_pos a hb
theorem fmod_lt {a b : Int} (hb : 0 < b) : a.fmod b < b := Int.fmod_lt_of_pos a hb
def sp_mix (K : PySem.W.Frag) : Sp := fun vs H Q _ => ∃ (a : Addr) (ns : List Int) (seed : Int), vs = [.ref a, .int seed] ∧ SqL K H a (ns.map V.int) ∧ 0 ≤ seed ∧ seed < 2147483647 ∧ ns.length ≤ 63 ∧
  ∀ p q H', HAt H' p q → H p = none → H q = none → Same H H' → Q (.ref p) H'
theorem ok_law_mix (T : Tx K mg) : FnOk P w K mg base CX0 1 T.a_law_mix T.d_law_mix ["_law_script", "_law_seed"] (sp_mix K) := by
  have nd := sc_law_mix.nd
  refine T.F_law_mix.ok sc_law_mix (fun vs H Q E h => ?_) (fun cdv A outer s H vs Q E hr h => ?_)
  · obtain ⟨_, _, _, rfl, _⟩ := h
    rfl
  · obtain ⟨a, ns, seed, rfl, hS, s0, s1, hns, k⟩ := h
    refine ⟨_, (pss_cons (ps_set (i := 2) nd rfl (Or.inl rfl) (pv 1)) (pss_cons (ps_for PassesOwn.never rfl (pi_list (pv 0)) (pg_name (i := 3) nd rfl (Or.inl rfl)) (pss_one (ps_set (i := 2) nd rfl (Or.inl rfl) (pe_op op_modN (pe_callTy call_int1 (by rfl) T.z_int (by decide +kernel) (pa_cons (pe_op op_add (pe_op op_add (pe_op op_mul (pv 2) pe_int) (pe_op op_modN (pe_callTy call_int1 (by rfl) T.z_int (by decide +kernel) (pa_cons (pv 3) pa_nil)) pe_int)) pe_int) pa_nil)) pe_int)))) (pss_one (ps_ret (pe_lst (pa_cons (pv 2) (pa_cons (pe_callTy call_list_of (by rfl) T.z_list (by decide +kernel) (pa_cons (pv 0) pa_nil)) (pa_cons pe_int pa_nil)))))))), ?_⟩
    refine ⟨_, rfl, _, rfl, a, rfl, ⟨_, hS⟩, ?_⟩
    refine for_list (K := K) (a := a) (xs := ns.map V.int) (fun i σ H' => ∃ (m : Int) (v : Option V), σ = [some (.ref a), some (.int seed), some (.int m), v] ∧ 0 ≤ m ∧ m < 2147483647 ∧ H' = H) ⟨seed, none, rfl, s0, s1, rfl⟩ (fun i σ H' _ ⟨_, _, _, _, _, e⟩ => by rw [e]; exact hS) ?_ ?_
    · rintro i y σ H' hy ⟨m, v, rfl, m0, m1, rfl⟩
      obtain ⟨x, hx, rfl⟩ := map_get hy
      refine ⟨_, rfl, m, 48271, rfl, rfl, .inr (by decide), ?_⟩
      refine ⟨_, rfl, .inl ⟨x, rfl, x, 2147483629, rfl, rfl, (by decide : (2147483629 : Int) ≠ 0), _, _, rfl, rfl, _, 1, rfl, rfl, .inl ⟨_, rfl, _, 2147483647, rfl, rfl, (by decide : (2147483647 : Int) ≠ 0), ?_⟩⟩⟩
      exact ⟨_, _, rfl, fmod_nn (by decide), fmod_lt (by decide), rfl⟩
    · rintro σ H' ⟨m, v, rfl, m0, m1, rfl⟩
      refine ⟨_, rfl, _, rfl, a, _, rfl, .inl hS, fun q hq => ⟨(by decide : (3 : Nat) ≤ sizeLine), fun p hp => ?_⟩⟩
      have nqp : q ≠ p := ne_of_none upd_same hp
      have hp0 : H' p = none := by rw [upd_ne nqp.symm] at hp; exact hp
      exact k p q _ ⟨m, 0, ns, nqp.symm, upd_same, by rw [upd_ne nqp]; exact upd_same, m0, m1, Int.le_refl _, hns⟩ hp0 hq (same_mut (same_new (Same.refl _) hq) hp0)
def sp_next : Sp := fun vs H Q _ => ∃ (p q : Addr) (n : Int), vs = [.ref p, .int n] ∧ HAt H p q ∧ 0 < n ∧ n < 1000000 ∧ ∀ r H', 0 ≤ r → r < n → HAt H' p q → Keep [p, q] H H' → Dom H H' → Q (.int r) H'
theorem ok_law_next (T : Tx K mg) : FnOk P w K mg base CX0 1 T.a_law_next T.d_law_next ["_law_h", "_law_many"] sp_next := by
  have nd := sc_law_next.nd
  refine T.F_law_next.ok sc_law_next (fun vs H Q E h => ?_) (fun cdv A outer s H vs Q E hr h => ?_)
  · obtain ⟨_, _, _, rfl, _⟩ := h
    rfl
  · obtain ⟨p, q, n, rfl, ⟨m, k, ns, npq, hp, hq, m0, m1, k0, hns⟩, n0, n1, fin⟩ := h
    refine ⟨_, (pss_cons (ps_set (i := 2) nd rfl (Or.inl rfl) (pe_op op_modN (pe_ix ix_list (pv 0) pe_int (fun _ _ => rfl)) (pe_callB (call_max2 rfl) (by rfl) T.z_max (by decide +kernel) (pa_cons pe_int (pa_cons (pe_callB call_len_seq (by rfl) T.z_len PySem.boot_len (pa_cons (pe_ix ix_list (pv 0) pe_int (fun _ _ => rfl)) pa_nil)) pa_nil))))) (pss_cons (ps_set (i := 3) nd rfl (Or.inl rfl) (pe_ifExp (pt_cmpR (op_neD hr.units) (pe_ix ix_list (pv 0) pe_int (fun _ _ => rfl)) (pe_lst pa_nil) (nomark _)) (pe_ix ix_list (pe_ix ix_list (pv 0) pe_int (fun _ _ => rfl)) (pv 2) (fun _ _ => rfl)) pe_int)) (pss_cons (ps_if (pt_cmpR op_ge (pv 3) (pe_op op_pow pe_int pe_int) (nomark _)) (pss_cons (ps_asg (pe_op op_fdivN (pv 3) (pv 1)) (pg_sub (pe_ix ix_list (pv 0) pe_int (fun _ _ => rfl)) (pv 2) set_list)) (pss_one (ps_ret (pe_op op_modN (pe_callTy call_int1 (by rfl) T.z_int (by decide +kernel) (pa_cons (pv 3) pa_nil)) (pv 1))))) pss_nil) (pss_cons (ps_asg (pe_op op_modN (pe_callTy call_int1 (by rfl) T.z_int (by decide +kernel) (pa_cons (pe_op op_add (pe_op op_add (pe_op op_mul (pe_ix ix_list (pv 0) pe_int (fun _ _ => rfl)) pe_int) (pe_op op_mul (pv 3) pe_int)) pe_int) pa_nil)) pe_int) (pg_sub (pv 0) pe_int set_list)) (pss_cons (ps_asg (pe_op op_add (pe_ix ix_list (pv 0) pe_int (fun _ _ => rfl)) pe_int) (pg_sub (pv 0) pe_int set_list)) (pss_one (ps_ret (pe_op op_modN (pe_callTy call_int1 (by rfl) T.z_int (by decide +kernel) (pa_cons (pe_op op_fdivN (pe_ix ix_list (pv 0) pe_int (fun _ _ => rfl)) pe_int) pa_nil)) (pv 1))))))))), ?_⟩
    -- at
    refine ⟨_, rfl, p, _, 2, .int k, rfl, rfl, SqL.of hp, atI_nat (j := 2) rfl, ?_⟩
    refine ⟨_, rfl, p, _, 1, .ref q, rfl, rfl, SqL.of hp, atI_nat (j := 1) rfl, q, _, rfl, .inl (SqL.of hq), 1, _, rfl, ?_⟩
    have hlen : ((ns.map V.int).length : Int) = (ns.length : Int) := by rw [List.length_map]
    rw [hlen]
    have hx : (if ((ns.length : Nat) : Int) > 1 then ((ns.length : Nat) : Int) else 1) = ((max 1 ns.length : Nat) : Int) := by
      split <;> omega
    show ∃ i j, V.int k = .int i ∧ V.int (if ((ns.length : Nat) : Int) > 1 then ((ns.length : Nat) : Int) else 1) = .int j ∧ _
    rw [hx]
    refine ⟨_, _, rfl, rfl, (by show ((max 1 ns.length : Nat) : Int) ≠ 0; omega), ?_⟩
    have hat0 : 0 ≤ k.fmod ((max 1 ns.length : Nat) : Int) := fmod_nn (by omega)
    have hat1 : k.fmod ((max 1 ns.length : Nat) : Int) < ((max 1 ns.length : Nat) : Int) := fmod_lt (by omega)
    obtain ⟨at', eat⟩ : ∃ at' : Nat, k.fmod ((max 1 ns.length : Nat) : Int) = (at' : Int) := ⟨_, (Int.toNat_of_nonneg hat0).symm⟩
    show tSeq _ _ _ (L2.start N_law_next [V.ref p, V.int n] |>.set 2 (some (.int (k.fmod ((max 1 ns.length : Nat) : Int))))) H
    rw [eat] at hat1 ⊢
    have hat2 : at' < max 1 ns.length := Int.ofNat_lt.mp hat1
    -- cell
    refine ⟨_, rfl, p, _, 1, .ref q, rfl, rfl, SqL.of hp, atI_nat (j := 1) rfl, Nat.zero_le _, fun e he => ?_⟩
    have npe : p ≠ e := ne_of_none hp he
    have nqe : q ≠ e := ne_of_none hq he
    have hp1 : upd H e (.lst []) p = some (.lst [.int m, .ref q, .int k]) := by rw [upd_ne npe]; exact hp
    have hq1 : upd H e (.lst []) q = some (.lst (ns.map V.int)) := by rw [upd_ne nqe]; exact hq
    have k1 : Keep [p, q] H (upd H e (.lst [])) := keep_new (Keep.refl _ _) he
    have d1 : Dom H (upd H e (.lst [])) := dom_upd _ _ _
    have de : Dp K (upd H e (.lst [])) (.ref e) (.list []) := .lst (SqL.of upd_same) .nil
    generalize upd H e (.lst []) = H1 at *
    refine ⟨.list (ns.map PyData.int), .list [], .lst (SqL.of hq1) (dpAll_ints ns), de, (Lay.list (k := 0) fun x _ => Lay.int x).shaped (by decide), Lay.nil.shaped (by decide), _, rfl, ?_⟩
    rw [eqv_nil]
    refine ife_skip (fun v H2 => ∃ cell : Int, v = .int cell ∧ H2 = H1 ∧ ((1000000000000000000 : Int) ≤ cell → ns[at']? = some cell)) (fun v H2 ⟨cell, ev, eh, hcell⟩ => ?_) (fun e rest => ?_) (fun e rest => ?_)
    case refine_2 =>
      have hne : ns ≠ [] := fun z => by subst z; exact absurd e (by decide)
      have hl0 : 0 < ns.length := List.length_pos_iff.mpr hne
      have hlt : at' < ns.length := by omega
      refine ⟨_, rfl, p, _, 1, .ref q, rfl, rfl, SqL.of hp1, atI_nat (j := 1) rfl, _, rfl, q, _, at', .int ns[at'], rfl, rfl, SqL.of hq1, atI_nat (by rw [List.getElem?_map, List.getElem?_eq_getElem hlt]; rfl), ?_⟩
      exact rest _ _ ⟨_, rfl, rfl, fun _ => List.getElem?_eq_getElem hlt⟩
    case refine_3 => exact rest _ _ ⟨0, rfl, rfl, fun z => absurd z (by decide)⟩
    subst ev eh
    refine ⟨_, rfl, 10, 18, rfl, rfl, ⟨by decide, by decide, by decide⟩, _, _, rfl, rfl, _, rfl, ite2 (fun e => ?_) (fun e => ?_)⟩
    · have hc : (1000000000000000000 : Int) ≤ cell := of_decide_eq_true e
      have hg := hcell hc
      have hlt : at' < ns.length := (List.getElem?_eq_some_iff.mp hg).1
      have hcq : CDivN cell n := ⟨by omega, by omega⟩
      refine ⟨_, rfl, _, rfl, cell, n, rfl, rfl, hcq, _, rfl, p, _, 1, .ref q, rfl, rfl, SqL.of hp1, atI_nat (j := 1) rfl, _, rfl, q, _, _, at', rfl, rfl, hq1, ?_, ?_⟩
      · unfold ixN
        rw [List.length_map, if_pos (by omega), if_pos (by omega)]
        simp
      · refine ⟨_, rfl, .inl ⟨cell, rfl, _, rfl, cell, n, rfl, rfl, (by show n ≠ 0; omega), ?_⟩⟩
        rw [show (ns.map V.int).set at' (V.int (cell.fdiv n)) = (ns.set at' (cell.fdiv n)).map V.int by rw [List.map_set]]
        refine fin _ _ (fmod_nn n0) (fmod_lt n0) ⟨m, k, _, npq, by rw [upd_ne npq]; exact hp1, upd_same, m0, m1, k0, by rw [List.length_set]; exact hns⟩ (keep_upd k1 (by simp)) (d1.upd _ _)
    · -- h[0] = ..
      refine ⟨_, rfl, p, _, 0, .int m, rfl, rfl, SqL.of hp1, atI_nat (j := 0) rfl, m, 48271, rfl, rfl, .inr (by decide), ?_⟩
      refine ⟨_, rfl, cell, 69621, rfl, rfl, .inr (by decide), _, _, rfl, rfl, _, 11, rfl, rfl, .inl ⟨_, rfl, _, 2147483647, rfl, rfl, (by decide : (2147483647 : Int) ≠ 0), ?_⟩⟩
      refine ⟨_, rfl, p, _, 0, 0, rfl, rfl, hp1, rfl, ?_⟩
      have hm0 : 0 ≤ (m * 48271 + cell * 69621 + 11).fmod 2147483647 := fmod_nn (by decide)
      have hm1 : (m * 48271 + cell * 69621 + 11).fmod 2147483647 < 2147483647 := fmod_lt (by decide)
      show tSeq _ _ _ _ (upd H2 p (.lst [.int ((m * 48271 + cell * 69621 + 11).fmod 2147483647), .ref q, .int k]))
      generalize (m * 48271 + cell * 69621 + 11).fmod 2147483647 = m' at *
      -- h[2] = h[2] + 1
      refine ⟨_, rfl, p, _, 2, .int k, rfl, rfl, SqL.of upd_same, atI_nat (j := 2) rfl, k, 1, rfl, rfl, _, rfl, p, _, 2, 2, rfl, rfl, upd_same, rfl, ?_⟩
      rw [upd_upd]
      -- return h[0] // 7 % many
      refine ⟨_, rfl, p, _, 0, .int m', rfl, rfl, SqL.of upd_same, atI_nat (j := 0) rfl, m', 7, rfl, rfl, ⟨by decide, by decide⟩, .inl ⟨_, rfl, _, rfl, _, n, rfl, rfl, (by show n ≠ 0; omega), ?_⟩⟩
      exact fin _ _ (fmod_nn n0) (fmod_lt n0) ⟨m', k + 1, ns, npq, upd_same, by rw [upd_ne npq.symm]; exact hq1, hm0, hm1, by omega, hns⟩ (keep_upd k1 (by simp)) (d1.upd _ _)
end
end K22

namespace K22
open PySem PySem.Spec PyProof.Rows L2 Sky
section
variable {P : Program} {w : World} {K : PySem.W.Frag} {mg : Str → Option Value} {base : Heap}
theorem HAt.keepS {H H' : Hp} {p q : Addr} (h : HAt H p q) (k : Same H H') : HAt H' p q := by
  obtain ⟨m, k', ns, npq, hp, hq, r⟩ := h
  exact ⟨m, k', ns, npq, k _ _ hp, k _ _ hq, r⟩
theorem at_of {xs : List V} {r : Int} {R : V → Prop} (h0 : 0 ≤ r) (h1 : r < (xs.length : Int)) (h : ∀ v ∈ xs, R v) : ∃ v, atI xs r = some v ∧ R v := by
  obtain ⟨n, rfl⟩ : ∃ n : Nat, r = (n : Int) := ⟨r.toNat, (Int.toNat_of_nonneg h0).symm⟩
  have hl : n < xs.length := by omega
  exact ⟨xs[n], atI_nat (List.getElem?_eq_getElem hl), h _ (List.getElem_mem hl)⟩
theorem HAt.new {H : Hp} {p q a : Addr} {o : HO} (h : HAt H p q) (n : H a = none) : HAt (upd H a o) p q := h.keepS (same_new (Same.refl _) n)
theorem HAt.fresh {H : Hp} {p q a : Addr} (h : HAt H p q) (n : H a = none) : a ≠ p ∧ a ≠ q := by
  obtain ⟨m, k, ns, npq, hp, hq, r⟩ := h
  exact ⟨(ne_of_none hp n).symm, (ne_of_none hq n).symm⟩
theorem HAt.ne {H : Hp} {p q a : Addr} {o : HO} (h : HAt H p q) (n : a ≠ p) (n' : a ≠ q) : HAt (upd H a o) p q := by
  obtain ⟨m, k, ns, npq, hp, hq, r⟩ := h
  exact ⟨m, k, ns, npq, by rw [upd_ne n.symm]; exact hp, by rw [upd_ne n'.symm]; exact hq, r⟩
theorem HAt.noT {H : Hp} {p q : Addr} (h : HAt H p q) : ∀ m ∈ [p, q], NoT H m := by
  obtain ⟨m, k, ns, npq, hp, hq, r⟩ := h
  intro x hx
  rcases List.mem_cons.mp hx with e | e
  · rw [e]; exact NoT.lst hp
  · rw [List.mem_singleton.mp e]; exact NoT.lst hq
/-- one of a few written numbers, drawn -/
theorem pick {xs : List Int} {r : Int} (h0 : 0 ≤ r) (h1 : r < (xs.length : Int)) (b : Int) (hb : ∀ x ∈ xs, 0 < x ∧ x ≤ b) : ∃ n, atI (xs.map V.int) r = some (.int n) ∧ 0 < n ∧ n ≤ b := by
  obtain ⟨v, hv, n, rfl, h2⟩ := at_of (xs := xs.map V.int) (R := fun v => ∃ n : Int, v = .int n ∧ 0 < n ∧ n ≤ b) h0 (by rw [List.length_map]; exact h1) (fun v hv => by
    obtain ⟨x, hx, rfl⟩ := List.mem_map.mp hv
    exact ⟨x, rfl, hb x hx⟩)
  exact ⟨n, hv, h2⟩
end
end K22

namespace K22
open PySem PySem.Spec PyProof.Rows L2 Sky
theorem mostN_all {l : List Nat} {c : Nat} : mostN l ≤ c ↔ ∀ x ∈ l, x ≤ c := by
  constructor
  · intro h x hx
    exact Nat.le_trans (mostN_le hx) h
  · intro h
    by_cases e : l = []
    · subst e; exact Nat.zero_le _
    · exact h _ (mostN_mem e)
theorem rows_mem {ms : List Nat} {iw : Nat → Bool} {x : Nat} : x ∈ rowsB ms iw ↔ ∃ i, i < ms.length ∧ rowB ms iw i = x := by
  unfold rowsB
  rw [List.mem_map]
  constructor
  · rintro ⟨i, hi, e⟩; exact ⟨i, List.mem_range.mp hi, e⟩
  · rintro ⟨i, hi, e⟩; exact ⟨i, List.mem_range.mpr hi, e⟩
theorem most_rows {ms : List Nat} {iw : Nat → Bool} {c : Nat} : mostN (rowsB ms iw) ≤ c ↔ ∀ i, i < ms.length → rowB ms iw i ≤ c := by
  rw [mostN_all]
  constructor
  · intro h i hi; exact h _ (rows_mem.mpr ⟨i, hi, rfl⟩)
  · intro h x hx
    obtain ⟨i, hi, rfl⟩ := rows_mem.mp hx
    exact h i hi
theorem first_most {ms : List Nat} {iw : Nat → Bool} {r : Nat} : firstN (rowsB ms iw) r = none ↔ mostN (rowsB ms iw) ≤ r := by
  rw [firstB_none, most_rows]
theorem first_some {ms : List Nat} {iw : Nat → Bool} {r i : Nat} (h : firstN (rowsB ms iw) r = some i) : i < ms.length ∧ ∀ j, j < i → rowB ms iw j ≤ r := by
  have hl : (rowsB ms iw).length = ms.length := by unfold rowsB; rw [List.length_map, List.length_range]
  have hg : ∀ j, j < ms.length → (rowsB ms iw).getD j 0 = rowB ms iw j := fun j hj => by
    rw [List.getD_eq_getElem?_getD]
    unfold rowsB
    rw [List.getElem?_map, List.getElem?_range hj]
    rfl
  unfold firstN at h
  rw [hl] at h
  have hm := List.mem_filter.mp (List.mem_of_head? h)
  have hi := List.mem_range.mp hm.1
  refine ⟨hi, fun j hj => ?_⟩
  apply Classical.byContradiction
  intro z
  have hjm : j ∈ (List.range ms.length).filter fun i => decide (r < (rowsB ms iw).getD i 0) := List.mem_filter.mpr ⟨List.mem_range.mpr (by omega), decide_eq_true (by rw [hg j (by omega)]; omega)⟩
  have hp : ((List.range ms.length).filter fun i => decide (r < (rowsB ms iw).getD i 0)).Pairwise (· < ·) := List.Pairwise.filter _ List.pairwise_lt_range
  generalize (List.range ms.length).filter (fun i => decide (r < (rowsB ms iw).getD i 0)) = l at h hjm hp
  cases l with
  | nil => cases h
  | cons x l =>
    have e : x = i := Option.some.inj h
    subst e
    rcases List.mem_cons.mp hjm with e | e
    · omega
    · have := (List.pairwise_cons.mp hp).1 j e
      omega
theorem most_mono {ms : List Nat} {iw iw' : Nat → Bool} (h : ∀ t, iw t = true → iw' t = true) : mostN (rowsB ms iw') ≤ mostN (rowsB ms iw) := by
  rw [most_rows]
  intro i hi
  have h1 := kept_mono (ms := ms) h i
  have h2 := most_rows.mp (Nat.le_refl (mostN (rowsB ms iw))) i hi
  unfold rowB at *
  omega
theorem kept_none (ms : List Nat) : ∀ i, keptB ms (inB []) i = preN ms i
  | 0 => rfl
  | i + 1 => by
    show keptB ms (inB []) i + ms.getD i 0 - 0 = preN ms i + ms.getD i 0
    rw [kept_none ms i]
    omega
theorem most_none (ms : List Nat) : mostN (rowsB ms (inB [])) = preN ms ms.length := by
  refine Nat.le_antisymm (most_rows.mpr fun i hi => ?_) ?_
  · unfold rowB
    rw [kept_none]
    exact preN_mono ms (show i + 1 ≤ ms.length by omega)
  · cases e : ms.length with
    | zero => exact Nat.zero_le _
    | succ n =>
      have := most_rows.mp (Nat.le_refl (mostN (rowsB ms (inB [])))) n (by omega)
      unfold rowB at this
      rw [kept_none] at this
      exact this
theorem most_make {ms : List Nat} {iw : Nat → Bool} {m : Nat} (h : m ∈ ms) : m ≤ mostN (rowsB ms iw) := by
  obtain ⟨i, hi, rfl⟩ := List.mem_iff_getElem.mp h
  have := most_rows.mp (Nat.le_refl (mostN (rowsB ms iw))) i hi
  unfold rowB at this
  rw [List.getD_eq_getElem?_getD, List.getElem?_eq_getElem hi] at this
  have e : (some ms[i]).getD 0 = ms[i] := rfl
  omega
theorem kept_take {ms : List Nat} {iw iw' : Nat → Bool} {n : Nat} (h : ∀ t, t < n → iw t = iw' t) : ∀ i, i ≤ n → keptB (ms.take n) iw' i = keptB ms iw i
  | 0, _ => rfl
  | i + 1, hi => by
    show keptB (ms.take n) iw' i + (ms.take n).getD i 0 - (if iw' i = true then 1 else 0) = keptB ms iw i + ms.getD i 0 - (if iw i = true then 1 else 0)
    rw [kept_take h i (by omega), h i (by omega), List.getD_eq_getElem?_getD, List.getD_eq_getElem?_getD, List.getElem?_take_of_lt (by omega)]
theorem row_take {ms : List Nat} {iw iw' : Nat → Bool} {n i : Nat} (h : ∀ t, t < n → iw t = iw' t) (hi : i < n) : rowB (ms.take n) iw' i = rowB ms iw i := by
  unfold rowB
  rw [kept_take h i (by omega), List.getD_eq_getElem?_getD, List.getD_eq_getElem?_getD, List.getElem?_take_of_lt hi]
/-- the windows ahead of a beat -/
def cutZ (ws : List (Int × Int)) (b : Int) : List (Int × Int) := (ws.filter fun w => decide (w.1 < b)).map fun w => (w.1, if b < w.2 then b else w.2)
theorem cut_in {ws : List (Int × Int)} {i t : Nat} (h : t < i) : inB ws t = inB (cutZ ws ((i : Nat) : Int)) t := by
  unfold inB inZ cutZ
  rw [Bool.eq_iff_iff, List.any_eq_true, List.any_eq_true]
  constructor
  · rintro ⟨w, hw, e⟩
    rw [Bool.and_eq_true, decide_eq_true_iff, decide_eq_true_iff] at e
    refine ⟨_, List.mem_map.mpr ⟨w, List.mem_filter.mpr ⟨hw, decide_eq_true (by omega)⟩, rfl⟩, ?_⟩
    rw [Bool.and_eq_true, decide_eq_true_iff, decide_eq_true_iff]
    refine ⟨e.1, ?_⟩
    show _ < (if _ then _ else _)
    split <;> omega
  · rintro ⟨w, hw, e⟩
    obtain ⟨x, hx, rfl⟩ := List.mem_map.mp hw
    have hx2 := List.mem_filter.mp hx
    rw [Bool.and_eq_true, decide_eq_true_iff, decide_eq_true_iff] at e
    refine ⟨x, hx2.1, ?_⟩
    rw [Bool.and_eq_true, decide_eq_true_iff, decide_eq_true_iff]
    refine ⟨e.1, ?_⟩
    have e2 : ((t : Nat) : Int) < (if ((i : Nat) : Int) < x.2 then ((i : Nat) : Int) else x.2) := e.2
    split at e2 <;> omega
theorem cut_plan {ws : List (Int × Int)} {n i : Nat} (h : PlanZ n ws) : PlanZ i (cutZ ws ((i : Nat) : Int)) := by
  refine ⟨fun w hw => ?_, ?_⟩
  · unfold cutZ at hw
    obtain ⟨x, hx, rfl⟩ := List.mem_map.mp hw
    obtain ⟨hx1, hx2⟩ := List.mem_filter.mp hx
    have := h.ok x hx1
    have := of_decide_eq_true hx2
    show 0 ≤ x.1 ∧ x.1 < (if _ then _ else _) ∧ (if _ then _ else _) ≤ _
    split <;> omega
  · unfold cutZ
    refine List.pairwise_map.mpr (List.Pairwise.imp (R := fun a b => a.2 ≤ b.1) (fun {a b} hab => ?_) (List.Pairwise.filter _ h.asc))
    show (if _ then _ else _) ≤ _
    split <;> omega
theorem cut_most {ms : List Nat} {ws : List (Int × Int)} {r i : Nat} (h : firstN (rowsB ms (inB ws)) r = some i) : mostN (rowsB (ms.take i) (inB (cutZ ws ((i : Nat) : Int)))) ≤ r := by
  obtain ⟨hi, hj⟩ := first_some h
  refine most_rows.mpr fun j hj2 => ?_
  rw [List.length_take] at hj2
  rw [row_take (fun t ht => cut_in ht) (show j < i by omega)]
  exact hj j (by omega)
/-- wider by a beat -/
def wideZ (n : Nat) (ws : List (Int × Int)) : List (Int × Int) := ws.map fun w => (w.1, if w.2 + 1 < ((n : Nat) : Int) then w.2 + 1 else ((n : Nat) : Int))
theorem wide_in {n : Nat} {ws : List (Int × Int)} (h : PlanZ n ws) (t : Nat) (e : inB ws t = true) : inB (wideZ n ws) t = true := by
  unfold inB inZ wideZ at *
  rw [List.any_eq_true] at *
  obtain ⟨w, hw, e⟩ := e
  have := h.ok w hw
  rw [Bool.and_eq_true, decide_eq_true_iff, decide_eq_true_iff] at e
  refine ⟨_, List.mem_map.mpr ⟨w, hw, rfl⟩, ?_⟩
  rw [Bool.and_eq_true, decide_eq_true_iff, decide_eq_true_iff]
  refine ⟨e.1, ?_⟩
  show ((t : Nat) : Int) < (if w.2 + 1 < ((n : Nat) : Int) then w.2 + 1 else ((n : Nat) : Int))
  have e2 := e.2
  split <;> omega
theorem asc_of_next : ∀ {l : List (Int × Int)}, (∀ w ∈ l, w.1 < w.2) → (∀ (k : Nat) a b, l[k]? = some a → l[k + 1]? = some b → a.2 ≤ b.1) → l.Pairwise fun a b => a.2 ≤ b.1
  | [], _, _ => List.Pairwise.nil
  | x :: l, hp, h => by
    have ih := asc_of_next (l := l) (fun w hw => hp w (List.mem_cons_of_mem _ hw)) fun k a b h1 h2 => h (k + 1) a b (by simpa using h1) (by simpa using h2)
    refine List.pairwise_cons.mpr ⟨fun y hy => ?_, ih⟩
    cases l with
    | nil => cases hy
    | cons z l =>
      have h1 := h 0 x z rfl rfl
      rcases List.mem_cons.mp hy with e | e
      · rw [e]; exact h1
      · have h2 := (List.pairwise_cons.mp ih).1 y e
        have h3 := hp z (List.mem_cons_of_mem _ List.mem_cons_self)
        omega
theorem wide_plan {n : Nat} {ws : List (Int × Int)} (h : PlanZ n ws) (nx : ∀ (k : Nat) a b, (wideZ n ws)[k]? = some a → (wideZ n ws)[k + 1]? = some b → a.2 ≤ b.1) : PlanZ n (wideZ n ws) := by
  have hok : ∀ w ∈ wideZ n ws, 0 ≤ w.1 ∧ w.1 < w.2 ∧ w.2 ≤ (n : Nat) := fun w hw => by
    unfold wideZ at hw
    obtain ⟨x, hx, rfl⟩ := List.mem_map.mp hw
    have := h.ok x hx
    show 0 ≤ x.1 ∧ x.1 < (if x.2 + 1 < ((n : Nat) : Int) then x.2 + 1 else ((n : Nat) : Int)) ∧ (if x.2 + 1 < ((n : Nat) : Int) then x.2 + 1 else ((n : Nat) : Int)) ≤ ((n : Nat) : Int)
    split <;> omega
  exact ⟨hok, asc_of_next (fun w hw => (hok w hw).2.1) nx⟩
/-! ### the latest beats of more rooms -/
theorem lat_len {ms : List Nat} {r : Nat} : ∀ c, (latB ms r).length ≤ c ↔ ∀ i, i ≤ ms.length → preN ms i ≤ r + c := fun c => by
  have hL : (latB ms r).length = (dueR ms r ms.length).length := latF_len _ _
  rw [hL]
  obtain ⟨f1, f2⟩ := due_facts ms r ms.length
  constructor
  · intro h i hi
    have := f2 i hi
    omega
  · intro h
    by_cases z : (dueR ms r ms.length).length = 0
    · omega
    · have hl : (dueR ms r ms.length).length - 1 < (dueR ms r ms.length).length := by omega
      obtain ⟨g1, g2, _⟩ := f1 _ _ (List.getElem?_eq_getElem hl)
      have := h _ (show (dueR ms r ms.length)[(dueR ms r ms.length).length - 1] + 1 ≤ ms.length by omega)
      omega
theorem lat_less {ms : List Nat} {r r' : Nat} (h : r ≤ r') : (latB ms r').length ≤ (latB ms r).length := by
  rw [lat_len _]
  intro i hi
  have := (lat_len _).mp (Nat.le_refl (latB ms r).length) i hi
  omega
theorem every_more {ms : List Nat} {iw : Nat → Bool} {r r' : Nat} (h : r ≤ r') (e : firstN (rowsB ms iw) r = none) : firstN (rowsB ms iw) r' = none := by
  rw [first_most] at *
  omega
section
variable {P : Program} {w : World} {K : PySem.W.Frag} {mg : Str → Option Value} {base : Heap}
/-! ### windows, drawn -/
def sp_windows : Sp := fun vs H Q _ => ∃ (p q : Addr) (n : Nat), vs = [.ref p, .int (n : Nat)] ∧ n ≤ 200 ∧ HAt H p q ∧ ∀ aw us ws H', WsAt H' aw us ws → PlanZ n ws → ws.length ≤ 200 → HAt H' p q → TSm H H' → Q (.ref aw) H'
theorem ok_law_windows (T : Tx K mg) : FnOk P w K mg base CX0 2 T.a_law_windows T.d_law_windows ["_law_h", "_law_many"] sp_windows := by
  have nd := sc_law_windows.nd
  refine T.F_law_windows.ok sc_law_windows (fun vs H Q E h => ?_) (fun cdv A outer s H vs Q E hr h => ?_)
  · obtain ⟨_, _, _, rfl, _⟩ := h
    rfl
  · obtain ⟨p, q, n, rfl, hn, hA0, fin⟩ := h
    refine ⟨_, (pss_cons (ps_par (i := 2) (j := 3) rfl nd rfl rfl (by decide) rfl rfl (pa_cons (pe_lst pa_nil) (pa_cons pe_int pa_nil)) (by rfl)) (pss_cons (ps_while PassesOwn.never (pt_cmpR op_lt (pv 3) (pv 1) (nomark _)) (pss_cons (ps_set (i := 4) nd rfl (Or.inl rfl) (pe_op op_add (pv 3) (pe_call (ok_law_next T) (hr.mono (by decide)) (by rfl) T.m_law_next T.F_law_next.kp T.b_law_next .nil pass0 (pa_cons (pv 0) (pa_cons pe_int pa_nil))))) (pss_cons (ps_set (i := 5) nd rfl (Or.inl rfl) (pe_op op_add (pe_op op_add (pv 4) pe_int) (pe_call (ok_law_next T) (hr.mono (by decide)) (by rfl) T.m_law_next T.F_law_next.kp T.b_law_next .nil pass0 (pa_cons (pv 0) (pa_cons (pe_ix ix_list (pe_lst (pa_cons pe_int (pa_cons pe_int pa_nil))) (pe_call (ok_law_next T) (hr.mono (by decide)) (by rfl) T.m_law_next T.F_law_next.kp T.b_law_next .nil pass0 (pa_cons (pv 0) (pa_cons pe_int pa_nil))) (fun _ _ => rfl)) pa_nil))))) (pss_cons (ps_if (pt_cmpR op_le (pv 5) (pv 1) (nomark _)) (pss_one (ps_expr (pe_bm PySem.F.plainAttrs_list PySem.F.slot_list_append PySem.F.type_list_append mt_append (pv 2) (pa_cons (pe_tup (pa_cons (pv 4) (pa_cons (pv 5) pa_nil))) pa_nil)))) pss_nil) (pss_one (ps_set (i := 3) nd rfl (Or.inl rfl) (pv 5))))))) (pss_one (ps_ret (pe_tupleOf (by rfl) T.z_tuple (pv 2)))))), ?_⟩
    refine ⟨Nat.zero_le _, fun wl hwl => ⟨_, _, rfl, ?_⟩⟩
    have nwl := hA0.fresh hwl
    have hA6 := hA0.new (o := .lst []) hwl
    have t06 := TSm.of_same (same_new (Same.refl H) hwl (o := .lst []))
    have hwl6 : upd H wl (.lst []) wl = some (.lst []) := upd_same
    generalize upd H wl (.lst []) = H6 at *
    refine ⟨fun m σ H' => ∃ (v4 v5 : Option V) (last : Nat) (us : List V) (ws : List (Int × Int)), σ = [some (.ref p), some (.int ((n : Nat) : Int)), some (.ref wl), some (.int ((last : Nat) : Int)), v4, v5] ∧ m = n - last ∧
      H' wl = some (.lst us) ∧ TDs H' us (ws.map wZ) ∧ PlanZ n ws ∧ (∀ w ∈ ws, w.2 ≤ (last : Nat)) ∧ ws.length ≤ last ∧ ws.length ≤ n ∧ last ≤ 1000 ∧ HAt H' p q ∧ TSm H H',
      ⟨_, _, _, 0, [], [], rfl, rfl, hwl6, .nil, ⟨by simp, by simp⟩, by simp, Nat.le_refl _, Nat.zero_le _, by decide, hA6, t06⟩, ?_⟩
    clear hwl6 hA6 t06 hA0
    rintro m σ H8 ⟨v4, v5, last, us, ws, rfl, rfl, hwl, tw, hPW, hwl2, hwn, hwn2, hl1000, hA, t8⟩
    have hul : us.length = ws.length := by rw [tw.length, List.length_map]
    refine ⟨_, rfl, _, rfl, _, _, rfl, rfl, _, rfl, ?_⟩
    by_cases c : last < n
    · rw [decide_eq_true (show ((last : Nat) : Int) < ((n : Nat) : Int) by omega)]
      refine iteT ⟨fun σ' H' => ∃ m', m' < n - last ∧ ∃ (v4 v5 : Option V) (last : Nat) (us : List V) (ws : List (Int × Int)), σ' = [some (.ref p), some (.int ((n : Nat) : Int)), some (.ref wl), some (.int ((last : Nat) : Int)), v4, v5] ∧ m' = n - last ∧
        H' wl = some (.lst us) ∧ TDs H' us (ws.map wZ) ∧ PlanZ n ws ∧ (∀ w ∈ ws, w.2 ≤ (last : Nat)) ∧ ws.length ≤ last ∧ ws.length ≤ n ∧ last ≤ 1000 ∧ HAt H' p q ∧ TSm H H', fun σ' H' h => h, ?_⟩
      -- begin
      refine ⟨_, rfl, _, rfl, p, q, 6, rfl, hA, by decide, by decide, fun r3 H3 r30 r31 hA3 k3 _ => ⟨_, _, rfl, rfl, ?_⟩⟩
      obtain ⟨bg, ebg⟩ : ∃ x : Nat, ((last : Nat) : Int) + r3 = ((x : Nat) : Int) := ⟨(((last : Nat) : Int) + r3).toNat, (Int.toNat_of_nonneg (by omega)).symm⟩
      simp only [ebg]
      -- end
      refine ⟨_, rfl, _, 1, rfl, rfl, _, rfl, (by decide : (2 : Nat) ≤ sizeLine), fun b2 hb2 => ?_⟩
      have nb2 := hA3.fresh hb2
      have s4 := same_new (Same.refl H3) hb2 (o := .lst [.int 3, .int 30])
      refine ⟨_, rfl, p, q, 2, rfl, hA3.new hb2, by decide, by decide, fun r4 H4 r40 r41 hA4 k4 _ => ?_⟩
      obtain ⟨n4, hn4, n40, n41⟩ := pick (xs := [3, 30]) r40 r41 30 (by decide)
      refine ⟨b2, _, _, _, rfl, rfl, SqL.of (k4 _ _ (by simp [nb2.1, nb2.2]) upd_same), hn4, p, q, n4, rfl, hA4, n40, by omega, fun r5 H5 r50 r51 hA5 k5 _ => ⟨_, _, rfl, rfl, ?_⟩⟩
      have kk5 : Keep [p, q] H8 H5 := ((k3.trans (Keep.of_same s4)).trans k4).trans k5
      obtain ⟨en, een⟩ : ∃ x : Nat, ((bg : Nat) : Int) + 1 + r5 = ((x : Nat) : Int) := ⟨(((bg : Nat) : Int) + 1 + r5).toNat, (Int.toNat_of_nonneg (by omega)).symm⟩
      simp only [een]
      have t5 : TSm H8 H5 := kk5.ts hA.noT
      have hwl5 := kk5 _ _ (by simp [nwl.1, nwl.2]) hwl
      have tw5 := tw.mono t5
      have t05 := t8.trans t5
      clear kk5 k3 k4 k5 s4 hb2 hA3 hA4 hn4
      -- if end <= many
      refine ⟨_, rfl, _, rfl, _, _, rfl, rfl, _, rfl, ?_⟩
      refine if_skip (fun H' => ∃ (us : List V) (ws : List (Int × Int)), H' wl = some (.lst us) ∧ TDs H' us (ws.map wZ) ∧ PlanZ n ws ∧ (∀ w ∈ ws, w.2 ≤ (en : Nat)) ∧ ws.length ≤ en ∧ ws.length ≤ n ∧ HAt H' p q ∧ TSm H H') (fun H' ⟨us, ws, h1, h2, h3, h4, h5, h6', h7, h8⟩ => ?_) (fun ec rest => ?_) (fun _ => ⟨us, ws, hwl5, tw5, hPW, fun w hw => by have := hwl2 w hw; omega, by omega, hwn2, hA5, t05⟩)
      · exact ⟨_, rfl, n - en, by omega, _, _, en, us, ws, rfl, rfl, h1, h2, h3, h4, h5, h6', by omega, h7, h8⟩
      · have hen : en ≤ n := by have := of_decide_eq_true ec; omega
        refine ⟨_, rfl, .inl ⟨rfl, _, SqL.of hwl5⟩, _, rfl, _, rfl, (by decide : (2 : Nat) ≤ sizeLine), fun t ht => ?_⟩
        have nwt : wl ≠ t := ne_of_none hwl5 ht
        have nt := hA5.fresh ht
        have t6 := TSm.of_same (same_new (Same.refl H5) ht (o := .tup [.int ((bg : Nat) : Int), .int ((en : Nat) : Int)]))
        refine ⟨wl, us, _, rfl, rfl, by rw [upd_ne nwt]; exact hwl5, lt_line (by omega), ?_⟩
        have t7 : TSm (upd H5 t (.tup [.int ((bg : Nat) : Int), .int ((en : Nat) : Int)])) (upd (upd H5 t (.tup [.int ((bg : Nat) : Int), .int ((en : Nat) : Int)])) wl (.lst (us ++ [.ref t]))) := ts_upd (TSm.refl _) (NoT.lst (by rw [upd_ne nwt]; exact hwl5))
        refine rest _ ⟨us ++ [.ref t], ws ++ [(((bg : Nat) : Int), ((en : Nat) : Int))], upd_same, ?_, ⟨fun w hw => ?_, ?_⟩, fun w hw => ?_, ?_, ?_, (hA5.ne nt.1 nt.2).ne nwl.1 nwl.2, (t05.trans t6).trans t7⟩
        · rw [List.map_append]
          exact ((tw5.mono t6).mono t7).app (.one (TD.mono t7 (.tup upd_same (.cons (.int _) (.cons (.int _) .nil)))))
        · rcases List.mem_append.mp hw with e | e
          · exact hPW.ok w e
          · rw [List.mem_singleton.mp e]
            show (0 : Int) ≤ ((bg : Nat) : Int) ∧ ((bg : Nat) : Int) < ((en : Nat) : Int) ∧ ((en : Nat) : Int) ≤ ((n : Nat) : Int)
            omega
        · rw [List.pairwise_append]
          refine ⟨hPW.asc, List.pairwise_singleton _ _, fun x hx y hy => ?_⟩
          rw [List.mem_singleton.mp hy]
          have := hwl2 x hx
          show x.2 ≤ ((bg : Nat) : Int)
          omega
        · rcases List.mem_append.mp hw with e | e
          · have := hwl2 w e; omega
          · rw [List.mem_singleton.mp e]; exact Int.le_refl _
        · rw [List.length_append, List.length_singleton]; omega
        · rw [List.length_append, List.length_singleton]; omega
    · rw [decide_eq_false (show ¬ ((last : Nat) : Int) < ((n : Nat) : Int) by omega)]
      refine iteF ?_
      -- return
      refine ⟨_, rfl, .inl ⟨wl, _, rfl, SqL.of hwl, fun aw haw => ?_⟩⟩
      have s1 := same_new (Same.refl H8) haw (o := .tup us)
      refine fin aw us ws _ ⟨upd_same, tw.mono (TSm.of_same s1), fun x hx => ?_, by omega⟩ hPW (by omega) (hA.keepS s1) (t8.trans (TSm.of_same s1))
      have := hPW.ok x hx
      omega
/-! ### windows ahead -/
def sp_ahead : Sp := fun vs H Q _ => ∃ (aw : Addr) (us : List V) (ws : List (Int × Int)) (b : Int), vs = [.ref aw, .int b] ∧ WsAt H aw us ws ∧ -3000 ≤ b ∧ b ≤ 3000 ∧ (∀ w ∈ ws, w.1 ≤ w.2) ∧
  ∀ r vs' H', H' r = some (.lst vs') → TDs H' vs' ((cutZ ws b).map wZ) → H r = none → Same H H' → Q (.ref r) H'
theorem cut_take {ws : List (Int × Int)} {b : Int} {i : Nat} {x : Int × Int} (h : ws[i]? = some x) : cutZ (ws.take (i + 1)) b = cutZ (ws.take i) b ++ (if x.1 < b then [(x.1, if b < x.2 then b else x.2)] else []) := by
  unfold cutZ
  rw [List.take_add_one, h, Option.toList_some, List.filter_append, List.map_append]
  congr 1
  by_cases c : x.1 < b
  · rw [if_pos c, List.filter_cons_of_pos (by simpa using c)]; rfl
  · rw [if_neg c, List.filter_cons_of_neg (by simpa using c)]; rfl
theorem cut_len {ws : List (Int × Int)} {b : Int} : (cutZ ws b).length ≤ ws.length := by
  unfold cutZ
  rw [List.length_map]
  exact List.length_filter_le _ _
theorem ok_law_ahead (T : Tx K mg) : FnOk P w K mg base CX0 1 T.a_law_ahead T.d_law_ahead ["_law_windows_here", "_law_beat"] sp_ahead := by
  have nd := sc_law_ahead.nd
  refine T.F_law_ahead.ok sc_law_ahead (fun vs H Q E h => ?_) (fun cdv A outer s H vs Q E hr h => ?_)
  · obtain ⟨_, _, _, _, rfl, _⟩ := h
    rfl
  · obtain ⟨aw, us, ws, b, rfl, hW, hb1, hb2, hle, fin⟩ := h
    refine ⟨_, (pss_one (ps_ret (pe_lc (own := [("_law_begin", 2), ("_law_end", 3)]) rfl nd (pi_tup (pv 0)) (blkOk_by (own := [("_law_begin", 2), ("_law_end", 3)]) (N := N_law_ahead) (sc := defScope s_law_ahead) (by decide +kernel)) (fun _ _ _ _ _ => (pg_tupK (K := K) (n := 2) rfl rfl (pgs_cons (pg_name (i := 2) nd rfl (Or.inl rfl)) (pgs_cons (pg_name (i := 3) nd rfl (Or.inl rfl)) pgs_nil)))) (fun _ _ _ _ _ => (pts_one (pt_cmpR op_lt (pv 2) (pv 1) (nomark _)))) (fun _ _ _ _ _ => (pe_tup (pa_cons (pv 2) (pa_cons (pe_callB (call_min2 rfl) (by rfl) T.z_min (by decide +kernel) (pa_cons (pv 3) (pa_cons (pv 1) pa_nil))) pa_nil))))))), ?_⟩
    refine ⟨_, rfl, aw, rfl, ⟨_, SqT.of hW.w⟩, fun D hD => ?_⟩
    refine lc_tup (K := K) (a := aw) (xs := us) (fun i H' => ∃ vs', H' D = some (.lst vs') ∧ TDs H' vs' ((cutZ (ws.take i) b).map wZ) ∧ Same H H') ⟨[], upd_same, .nil, same_new (Same.refl H) hD⟩ (fun i H' _ ⟨_, _, _, s⟩ => SqT.of (s _ _ hW.w)) ?_ ?_
    · rintro i x H' hi ⟨vs', hL, tL, s1⟩
      have hl := tL.length
      obtain ⟨d, hd, td⟩ := hW.t.get hi
      obtain ⟨x, hx, rfl⟩ := map_get hd
      obtain ⟨pw, rfl, hp⟩ := td_w (td.mono (TSm.of_same s1))
      refine ⟨pw, _, rfl, SqT.of hp, rfl, _, _, rfl, _, _, rfl, rfl, rfl, ?_⟩
      refine ⟨_, rfl, _, rfl, _, _, rfl, rfl, _, rfl, ?_⟩
      rw [cut_take hx]
      by_cases c : x.1 < b
      · rw [decide_eq_true c, if_pos c]
        refine iteT ?_
        refine ⟨_, rfl, _, rfl, _, rfl, _, _, rfl, (by decide : (2 : Nat) ≤ sizeLine), fun t ht => ?_⟩
        have nDt : D ≠ t := ne_of_none hL ht
        have t6 := TSm.of_same (same_new (Same.refl H') ht (o := .tup [.int x.1, .int (if b < x.2 then b else x.2)]))
        refine ⟨vs', by rw [upd_ne nDt]; exact hL, lt_line ?_, _, upd_same, ?_, same_mut (same_new s1 ht) hD⟩
        · rw [hl, List.length_map]
          have := cut_len (ws := ws.take i) (b := b)
          have := hW.wl
          rw [List.length_take] at *
          omega
        · rw [List.map_append]
          have t7 : TSm (upd H' t (.tup [.int x.1, .int (if b < x.2 then b else x.2)])) (upd (upd H' t (.tup [.int x.1, .int (if b < x.2 then b else x.2)])) D (.lst (vs' ++ [.ref t]))) := ts_upd (TSm.refl _) (NoT.lst (by rw [upd_ne nDt]; exact hL))
          exact ((tL.mono t6).mono t7).app (.one (TD.mono t7 (.tup upd_same (.cons (.int _) (.cons (.int _) .nil)))))
      · rw [decide_eq_false c, if_neg c, List.append_nil]
        exact iteF ⟨vs', hL, tL, s1⟩
    · rintro H' ⟨vs', hL, tL, s1⟩
      rw [hW.len, List.take_length] at tL
      exact fin D vs' H' hL tL hD s1
end
end K22

namespace K22
open PySem PySem.Spec PyProof.Rows L2 Sky
section
variable {P : Program} {w : World} {K : PySem.W.Frag} {mg : Str → Option Value} {base : Heap}
theorem cut_lo {xs : List V} {n : Nat} (h : n ≤ xs.length) : cutV xs none (some ((n : Nat) : Int)) = xs.take n := by
  unfold cutV
  rw [HT.sIx_none, HT.sIx_nat, Nat.min_eq_left h, List.drop_zero, Nat.sub_zero]
theorem cut_hi {xs : List V} {n : Nat} (h : n ≤ xs.length) : cutV xs (some ((n : Nat) : Int)) none = xs.drop n := by
  unfold cutV
  rw [HT.sIx_none, HT.sIx_nat, Nat.min_eq_left h]
  exact List.take_of_length_le (by rw [List.length_drop]; exact Nat.le_refl _)
theorem keptB_congr {ms : List Nat} {iw iw' : Nat → Bool} : ∀ i, (∀ t, t < i → iw t = iw' t) → keptB ms iw i = keptB ms iw' i
  | 0, _ => rfl
  | i + 1, h => by
    show keptB ms iw i + _ - (if iw i = true then 1 else 0) = keptB ms iw' i + _ - (if iw' i = true then 1 else 0)
    rw [keptB_congr i fun t ht => h t (by omega), h i (by omega)]
theorem rowsB_congr {ms : List Nat} {iw iw' : Nat → Bool} (h : ∀ t, t < ms.length → iw t = iw' t) : rowsB ms iw = rowsB ms iw' := by
  unfold rowsB
  refine List.map_congr_left fun i hi => ?_
  have := List.mem_range.mp hi
  unfold rowB
  rw [keptB_congr i fun t ht => h t (by omega)]
theorem every_of {ms : List Nat} {t : Nat} : inB [(0, ((ms.length : Nat) : Int))] t = decide (t < ms.length) := by
  unfold inB inZ
  rw [List.any_cons, List.any_nil, Bool.or_false]
  show (decide ((0 : Int) ≤ ((t : Nat) : Int)) && decide (((t : Nat) : Int) < ((ms.length : Nat) : Int))) = _
  rw [decide_eq_true (show (0 : Int) ≤ ((t : Nat) : Int) by omega), Bool.true_and]
  exact decide_eq_decide.mpr (by omega)
theorem preN_sum (ms : List Nat) : ∀ i, i ≤ ms.length → ((ms.take i).map fun x : Nat => (x : Int)).sum = ((preN ms i : Nat) : Int)
  | 0, _ => rfl
  | i + 1, h => by
    have hl : i < ms.length := h
    rw [List.take_add_one, List.getElem?_eq_getElem hl, Option.toList_some, List.map_append, List.sum_append, preN_sum ms i (by omega)]
    have e : preN ms (i + 1) = preN ms i + ms.getD i 0 := rfl
    rw [e, List.getD_eq_getElem?_getD, List.getElem?_eq_getElem hl]
    show ((preN ms i : Nat) : Int) + ([ms[i]].map fun x : Nat => (x : Int)).sum = ((preN ms i + ms[i] : Nat) : Int)
    rw [List.map_singleton, List.sum_cons, List.sum_nil]
    omega
theorem seq_ifs {t : TT} {tb b : L2.TS} {D : Ends} {σ : L2.St} {H : Hp} (Cd : Hp → Prop) (rest : ∀ H1, Cd H1 → b D σ H1) (h : ∀ Q : Bool → Hp → Prop, (∀ H1, Cd H1 → Q false H1) → t σ H Q) : tSeq (tIfS t tb tNext) b D σ H := h _ fun H1 c => iteF (rest H1 c)
theorem gn_ifs {t : TT} {tb b : L2.TS} {D : Ends} {σ : L2.St} {H : Hp} {i : Nat} {x : V} {r : VK} {k c : L2.St → Hp → Prop} (Cd : Hp → Prop) (rest : ∀ H1, Cd H1 → b D (σ.set i (some x)) H1) (h : ∀ Q : Bool → Hp → Prop, (∀ H1, Cd H1 → Q false H1) → t (σ.set i (some x)) H Q) : gName i x σ H (Ends.nx ⟨tSeq (tIfS t tb tNext) b D, r, k, c⟩) := h _ fun H1 c => iteF (rest H1 c)
theorem eqv_nilT (ds : List PyData) : PyData.eqv (.tuple ds) (.tuple []) = ds.isEmpty := by
  cases ds with
  | nil => simp [PyData.eqv, PyData.eqvAll]
  | cons x r => simp [PyData.eqv, PyData.eqvAll]
/-- enough with this room -/
def enough (ms : List Nat) (r : Nat) : Bool := (firstN (rowsB ms (fun _ => true)) r).isNone
theorem enough_iff {ms : List Nat} {r : Nat} : enough ms r = true ↔ firstN (rowsB ms (fun _ => true)) r = none := by
  unfold enough
  rw [Option.isNone_iff_eq_none]
theorem enough_more {ms : List Nat} {r r' : Nat} (h : r ≤ r') (e : enough ms r = true) : enough ms r' = true := enough_iff.mpr (every_more h (enough_iff.mp e))
/-- what least_windows told -/
def FoundV (H : Hp) (ms : List Nat) (r : Nat) (v : V) : Prop := (v = .non ∧ enough ms r = false) ∨ ∃ w us, v = .ref w ∧ WsAt H w us (spansZ (latB ms r)) ∧ enough ms r = true
theorem FoundV.same {H H' : Hp} {ms : List Nat} {r : Nat} {v : V} (h : FoundV H ms r v) (s : Same H H') : FoundV H' ms r v := by
  rcases h with h | ⟨w, us, e, hw, he⟩
  · exact .inl h
  · exact .inr ⟨w, us, e, hw.same s, he⟩
theorem FoundV.ts {H H' : Hp} {ms : List Nat} {r : Nat} {v : V} (h : FoundV H ms r v) (s : TSm H H') : FoundV H' ms r v := by
  rcases h with h | ⟨w, us, e, hw, he⟩
  · exact .inl h
  · exact .inr ⟨w, us, e, hw.ts s, he⟩
def Founds (H : Hp) (ms : List Nat) (rs : List Nat) (vs : List V) : Prop := vs.length = rs.length ∧ ∀ (j r : Nat) (v : V), rs[j]? = some r → vs[j]? = some v → FoundV H ms r v
theorem Founds.ts {H H' : Hp} {ms rs : List Nat} {vs : List V} (h : Founds H ms rs vs) (s : TSm H H') : Founds H' ms rs vs := ⟨h.1, fun j r v h1 h2 => (h.2 j r v h1 h2).ts s⟩
def foundD (ms : List Nat) (r : Nat) : PyData := if enough ms r = true then .tuple ((spansZ (latB ms r)).map wZ) else .none
theorem founds_td {H : Hp} {ms : List Nat} : ∀ {rs : List Nat} {vs : List V}, Founds H ms rs vs → TDs H vs (rs.map (foundD ms))
  | [], [], _ => .nil
  | [], v :: vs, h => absurd h.1 (by simp)
  | r :: rs, [], h => absurd h.1 (by simp)
  | r :: rs, v :: vs, h => by
    have hv := h.2 0 r v rfl rfl
    have ht := founds_td (rs := rs) (vs := vs) ⟨by have := h.1; simpa using this, fun j r' v' h1 h2 => h.2 (j + 1) r' v' (by simpa using h1) (by simpa using h2)⟩
    refine .cons ?_ ht
    unfold foundD
    rcases hv with ⟨rfl, e⟩ | ⟨w, us, rfl, hw, e⟩
    · rw [e, if_neg (by decide)]; exact .non
    · rw [if_pos e]; exact .tup hw.w hw.t
theorem lay_wZ (w : Int × Int) : Lay 1 (wZ w) := by
  have := Lay.tuple (f := PyData.int) (k := 0) (xs := [w.1, w.2]) fun x _ => Lay.int x
  exact this
theorem lay_found (ms : List Nat) (r : Nat) : Lay 2 (foundD ms r) := by
  unfold foundD
  split
  · exact Lay.tuple fun x _ => lay_wZ x
  · exact Lay.none.mono (by decide)
/-- of those that are enough, how many beats -/
def beatsL (ms : List Nat) (rs : List Nat) : List Int := (rs.filter (enough ms)).map fun r => (((latB ms r).length : Nat) : Int)
theorem beats_take {ms rs : List Nat} {i r : Nat} (h : rs[i]? = some r) : beatsL ms (rs.take (i + 1)) = beatsL ms (rs.take i) ++ (if enough ms r = true then [(((latB ms r).length : Nat) : Int)] else []) := by
  unfold beatsL
  rw [List.take_add_one, h, Option.toList_some, List.filter_append, List.map_append]
  congr 1
  by_cases c : enough ms r = true
  · rw [if_pos c, List.filter_cons_of_pos c]; rfl
  · rw [if_neg c, List.filter_cons_of_neg c]; rfl
theorem beats_desc {ms rs : List Nat} (h : rs.Pairwise (· ≤ ·)) : (beatsL ms rs).Pairwise fun a b => b ≤ a := by
  unfold beatsL
  refine List.pairwise_map.mpr (List.Pairwise.imp (R := (· ≤ ·)) (fun {a b} hab => ?_) (List.Pairwise.filter _ h))
  have := lat_less (ms := ms) hab
  omega
theorem desc_sorted {l ys : List Int} (d : l.Pairwise fun a b => b ≤ a) (p : ys.Perm l) (s : ys.Pairwise (· ≤ ·)) : ys.reverse = l := by
  refine List.Perm.eq_of_pairwise (le := fun a b : Int => b ≤ a) (fun a b _ _ h1 h2 => by omega) ?_ d ((List.reverse_perm ys).trans p)
  rw [List.pairwise_reverse]
  exact s
theorem late_some {ms : List Nat} : ∀ {rs : List Nat}, rs.Pairwise (· ≤ ·) → ∀ (j r : Nat), rs.length - (rs.filter (enough ms)).length ≤ j → rs[j]? = some r → enough ms r = true
  | [], _, j, r, _, h => by simp at h
  | a :: rs, hp, j, r, hj, h => by
    have hp2 := List.pairwise_cons.mp hp
    by_cases c : enough ms a = true
    · have hm : r ∈ a :: rs := List.mem_of_getElem? h
      rcases List.mem_cons.mp hm with e | e
      · rw [e]; exact c
      · exact enough_more (hp2.1 r e) c
    · rw [List.filter_cons_of_neg c, List.length_cons] at hj
      have hl := List.length_filter_le (enough ms) rs
      obtain ⟨j', rfl⟩ : ∃ j', j = j' + 1 := ⟨j - 1, by omega⟩
      exact late_some hp2.2 j' r (by omega) (by simpa using h)
theorem no_none {ms : List Nat} {rs : List Nat} (h : ∀ r ∈ rs, enough ms r = true) : ((rs.map (foundD ms)).any fun z => PyData.eqv z .none) = false := by
  rw [List.any_eq_false]
  intro z hz
  obtain ⟨r, hr, rfl⟩ := List.mem_map.mp hz
  unfold foundD
  rw [if_pos (h r hr)]
  simp [PyData.eqv]
theorem spans_sum : ∀ (ws : List (Int × Int)), (∀ x ∈ ws, x.1 < x.2) → (ws.map fun x => x.2 - x.1).sum = (((flatZ ws).length : Nat) : Int)
  | [], _ => rfl
  | x :: ws, h => by
    have ih := spans_sum ws fun y hy => h y (List.mem_cons_of_mem _ hy)
    have hx := h x List.mem_cons_self
    rw [List.map_cons, List.sum_cons, ih]
    unfold flatZ
    rw [List.flatMap_cons, List.length_append]
    have e : (beatsOf x).length = (x.2 - x.1).toNat := by unfold beatsOf; rw [List.length_map, List.length_range]
    rw [e]
    omega
def sp_law (K : PySem.W.Frag) : Sp := fun vs H Q _ => ∃ (a : Addr) (ns : List Int), vs = [.ref a] ∧ SqL K H a (ns.map V.int) ∧ ns.length ≤ 63 ∧ ∀ H', Q (.bl true) H'
theorem ok_law (T : Tx K mg) : FnOk P w K mg base CX0 5 T.a_law T.d_law ["_law_script"] (sp_law K) := by
  have nd := sc_law.nd
  refine T.F_law.ok sc_law (fun vs H Q E h => ?_) (fun cdv A outer s H vs Q E hr h => ?_)
  · obtain ⟨_, _, rfl, _⟩ := h
    rfl
  · obtain ⟨a, ns, rfl, hS, hlen, fin⟩ := h
    refine ⟨_, (pss_cons (ps_set (i := 1) nd rfl (Or.inr rfl) (pe_call (ok_law_mix T) (hr.mono (by decide)) (by rfl) T.m_law_mix T.F_law_mix.kp T.b_law_mix .nil pass0 (pa_cons (pv 0) (pa_cons pe_int pa_nil)))) (pss_cons (ps_for PassesOwn.never rfl (pi_range1 rfl T.z_range (pa_cons pe_int pa_nil)) (pg_name (i := 2) nd rfl (Or.inl rfl)) (pss_cons (ps_set (i := 3) nd rfl (Or.inr rfl) (pe_op op_add pe_int (pe_call (ok_law_next T) (hr.mono (by decide)) (by rfl) T.m_law_next T.F_law_next.kp T.b_law_next .nil pass0 (pa_cons (pv 1) (pa_cons pe_int pa_nil))))) (pss_cons (ps_set (i := 4) nd rfl (Or.inr rfl) (pe_tupleOf (by rfl) T.z_tuple (pe_lc (own := [("_law_k", 13)]) rfl nd (pi_range1 rfl T.z_range (pa_cons (pe_call (ok_law_next T) (hr.mono (by decide)) (by rfl) T.m_law_next T.F_law_next.kp T.b_law_next .nil pass0 (pa_cons (pv 1) (pa_cons pe_int pa_nil))) pa_nil)) (blkOk_by (own := [("_law_k", 13)]) (N := N_law) (sc := defScope s_law) (by decide +kernel)) (fun _ _ _ _ _ => (pg_name (i := 13) nd rfl (Or.inl rfl))) (fun _ _ _ _ _ => pts_nil) (fun _ _ _ _ _ => (pe_op op_mul (pe_call (ok_law_next T) (hr.mono (by decide)) (by rfl) T.m_law_next T.F_law_next.kp T.b_law_next .nil pass0 (pa_cons (pv 1) (pa_cons pe_int pa_nil))) (pe_callTy call_int1 (by rfl) T.z_int (by decide +kernel) (pa_cons (pe_cmpR op_eq (pe_call (ok_law_next T) (hr.mono (by decide)) (by rfl) T.m_law_next T.F_law_next.kp T.b_law_next .nil pass0 (pa_cons (pv 1) (pa_cons (pv 3) pa_nil))) pe_int (nomark _)) pa_nil))))))) (pss_cons (ps_set (i := 5) nd rfl (Or.inl rfl) (pe_call (ok_law_windows T) (hr.mono (by decide)) (by rfl) T.m_law_windows T.F_law_windows.kp T.b_law_windows .nil pass0 (pa_cons (pv 1) (pa_cons (pe_callB call_len_seq (by rfl) T.z_len PySem.boot_len (pa_cons (pv 4) pa_nil)) pa_nil)))) (pss_cons (ps_set (i := 6) nd rfl (Or.inl rfl) (pe_call (ok_most_kept T) (hr.mono (by decide)) (by rfl) T.m_most_kept T.F_most_kept.kp T.b_most_kept .nil pass0 (pa_cons (pv 4) (pa_cons (pv 5) pa_nil)))) (pss_cons (ps_for PassesOwn.never rfl (pi_range2 rfl T.z_range (pa_cons pe_int (pa_cons (pe_op op_add (pe_callB (call_min2 rfl) (by rfl) T.z_min (by decide +kernel) (pa_cons pe_int (pa_cons (pe_op op_add (pv 6) pe_int) pa_nil))) pe_int) pa_nil))) (pg_name (i := 7) nd rfl (Or.inl rfl)) (pss_cons (ps_set (i := 8) nd rfl (Or.inl rfl) (pe_call (ok_short_at T) (hr.mono (by decide)) (by rfl) T.m_short_at T.F_short_at.kp T.b_short_at .nil pass0 (pa_cons (pv 4) (pa_cons (pv 5) (pa_cons (pv 7) pa_nil))))) (pss_cons (ps_if (pt_cmpR op_ne (pe_cmpR op_isN (pv 8) pe_non (nomark _)) (pe_cmpR op_ge (pv 7) (pv 6) (nomark _)) (nomark _)) (pss_one (ps_ret pe_bl)) pss_nil) (pss_cons (ps_set (i := 9) nd rfl (Or.inl rfl) (pe_tupleOf (by rfl) T.z_tuple (pe_call (ok_law_ahead T) (hr.mono (by decide)) (by rfl) T.m_law_ahead T.F_law_ahead.kp T.b_law_ahead .nil pass0 (pa_cons (pv 5) (pa_cons (pe_ifExp (pt_cmpR op_notN (pv 8) pe_non (nomark _)) (pv 8) pe_int) pa_nil))))) (pss_one (ps_if (PW.pt (pw_and (pt_cmpR op_notN (pv 8) pe_non (nomark _)) (pw_and1 (pt_cmpR op_gt (pe_call (ok_most_kept T) (hr.mono (by decide)) (by rfl) T.m_most_kept T.F_most_kept.kp T.b_most_kept .nil pass0 (pa_cons (pe_slice sl_tup (pv 4) po_none (po_some (pv 8))) (pa_cons (pv 9) pa_nil))) (pv 7) (nomark _))))) (pss_one (ps_ret pe_bl)) pss_nil)))))) (pss_cons (ps_set (i := 10) nd rfl (Or.inr rfl) (pe_tupleOf (by rfl) T.z_tuple (pe_lc (own := [("_law_begin", 14), ("_law_end", 15)]) rfl nd (pi_tup (pv 5)) (blkOk_by (own := [("_law_begin", 14), ("_law_end", 15)]) (N := N_law) (sc := defScope s_law) (by decide +kernel)) (fun _ _ _ _ _ => (pg_tupK (K := K) (n := 2) rfl rfl (pgs_cons (pg_name (i := 14) nd rfl (Or.inl rfl)) (pgs_cons (pg_name (i := 15) nd rfl (Or.inl rfl)) pgs_nil)))) (fun _ _ _ _ _ => pts_nil) (fun _ _ _ _ _ => (pe_tup (pa_cons (pv 14) (pa_cons (pe_callB (call_min2 rfl) (by rfl) T.z_min (by decide +kernel) (pa_cons (pe_callB (call_lenK (K := K) rfl) (by rfl) T.z_len PySem.boot_len (pa_cons (pv 4) pa_nil)) (pa_cons (pe_op op_add (pv 15) pe_int) pa_nil))) pa_nil))))))) (pss_cons (ps_set (i := 10) nd rfl (Or.inr rfl) (pe_tupleOf (by rfl) T.z_tuple (pe_lc (own := [("_law_k", 13)]) rfl nd (pi_range1 rfl T.z_range (pa_cons (pe_callB call_len_seq (by rfl) T.z_len PySem.boot_len (pa_cons (pv 10) pa_nil)) pa_nil)) (blkOk_by (own := [("_law_k", 13)]) (N := N_law) (sc := defScope s_law) (by decide +kernel)) (fun _ _ _ _ _ => (pg_name (i := 13) nd rfl (Or.inl rfl))) (fun _ _ _ _ _ => (pts_one (PW.pt (pw_or (pt_cmpR op_eq (pv 13) (pe_op op_sub (pe_callB (call_lenK (K := K) rfl) (by rfl) T.z_len PySem.boot_len (pa_cons (pv 10) pa_nil)) pe_int) (nomark _)) (pw_or1 (pt_cmpR op_le (pe_ix (ix_tupK (K := K) rfl) (pe_ix (ix_tupK (K := K) rfl) (pv 10) (pv 13) (fun _ _ => rfl)) pe_int (fun _ _ => rfl)) (pe_ix (ix_tupK (K := K) rfl) (pe_ix (ix_tupK (K := K) rfl) (pv 10) (pe_op op_add (pv 13) pe_int) (fun _ _ => rfl)) pe_int (fun _ _ => rfl)) (nomark _))))))) (fun _ _ _ _ _ => (pe_ix (ix_tupK (K := K) rfl) (pv 10) (pv 13) (fun _ _ => rfl)))))) (pss_cons (ps_if (PW.pt (pw_and (pt_cmpR op_eq (pe_callB call_len_seq (by rfl) T.z_len PySem.boot_len (pa_cons (pv 10) pa_nil)) (pe_callB call_len_seq (by rfl) T.z_len PySem.boot_len (pa_cons (pv 5) pa_nil)) (nomark _)) (pw_and1 (pt_cmpR op_gt (pe_call (ok_most_kept T) (hr.mono (by decide)) (by rfl) T.m_most_kept T.F_most_kept.kp T.b_most_kept .nil pass0 (pa_cons (pv 4) (pa_cons (pv 10) pa_nil))) (pv 6) (nomark _))))) (pss_one (ps_ret pe_bl)) pss_nil) (pss_cons (ps_if (PW.pt (pw_or (pt_cmpR op_ne (pe_call (ok_most_kept T) (hr.mono (by decide)) (by rfl) T.m_most_kept T.F_most_kept.kp T.b_most_kept .nil pass0 (pa_cons (pv 4) (pa_cons (pe_tup pa_nil) pa_nil))) (pe_callB (cr_sumT rfl) (by rfl) T.z_sum (by decide +kernel) (pa_cons (pv 4) pa_nil)) (nomark _)) (pw_or1 (PW.pt (pw_and (pt_cmpR (op_neD hr.units) (pv 4) (pe_tup pa_nil) (nomark _)) (pw_and1 (pt_cmpR op_gt (pe_call (ok_most_kept T) (hr.mono (by decide)) (by rfl) T.m_most_kept T.F_most_kept.kp T.b_most_kept .nil pass0 (pa_cons (pv 4) (pa_cons (pe_tup (pa_cons (pe_tup (pa_cons pe_int (pa_cons (pe_callB call_len_seq (by rfl) T.z_len PySem.boot_len (pa_cons (pv 4) pa_nil)) pa_nil))) pa_nil)) pa_nil))) (pv 6) (nomark _)))))))) (pss_one (ps_ret pe_bl)) pss_nil) (pss_cons (ps_if (PW.pt (pw_and (pt_cmpR (op_neD hr.units) (pv 4) (pe_tup pa_nil) (nomark _)) (pw_and1 (pt_cmpR op_lt (pv 6) (pe_callB (cr_maxT rfl (u65 hr)) (by rfl) T.z_max (by decide +kernel) (pa_cons (pv 4) pa_nil)) (nomark _))))) (pss_one (ps_ret pe_bl)) pss_nil) (pss_cons (ps_setLc (i := 11) (own := [("_law_room", 7)]) rfl nd rfl rfl (sw_true rfl rfl rfl (by decide +kernel)) (pi_tup (pe_tup (pa_cons pe_int (pa_cons pe_int (pa_cons pe_int (pa_cons pe_int (pa_cons pe_int pa_nil))))))) (blkOk_by (own := [("_law_room", 7)]) (N := N_law) (sc := defScope s_law) (by decide +kernel)) (fun _ _ _ _ _ => (pg_name (i := 7) nd rfl (Or.inl rfl))) (fun _ _ _ _ _ => pts_nil) (fun _ _ _ _ _ => (pe_call (ok_least_windows T) (hr.mono (by decide)) (by rfl) T.m_least_windows T.F_least_windows.kp T.b_least_windows .nil pass0 (pa_cons (pv 4) (pa_cons (pv 7) pa_nil))))) (pss_cons (ps_setLc (i := 12) (own := [("_law_some", 9)]) rfl nd rfl rfl (sw_true rfl rfl rfl (by decide +kernel)) (pi_list (pv 11)) (blkOk_by (own := [("_law_some", 9)]) (N := N_law) (sc := defScope s_law) (by decide +kernel)) (fun _ _ _ _ _ => (pg_name (i := 9) nd rfl (Or.inl rfl))) (fun _ _ _ _ _ => (pts_one (pt_cmpR op_notN (pv 9) pe_non (nomark _)))) (fun _ _ _ _ _ => (pe_callB (cr_sumK (K := K) rfl rfl) (by rfl) T.z_sum (by decide +kernel) (pa_cons (pe_lc (own := [("_law_begin", 14), ("_law_end", 15)]) rfl nd (pi_tupK (K := K) rfl (pv 9)) (blkOk_by (own := [("_law_begin", 14), ("_law_end", 15)]) (N := N_law) (sc := relS _ (defScope s_law)) (by decide +kernel)) (fun _ _ _ _ _ => (pg_tupK (K := K) (n := 2) rfl rfl (pgs_cons (pg_name (i := 14) nd rfl (Or.inl rfl)) (pgs_cons (pg_name (i := 15) nd rfl (Or.inl rfl)) pgs_nil)))) (fun _ _ _ _ _ => pts_nil) (fun _ _ _ _ _ => (pe_op op_sub (pv 15) (pv 14)))) pa_nil)))) (pss_cons (ps_if (PW.pt (pw_or (pt_cmpR (op_neD hr.units) (pv 12) (pe_revL (pe_callB cr_sortedI (by rfl) T.z_sorted (by decide +kernel) (pa_cons (pv 12) pa_nil))) (nomark _)) (pw_or1 (pt_cmpR (op_inD (u65 hr)) pe_non (pe_slice sl_list (pv 11) (po_some (pe_op op_sub pe_int (pe_callB call_len_seq (by rfl) T.z_len PySem.boot_len (pa_cons (pv 12) pa_nil)))) po_none) rfl)))) (pss_one (ps_ret pe_bl)) pss_nil) (pss_one (ps_for PassesOwn.never rfl (pi_range2 rfl T.z_range (pa_cons pe_int (pa_cons pe_int pa_nil))) (pg_name (i := 7) nd rfl (Or.inl rfl)) (pss_cons (ps_set (i := 9) nd rfl (Or.inl rfl) (pe_call (ok_least_windows T) (hr.mono (by decide)) (by rfl) T.m_least_windows T.F_least_windows.kp T.b_least_windows .nil pass0 (pa_cons (pv 4) (pa_cons (pv 7) pa_nil)))) (pss_cons (ps_if (PW.pt (pw_and (pt_cmpR op_notN (pv 9) pe_non (nomark _)) (pw_and1 (pt_cmpR op_notN (pe_call (ok_short_at T) (hr.mono (by decide)) (by rfl) T.m_short_at T.F_short_at.kp T.b_short_at .nil pass0 (pa_cons (pv 4) (pa_cons (pv 9) (pa_cons (pv 7) pa_nil)))) pe_non (nomark _))))) (pss_one (ps_ret pe_bl)) pss_nil) (pss_one (ps_if (PW.pt (pw_and (pt_cmpR op_notN (pv 9) pe_non (nomark _)) (pw_and1 (pt_cmpR op_isN (pe_call (ok_least_windows T) (hr.mono (by decide)) (by rfl) T.m_least_windows T.F_least_windows.kp T.b_least_windows .nil pass0 (pa_cons (pv 4) (pa_cons (pe_op op_add (pv 7) pe_int) pa_nil))) pe_non (nomark _))))) (pss_one (ps_ret pe_bl)) pss_nil)))))))))))))))))))) (pss_one (ps_ret pe_bl)))), ?_⟩
    refine ⟨_, rfl, a, ns, 113, rfl, hS, by decide, by decide, hlen, fun p q H1 hA1 _ _ _ => ?_⟩
    refine ⟨4, rfl, by decide, by decide, ?_⟩
    refine for_range (lo := 0) (n := 4) (fun i σ H' => ∃ v2 v3 v4 v5 v6 v7 v8 v9 v10 v11 v12 v13 v14 v15 : Option V, σ = [some (.ref a), some (.ref p), v2, v3, v4, v5, v6, v7, v8, v9, v10, v11, v12, v13, v14, v15] ∧ HAt H' p q) ⟨_, _, _, _, _, _, _, _, _, _, _, _, _, _, rfl, hA1⟩ ?_ ?_
    rotate_left
    · rintro σ H' ⟨v2, v3, v4, v5, v6, v7, v8, v9, v10, v11, v12, v13, v14, v15, rfl, hA⟩
      exact fin _
    rintro turn σ H hi ⟨v2, v3, v4, v5, v6, v7, v8, v9, v10, v11, v12, v13, v14, v15, rfl, hA⟩
    -- often
    refine ⟨_, rfl, p, q, 5, rfl, hA, by decide, by decide, fun r1 H1 r10 r11 hA1 _ _ => ⟨1, r1, rfl, rfl, ?_⟩⟩
    -- makes
    refine ⟨_, rfl, p, q, 61, rfl, hA1, by decide, by decide, fun r2 H2 r20 r21 hA3 _ _ => ?_⟩
    obtain ⟨N, rfl⟩ : ∃ N : Nat, r2 = (N : Int) := ⟨r2.toNat, (Int.toNat_of_nonneg r20).symm⟩
    refine ⟨_, rfl, (by omega), (by omega), fun D hD => ?_⟩
    have nD := hA3.fresh hD
    refine lc_range (lo := 0) (n := ((N : Nat) : Int).toNat) (fun i H' => ∃ ms : List Nat, H' D = some (.lst ((ms.map fun x : Nat => (x : Int)).map V.int)) ∧ ms.length = i ∧ (∀ x ∈ ms, x ≤ 6) ∧ HAt H' p q) ⟨[], upd_same, rfl, by simp, hA3.new hD⟩ ?_ ?_
    · rintro i H' hi ⟨ms, hm, hl, h6, hA'⟩
      refine ⟨rfl, _, rfl, p, q, 7, rfl, hA', by decide, by decide, fun r4 H4 r40 r41 hA4 k4 _ => ?_⟩
      refine ⟨_, rfl, _, rfl, p, q, 1 + r1, rfl, hA4, by omega, by omega, fun r5 H5 r50 r51 hA5 k5 _ => ⟨rfl, .inr ⟨_, rfl, ?_⟩⟩⟩
      have hm5 := k5 _ _ (by simp [nD.1, nD.2]) (k4 _ _ (by simp [nD.1, nD.2]) hm)
      generalize decide (V.int r5 = V.int 0) = c
      refine ⟨_, _, rfl, rfl, .inl ⟨by omega, by omega⟩, ?_⟩
      obtain ⟨x, ex, hx6⟩ : ∃ x : Nat, r4 * (if c = true then 1 else 0) = ((x : Nat) : Int) ∧ x ≤ 6 := by
        cases c with
        | false => exact ⟨0, Int.mul_zero _, by decide⟩
        | true => exact ⟨r4.toNat, by show r4 * 1 = _; omega, by omega⟩
      simp only [ex]
      refine ⟨_, hm5, lt_line (by rw [List.length_map, List.length_map]; omega), ms ++ [x], ?_, by rw [List.length_append, hl]; rfl, fun y hy => ?_, hA5.ne nD.1 nD.2⟩
      · rw [upd_same, List.map_append, List.map_append]; rfl
      · rcases List.mem_append.mp hy with e | e
        · exact h6 y e
        · rw [List.mem_singleton.mp e]; exact hx6
    rintro H4 ⟨ms, hm, hl, h6, hA4⟩
    refine .inl ⟨D, _, rfl, SqL.of hm, fun am ham => ?_⟩
    have hA5 := hA4.new (o := .tup ((ms.map fun x : Nat => (x : Int)).map V.int)) ham
    have hm5 : upd H4 am (.tup ((ms.map fun x : Nat => (x : Int)).map V.int)) am = some (.tup ((ms.map fun x : Nat => (x : Int)).map V.int)) := upd_same
    generalize upd H4 am (.tup ((ms.map fun x : Nat => (x : Int)).map V.int)) = H5 at *
    have hml : ms.length ≤ 200 := by omega
    have hM5 : MsAt H5 am ms := ⟨hm5, h6, hml⟩
    have eN : N = ms.length := by omega
    subst eN
    clear hm hA3 hA4 hD ham hA hA1
    -- windows
    refine ⟨_, rfl, _, rfl, am, _, rfl, .inr (SqT.of hm5), p, q, ms.length, (by rw [List.length_map, List.length_map]; rfl), hml, hA5, fun aw us ws H6 hW6 hPl hwl hA6 t6 => ?_⟩
    have hM6 := hM5.ts t6
    clear hA5 hM5 hm5 t6
    refine ⟨_, rfl, _, rfl, am, aw, us, ms, ws, rfl, hM6, hW6, hPl, fun H7 s7 => ?_⟩
    have hM7 := hM6.same s7
    have hW7 := hW6.same s7
    have hA7 := hA6.keepS s7
    clear hM6 hW6 hA6 s7
    obtain ⟨M, eM⟩ : ∃ M, mostN (rowsB ms (inB ws)) = M := ⟨_, rfl⟩
    rw [eM]
    -- rooms
    refine ⟨_, rfl, _, 2, rfl, rfl, _, _, rfl, _, 1, rfl, rfl, ?_⟩
    obtain ⟨hi, ehi, hhi⟩ : ∃ hi : Nat, (if ((M : Nat) : Int) + 2 < 60 then ((M : Nat) : Int) + 2 else 60) + 1 = ((hi : Nat) : Int) ∧ hi ≤ 61 := by
      by_cases c : M + 2 < 60
      · exact ⟨M + 3, by rw [if_pos (by omega)]; omega, by omega⟩
      · exact ⟨61, by rw [if_neg (by omega)]; rfl, by omega⟩
    refine ⟨1, ((hi : Nat) : Int), by rw [← ehi], ⟨by omega, by omega, by omega, by omega⟩, ?_⟩
    refine for_range (lo := 1) (n := (((hi : Nat) : Int) - 1).toNat) (fun i σ H' => ∃ (w7 w8 w9 : Option V), σ = [some (.ref a), some (.ref p), some (.int (0 + ((turn : Nat) : Int))), some (.int (1 + r1)), some (.ref am), some (.ref aw), some (.int ((M : Nat) : Int)), w7, w8, w9, v10, v11, v12, v13, v14, v15] ∧ Same H7 H') ⟨_, _, _, rfl, Same.refl _⟩ ?_ ?_
    · rintro i σ H8 hil ⟨w7, w8, w9, rfl, s8⟩
      obtain ⟨r, er⟩ : ∃ r : Nat, (1 : Int) + ((i : Nat) : Int) = ((r : Nat) : Int) := ⟨1 + i, by omega⟩
      simp only [er]
      have hr1 : 1 ≤ r := by omega
      have hr60 : r ≤ 60 := by omega
      refine ⟨_, rfl, _, rfl, _, rfl, am, aw, us, ms, ws, r, rfl, hM7.same s8, hW7.same s8, hPl, hr1, hr60, fun H9 s9 => ?_⟩
      have s79 := s8.trans s9
      cases e : firstN (rowsB ms (inB ws)) r with
      | none =>
        have hle := first_most.mp e
        rw [eM] at hle
        refine ⟨_, rfl, rfl, _, rfl, _, rfl, _, _, rfl, rfl, rfl, _, rfl, ?_⟩
        refine ite2 (fun z => absurd z ?_) (fun _ => ?_)
        · show ¬ (!decide (V.bl (decide (optV none = V.non)) = V.bl (decide (((M : Nat) : Int) ≤ ((r : Nat) : Int))))) = true
          rw [decide_eq_true (show ((M : Nat) : Int) ≤ ((r : Nat) : Int) by omega)]
          exact Bool.false_ne_true
        refine ⟨_, rfl, _, rfl, rfl, _, rfl, iteF ?_⟩
        have hb := fun x hx => hW7.lim x hx
        refine ⟨aw, us, ws, 0, rfl, hW7.same s79, by decide, by decide, (fun x hx => (hb x hx).2.1), fun ra vs' H10 hr10 tr10 nr10 s10 => ?_⟩
        refine .inl ⟨ra, vs', rfl, SqL.of hr10, fun t ht => ?_⟩
        refine ⟨_, rfl, rfl, _, rfl, iteF (iteF ?_)⟩
        exact ⟨_, _, _, rfl, (s79.trans s10).trans (same_new (Same.refl _) ht)⟩
      | some j =>
        have hgt : ¬ M ≤ r := fun z => by
          have := first_most.mpr (by rw [eM]; exact z)
          rw [this] at e; cases e
        obtain ⟨hj, _⟩ := first_some e
        refine ⟨_, rfl, rfl, _, rfl, _, rfl, _, _, rfl, rfl, rfl, _, rfl, ?_⟩
        refine ite2 (fun z => absurd z ?_) (fun _ => ?_)
        · show ¬ (!decide (V.bl (decide (optV (some j) = V.non)) = V.bl (decide (((M : Nat) : Int) ≤ ((r : Nat) : Int))))) = true
          rw [decide_eq_false (show ¬ ((M : Nat) : Int) ≤ ((r : Nat) : Int) by omega)]
          exact Bool.false_ne_true
        refine ⟨_, rfl, _, rfl, rfl, _, rfl, iteT ?_⟩
        refine ⟨_, rfl, aw, us, ws, ((j : Nat) : Int), rfl, hW7.same s79, by omega, by omega, (fun x hx => (hW7.lim x hx).2.1), fun ra vs' H10 hr10 tr10 nr10 s10 => ?_⟩
        refine .inl ⟨ra, vs', rfl, SqL.of hr10, fun t ht => ?_⟩
        have s11 := (s79.trans s10).trans (same_new (Same.refl _) ht (o := .tup vs'))
        have htt : upd H10 t (.tup vs') t = some (.tup vs') := upd_same
        have tr11 := tr10.mono (TSm.of_same (same_new (Same.refl H10) ht (o := .tup vs')))
        generalize upd H10 t (.tup vs') = H11 at *
        refine ⟨_, rfl, rfl, _, rfl, iteT ?_⟩
        refine ⟨_, rfl, _, rfl, _, rfl, am, _, rfl, SqT.of (hM7.same s11).m, ?_, fun sl hsl => ?_⟩
        · rintro ⟨_, z⟩
          rw [HT.sIx_nat, List.length_map, List.length_map] at z
          omega
        have s12 := s11.trans (same_new (Same.refl H11) hsl (o := .tup (cutV ((ms.map fun x : Nat => (x : Int)).map V.int) none (some ((j : Nat) : Int)))))
        refine ⟨_, rfl, sl, t, vs', ms.take j, cutZ ws ((j : Nat) : Int), rfl, ⟨?_, fun x hx => h6 x (List.mem_of_mem_take hx), by rw [List.length_take]; omega⟩, ⟨?_, tr11.mono (TSm.of_same (same_new (Same.refl H11) hsl)), fun x hx => ?_, ?_⟩, ?_, fun H13 s13 => ?_⟩
        · rw [upd_same, cut_lo (by rw [List.length_map, List.length_map]; omega), List.map_take, List.map_take]
        · exact (same_new (Same.refl H11) hsl) _ _ htt
        · have := (cut_plan (i := j) hPl).ok x hx
          omega
        · have := cut_len (ws := ws) (b := ((j : Nat) : Int))
          omega
        · rw [List.length_take, Nat.min_eq_left (by omega)]; exact cut_plan hPl
        have hc := cut_most e
        refine ⟨_, rfl, _, _, rfl, rfl, _, rfl, ?_⟩
        rw [decide_eq_false (show ¬ ((mostN (rowsB (ms.take j) (inB (cutZ ws ((j : Nat) : Int)))) : Nat) : Int) > ((r : Nat) : Int) by omega)]
        refine iteF ?_
        exact ⟨_, _, _, rfl, s12.trans s13⟩
    rintro σ H8 ⟨w7, w8, w9, rfl, s8⟩
    have hM8 := hM7.same s8
    have hW8 := hW7.same s8
    have hA8 := hA7.keepS s8
    clear hM7 hW7 hA7 s8
    have hul := hW8.len
    -- wider
    refine ⟨_, rfl, aw, rfl, ⟨_, SqT.of hW8.w⟩, fun D2 hD2 => ?_⟩
    refine lc_tup (K := K) (a := aw) (xs := us) (fun i H' => ∃ vs', H' D2 = some (.lst vs') ∧ TDs H' vs' ((wideZ ms.length (ws.take i)).map wZ) ∧ Same H8 H') ⟨[], upd_same, .nil, same_new (Same.refl _) hD2⟩ (fun i H' _ ⟨_, _, _, s⟩ => SqT.of (s _ _ hW8.w)) ?_ ?_
    · rintro i x H' hi2 ⟨vs', hL, tL, s1⟩
      have hl2 := tL.length
      obtain ⟨d, hd, td⟩ := hW8.t.get hi2
      obtain ⟨x, hx, rfl⟩ := map_get hd
      obtain ⟨pw, rfl, hp⟩ := td_w (td.mono (TSm.of_same s1))
      refine ⟨pw, _, rfl, SqT.of hp, rfl, _, _, rfl, _, _, rfl, rfl, rfl, ?_⟩
      refine ⟨_, rfl, _, rfl, am, _, rfl, .inr (SqT.of (hM8.same s1).m), _, rfl, _, 1, rfl, rfl, _, _, rfl, (by decide : (2 : Nat) ≤ sizeLine), fun t ht => ?_⟩
      rw [List.length_map, List.length_map]
      have nDt : D2 ≠ t := ne_of_none hL ht
      have t6 := TSm.of_same (same_new (Same.refl H') ht (o := .tup [.int x.1, .int (if x.2 + 1 < ((ms.length : Nat) : Int) then x.2 + 1 else ((ms.length : Nat) : Int))]))
      refine ⟨vs', by rw [upd_ne nDt]; exact hL, lt_line ?_, _, upd_same, ?_, same_mut (same_new s1 ht) hD2⟩
      · rw [hl2, List.length_map]
        unfold wideZ
        rw [List.length_map, List.length_take]
        omega
      · have e2 : wideZ ms.length (ws.take (i + 1)) = wideZ ms.length (ws.take i) ++ [(x.1, if x.2 + 1 < ((ms.length : Nat) : Int) then x.2 + 1 else ((ms.length : Nat) : Int))] := by
          unfold wideZ
          rw [List.take_add_one, hx, Option.toList_some, List.map_append]
          rfl
        rw [e2, List.map_append]
        have t7 : TSm (upd H' t (.tup [.int x.1, .int (if x.2 + 1 < ((ms.length : Nat) : Int) then x.2 + 1 else ((ms.length : Nat) : Int))])) (upd (upd H' t (.tup [.int x.1, .int (if x.2 + 1 < ((ms.length : Nat) : Int) then x.2 + 1 else ((ms.length : Nat) : Int))])) D2 (.lst (vs' ++ [.ref t]))) := ts_upd (TSm.refl _) (NoT.lst (by rw [upd_ne nDt]; exact hL))
        exact ((tL.mono t6).mono t7).app (.one (TD.mono t7 (.tup upd_same (.cons (.int _) (.cons (.int _) .nil)))))
    rintro H9 ⟨xs1, hL9, tL9, s9⟩
    rw [hul, List.take_length] at tL9
    refine .inl ⟨D2, _, rfl, SqL.of hL9, fun w1 hw1 => ?_⟩
    have s10 := s9.trans (same_new (Same.refl H9) hw1 (o := .tup xs1))
    have hx1 : upd H9 w1 (.tup xs1) w1 = some (.tup xs1) := upd_same
    have tx1 := tL9.mono (TSm.of_same (same_new (Same.refl H9) hw1 (o := .tup xs1)))
    generalize upd H9 w1 (.tup xs1) = H10 at *
    have hx1l : xs1.length = ws.length := by rw [tx1.length, List.length_map]; unfold wideZ; rw [List.length_map]
    clear hL9 tL9 s9 hD2 hw1
    -- those that are apart
    refine ⟨_, rfl, w1, _, rfl, .inr (SqT.of hx1), _, rfl, (by omega), (by omega), fun D3 hD3 => ?_⟩
    have tAt : ∀ k, k < ws.length → ∃ pk x, xs1[k]? = some (.ref pk) ∧ (wideZ ms.length ws)[k]? = some x ∧ H10 pk = some (.tup [.int x.1, .int x.2]) := fun k hk => by
      have hk2 : k < xs1.length := by omega
      obtain ⟨d, hd, td⟩ := tx1.get (List.getElem?_eq_getElem hk2)
      obtain ⟨x, hx, rfl⟩ := map_get hd
      obtain ⟨pk, ek, hpk⟩ := td_w td
      exact ⟨pk, x, by rw [List.getElem?_eq_getElem hk2, ek], hx, hpk⟩
    refine lc_range (lo := 0) (n := ((xs1.length : Nat) : Int).toNat) (fun i H' => ∃ vs', H' D3 = some (.lst vs') ∧ vs'.length ≤ i ∧ (vs'.length = i → vs' = xs1.take i ∧ ∀ k a b, k < i → (wideZ ms.length ws)[k]? = some a → (wideZ ms.length ws)[k + 1]? = some b → a.2 ≤ b.1) ∧ Same H10 H') ⟨[], upd_same, Nat.le_refl _, fun _ => ⟨rfl, fun k a b hk => absurd hk (Nat.not_lt_zero _)⟩, same_new (Same.refl _) hD3⟩ ?_ ?_
    · rintro i H' hi2 ⟨vs', hL, hvl, hvs, s1⟩
      have hil : i < ws.length := by omega
      obtain ⟨pk, x, hxk, hwk, hpk⟩ := tAt i hil
      simp only [Int.zero_add]
      have take1 : xs1.take (i + 1) = xs1.take i ++ [.ref pk] := by rw [List.take_add_one, hxk, Option.toList_some]
      refine ⟨rfl, _, rfl, _, rfl, w1, _, rfl, .inr (SqT.of (s1 _ _ hx1)), _, 1, rfl, rfl, rfl, _, rfl, ?_⟩
      by_cases c : i + 1 = ws.length
      · rw [show decide (V.int ((i : Nat) : Int) = V.int (((xs1.length : Nat) : Int) - 1)) = true from decide_eq_true (by rw [show ((xs1.length : Nat) : Int) - 1 = ((i : Nat) : Int) by omega])]
        refine iteT (iteT ⟨_, rfl, _, rfl, w1, _, _, _, rfl, rfl, SqT.of (s1 _ _ hx1), atI_nat hxk, vs', hL, lt_line (by omega), _, upd_same, by rw [List.length_append, List.length_singleton]; omega, fun e => ?_, same_mut s1 hD3⟩)
        rw [List.length_append, List.length_singleton] at e
        obtain ⟨e1, e2⟩ := hvs (by omega)
        refine ⟨by rw [e1, take1], fun k a' b' hk ha hb => ?_⟩
        by_cases z : k < i
        · exact e2 k a' b' z ha hb
        · have hbl := (List.getElem?_eq_some_iff.mp hb).1
          have : (wideZ ms.length ws).length = ws.length := by unfold wideZ; rw [List.length_map]
          omega
      · rw [show decide (V.int ((i : Nat) : Int) = V.int (((xs1.length : Nat) : Int) - 1)) = false from decide_eq_false (fun z => by injection z; omega)]
        obtain ⟨pk2, x2, hxk2, hwk2, hpk2⟩ := tAt (i + 1) (by omega)
        refine iteF ?_
        refine ⟨_, rfl, _, rfl, w1, _, _, _, rfl, rfl, SqT.of (s1 _ _ hx1), atI_nat hxk, pk, _, 1, _, rfl, rfl, SqT.of (s1 _ _ hpk), atI_nat (j := 1) rfl, ?_⟩
        refine ⟨_, rfl, _, rfl, _, 1, rfl, rfl, w1, _, ((i + 1 : Nat) : Int), _, rfl, rfl, SqT.of (s1 _ _ hx1), atI_nat hxk2, pk2, _, 0, _, rfl, rfl, SqT.of (s1 _ _ hpk2), atI_nat (j := 0) rfl, _, _, rfl, rfl, _, rfl, ?_⟩
        by_cases c2 : x.2 ≤ x2.1
        · rw [decide_eq_true c2]
          refine iteT ⟨_, rfl, _, rfl, w1, _, _, _, rfl, rfl, SqT.of (s1 _ _ hx1), atI_nat hxk, vs', hL, lt_line (by omega), _, upd_same, by rw [List.length_append, List.length_singleton]; omega, fun e => ?_, same_mut s1 hD3⟩
          rw [List.length_append, List.length_singleton] at e
          obtain ⟨e1, e2⟩ := hvs (by omega)
          refine ⟨by rw [e1, take1], fun k a' b' hk ha hb => ?_⟩
          by_cases z : k < i
          · exact e2 k a' b' z ha hb
          · have ek : k = i := by omega
            subst ek
            rw [hwk] at ha
            rw [hwk2] at hb
            rw [← Option.some.inj ha, ← Option.some.inj hb]
            exact c2
        · rw [decide_eq_false c2]
          exact iteF ⟨vs', hL, by omega, fun e => by omega, s1⟩
    rintro H11 ⟨xs2, hL11, hxl2, hx2, s11⟩
    refine .inl ⟨D3, _, rfl, SqL.of hL11, fun w2 hw2 => ?_⟩
    have s12 := s11.trans (same_new (Same.refl H11) hw2 (o := .tup xs2))
    have hw12 : upd H11 w2 (.tup xs2) w2 = some (.tup xs2) := upd_same
    generalize upd H11 w2 (.tup xs2) = H12 at *
    have s812 := s10.trans s12
    rw [show (((xs1.length : Nat) : Int)).toNat = ws.length by omega] at hx2 hxl2
    have tx12 := tx1.mono (TSm.of_same s12)
    clear hL11 s11 hD3 hw2
    -- wider ones are enough
    have hMle : ∀ {iw : Nat → Bool}, (∀ t, inB ws t = true → iw t = true) → mostN (rowsB ms iw) ≤ M := fun h => by rw [← eM]; exact most_mono h
    refine gn_ifs (fun H' => Same H8 H') (fun H13 s13 => ?_) (fun Q2 q2 => ?_)
    rotate_left
    · refine ⟨_, rfl, w2, _, rfl, .inr (SqT.of hw12), _, rfl, aw, _, rfl, .inr (SqT.of (s812 _ _ hW8.w)), rfl, _, rfl, ?_⟩
      by_cases c : xs2.length = us.length
      · rw [show decide (V.int ((xs2.length : Nat) : Int) = V.int ((us.length : Nat) : Int)) = true from decide_eq_true (by rw [c])]
        refine iteT ?_
        obtain ⟨e1, e2⟩ := hx2 (by omega)
        have e3 : xs2 = xs1 := by rw [e1, List.take_of_length_le (by omega)]
        have hwl2 : (wideZ ms.length ws).length = ws.length := by unfold wideZ; rw [List.length_map]
        have hpw : PlanZ ms.length (wideZ ms.length ws) := wide_plan hPl fun k a b ha hb => e2 k a b (by have := (List.getElem?_eq_some_iff.mp hb).1; omega) ha hb
        refine ⟨_, rfl, _, rfl, am, w2, xs2, ms, wideZ ms.length ws, rfl, hM8.same s812, ⟨hw12, by rw [e3]; exact tx12, fun x hx => ?_, by omega⟩, hpw, fun H13 s13 => ?_⟩
        · have := hpw.ok x hx
          omega
        have hle := hMle (wide_in hPl)
        refine ⟨_, rfl, _, _, rfl, rfl, _, rfl, ?_⟩
        rw [decide_eq_false (show ¬ ((mostN (rowsB ms (inB (wideZ ms.length ws))) : Nat) : Int) > ((M : Nat) : Int) by omega)]
        exact q2 _ (s812.trans s13)
      · rw [show decide (V.int ((xs2.length : Nat) : Int) = V.int ((us.length : Nat) : Int)) = false from decide_eq_false (fun z => by injection z; omega)]
        exact iteF (q2 _ s812)
    clear hx1 hw12 tx1 tx12 s812 s10 s12 hxl2 hx2 tAt hx1l
    have hM13 := hM8.same s13
    have hA13 := hA8.keepS s13
    clear hM8 hW8 hA8 s13
    -- no windows, one window
    refine seq_ifs (fun H' => Same H13 H') (fun H14 s14 => ?_) (fun Q2 q2 => ?_)
    rotate_left
    · refine ⟨_, rfl, (by decide : (0 : Nat) ≤ sizeLine), fun t ht => ?_⟩
      have s14 := same_new (Same.refl H13) ht (o := .tup [])
      refine ⟨am, t, [], ms, [], rfl, hM13.same s14, ⟨upd_same, .nil, by simp, by decide⟩, ⟨by simp, by simp⟩, fun H15 s15 => ?_⟩
      have s1315 := s14.trans s15
      have hM15 := hM13.same s1315
      refine ⟨_, rfl, am, ms.map fun x : Nat => (x : Int), rfl, SqT.of hM15.m, ?_⟩
      have es : (ms.map fun x : Nat => (x : Int)).sum = ((preN ms ms.length : Nat) : Int) := by
        have := preN_sum ms ms.length (Nat.le_refl _)
        rw [List.take_length] at this
        exact this
      rw [es, most_none]
      refine ⟨rfl, _, rfl, ?_⟩
      rw [show (!decide (V.int ((preN ms ms.length : Nat) : Int) = V.int ((preN ms ms.length : Nat) : Int))) = false by rw [decide_eq_true rfl]; rfl]
      refine iteF ?_
      refine ⟨_, rfl, (by decide : (0 : Nat) ≤ sizeLine), fun t2 ht2 => ?_⟩
      have s16 := same_new (Same.refl H15) ht2 (o := .tup [])
      have s1316 := s1315.trans s16
      have ht16 : upd H15 t2 (.tup []) t2 = some (.tup []) := upd_same
      generalize upd H15 t2 (.tup []) = H16 at *
      refine ⟨.tuple ((ms.map fun x : Nat => (x : Int)).map PyData.int), .tuple [], .tup (SqT.of (hM15.same s16).m) (dpAll_ints _), .tup (SqT.of ht16) .nil, (Lay.tuple (k := 0) fun x _ => Lay.int x).shaped (by decide), (Lay.tuple (f := PyData.int) (k := 0) (xs := []) (by simp)).shaped (by decide), _, rfl, ?_⟩
      rw [eqv_nilT]
      by_cases c : ms = []
      · subst c
        exact iteF (q2 _ s1316)
      · rw [show (!((ms.map fun x : Nat => (x : Int)).map PyData.int).isEmpty) = true by simp [c]]
        refine iteT ?_
        have hpos : 0 < ms.length := List.length_pos_iff.mpr c
        refine ⟨_, rfl, _, rfl, am, _, rfl, .inr (SqT.of (hM15.same s16).m), (by decide : (2 : Nat) ≤ sizeLine), fun t3 ht3 => ⟨(by decide : (1 : Nat) ≤ sizeLine), fun t4 ht4 => ?_⟩⟩
        rw [List.length_map, List.length_map] at *
        have n34 : t3 ≠ t4 := ne_of_none upd_same ht4
        have s17 := (same_new (Same.refl H16) ht3 (o := .tup [.int 0, .int ((ms.length : Nat) : Int)])).trans (same_new (Same.refl _) ht4 (o := .tup [.ref t3]))
        refine ⟨am, t4, [.ref t3], ms, [(0, ((ms.length : Nat) : Int))], rfl, (hM15.same s16).same s17, ⟨upd_same, .one (.tup (by rw [upd_ne n34]; exact upd_same) (.cons (.int _) (.cons (.int _) .nil))), fun x hx => ?_, (show 1 ≤ 2000 by decide)⟩, ⟨fun x hx => ?_, List.pairwise_singleton _ _⟩, fun H18 s18 => ?_⟩
        · rw [List.mem_singleton.mp hx]
          show (-3000 : Int) ≤ 0 ∧ (0 : Int) ≤ ((ms.length : Nat) : Int) ∧ ((ms.length : Nat) : Int) ≤ 3000
          omega
        · rw [List.mem_singleton.mp hx]
          show (0 : Int) ≤ 0 ∧ (0 : Int) < ((ms.length : Nat) : Int) ∧ ((ms.length : Nat) : Int) ≤ ((ms.length : Nat) : Int)
          omega
        have hle : mostN (rowsB ms (inB [(0, ((ms.length : Nat) : Int))])) ≤ M := by
          have e1 : rowsB ms (inB [(0, ((ms.length : Nat) : Int))]) = rowsB ms (fun _ => true) := rowsB_congr fun t ht => by rw [every_of]; exact decide_eq_true ht
          rw [e1]
          exact hMle fun _ _ => rfl
        refine ⟨_, rfl, _, _, rfl, rfl, _, rfl, ?_⟩
        rw [decide_eq_false (show ¬ ((mostN (rowsB ms (inB [(0, ((ms.length : Nat) : Int))])) : Nat) : Int) > ((M : Nat) : Int) by omega)]
        exact q2 _ ((s1316.trans s17).trans s18)
    have hM14 := hM13.same s14
    have hA14 := hA13.keepS s14
    clear hM13 hA13 s14
    -- as many as are made at a beat
    refine seq_ifs (fun H' => Same H14 H') (fun H15 s15 => ?_) (fun Q2 q2 => ?_)
    rotate_left
    · refine ⟨_, rfl, (by decide : (0 : Nat) ≤ sizeLine), fun t2 ht2 => ?_⟩
      have s16 := same_new (Same.refl H14) ht2 (o := .tup [])
      have ht16 : upd H14 t2 (.tup []) t2 = some (.tup []) := upd_same
      generalize upd H14 t2 (.tup []) = H16 at *
      refine ⟨.tuple ((ms.map fun x : Nat => (x : Int)).map PyData.int), .tuple [], .tup (SqT.of (hM14.same s16).m) (dpAll_ints _), .tup (SqT.of ht16) .nil, (Lay.tuple (k := 0) fun x _ => Lay.int x).shaped (by decide), (Lay.tuple (f := PyData.int) (k := 0) (xs := []) (by simp)).shaped (by decide), _, rfl, ?_⟩
      rw [eqv_nilT]
      by_cases c : ms = []
      · subst c
        exact iteF (q2 _ s16)
      · rw [show (!((ms.map fun x : Nat => (x : Int)).map PyData.int).isEmpty) = true by simp [c]]
        refine iteT ?_
        refine ⟨_, rfl, _, rfl, am, ms.map fun x : Nat => (x : Int), rfl, SqT.of (hM14.same s16).m, by simpa using c, fun m hm1 hm2 => ⟨_, _, rfl, rfl, _, rfl, ?_⟩⟩
        obtain ⟨x, hx, rfl⟩ := List.mem_map.mp hm1
        have hle := most_make (iw := inB ws) hx
        rw [eM] at hle
        rw [decide_eq_false (show ¬ ((M : Nat) : Int) < ((x : Nat) : Int) by omega)]
        exact q2 _ s16
    have hM15 := hM14.same s15
    have hA15 := hA14.keepS s15
    clear hM14 hA14 s15 hMle
    -- windows of five rooms
    refine ⟨(by decide : (5 : Nat) ≤ sizeLine), fun rt hrt => ?_⟩
    have s16 := same_new (Same.refl H15) hrt (o := .tup [.int 1, .int 2, .int 5, .int 20, .int 60])
    have hrt16 : upd H15 rt (.tup [.int 1, .int 2, .int 5, .int 20, .int 60]) rt = some (.tup ((([1, 2, 5, 20, 60] : List Nat).map fun x : Nat => (x : Int)).map V.int)) := upd_same
    have hM16 := hM15.same s16
    have hA16 := hA15.keepS s16
    generalize upd H15 rt (.tup [.int 1, .int 2, .int 5, .int 20, .int 60]) = H16 at *
    clear hM15 hA15 s16 hrt
    obtain ⟨rs, ers⟩ : ∃ rs : List Nat, rs = [1, 2, 5, 20, 60] := ⟨_, rfl⟩
    rw [← ers] at hrt16
    have hrs : ∀ r ∈ rs, 1 ≤ r ∧ r ≤ 60 := by rw [ers]; decide
    have hrsP : rs.Pairwise (· ≤ ·) := by rw [ers]; decide
    have hrsL : rs.length = 5 := by rw [ers]; rfl
    clear ers
    refine ⟨rt, rfl, ⟨_, SqT.of hrt16⟩, fun F hF => ?_⟩
    refine lc_tup (K := K) (a := rt) (xs := (rs.map fun x : Nat => (x : Int)).map V.int) (fun i H' => ∃ vs', H' F = some (.lst vs') ∧ Founds H' ms (rs.take i) vs' ∧ Same H16 H') ⟨[], upd_same, ⟨rfl, fun j r v h1 => by simp at h1⟩, same_new (Same.refl _) hF⟩ (fun i H' _ ⟨_, _, _, s⟩ => SqT.of (s _ _ hrt16)) ?_ ?_
    · rintro i y H' hy ⟨vs', hL, hF', s1⟩
      obtain ⟨n, hn, rfl⟩ := map_get hy
      obtain ⟨r, hr2, rfl⟩ := map_get hn
      have hrr := hrs r (List.mem_of_getElem? hr2)
      have hil : i < rs.length := (List.getElem?_eq_some_iff.mp hr2).1
      have hvl : vs'.length = i := by rw [hF'.1, List.length_take]; omega
      have more : ∀ v H2, FoundV H2 ms r v → Same H' H2 → H2 F = some (.lst vs') → ∃ vs'', upd H2 F (.lst (vs' ++ [v])) F = some (.lst vs'') ∧ Founds (upd H2 F (.lst (vs' ++ [v]))) ms (rs.take (i + 1)) vs'' ∧ Same H16 (upd H2 F (.lst (vs' ++ [v]))) := fun v H2 hv s2 hL2 => by
        have t7 : TSm H2 (upd H2 F (.lst (vs' ++ [v]))) := ts_upd (TSm.refl _) (NoT.lst hL2)
        refine ⟨_, upd_same, ⟨by rw [List.length_append, List.length_singleton, List.length_take]; omega, fun j r' v' h1 h2 => ?_⟩, same_mut (s1.trans s2) hF⟩
        by_cases c : j < i
        · rw [List.getElem?_append_left (by omega)] at h2
          rw [List.getElem?_take_of_lt (by omega)] at h1
          exact ((hF'.2 j r' v' (by rw [List.getElem?_take_of_lt c]; exact h1) h2).same s2).ts t7
        · have hj := (List.getElem?_eq_some_iff.mp h1).1
          rw [List.length_take] at hj
          have ej : j = i := by omega
          subst ej
          rw [List.getElem?_take_of_lt (by omega), hr2] at h1
          rw [List.getElem?_append_right (by omega), hvl, Nat.sub_self] at h2
          rw [← Option.some.inj h1, ← Option.some.inj h2]
          exact hv.ts t7
      refine ⟨rfl, _, rfl, _, rfl, am, ms, r, rfl, hM16.same s1, hrr.1, hrr.2, fun hne H2 s2 => ?_, fun hno w' us' H2 hw' nw' s2 => ?_⟩
      · have e : enough ms r = false := by
          cases z : enough ms r with
          | false => rfl
          | true => exact absurd (enough_iff.mp z) hne
        exact ⟨vs', s2 _ _ hL, lt_line (by omega), more _ _ (.inl ⟨rfl, e⟩) s2 (s2 _ _ hL)⟩
      · exact ⟨vs', s2 _ _ hL, lt_line (by omega), more _ _ (.inr ⟨w', us', rfl, hw', enough_iff.mpr hno⟩) s2 (s2 _ _ hL)⟩
    rintro H17 ⟨fs, hFs, hFd, s17⟩
    rw [List.length_map, List.length_map, List.take_length] at hFd
    have hM17 := hM16.same s17
    have hA17 := hA16.keepS s17
    clear hM16 hA16 s17 hrt16 hF
    have hfl := hFd.1
    -- how many beats
    refine ⟨_, rfl, F, rfl, ⟨_, SqL.of hFs⟩, fun B hB => ?_⟩
    refine lc_list (K := K) (a := F) (xs := fs) (fun i H' => H' B = some (.lst ((beatsL ms (rs.take i)).map V.int)) ∧ Same H17 H') ⟨upd_same, same_new (Same.refl _) hB⟩ (fun i H' _ ⟨_, s⟩ => SqL.of (s _ _ hFs)) ?_ ?_
    · rintro i v H' hv ⟨hL, s1⟩
      have hil : i < fs.length := (List.getElem?_eq_some_iff.mp hv).1
      have hr2 : rs[i]? = some rs[i] := List.getElem?_eq_getElem (by omega)
      have hfv := (hFd.2 i _ v hr2 hv).same s1
      rw [beats_take hr2]
      generalize rs[i] = r at *
      have hbl : (beatsL ms (rs.take i)).length ≤ 5 := by
        unfold beatsL
        rw [List.length_map]
        refine Nat.le_trans (List.length_filter_le _ _) ?_
        rw [List.length_take]
        omega
      rcases hfv with ⟨rfl, e⟩ | ⟨w', us', rfl, hw', e⟩
      · rw [e, if_neg (by decide), List.append_nil]
        refine ⟨rfl, _, rfl, rfl, _, rfl, iteF ⟨hL, s1⟩⟩
      · rw [if_pos e]
        refine ⟨rfl, _, rfl, rfl, _, rfl, iteT ?_⟩
        have hul2 := hw'.len
        refine ⟨_, rfl, w', rfl, ⟨_, SqT.of hw'.w⟩, fun D4 hD4 => ?_⟩
        have nBD : B ≠ D4 := ne_of_none hL hD4
        refine lc_tup (K := K) (a := w') (xs := us') (fun j H2 => H2 D4 = some (.lst ((((spansZ (latB ms r)).take j).map fun x => x.2 - x.1).map V.int)) ∧ Same H' H2) ⟨upd_same, same_new (Same.refl _) hD4⟩ (fun j H2 _ ⟨_, s⟩ => SqT.of (s _ _ hw'.w)) ?_ ?_
        · rintro j y H2 hy ⟨hL2, s2⟩
          obtain ⟨d, hd, td⟩ := hw'.t.get hy
          obtain ⟨x, hx, rfl⟩ := map_get hd
          obtain ⟨pw, rfl, hp⟩ := td_w (td.mono (TSm.of_same s2))
          have hwl3 := hw'.wl
          refine ⟨pw, _, rfl, SqT.of hp, rfl, _, _, rfl, _, _, rfl, rfl, rfl, ?_⟩
          refine ⟨_, rfl, _, rfl, _, _, rfl, rfl, _, hL2, lt_line (by rw [List.length_map, List.length_map, List.length_take]; omega), ?_, same_mut s2 hD4⟩
          rw [upd_same, List.take_add_one, hx, Option.toList_some, List.map_append, List.map_append]
          rfl
        · rintro H2 ⟨hL2, s2⟩
          rw [hul2, List.take_length] at hL2
          refine ⟨D4, _, rfl, SqL.of hL2, ?_⟩
          have hsp := spans_ok (latB_asc (ms := ms) (r := r))
          rw [spans_sum _ hsp.pos, hsp.flat]
          refine ⟨_, s2 _ _ hL, lt_line (by rw [List.length_map]; omega), ?_, same_mut (s1.trans s2) hB⟩
          rw [upd_same, List.map_append]
          rfl
    rintro H18 ⟨hL18, s18⟩
    rw [hfl, List.take_length] at hL18
    have hFs18 := s18 _ _ hFs
    have hFd18 := hFd.ts (TSm.of_same s18)
    have hM18 := hM17.same s18
    have hA18 := hA17.keepS s18
    clear hFs hFd hM17 hA17 s18 hB
    have hbl5 : (beatsL ms rs).length = (rs.filter (enough ms)).length := by unfold beatsL; rw [List.length_map]
    have hfl5 := List.length_filter_le (enough ms) rs
    -- fewer and fewer
    refine gn_ifs (fun H' => Same H18 H') (fun H19 s19 => ?_) (fun Q2 q2 => ?_)
    rotate_left
    · refine ⟨_, rfl, _, rfl, B, beatsL ms rs, rfl, SqL.of hL18, fun ys sp hperm hsor nsp => ?_⟩
      have s20 := same_new (Same.refl H18) nsp (o := .lst (ys.map V.int))
      refine ⟨sp, _, rfl, SqL.of upd_same, fun sq nsq => ?_⟩
      have s21 := s20.trans (same_new (Same.refl _) nsq (o := .lst (ys.map V.int).reverse))
      have hsq : upd (upd H18 sp (.lst (ys.map V.int))) sq (.lst (ys.map V.int).reverse) sq = some (.lst ((beatsL ms rs).map V.int)) := by
        rw [upd_same, ← List.map_reverse, desc_sorted (beats_desc hrsP) hperm hsor]
      generalize upd (upd H18 sp (.lst (ys.map V.int))) sq (.lst (ys.map V.int).reverse) = H21 at *
      refine ⟨.list ((beatsL ms rs).map PyData.int), .list ((beatsL ms rs).map PyData.int), .lst (SqL.of (s21 _ _ hL18)) (dpAll_ints _), .lst (SqL.of hsq) (dpAll_ints _), (Lay.list (k := 0) fun x _ => Lay.int x).shaped (by decide), (Lay.list (k := 0) fun x _ => Lay.int x).shaped (by decide), _, rfl, ?_⟩
      rw [(Lay.list (f := PyData.int) (k := 0) (xs := beatsL ms rs) fun x _ => Lay.int x).refl]
      refine iteF ?_
      have hsl0 : (5 : Int) - (((((beatsL ms rs).map V.int).length : Nat)) : Int) = ((5 - (rs.filter (enough ms)).length : Nat) : Int) := by
        rw [List.length_map, hbl5]; omega
      refine ⟨_, rfl, _, rfl, B, _, rfl, .inl (SqL.of (s21 _ _ hL18)), 5, _, rfl, rfl, _, rfl, F, fs, rfl, SqL.of (s21 _ _ hFs18), fun sl hsl => ?_⟩
      rw [hsl0, cut_hi (by omega)]
      have s22 := s21.trans (same_new (Same.refl H21) hsl (o := .lst (fs.drop (5 - (rs.filter (enough ms)).length))))
      have htd := TDs.drop (5 - (rs.filter (enough ms)).length) ((founds_td hFd18).mono (TSm.of_same s22))
      rw [← List.map_drop] at htd
      refine ⟨.none, (rs.drop (5 - (rs.filter (enough ms)).length)).map (foundD ms), .non, .lst (SqL.of upd_same) htd.dp, Lay.none.shaped (by decide), (Lay.list (k := 2) fun x _ => lay_found ms x).shaped (by decide), _, rfl, ?_⟩
      rw [no_none fun r hr3 => by
        obtain ⟨j, hj⟩ := List.getElem?_of_mem hr3
        rw [List.getElem?_drop] at hj
        exact late_some hrsP _ r (by omega) hj]
      exact q2 _ s22
    have hM19 := hM18.same s19
    have hA19 := hA18.keepS s19
    clear hM18 hA18 s19 hFs18 hFd18 hL18
    -- one room more
    refine ⟨1, 7, rfl, ⟨by decide, by decide, by decide, by decide⟩, ?_⟩
    refine for_range (lo := 1) (n := ((7 : Int) - 1).toNat) (fun i σ H' => ∃ v2 v3 v5 v6 v7 v8 v9 v10 v11 v12 v13 v14 v15 : Option V, σ = [some (.ref a), some (.ref p), v2, v3, some (.ref am), v5, v6, v7, v8, v9, v10, v11, v12, v13, v14, v15] ∧ Same H19 H') ⟨_, _, _, _, _, _, _, _, _, _, _, _, _, rfl, Same.refl _⟩ ?_ ?_
    rotate_left
    · rintro σ H' ⟨v2, v3, v5, v6, v7, v8, v9, v10, v11, v12, v13, v14, v15, rfl, s20⟩
      exact ⟨_, _, _, _, _, _, _, _, _, _, _, _, _, _, rfl, hA19.keepS s20⟩
    rintro i σ H20 hil ⟨v2, v3, v5, v6, v7, v8, v9, v10, v11, v12, v13, v14, v15, rfl, s20⟩
    obtain ⟨r, er⟩ : ∃ r : Nat, (1 : Int) + ((i : Nat) : Int) = ((r : Nat) : Int) := ⟨1 + i, by omega⟩
    have hil2 : i < 6 := hil
    simp only [er]
    refine ⟨_, rfl, _, rfl, am, ms, r, rfl, hM19.same s20, by omega, by omega, fun hne H21 s21 => ?_, fun hno w' us' H21 hw' nw' s21 => ?_⟩
    · refine ⟨_, rfl, rfl, _, rfl, iteF (iteF ?_)⟩
      refine ⟨_, rfl, rfl, _, rfl, iteF (iteF ?_)⟩
      exact ⟨_, _, _, _, _, _, _, _, _, _, _, _, _, rfl, s20.trans s21⟩
    · have s2021 := s20.trans s21
      refine ⟨_, rfl, rfl, _, rfl, iteT ?_⟩
      have hpl := spans_plan (n := ms.length) (latB_asc (ms := ms) (r := r)) fun b hb => by
        obtain ⟨c, hc⟩ := List.getElem?_of_mem hb
        refine ⟨latB_pos (firstB_none.mp hno) hc, ?_⟩
        rcases latB_lt hc with z | z <;> omega
      refine ⟨_, rfl, _, rfl, _, rfl, am, w', us', ms, spansZ (latB ms r), r, rfl, hM19.same s2021, hw', hpl, by omega, by omega, fun H22 s22 => ?_⟩
      rw [spans_inB latB_asc, latB_iff.mpr hno]
      refine ⟨rfl, _, rfl, iteF ?_⟩
      refine ⟨_, rfl, rfl, _, rfl, iteT ?_⟩
      refine ⟨_, rfl, _, rfl, _, 1, rfl, rfl, am, ms, r + 1, rfl, (hM19.same s2021).same s22, by omega, by omega, fun hne2 => absurd (every_more (Nat.le_succ r) hno) hne2, fun hno2 w3 us3 H23 hw3 nw3 s23 => ?_⟩
      refine ⟨rfl, _, rfl, iteF ?_⟩
      exact ⟨_, _, _, _, _, _, _, _, _, _, _, _, _, rfl, (s2021.trans s22).trans s23⟩
end
end K22

namespace K22
open PySem PySem.Spec PyProof.Rows L2 Sky
/-- the facts of the top, put together -/
def mkTx {K : PySem.W.Frag} {h : Heap} {mg : Str → Option Value} (X : K.In h) (G : h.Ns mainGlobals mg)
    {f_is_number f_is_window f_check_room f_check_makes f_check_windows f_most_kept f_short_at f_least_windows f_kept_at_beats f_first_short f_latest_beats f_windows_of f_law_mix f_law_next f_law_windows f_law_ahead f_law : Addr} {od_is_number an_is_number od_is_window an_is_window od_check_room an_check_room od_check_makes an_check_makes od_check_windows an_check_windows od_most_kept an_most_kept od_short_at an_short_at od_least_windows an_least_windows od_kept_at_beats an_kept_at_beats od_first_short an_first_short od_latest_beats an_latest_beats od_windows_of an_windows_of od_law_mix an_law_mix od_law_next an_law_next od_law_windows an_law_windows od_law_ahead an_law_ahead od_law an_law : Option Addr} {sl_is_number sl_is_window sl_check_room sl_check_makes sl_check_windows sl_most_kept sl_short_at sl_least_windows sl_kept_at_beats sl_first_short sl_latest_beats sl_windows_of sl_law_mix sl_law_next sl_law_windows sl_law_ahead sl_law : Array (Option Value)}
    {oc_is_number kV_is_number dc_is_number pm_is_number cd_is_number ct_is_number oc_is_window kV_is_window dc_is_window pm_is_window cd_is_window ct_is_window oc_check_room kV_check_room dc_check_room pm_check_room cd_check_room ct_check_room oc_check_makes kV_check_makes dc_check_makes pm_check_makes cd_check_makes ct_check_makes oc_check_windows kV_check_windows dc_check_windows pm_check_windows cd_check_windows ct_check_windows oc_most_kept kV_most_kept dc_most_kept pm_most_kept cd_most_kept ct_most_kept oc_short_at kV_short_at dc_short_at pm_short_at cd_short_at ct_short_at oc_least_windows kV_least_windows dc_least_windows pm_least_windows cd_least_windows ct_least_windows oc_kept_at_beats kV_kept_at_beats dc_kept_at_beats pm_kept_at_beats cd_kept_at_beats ct_kept_at_beats oc_first_short kV_first_short dc_first_short pm_first_short cd_first_short ct_first_short oc_latest_beats kV_latest_beats dc_latest_beats pm_latest_beats cd_latest_beats ct_latest_beats oc_windows_of kV_windows_of dc_windows_of pm_windows_of cd_windows_of ct_windows_of oc_law_mix kV_law_mix dc_law_mix pm_law_mix cd_law_mix ct_law_mix oc_law_next kV_law_next dc_law_next pm_law_next cd_law_next ct_law_next oc_law_windows kV_law_windows dc_law_windows pm_law_windows cd_law_windows ct_law_windows oc_law_ahead kV_law_ahead dc_law_ahead pm_law_ahead cd_law_ahead ct_law_ahead oc_law kV_law dc_law pm_law cd_law ct_law : Value} {t_MOST_ROOM t_MOST_BEATS t_MOST_MADE : Tok}
    (h_is_number : PySem.W.nsIn K mainGlobals "is_number" = some (some (.ref f_is_number)))
    (l_is_number : K.lookup f_is_number = some ⟨oc_is_number, od_is_number, .func (PySem.W.fnOf "is_number" "is_number" (defArgs s_is_number) (defBody s_is_number) (defScope s_is_number) .none kV_is_number dc_is_number pm_is_number an_is_number cd_is_number ct_is_number), sl_is_number⟩)
    (c_is_number : PySem.W.codeIn K cd_is_number "is_number" = true)
    (k_is_number : PySem.W.keepIn K (.ref f_is_number) = true)
    (h_is_window : PySem.W.nsIn K mainGlobals "is_window" = some (some (.ref f_is_window)))
    (l_is_window : K.lookup f_is_window = some ⟨oc_is_window, od_is_window, .func (PySem.W.fnOf "is_window" "is_window" (defArgs s_is_window) (defBody s_is_window) (defScope s_is_window) .none kV_is_window dc_is_window pm_is_window an_is_window cd_is_window ct_is_window), sl_is_window⟩)
    (c_is_window : PySem.W.codeIn K cd_is_window "is_window" = true)
    (k_is_window : PySem.W.keepIn K (.ref f_is_window) = true)
    (h_check_room : PySem.W.nsIn K mainGlobals "check_room" = some (some (.ref f_check_room)))
    (l_check_room : K.lookup f_check_room = some ⟨oc_check_room, od_check_room, .func (PySem.W.fnOf "check_room" "check_room" (defArgs s_check_room) (defBody s_check_room) (defScope s_check_room) .none kV_check_room dc_check_room pm_check_room an_check_room cd_check_room ct_check_room), sl_check_room⟩)
    (c_check_room : PySem.W.codeIn K cd_check_room "check_room" = true)
    (k_check_room : PySem.W.keepIn K (.ref f_check_room) = true)
    (h_check_makes : PySem.W.nsIn K mainGlobals "check_makes" = some (some (.ref f_check_makes)))
    (l_check_makes : K.lookup f_check_makes = some ⟨oc_check_makes, od_check_makes, .func (PySem.W.fnOf "check_makes" "check_makes" (defArgs s_check_makes) (defBody s_check_makes) (defScope s_check_makes) .none kV_check_makes dc_check_makes pm_check_makes an_check_makes cd_check_makes ct_check_makes), sl_check_makes⟩)
    (c_check_makes : PySem.W.codeIn K cd_check_makes "check_makes" = true)
    (k_check_makes : PySem.W.keepIn K (.ref f_check_makes) = true)
    (h_check_windows : PySem.W.nsIn K mainGlobals "check_windows" = some (some (.ref f_check_windows)))
    (l_check_windows : K.lookup f_check_windows = some ⟨oc_check_windows, od_check_windows, .func (PySem.W.fnOf "check_windows" "check_windows" (defArgs s_check_windows) (defBody s_check_windows) (defScope s_check_windows) .none kV_check_windows dc_check_windows pm_check_windows an_check_windows cd_check_windows ct_check_windows), sl_check_windows⟩)
    (c_check_windows : PySem.W.codeIn K cd_check_windows "check_windows" = true)
    (k_check_windows : PySem.W.keepIn K (.ref f_check_windows) = true)
    (h_most_kept : PySem.W.nsIn K mainGlobals "most_kept" = some (some (.ref f_most_kept)))
    (l_most_kept : K.lookup f_most_kept = some ⟨oc_most_kept, od_most_kept, .func (PySem.W.fnOf "most_kept" "most_kept" (defArgs s_most_kept) (defBody s_most_kept) (defScope s_most_kept) .none kV_most_kept dc_most_kept pm_most_kept an_most_kept cd_most_kept ct_most_kept), sl_most_kept⟩)
    (c_most_kept : PySem.W.codeIn K cd_most_kept "most_kept" = true)
    (k_most_kept : PySem.W.keepIn K (.ref f_most_kept) = true)
    (h_short_at : PySem.W.nsIn K mainGlobals "short_at" = some (some (.ref f_short_at)))
    (l_short_at : K.lookup f_short_at = some ⟨oc_short_at, od_short_at, .func (PySem.W.fnOf "short_at" "short_at" (defArgs s_short_at) (defBody s_short_at) (defScope s_short_at) .none kV_short_at dc_short_at pm_short_at an_short_at cd_short_at ct_short_at), sl_short_at⟩)
    (c_short_at : PySem.W.codeIn K cd_short_at "short_at" = true)
    (k_short_at : PySem.W.keepIn K (.ref f_short_at) = true)
    (h_least_windows : PySem.W.nsIn K mainGlobals "least_windows" = some (some (.ref f_least_windows)))
    (l_least_windows : K.lookup f_least_windows = some ⟨oc_least_windows, od_least_windows, .func (PySem.W.fnOf "least_windows" "least_windows" (defArgs s_least_windows) (defBody s_least_windows) (defScope s_least_windows) .none kV_least_windows dc_least_windows pm_least_windows an_least_windows cd_least_windows ct_least_windows), sl_least_windows⟩)
    (c_least_windows : PySem.W.codeIn K cd_least_windows "least_windows" = true)
    (k_least_windows : PySem.W.keepIn K (.ref f_least_windows) = true)
    (h_kept_at_beats : PySem.W.nsIn K mainGlobals "_kept_at_beats" = some (some (.ref f_kept_at_beats)))
    (l_kept_at_beats : K.lookup f_kept_at_beats = some ⟨oc_kept_at_beats, od_kept_at_beats, .func (PySem.W.fnOf "_kept_at_beats" "_kept_at_beats" (defArgs s_kept_at_beats) (defBody s_kept_at_beats) (defScope s_kept_at_beats) .none kV_kept_at_beats dc_kept_at_beats pm_kept_at_beats an_kept_at_beats cd_kept_at_beats ct_kept_at_beats), sl_kept_at_beats⟩)
    (c_kept_at_beats : PySem.W.codeIn K cd_kept_at_beats "_kept_at_beats" = true)
    (k_kept_at_beats : PySem.W.keepIn K (.ref f_kept_at_beats) = true)
    (h_first_short : PySem.W.nsIn K mainGlobals "_first_short" = some (some (.ref f_first_short)))
    (l_first_short : K.lookup f_first_short = some ⟨oc_first_short, od_first_short, .func (PySem.W.fnOf "_first_short" "_first_short" (defArgs s_first_short) (defBody s_first_short) (defScope s_first_short) .none kV_first_short dc_first_short pm_first_short an_first_short cd_first_short ct_first_short), sl_first_short⟩)
    (c_first_short : PySem.W.codeIn K cd_first_short "_first_short" = true)
    (k_first_short : PySem.W.keepIn K (.ref f_first_short) = true)
    (h_latest_beats : PySem.W.nsIn K mainGlobals "_latest_beats" = some (some (.ref f_latest_beats)))
    (l_latest_beats : K.lookup f_latest_beats = some ⟨oc_latest_beats, od_latest_beats, .func (PySem.W.fnOf "_latest_beats" "_latest_beats" (defArgs s_latest_beats) (defBody s_latest_beats) (defScope s_latest_beats) .none kV_latest_beats dc_latest_beats pm_latest_beats an_latest_beats cd_latest_beats ct_latest_beats), sl_latest_beats⟩)
    (c_latest_beats : PySem.W.codeIn K cd_latest_beats "_latest_beats" = true)
    (k_latest_beats : PySem.W.keepIn K (.ref f_latest_beats) = true)
    (h_windows_of : PySem.W.nsIn K mainGlobals "_windows_of" = some (some (.ref f_windows_of)))
    (l_windows_of : K.lookup f_windows_of = some ⟨oc_windows_of, od_windows_of, .func (PySem.W.fnOf "_windows_of" "_windows_of" (defArgs s_windows_of) (defBody s_windows_of) (defScope s_windows_of) .none kV_windows_of dc_windows_of pm_windows_of an_windows_of cd_windows_of ct_windows_of), sl_windows_of⟩)
    (c_windows_of : PySem.W.codeIn K cd_windows_of "_windows_of" = true)
    (k_windows_of : PySem.W.keepIn K (.ref f_windows_of) = true)
    (h_law_mix : PySem.W.nsIn K mainGlobals "_law_mix" = some (some (.ref f_law_mix)))
    (l_law_mix : K.lookup f_law_mix = some ⟨oc_law_mix, od_law_mix, .func (PySem.W.fnOf "_law_mix" "_law_mix" (defArgs s_law_mix) (defBody s_law_mix) (defScope s_law_mix) .none kV_law_mix dc_law_mix pm_law_mix an_law_mix cd_law_mix ct_law_mix), sl_law_mix⟩)
    (c_law_mix : PySem.W.codeIn K cd_law_mix "_law_mix" = true)
    (k_law_mix : PySem.W.keepIn K (.ref f_law_mix) = true)
    (h_law_next : PySem.W.nsIn K mainGlobals "_law_next" = some (some (.ref f_law_next)))
    (l_law_next : K.lookup f_law_next = some ⟨oc_law_next, od_law_next, .func (PySem.W.fnOf "_law_next" "_law_next" (defArgs s_law_next) (defBody s_law_next) (defScope s_law_next) .none kV_law_next dc_law_next pm_law_next an_law_next cd_law_next ct_law_next), sl_law_next⟩)
    (c_law_next : PySem.W.codeIn K cd_law_next "_law_next" = true)
    (k_law_next : PySem.W.keepIn K (.ref f_law_next) = true)
    (h_law_windows : PySem.W.nsIn K mainGlobals "_law_windows" = some (some (.ref f_law_windows)))
    (l_law_windows : K.lookup f_law_windows = some ⟨oc_law_windows, od_law_windows, .func (PySem.W.fnOf "_law_windows" "_law_windows" (defArgs s_law_windows) (defBody s_law_windows) (defScope s_law_windows) .none kV_law_windows dc_law_windows pm_law_windows an_law_windows cd_law_windows ct_law_windows), sl_law_windows⟩)
    (c_law_windows : PySem.W.codeIn K cd_law_windows "_law_windows" = true)
    (k_law_windows : PySem.W.keepIn K (.ref f_law_windows) = true)
    (h_law_ahead : PySem.W.nsIn K mainGlobals "_law_ahead" = some (some (.ref f_law_ahead)))
    (l_law_ahead : K.lookup f_law_ahead = some ⟨oc_law_ahead, od_law_ahead, .func (PySem.W.fnOf "_law_ahead" "_law_ahead" (defArgs s_law_ahead) (defBody s_law_ahead) (defScope s_law_ahead) .none kV_law_ahead dc_law_ahead pm_law_ahead an_law_ahead cd_law_ahead ct_law_ahead), sl_law_ahead⟩)
    (c_law_ahead : PySem.W.codeIn K cd_law_ahead "_law_ahead" = true)
    (k_law_ahead : PySem.W.keepIn K (.ref f_law_ahead) = true)
    (h_law : PySem.W.nsIn K mainGlobals "law" = some (some (.ref f_law)))
    (l_law : K.lookup f_law = some ⟨oc_law, od_law, .func (PySem.W.fnOf "law" "law" (defArgs s_law) (defBody s_law) (defScope s_law) .none kV_law dc_law pm_law an_law cd_law ct_law), sl_law⟩)
    (c_law : PySem.W.codeIn K cd_law "law" = true)
    (k_law : PySem.W.keepIn K (.ref f_law) = true)
    (z_all : PySem.W.nsIn K mainGlobals "all" = some none)
    (z_bool : PySem.W.nsIn K mainGlobals "bool" = some none)
    (z_enumerate : PySem.W.nsIn K mainGlobals "enumerate" = some none)
    (z_int : PySem.W.nsIn K mainGlobals "int" = some none)
    (z_isinstance : PySem.W.nsIn K mainGlobals "isinstance" = some none)
    (z_len : PySem.W.nsIn K mainGlobals "len" = some none)
    (z_list : PySem.W.nsIn K mainGlobals "list" = some none)
    (z_max : PySem.W.nsIn K mainGlobals "max" = some none)
    (z_min : PySem.W.nsIn K mainGlobals "min" = some none)
    (z_range : PySem.W.nsIn K mainGlobals "range" = some none)
    (z_reversed : PySem.W.nsIn K mainGlobals "reversed" = some none)
    (z_sorted : PySem.W.nsIn K mainGlobals "sorted" = some none)
    (z_sum : PySem.W.nsIn K mainGlobals "sum" = some none)
    (z_tuple : PySem.W.nsIn K mainGlobals "tuple" = some none)
    (c_MOST_ROOM : PySem.W.nsIn K mainGlobals "MOST_ROOM" = some (some (.int 60 t_MOST_ROOM)))
    (c_MOST_BEATS : PySem.W.nsIn K mainGlobals "MOST_BEATS" = some (some (.int 200 t_MOST_BEATS)))
    (c_MOST_MADE : PySem.W.nsIn K mainGlobals "MOST_MADE" = some (some (.int 6 t_MOST_MADE)))
    : Tx K mg where
  a_is_number := f_is_number
  d_is_number := PySem.W.fnOf "is_number" "is_number" (defArgs s_is_number) (defBody s_is_number) (defScope s_is_number) .none kV_is_number dc_is_number pm_is_number an_is_number cd_is_number ct_is_number
  F_is_number := fun_mk (st := s_is_number) l_is_number c_is_number k_is_number
  b_is_number := (fun_mk (st := s_is_number) l_is_number c_is_number k_is_number).binds (ps := ["value", "low", "high"]) fun _ _ _ _ _ _ us hl => match us, hl with | [_, _, _], _ => rfl
  m_is_number := PySem.W.mg_of X G h_is_number
  a_is_window := f_is_window
  d_is_window := PySem.W.fnOf "is_window" "is_window" (defArgs s_is_window) (defBody s_is_window) (defScope s_is_window) .none kV_is_window dc_is_window pm_is_window an_is_window cd_is_window ct_is_window
  F_is_window := fun_mk (st := s_is_window) l_is_window c_is_window k_is_window
  b_is_window := (fun_mk (st := s_is_window) l_is_window c_is_window k_is_window).binds (ps := ["value", "low", "high"]) fun _ _ _ _ _ _ us hl => match us, hl with | [_, _, _], _ => rfl
  m_is_window := PySem.W.mg_of X G h_is_window
  a_check_room := f_check_room
  d_check_room := PySem.W.fnOf "check_room" "check_room" (defArgs s_check_room) (defBody s_check_room) (defScope s_check_room) .none kV_check_room dc_check_room pm_check_room an_check_room cd_check_room ct_check_room
  F_check_room := fun_mk (st := s_check_room) l_check_room c_check_room k_check_room
  b_check_room := (fun_mk (st := s_check_room) l_check_room c_check_room k_check_room).binds (ps := ["room"]) fun _ _ _ _ _ _ us hl => match us, hl with | [_], _ => rfl
  m_check_room := PySem.W.mg_of X G h_check_room
  a_check_makes := f_check_makes
  d_check_makes := PySem.W.fnOf "check_makes" "check_makes" (defArgs s_check_makes) (defBody s_check_makes) (defScope s_check_makes) .none kV_check_makes dc_check_makes pm_check_makes an_check_makes cd_check_makes ct_check_makes
  F_check_makes := fun_mk (st := s_check_makes) l_check_makes c_check_makes k_check_makes
  b_check_makes := (fun_mk (st := s_check_makes) l_check_makes c_check_makes k_check_makes).binds (ps := ["makes"]) fun _ _ _ _ _ _ us hl => match us, hl with | [_], _ => rfl
  m_check_makes := PySem.W.mg_of X G h_check_makes
  a_check_windows := f_check_windows
  d_check_windows := PySem.W.fnOf "check_windows" "check_windows" (defArgs s_check_windows) (defBody s_check_windows) (defScope s_check_windows) .none kV_check_windows dc_check_windows pm_check_windows an_check_windows cd_check_windows ct_check_windows
  F_check_windows := fun_mk (st := s_check_windows) l_check_windows c_check_windows k_check_windows
  b_check_windows := (fun_mk (st := s_check_windows) l_check_windows c_check_windows k_check_windows).binds (ps := ["windows", "beats"]) fun _ _ _ _ _ _ us hl => match us, hl with | [_, _], _ => rfl
  m_check_windows := PySem.W.mg_of X G h_check_windows
  a_most_kept := f_most_kept
  d_most_kept := PySem.W.fnOf "most_kept" "most_kept" (defArgs s_most_kept) (defBody s_most_kept) (defScope s_most_kept) .none kV_most_kept dc_most_kept pm_most_kept an_most_kept cd_most_kept ct_most_kept
  F_most_kept := fun_mk (st := s_most_kept) l_most_kept c_most_kept k_most_kept
  b_most_kept := (fun_mk (st := s_most_kept) l_most_kept c_most_kept k_most_kept).binds (ps := ["makes", "windows"]) fun _ _ _ _ _ _ us hl => match us, hl with | [_, _], _ => rfl
  m_most_kept := PySem.W.mg_of X G h_most_kept
  a_short_at := f_short_at
  d_short_at := PySem.W.fnOf "short_at" "short_at" (defArgs s_short_at) (defBody s_short_at) (defScope s_short_at) .none kV_short_at dc_short_at pm_short_at an_short_at cd_short_at ct_short_at
  F_short_at := fun_mk (st := s_short_at) l_short_at c_short_at k_short_at
  b_short_at := (fun_mk (st := s_short_at) l_short_at c_short_at k_short_at).binds (ps := ["makes", "windows", "room"]) fun _ _ _ _ _ _ us hl => match us, hl with | [_, _, _], _ => rfl
  m_short_at := PySem.W.mg_of X G h_short_at
  a_least_windows := f_least_windows
  d_least_windows := PySem.W.fnOf "least_windows" "least_windows" (defArgs s_least_windows) (defBody s_least_windows) (defScope s_least_windows) .none kV_least_windows dc_least_windows pm_least_windows an_least_windows cd_least_windows ct_least_windows
  F_least_windows := fun_mk (st := s_least_windows) l_least_windows c_least_windows k_least_windows
  b_least_windows := (fun_mk (st := s_least_windows) l_least_windows c_least_windows k_least_windows).binds (ps := ["makes", "room"]) fun _ _ _ _ _ _ us hl => match us, hl with | [_, _], _ => rfl
  m_least_windows := PySem.W.mg_of X G h_least_windows
  a_kept_at_beats := f_kept_at_beats
  d_kept_at_beats := PySem.W.fnOf "_kept_at_beats" "_kept_at_beats" (defArgs s_kept_at_beats) (defBody s_kept_at_beats) (defScope s_kept_at_beats) .none kV_kept_at_beats dc_kept_at_beats pm_kept_at_beats an_kept_at_beats cd_kept_at_beats ct_kept_at_beats
  F_kept_at_beats := fun_mk (st := s_kept_at_beats) l_kept_at_beats c_kept_at_beats k_kept_at_beats
  b_kept_at_beats := (fun_mk (st := s_kept_at_beats) l_kept_at_beats c_kept_at_beats k_kept_at_beats).binds (ps := ["makes", "windows"]) fun _ _ _ _ _ _ us hl => match us, hl with | [_, _], _ => rfl
  m_kept_at_beats := PySem.W.mg_of X G h_kept_at_beats
  a_first_short := f_first_short
  d_first_short := PySem.W.fnOf "_first_short" "_first_short" (defArgs s_first_short) (defBody s_first_short) (defScope s_first_short) .none kV_first_short dc_first_short pm_first_short an_first_short cd_first_short ct_first_short
  F_first_short := fun_mk (st := s_first_short) l_first_short c_first_short k_first_short
  b_first_short := (fun_mk (st := s_first_short) l_first_short c_first_short k_first_short).binds (ps := ["makes", "windows", "room"]) fun _ _ _ _ _ _ us hl => match us, hl with | [_, _, _], _ => rfl
  m_first_short := PySem.W.mg_of X G h_first_short
  a_latest_beats := f_latest_beats
  d_latest_beats := PySem.W.fnOf "_latest_beats" "_latest_beats" (defArgs s_latest_beats) (defBody s_latest_beats) (defScope s_latest_beats) .none kV_latest_beats dc_latest_beats pm_latest_beats an_latest_beats cd_latest_beats ct_latest_beats
  F_latest_beats := fun_mk (st := s_latest_beats) l_latest_beats c_latest_beats k_latest_beats
  b_latest_beats := (fun_mk (st := s_latest_beats) l_latest_beats c_latest_beats k_latest_beats).binds (ps := ["makes", "room"]) fun _ _ _ _ _ _ us hl => match us, hl with | [_, _], _ => rfl
  m_latest_beats := PySem.W.mg_of X G h_latest_beats
  a_windows_of := f_windows_of
  d_windows_of := PySem.W.fnOf "_windows_of" "_windows_of" (defArgs s_windows_of) (defBody s_windows_of) (defScope s_windows_of) .none kV_windows_of dc_windows_of pm_windows_of an_windows_of cd_windows_of ct_windows_of
  F_windows_of := fun_mk (st := s_windows_of) l_windows_of c_windows_of k_windows_of
  b_windows_of := (fun_mk (st := s_windows_of) l_windows_of c_windows_of k_windows_of).binds (ps := ["beats"]) fun _ _ _ _ _ _ us hl => match us, hl with | [_], _ => rfl
  m_windows_of := PySem.W.mg_of X G h_windows_of
  a_law_mix := f_law_mix
  d_law_mix := PySem.W.fnOf "_law_mix" "_law_mix" (defArgs s_law_mix) (defBody s_law_mix) (defScope s_law_mix) .none kV_law_mix dc_law_mix pm_law_mix an_law_mix cd_law_mix ct_law_mix
  F_law_mix := fun_mk (st := s_law_mix) l_law_mix c_law_mix k_law_mix
  b_law_mix := (fun_mk (st := s_law_mix) l_law_mix c_law_mix k_law_mix).binds (ps := ["_law_script", "_law_seed"]) fun _ _ _ _ _ _ us hl => match us, hl with | [_, _], _ => rfl
  m_law_mix := PySem.W.mg_of X G h_law_mix
  a_law_next := f_law_next
  d_law_next := PySem.W.fnOf "_law_next" "_law_next" (defArgs s_law_next) (defBody s_law_next) (defScope s_law_next) .none kV_law_next dc_law_next pm_law_next an_law_next cd_law_next ct_law_next
  F_law_next := fun_mk (st := s_law_next) l_law_next c_law_next k_law_next
  b_law_next := (fun_mk (st := s_law_next) l_law_next c_law_next k_law_next).binds (ps := ["_law_h", "_law_many"]) fun _ _ _ _ _ _ us hl => match us, hl with | [_, _], _ => rfl
  m_law_next := PySem.W.mg_of X G h_law_next
  a_law_windows := f_law_windows
  d_law_windows := PySem.W.fnOf "_law_windows" "_law_windows" (defArgs s_law_windows) (defBody s_law_windows) (defScope s_law_windows) .none kV_law_windows dc_law_windows pm_law_windows an_law_windows cd_law_windows ct_law_windows
  F_law_windows := fun_mk (st := s_law_windows) l_law_windows c_law_windows k_law_windows
  b_law_windows := (fun_mk (st := s_law_windows) l_law_windows c_law_windows k_law_windows).binds (ps := ["_law_h", "_law_many"]) fun _ _ _ _ _ _ us hl => match us, hl with | [_, _], _ => rfl
  m_law_windows := PySem.W.mg_of X G h_law_windows
  a_law_ahead := f_law_ahead
  d_law_ahead := PySem.W.fnOf "_law_ahead" "_law_ahead" (defArgs s_law_ahead) (defBody s_law_ahead) (defScope s_law_ahead) .none kV_law_ahead dc_law_ahead pm_law_ahead an_law_ahead cd_law_ahead ct_law_ahead
  F_law_ahead := fun_mk (st := s_law_ahead) l_law_ahead c_law_ahead k_law_ahead
  b_law_ahead := (fun_mk (st := s_law_ahead) l_law_ahead c_law_ahead k_law_ahead).binds (ps := ["_law_windows_here", "_law_beat"]) fun _ _ _ _ _ _ us hl => match us, hl with | [_, _], _ => rfl
  m_law_ahead := PySem.W.mg_of X G h_law_ahead
  a_law := f_law
  d_law := PySem.W.fnOf "law" "law" (defArgs s_law) (defBody s_law) (defScope s_law) .none kV_law dc_law pm_law an_law cd_law ct_law
  F_law := fun_mk (st := s_law) l_law c_law k_law
  b_law := (fun_mk (st := s_law) l_law c_law k_law).binds (ps := ["_law_script"]) fun _ _ _ _ _ _ us hl => match us, hl with | [_], _ => rfl
  m_law := PySem.W.mg_of X G h_law
  z_all := PySem.W.mg_none_of X G z_all
  z_bool := PySem.W.mg_none_of X G z_bool
  z_enumerate := PySem.W.mg_none_of X G z_enumerate
  z_int := PySem.W.mg_none_of X G z_int
  z_isinstance := PySem.W.mg_none_of X G z_isinstance
  z_len := PySem.W.mg_none_of X G z_len
  z_list := PySem.W.mg_none_of X G z_list
  z_max := PySem.W.mg_none_of X G z_max
  z_min := PySem.W.mg_none_of X G z_min
  z_range := PySem.W.mg_none_of X G z_range
  z_reversed := PySem.W.mg_none_of X G z_reversed
  z_sorted := PySem.W.mg_none_of X G z_sorted
  z_sum := PySem.W.mg_none_of X G z_sum
  z_tuple := PySem.W.mg_none_of X G z_tuple
  t_MOST_ROOM := t_MOST_ROOM
  c_MOST_ROOM := PySem.W.mg_of X G c_MOST_ROOM
  t_MOST_BEATS := t_MOST_BEATS
  c_MOST_BEATS := PySem.W.mg_of X G c_MOST_BEATS
  t_MOST_MADE := t_MOST_MADE
  c_MOST_MADE := PySem.W.mg_of X G c_MOST_MADE
theorem all_mk {l : PySem.W.OpenLaw} {w : World} {K : PySem.W.Frag} {h : Heap} {mg : Str → Option Value} {fa : Addr} (X : K.In h) (G : h.Ns mainGlobals mg) (hfa : mg "law" = some (.ref fa)) (T : Tx K mg) :
    ∃ fd : FuncData, (∀ (s : Shared) (v : Value), BindsTo s fd ⟨[v], []⟩ [("_law_script", v)]) ∧ ∀ base : Heap, K.In base → base.Ns mainGlobals mg → FnOk l.prog w K mg base CX0 5 fa fd ["_law_script"] (sp_law K) := by
  have e := hfa.symm.trans T.m_law
  cases e
  obtain ⟨oc, od, kV, doc, pm, an, cdv, ct, osl, efd, lk, hcd⟩ := T.F_law.ex
  exact ⟨T.d_law, fun s v => by rw [efd]; exact .of_eq rfl, fun base _ _ => ok_law T⟩
end K22
open PySem PySem.W PyProof.Rows in
set_option maxRecDepth 100000 in
set_option maxHeartbeats 0 in
theorem PySem.Challenge.cw_skyframes_k22_whole_room_enough_holds : PySem.Challenge.rw_skyframes_k22_whole_room_enough.Holds := by
  w_on; o_law; k_head; (case hw => w_witness2)
  k_fill
  refine L2.walk_of (l := PySem.Challenge.rw_skyframes_k22_whole_room_enough) (n := 63) (k := 5) (x := "_law_script") (CX := fun _ => L2.CX0) (sp := fun w => K22.sp_law _) rfl (by decide) rfl ⟨rfl, by decide, by decide⟩ (fun w h Y => PySem.W.kIn_of Y) ?F (fun _ _ a ns hl _ hS => ⟨a, ns, rfl, hS, hl, fun _ => rfl⟩) (fun _ _ _ _ _ h => h)
  case F =>
    intro w mg fa h KX G hmg
    refine' K22.all_mk KX G hmg (K22.mkTx KX G ?h_is_number ?l_is_number ?c_is_number ?k_is_number ?h_is_window ?l_is_window ?c_is_window ?k_is_window ?h_check_room ?l_check_room ?c_check_room ?k_check_room ?h_check_makes ?l_check_makes ?c_check_makes ?k_check_makes ?h_check_windows ?l_check_windows ?c_check_windows ?k_check_windows ?h_most_kept ?l_most_kept ?c_most_kept ?k_most_kept ?h_short_at ?l_short_at ?c_short_at ?k_short_at ?h_least_windows ?l_least_windows ?c_least_windows ?k_least_windows ?h_kept_at_beats ?l_kept_at_beats ?c_kept_at_beats ?k_kept_at_beats ?h_first_short ?l_first_short ?c_first_short ?k_first_short ?h_latest_beats ?l_latest_beats ?c_latest_beats ?k_latest_beats ?h_windows_of ?l_windows_of ?c_windows_of ?k_windows_of ?h_law_mix ?l_law_mix ?c_law_mix ?k_law_mix ?h_law_next ?l_law_next ?c_law_next ?k_law_next ?h_law_windows ?l_law_windows ?c_law_windows ?k_law_windows ?h_law_ahead ?l_law_ahead ?c_law_ahead ?k_law_ahead ?h_law ?l_law ?c_law ?k_law ?z_all ?z_bool ?z_enumerate ?z_int ?z_isinstance ?z_len ?z_list ?z_max ?z_min ?z_range ?z_reversed ?z_sorted ?z_sum ?z_tuple ?c_MOST_ROOM ?c_MOST_BEATS ?c_MOST_MADE)
    (case h_is_number => k_is)
    (case l_is_number => k_is)
    (case c_is_number => k_is)
    (case k_is_number => k_is)
    (case h_is_window => k_is)
    (case l_is_window => k_is)
    (case c_is_window => k_is)
    (case k_is_window => k_is)
    (case h_check_room => k_is)
    (case l_check_room => k_is)
    (case c_check_room => k_is)
    (case k_check_room => k_is)
    (case h_check_makes => k_is)
    (case l_check_makes => k_is)
    (case c_check_makes => k_is)
    (case k_check_makes => k_is)
    (case h_check_windows => k_is)
    (case l_check_windows => k_is)
    (case c_check_windows => k_is)
    (case k_check_windows => k_is)
    (case h_most_kept => k_is)
    (case l_most_kept => k_is)
    (case c_most_kept => k_is)
    (case k_most_kept => k_is)
    (case h_short_at => k_is)
    (case l_short_at => k_is)
    (case c_short_at => k_is)
    (case k_short_at => k_is)
    (case h_least_windows => k_is)
    (case l_least_windows => k_is)
    (case c_least_windows => k_is)
    (case k_least_windows => k_is)
    (case h_kept_at_beats => k_is)
    (case l_kept_at_beats => k_is)
    (case c_kept_at_beats => k_is)
    (case k_kept_at_beats => k_is)
    (case h_first_short => k_is)
    (case l_first_short => k_is)
    (case c_first_short => k_is)
    (case k_first_short => k_is)
    (case h_latest_beats => k_is)
    (case l_latest_beats => k_is)
    (case c_latest_beats => k_is)
    (case k_latest_beats => k_is)
    (case h_windows_of => k_is)
    (case l_windows_of => k_is)
    (case c_windows_of => k_is)
    (case k_windows_of => k_is)
    (case h_law_mix => k_is)
    (case l_law_mix => k_is)
    (case c_law_mix => k_is)
    (case k_law_mix => k_is)
    (case h_law_next => k_is)
    (case l_law_next => k_is)
    (case c_law_next => k_is)
    (case k_law_next => k_is)
    (case h_law_windows => k_is)
    (case l_law_windows => k_is)
    (case c_law_windows => k_is)
    (case k_law_windows => k_is)
    (case h_law_ahead => k_is)
    (case l_law_ahead => k_is)
    (case c_law_ahead => k_is)
    (case k_law_ahead => k_is)
    (case h_law => k_is)
    (case l_law => k_is)
    (case c_law => k_is)
    (case k_law => k_is)
    (case z_all => k_is)
    (case z_bool => k_is)
    (case z_enumerate => k_is)
    (case z_int => k_is)
    (case z_isinstance => k_is)
    (case z_len => k_is)
    (case z_list => k_is)
    (case z_max => k_is)
    (case z_min => k_is)
    (case z_range => k_is)
    (case z_reversed => k_is)
    (case z_sorted => k_is)
    (case z_sum => k_is)
    (case z_tuple => k_is)
    (case c_MOST_ROOM => k_is)
    (case c_MOST_BEATS => k_is)
    (case c_MOST_MADE => k_is)
