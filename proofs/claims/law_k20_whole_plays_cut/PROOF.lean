import PyProof.Rows.All
import Wide.All
import OpenK.AllK
import Wide.FinOn
import HandS.ForMost
import HandS.IsInst
import HandS.Conv
import HandS.Star
import HandS.Flow
import HandS.Style
import HandS.DictComp
import HandS.SortInts
import HandS.SetKeys
import HandS.Deep
import KE.DataMinMax
import HandS.SortKw
import HandS.SortRule
import KE.GoesEnum
import HandS.TupAny
import HandS.Rev
import KE.KTupSum
import HandS.DictTup
import HandS.TupLen
import HandS.Walk
import PyProof.DictMoreH
import HandS.TupMul
import PyProof.Rows.MatchSeqLen
import HandS.Small
import HandS.Exc
import HandS.WordsExc
import HandS.ExcOwn
import HandS.TryOnly
import HandS.ExcIs
import PyProof.RulesMatch
import HandS.Text
import HandS.StrMore
import HandS.RaiseMore
import KE.KUnpackStar
import PySem.Challenge.RW_skyframes_k20_whole_plays_cut
set_option Elab.async false
set_option linter.all false
set_option maxRecDepth 100000
set_option maxHeartbeats 4000000
/-! Heaps: tuples stay, what is not named stays; data made of tuples; fields by their places. -/
namespace Sky
open PySem PySem.Spec PyProof.Rows L2

/-- all but what stands at M is as it was -/
def Keep (M : List Addr) (H H' : Hp) : Prop := ∀ b o, b ∉ M → H b = some o → H' b = some o
/-- tuples stay -/
def TSm (H H' : Hp) : Prop := ∀ a xs, H a = some (.tup xs) → H' a = some (.tup xs)
theorem Keep.refl (M : List Addr) (H : Hp) : Keep M H H := fun _ _ _ h => h
theorem Keep.trans {M : List Addr} {H H1 H2 : Hp} (a : Keep M H H1) (b : Keep M H1 H2) : Keep M H H2 := fun c o n h => b c o n (a c o n h)
theorem Keep.of_same {M : List Addr} {H H' : Hp} (a : Same H H') : Keep M H H' := fun c o _ h => a c o h
theorem Keep.mono {M N : List Addr} {H H' : Hp} (a : Keep M H H') (h : ∀ m, m ∈ M → m ∈ N) : Keep N H H' := fun c o n q => a c o (fun z => n (h c z)) q
theorem Keep.same {M : List Addr} {S H H' : Hp} (k : Keep M H H') (s : Same S H) (h : ∀ m ∈ M, S m = none) : Same S H' := fun b o e => by
  refine k b o (fun hb => ?_) (s b o e)
  rw [h b hb] at e
  cases e
theorem Keep.nil {H H' : Hp} (k : Keep [] H H') : Same H H' := fun b o e => k b o (by simp) e
theorem keep_upd {M : List Addr} {H H' : Hp} {a : Addr} {o : HO} (k : Keep M H H') (h : a ∈ M) : Keep M H (upd H' a o) := fun b u n e => by
  rw [upd_ne (show b ≠ a from fun z => n (by rw [z]; exact h))]
  exact k b u n e
theorem keep_new {M : List Addr} {H H' : Hp} {a : Addr} {o : HO} (k : Keep M H H') (h : H a = none) : Keep M H (upd H' a o) := fun b u n e => by
  rw [upd_ne (ne_of_none e h)]
  exact k b u n e
/-- a new object, fresh in the heap just ahead of it -/
theorem keep_new' {M : List Addr} {H H' : Hp} {a : Addr} {o : HO} (k : Keep M H H') (h : H' a = none) : Keep M H (upd H' a o) := fun b u n e => by
  rw [upd_ne (ne_of_none (k b u n e) h)]
  exact k b u n e
/-- a changed object that was fresh at the start -/
theorem keep_mut {M : List Addr} {H H' : Hp} {a : Addr} {o : HO} (k : Keep M H H') (h : H a = none) : Keep M H (upd H' a o) := keep_new k h
theorem same_new {H H' : Hp} {a : Addr} {o : HO} (k : Same H H') (h : H' a = none) : Same H (upd H' a o) := fun b u e => by
  rw [upd_ne (ne_of_none (k b u e) h)]
  exact k b u e
theorem same_mut {H H' : Hp} {a : Addr} {o : HO} (k : Same H H') (h : H a = none) : Same H (upd H' a o) := fun b u e => by
  rw [upd_ne (ne_of_none e h)]
  exact k b u e
theorem TSm.refl (H : Hp) : TSm H H := fun _ _ h => h
theorem TSm.trans {H H1 H2 : Hp} (a : TSm H H1) (b : TSm H1 H2) : TSm H H2 := fun c o h => b c o (a c o h)
theorem TSm.of_same {H H' : Hp} (a : Same H H') : TSm H H' := fun c o h => a c _ h
/-- no tuple -/
def NoT (H : Hp) (a : Addr) : Prop := ∀ xs, H a ≠ some (.tup xs)
theorem NoT.none {H : Hp} {a : Addr} (h : H a = none) : NoT H a := fun xs e => by
  rw [h] at e
  cases e
theorem NoT.lst {H : Hp} {a : Addr} {xs : List V} (h : H a = some (.lst xs)) : NoT H a := fun ys e => by
  rw [h] at e
  cases e
theorem NoT.dK {H : Hp} {a : Addr} {xs : List (Key × V)} (h : H a = some (.dK xs)) : NoT H a := fun ys e => by
  rw [h] at e
  cases e
theorem NoT.dT {H : Hp} {a : Addr} {xs : List (List Key × V)} (h : H a = some (.dT xs)) : NoT H a := fun ys e => by
  rw [h] at e
  cases e
theorem NoT.ins {H : Hp} {a C dx : Addr} {fs : List (Str × V)} (h : H a = some (.ins C dx fs)) : NoT H a := fun ys e => by
  rw [h] at e
  cases e
theorem ts_upd {H H' : Hp} {a : Addr} {o : HO} (k : TSm H H') (h : NoT H' a) : TSm H (upd H' a o) := fun b u e => by
  have q := k b u e
  rw [upd_ne (show b ≠ a from fun z => h u (by rw [← z]; exact q))]
  exact q
theorem Keep.ts {M : List Addr} {H H' : Hp} (k : Keep M H H') (h : ∀ m ∈ M, NoT H m) : TSm H H' := fun a xs e => k a _ (fun z => h a z xs e) e
/-- an address that is there is not a new one -/
theorem ne_new {H : Hp} {a b : Addr} {o : HO} (h : H a = some o) (h' : H b = none) : a ≠ b := ne_of_none h h'

/-! ### data made of tuples -/
mutual
inductive TD (H : Hp) : V → PyData → Prop
  | non : TD H .non .none
  | bl (b : Bool) : TD H (.bl b) (.bool b)
  | int (i : Int) : TD H (.int i) (.int i)
  | str (x : Str) : TD H (.str x) (.str x)
  | tup {a : Addr} {xs : List V} {ds : List PyData} : H a = some (.tup xs) → TDs H xs ds → TD H (.ref a) (.tuple ds)
inductive TDs (H : Hp) : List V → List PyData → Prop
  | nil : TDs H [] []
  | cons {v : V} {vs : List V} {d : PyData} {ds : List PyData} : TD H v d → TDs H vs ds → TDs H (v :: vs) (d :: ds)
end
mutual
theorem TD.mono {H H' : Hp} (k : TSm H H') : ∀ {d : PyData} {v : V}, TD H v d → TD H' v d
  | _, _, .non => .non
  | _, _, .bl b => .bl b
  | _, _, .int i => .int i
  | _, _, .str x => .str x
  | _, _, .tup h t => .tup (k _ _ h) (TDs.mono k t)
theorem TDs.mono {H H' : Hp} (k : TSm H H') : ∀ {ds : List PyData} {vs : List V}, TDs H vs ds → TDs H' vs ds
  | _, _, .nil => .nil
  | _, _, .cons h t => .cons (TD.mono k h) (TDs.mono k t)
end
mutual
theorem TD.dp {K : PySem.W.Frag} {H : Hp} : ∀ {d : PyData} {v : V}, TD H v d → Dp K H v d
  | _, _, .non => .non
  | _, _, .bl b => .bl b
  | _, _, .int i => .int i
  | _, _, .str x => .str x
  | _, _, .tup h t => .tup (SqT.of h) (TDs.dp t)
theorem TDs.dp {K : PySem.W.Frag} {H : Hp} : ∀ {ds : List PyData} {vs : List V}, TDs H vs ds → DpAll K H vs ds
  | _, _, .nil => .nil
  | _, _, .cons h t => .cons (TD.dp h) (TDs.dp t)
end
theorem TDs.length {H : Hp} : ∀ {vs : List V} {ds : List PyData}, TDs H vs ds → vs.length = ds.length
  | _, _, .nil => rfl
  | _, _, .cons _ t => by simp [TDs.length t]
theorem TDs.app {H : Hp} : ∀ {vs us : List V} {ds es : List PyData}, TDs H vs ds → TDs H us es → TDs H (vs ++ us) (ds ++ es)
  | _, _, _, _, .nil, s => s
  | _, _, _, _, .cons h t, s => .cons h (TDs.app t s)
theorem TDs.get {H : Hp} : ∀ {vs : List V} {ds : List PyData} {i : Nat} {v : V}, TDs H vs ds → vs[i]? = some v → ∃ d, ds[i]? = some d ∧ TD H v d
  | _, _, _, _, .nil, e => by simp at e
  | _, _, 0, _, .cons h _, e => by simp at e; subst e; exact ⟨_, rfl, h⟩
  | _, _, i + 1, _, .cons _ t, e => by
    obtain ⟨d, h1, h2⟩ := TDs.get (i := i) t (by simpa using e)
    exact ⟨d, by simpa using h1, h2⟩
theorem TDs.getD {H : Hp} : ∀ {vs : List V} {ds : List PyData} {i : Nat} {d : PyData}, TDs H vs ds → ds[i]? = some d → ∃ v, vs[i]? = some v ∧ TD H v d
  | _, _, _, _, .nil, e => by simp at e
  | _, _, 0, _, .cons h _, e => by simp at e; subst e; exact ⟨_, rfl, h⟩
  | _, _, i + 1, _, .cons _ t, e => by
    obtain ⟨d, h1, h2⟩ := TDs.getD (i := i) t (by simpa using e)
    exact ⟨d, by simpa using h1, h2⟩
theorem TDs.ints {H : Hp} : ∀ (ns : List Int), TDs H (ns.map V.int) (ns.map PyData.int)
  | [] => .nil
  | n :: r => .cons (.int n) (TDs.ints r)
theorem TDs.one {H : Hp} {v : V} {d : PyData} (h : TD H v d) : TDs H [v] [d] := .cons h .nil
theorem TDs.of_ints {H : Hp} : ∀ {ns : List Int} {vs : List V}, TDs H vs (ns.map PyData.int) → vs = ns.map V.int
  | [], _, .nil => rfl
  | n :: r, _, .cons h t => by
    cases h
    rw [TDs.of_ints t]
    rfl
/-- an int's | None's data -/
def optD : Option Nat → PyData
  | none => .none
  | some n => .int n
def optV : Option Nat → V
  | none => .non
  | some n => .int n
theorem TD.opt {H : Hp} : ∀ o : Option Nat, TD H (optV o) (optD o)
  | none => .non
  | some n => .int n
/-- a telling's data -/
abbrev tlD (t : List Int) : PyData := .tuple (t.map PyData.int)
theorem TD.tl {H : Hp} {a : Addr} {t : List Int} (h : H a = some (.tup (t.map V.int))) : TD H (.ref a) (tlD t) := .tup h (TDs.ints t)
theorem TD.of_tl {H : Hp} {v : V} {t : List Int} (h : TD H v (tlD t)) : ∃ a, v = .ref a ∧ H a = some (.tup (t.map V.int)) := by
  cases h with
  | tup h t =>
    have e := TDs.of_ints t
    subst e
    exact ⟨_, rfl, h⟩

mutual
theorem dp_same {K : PySem.W.Frag} {H H' : Hp} (k : Same H H') : ∀ {d : PyData} {v : V}, Dp K H v d → Dp K H' v d
  | _, _, .non => .non
  | _, _, .bl b => .bl b
  | _, _, .int i => .int i
  | _, _, .str x => .str x
  | _, _, .lst h t => .lst (k.seq h) (dps_same k t)
  | _, _, .tup h t => .tup (by
      rcases h with (h | ⟨o, h⟩) | h
      · exact .inl (.inl (k _ _ h))
      · exact .inl (.inr ⟨o, k _ _ h⟩)
      · exact .inr h) (dps_same k t)
theorem dps_same {K : PySem.W.Frag} {H H' : Hp} (k : Same H H') : ∀ {ds : List PyData} {vs : List V}, DpAll K H vs ds → DpAll K H' vs ds
  | _, _, .nil => .nil
  | _, _, .cons h t => .cons (dp_same k h) (dps_same k t)
end
theorem DpAll.len {K : PySem.W.Frag} {H : Hp} : ∀ {vs : List V} {ds : List PyData}, DpAll K H vs ds → vs.length = ds.length
  | _, _, .nil => rfl
  | _, _, .cons _ t => by simp [DpAll.len t]
theorem DpAll.at {K : PySem.W.Frag} {H : Hp} : ∀ {vs : List V} {ds : List PyData} {i : Nat} {d : PyData}, DpAll K H vs ds → ds[i]? = some d → ∃ v, vs[i]? = some v ∧ Dp K H v d
  | _, _, _, _, .nil, e => by simp at e
  | _, _, 0, _, .cons h _, e => by simp at e; subst e; exact ⟨_, rfl, h⟩
  | _, _, i + 1, _, .cons _ t, e => by
    obtain ⟨v, h1, h2⟩ := DpAll.at (i := i) t (by simpa using e)
    exact ⟨v, by simpa using h1, h2⟩
/-- a value's type by its data -/
def tyN : PyData → String
  | .none => "NoneType"
  | .bool _ => "bool"
  | .int _ => "int"
  | .str _ => "str"
  | .list _ => "list"
  | .tuple _ => "tuple"
  | .dict _ => "dict"
theorem dp_ty {K : PySem.W.Frag} {H : Hp} {v : V} {d : PyData} (h : Dp K H v d) : TyX K H v (.type (tyN d)) := by
  cases h with
  | non => exact .base .non
  | bl b => exact .base (.bl b)
  | int i => exact .base (.int i)
  | str x => exact .base (.str x)
  | lst h t =>
    rcases h with (h | ⟨o, h⟩) | ⟨o, its, n, hk, hc, _⟩
    · exact .base (.lst h)
    · exact .base (.frz h)
    · exact .kList hk hc
  | tup h t =>
    rcases h with (h | ⟨o, h⟩) | ⟨o, its, n, hk, hc, _⟩
    · exact .base (.tup h)
    · exact .fTuple h
    · exact .kTuple hk hc
/-- data of so many levels, no level too long -/
def DOk : Nat → PyData → Prop
  | 0, d => (d = .none ∨ (∃ i, d = .int i) ∨ (∃ b, d = .bool b) ∨ ∃ x, d = .str x)
  | n + 1, d => (d = .none ∨ (∃ i, d = .int i) ∨ (∃ b, d = .bool b) ∨ ∃ x, d = .str x) ∨ ∃ ds : List PyData, (d = .list ds ∨ d = .tuple ds) ∧ ds.length ≤ 10000000 ∧ ∀ e ∈ ds, DOk n e
theorem DOk.sc {n : Nat} {d : PyData} (h : d = .none ∨ (∃ i, d = .int i) ∨ (∃ b, d = .bool b) ∨ ∃ x, d = .str x) : DOk n d := by
  cases n with
  | zero => exact h
  | succ n => exact .inl h
theorem DOk.int {n : Nat} (i : Int) : DOk n (.int i) := .sc (.inr (.inl ⟨i, rfl⟩))
theorem DOk.none {n : Nat} : DOk n .none := .sc (.inl rfl)
theorem DOk.tuple {n : Nat} {ds : List PyData} (l : ds.length ≤ 10000000) (h : ∀ e ∈ ds, DOk n e) : DOk (n + 1) (.tuple ds) := .inr ⟨ds, .inr rfl, l, h⟩
theorem DOk.list {n : Nat} {ds : List PyData} (l : ds.length ≤ 10000000) (h : ∀ e ∈ ds, DOk n e) : DOk (n + 1) (.list ds) := .inr ⟨ds, .inl rfl, l, h⟩
theorem DOk.opt {n : Nat} (o : Option Nat) : DOk n (optD o) := by
  cases o with
  | none => exact DOk.none
  | some x => exact DOk.int _
theorem DOk.tl {n : Nat} {t : List Int} (l : t.length ≤ 10000000) : DOk (n + 1) (tlD t) := DOk.tuple (by rw [List.length_map]; exact l) fun e he => by
  obtain ⟨x, _, rfl⟩ := List.mem_map.mp he
  exact DOk.int x
theorem kit2F {K : PySem.W.Frag} {a b c : String} (h1 : kitB a b = some false) (h2 : kitB a c = some false) : PySem.W.kitAny K (.type a) [.type b, .type c] = some false :=
  kitAny_cons (kit_ty h1) (fun _ => kitAny_cons (kit_ty h2) (fun _ => kitAny_nil) (fun z => nomatch z)) (fun z => nomatch z)
theorem kit2T {K : PySem.W.Frag} {a b c : String} (h1 : kitB a b = some true) : PySem.W.kitAny K (.type a) [.type b, .type c] = some true :=
  kitAny_cons (kit_ty h1) (fun z => nomatch z) (fun _ => rfl)
theorem kit2T' {K : PySem.W.Frag} {a b c : String} (h1 : kitB a b = some false) (h2 : kitB a c = some true) : PySem.W.kitAny K (.type a) [.type b, .type c] = some true :=
  kitAny_cons (kit_ty h1) (fun _ => kitAny_cons (kit_ty h2) (fun z => nomatch z) (fun _ => rfl)) (fun _ => rfl)

/-! ### fields by their places -/
theorem lookup_zip : ∀ (ks : List Str) (vs : List V) (i : Nat) (f : Str), ks.Nodup → ks.length = vs.length → ks[i]? = some f → (ks.zip vs).lookup f = vs[i]?
  | [], _, _, _, _, _, h => by simp at h
  | k :: ks, [], _, _, _, h, _ => by simp at h
  | k :: ks, v :: vs, 0, f, _, _, h => by
    simp at h
    subst h
    simp [List.lookup]
  | k :: ks, v :: vs, i + 1, f, nd, l, h => by
    have nd' := List.nodup_cons.mp nd
    have hm : f ∈ ks := List.mem_of_getElem? (by simpa using h)
    have ne : (f == k) = false := by
      rw [beq_eq_false_iff_ne]
      intro e
      exact nd'.1 (e ▸ hm)
    show List.lookup f ((k, v) :: ks.zip vs) = _
    rw [List.lookup_cons, ne]
    simpa using lookup_zip ks vs i f nd'.2 (by simpa using l) (by simpa using h)
theorem lookup_zip_none : ∀ (ks : List Str) (vs : List V) (f : Str), f ∉ ks → (ks.zip vs).lookup f = none
  | [], _, _, _ => by simp
  | k :: ks, [], _, _ => by simp
  | k :: ks, v :: vs, f, h => by
    have ne : (f == k) = false := by
      rw [beq_eq_false_iff_ne]
      intro e
      exact h (e ▸ List.mem_cons_self ..)
    show List.lookup f ((k, v) :: ks.zip vs) = _
    rw [List.lookup_cons, ne]
    exact lookup_zip_none ks vs f fun z => h (List.mem_cons_of_mem _ z)
theorem putF_zip : ∀ (ks : List Str) (vs : List V) (i : Nat) (f : Str) (x : V), ks.Nodup → ks.length = vs.length → ks[i]? = some f → putF f x (ks.zip vs) = ks.zip (vs.set i x)
  | [], _, _, _, _, _, _, h => by simp at h
  | k :: ks, [], _, _, _, _, h, _ => by simp at h
  | k :: ks, v :: vs, 0, f, x, _, _, h => by
    simp at h
    subst h
    show (if k = k then (k, x) :: ks.zip vs else _) = _
    rw [if_pos rfl]
    rfl
  | k :: ks, v :: vs, i + 1, f, x, nd, l, h => by
    have nd' := List.nodup_cons.mp nd
    have hm : f ∈ ks := List.mem_of_getElem? (by simpa using h)
    have ne : ¬ k = f := fun e => nd'.1 (e ▸ hm)
    show (if k = f then (k, x) :: ks.zip vs else (k, v) :: putF f x (ks.zip vs)) = _
    rw [if_neg ne, putF_zip ks vs i f x nd'.2 (by simpa using l) (by simpa using h)]
    rfl
theorem putF_zip_new : ∀ (ks : List Str) (vs : List V) (f : Str) (x : V), ks.length = vs.length → f ∉ ks → putF f x (ks.zip vs) = (ks ++ [f]).zip (vs ++ [x])
  | [], [], f, x, _, _ => rfl
  | [], v :: vs, _, _, h, _ => by simp at h
  | k :: ks, [], _, _, h, _ => by simp at h
  | k :: ks, v :: vs, f, x, l, h => by
    have ne : ¬ k = f := fun e => h (e ▸ List.mem_cons_self ..)
    show (if k = f then (k, x) :: ks.zip vs else (k, v) :: putF f x (ks.zip vs)) = _
    rw [if_neg ne, putF_zip_new ks vs f x (by simpa using l) fun z => h (List.mem_cons_of_mem _ z)]
    rfl
theorem putF_take {ks : List Str} {vs : List V} {i : Nat} {f : Str} {x : V} (nd : ks.Nodup) (h : ks[i]? = some f) (l : vs.length = i) : putF f x ((ks.take i).zip vs) = (ks.take (i + 1)).zip (vs ++ [x]) := by
  have hi : i < ks.length := (List.getElem?_eq_some_iff.mp h).1
  rw [List.take_add_one, h]
  refine putF_zip_new (ks.take i) vs f x ?_ ?_
  · rw [List.length_take, l]
    omega
  · intro hm
    obtain ⟨j, hj, e⟩ := List.mem_take_iff_getElem.mp hm
    have h1 : ks[j]? = some f := by
      rw [List.getElem?_eq_getElem (by omega), e]
    have := nodup_ix nd h1 h
    omega
theorem Keep.join {M N : List Addr} {H0 Hb H : Hp} (a : Keep M H0 Hb) (b : Keep N Hb H) (h : ∀ n ∈ N, n ∈ M ∨ H0 n = none) : Keep M H0 H := fun c o n e => by
  refine b c o (fun hc => ?_) (a c o n e)
  rcases h c hc with q | q
  · exact n q
  · rw [q] at e
    cases e
theorem fresh_of {M : List Addr} {H H1 : Hp} {b : Addr} (k : Keep M H H1) (h : ∀ m ∈ M, ∃ o, H1 m = some o) (n : H1 b = none) : H b = none := by
  cases e : H b with
  | none => rfl
  | some o =>
    by_cases e1 : b ∈ M
    · obtain ⟨u, hu⟩ := h b e1
      rw [hu] at n
      cases n
    · rw [k _ _ e1 e] at n
      cases n
/-- what was there is there -/
def Dom (H H' : Hp) : Prop := ∀ b, H' b = none → H b = none
theorem Dom.refl (H : Hp) : Dom H H := fun _ h => h
theorem Dom.trans {H H1 H2 : Hp} (a : Dom H H1) (b : Dom H1 H2) : Dom H H2 := fun c h => a c (b c h)
theorem dom_upd (H : Hp) (a : Addr) (o : HO) : Dom H (upd H a o) := fun b h => by
  by_cases e : b = a
  · rw [e, upd_same] at h
    cases h
  · rw [upd_ne e] at h
    exact h
theorem Dom.upd {H H' : Hp} (k : Dom H H') (a : Addr) (o : HO) : Dom H (L2.upd H' a o) := k.trans (dom_upd _ _ _)
theorem Dom.of_keep {M : List Addr} {H H1 : Hp} (k : Keep M H H1) (h : ∀ m ∈ M, ∃ o, H1 m = some o) : Dom H H1 := fun _ n => fresh_of k h n
theorem Dom.of_same {H H1 : Hp} (k : Same H H1) : Dom H H1 := fun _ n => k.free n
/-- a plain if without an else, its rest once -/
theorem if_skip {c : Prop} [Decidable c] {t : L2.TS} {D : Ends} {σ : L2.St} {H : Hp} (Cd : Hp → Prop) (rest : ∀ H1, Cd H1 → D.nx σ H1) (h1 : c → (∀ H1, Cd H1 → D.nx σ H1) → t D σ H) (h2 : ¬ c → Cd H) :
    if c then t D σ H else tNext D σ H := by
  by_cases hc : c
  · rw [if_pos hc]
    exact h1 hc rest
  · rw [if_neg hc]
    exact rest H (h2 hc)
/-- a if c else b, its rest once -/
theorem ife_skip {c : Prop} [Decidable c] {ta tb : TE} {σ : L2.St} {H : Hp} {Q : VK} (R : V → Hp → Prop) (rest : ∀ v H1, R v H1 → Q v H1) (h1 : c → (∀ v H1, R v H1 → Q v H1) → ta σ H Q) (h2 : ¬ c → (∀ v H1, R v H1 → Q v H1) → tb σ H Q) :
    if c then ta σ H Q else tb σ H Q := by
  by_cases hc : c
  · rw [if_pos hc]
    exact h1 hc rest
  · rw [if_neg hc]
    exact h2 hc rest
theorem zip_len (ks : List Str) (vs : List V) : (ks.zip vs).length ≤ ks.length := by
  rw [List.length_zip]
  exact Nat.min_le_left _ _
theorem canLayAll_of {α : Type} {f : α → PyData} : ∀ {xs : List α}, (∀ x ∈ xs, (f x).canLay0 = true) → PyData.canLayAll0 (xs.map f) = true
  | [], _ => by simp [PyData.canLayAll0]
  | x :: r, h => by
    simp only [List.map_cons, PyData.canLayAll0, Bool.and_eq_true]
    exact ⟨h x (List.mem_cons_self ..), canLayAll_of fun y hy => h y (List.mem_cons_of_mem _ hy)⟩
theorem depthAll_of {α : Type} {f : α → PyData} {k : Nat} : ∀ {xs : List α}, (∀ x ∈ xs, (f x).depth ≤ k) → PyData.depthAll (xs.map f) ≤ k
  | [], _ => by simp [PyData.depthAll]
  | x :: r, h => by
    simp only [List.map_cons, PyData.depthAll]
    exact Nat.max_le.mpr ⟨h x (List.mem_cons_self ..), depthAll_of fun y hy => h y (List.mem_cons_of_mem _ hy)⟩
/-- data that can be compared: how deep -/
def Lay (k : Nat) (d : PyData) : Prop := d.canLay0 = true ∧ d.depth ≤ k
theorem Lay.shaped {k : Nat} {d : PyData} (h : Lay k d) (hk : k ≤ 64) : SeqAt.shaped d = true := by
  unfold SeqAt.shaped
  rw [Bool.and_eq_true]
  exact ⟨h.1, decide_eq_true (Nat.le_trans h.2 hk)⟩
theorem Lay.mono {j k : Nat} {d : PyData} (h : Lay j d) (hk : j ≤ k) : Lay k d := ⟨h.1, Nat.le_trans h.2 hk⟩
theorem Lay.int (i : Int) : Lay 0 (.int i) := ⟨by simp [PyData.canLay0], by simp [PyData.depth]⟩
theorem Lay.none : Lay 0 .none := ⟨by simp [PyData.canLay0], by simp [PyData.depth]⟩
theorem Lay.bool (b : Bool) : Lay 0 (.bool b) := ⟨by simp [PyData.canLay0], by simp [PyData.depth]⟩
theorem Lay.list {α : Type} {f : α → PyData} {k : Nat} {xs : List α} (h : ∀ x ∈ xs, Lay k (f x)) : Lay (k + 1) (.list (xs.map f)) := by
  refine ⟨?_, ?_⟩
  · rw [PyData.canLay0]
    exact canLayAll_of fun x hx => (h x hx).1
  · rw [PyData.depth]
    exact Nat.succ_le_succ (depthAll_of fun x hx => (h x hx).2)
theorem Lay.tuple {α : Type} {f : α → PyData} {k : Nat} {xs : List α} (h : ∀ x ∈ xs, Lay k (f x)) : Lay (k + 1) (.tuple (xs.map f)) := by
  refine ⟨?_, ?_⟩
  · rw [PyData.canLay0]
    exact canLayAll_of fun x hx => (h x hx).1
  · rw [PyData.depth]
    exact Nat.succ_le_succ (depthAll_of fun x hx => (h x hx).2)
theorem Lay.nil : Lay 1 (.list []) := Lay.list (f := PyData.int) (xs := []) (k := 0) (by simp)
theorem Lay.tl (t : List Int) : Lay 1 (tlD t) := Lay.tuple fun x _ => Lay.int x
theorem Lay.refl {k : Nat} {d : PyData} (h : Lay k d) : PyData.eqv d d = true := SeqAt.eqv_refl d h.1
theorem eqv_nil (ds : List PyData) : PyData.eqv (.list ds) (.list []) = ds.isEmpty := by
  cases ds with
  | nil => simp [PyData.eqv, PyData.eqvAll]
  | cons x r => simp [PyData.eqv, PyData.eqvAll]
theorem dpAll_ints {K : PySem.W.Frag} {H : Hp} (ns : List Int) : DpAll K H (ns.map V.int) (ns.map PyData.int) := (TDs.ints ns).dp
theorem fmod_nat (a b : Nat) : ((a : Nat) : Int).fmod ((b : Nat) : Int) = ((a % b : Nat) : Int) := by
  rw [Int.fmod_eq_emod_of_nonneg _ (by omega)]
  rfl
theorem fdiv_nat (a b : Nat) : ((a : Nat) : Int).fdiv ((b : Nat) : Int) = ((a / b : Nat) : Int) := by
  rw [Int.fdiv_eq_ediv_of_nonneg _ (by omega)]
  rfl
theorem cut_nat {xs : List V} {a b : Nat} (ha : a ≤ xs.length) (hb : b ≤ xs.length) : cutV xs (some ((a : Nat) : Int)) (some ((b : Nat) : Int)) = (xs.drop a).take (b - a) := by
  unfold cutV
  rw [HT.sIx_nat, HT.sIx_nat, Nat.min_eq_left ha, Nat.min_eq_left hb]
/-! ### rules within a comprehension: the written part is told -/
section
variable {X : Cx} {K : PySem.W.Frag}
theorem ix_listK (h : X.K = K) : IxR X (rIxL K) := h ▸ ix_list
theorem ix_tupK (h : X.K = K) : IxR X (rIxT K) := h ▸ ix_tup
theorem ix_seqK (h : X.K = K) : IxR X (rIx K) := h ▸ ix_seq
def rLenSq (K : PySem.W.Frag) : List V → Hp → VK → Prop := fun xs H Q => ∃ p ys, xs = [.ref p] ∧ (SqL K H p ys ∨ SqT K H p ys) ∧ Q (.int ys.length) H
theorem call_lenK (h : X.K = K) : CallR X (.builtin "len") (rLenSq K) := h ▸ call_len_seq
theorem op_eqDK (h : X.K = K) (hu : X.A.units + 64 < cLine) : OpR X (compareOp .Eq) (rEqD K) := h ▸ op_eqD hu
theorem op_neDK (h : X.K = K) (hu : X.A.units + 64 < cLine) : OpR X (compareOp .NotEq) (rNeD K) := h ▸ op_neD hu
theorem op_in_seqK (h : X.K = K) : OpR X (compareOp .In) (rIn K false) := h ▸ op_in_seq
theorem op_notIn_seqK (h : X.K = K) : OpR X (compareOp .NotIn) (rIn K true) := h ▸ op_notIn_seq
theorem sl_listK (h : X.K = K) : SlR X (rSlL K) := h ▸ sl_list
theorem sl_tupK (h : X.K = K) : SlR X (rSlT K) := h ▸ sl_tup
theorem call_isiK' (h : X.K = K) : CallR X (.builtin "isinstance") (rIsi K) := h ▸ call_isi
theorem pe_fldK {e : Expr} {f : Str} {pos : Pos} {ta : TE} (h : X.K = K) (he : PE X e ta) (hb : attributeBase e f X.env (eval e X.env) = eval e X.env) : PE X (.Attribute e f pos) (tFld K ta f) := h ▸ pe_fld he hb
theorem pe_bmK {o e : Expr} {es : List Expr} {to : TE} {t : TA} {name : Str} {apos cpos : Pos} {T id : String} {r : V → List V → Hp → VK → Prop} (hK : X.K = K)
    (pa : PlainAttrs T) (sl : Slot T name id) (ty : typeOf (.builtin id) = pure (.type "method_descriptor")) (m : MtR X id r) (po : PE X o to) (args : PA X (e :: es) t)
    (h1 : attributeBase o name X.env (eval o X.env) = eval o X.env := by rfl)
    (h2 : ((backTo cpos (starEach (e :: es) X.env)).all (fun x => !x.1) && (backToKw cpos (keywordEach [] X.env)).all (fun x => x.1.isSome) && decide ((e :: es).length + ([] : List Keyword).length + (if ([] : List Keyword).isEmpty then 0 else 1) < 30)) = true := by rfl)
    (h3 : (apos.endLine == cpos.line) = true := by rfl)
    (h4 : starEach (e :: es) X.env = (false, eval e X.env) :: starEach es X.env := by rfl)
    (h5 : (backTo cpos (starEach es X.env)).any (·.1) = false := by rfl) :
    PE X (.Call (.Attribute o name apos) (e :: es) [] cpos) (tBM K T r to t) := hK ▸ pe_bm pa sl ty m po args h1 h2 h3 h4 h5
theorem pg_tupK {es : List Expr} {k : Nat} {pos : Pos} {t : TGs} {n : Nat} (hK : X.K = K) (hc : X.calm = true) (h : PGs X es t) (hn : (assignEach es X.env).length = n := by rfl) (hst : (assignEach es X.env).findIdx? (·.1) = none := by rfl) :
    PG X (.Tuple es k pos) (gTup K n t) := hK ▸ pg_tup hc h hn hst
end
theorem le_line {n : Nat} (h : n ≤ 16000000) : n ≤ sizeLine := Nat.le_trans h (by decide)
theorem lt_line {n : Nat} (h : n < 16000000) : n < sizeLine := Nat.lt_of_lt_of_le h (by decide)
theorem bl_of {c : Prop} [Decidable c] {Q : V → Hp → Prop} {H : Hp} (hc : c) (h : Q (.bl true) H) : Q (.bl (decide c)) H := by
  rw [decide_eq_true hc]
  exact h
theorem dT {c : Prop} [Decidable c] (h : c) : V.bl (decide c) = V.bl true := by rw [decide_eq_true h]
theorem dF {c : Prop} [Decidable c] (h : ¬ c) : V.bl (decide c) = V.bl false := by rw [decide_eq_false h]
theorem ndT {c : Prop} [Decidable c] (h : ¬ c) : V.bl (!decide c) = V.bl true := by rw [decide_eq_false h]; rfl
theorem ndF {c : Prop} [Decidable c] (h : c) : V.bl (!decide c) = V.bl false := by rw [decide_eq_true h]; rfl
theorem map_get {α β : Type} {f : α → β} {xs : List α} {i : Nat} {y : β} (h : (xs.map f)[i]? = some y) : ∃ x, xs[i]? = some x ∧ y = f x := by
  rw [List.getElem?_map] at h
  cases e : xs[i]? with
  | none => rw [e] at h; cases h
  | some x => rw [e] at h; exact ⟨x, rfl, (Option.some.inj h).symm⟩
end Sky

/-! Tellings laid into frames: the numbers, the frames of them. -/
namespace Sky
open PySem PySem.Spec PyProof.Rows L2
def tellOk (t : List Int) : Prop := 1 ≤ t.length ∧ t.length ≤ 20 ∧ ∀ x ∈ t, 0 ≤ x ∧ x ≤ 255
/-- a frame: count, first, body -/
abbrev Frm := Nat × Option Nat × List Int
def inFr (z c s : Nat) : Bool := decide (c * z ≤ s) && decide (s < c * z + z)
def firstOf (z c : Nat) (S : List Nat) : Option Nat := ((S.filter (inFr z c)).map (· - c * z)).head?
def frm (z : Nat) (N : List Int) (S : List Nat) (c : Nat) : Frm := (c, firstOf z c S, (N.drop (c * z)).take z)
def frms (z : Nat) (N : List Int) (S : List Nat) : List Frm := (List.range (N.length / z)).map (frm z N S)
def frmD (st : Int) (f : Frm) : PyData := .tuple [.int st, .int f.1, optD f.2.1, tlD f.2.2]
def laidN (m : Int) (t : List Int) : List Int := (t.length : Int) :: m.fdiv 256 :: m.fmod 256 :: t
def lay1 (x : List Int × List Nat) (t : List Int) : List Int × List Nat := (x.1 ++ laidN (x.2.length : Int) t, x.2 ++ [x.1.length])
def layAll (ts : List (List Int)) : List Int × List Nat := ts.foldl lay1 ([], [])
def padN (z : Nat) (N : List Int) : List Int := if N.length % z = 0 then N else N ++ List.replicate (z - N.length % z) 0
theorem laidN_length (m : Int) (t : List Int) : (laidN m t).length = t.length + 3 := by simp [laidN]
theorem layAll_snoc (ts : List (List Int)) (t : List Int) : layAll (ts ++ [t]) = lay1 (layAll ts) t := by
  unfold layAll
  rw [List.foldl_append]
  rfl
theorem layAll_take {ts : List (List Int)} {i : Nat} {t : List Int} (h : ts[i]? = some t) : layAll (ts.take (i + 1)) = lay1 (layAll (ts.take i)) t := by
  rw [List.take_add_one, h]
  exact layAll_snoc _ _
/-- what holds of the numbers and the starts of such -/
structure Laid (N : List Int) (S : List Nat) : Prop where
  le : ∀ s ∈ S, s ≤ N.length
  asc : S.Pairwise (· ≤ ·)
theorem Laid.nil : Laid [] [] := ⟨by simp, by simp⟩
theorem Laid.start {N : List Int} {S : List Nat} (h : Laid N S) : Laid N (S ++ [N.length]) := by
  refine ⟨fun s hs => ?_, ?_⟩
  · rcases List.mem_append.mp hs with q | q
    · exact h.le s q
    · rw [List.mem_singleton.mp q]
      exact Nat.le_refl _
  · rw [List.pairwise_append]
    refine ⟨h.asc, by simp, fun a ha b hb => ?_⟩
    rw [List.mem_singleton.mp hb]
    exact h.le a ha
theorem Laid.more {N : List Int} {S : List Nat} (h : Laid N S) (xs : List Int) : Laid (N ++ xs) S := ⟨fun s hs => by
  rw [List.length_append]
  exact Nat.le_trans (h.le s hs) (Nat.le_add_right _ _), h.asc⟩
theorem Laid.lay1 {x : List Int × List Nat} (h : Laid x.1 x.2) (t : List Int) : Laid (lay1 x t).1 (lay1 x t).2 := (h.start).more _
theorem laid_all : ∀ ts : List (List Int), Laid (layAll ts).1 (layAll ts).2 := fun ts => by
  unfold layAll
  suffices h : ∀ (ts : List (List Int)) (x : List Int × List Nat), Laid x.1 x.2 → Laid (ts.foldl Sky.lay1 x).1 (ts.foldl Sky.lay1 x).2 from h ts _ Laid.nil
  intro ts
  induction ts with
  | nil => exact fun x h => h
  | cons t r ih => exact fun x h => ih _ (h.lay1 t)
theorem firstOf_app (z c : Nat) (S : List Nat) (n : Nat) : firstOf z c (S ++ [n]) = (firstOf z c S).or (if inFr z c n = true then some (n - c * z) else none) := by
  unfold firstOf
  rw [List.filter_append, List.map_append, List.head?_append]
  congr 1
  by_cases h : inFr z c n = true
  · rw [if_pos h, List.filter_cons_of_pos h]
    rfl
  · rw [if_neg h, List.filter_cons_of_neg h]
    rfl
theorem firstOf_none {z c : Nat} {S : List Nat} (h : ∀ s ∈ S, s < c * z) : firstOf z c S = none := by
  unfold firstOf
  have e : S.filter (inFr z c) = [] := by
    rw [List.filter_eq_nil_iff]
    intro s hs
    have := h s hs
    unfold inFr
    simp
    omega
  rw [e]
  rfl
theorem div_eq {z n c : Nat} (h1 : c * z ≤ n) (h2 : n < c * z + z) : n / z = c := by
  apply Nat.div_eq_of_lt_le h1
  rw [Nat.succ_mul]
  exact h2
theorem div_lo (z n : Nat) : n / z * z ≤ n := Nat.div_mul_le_self n z
theorem div_hi {z : Nat} (hz : 0 < z) (n : Nat) : n < n / z * z + z := by
  have := Nat.lt_div_mul_add hz (a := n)
  omega
theorem div_mod (z n : Nat) : n / z * z + n % z = n := by
  have := Nat.div_add_mod n z
  rw [Nat.mul_comm] at this
  exact this
/-- the frames that are full depend neither on later numbers nor on later starts -/
theorem frm_more {z c : Nat} {N xs : List Int} {S : List Nat} (h : c * z + z ≤ N.length) : frm z (N ++ xs) S c = frm z N S c := by
  unfold frm
  rw [List.drop_append_of_le_length (by omega), List.take_append_of_le_length (by rw [List.length_drop]; omega)]
theorem frm_start {z c : Nat} {N : List Int} {S : List Nat} {n : Nat} (h : c * z + z ≤ n) : frm z N (S ++ [n]) c = frm z N S c := by
  unfold frm
  rw [firstOf_app, if_neg, Option.or_none]
  unfold inFr
  simp
  omega
theorem frms_start (z : Nat) (N : List Int) (S : List Nat) : frms z N (S ++ [N.length]) = frms z N S := by
  unfold frms
  refine List.map_congr_left fun c hc => ?_
  have h1 : c < N.length / z := List.mem_range.mp hc
  refine frm_start ?_
  have := Nat.mul_le_mul_right z (show c + 1 ≤ N.length / z from h1)
  rw [Nat.succ_mul] at this
  have := div_lo z N.length
  omega
theorem frms_low {z : Nat} {N xs : List Int} {S : List Nat} : (List.range (N.length / z)).map (frm z (N ++ xs) S) = frms z N S := by
  unfold frms
  refine List.map_congr_left fun c hc => frm_more ?_
  have h1 : c < N.length / z := List.mem_range.mp hc
  have := Nat.mul_le_mul_right z (show c + 1 ≤ N.length / z from h1)
  rw [Nat.succ_mul] at this
  have := div_lo z N.length
  omega
theorem frms_same {z : Nat} (hz : 0 < z) {N xs : List Int} {S : List Nat} (h : N.length + xs.length < N.length / z * z + z) : frms z (N ++ xs) S = frms z N S := by
  have e : (N ++ xs).length / z = N.length / z := by
    rw [List.length_append]
    refine div_eq ?_ h
    have := div_lo z N.length
    omega
  unfold frms
  rw [e]
  exact frms_low
/-- some numbers that just fill the frame -/
theorem frms_full {z : Nat} (hz : 0 < z) {N xs : List Int} {S : List Nat} (h : N.length + xs.length = N.length / z * z + z) :
    frms z (N ++ xs) S = frms z N S ++ [(N.length / z, firstOf z (N.length / z) S, N.drop (N.length / z * z) ++ xs)] := by
  have e : (N ++ xs).length / z = N.length / z + 1 := by
    rw [List.length_append, h]
    refine div_eq ?_ ?_ <;> rw [Nat.succ_mul] <;> omega
  have := div_lo z N.length
  show (List.range ((N ++ xs).length / z)).map (frm z (N ++ xs) S) = _
  rw [e, List.range_succ, List.map_append, frms_low]
  congr 1
  show [frm z (N ++ xs) S (N.length / z)] = _
  unfold frm
  rw [List.drop_append_of_le_length this, List.take_of_length_le]
  rw [List.length_append, List.length_drop]
  omega
theorem frms_pad {z : Nat} (hz : 0 < z) {N : List Int} {S : List Nat} (h : N.length % z ≠ 0) :
    frms z (padN z N) S = frms z N S ++ [(N.length / z, firstOf z (N.length / z) S, N.drop (N.length / z * z) ++ List.replicate (z - N.length % z) 0)] := by
  unfold padN
  rw [if_neg h]
  refine frms_full hz ?_
  rw [List.length_replicate]
  have := div_mod z N.length
  have := Nat.mod_lt N.length hz
  omega
theorem frms_pad0 {z : Nat} {N : List Int} {S : List Nat} (h : N.length % z = 0) : frms z (padN z N) S = frms z N S := by
  unfold padN
  rw [if_pos h]
theorem body_length (z : Nat) (N : List Int) : (N.drop (N.length / z * z)).length = N.length % z := by
  rw [List.length_drop]
  have := div_mod z N.length
  omega
theorem step_full {z : Nat} (hz : 0 < z) {N : List Int} {x : Int} (h : N.length % z + 1 = z) :
    N.length + 1 = N.length / z * z + z ∧ (N ++ [x]).length / z = N.length / z + 1 ∧ (N ++ [x]).drop ((N.length / z + 1) * z) = [] := by
  have h1 := div_mod z N.length
  have h2 : N.length + 1 = N.length / z * z + z := by omega
  refine ⟨h2, ?_, ?_⟩
  · rw [List.length_append, List.length_singleton, h2]
    refine div_eq ?_ ?_ <;> rw [Nat.succ_mul] <;> omega
  · apply List.drop_eq_nil_of_le
    rw [List.length_append, List.length_singleton, h2, Nat.succ_mul]
    exact Nat.le_refl _
theorem step_not {z : Nat} (hz : 0 < z) {N : List Int} {x : Int} (h : N.length % z + 1 ≠ z) :
    N.length + 1 < N.length / z * z + z ∧ (N ++ [x]).length / z = N.length / z ∧ (N ++ [x]).drop (N.length / z * z) = N.drop (N.length / z * z) ++ [x] := by
  have h1 := div_mod z N.length
  have h3 := Nat.mod_lt N.length hz
  have h2 : N.length + 1 < N.length / z * z + z := by omega
  refine ⟨h2, ?_, ?_⟩
  · rw [List.length_append, List.length_singleton]
    exact div_eq (by omega) h2
  · exact List.drop_append_of_le_length (by omega)
theorem first_start {z : Nat} (hz : 0 < z) (N : List Int) (S : List Nat) : firstOf z (N.length / z) (S ++ [N.length]) = (firstOf z (N.length / z) S).or (some (N.length % z)) := by
  have h1 := div_mod z N.length
  have h2 := div_hi hz N.length
  rw [firstOf_app, if_pos (by unfold inFr; simp; omega)]
  congr 2
  omega
theorem frms_length (z : Nat) (N : List Int) (S : List Nat) : (frms z N S).length = N.length / z := by simp [frms]
theorem frms_lay {z : Nat} (x : List Int × List Nat) (t : List Int) :
    frms z x.1 x.2 ++ (frms z (lay1 x t).1 (lay1 x t).2).drop (x.1.length / z) = frms z (lay1 x t).1 (lay1 x t).2 := by
  have e : (frms z (lay1 x t).1 (lay1 x t).2).take (x.1.length / z) = frms z x.1 x.2 := by
    have h : x.1.length / z ≤ (lay1 x t).1.length / z := Nat.div_le_div_right (by unfold lay1; rw [List.length_append]; exact Nat.le_add_right _ _)
    unfold frms
    rw [← List.map_take, List.take_range, Nat.min_eq_left h]
    show (List.range (x.1.length / z)).map (frm z (x.1 ++ laidN (x.2.length : Int) t) (x.2 ++ [x.1.length])) = _
    rw [frms_low, frms_start]
    rfl
  rw [← e]
  exact List.take_append_drop _ _
theorem layAll_le : ∀ (ts : List (List Int)), (∀ t ∈ ts, t.length ≤ 20) → (layAll ts).1.length ≤ 23 * ts.length := by
  intro ts h
  unfold layAll
  suffices g : ∀ (ts : List (List Int)) (x : List Int × List Nat), (∀ t ∈ ts, t.length ≤ 20) → (ts.foldl lay1 x).1.length ≤ x.1.length + 23 * ts.length by
    have := g ts ([], []) h
    simpa using this
  intro ts
  induction ts with
  | nil => intro x _; exact Nat.le_refl _
  | cons t r ih =>
    intro x hx
    have h1 := ih (lay1 x t) fun u hu => hx u (List.mem_cons_of_mem _ hu)
    have h2 := hx t (List.mem_cons_self ..)
    have h3 : (lay1 x t).1.length = x.1.length + (t.length + 3) := by unfold lay1; rw [List.length_append, laidN_length]
    rw [List.foldl_cons, List.length_cons]
    omega
theorem layAll_len : ∀ (ts : List (List Int)), (layAll ts).2.length = ts.length := by
  intro ts
  unfold layAll
  suffices g : ∀ (ts : List (List Int)) (x : List Int × List Nat), (ts.foldl lay1 x).2.length = x.2.length + ts.length by
    have := g ts ([], [])
    simpa using this
  intro ts
  induction ts with
  | nil => intro x; rfl
  | cons t r ih =>
    intro x
    rw [List.foldl_cons, ih, List.length_cons]
    unfold lay1
    rw [List.length_append, List.length_singleton]
    omega
/-- the first of ascending ones is the least -/
theorem head_least : ∀ {ns : List Nat} {m : Nat}, ns.Pairwise (· ≤ ·) → m ∈ ns → (∀ y ∈ ns, m ≤ y) → ns.head? = some m
  | x :: r, m, p, hm, hl => by
    have h1 : m ≤ x := hl x (List.mem_cons_self ..)
    have h2 : x ≤ m := by
      rcases List.mem_cons.mp hm with e | e
      · exact Nat.le_of_eq e.symm
      · exact (List.pairwise_cons.mp p).1 m e
    show some x = some m
    rw [Nat.le_antisymm h2 h1]
theorem firstOf_least {z c : Nat} {S : List Nat} {m : Nat} (p : S.Pairwise (· ≤ ·)) (hm : m ∈ (S.filter (inFr z c)).map (· - c * z)) (hl : ∀ y ∈ (S.filter (inFr z c)).map (· - c * z), m ≤ y) : firstOf z c S = some m := by
  refine head_least ?_ hm hl
  refine List.Pairwise.map _ (fun a b h => ?_) (p.filter _)
  show a - c * z ≤ b - c * z
  exact Nat.sub_le_sub_right h _
end Sky

/-! What is read from frames: tellings by their starts, the places in a frame at which some begin, the rows. -/
namespace Sky
open PySem PySem.Spec PyProof.Rows L2
/-- numbers N in which tellings begin at places, one behind the other or behind a filled-up frame -/
structure Lays (z : Nat) (N : List Int) (L : List (Nat × List Int)) : Prop where
  item : ∀ j a t, L[j]? = some (a, t) → a + (t.length + 3) ≤ N.length ∧ (N.drop a).take (t.length + 3) = laidN (j : Nat) t ∧ tellOk t
  next : ∀ j a t a' t', L[j]? = some (a, t) → L[j + 1]? = some (a', t') → a' = a + (t.length + 3) ∨ (N[a + (t.length + 3)]? = some 0 ∧ (a + (t.length + 3)) / z * z + z ≤ a')
  last : ∀ j a t, L[j]? = some (a, t) → L[j + 1]? = none → a + (t.length + 3) = N.length ∨ (N[a + (t.length + 3)]? = some 0 ∧ (a + (t.length + 3)) / z * z + z ≤ N.length)
  laid : Laid N (L.map (·.1))
  nums : ∀ x ∈ N, 0 ≤ x ∧ x ≤ 255
theorem Lays.nil (z : Nat) : Lays z [] [] := ⟨by simp, by simp, by simp, Laid.nil, by simp⟩
theorem Lays.lay {z : Nat} {N : List Int} {L : List (Nat × List Int)} {t : List Int} (h : Lays z N L) (ok : tellOk t) (few : L.length < 65536) : Lays z (N ++ laidN (L.length : Nat) t) (L ++ [(N.length, t)]) := by
  have hll : (laidN (L.length : Nat) t).length = t.length + 3 := laidN_length _ _
  refine ⟨fun j a u e => ?_, fun j a u a' u' e e' => ?_, fun j a u e e' => ?_, ?_, fun x hx => ?_⟩
  · by_cases hj : j < L.length
    · rw [List.getElem?_append_left hj] at e
      obtain ⟨h1, h2, h3⟩ := h.item j a u e
      refine ⟨by rw [List.length_append]; omega, ?_, h3⟩
      rw [List.drop_append_of_le_length (by omega), List.take_append_of_le_length (by rw [List.length_drop]; omega)]
      exact h2
    · have hj' : j = L.length := by
        have := (List.getElem?_eq_some_iff.mp e).1
        rw [List.length_append, List.length_singleton] at this
        omega
      subst hj'
      rw [List.getElem?_append_right (Nat.le_refl _), Nat.sub_self] at e
      have e2 : (N.length, t) = (a, u) := Option.some.inj e
      injection e2 with e3 e4
      subst e3 e4
      refine ⟨by rw [List.length_append, hll]; omega, ?_, ok⟩
      rw [List.drop_append_of_le_length (Nat.le_refl _), List.drop_length, List.nil_append, List.take_of_length_le (by omega)]
  · by_cases hj : j + 1 < L.length
    · rw [List.getElem?_append_left (by omega)] at e
      rw [List.getElem?_append_left hj] at e'
      rcases h.next j a u a' u' e e' with q | ⟨q, r⟩
      · exact .inl q
      · refine .inr ⟨?_, r⟩
        rw [List.getElem?_append_left (List.getElem?_eq_some_iff.mp q).1]
        exact q
    · have hj' : j + 1 = L.length := by
        have := (List.getElem?_eq_some_iff.mp e').1
        rw [List.length_append, List.length_singleton] at this
        omega
      rw [List.getElem?_append_left (by omega)] at e
      rw [hj', List.getElem?_append_right (Nat.le_refl _), Nat.sub_self] at e'
      have e2 : (N.length, t) = (a', u') := Option.some.inj e'
      injection e2 with e3 e4
      subst e3
      rcases h.last j a u e (List.getElem?_eq_none (by omega)) with q | ⟨q, r⟩
      · exact .inl q.symm
      · refine .inr ⟨?_, r⟩
        rw [List.getElem?_append_left (List.getElem?_eq_some_iff.mp q).1]
        exact q
  · have hj' : j = L.length := by
      have h1 := (List.getElem?_eq_some_iff.mp e).1
      have h2 := List.getElem?_eq_none_iff.mp e'
      rw [List.length_append, List.length_singleton] at h1 h2
      omega
    subst hj'
    rw [List.getElem?_append_right (Nat.le_refl _), Nat.sub_self] at e
    have e2 : (N.length, t) = (a, u) := Option.some.inj e
    injection e2 with e3 e4
    subst e3 e4
    left
    rw [List.length_append, hll]
  · rw [List.map_append]
    exact h.laid.start.more _
  · rcases List.mem_append.mp hx with q | q
    · exact h.nums x q
    · unfold laidN at q
      simp only [List.mem_cons] at q
      have h1 := ok.1
      have h2 := ok.2.1
      rcases q with e | e | e | e
      · omega
      · rw [e, Int.fdiv_eq_ediv_of_nonneg _ (by omega)]
        omega
      · rw [e, Int.fmod_eq_emod_of_nonneg _ (by omega)]
        omega
      · exact ok.2.2 x e
theorem padN_length {z : Nat} (hz : 0 < z) (N : List Int) : (padN z N).length = if N.length % z = 0 then N.length else N.length / z * z + z := by
  unfold padN
  have := div_mod z N.length
  have := Nat.mod_lt N.length hz
  split
  · rfl
  · rw [List.length_append, List.length_replicate]
    omega
theorem Lays.pad {z : Nat} {N : List Int} {L : List (Nat × List Int)} (hz : 0 < z) (h : Lays z N L) : Lays z (padN z N) L := by
  by_cases h0 : N.length % z = 0
  · unfold padN
    rw [if_pos h0]
    exact h
  · have hp : padN z N = N ++ List.replicate (z - N.length % z) 0 := by unfold padN; rw [if_neg h0]
    have hl : (padN z N).length = N.length / z * z + z := by rw [padN_length hz, if_neg h0]
    have hm := div_mod z N.length
    have hmz := Nat.mod_lt N.length hz
    refine ⟨fun j a t e => ?_, fun j a t a' t' e e' => ?_, fun j a t e e' => ?_, ?_, fun x hx => ?_⟩
    · obtain ⟨h1, h2, h3⟩ := h.item j a t e
      refine ⟨by omega, ?_, h3⟩
      rw [hp, List.drop_append_of_le_length (by omega), List.take_append_of_le_length (by rw [List.length_drop]; omega)]
      exact h2
    · rcases h.next j a t a' t' e e' with q | ⟨q, r⟩
      · exact .inl q
      · refine .inr ⟨?_, r⟩
        rw [hp, List.getElem?_append_left (List.getElem?_eq_some_iff.mp q).1]
        exact q
    · right
      rcases h.last j a t e e' with q | ⟨q, r⟩
      · rw [q]
        refine ⟨?_, by omega⟩
        rw [hp, List.getElem?_append_right (Nat.le_refl _), Nat.sub_self]
        rw [List.getElem?_replicate, if_pos (by omega)]
      · refine ⟨?_, by omega⟩
        rw [hp, List.getElem?_append_left (List.getElem?_eq_some_iff.mp q).1]
        exact q
    · rw [hp]
      exact h.laid.more _
    · rw [hp] at hx
      rcases List.mem_append.mp hx with q | q
      · exact h.nums x q
      · rw [List.eq_of_mem_replicate q]
        decide
theorem Lays.at {z : Nat} {N : List Int} {L : List (Nat × List Int)} (h : Lays z N L) {j a : Nat} {t : List Int} (e : L[j]? = some (a, t)) : N[a]? = some (t.length : Int) := by
  obtain ⟨h1, h2, h3⟩ := h.item j a t e
  have e1 : ((N.drop a).take (t.length + 3))[0]? = (laidN (j : Nat) t)[0]? := by rw [h2]
  rw [List.getElem?_take_of_lt (by omega), List.getElem?_drop, Nat.add_zero] at e1
  exact e1
theorem Lays.S_at {z : Nat} {N : List Int} {L : List (Nat × List Int)} (h : Lays z N L) {i j : Nat} {x y : Nat} (hij : i ≤ j) (e : (L.map (·.1))[i]? = some x) (e' : (L.map (·.1))[j]? = some y) : x ≤ y := by
  rcases Nat.lt_or_eq_of_le hij with q | q
  · have hi := (List.getElem?_eq_some_iff.mp e)
    have hj := (List.getElem?_eq_some_iff.mp e')
    obtain ⟨hi1, hi2⟩ := hi
    obtain ⟨hj1, hj2⟩ := hj
    rw [← hi2, ← hj2]
    exact List.pairwise_iff_getElem.mp h.laid.asc i j hi1 hj1 q
  · subst q
    rw [e] at e'
    cases e'
    exact Nat.le_refl _
theorem Lays.lt {z : Nat} {N : List Int} {L : List (Nat × List Int)} (h : Lays z N L) {j a a' : Nat} {t t' : List Int} (e : L[j]? = some (a, t)) (e' : L[j + 1]? = some (a', t')) : a < a' := by
  rcases h.next j a t a' t' e e' with q | ⟨_, q⟩
  · omega
  · have h1 := (h.item j a t e).1
    rcases Nat.eq_zero_or_pos z with hz | hz
    · subst hz
      have h2 : a ≤ a' := h.S_at (Nat.le_succ j) (by rw [List.getElem?_map, e]; rfl) (by rw [List.getElem?_map, e']; rfl)
      rcases Nat.lt_or_eq_of_le h2 with r | r
      · exact r
      · exfalso
        subst r
        have h3 := (h.item (j + 1) a t' e')
        have h4 := (h.item j a t e)
        have e1 : (laidN ((j : Nat) : Int) t)[0]? = (laidN ((j + 1 : Nat) : Int) t')[0]? := by
          rw [← h4.2.1, ← h3.2.1, List.getElem?_take_of_lt (by omega), List.getElem?_take_of_lt (by omega)]
        have e2 : (t.length : Int) = t'.length := Option.some.inj e1
        have e3 : laidN ((j : Nat) : Int) t = laidN ((j + 1 : Nat) : Int) t' := by
          rw [← h4.2.1, ← h3.2.1, show t.length = t'.length by omega]
        unfold laidN at e3
        injection e3 with _ e3
        injection e3 with e4 e3
        injection e3 with e5 e3
        rw [Int.fdiv_eq_ediv_of_nonneg _ (by omega), Int.fdiv_eq_ediv_of_nonneg _ (by omega)] at e4
        rw [Int.fmod_eq_emod_of_nonneg _ (by omega), Int.fmod_eq_emod_of_nonneg _ (by omega)] at e5
        omega
    · have h2 := div_hi hz (a + (t.length + 3))
      omega
theorem Lays.rise {z : Nat} {N : List Int} {L : List (Nat × List Int)} (h : Lays z N L) {j a : Nat} {t : List Int} (e : L[j]? = some (a, t)) : ∀ (k : Nat) (a' : Nat) (t' : List Int), L[j + 1 + k]? = some (a', t') → a < a'
  | 0, a', t', e' => h.lt e e'
  | k + 1, a', t', e' => by
    have hl := (List.getElem?_eq_some_iff.mp e').1
    have e1 : L[j + 1 + k]? = some (L[j + 1 + k]'(by omega)) := List.getElem?_eq_getElem (by omega)
    have h1 := h.rise e k _ _ e1
    have h2 := h.lt e1 e'
    omega
/-- no two begin at one place -/
theorem Lays.one {z : Nat} {N : List Int} {L : List (Nat × List Int)} (h : Lays z N L) {i j a : Nat} {t t' : List Int} (e : L[i]? = some (a, t)) (e' : L[j]? = some (a, t')) : i = j := by
  rcases Nat.lt_trichotomy i j with q | q | q
  · have := h.rise e (j - (i + 1)) a t' (by rw [show i + 1 + (j - (i + 1)) = j by omega]; exact e')
    omega
  · exact q
  · have := h.rise e' (i - (j + 1)) a t (by rw [show j + 1 + (i - (j + 1)) = i by omega]; exact e)
    omega
/-- from a start to the next one, within a frame -/
theorem Lays.step {z : Nat} {N : List Int} {L : List (Nat × List Int)} (h : Lays z N L) {c p j a : Nat} {t : List Int} (hz : 0 < z) (hc : c * z + z ≤ N.length) (e : L[j]? = some (a, t)) (ea : a = c * z + p) (hp : p < z) :
    (∃ a' t', L[j + 1]? = some (a', t') ∧ a' = c * z + (p + (3 + t.length))) ∨
    ((∀ i, j + 1 ≤ i → ∀ x, (L.map (·.1))[i]? = some x → c * z + z ≤ x) ∧ (z ≤ p + (3 + t.length) ∨ N[c * z + (p + (3 + t.length))]? = some 0)) := by
  have ee : a + (t.length + 3) = c * z + (p + (3 + t.length)) := by omega
  cases e1 : L[j + 1]? with
  | some x =>
    obtain ⟨a', t'⟩ := x
    rcases h.next j a t a' t' e e1 with q | ⟨q, r⟩
    · exact .inl ⟨a', t', rfl, by omega⟩
    · rw [ee] at q r
      refine .inr ⟨fun i hi x hx => ?_, ?_⟩
      · have h1 : a' ≤ x := h.S_at hi (by rw [List.getElem?_map, e1]; rfl) hx
        have h2 := div_lo z (c * z + (p + (3 + t.length)))
        have h3 := div_hi hz (c * z + (p + (3 + t.length)))
        by_cases h4 : p + (3 + t.length) < z
        · have : (c * z + (p + (3 + t.length))) / z = c := div_eq (by omega) (by omega)
          rw [this] at r
          omega
        · omega
      · exact .inr q
  | none =>
    refine .inr ⟨fun i hi x hx => ?_, ?_⟩
    · have h1 := (List.getElem?_eq_some_iff.mp hx).1
      have h2 := List.getElem?_eq_none_iff.mp e1
      rw [List.length_map] at h1
      omega
    · rcases h.last j a t e e1 with q | ⟨q, r⟩
      · rw [ee] at q
        exact .inl (by omega)
      · rw [ee] at q
        exact .inr q
theorem filter_take_all {p : Nat → Bool} : ∀ {S : List Nat} {j : Nat}, (∀ i, j ≤ i → ∀ x, S[i]? = some x → p x = false) → (S.take j).filter p = S.filter p
  | [], _, _ => by simp
  | x :: r, 0, h => by
    rw [List.take_zero, List.filter_nil]
    symm
    rw [List.filter_eq_nil_iff]
    intro y hy
    obtain ⟨i, hi, e⟩ := List.getElem_of_mem hy
    rw [h i (Nat.zero_le _) y (by rw [← e]; exact List.getElem?_eq_getElem hi)]
    simp
  | x :: r, j + 1, h => by
    have ih := filter_take_all (p := p) (S := r) (j := j) fun i hi y hy => h (i + 1) (by omega) y (by simpa using hy)
    rw [List.take_succ_cons, List.filter_cons, List.filter_cons, ih]
theorem filter_head {p : Nat → Bool} : ∀ {S : List Nat} {y : Nat}, (S.filter p).head? = some y → ∃ j, S[j]? = some y ∧ (S.take j).filter p = []
  | [], _, h => by simp at h
  | x :: r, y, h => by
    by_cases hp : p x = true
    · rw [List.filter_cons_of_pos hp] at h
      exact ⟨0, h, rfl⟩
    · rw [List.filter_cons_of_neg hp] at h
      obtain ⟨j, h1, h2⟩ := filter_head h
      refine ⟨j + 1, by simpa using h1, ?_⟩
      rw [List.take_succ_cons, List.filter_cons_of_neg hp]
      exact h2
theorem first_at {z c : Nat} {S : List Nat} {x : Nat} (h : firstOf z c S = some x) : ∃ j, S[j]? = some (c * z + x) ∧ (S.take j).filter (inFr z c) = [] ∧ x < z := by
  unfold firstOf at h
  rw [List.head?_map] at h
  cases e : (S.filter (inFr z c)).head? with
  | none => rw [e] at h; cases h
  | some y =>
    rw [e] at h
    have ex : y - c * z = x := Option.some.inj h
    obtain ⟨j, h1, h2⟩ := filter_head e
    have hm : y ∈ S.filter (inFr z c) := List.mem_of_head? e
    have hp := (List.mem_filter.mp hm).2
    unfold inFr at hp
    simp at hp
    exact ⟨j, by rw [h1, ← ex]; congr 1; omega, h2, by omega⟩
theorem first_no {z c : Nat} {S : List Nat} (h : firstOf z c S = none) : S.filter (inFr z c) = [] := by
  unfold firstOf at h
  rw [List.head?_map] at h
  cases e : S.filter (inFr z c) with
  | nil => rfl
  | cons x r => rw [e] at h; cases h
/-- which numbers of a telling lie in frames that there are -/
def covers (z : Nat) (cs : List Nat) (a n : Nat) : Bool := (List.range n).all fun k => decide ((a + k) / z ∈ cs)
def toldJ (z : Nat) (L : List (Nat × List Int)) (cs : List Nat) (j : Nat) : Bool := match L[j]? with
  | some x => covers z cs x.1 (x.2.length + 3)
  | none => false
def toldL (z : Nat) (L : List (Nat × List Int)) (cs : List Nat) : List Nat := (List.range L.length).filter (toldJ z L cs)
def gapD (lo hi : Nat) : PyData := .tuple [.str "gap", .int lo, .int hi]
def toldD (j : Nat) (t : List Int) : PyData := .tuple [.str "told", .int j, tlD t]
def textOf (L : List (Nat × List Int)) (j : Nat) : List Int := match L[j]? with
  | some x => x.2
  | none => []
def rowsD (L : List (Nat × List Int)) : Nat → List Nat → List PyData
  | _, [] => []
  | lo, j :: r => (if lo < j then [gapD lo (j - 1)] else []) ++ (toldD j (textOf L j) :: rowsD L (j + 1) r)
theorem rowsD_snoc (L : List (Nat × List Int)) : ∀ (js : List Nat) (lo j : Nat), rowsD L lo (js ++ [j]) = rowsD L lo js ++ rowsD L (js.foldl (fun _ x => x + 1) lo) [j]
  | [], lo, j => rfl
  | x :: r, lo, j => by
    rw [List.cons_append]
    show (if lo < x then [gapD lo (x - 1)] else []) ++ (toldD x (textOf L x) :: rowsD L (x + 1) (r ++ [j])) = _
    rw [rowsD_snoc L r (x + 1) j]
    show _ = ((if lo < x then [gapD lo (x - 1)] else []) ++ (toldD x (textOf L x) :: rowsD L (x + 1) r)) ++ _
    rw [List.append_assoc]
    rfl
theorem lo_snoc (js : List Nat) (lo j : Nat) : (js ++ [j]).foldl (fun _ x => x + 1) lo = j + 1 := by rw [List.foldl_append]; rfl
theorem covers_iff {z a n : Nat} {cs : List Nat} : covers z cs a n = true ↔ ∀ k, k < n → (a + k) / z ∈ cs := by
  unfold covers
  rw [List.all_eq_true]
  exact ⟨fun h k hk => of_decide_eq_true (h k (List.mem_range.mpr hk)), fun h k hk => decide_eq_true (h k (List.mem_range.mp hk))⟩
/-- by the frames from the first to the last of them -/
theorem covers_range {z a n : Nat} {cs : List Nat} (hz : 0 < z) (hn : 0 < n) : covers z cs a n = true ↔ ∀ c, a / z ≤ c → c ≤ (a + (n - 1)) / z → c ∈ cs := by
  rw [covers_iff]
  refine ⟨fun h c h1 h2 => ?_, fun h k hk => h _ (Nat.div_le_div_right (by omega)) (Nat.div_le_div_right (by omega))⟩
  by_cases h3 : c * z ≤ a
  · have e : a / z = c := by
      have := (Nat.le_div_iff_mul_le hz).mpr h3
      omega
    have := h 0 hn
    rw [Nat.add_zero, e] at this
    exact this
  · have h4 : c * z ≤ a + (n - 1) := (Nat.le_div_iff_mul_le hz).mp h2
    have := h (c * z - a) (by omega)
    rw [show a + (c * z - a) = c * z by omega, Nat.mul_div_cancel _ hz] at this
    exact this
/-- two rising lists without equal ones that hold the same are one -/
theorem rising_same : ∀ {xs ys : List Int}, xs.Pairwise (· < ·) → ys.Pairwise (· < ·) → (∀ x, x ∈ xs ↔ x ∈ ys) → xs = ys
  | [], [], _, _, _ => rfl
  | [], y :: r, _, _, h => absurd ((h y).mpr (List.mem_cons_self ..)) (by simp)
  | x :: r, [], _, _, h => absurd ((h x).mp (List.mem_cons_self ..)) (by simp)
  | x :: xs, y :: ys, hx, hy, h => by
    have hx' := List.pairwise_cons.mp hx
    have hy' := List.pairwise_cons.mp hy
    have e : x = y := by
      rcases List.mem_cons.mp ((h x).mp (List.mem_cons_self ..)) with q | q
      · exact q
      · rcases List.mem_cons.mp ((h y).mpr (List.mem_cons_self ..)) with q' | q'
        · exact q'.symm
        · have := hy'.1 x q
          have := hx'.1 y q'
          omega
    subst e
    congr 1
    refine rising_same hx'.2 hy'.2 fun u => ⟨fun hu => ?_, fun hu => ?_⟩
    · rcases List.mem_cons.mp ((h u).mp (List.mem_cons_of_mem _ hu)) with q | q
      · have := hx'.1 u hu
        omega
      · exact q
    · rcases List.mem_cons.mp ((h u).mpr (List.mem_cons_of_mem _ hu)) with q | q
      · have := hy'.1 u hu
        omega
      · exact q
/-- all of a list of tellings -/
def lays1 (x : List Int × List (Nat × List Int)) (t : List Int) : List Int × List (Nat × List Int) := (x.1 ++ laidN (x.2.length : Nat) t, x.2 ++ [(x.1.length, t)])
def laysAll (ts : List (List Int)) : List Int × List (Nat × List Int) := ts.foldl lays1 ([], [])
theorem laysAll_take {ts : List (List Int)} {i : Nat} {t : List Int} (h : ts[i]? = some t) : laysAll (ts.take (i + 1)) = lays1 (laysAll (ts.take i)) t := by
  rw [List.take_add_one, h]
  show laysAll (ts.take i ++ [t]) = _
  unfold laysAll
  rw [List.foldl_append]
  rfl
theorem laysAll_lay (ts : List (List Int)) : layAll ts = ((laysAll ts).1, (laysAll ts).2.map (·.1)) := by
  unfold layAll laysAll
  suffices g : ∀ (ts : List (List Int)) (x : List Int × List (Nat × List Int)), ts.foldl lay1 (x.1, x.2.map (·.1)) = ((ts.foldl lays1 x).1, (ts.foldl lays1 x).2.map (·.1)) from g ts ([], [])
  intro ts
  induction ts with
  | nil => intro x; rfl
  | cons t r ih =>
    intro x
    rw [List.foldl_cons, List.foldl_cons, ← ih]
    congr 1
    unfold lay1 lays1
    rw [List.map_append, List.length_map]
    rfl
theorem laysAll_texts (ts : List (List Int)) : (laysAll ts).2.map (·.2) = ts := by
  unfold laysAll
  suffices g : ∀ (ts : List (List Int)) (x : List Int × List (Nat × List Int)), (ts.foldl lays1 x).2.map (·.2) = x.2.map (·.2) ++ ts from g ts ([], [])
  intro ts
  induction ts with
  | nil => intro x; simp
  | cons t r ih =>
    intro x
    rw [List.foldl_cons, ih]
    unfold lays1
    rw [List.map_append, List.append_assoc]
    rfl
theorem laysAll_len (ts : List (List Int)) : (laysAll ts).2.length = ts.length := by
  have := congrArg List.length (laysAll_texts ts)
  rw [List.length_map] at this
  exact this
theorem laysAll_ok {z : Nat} {ts : List (List Int)} (ok : ∀ t ∈ ts, tellOk t) (few : ts.length ≤ 65536) : Lays z (laysAll ts).1 (laysAll ts).2 := by
  suffices g : ∀ i, i ≤ ts.length → Lays z (laysAll (ts.take i)).1 (laysAll (ts.take i)).2 by
    have := g ts.length (Nat.le_refl _)
    rw [List.take_length] at this
    exact this
  intro i
  induction i with
  | zero => intro _; rw [List.take_zero]; exact Lays.nil z
  | succ i ih =>
    intro hi
    have ht : ts[i]? = some ts[i] := List.getElem?_eq_getElem (by omega)
    rw [laysAll_take ht]
    exact (ih (by omega)).lay (ok _ (List.getElem_mem _)) (by rw [laysAll_len, List.length_take]; omega)
theorem rows_len' (L : List (Nat × List Int)) : ∀ (js : List Nat) (lo : Nat), (rowsD L lo js).length ≤ 2 * js.length
  | [], _ => Nat.le_refl _
  | j :: r, lo => by
    have ih := rows_len' L r (j + 1)
    show ((if lo < j then [gapD lo (j - 1)] else []) ++ (toldD j (textOf L j) :: rowsD L (j + 1) r)).length ≤ _
    rw [List.length_append, List.length_cons, List.length_cons]
    split
    · rw [List.length_singleton]; omega
    · rw [List.length_nil]; omega
/-! ### rows as data -/
def isTold : PyData → Bool
  | .tuple (.str x :: _) => decide (x = ("told" : Str))
  | _ => false
theorem gap_told : ¬ (("gap" : Str) = "told") := by decide +kernel
theorem isTold_told (j : Nat) (t : List Int) : isTold (toldD j t) = true := by
  show decide (("told" : Str) = "told") = true
  exact decide_eq_true rfl
theorem isTold_gap (lo hi : Nat) : isTold (gapD lo hi) = false := by
  show decide (("gap" : Str) = "told") = false
  exact decide_eq_false gap_told
theorem rows_mem {L : List (Nat × List Int)} : ∀ {js : List Nat} {lo : Nat} {d : PyData}, d ∈ rowsD L lo js → (∃ a b, d = gapD a b) ∨ ∃ j ∈ js, d = toldD j (textOf L j)
  | [], _, _, h => by cases h
  | j :: r, lo, d, h => by
    have h' : d ∈ (if lo < j then [gapD lo (j - 1)] else []) ++ (toldD j (textOf L j) :: rowsD L (j + 1) r) := h
    rcases List.mem_append.mp h' with q | q
    · split at q
      · exact .inl ⟨_, _, List.mem_singleton.mp q⟩
      · cases q
    · rcases List.mem_cons.mp q with q | q
      · exact .inr ⟨j, List.mem_cons_self .., q⟩
      · rcases rows_mem q with q | ⟨k, hk, e⟩
        · exact .inl q
        · exact .inr ⟨k, List.mem_cons_of_mem _ hk, e⟩
theorem told_mem {L : List (Nat × List Int)} : ∀ {js : List Nat} {lo j : Nat}, j ∈ js → toldD j (textOf L j) ∈ rowsD L lo js
  | [], _, _, h => by cases h
  | i :: r, lo, j, h => by
    show _ ∈ (if lo < i then [gapD lo (i - 1)] else []) ++ (toldD i (textOf L i) :: rowsD L (i + 1) r)
    refine List.mem_append_right _ ?_
    rcases List.mem_cons.mp h with q | q
    · rw [q]; exact List.mem_cons_self ..
    · exact List.mem_cons_of_mem _ (told_mem q)
theorem rows_all (L : List (Nat × List Int)) : ∀ (n lo : Nat), rowsD L lo (List.range' lo n) = (List.range' lo n).map fun k => toldD k (textOf L k)
  | 0, lo => rfl
  | n + 1, lo => by
    rw [List.range'_succ]
    show (if lo < lo then [gapD lo (lo - 1)] else []) ++ (toldD lo (textOf L lo) :: rowsD L (lo + 1) (List.range' (lo + 1) n)) = _
    rw [if_neg (Nat.lt_irrefl _), List.nil_append, rows_all L n (lo + 1)]
    rfl
theorem rows_range (L : List (Nat × List Int)) (n : Nat) : rowsD L 0 (List.range n) = (List.range n).map fun k => toldD k (textOf L k) := by
  rw [List.range_eq_range']
  exact rows_all L n 0
theorem toldL_congr {z : Nat} {L : List (Nat × List Int)} {cs cs' : List Nat} (h : ∀ c, c ∈ cs ↔ c ∈ cs') : toldL z L cs = toldL z L cs' := by
  unfold toldL
  congr 1
  funext j
  unfold toldJ
  cases L[j]? with
  | none => rfl
  | some x =>
    show covers z cs _ _ = covers z cs' _ _
    rw [Bool.eq_iff_iff, covers_iff, covers_iff]
    exact ⟨fun g k hk => (h _).mp (g k hk), fun g k hk => (h _).mpr (g k hk)⟩
theorem toldL_mono {z : Nat} {L : List (Nat × List Int)} {cs cs' : List Nat} (h : ∀ c, c ∈ cs → c ∈ cs') {j : Nat} (hj : j ∈ toldL z L cs) : j ∈ toldL z L cs' := by
  unfold toldL at hj ⊢
  rw [List.mem_filter] at hj ⊢
  refine ⟨hj.1, ?_⟩
  have := hj.2
  unfold toldJ at this ⊢
  cases e : L[j]? with
  | none => rw [e] at this; cases this
  | some x =>
    rw [e] at this
    exact covers_iff.mpr fun k hk => h _ (covers_iff.mp this k hk)
/-- all frames that there are tell all -/
theorem toldL_all {z : Nat} {N : List Int} {L : List (Nat × List Int)} (h : Lays z N L) (hz : 0 < z) (full : N.length % z = 0) : toldL z L (List.range (N.length / z)) = List.range L.length := by
  unfold toldL
  rw [List.filter_eq_self]
  intro j hj
  have hj' := List.mem_range.mp hj
  unfold toldJ
  rw [List.getElem?_eq_getElem hj']
  refine covers_iff.mpr fun k hk => List.mem_range.mpr ?_
  have h1 := (h.item j L[j].1 L[j].2 (List.getElem?_eq_getElem hj')).1
  have h2 := div_mod z N.length
  rw [Nat.div_lt_iff_lt_mul hz]
  omega
theorem pad_full {z : Nat} (hz : 0 < z) (N : List Int) : (padN z N).length % z = 0 := by
  rw [padN_length hz]
  split
  · assumption
  · rw [Nat.add_mod_right, Nat.mul_mod_left]
theorem Lay.strT : Lay 0 (.str "told") := ⟨by decide +kernel, by simp [PyData.depth]⟩
theorem Lay.strG : Lay 0 (.str "gap") := ⟨by decide +kernel, by simp [PyData.depth]⟩
theorem lay_told (j : Nat) (t : List Int) : Lay 2 (toldD j t) := by
  have h := Lay.tuple (f := fun d : PyData => d) (k := 1) (xs := [.str "told", .int (j : Nat), tlD t]) (by
    intro x hx
    simp only [List.mem_cons, List.not_mem_nil, or_false] at hx
    rcases hx with rfl | rfl | rfl
    · exact Lay.strT.mono (by decide)
    · exact (Lay.int _).mono (by decide)
    · exact Lay.tl _)
  rw [List.map_id'] at h
  exact h
theorem lay_gap (a b : Nat) : Lay 2 (gapD a b) := by
  have h := Lay.tuple (f := fun d : PyData => d) (k := 1) (xs := [.str "gap", .int (a : Nat), .int (b : Nat)]) (by
    intro x hx
    simp only [List.mem_cons, List.not_mem_nil, or_false] at hx
    rcases hx with rfl | rfl | rfl
    · exact Lay.strG.mono (by decide)
    · exact (Lay.int _).mono (by decide)
    · exact (Lay.int _).mono (by decide))
  rw [List.map_id'] at h
  exact h
theorem Lay.of_list {k : Nat} {ds : List PyData} (h : ∀ d ∈ ds, Lay k d) : Lay (k + 1) (.list ds) := by
  have := Lay.list (f := fun d : PyData => d) (xs := ds) h
  rw [List.map_id'] at this
  exact this
theorem lay_rows (L : List (Nat × List Int)) (js : List Nat) (lo : Nat) : Lay 3 (.list (rowsD L lo js)) := Lay.of_list fun d hd => by
  rcases rows_mem hd with ⟨a, b, rfl⟩ | ⟨j, _, rfl⟩
  · exact lay_gap a b
  · exact lay_told j _
theorem dok_told (j : Nat) {t : List Int} (h : t.length ≤ 10000000) : DOk 2 (toldD j t) := DOk.tuple (show 3 ≤ 10000000 by decide) fun e he => by
  simp only [List.mem_cons, List.not_mem_nil, or_false] at he
  rcases he with rfl | rfl | rfl
  · exact .sc (.inr (.inr (.inr ⟨_, rfl⟩)))
  · exact DOk.int _
  · exact DOk.tl h
theorem dok_gap (a b : Nat) : DOk 2 (gapD a b) := DOk.tuple (show 3 ≤ 10000000 by decide) fun e he => by
  simp only [List.mem_cons, List.not_mem_nil, or_false] at he
  rcases he with rfl | rfl | rfl
  · exact .sc (.inr (.inr (.inr ⟨_, rfl⟩)))
  · exact DOk.int _
  · exact DOk.int _
theorem dok_rows {L : List (Nat × List Int)} {js : List Nat} {lo : Nat} (h : js.length ≤ 1000000) (hL : ∀ x ∈ L, x.2.length ≤ 1000) : DOk 3 (.list (rowsD L lo js)) := by
  refine DOk.list (by have := rows_len' L js lo; omega) fun d hd => ?_
  rcases rows_mem hd with ⟨a, b, rfl⟩ | ⟨j, _, rfl⟩
  · exact dok_gap a b
  · refine dok_told j ?_
    unfold textOf
    cases e : L[j]? with
    | none => exact Nat.zero_le _
    | some x => exact Nat.le_trans (hL x (List.mem_of_getElem? e)) (by decide)
theorem TDs.erase {H : Hp} : ∀ {vs : List V} {ds : List PyData} (k : Nat), TDs H vs ds → TDs H (vs.eraseIdx k) (ds.eraseIdx k)
  | _, _, _, .nil => .nil
  | _, _, 0, .cons _ t => t
  | _, _, k + 1, .cons h t => .cons h (TDs.erase k t)
theorem erase_map {α β : Type} (f : α → β) : ∀ (xs : List α) (k : Nat), (xs.map f).eraseIdx k = (xs.eraseIdx k).map f
  | [], _ => rfl
  | _ :: _, 0 => rfl
  | x :: xs, k + 1 => by
    show f x :: (xs.map f).eraseIdx k = f x :: (xs.eraseIdx k).map f
    rw [erase_map f xs k]
theorem perm_erase {α : Type} : ∀ {xs : List α} {k : Nat} {x : α}, xs[k]? = some x → (x :: xs.eraseIdx k).Perm xs
  | [], _, _, h => by simp at h
  | y :: ys, 0, x, h => by
    have e : y = x := Option.some.inj h
    rw [e]
    exact List.Perm.refl _
  | y :: ys, k + 1, x, h => by
    have ih := perm_erase (xs := ys) (k := k) (x := x) (by simpa using h)
    exact (List.Perm.swap y x _).trans (ih.cons y)
theorem rising_of {ys ks : List Int} (hp : ys.Perm ks) (hs : ys.Pairwise (· ≤ ·)) (nd : ks.Nodup) : ys.Pairwise (· < ·) := by
  have h1 : ys.Nodup := hp.nodup_iff.mpr nd
  refine List.Pairwise.imp₂ (fun a b h1 h2 => ?_) hs h1
  omega
end Sky

/-! Frames of the first tellings; what gaps are; runs of frames. -/
namespace Sky
open PySem PySem.Spec PyProof.Rows L2
theorem lays_more' : ∀ (ss : List (List Int)) (x : List Int × List (Nat × List Int)), ∃ xs M, (ss.foldl lays1 x).1 = x.1 ++ xs ∧ (ss.foldl lays1 x).2.map (·.1) = x.2.map (·.1) ++ M ∧ ∀ s ∈ M, x.1.length ≤ s
  | [], x => ⟨[], [], by simp, by simp, by simp⟩
  | t :: r, x => by
    obtain ⟨xs, M, h1, h2, h3⟩ := lays_more' r (lays1 x t)
    refine ⟨laidN (x.2.length : Nat) t ++ xs, x.1.length :: M, ?_, ?_, ?_⟩
    · show (r.foldl lays1 (lays1 x t)).1 = _
      rw [h1, ← List.append_assoc]
      rfl
    · show (r.foldl lays1 (lays1 x t)).2.map (·.1) = _
      rw [h2]
      show (x.2 ++ [(x.1.length, t)]).map (·.1) ++ M = _
      rw [List.map_append, List.append_assoc]
      rfl
    · intro s hs
      rcases List.mem_cons.mp hs with e | e
      · omega
      · have := h3 s e
        have e2 : (lays1 x t).1.length = x.1.length + (t.length + 3) := by
          show (x.1 ++ laidN _ t).length = _
          rw [List.length_append, laidN_length]
        omega
theorem lays_more (ts ss : List (List Int)) : ∃ xs M, (laysAll (ts ++ ss)).1 = (laysAll ts).1 ++ xs ∧ (laysAll (ts ++ ss)).2.map (·.1) = (laysAll ts).2.map (·.1) ++ M ∧ ∀ s ∈ M, (laysAll ts).1.length ≤ s := by
  have := lays_more' ss (laysAll ts)
  unfold laysAll at *
  rw [List.foldl_append]
  exact this
theorem pad_app (z : Nat) (N : List Int) : ∃ p, padN z N = N ++ p := by
  unfold padN
  split
  · exact ⟨[], by simp⟩
  · exact ⟨_, rfl⟩
theorem firstOf_more {z c : Nat} (S M : List Nat) : firstOf z c (S ++ M) = (firstOf z c S).or (firstOf z c M) := by
  unfold firstOf
  rw [List.filter_append, List.map_append, List.head?_append]
theorem firstOf_late {z c : Nat} {M : List Nat} (h : ∀ s ∈ M, c * z + z ≤ s) : firstOf z c M = none := by
  unfold firstOf
  have e : M.filter (inFr z c) = [] := by
    rw [List.filter_eq_nil_iff]
    intro s hs
    have := h s hs
    unfold inFr
    simp
    omega
  rw [e]
  rfl
/-- the frames of the first tellings, but the last of them, are frames of all -/
theorem frm_first {z c : Nat} {N N' xs : List Int} {S M : List Nat} (hc : c * z + z ≤ N.length) (e : N' = N ++ xs) (hM : ∀ s ∈ M, N.length ≤ s) :
    frm z (padN z N) S c = frm z (padN z N') (S ++ M) c := by
  obtain ⟨p, e1⟩ := pad_app z N
  obtain ⟨p', e2⟩ := pad_app z N'
  rw [e1, e2, e, List.append_assoc, frm_more hc, frm_more hc]
  unfold frm
  rw [firstOf_more, firstOf_late (M := M) (fun s hs => by have := hM s hs; omega), Option.or_none]
theorem first_first {z c x : Nat} {S M : List Nat} (h : firstOf z c S = some x) : firstOf z c (S ++ M) = some x := by
  rw [firstOf_more, h]
  rfl
theorem count_le {z a b na nb : Nat} (hz : 0 < z) (hab : a ≤ b) (h1 : na * z < a + z) (h2 : b ≤ nb * z) : na ≤ nb := by
  have h3 : na * z < (nb + 1) * z := by rw [Nat.succ_mul]; omega
  have := Nat.lt_of_mul_lt_mul_right h3
  omega
/-! ### gaps -/
inductive Gaps : Nat → List PyData → Prop
  | nil (lo : Nat) : Gaps lo []
  | gap {lo hi : Nat} {d : PyData} {r : List PyData} : lo ≤ hi → Gaps (hi + 1) (d :: r) → Gaps lo (gapD lo hi :: d :: r)
  | told {j : Nat} {t : List Int} {r : List PyData} : Gaps (j + 1) r → Gaps j (toldD j t :: r)
theorem gaps_rows (L : List (Nat × List Int)) : ∀ (js : List Nat) (lo : Nat), js.Pairwise (· < ·) → (∀ j ∈ js, lo ≤ j) → Gaps lo (rowsD L lo js)
  | [], lo, _, _ => .nil lo
  | j :: r, lo, p, h => by
    have hj := h j (List.mem_cons_self)
    have ih := gaps_rows L r (j + 1) (List.pairwise_cons.mp p).2 fun k hk => (List.pairwise_cons.mp p).1 k hk
    show Gaps lo ((if lo < j then [gapD lo (j - 1)] else []) ++ (toldD j (textOf L j) :: rowsD L (j + 1) r))
    by_cases e : lo < j
    · rw [if_pos e]
      refine Gaps.gap (by omega) ?_
      rw [show j - 1 + 1 = j by omega]
      exact .told ih
    · rw [if_neg e]
      have e2 : lo = j := by omega
      rw [e2]
      exact .told ih
theorem gaps_told (z : Nat) (L : List (Nat × List Int)) (cs : List Nat) : Gaps 0 (rowsD L 0 (toldL z L cs)) :=
  gaps_rows L _ 0 (List.Pairwise.filter _ List.pairwise_lt_range) fun _ _ => Nat.zero_le _
theorem gaps_last : ∀ {lo : Nat} {ds : List PyData}, Gaps lo ds → ds ≠ [] → ∃ j t, ds.getLast? = some (toldD j t)
  | _, _, .nil _, h => absurd rfl h
  | _, _, .gap _ g, _ => by
    obtain ⟨j, t, e⟩ := gaps_last g (by simp)
    exact ⟨j, t, by rw [List.getLast?_cons_cons]; exact e⟩
  | _, _, .told (r := []) g, _ => ⟨_, _, rfl⟩
  | _, _, .told (r := d :: r) g, _ => by
    obtain ⟨j, t, e⟩ := gaps_last g (by simp)
    exact ⟨j, t, by rw [List.getLast?_cons_cons]; exact e⟩
/-! ### the first frames tell the first tellings -/
theorem filter_down {p : Nat → Bool} : ∀ n : Nat, (∀ i j, i ≤ j → j < n → p j = true → p i = true) → (List.range n).filter p = List.range ((List.range n).filter p).length
  | 0, _ => rfl
  | n + 1, h => by
    rw [List.range_succ, List.filter_append]
    by_cases e : p n = true
    · have e1 : (List.range n).filter p = List.range n := List.filter_eq_self.mpr fun i hi => h i n (Nat.le_of_lt (List.mem_range.mp hi)) (by omega) e
      rw [e1, List.filter_cons_of_pos e, List.filter_nil, List.length_append, List.length_range, ← List.range_succ]
      rfl
    · rw [List.filter_cons_of_neg e, List.filter_nil, List.append_nil]
      exact filter_down n fun i j h1 h2 => h i j h1 (by omega)
theorem told_down {z : Nat} {N : List Int} {L : List (Nat × List Int)} (hz : 0 < z) (h : Lays z N L) {low i j : Nat} (hij : i ≤ j) (hj : toldJ z L (List.range low) j = true) : toldJ z L (List.range low) i = true := by
  rcases Nat.eq_or_lt_of_le hij with e | e
  · rw [e]; exact hj
  unfold toldJ at hj ⊢
  cases ej : L[j]? with
  | none => rw [ej] at hj; cases hj
  | some x =>
    rw [ej] at hj
    have hjl := (List.getElem?_eq_some_iff.mp ej).1
    have hil : i < L.length := by omega
    have hi1 : i + 1 < L.length := by omega
    have ei := List.getElem?_eq_getElem hil
    have ei1 := List.getElem?_eq_getElem hi1
    rw [ei]
    have h1 := covers_iff.mp hj 0 (by omega)
    have h2 : L[i].1 + (L[i].2.length + 3) ≤ L[i + 1].1 := by
      rcases h.next i _ _ _ _ (by rw [ei]) (by rw [ei1]) with e | ⟨_, e⟩
      · omega
      · have := div_hi hz (L[i].1 + (L[i].2.length + 3))
        omega
    have h3 : L[i + 1].1 ≤ x.1 := h.S_at (show i + 1 ≤ j by omega) (by rw [List.getElem?_map, ei1]; rfl) (by rw [List.getElem?_map, ej]; rfl)
    refine covers_iff.mpr fun k hk => List.mem_range.mpr ?_
    have h4 := List.mem_range.mp h1
    exact Nat.lt_of_le_of_lt (Nat.div_le_div_right (by omega)) h4
theorem told_first {z : Nat} {N : List Int} {L : List (Nat × List Int)} (hz : 0 < z) (h : Lays z N L) (low : Nat) : toldL z L (List.range low) = List.range (toldL z L (List.range low)).length :=
  filter_down _ fun i j hij _ hj => told_down hz h hij hj
/-- apart -/
theorem told_apart {z : Nat} {L : List (Nat × List Int)} {cs cs' : List Nat} (h : ∀ c, c ∈ cs → c ∉ cs') {j : Nat} (hj : j ∈ toldL z L cs) (hj' : j ∈ toldL z L cs') : False := by
  have h1 := (List.mem_filter.mp hj).2
  have h2 := (List.mem_filter.mp hj').2
  unfold toldJ at h1 h2
  cases e : L[j]? with
  | none => rw [e] at h1; cases h1
  | some x =>
    rw [e] at h1 h2
    exact h _ (covers_iff.mp h1 0 (by omega)) (covers_iff.mp h2 0 (by omega))
theorem eqv_gap_told (a b j : Nat) (t : List Int) : PyData.eqv (gapD a b) (toldD j t) = false := by
  have e : (("gap" : Str) == "told") = false := by decide +kernel
  unfold gapD toldD
  simp [PyData.eqv, PyData.eqvAll, e]
theorem eqv_told_told {i j : Nat} (h : i ≠ j) (t u : List Int) : PyData.eqv (toldD i u) (toldD j t) = false := by
  have e : (((i : Nat) : Int) == ((j : Nat) : Int)) = false := by
    rw [beq_eq_false_iff_ne]
    omega
  unfold toldD
  simp only [PyData.eqv, PyData.eqvAll, e, Bool.false_and, Bool.and_false]
theorem rows_apart {z : Nat} {L : List (Nat × List Int)} {cs cs' : List Nat} (h : ∀ c, c ∈ cs → c ∉ cs') {j : Nat} (hj : j ∈ toldL z L cs) : ((rowsD L 0 (toldL z L cs')).any fun w => PyData.eqv w (toldD j (textOf L j))) = false := by
  rw [List.any_eq_false]
  intro w hw
  rcases rows_mem hw with ⟨a, b, rfl⟩ | ⟨k, hk, rfl⟩
  · rw [eqv_gap_told]; decide
  · rw [eqv_told_told (fun e => told_apart h hj (by rw [← e]; exact hk))]; decide
theorem TDs.drop {H : Hp} : ∀ {vs : List V} {ds : List PyData} (k : Nat), TDs H vs ds → TDs H (vs.drop k) (ds.drop k)
  | _, _, 0, h => h
  | _, _, _ + 1, .nil => .nil
  | _, _, k + 1, .cons _ t => TDs.drop k t
theorem TDs.take {H : Hp} : ∀ {vs : List V} {ds : List PyData} (k : Nat), TDs H vs ds → TDs H (vs.take k) (ds.take k)
  | _, _, 0, _ => .nil
  | _, _, _ + 1, .nil => .nil
  | _, _, k + 1, .cons h t => .cons h (TDs.take k t)
end Sky

/-! Rules of my own: a dict comprehension over a list, stored in a name; sorted of a dict with any number of ints for keys. -/
namespace Sky
open PySem PySem.Spec PyProof.Rows L2
section
variable {K : PySem.W.Frag}
/-- a dict comprehension's turns over a list that stands still -/
theorem dc_list {l : Addr} {ys : List V} {g : TG} {tt : TT} {tk tv : TE} {ws : List Nat} {τ : L2.St} {G : Hp} {dd : Addr} {fin : Hp → Prop} (Pv : Nat → Hp → Prop)
    (start : Pv 0 (upd G dd (.dK []))) (stays : ∀ i H, i ≤ ys.length → Pv i H → SqL K H l ys)
    (turn : ∀ i x H, ys[i]? = some x → Pv i H → g x (wipe τ ws) H fun σ2 H2 => wipe σ2 ws = wipe τ ws ∧ tt σ2 H2 fun b H3 =>
      if b = true then (tk σ2 H3 fun y H4 => tv σ2 H4 fun z H5 => ∃ kvs k, y = kV k ∧ H5 dd = some (.dK kvs) ∧ kvs.length < sizeLine ∧ Pv (i + 1) (upd H5 dd (.dK (putK kvs k z))))
      else Pv (i + 1) H3)
    (last : ∀ H, Pv ys.length H → fin H) :
    ∃ W : Nat → Nat → Hp → Prop, (∃ m, W 0 m (upd G dd (.dK []))) ∧ ∀ i m H, W i m H →
      ((Itl K l).stop i H ∧ fin H) ∨ ((Itl K l).go i H ∧ ∃ Nx : Hp → Prop, (∀ H', Nx H' → ∃ m', m' < m ∧ W (i + 1) m' H') ∧
        ∀ x H', (Itl K l).yld i H x H' → g x (wipe τ ws) H' fun σ2 H2 => wipe σ2 ws = wipe τ ws ∧ tt σ2 H2 fun b H3 =>
          if b = true then (tk σ2 H3 fun y H4 => tv σ2 H4 fun z H5 => ∃ kvs k, y = kV k ∧ H5 dd = some (.dK kvs) ∧ kvs.length < sizeLine ∧ Nx (upd H5 dd (.dK (putK kvs k z)))) else Nx H3) := by
  refine ⟨fun i m H => i ≤ ys.length ∧ m = ys.length - i ∧ Pv i H, ⟨ys.length, Nat.zero_le _, (Nat.sub_zero _).symm, start⟩, ?_⟩
  rintro i m H ⟨le, rfl, hv⟩
  have there := stays i H le hv
  by_cases lt : i < ys.length
  · refine .inr ⟨⟨ys, ys[i], there, List.getElem?_eq_getElem lt⟩, Pv (i + 1), fun H' w => ⟨ys.length - (i + 1), by omega, lt, rfl, w⟩, ?_⟩
    rintro x H' ⟨e, hy⟩
    subst e
    exact turn i x _ (hy ys there) hv
  · have e : i = ys.length := by omega
    subst e
    exact .inl ⟨⟨ys, there, Nat.le_refl _⟩, last H hv⟩
/-- enumerate(ys): each turn a new pair -/
theorem for_enum {l : Addr} {ys : List V} {g : TG} {tb : L2.TS} {D : Ends} {τ : L2.St} {G : Hp} (Pv : Nat → L2.St → Hp → Prop) (start : Pv 0 τ G) (stays : ∀ i σ H, i ≤ ys.length → Pv i σ H → SqL K H l ys)
    (turn : ∀ i x σ H T, ys[i]? = some x → Pv i σ H → H T = none → g (.ref T) σ (upd H T (.tup [.int (i : Nat), x])) fun σ2 H2 => tb { D with nx := Pv (i + 1), ct := Pv (i + 1), bk := D.nx } σ2 H2)
    (last : ∀ σ H, Pv ys.length σ H → D.nx σ H) :
    ∃ W : Nat → Nat → L2.St → Hp → Prop, (∃ m, W 0 m τ G) ∧ ∀ i m σ H, W i m σ H →
      ((Ite K l).stop i H ∧ D.nx σ H) ∨ ((Ite K l).go i H ∧ ∃ N : L2.St → Hp → Prop, (∀ σ' H', N σ' H' → ∃ m', m' < m ∧ W (i + 1) m' σ' H') ∧
        ∀ x H', (Ite K l).yld i H x H' → g x σ H' fun σ2 H2 => tb { D with nx := N, ct := N, bk := D.nx } σ2 H2) := by
  refine ⟨fun i m σ H => i ≤ ys.length ∧ m = ys.length - i ∧ Pv i σ H, ⟨ys.length, Nat.zero_le _, (Nat.sub_zero _).symm, start⟩, ?_⟩
  rintro i m σ H ⟨le, rfl, hv⟩
  have there := stays i σ H le hv
  by_cases lt : i < ys.length
  · refine .inr ⟨⟨ys, ys[i], there, List.getElem?_eq_getElem lt⟩, Pv (i + 1), fun σ' H' w => ⟨ys.length - (i + 1), by omega, lt, rfl, w⟩, ?_⟩
    rintro x H' ⟨T, y, rfl, hT, rfl, hy⟩
    exact turn i y σ H T (hy ys there) hv hT
  · have e : i = ys.length := by omega
    subst e
    exact .inl ⟨⟨ys, there, Nat.le_refl _⟩, last σ H hv⟩
/-! ### the keys of a dict -/
theorem len_of_sub {α : Type} [DecidableEq α] : ∀ {xs l : List α}, xs.Nodup → (∀ x ∈ xs, x ∈ l) → xs.length ≤ l.length
  | [], _, _, _ => Nat.zero_le _
  | x :: xs, l, nd, h => by
    have nd' := List.nodup_cons.mp nd
    have hx := h x (List.mem_cons_self ..)
    have ih := len_of_sub (l := l.erase x) nd'.2 fun y hy => (List.mem_erase_of_ne (fun e => nd'.1 (by rw [← e]; exact hy))).mpr (h y (List.mem_cons_of_mem _ hy))
    have h2 := List.length_erase_of_mem hx
    have h3 := List.length_pos_of_mem hx
    rw [List.length_cons]
    omega
theorem mem_keys {kvs : List (Key × V)} {k : Key} : k ∈ kvs.map (·.1) ↔ (valV kvs k).isSome = true := by
  rw [← valV_any, List.any_eq_true, List.mem_map]
  exact ⟨fun ⟨kv, hm, e⟩ => ⟨kv, hm, decide_eq_true e⟩, fun ⟨kv, hm, e⟩ => ⟨kv, hm, of_decide_eq_true e⟩⟩
theorem keys_put {kvs : List (Key × V)} {k : Key} {v : V} (nd : (kvs.map (·.1)).Nodup) : ((putK kvs k v).map (·.1)).Nodup := by
  cases e : valV kvs k with
  | none =>
    rw [L2.putK_new v e, List.map_append]
    refine List.nodup_append.mpr ⟨nd, by simp, fun a ha b hb => ?_⟩
    rw [List.mem_singleton.mp hb]
    intro q
    subst q
    have := mem_keys.mp ha
    rw [e] at this
    cases this
  | some x =>
    have h : (kvs.any fun kv => decide (kv.1 = k)) = true := by rw [valV_any, e]; rfl
    unfold putK
    rw [if_pos h, List.map_map]
    have : ((fun x : Key × V => x.1) ∘ fun kv : Key × V => if kv.1 = k then (kv.1, v) else kv) = fun x => x.1 := by
      funext kv
      show (if kv.1 = k then (kv.1, v) else kv).1 = kv.1
      split <;> rfl
    rw [this]
    exact nd
theorem keys_ints' : ∀ {kvs : List (Key × V)}, (∀ k ∈ kvs.map (·.1), ∃ i : Int, k = Sum.inl i) → ∃ ks : List Int, kvs.map (·.1) = ks.map Sum.inl
  | [], _ => ⟨[], rfl⟩
  | kv :: r, h => by
    obtain ⟨i, e⟩ := h kv.1 (by simp)
    obtain ⟨ks, e'⟩ := keys_ints' (kvs := r) fun k hk => h k (by rw [List.map_cons]; exact List.mem_cons_of_mem _ hk)
    exact ⟨i :: ks, by rw [List.map_cons, List.map_cons, e, e']⟩
end
section
variable {X : Cx}
theorem sw_trueD {kx vx : Expr} {gs : List Comprehension} {sc : Scope} {pos py : Pos} {y : Str} {l : Nat} {env : Env}
    (kind : env.scope.kind = .function) (isl : env.scope.names.lookup y = some .local) (line : (py.line == pos.line) = true)
    (free : (sc.names.any fun (n, k) => n == y && (k == .local || k == .cell)) = false) :
    swapsWith (.DictComp kx vx gs sc pos) (some (.Name y py)) l env = pure true := by
  have k1 : env.kindOf y = some .local := isl
  have k2 : env.blockKind = .function := by
    unfold Env.blockKind
    rw [kind]
    rfl
  unfold swapsWith
  simp only [k2, k1, free, Expr.pos, line]
  rfl
/-- name = {k: v for ..} on one line, the name a local -/
theorem ps_setDc {i : Nat} {y : Str} {py : Pos} {kx vx tg iter : Expr} {ifs : List Expr} {scope : Scope} {own : List (Str × Nat)} {pos spos : Pos} {wi : TI} {g : TG} {tt : TT} {tk tv : TE}
    (calm : X.calm = true) (hN : X.N.Nodup) (hy : X.N[i]? = some y) (loc : X.env.scope.names.lookup y = some .local)
    (sw : swapsWith (.DictComp kx vx [⟨tg, iter, ifs, 0⟩] scope pos) (some (.Name y py)) spos.line X.env = pure true)
    (hi : PI X tg iter wi) (ok : BlkOk X.N X.env.scope scope own)
    (hg : ∀ (s : Shared) (H : Hp) (C : Addr) (cl : List (Str × Addr)) (fp : List Addr), PG (X.blk s H scope (compEnvC scope cl C X.env) fp) tg g)
    (ht : ∀ (s : Shared) (H : Hp) (C : Addr) (cl : List (Str × Addr)) (fp : List Addr), PTs (X.blk s H scope (compEnvC scope cl C X.env) fp) ifs tt)
    (hk : ∀ (s : Shared) (H : Hp) (C : Addr) (cl : List (Str × Addr)) (fp : List Addr), PE (X.blk s H scope (compEnvC scope cl C X.env) fp) kx tk)
    (he : ∀ (s : Shared) (H : Hp) (C : Addr) (cl : List (Str × Addr)) (fp : List Addr), PE (X.blk s H scope (compEnvC scope cl C X.env) fp) vx tv)
    (hs : ∀ x, foldedSetIterable iter X.env x = pure x := by intro _; rfl) :
    PS X (.Assign [.Name y py] (.DictComp kx vx [⟨tg, iter, ifs, 0⟩] scope pos) spos) (tAsg (tDc wi g tt tk tv (own.map (·.2))) (gName i)) := by
  constructor
  intro pins s σ H D I h
  rw [exec_Assign_Name_used _ _ _ _ sw]
  apply wpAny_bind
  apply wpAny_standAt
  apply wpAny_bind
  have want : tDc wi g tt tk tv (own.map (·.2)) σ H (fun x H1 => gName i x σ H1 D.nx) := h
  show wpAny _ X.A (do
    let _ ← comprehension (.DictComp kx vx [⟨tg, iter, ifs, 0⟩] scope pos) scope X.env (firstIterPos [⟨tg, iter, ifs, 0⟩] pos) newDict false (eval iter X.env) (some (assign (.Name y py) X.env))) _ _ s
  apply wpAny_bind
  refine thn (dc_core (Qf := fun _ s' => SP X pins D .next s') calm hN I hi ok hg ht hk he hs want ?_) fun _ s' q => wpAny_pure (wpAny_pure q)
  intro L C s' m H' J q hn fp
  show wpAny _ _ (assign (.Name y py) X.env (.ref L)) _ _ _
  refine wpAny_assign_Name (store_ok2 (v := V.ref L) J hN hy (.inl loc) rfl ?_ (.inr loc))
  rintro s2 J2 ⟨a, sb, ha⟩
  obtain ⟨u0, u1, u2, u3, u4, u5⟩ := fp
  have apart : C ≠ a := by
    rcases ha with z | z
    · rw [z]
      exact u1
    · exact fun e => u4 y a z e.symm
  refine ⟨m, hn.sameBut sb apart, fun h3 sb3 => ⟨_, H', ?_, q⟩⟩
  exact J2.turned (t' := s2.toks) (fun b o hb e => (sb3.2 b hb).trans e) u0 u1 u3 u4 u5
theorem u65 {k : Nat} {A : Around} (r : Room k A) : A.units + 65 < cLine := by
  have := r.un
  omega
theorem op_notInDK {K : PySem.W.Frag} (h : X.K = K) (hu : X.A.units + 65 < cLine) : OpR X (compareOp .NotIn) (rNotInD K) := h ▸ op_notInD hu
theorem op_catTK {K : PySem.W.Frag} (h : X.K = K) : OpR X (binaryOp .Add) (rCatT K) := h ▸ op_catT
theorem op_inDK {K : PySem.W.Frag} (h : X.K = K) (hu : X.A.units + 65 < cLine) : OpR X (compareOp .In) (rInD K) := h ▸ op_inD hu
/-- sorted(d): the keys all ints, any number of them -/
def rSortDk : List V → Hp → VK → Prop := fun xs H Q => ∃ (a : Addr) (kvs : List (Key × V)) (ks : List Int), xs = [.ref a] ∧ H a = some (.dK kvs) ∧ kvs.map (·.1) = ks.map Sum.inl ∧
  ∀ (ys : List Int) (p : Addr), ys.Perm ks → ys.Pairwise (· ≤ ·) → H p = none → Q (.ref p) (upd H p (.lst (ys.map V.int)))
theorem keys_ints {P : Program} {w : World} : ∀ {vs : List (Key × Value)} {us : List Value} {ks : List Int}, vs.map (·.1) = ks.map Sum.inl → us.length = vs.length →
    (∀ (j : Nat) (v : Value), us[j]? = some v → ∃ k x, vs[j]? = some (k, x) ∧ (mixKind P w).is k v = true) → IntsAre us ks
  | [], [], [], _, _, _ => .nil
  | [], [], _ :: _, e, _, _ => by simp at e
  | _ :: _, _, [], e, _, _ => by simp at e
  | [], _ :: _, _, _, e, _ => by simp at e
  | _ :: _, [], _, _, e, _ => by simp at e
  | (k, x) :: vs, u :: us, n :: ks, e, l, h => by
    rw [List.map_cons, List.map_cons] at e
    injection e with e1 e2
    obtain ⟨k', x', a, b⟩ := h 0 u rfl
    have ek : (k, x) = (k', x') := Option.some.inj a
    injection ek with ek _
    subst ek
    have ek : k = Sum.inl n := e1
    subst ek
    rcases keyIs_shape (show keyIs (Sum.inl n) u = true from b) with ⟨i, t, q, eu⟩ | ⟨z, t, q, eu⟩
    · cases q
      subst eu
      exact .cons _ _ (keys_ints (P := P) (w := w) e2 (by simpa using l) fun j v hv => by
        obtain ⟨k2, x2, c, d⟩ := h (j + 1) v (by simpa using hv)
        exact ⟨k2, x2, by simpa using c, d⟩)
    · cases q
theorem call_sortedDk (calm : X.calm = true) : CallR X (.builtin "sorted") rSortDk := by
  intro pins s σ H xs us Q I r h
  obtain ⟨a, kvs, ks, rfl, hd, hks, fin⟩ := h
  obtain ⟨u, rfl, ru⟩ := vals1 r
  cases ru
  obtain ⟨small, lo, vs, rel, held⟩ := dk_rd I.hok (Rd.of hd)
  obtain ⟨ep, there⟩ := held.dictAt
  have keys : vs.map (·.1) = ks.map Sum.inl := rel.keys.symm.trans hks
  have many : vs.length = ks.length := by
    have e := congrArg List.length keys
    rwa [List.length_map, List.length_map] at e
  have kvl : kvs.length = ks.length := by
    have e := congrArg List.length hks
    rwa [List.length_map, List.length_map] at e
  have line : vs.length ≤ sizeLine := by rw [many, ← kvl]; exact small
  refine Calls.call_function_entry kind_sorted plain_sorted entry_sorted (args_sorted1 _) ?_
  unfold Builtin.«sorted»
  apply wpAny_bind (m := checkCount "sorted" 1 1 _)
  apply wpAny_pure
  apply wpAny_bind
  refine PySem.W.kdu_collect (A := X.A.in1) (PySem.W.kdl_dict (knd := mixKind X.prog X.w) (kvs := vs) (ep := ep) lo) (I.ok.hd calm) there line ?_
  intro h1 tk acc kept items
  have len : acc.toList.length = vs.length := by rw [Array.length_toList]; exact items.1
  have nums : IntsAre acc.toList ks := keys_ints (P := X.prog) (w := X.w) keys len fun j v e => by
    obtain ⟨k, x, e1, e2⟩ := items.2 j v (by rw [← Array.getElem?_toList]; exact e)
    exact ⟨k, x, e1, e2⟩
  have J : Inv X pins σ H { s with heap := h1, toks := tk } := I.kept kept
  have line' : acc.toList.length ≤ sizeLine := by rw [len]; exact line
  apply wpAny_bind
  refine wpAny_newList ?_ line'
  have laid : (h1.push (seqObj "list" acc.toList.toArray 0)).get? h1.objs.size = some (seqObj "list" acc.toList.toArray 0) := Heap.get?_push_size _ rfl
  show wpAny _ _ _ _ _ { s with heap := h1.push (seqObj "list" acc.toList.toArray 0), toks := tk }
  apply wpAny_bind
  apply wpAny_holding
  refine wpAny_call_entry slot_list_sort ⟨_, laid, rfl⟩ entry_list_sort ?_ (args_list_sort _)
  refine SrtO.list_sort_ord (s := { s with heap := h1.push (seqObj "list" acc.toList.toArray 0), toks := tk }) SrtO.swo_int laid line' (fun two => SrtO.ints_sortable nums two) ?_
  intro out srt stb
  refine ⟨_, rfl, ?_⟩
  obtain ⟨g1, g2, g3⟩ := SrtO.ints_out nums srt stb
  obtain ⟨e', at'⟩ := sortedHeap_at (vs := acc.toList) (out := out.toArray) laid
  have fits : ((out.map SrtO.iv).map V.int).length ≤ sizeLine := by
    rw [List.length_map, g2.length_eq, ← kvl]
    exact small
  refine wpAny_pure ⟨_, rfl, .ref h1.objs.size, upd H h1.objs.size (.lst ((out.map SrtO.iv).map V.int)), ?_, rfl, fin _ _ g2 g3 (J.hok.fresh (Nat.le_refl _))⟩
  refine J.laid (t' := tk) ?_ (Nat.le_refl _) ⟨fits, out, e', vals_of_ints g1, at'⟩
  intro b o e
  have lt : b < h1.objs.size := Heap.lt_size e
  rw [sortedHeap_old (Nat.ne_of_lt lt) (by rw [size_push']; exact Nat.lt_succ_of_lt lt)]
  exact Heap.get?_push_of_some _ e
end
end Sky

/-! list(d.values()) -/
namespace L2
open PySem PySem.Spec PyProof.Rows
section
variable {X : Cx} {o : Expr} {p pos apos mpos : Pos} {td : TE}
/-- list(o.values()): the values as they stand -/
def tListVals (td : TE) : TE := fun σ H Q => td σ H fun x H1 => ∃ a kvs, x = V.ref a ∧ H1 a = some (.dK kvs) ∧ ∀ q, H1 q = none → Q (.ref q) (upd H1 q (.lst (kvs.map (·.2))))
/-- the view that o.values() lays down -/
abbrev viewObj (a : Addr) : Obj := { cls := .type "dict_values", data := .fields #[.ref a] }
abbrev valuesCall (o : Expr) (pa pm : Pos) : Expr := .Call (.Attribute o "values" pa) [] [] pm
theorem pe_listVals (calm : X.calm = true) (free : Gl X "list") (unset : X.mg "list" = none) (sub : PE X o td)
    (plain : attributeBase o "values" X.env (eval o X.env) = eval o X.env := by rfl) (line : (apos.endLine == mpos.line) = true := by rfl)
    (star : starEach [valuesCall o apos mpos] X.env = [(false, eval (valuesCall o apos mpos) X.env)] := by rfl) :
    PE X (.Call (.Name "list" p) [valuesCall o apos mpos] [] pos) (tListVals td) := by
  constructor
  intro pins s σ G R inv told
  refine wpAny_Call_Name_kw (ld_blt inv free unset (u := .type "list") (by first | rfl | decide +kernel) ?_ (by decide +kernel) (by decide +kernel))
  rw [star]
  refine PySem.callWith_type1 (wpAny_Call_method0_late plain line ?_)
  refine thn (sub.run pins s σ G _ inv told) ?_
  rintro v t ⟨x, G1, inv1, rx, a, kvs, rfl, isD, fin⟩
  cases rx
  obtain ⟨few, low, ws, rel, held⟩ := dk_of inv1.hok isD
  obtain ⟨ep, stands⟩ := held.dictAt
  have copy := stands
  obtain ⟨ob, _, at', exact', _⟩ := copy
  refine ⟨"dict", "dict.values", F.plainAttrs_dict, F.slot_dict_values,
    F.type_dict_values, ⟨ob, at', exact'.1⟩, ?_, Calls.callWith_builtin rfl (PySem.evalArgs_none ?_)⟩
  · intro _ same
    cases same
    exact ⟨ob, at', exact'.2.1⟩
  refine call_meetsIn F.slot_dict_values ⟨ob, at', exact'.1⟩
    F.entry_dict_values (F.args_dict_values_1 _)
    (meets_dict_values (mixKind X.prog X.w) a low) ⟨⟨ws, held⟩, ?_⟩
  have grown : ∀ b u, t.heap.get? b = some u → (t.heap.push (viewObj a)).get? b = some u := fun _ _ => Heap.get?_push_of_some _
  have still : (t.heap.push (viewObj a)).DictAt (mixKind X.prog X.w) a ws ep := stands.keep grown
  have many : kvs.length = ws.length := KV.length rel
  have more : (t.heap.push (viewObj a)).objs.size = t.heap.objs.size + 1 := Heap.size_push _ _
  have behind : t.heap.objs.size ≤ (t.heap.push (viewObj a)).objs.size := by omega
  refine PySem.W.kdl_call (PySem.W.kdl_values (knd := mixKind X.prog X.w) (kvs := ws) (ep := ep))
    (inv.ok.hd calm) ⟨⟨_, Heap.get?_push_size _ rfl, rfl, rfl⟩, still⟩ (by rw [← many]; exact few) ?_
  intro h2 tk acc c kept laid items
  have ok : ObjOk X.prog X.w (upd G1 (t.heap.push (viewObj a)).objs.size (.lst (kvs.map (·.2)))) h2 (t.heap.push (viewObj a)).objs.size (.lst (kvs.map (·.2))) := by
    refine ⟨by rw [List.length_map]; exact few, acc.toList, c, ?_, by rw [Array.toArray_toList]; exact laid⟩
    have size : acc.toList.length = acc.size := by simp
    apply vals_of_at
    · rw [List.length_map, size, items.1, many]
    · intro j x u ex eu
      obtain ⟨k, ek⟩ := items.2 j u (by rw [← Array.getElem?_toList]; exact eu)
      obtain ⟨y, ey, ry⟩ := KV.at' rel ek
      rw [List.getElem?_map, ey] at ex
      cases ex
      exact ry
  exact ⟨.ref _, _, inv1.laid (fun b u e => kept b u (grown b u e)) behind ok, rfl, fin _ (inv1.hok.fresh behind)⟩
/-! max(d, default=n) of a dict whose keys are ints -/
def rMaxDk : List V → List V → Hp → VK → Prop := fun vs zs H Q => ∃ (a : Addr) (kvs : List (Key × V)) (ks : List Int) (d : Int), vs = [V.ref a] ∧ zs = [V.int d] ∧ H a = some (.dK kvs) ∧ kvs.map (·.1) = ks.map Sum.inl ∧ (ks = [] → Q (.int d) H) ∧ ∀ m, m ∈ ks → (∀ j ∈ ks, j ≤ m) → Q (.int m) H
theorem argBest_gt (f : Nat → Int) : ∀ n : Nat, PySem.argBest (fun i j => decide (f i > f j)) n ≤ n ∧ ∀ i, i ≤ n → f i ≤ f (PySem.argBest (fun i j => decide (f i > f j)) n)
  | 0 => ⟨Nat.le_refl _, fun i hi => by
      have : i = 0 := by omega
      subst this
      exact Int.le_refl _⟩
  | n + 1 => by
    obtain ⟨h1, h2⟩ := argBest_gt f n
    have e : PySem.argBest (fun i j => decide (f i > f j)) (n + 1) = if decide (f (n + 1) > f (PySem.argBest (fun i j => decide (f i > f j)) n)) = true then n + 1 else PySem.argBest (fun i j => decide (f i > f j)) n := rfl
    rw [e]
    by_cases c : f (n + 1) > f (PySem.argBest (fun i j => decide (f i > f j)) n)
    · rw [if_pos (decide_eq_true c)]
      refine ⟨Nat.le_refl _, fun i hi => ?_⟩
      rcases Nat.lt_or_ge i (n + 1) with z | z
      · have := h2 i (by omega)
        omega
      · have : i = n + 1 := by omega
        subst this
        exact Int.le_refl _
    · rw [if_neg (by rw [decide_eq_true_eq]; exact c)]
      refine ⟨by omega, fun i hi => ?_⟩
      rcases Nat.lt_or_ge i (n + 1) with z | z
      · exact h2 i (by omega)
      · have : i = n + 1 := by omega
        subst this
        omega
theorem cr_maxDk (hc : X.calm = true) : CallRK X (.builtin "max") [Str.ofString "default"] rMaxDk := by
  intro pins s σ H vs zs us ws Q I r rz h
  obtain ⟨a, kvs, ks, d, rfl, rfl, ha, hks, q0, q1⟩ := h
  obtain rfl := Vals.ref1 r
  obtain ⟨w1, rfl, e1⟩ := vals1 rz
  obtain ⟨td, rfl⟩ : ∃ t, w1 = Value.int d t := e1
  obtain ⟨z, lo, vs, rel, held⟩ := dk_rd I.hok (Rd.of ha)
  obtain ⟨ep, there⟩ := held.dictAt
  have keys : vs.map (·.1) = ks.map Sum.inl := rel.keys.symm.trans hks
  have many : vs.length = ks.length := by
    have e := congrArg List.length keys
    rwa [List.length_map, List.length_map] at e
  have hval : ∀ (i : Nat) (v : Value), (∃ k x, vs[i]? = some (k, x) ∧ (mixKind X.prog X.w).is k v = true) → ∃ t, v = Value.int (ks.getD i 0) t := fun i v ⟨k, x, e1, e2⟩ => by
    have h1 : (vs.map (·.1))[i]? = some k := by rw [List.getElem?_map, e1] <;> rfl
    rw [keys, List.getElem?_map] at h1
    obtain ⟨j, hj, ek⟩ := Option.map_eq_some_iff.mp h1
    subst ek
    rcases keyIs_shape (k := Sum.inl j) (v := v) e2 with ⟨i', t, g1, g2⟩ | ⟨x', t, g1, g2⟩
    · injection g1 with g1
      subst g1
      exact ⟨t, by rw [g2, List.getD_eq_getElem?_getD, hj] <;> rfl⟩
    · cases g1
  obtain ⟨oI, St, hit, W, st0⟩ := (PySem.W.kdl_dict (prog := X.prog) (w := X.w) (knd := mixKind X.prog X.w) (kvs := vs) (ep := ep) lo).iter X.A.in1 s (I.ok.hd hc) there
  have hlt := there.lt_size
  refine PySem.call_max_walkD (hit _ _ ⟨_, _, _, _, _, _, _, s.heap, (fun i j => decide (ks.getD i 0 > ks.getD j 0)), rfl, W.toS, st0, fun b hb => ?_, fun b o e hb => ?_, fun b o e => Heap.get?_push_of_some _ e, fun hz s' m => ?_, fun hp => ⟨fun i j vi vj s2 Q E _ hi hj hq => CmpOf.ints_gt (fun i => ks.getD i 0) hval i j vi vj s2 Q E hi hj hq, fun v s' hP m => ?_⟩⟩)
  · show b < (s.heap.push _).objs.size
    rw [Heap.size_push]
    rcases List.mem_cons.mp hb with e | hb
    · rw [e]
      exact Nat.lt_succ_self _
    · rw [List.mem_singleton.mp hb]
      exact Nat.lt_succ_of_lt hlt
  · exact absurd (Heap.lt_size e) ((List.mem_singleton.mp hb) ▸ Nat.lt_irrefl _)
  · obtain ⟨h', tk, rfl, hk'⟩ := PySem.W.moved_old rfl rfl m
    exact ⟨.int d, H, I.kept (t' := tk) hk', ⟨td, rfl⟩, q0 (List.eq_nil_of_length_eq_zero (by omega))⟩
  · obtain ⟨h', tk, rfl, hk'⟩ := PySem.W.moved_old rfl rfl m
    obtain ⟨t, rfl⟩ := hval _ v hP
    obtain ⟨b1, b2⟩ := argBest_gt (fun i => ks.getD i 0) (vs.length - 1)
    have hb : PySem.argBest (fun i j => decide (ks.getD i 0 > ks.getD j 0)) (vs.length - 1) < ks.length := by omega
    refine ⟨.int _, H, I.kept (t' := tk) hk', ⟨t, rfl⟩, q1 _ ?_ fun j hj => ?_⟩
    · rw [List.getD_eq_getElem?_getD, List.getElem?_eq_getElem hb]
      exact List.getElem_mem hb
    · obtain ⟨i, hi, e⟩ := List.mem_iff_getElem.mp hj
      have e2 : ks.getD i 0 = j := by rw [List.getD_eq_getElem?_getD, List.getElem?_eq_getElem hi, ← e] <;> rfl
      rw [← e2]
      exact b2 i (by omega)
/-! a list walked within a comprehension: the written part is told -/
theorem pi_listK {K : PySem.W.Frag} {X : Cx} {tg e : Expr} {te : TE} (h : X.K = K) (he : PE X e te) : PI X tg e (iList K te) := h ▸ pi_list he
end
end L2

/-! A rule of my own: name = {k: v for .. in .. for .. in ..}, keys ints or texts, no tests. -/
namespace Sky
open PySem PySem.Spec PyProof.Rows L2
/-- the comprehension -/
abbrev dc2 (kx vx ta ia tb ib : Expr) (sc : Scope) (ps : Pos) : Expr := .DictComp kx vx [⟨ta, ia, [], 0⟩, ⟨tb, ib, [], 0⟩] sc ps
section
variable (kx vx ta ia tb ib : Expr) (sc : Scope) (ps : Pos) (it acc : Value) (D : Addr) (en : Env)
theorem dc2_outer : compTurn (dc2 kx vx ta ia tb ib sc ps) 0 it acc en = (do
    standAt ia.pos
    let nx ← pyNext it
    match nx with
    | none => pure (.done .next)
    | some v => do
      letOwnedTupleGo ta it v
      assign ta en v
      let x ← eval ib en
      standAt ib.pos
      let x2 ← foldedSetIterable ib en x
      let j ← holding [x2] (pyIter x2)
      let _ ← runOwn (.compStart (dc2 kx vx ta ia tb ib sc ps) 1 j acc en) en
      again (.compLoop (dc2 kx vx ta ia tb ib sc ps) 0 it acc en)) := by rfl
theorem dc2_inner : compTurn (dc2 kx vx ta ia tb ib sc ps) 1 it (.ref D) en = (do
    standAt ib.pos
    let nx ← pyNext it
    match nx with
    | none => pure (.done .next)
    | some v => do
      letOwnedTupleGo tb it v
      assign tb en v
      (do
        let kv ← eval kx en
        let vv ← holding [kv] (eval vx en)
        standAt { kx.pos with endLine := vx.pos.endLine, endCol := vx.pos.endCol }
        holding [kv, vv] (dictSet D kv vv))
      again (.compLoop (dc2 kx vx ta ia tb ib sc ps) 1 it (.ref D) en)) := by rfl
end
section
variable {prog : Program} {w : World} {A : Around} {R : Result → Shared → Prop} {s : Shared} {kx vx ta ia tb ib : Expr} {sc : Scope} {ps : Pos} {it acc : Value} {D : Addr} {en : Env}
/-- what a raise within does -/
abbrev off (prog : Program) (w : World) (A : Around) (en : Env) (R : Result → Shared → Prop) : Value → Shared → Prop := notedBy (model prog w) A en fun x t => R (.error x) t
theorem dc2_walk (fold : ∀ x, foldedSetIterable ib en x = pure x) (J : Nat → Shared → Prop)
    (step : ∀ n t, J n t → wpAny (model prog w) A (pyNext it) (fun got t1 => match got with
      | none => R (.ok .next) t1
      | some v => wpAny (model prog w) A (letOwnedTupleGo ta it v) (fun _ t2 => wpAny (model prog w) A (assign ta en v) (fun _ t3 =>
          wpAny (model prog w) A (eval ib en) (fun x t4 => wpAny (model prog w) A (pyIter x) (fun jt t5 =>
            codeAny (model prog w) A (.compStart (dc2 kx vx ta ia tb ib sc ps) 1 jt acc en) (fun r t6 => match r with
              | .ok _ => ∃ k, k < n ∧ J k t6
              | .error _ => False) t5) (off prog w A en R) t4) (off prog w A en R) t3) (off prog w A en R) t2) (off prog w A en R) t1) (off prog w A en R) t)
    (n : Nat) (start : J n s) : codeAny (model prog w) A (.compLoop (dc2 kx vx ta ia tb ib sc ps) 0 it acc en) R s := by
  apply codeAny_loop rfl J _ n start
  intro n t hJ
  show wpAny _ A ((compTurn (dc2 kx vx ta ia tb ib sc ps) 0 it acc en).onRaise (fun x => do noteFrame x en; theTreesLotGoes x)) _ _ t
  apply wpAny_noted
  rw [dc2_outer]
  apply wpAny_bind; apply wpAny_standAt; apply wpAny_bind
  refine wpAny_mono (step n t hJ) (fun got t1 h1 => ?_) fun _ _ z => z
  match got, h1 with
  | none, h1 => exact wpAny_pure h1
  | some v, h1 =>
    apply wpAny_bind
    refine wpAny_mono h1 (fun _ t2 h2 => ?_) fun _ _ z => z
    apply wpAny_bind
    refine wpAny_mono h2 (fun _ t3 h3 => ?_) fun _ _ z => z
    apply wpAny_bind
    refine wpAny_mono h3 (fun x t4 h4 => ?_) fun _ _ z => z
    apply wpAny_bind; apply wpAny_standAt; apply wpAny_bind
    refine wpAny_of_eq (fold x) ?_
    apply wpAny_bind; apply wpAny_holding
    refine wpAny_mono h4 (fun jt t5 h5 => ?_) fun _ _ z => z
    apply wpAny_bind
    refine wpAny_runOwn ?_
    rw [Around.mark_none]
    refine codeAny_mono h5 fun r t6 h6 => ?_
    match r, h6 with
    | .ok f, h6 => exact wpAny_pure ⟨rfl, h6⟩
    | .error e, h6 => exact False.elim h6
theorem dc2_walk1 (J : Nat → Shared → Prop)
    (step : ∀ n t, J n t → wpAny (model prog w) A (pyNext it) (fun got t1 => match got with
      | none => R (.ok .next) t1
      | some v => wpAny (model prog w) A (letOwnedTupleGo tb it v) (fun _ t2 => wpAny (model prog w) A (assign tb en v) (fun _ t3 =>
          wpAny (model prog w) A (eval kx en) (fun a t4 => wpAny (model prog w) A (eval vx en) (fun b t5 =>
            wpAny (model prog w) A (dictSet D a b) (fun _ t6 => ∃ k, k < n ∧ J k t6) (off prog w A en R) t5) (off prog w A en R) t4) (off prog w A en R) t3) (off prog w A en R) t2) (off prog w A en R) t1) (off prog w A en R) t)
    (n : Nat) (start : J n s) : codeAny (model prog w) A (.compLoop (dc2 kx vx ta ia tb ib sc ps) 1 it (.ref D) en) R s := by
  apply codeAny_loop rfl J _ n start
  intro n t hJ
  show wpAny _ A ((compTurn (dc2 kx vx ta ia tb ib sc ps) 1 it (.ref D) en).onRaise (fun x => do noteFrame x en; theTreesLotGoes x)) _ _ t
  apply wpAny_noted
  rw [dc2_inner]
  apply wpAny_bind; apply wpAny_standAt; apply wpAny_bind
  refine wpAny_mono (step n t hJ) (fun got t1 h1 => ?_) fun _ _ z => z
  match got, h1 with
  | none, h1 => exact wpAny_pure h1
  | some v, h1 =>
    apply wpAny_bind
    refine wpAny_mono h1 (fun _ t2 h2 => ?_) fun _ _ z => z
    apply wpAny_bind
    refine wpAny_mono h2 (fun _ t3 h3 => ?_) fun _ _ z => z
    apply wpAny_bind; apply wpAny_bind
    refine wpAny_mono h3 (fun a t4 h4 => ?_) fun _ _ z => z
    apply wpAny_bind; apply wpAny_holding
    refine wpAny_mono h4 (fun b t5 h5 => ?_) fun _ _ z => z
    apply wpAny_bind; apply wpAny_standAt; apply wpAny_holding
    refine wpAny_mono h5 (fun _ t6 h6 => ?_) fun _ _ z => z
    exact wpAny_pure ⟨rfl, h6⟩
/-- the inner clause begins -/
theorem dc2_start1 (self : codeAny (model prog w) A (.compLoop (dc2 kx vx ta ia tb ib sc ps) 1 it acc en) R s)
    (other : wpAny (model prog w) A (pyIter it) (fun jt t => codeAny (model prog w) A (.compLoop (dc2 kx vx ta ia tb ib sc ps) 1 jt acc en) R t) (off prog w A en R) s) :
    codeAny (model prog w) A (.compStart (dc2 kx vx ta ia tb ib sc ps) 1 it acc en) R s := by
  apply codeAny_of_tree
  show wpAny _ _ ((compStart (dc2 kx vx ta ia tb ib sc ps) 1 it acc en).onRaise (fun x => do noteFrame x en; standAt theWindowsPlace)) _ _ s
  apply wpAny_notedAt
  unfold compStart
  show wpAny _ _ (ask >>= _) _ _ s
  apply wpAny_bind; apply wpAny_askSetting; apply wpAny_ite
  split
  · exact wpAny_bind (wpAny_pure (wpAny_pure (And.intro rfl self)))
  · apply wpAny_bind; apply wpAny_rule
    show wpAny _ _ (standAt ib.pos >>= _) _ _ s
    apply wpAny_bind; apply wpAny_standAt; apply wpAny_bind
    exact wpAny_mono other (fun jt t h => wpAny_pure (And.intro rfl h)) fun _ _ z => z
end
section
variable {X : Cx}
/-- the reading: for each item of the first source the second source's own loop, from which the first's next turn is reached -/
def tDc2 (wi : TI) (ga : TG) (wj : TI) (gb : TG) (tk tv : TE) (va vb : List Nat) : TE := fun σ H Q =>
  wi σ H fun J G1 => ∀ D, G1 D = none →
    ∃ W : Nat → Nat → Hp → Prop, (∃ m, W 0 m (upd G1 D (.dK []))) ∧ ∀ i m G, W i m G →
      (J.stop i G ∧ Q (.ref D) G) ∨
      (J.go i G ∧ ∃ Nx : Hp → Prop, (∀ G', Nx G' → ∃ m', m' < m ∧ W (i + 1) m' G') ∧ ∀ x G', J.yld i G x G' →
        ga x (wipe σ va) G' fun τ G2 => wipe τ va = wipe σ va ∧
          wj τ G2 fun L G3 => ∃ V1 : Nat → Nat → Hp → Prop, (∃ k, V1 0 k G3) ∧ ∀ j k F, V1 j k F →
            (L.stop j F ∧ Nx F) ∨
            (L.go j F ∧ ∃ Ny : Hp → Prop, (∀ F', Ny F' → ∃ k', k' < k ∧ V1 (j + 1) k' F') ∧ ∀ y F', L.yld j F y F' →
              gb y (wipe τ vb) F' fun ρ F2 => wipe ρ vb = wipe τ vb ∧
                tk ρ F2 fun a F3 => tv ρ F3 fun b F4 => ∃ kvs key, a = kV key ∧ F4 D = some (.dK kvs) ∧ kvs.length < sizeLine ∧ Ny (upd F4 D (.dK (putK kvs key b)))))
theorem dc2_all {pins : List (Addr × Obj)} {u : Shared} {σ : L2.St} {H : Hp} {Q : VK} {kx vx ta ia tb ib : Expr} {sc : Scope} {own : List (Str × Nat)} {vb : List Nat} {ps pf : Pos} {wi wj : TI} {ga gb : TG} {tk tv : TE} {use : Option (Value → Sem Unit)} {Qf : Value → Shared → Prop}
    (calm : X.calm = true) (nd : X.N.Nodup) (I0 : Inv X pins σ H u) (pa : PI X ta ia wi) (ok : BlkOk X.N X.env.scope sc own) (sub : ∀ i ∈ vb, i ∈ own.map (·.2))
    (pga : ∀ (u : Shared) (G : Hp) (C : Addr) (cl : List (Str × Addr)) (fp : List Addr), PG (X.blk u G sc (compEnvC sc cl C X.env) fp) ta ga)
    (pb : ∀ (u : Shared) (G : Hp) (C : Addr) (cl : List (Str × Addr)) (fp : List Addr), PI (X.blk u G sc (compEnvC sc cl C X.env) fp) tb ib wj)
    (pgb : ∀ (u : Shared) (G : Hp) (C : Addr) (cl : List (Str × Addr)) (fp : List Addr), PG (X.blk u G sc (compEnvC sc cl C X.env) fp) tb gb)
    (pk : ∀ (u : Shared) (G : Hp) (C : Addr) (cl : List (Str × Addr)) (fp : List Addr), PE (X.blk u G sc (compEnvC sc cl C X.env) fp) kx tk)
    (pv : ∀ (u : Shared) (G : Hp) (C : Addr) (cl : List (Str × Addr)) (fp : List Addr), PE (X.blk u G sc (compEnvC sc cl C X.env) fp) vx tv)
    (fa : ∀ x, foldedSetIterable ia X.env x = pure x) (fb : ∀ en x, foldedSetIterable ib en x = pure x)
    (want : tDc2 wi ga wj gb tk tv (own.map (·.2)) vb σ H Q)
    (last : ∀ D C u' m G', Inv X pins σ G' u' → Q (.ref D) G' → u'.heap.Ns C m → FpOk X pins G' C → compPost (model X.prog X.w) X.A X.xe use Qf (.ref D) C (.ok .next) u') :
    wpAny (model X.prog X.w) X.A (comprehension (dc2 kx vx ta ia tb ib sc ps) sc X.env pf newDict false (eval ia X.env) use) Qf X.xe u := by
  have outer : ∀ y ∈ sc.names, y.2 = .free → ∃ c, X.env.cells.lookup y.1 = some c := by
    intro y hy e
    rcases ok.free y hy e with z | z
    · exact I0.ok.has _ (.inl z)
    · exact I0.ok.has _ (.inr z)
  refine wpAny_comprehension_free (use := use) rfl fa (closure_ok outer) ok.kind (fun y hy e => by rw [ok.uniq y hy, e]) ?_
  refine thn (pa.run pins u σ H _ I0 want) fun _ u1 h1 => thn h1 fun _ u2 h2 => ?_
  obtain ⟨src, fp, tn, J, G2, rfl, I2, T, at2, foot2, q⟩ := h2
  refine wpAny_newObj_type (newEnv_comp ?_)
  generalize eD : u2.heap.objs.size = D
  have freeD : G2 D = none := I2.hok.fresh (Nat.le_of_eq eD)
  obtain ⟨W, ⟨m0, begin0⟩, turn⟩ := q D freeD
  -- the dict that is filled
  generalize e3 : ({ u2 with heap := u2.heap.push { cls := .type "dict", data := .dict #[] } } : Shared) = u3
  have I3 : Inv X pins σ (upd G2 D (.dK [])) u3 := by
    subst e3
    refine I2.laid (t' := u2.toks) (fun b o e => Heap.get?_push_of_some _ e) (Nat.le_of_eq eD) ?_
    subst eD
    exact dk_empty u2.heap I2.big
  have push3 : u3.heap = u2.heap.push { cls := .type "dict", data := .dict #[] } := by subst e3; rfl
  have low : ∀ b ∈ fp, b < u2.heap.objs.size := by
    intro b hb
    obtain ⟨o, e, _⟩ := T.obj _ _ at2 b hb
    exact Heap.lt_size e
  have foot3 : ∀ b ∈ fp, FpOk X pins (upd G2 D (.dK [])) b ∧ b < u3.heap.objs.size := by
    intro b hb
    have lt := low b hb
    refine ⟨⟨?_, (foot2 b hb).2⟩, ?_⟩
    · have nb : b ≠ D := by subst eD; exact Nat.ne_of_lt lt
      rw [upd_ne nb]
      exact (foot2 b hb).1
    · rw [push3, Heap.size_push]
      exact Nat.lt_succ_of_lt lt
  have at3 : tn 0 u3.heap := by
    refine T.keep _ _ _ at2 fun b _ o e => ?_
    rw [push3]
    exact Heap.get?_push_of_some _ e
  have I4 := block_start I3 ok nd foot3
  show codeAny _ _ (.compStart (dc2 kx vx ta ia tb ib sc ps) 0 (.ref src) (.ref D) (compEnvC sc (cellsFrom (u3.heap.objs.size + 1) sc.names (cloFrom X.env.cells sc.names [])) u3.heap.objs.size X.env))
    (compPost (model X.prog X.w) X.A X.xe use Qf (.ref D) u3.heap.objs.size) ({ u3 with heap := pushCells (u3.heap.push { cls := .type "dict", data := .dict #[] }) sc.names } : Shared)
  generalize eC : u3.heap.objs.size = C at I4 foot3 ⊢
  generalize ecl : cellsFrom (C + 1) sc.names (cloFrom X.env.cells sc.names []) = cl at I4 ⊢
  generalize eG : upd G2 D (.dK []) = G3 at I3 I4 foot3 begin0
  have qa := pga u3 G3 C cl fp
  have qb := pb u3 G3 C cl fp
  have qgb := pgb u3 G3 C cl fp
  have qk := pk u3 G3 C cl fp
  have qv := pv u3 G3 C cl fp
  have un : ∀ b ∈ fp, G3 b = none := fun b hb => (foot3 b hb).1.1
  have here : (compEnvC sc cl C X.env).locals = C := rfl
  generalize compEnvC sc cl C X.env = en at *
  generalize e4 : ({ u3 with heap := pushCells (u3.heap.push { cls := .type "dict", data := .dict #[] }) sc.names } : Shared) = u4 at *
  have at4 : tn 0 u4.heap := by
    refine T.keep _ _ _ at3 fun b _ o e => ?_
    subst e4
    exact pushCells_keeps _ _ _ _ (Heap.get?_push_of_some _ e)
  have foot : ∀ {τ : L2.St} {G : Hp} {t : Shared}, Inv (X.blk u3 G3 sc en fp) [] τ G t → (∀ b ∈ fp, G b = none) → ∀ b ∈ fp, FpOk (X.blk u3 G3 sc en fp) [] G b := by
    intro τ G t Iv no b hb
    refine ⟨no b hb, (Iv.ok.exf b hb).1, Iv.ok.exfs b hb, .inl hb, fun x c e => (Iv.ok.exf b hb).2 x c e, fun z hz => ?_⟩
    have hz' : z ∈ ([] : List (Addr × Obj)) ++ [] := hz
    simp at hz'
  have whole : codeAny (model X.prog X.w) X.A (.compLoop (dc2 kx vx ta ia tb ib sc ps) 0 (.ref src) (.ref D) en) (compPost (model X.prog X.w) X.A X.xe use Qf (.ref D) C) u4 := by
    refine dc2_walk (fb en) (fun n t => ∃ i G, Inv (X.blk u3 G3 sc en fp) [] (wipe σ (own.map (·.2))) G t ∧ tn i t.heap ∧ (∀ b ∈ fp, G b = none) ∧ W i n G) ?_ m0 ⟨0, G3, I4, at4, un, begin0⟩
    rintro n t5 ⟨i, G5, I5, at5, un5, w5⟩
    rcases turn i n G5 w5 with ⟨stop, done⟩ | ⟨goes, Nx, down, one⟩
    · -- none is left: back in the def
      refine thnF (T.done (X.blk u3 G3 sc en fp) rfl rfl rfl calm i [] t5 _ G5 (fun _ _ => False) I5 (foot I5 un5) at5 stop) fun r t6 ⟨er, I6⟩ => ?_
      subst er
      have I7 : Inv X pins σ G5 t6 := I3.call' (ch := fp) I6.os I6.base I6.hok I6.bare fun b hb => by
        obtain ⟨⟨_, z2, z3, z4, z5, z6⟩, _⟩ := foot3 b hb
        exact ⟨z4, z2, z5, z6⟩
      have noC : G5 C = none := by
        have z : G5 en.locals = none := I6.free
        rw [here] at z
        exact z
      obtain ⟨m, ns, _⟩ := I6.loc
      have ns' : t6.heap.Ns en.locals m := ns
      rw [here] at ns'
      exact last D C t6 m G5 I7 done ns' (I3.fpOk (Nat.le_of_eq eC) noC)
    · refine thnF (T.item (X.blk u3 G3 sc en fp) rfl rfl rfl calm i [] t5 _ G5 (fun _ _ => False) I5 (foot I5 un5) at5 goes) fun r t6 ⟨v, er, h6⟩ => ?_
      subst er
      refine thnF h6 fun _ t7 ⟨x, G7, I7, rx, yl, at7, un7⟩ => ?_
      have I7p := I7.pinned (foot I7 un7) (T.obj _ _ at7)
      refine thnF (qa.run _ t7 _ G7 x v _ I7p rx (one x G7 yl)) fun _ t8 ⟨τ, G8, I8, ewipe, q8⟩ => ?_
      have lenτ : (wipe σ (own.map (·.2))).length = τ.length := by rw [← ewipe, wipe_length]
      have keepτ : ∀ (j : Nat) v, (wipe σ (own.map (·.2)))[j]? = some (some v) → (wipe τ vb)[j]? = some (some v) := by
        intro j v e
        rw [← ewipe] at e
        obtain ⟨z1, z2⟩ := wipe_some e
        rw [wipe_out fun z => z2 (sub j z)]
        exact z1
      -- the turn is done
      have next : ∀ {ρ : L2.St} {t : Shared} {G : Hp}, Inv (X.blk u3 G3 sc en fp) ([] ++ pinsAt fp t7.heap) ρ G t → (wipe σ (own.map (·.2))).length = ρ.length → (∀ (j : Nat) v, (wipe σ (own.map (·.2)))[j]? = some (some v) → ρ[j]? = some (some v)) → Nx G →
          ∃ m, m < n ∧ ∃ i G, Inv (X.blk u3 G3 sc en fp) [] (wipe σ (own.map (·.2))) G t ∧ tn i t.heap ∧ (∀ b ∈ fp, G b = none) ∧ W i m G := by
        intro ρ t G Iv len keep nx
        obtain ⟨m, less, w'⟩ := down G nx
        have pinned : ∀ b ∈ fp, ∀ o, t7.heap.get? b = some o → t.heap.get? b = some o ∧ G b = none := by
          intro b hb o e
          have z := Iv.pin (b, o) (List.mem_append_right _ (List.mem_append_right _ (mem_pinsAt hb e)))
          exact ⟨z.1, z.2.1⟩
        refine ⟨m, less, i + 1, G, (Iv.unpinned (pins := [])).weak len keep, T.keep _ _ _ at7 fun b hb o e => (pinned b hb o e).1, fun b hb => ?_, w'⟩
        obtain ⟨o, e, _⟩ := T.obj _ _ at7 b hb
        exact (pinned b hb o e).2
      refine thnF (qb.run _ t8 τ G8 _ I8 q8) fun _ t9 h9 => thnF h9 fun _ t10 h10 => ?_
      obtain ⟨src2, fp2, tn2, L, G10, rfl, I10, T2, at10, foot10, V1, ⟨k0, begin1⟩, turn1⟩ := h10
      have foot2 : ∀ {G : Hp}, (∀ b ∈ fp2, G b = none) → ∀ b ∈ fp2, FpOk (X.blk u3 G3 sc en fp) ([] ++ pinsAt fp t7.heap) G b := fun no b hb => ⟨no b hb, (foot10 b hb).2⟩
      have inner : codeAny (model X.prog X.w) X.A (.compLoop (dc2 kx vx ta ia tb ib sc ps) 1 (.ref src2) (.ref D) en)
          (fun r t => match r with
            | .ok _ => ∃ m, m < n ∧ ∃ i G, Inv (X.blk u3 G3 sc en fp) [] (wipe σ (own.map (·.2))) G t ∧ tn i t.heap ∧ (∀ b ∈ fp, G b = none) ∧ W i m G
            | .error _ => False) t10 := by
        refine dc2_walk1 (fun k t => ∃ j G, Inv (X.blk u3 G3 sc en fp) ([] ++ pinsAt fp t7.heap) (wipe τ vb) G t ∧ tn2 j t.heap ∧ (∀ b ∈ fp2, G b = none) ∧ V1 j k G) ?_ k0 ⟨0, G10, I10.weak (wipe_length _ _) (fun j v e => (wipe_some e).1), at10, fun b hb => (foot10 b hb).1, begin1⟩
        rintro k t11 ⟨j, G11, I11, at11, un11, w11⟩
        rcases turn1 j k G11 w11 with ⟨stop1, nx⟩ | ⟨goes1, Ny, down1, one1⟩
        · refine thnF (T2.done (X.blk u3 G3 sc en fp) rfl rfl rfl calm j _ t11 (wipe τ vb) G11 (fun _ _ => False) I11 (foot2 un11) at11 stop1) fun r t12 ⟨er, I12⟩ => ?_
          subst er
          exact next I12 (lenτ.trans (wipe_length τ vb).symm) keepτ nx
        · refine thnF (T2.item (X.blk u3 G3 sc en fp) rfl rfl rfl calm j _ t11 (wipe τ vb) G11 (fun _ _ => False) I11 (foot2 un11) at11 goes1) fun r t12 ⟨v1, er, h12⟩ => ?_
          subst er
          refine thnF h12 fun _ t13 ⟨y, G13, I13, ry, yl1, at13, un13⟩ => ?_
          have I13p := I13.pinned (foot2 un13) (T2.obj _ _ at13)
          refine thnF (qgb.run _ t13 (wipe τ vb) G13 y v1 _ I13p ry (one1 y G13 yl1)) fun _ t14 ⟨ρ, G14, I14, ewipe1, q14⟩ => ?_
          refine thnF (qk.run _ t14 ρ G14 _ I14 q14) fun ka t15 ⟨a, G15, I15, ra, q15⟩ => ?_
          refine thnF (qv.run _ t15 ρ G15 _ I15 q15) fun kb t16 ⟨b, G16, I16, rb, kvs, key, ea, hd16, few, nx⟩ => ?_
          subst ea
          refine d_dictSet (X := X.blk u3 G3 sc en fp) I16 hd16 few ra rb fun t17 I17 => ?_
          obtain ⟨k', less, w'⟩ := down1 _ nx
          have pinned : ∀ c ∈ fp2, ∀ o, t13.heap.get? c = some o → t17.heap.get? c = some o ∧ (upd G16 D (.dK (putK kvs key b))) c = none := by
            intro c hc o e
            have z := I17.pin (c, o) (List.mem_append_right _ (List.mem_append_right _ (mem_pinsAt hc e)))
            exact ⟨z.1, z.2.1⟩
          refine ⟨k', less, j + 1, _, I17.unpinned.weak ?_ (fun n v e => ?_), T2.keep _ _ _ at13 fun c hc o e => (pinned c hc o e).1, fun c hc => ?_, w'⟩
          · rw [← ewipe1, wipe_length]
          · rw [← ewipe1] at e
            exact (wipe_some e).1
          · obtain ⟨o, e, _⟩ := T2.obj _ _ at13 c hc
            exact (pinned c hc o e).2
      exact dc2_start1 inner (T2.self X.A 0 _ _ _ at10 inner)
  exact codeAny_compStart_dict whole (T.self X.A 0 _ _ _ at4 whole)
end
section
variable {X : Cx}
/-- name = {k: v for .. for ..} on one line, the name a local -/
theorem ps_setDc2 {i : Nat} {y : Str} {py : Pos} {kx vx ta ia tb ib : Expr} {sc : Scope} {own : List (Str × Nat)} {vb : List Nat} {ps sp : Pos} {wi wj : TI} {ga gb : TG} {tk tv : TE}
    (calm : X.calm = true) (nd : X.N.Nodup) (hy : X.N[i]? = some y) (loc : X.env.scope.names.lookup y = some .local)
    (sw : swapsWith (dc2 kx vx ta ia tb ib sc ps) (some (.Name y py)) sp.line X.env = pure true)
    (pa : PI X ta ia wi) (ok : BlkOk X.N X.env.scope sc own) (sub : ∀ i ∈ vb, i ∈ own.map (·.2))
    (pga : ∀ (u : Shared) (G : Hp) (C : Addr) (cl : List (Str × Addr)) (fp : List Addr), PG (X.blk u G sc (compEnvC sc cl C X.env) fp) ta ga)
    (pb : ∀ (u : Shared) (G : Hp) (C : Addr) (cl : List (Str × Addr)) (fp : List Addr), PI (X.blk u G sc (compEnvC sc cl C X.env) fp) tb ib wj)
    (pgb : ∀ (u : Shared) (G : Hp) (C : Addr) (cl : List (Str × Addr)) (fp : List Addr), PG (X.blk u G sc (compEnvC sc cl C X.env) fp) tb gb)
    (pk : ∀ (u : Shared) (G : Hp) (C : Addr) (cl : List (Str × Addr)) (fp : List Addr), PE (X.blk u G sc (compEnvC sc cl C X.env) fp) kx tk)
    (pv : ∀ (u : Shared) (G : Hp) (C : Addr) (cl : List (Str × Addr)) (fp : List Addr), PE (X.blk u G sc (compEnvC sc cl C X.env) fp) vx tv)
    (fa : ∀ x, foldedSetIterable ia X.env x = pure x := by intro _; rfl) (fb : ∀ en x, foldedSetIterable ib en x = pure x := by intro _ _; rfl) :
    PS X (.Assign [.Name y py] (.DictComp kx vx [⟨ta, ia, [], 0⟩, ⟨tb, ib, [], 0⟩] sc ps) sp) (tAsg (tDc2 wi ga wj gb tk tv (own.map (·.2)) vb) (gName i)) := by
  constructor
  intro pins u σ H D I h
  have want : tDc2 wi ga wj gb tk tv (own.map (·.2)) vb σ H (fun x G => gName i x σ G D.nx) := h
  rw [exec_Assign_Name_used _ _ _ _ sw]
  apply wpAny_bind; apply wpAny_standAt; apply wpAny_bind
  show wpAny _ X.A (do
    let _ ← comprehension (dc2 kx vx ta ia tb ib sc ps) sc X.env (firstIterPos [⟨ta, ia, [], 0⟩, ⟨tb, ib, [], 0⟩] ps) newDict false (eval ia X.env) (some (assign (.Name y py) X.env))) _ _ u
  apply wpAny_bind
  refine thn (dc2_all (Qf := fun _ t => SP X pins D .next t) calm nd I pa ok sub pga pb pgb pk pv fa fb want ?_) fun _ t q => wpAny_pure (wpAny_pure q)
  intro L C t m G J q ns fp
  show wpAny _ _ (assign (.Name y py) X.env (.ref L)) _ _ _
  refine wpAny_assign_Name (store_ok2 (v := V.ref L) J nd hy (.inl loc) rfl ?_ (.inr loc))
  rintro t2 J2 ⟨a, sb, ha⟩
  obtain ⟨z0, z1, z2, z3, z4, z5⟩ := fp
  have apart : C ≠ a := by
    rcases ha with z | z
    · rw [z]
      exact z1
    · exact fun e => z4 y a z e.symm
  refine ⟨m, ns.sameBut sb apart, fun h3 sb3 => ⟨_, G, ?_, q⟩⟩
  exact J2.turned (t' := t2.toks) (fun b o hb e => (sb3.2 b hb).trans e) z0 z1 z3 z4 z5
/-! max(xs, default=n) of a list of ints -/
def rMaxL (K : PySem.W.Frag) : List V → List V → Hp → VK → Prop := fun vs zs H Q => ∃ (a : Addr) (ns : List Int) (d : Int), vs = [V.ref a] ∧ zs = [V.int d] ∧ SqL K H a (ns.map V.int) ∧ (ns = [] → Q (.int d) H) ∧ ∀ m, m ∈ ns → (∀ j ∈ ns, j ≤ m) → Q (.int m) H
theorem fold_max : ∀ (ns : List Int) (n : Int), (ns.foldl max n = n ∨ ns.foldl max n ∈ ns) ∧ n ≤ ns.foldl max n ∧ ∀ j ∈ ns, j ≤ ns.foldl max n
  | [], n => ⟨.inl rfl, Int.le_refl _, by simp⟩
  | x :: r, n => by
    obtain ⟨h1, h2, h3⟩ := fold_max r (max n x)
    rw [List.foldl_cons]
    refine ⟨?_, by omega, fun j hj => ?_⟩
    · rcases h1 with e | e
      · rw [e]
        rcases Int.le_total n x with z | z
        · right; rw [Int.max_eq_right z]; exact List.mem_cons_self
        · left; exact Int.max_eq_left z
      · exact .inr (List.mem_cons_of_mem _ e)
    · rcases List.mem_cons.mp hj with e | e
      · rw [e]; omega
      · exact h3 j e
theorem cr_maxL (calm : X.calm = true) (few : X.A.units + 65 < cLine) : CallRK X (.builtin "max") [Str.ofString "default"] (rMaxL X.K) := by
  intro pins u σ H vs zs us ws Q I r rz h
  obtain ⟨a, ns, d, rfl, rfl, hs, q0, q1⟩ := h
  obtain ⟨its, rv, hl, _⟩ := I.list hs
  obtain rfl := Vals.ref1 r
  obtain ⟨w1, rfl, e1⟩ := vals1 rz
  obtain ⟨td, rfl⟩ : ∃ t, w1 = Value.int d t := e1
  have all : PySem.ReadsAll u.heap its.toArray.toList (ns.map .int) [] := IntsAre.reads u.heap rv.ints
  have alike : PySem.W.AlikeAll (ns.map PyData.int) := by
    refine ⟨fun x hx y hy => ?_, fun x hx => ?_⟩
    · obtain ⟨i, _, rfl⟩ := List.mem_map.mp hx
      obtain ⟨j, _, rfl⟩ := List.mem_map.mp hy
      rfl
    · obtain ⟨i, _, rfl⟩ := List.mem_map.mp hx
      intro e
      cases e
  have flat : PyData.depthAll (ns.map PyData.int) = 0 := by
    have := depthAll_of (f := PyData.int) (k := 0) (xs := ns) fun x _ => by simp [PyData.depth]
    omega
  refine PySem.W.max_list_default (I.ok.hd calm) hl.isList all alike (by rw [flat]; omega) (fun e h' tk hk => ?_) fun y ys i v h' tk bs e hv hr hk => ?_
  · exact ⟨.int d, H, I.kept (t' := tk) hk, ⟨td, rfl⟩, q0 (List.map_eq_nil_iff.mp e)⟩
  · cases ns with
    | nil => cases e
    | cons n r =>
      injection e with e1 e2
      subst e1 e2
      rw [PySem.W.maxD_ints] at hr
      obtain ⟨g1, g2, g3⟩ := fold_max r n
      cases hr
      refine ⟨.int _, H, I.kept (t' := tk) hk, ⟨_, rfl⟩, q1 _ ?_ fun j hj => ?_⟩
      · rcases g1 with z | z
        · rw [z]; exact List.mem_cons_self
        · exact List.mem_cons_of_mem _ z
      · rcases List.mem_cons.mp hj with z | z
        · rw [z]; exact g2
        · exact g3 j z
end
end Sky

/-! A rule of my own: for i, x in enumerate(t), t a tuple. -/
namespace Sky
open PySem PySem.Spec PyProof.Rows L2 PySem.W
theorem new_enum {v : Value} {o : Obj} {Z : Heap → Prop} (B : Begins v o Z) :
    Meets (Builtin.«enumerate.__new__» ⟨[.type "enumerate", v], []⟩) (fun _ R u => Z u.heap ∧
      R (.ok (.ret (.ref (u.heap.push o).objs.size))) ({ u with heap := (u.heap.push o).push { cls := .type "enumerate", data := .fields #[.none, .bool false, .ref u.heap.objs.size, rawInt 0, .none, .none] } } : Shared)) := by
  refine .of_wp fun prog w A R u both => ?_
  obtain ⟨hp, g, d, tk, os⟩ := u
  obtain ⟨z, fin⟩ := both
  have sub := sub_enumerate
  have goes : ∀ {A2 : Around} {E2 : Value → Shared → Prop} {Q2 : Value → Shared → Prop}, Q2 (.ref hp.objs.size) ⟨hp.push o, g, d, tk, os⟩ → wpAny (model prog w) A2 (pyIter v) Q2 E2 ⟨hp, g, d, tk, os⟩ := by
    intro A2 E2 Q2 q
    exact B.iter prog w A2 E2 ⟨hp, g, d, tk, os⟩ Q2 z q
  wp_walk using goes
  refine wpAny_stack_any fun st => wpAny_pure ?_
  split
  · rename_i c _ _ _ _ _
    cases c == Value.type "enumerate" <;> (wp_walk using goes; exact ⟨_, rfl, fin⟩)
  · wp_walk using goes
    exact ⟨_, rfl, fin⟩
section
variable {prog : Program} {w : World} {A : Around} {E : Value → Shared → Prop} {u : Shared}
theorem call_enum {v : Value} {o : Obj} {Z : Heap → Prop} {Q : Value → Shared → Prop} (B : Begins v o Z) (z : Z u.heap)
    (fin : ∀ g, IsEnum g (u.heap.objs.size + 1) u.heap.objs.size 0 .none → g.get? u.heap.objs.size = some o → g.objs.size = u.heap.objs.size + 2 → (∀ b x, u.heap.get? b = some x → g.get? b = some x) → Q (.ref (u.heap.objs.size + 1)) { u with heap := g }) :
    wpAny (model prog w) A (call (.type "enumerate") [v]) Q E u := by
  refine callType_new F.called_enumerate (by decide) (F.typeCall_enumerate_1 _) (F.newCall_enumerate_1 _) (fun ob => F.args_object_init_2 ob _) F.entry_enumerate_new (new_enum B) ⟨z, ?_⟩
  have size1 : (u.heap.push o).objs.size = u.heap.objs.size + 1 := Heap.size_push ..
  show _ ∧ _
  rw [size1]
  have made : IsEnum ((u.heap.push o).push { cls := .type "enumerate", data := .fields #[.none, .bool false, .ref u.heap.objs.size, rawInt 0, .none, .none] }) (u.heap.objs.size + 1) u.heap.objs.size 0 .none := by
    have e := Heap.get?_push_size (u.heap.push o) (o := { cls := .type "enumerate", data := .fields #[.none, .bool false, .ref u.heap.objs.size, rawInt 0, .none, .none] }) rfl
    rw [size1] at e
    exact e
  refine ⟨⟨_, made, rfl⟩, fin _ made ?_ (by rw [Heap.size_push, size1]) fun b x e => ?_⟩
  · exact Heap.get?_push_of_some _ (Heap.get?_push_size _ B.free)
  · exact Heap.get?_push_of_some _ (Heap.get?_push_of_some _ e)
end
/-- the tuple at a, each item in a new pair -/
def Iet (K : PySem.W.Frag) (a : Addr) : It where
  go i H := ∃ (xs : List V) (x : V), SqT K H a xs ∧ xs[i]? = some x
  yld i H v H' := ∃ T x, v = .ref T ∧ H T = none ∧ H' = upd H T (.tup [.int (i : Nat), x]) ∧ ∀ xs, SqT K H a xs → xs[i]? = some x
  stop i H := ∃ xs : List V, SqT K H a xs ∧ xs.length ≤ i
theorem enum_ne {h : Heap} {e it a : Addr} {k : Int} {old : Value} {items : Array Value} (x : IsEnum h e it k old) (y : h.IsTuple a items) : e ≠ a := by
  intro z
  subst z
  obtain ⟨o, e1, e2, _⟩ := y
  have e3 := e1.symm.trans x
  injection e3 with e3
  rw [e3] at e2
  injection e2 with e4
  exact absurd e4 (by decide)
theorem iter_ne {h : Heap} {it a : Addr} {k : Nat} {items : Array Value} (x : h.IsTupleIter it a k) (y : h.IsTuple a items) : a ≠ it := by
  intro z
  subst z
  obtain ⟨o, e1, e2, _⟩ := y
  obtain ⟨o2, e3, e4, _⟩ := x
  have e5 := e1.symm.trans e3
  injection e5 with e5
  rw [e5, e4] at e2
  injection e2 with e6
  exact absurd e6 (by decide)
theorem turn_iet {P : Program} {w : World} {K : PySem.W.Frag} {elts : List Expr} {kk : Nat} {tpos : Pos} (a e it : Addr) :
    Turn P w K (.Tuple elts kk tpos) (Iet K a) [e, it] e (fun i h => (∃ old, IsEnum h e it ((i : Nat) : Int) old) ∧ h.IsTupleIter it a i ∧ e ≠ it) where
  mem := List.mem_cons_self
  obj := by
    intro i h st b hb
    obtain ⟨⟨old, he⟩, ⟨o, ho, hc, hd⟩, _⟩ := st
    rcases List.mem_cons.mp hb with z | z
    · subst z; exact ⟨_, he, fun v q => nomatch q⟩
    · rw [List.mem_singleton.mp z]; exact ⟨o, ho, fun v q => by rw [hd] at q; cases q⟩
  keep := by
    intro i h h' st k
    obtain ⟨⟨old, he⟩, hi, hne⟩ := st
    exact ⟨⟨old, k e (by simp) _ he⟩, hi.at fun o q => k it (by simp) o q, hne⟩
  item := by
    intro X hP hw hK hc i pins u σ H E I hf st hg
    subst hP hw hK
    obtain ⟨⟨old, he⟩, hit, hne⟩ := st
    obtain ⟨xs, x, hq, hx⟩ := hg
    obtain ⟨its, rv, p, _⟩ := I.tuple hq
    obtain ⟨v, hv, rx⟩ := rv.get hx
    have pt : u.heap.IsTuple a its.toArray := p
    have lowe : e < u.heap.objs.size := Heap.lt_size he
    have lowi : it < u.heap.objs.size := by obtain ⟨_, q, _⟩ := hit; exact Heap.lt_size q
    have nea := enum_ne he pt
    have draws := Draws.tuple (prog := X.prog) (w := X.w) (A := X.A.in1) (I.ok.hd hc) it a (iter_ne hit pt) its.toArray
    have hil : i < its.toArray.size := by
      have := (List.getElem?_eq_some_iff.mp hv).1
      simpa using this
    refine wpAny_pyNext_enum_itemD draws he ⟨hit, pt⟩ hil hne (by simp [hne, nea]) fun v2 g tk hv2 out st2 hT hsz kept => ?_
    have ev : v2 = v := by
      rw [show its.toArray[i]? = some v by simpa using hv] at hv2
      exact (Option.some.inj hv2).symm
    subst ev
    refine ⟨_, rfl, wpAny_letOwnedTupleGo_enum (s := { u with heap := g, toks := tk + 1 }) out fun g2 he2 sb => ?_⟩
    have tup : g2.get? u.heap.objs.size = some { cls := .type "tuple", data := .seq #[.int i tk, v2] } := (sb.2 _ (Nat.ne_of_gt lowe)).trans hT
    have new : ObjOk X.prog X.w (upd H u.heap.objs.size (.tup [.int (i : Nat), x])) g2 u.heap.objs.size (.tup [.int (i : Nat), x]) := by
      refine ⟨?_, [.int i tk, v2], .cons ⟨_, rfl⟩ (.cons rx .nil), ⟨_, tup, rfl, _, rfl⟩⟩
      show 2 ≤ sizeLine
      decide
    have J : Inv X pins σ (upd H u.heap.objs.size (.tup [.int (i : Nat), x])) { u with heap := g2, toks := tk + 1 } := by
      refine I.turnedNew (ch := [e, it]) (fun b ob hb q => ?_) hf (Nat.le_refl _) new
      have b1 : b ≠ e := fun z => hb (by simp [z])
      have b2 : b ≠ it := fun z => hb (by simp [z])
      exact (sb.2 b b1).trans (kept b ob b1 b2 q)
    refine ⟨.ref u.heap.objs.size, _, J, rfl, ⟨_, x, rfl, I.hok.fresh (Nat.le_refl _), rfl, fun ys hy => by rw [I.tuple_inj hy hq]; exact hx⟩, ⟨⟨v2, ?_⟩, st2.1.at fun o q => (sb.2 it (Ne.symm hne)).trans q, hne⟩, fun b hb => ?_⟩
    · rw [show ((i + 1 : Nat) : Int) = (i : Int) + 1 by omega]
      exact he2
    · have low : b < u.heap.objs.size := by
        rcases List.mem_cons.mp hb with z | z
        · rw [z]; exact lowe
        · rw [List.mem_singleton.mp z]; exact lowi
      rw [upd_ne (Nat.ne_of_lt low)]
      exact (hf b hb).1
  done := by
    intro X hP hw hK hc i pins u σ H E I hf st hg
    subst hP hw hK
    obtain ⟨⟨old, he⟩, hit, hne⟩ := st
    obtain ⟨xs, hq, hx⟩ := hg
    obtain ⟨its, rv, p, _⟩ := I.tuple hq
    have pt : u.heap.IsTuple a its.toArray := p
    obtain ⟨f0, f1, f2, f3, f4, f5⟩ := hf it (by simp)
    have hl := rv.length
    have ends : Draws X.prog X.w X.A.in1 it [it, a] i (fun _ _ => True) (fun j h => j = i ∧ h.IsTupleIter it a i ∧ h.IsTuple a its.toArray) := by
      refine ⟨fun _ _ z => ?_, fun _ _ _ z k => ?_, fun j _ _ _ lt z => ?_, fun t Q2 E2 z q => ?_⟩
      · obtain ⟨_, ⟨o, ho, _⟩, _⟩ := z
        exact ⟨o, ho⟩
      · exact ⟨z.1, z.2.1.at fun o e => k it (by simp) o e, z.2.2.at fun o e => k a (by simp) o e⟩
      · have := z.1
        omega
      · exact wpAny_nextOf_tuple_end (I.ok.hd hc) z.2.1 z.2.2 (by simp; omega) q
    exact wpAny_pyNext_enum_endD ends he ⟨rfl, hit, pt⟩ fun g eb => ⟨rfl, I.turned (t' := u.toks) (fun b o hb q => eb b o hb q) f0 f1 f3 f4 f5⟩
  self := by
    intro A i u Q E st h
    obtain ⟨⟨_, he⟩, _⟩ := st
    exact wpAny_pyIter_enum he h
def iEnumT (K : PySem.W.Frag) (ta : TA) : TI := fun σ H R => ta σ H fun vs G => ∃ a xs, vs = [.ref a] ∧ SqT K G a xs ∧ R (Iet K a) G
theorem pi_enumT {X : Cx} {e : Expr} {ta : TA} {p pos tpos : Pos} {elts : List Expr} {kk : Nat} (glob : Gl X "enumerate") (unset : X.mg "enumerate" = none) (arg : PA X [e] ta) (one : starEach [e] X.env = [(false, eval e X.env)] := by rfl) :
    PI X (.Tuple elts kk tpos) (.Call (.Name "enumerate" p) [e] [] pos) (iEnumT X.K ta) := by
  constructor
  intro pins u σ H R I h
  refine Call_ (ld_blt I glob unset boot_enumerate (PyProof.Rows.callWith_type1 (thn (arg.run pos pins u σ H _ I h) fun us u1 ⟨vs, G, I1, r1, q1⟩ => ?_) one rfl))
  obtain ⟨a, xs, ex, hq, q⟩ := q1
  subst ex
  obtain rfl := Vals.ref1 r1
  obtain ⟨its, rv, pt, _⟩ := I1.tuple hq
  refine call_enum (begins_tuple a its.toArray) (show u1.heap.IsTuple a its.toArray from pt) fun g he hit hsz hk => wpAny_pyIter_enum he ?_
  have I2 : Inv X pins σ G { u1 with heap := g } := I1.kept (t' := u1.toks) hk
  refine ⟨u1.heap.objs.size + 1, [u1.heap.objs.size + 1, u1.heap.objs.size], _, _, G, rfl, I2, turn_iet a (u1.heap.objs.size + 1) u1.heap.objs.size, ⟨⟨.none, he⟩, ⟨_, hit, rfl, rfl⟩, Nat.succ_ne_self _⟩, fun b hb => ?_, q⟩
  have low : u1.heap.objs.size ≤ b := by
    rcases List.mem_cons.mp hb with z | z
    · rw [z]; exact Nat.le_add_right _ _
    · rw [List.mem_singleton.mp z]; exact Nat.le_refl _
  exact I1.fpOk low (I1.hok.fresh low)
/-- enumerate(t): each turn a new pair -/
theorem for_enumT {K : PySem.W.Frag} {l : Addr} {ys : List V} {g : TG} {tb : L2.TS} {D : Ends} {τ : L2.St} {G : Hp} (Pv : Nat → L2.St → Hp → Prop) (start : Pv 0 τ G) (stays : ∀ i σ H, i ≤ ys.length → Pv i σ H → SqT K H l ys)
    (turn : ∀ i x σ H T, ys[i]? = some x → Pv i σ H → H T = none → g (.ref T) σ (upd H T (.tup [.int (i : Nat), x])) fun σ2 H2 => tb { D with nx := Pv (i + 1), ct := Pv (i + 1), bk := D.nx } σ2 H2)
    (last : ∀ σ H, Pv ys.length σ H → D.nx σ H) :
    ∃ W : Nat → Nat → L2.St → Hp → Prop, (∃ m, W 0 m τ G) ∧ ∀ i m σ H, W i m σ H →
      ((Iet K l).stop i H ∧ D.nx σ H) ∨ ((Iet K l).go i H ∧ ∃ N : L2.St → Hp → Prop, (∀ σ' H', N σ' H' → ∃ m', m' < m ∧ W (i + 1) m' σ' H') ∧
        ∀ x H', (Iet K l).yld i H x H' → g x σ H' fun σ2 H2 => tb { D with nx := N, ct := N, bk := D.nx } σ2 H2) := by
  refine ⟨fun i m σ H => i ≤ ys.length ∧ m = ys.length - i ∧ Pv i σ H, ⟨ys.length, Nat.zero_le _, (Nat.sub_zero _).symm, start⟩, ?_⟩
  rintro i m σ H ⟨le, rfl, hv⟩
  have there := stays i σ H le hv
  by_cases lt : i < ys.length
  · refine .inr ⟨⟨ys, ys[i], there, List.getElem?_eq_getElem lt⟩, Pv (i + 1), fun σ' H' w => ⟨ys.length - (i + 1), by omega, lt, rfl, w⟩, ?_⟩
    rintro x H' ⟨T, y, rfl, hT, rfl, hy⟩
    exact turn i y σ H T (hy ys there) hv hT
  · have e : i = ys.length := by omega
    subst e
    exact .inl ⟨⟨ys, there, Nat.le_refl _⟩, last σ H hv⟩
/-- the outer walk of a two-for dict comprehension over a tuple that stays -/
theorem dc2_tup {K : PySem.W.Frag} {a : Addr} {xs : List V} {ga : TG} {wj : TI} {gb : TG} {tk tv : TE} {va vb : List Nat} {σ : L2.St} {G1 : Hp} {D : Addr} {fin : Hp → Prop} (Pv : Nat → Hp → Prop) (start : Pv 0 (upd G1 D (.dK []))) (stays : ∀ i H, i ≤ xs.length → Pv i H → SqT K H a xs)
    (turn : ∀ i x H, xs[i]? = some x → Pv i H → ga x (wipe σ va) H fun τ G2 => wipe τ va = wipe σ va ∧ wj τ G2 fun L G3 => ∃ V1 : Nat → Nat → Hp → Prop, (∃ k, V1 0 k G3) ∧ ∀ j k F, V1 j k F →
      (L.stop j F ∧ Pv (i + 1) F) ∨ (L.go j F ∧ ∃ Ny : Hp → Prop, (∀ F', Ny F' → ∃ k', k' < k ∧ V1 (j + 1) k' F') ∧ ∀ y F', L.yld j F y F' →
        gb y (wipe τ vb) F' fun ρ F2 => wipe ρ vb = wipe τ vb ∧ tk ρ F2 fun a F3 => tv ρ F3 fun b F4 => ∃ kvs key, a = kV key ∧ F4 D = some (.dK kvs) ∧ kvs.length < sizeLine ∧ Ny (upd F4 D (.dK (putK kvs key b)))))
    (last : ∀ H, Pv xs.length H → fin H) :
    ∃ W : Nat → Nat → Hp → Prop, (∃ m, W 0 m (upd G1 D (.dK []))) ∧ ∀ i m G, W i m G →
      ((Itt K a).stop i G ∧ fin G) ∨
      ((Itt K a).go i G ∧ ∃ Nx : Hp → Prop, (∀ G', Nx G' → ∃ m', m' < m ∧ W (i + 1) m' G') ∧ ∀ x G', (Itt K a).yld i G x G' →
        ga x (wipe σ va) G' fun τ G2 => wipe τ va = wipe σ va ∧
          wj τ G2 fun L G3 => ∃ V1 : Nat → Nat → Hp → Prop, (∃ k, V1 0 k G3) ∧ ∀ j k F, V1 j k F →
            (L.stop j F ∧ Nx F) ∨
            (L.go j F ∧ ∃ Ny : Hp → Prop, (∀ F', Ny F' → ∃ k', k' < k ∧ V1 (j + 1) k' F') ∧ ∀ y F', L.yld j F y F' →
              gb y (wipe τ vb) F' fun ρ F2 => wipe ρ vb = wipe τ vb ∧
                tk ρ F2 fun a F3 => tv ρ F3 fun b F4 => ∃ kvs key, a = kV key ∧ F4 D = some (.dK kvs) ∧ kvs.length < sizeLine ∧ Ny (upd F4 D (.dK (putK kvs key b))))) := by
  refine ⟨fun i m H => i ≤ xs.length ∧ m = xs.length - i ∧ Pv i H, ⟨xs.length, Nat.zero_le _, (Nat.sub_zero _).symm, start⟩, ?_⟩
  rintro i m H ⟨le, rfl, hv⟩
  have there := stays i H le hv
  by_cases lt : i < xs.length
  · refine .inr ⟨⟨xs, xs[i], there, List.getElem?_eq_getElem lt⟩, Pv (i + 1), fun H' w => ⟨xs.length - (i + 1), by omega, lt, rfl, w⟩, ?_⟩
    rintro x H' ⟨e, hy⟩
    subst e
    exact turn i x _ (hy xs there) hv
  · have e : i = xs.length := by omega
    subst e
    exact .inl ⟨⟨xs, there, Nat.le_refl _⟩, last H hv⟩
/-- its inner walk over a range -/
theorem dc2_range {lo : Int} {n : Nat} {gb : TG} {tk tv : TE} {vb : List Nat} {τ : L2.St} {F0 : Hp} {D : Addr} {fin : Hp → Prop} (Pv : Nat → Hp → Prop) (start : Pv 0 F0)
    (turn : ∀ j F, j < n → Pv j F → gb (.int (lo + j)) (wipe τ vb) F fun ρ F2 => wipe ρ vb = wipe τ vb ∧ tk ρ F2 fun a F3 => tv ρ F3 fun b F4 => ∃ kvs key, a = kV key ∧ F4 D = some (.dK kvs) ∧ kvs.length < sizeLine ∧ Pv (j + 1) (upd F4 D (.dK (putK kvs key b))))
    (last : ∀ F, Pv n F → fin F) :
    ∃ V1 : Nat → Nat → Hp → Prop, (∃ k, V1 0 k F0) ∧ ∀ j k F, V1 j k F →
      ((Itr lo n).stop j F ∧ fin F) ∨ ((Itr lo n).go j F ∧ ∃ Ny : Hp → Prop, (∀ F', Ny F' → ∃ k', k' < k ∧ V1 (j + 1) k' F') ∧ ∀ y F', (Itr lo n).yld j F y F' →
        gb y (wipe τ vb) F' fun ρ F2 => wipe ρ vb = wipe τ vb ∧ tk ρ F2 fun a F3 => tv ρ F3 fun b F4 => ∃ kvs key, a = kV key ∧ F4 D = some (.dK kvs) ∧ kvs.length < sizeLine ∧ Ny (upd F4 D (.dK (putK kvs key b)))) := by
  refine ⟨fun j left F => left + j = n ∧ Pv j F, ⟨n, rfl, start⟩, ?_⟩
  rintro j left F ⟨sum, hv⟩
  cases left with
  | zero =>
    have all : j = n := by omega
    exact .inl ⟨by rw [all]; exact Nat.le_refl n, last F (by rw [← all]; exact hv)⟩
  | succ left =>
    have less : j < n := by omega
    refine .inr ⟨less, Pv (j + 1), fun F' h => ⟨left, by omega, by omega, h⟩, ?_⟩
    rintro _ _ ⟨rfl, rfl⟩
    exact turn j _ less hv
end Sky

/-! Rules of my own: sum of a tuple of ints; within a comprehension. -/
namespace Sky
open PySem PySem.Spec PyProof.Rows L2
def rSumT (K : PySem.W.Frag) : List V → Hp → VK → Prop := fun vs H Q => ∃ (a : Addr) (ns : List Int), vs = [V.ref a] ∧ SqT K H a (ns.map V.int) ∧ Q (.int ns.sum) H
section
variable {X : Cx}
theorem cr_sumT (calm : X.calm = true) : CallR X (.builtin "sum") (rSumT X.K) := by
  intro pins u σ H vs us Q I r h
  obtain ⟨a, ns, rfl, hs, q⟩ := h
  obtain ⟨its, rv, pt, _⟩ := I.tuple hs
  rw [Vals.ref1 r]
  have hints := rv.ints
  obtain ⟨xs, ex⟩ := hints.allInts.items
  have en : numsOf (intItems xs).toList = ns := by rw [← ex]; exact hints.numsOf
  rw [nums_intItems] at en
  have pt2 : u.heap.IsTuple a its.toArray := pt
  rw [ex] at pt2
  refine PySem.W.ktm_sumG (I.ok.hd calm) pt2 fun h' tk t' hk => ?_
  rw [preSum_eq, List.take_of_length_le (by simp), en]
  exact ⟨.int _, H, I.kept (t' := tk) hk, ⟨_, rfl⟩, q⟩
theorem cr_sumTK {K : PySem.W.Frag} (h : X.K = K) (calm : X.calm = true) : CallR X (.builtin "sum") (rSumT K) := h ▸ cr_sumT calm
theorem sl_tupAK {K : PySem.W.Frag} (h : X.K = K) : SlR X (rSlA K) := h ▸ sl_tupA
end
end Sky

/-! Rules of my own: max of a tuple of ints; sum of a list, walks of tuples within comprehensions. -/
namespace Sky
open PySem PySem.Spec PyProof.Rows L2
def rMaxT (K : PySem.W.Frag) : List V → Hp → VK → Prop := fun vs H Q => ∃ (a : Addr) (ns : List Int), vs = [V.ref a] ∧ SqT K H a (ns.map V.int) ∧ ns ≠ [] ∧ ∀ m, m ∈ ns → (∀ j ∈ ns, j ≤ m) → Q (.int m) H
section
variable {X : Cx}
theorem cr_maxT (calm : X.calm = true) (few : X.A.units + 65 < cLine) : CallR X (.builtin "max") (rMaxT X.K) := by
  intro pins u σ H vs us Q I r h
  obtain ⟨a, ns, rfl, hs, hne, q1⟩ := h
  obtain ⟨its, rv, pt, _⟩ := I.tuple hs
  rw [Vals.ref1 r]
  have all : PySem.ReadsAll u.heap its.toArray.toList (ns.map .int) [] := IntsAre.reads u.heap rv.ints
  have flat : PyData.depthAll (ns.map PyData.int) = 0 := by
    have := depthAll_of (f := PyData.int) (k := 0) (xs := ns) fun x _ => by simp [PyData.depth]
    omega
  have alike : PySem.W.AlikeAll (ns.map PyData.int) := by
    refine ⟨fun x hx y hy => ?_, fun x hx => ?_⟩
    · obtain ⟨i, _, rfl⟩ := List.mem_map.mp hx
      obtain ⟨j, _, rfl⟩ := List.mem_map.mp hy
      rfl
    · obtain ⟨i, _, rfl⟩ := List.mem_map.mp hx
      intro e
      cases e
  cases ns with
  | nil => exact absurd rfl hne
  | cons n r =>
    refine PySem.W.max_tuple_data (I.ok.hd calm) (show u.heap.IsTuple a its.toArray from pt) all alike (by rw [show PyData.int n :: r.map PyData.int = (n :: r).map PyData.int from rfl, flat]; omega) fun i v h' tk bs hv hr hk => ?_
    rw [PySem.W.maxD_ints] at hr
    obtain ⟨g1, g2, g3⟩ := fold_max r n
    cases hr
    refine ⟨.int _, H, I.kept (t' := tk) hk, ⟨_, rfl⟩, q1 _ ?_ fun j hj => ?_⟩
    · rcases g1 with z | z
      · rw [z]; exact List.mem_cons_self
      · exact List.mem_cons_of_mem _ z
    · rcases List.mem_cons.mp hj with z | z
      · rw [z]; exact g2
      · exact g3 j z
theorem cr_sumK {K : PySem.W.Frag} (h : X.K = K) (calm : X.calm = true) : CallR X (.builtin "sum") (rSum K) := h ▸ cr_sum calm
theorem pi_tupK {K : PySem.W.Frag} {tg l : Expr} {tl : TE} (h : X.K = K) (hl : PE X l tl) : PI X tg l (iTup K tl) := h ▸ pi_tup hl
end
end Sky

/-! Rules of my own: dicts whose keys are tuples: del, setdefault, pop with a default; walks over their keys. -/
namespace Sky
open PySem PySem.Spec PyProof.Rows L2
/-- del d[y], y a tuple -/
def sDDelT (td ty : TE) : L2.TS := fun D σ H => td σ H fun x H1 => ty σ H1 fun y H2 => ∃ (a b : Addr) (kvs : List (List Key × V)) (k : List Key), x = .ref a ∧ y = .ref b ∧ H2 a = some (.dT kvs) ∧ H2 b = some (.tup (k.map kV)) ∧ (valV kvs k).isSome = true ∧ D.nx σ (upd H2 a (.dT (dropK kvs k)))
/-- d.setdefault(y, z), y a tuple -/
def tDSetdT (td ty tx : TE) : TE := fun σ H Q => td σ H fun x H1 => ∃ a, x = .ref a ∧ IsD H1 a ∧ ty σ H1 fun y H2 => tx σ H2 fun z H3 => ∃ (kvs : List (List Key × V)) (k : List Key) (b : Addr), H3 a = some (.dT kvs) ∧ y = .ref b ∧ H3 b = some (.tup (k.map kV)) ∧ kvs.length < sizeLine ∧
  (∀ v, valV kvs k = some v → Q v H3) ∧ (valV kvs k = none → Q z (upd H3 a (.dT (putK kvs k z))))
section
variable {X : Cx} {o i e f : Expr} {pos tpos apos cpos : Pos} {td ty tx : TE}
theorem ps_ddelT (hu : X.A.units + 1 < cLine) (ho : PE X o td) (hi : PE X i ty) : PS X (.Delete [.Subscript o i tpos] pos) (sDDelT td ty) := by
  refine ⟨fun pins s σ H D I h => ?_⟩
  refine wpAny_Delete (wpAny_deleteEach_cons (wpAny_delete_Subscript (thn (ho.run pins s σ H _ I h) fun u s1 ⟨x, H1, I1, rx, q1⟩ => thn (hi.run pins s1 σ H1 _ I1 q1) fun iv s2 ⟨y, H2, I2, ry, a, b, kvs, k, ex, ey, e, eb, l, q2⟩ => ?_)))
  subst ex ey
  obtain rfl : u = Value.ref a := rx
  obtain rfl : iv = Value.ref b := ry
  obtain ⟨z, hd, xs, rel, dd⟩ := dt_of I2.hok e
  have hz : xs.length ≤ sizeLine := by rw [← Paired.length rel]; exact z
  have q := (rel.val k).isSome_eq
  rw [l, Option.isSome_map] at q
  obtain ⟨p, hp⟩ := Option.isSome_iff_exists.mp q.symm
  refine wpAny_delItem_heap (tupleKind_room_in1 hu) (key_of I2.hok eb) hd dd hp (fun h' dd' hs => ?_) hz
  refine wpAny_deleteEach_nil ⟨σ, _, ?_, q2⟩
  obtain ⟨oo, es, ep, hq, h2, h3, h4, _, h5⟩ := dd'
  exact d_write I2 (by rw [e]; exact True.intro) hs ⟨oo, hq⟩ ⟨Nat.le_trans (dropK_le kvs k) z, hd, _, (L2.DX.KT_drop k rel).keeps (fun c ys ec => (by rw [upd_ne (ne_of ec e (fun z => nomatch z))]; exact ec)), oo, es, ep, hq, h2, h3, h4, h5⟩
theorem pe_dsetdT (hu : X.A.units + 1 < cLine) (ho : PE X o td) (he : PE X e ty) (hf : PE X f tx) (m : M2 X o "setdefault" apos e f cpos) : PE X (.Call (.Attribute o "setdefault" apos) [e, f] [] cpos) (tDSetdT td ty tx) := by
  refine ⟨fun pins s σ H Q I h => ?_⟩
  refine wpAny_Call_method m.base m.few m.line PySem.F.plainAttrs_dict PySem.F.slot_dict_setdefault PySem.F.type_dict_setdefault (thn (ho.run pins s σ H _ I h) fun u s1 ⟨x, H1, I1, rx, a, ex, d, q1⟩ => ?_)
  subst ex
  obtain rfl : u = Value.ref a := rx
  obtain ⟨t1, t2, _⟩ := isD_at I1 d
  refine ⟨t1, t2, ?_⟩
  rw [m.trees]
  refine Calls.callWith_builtin rfl (Calls.evalArgs_plain (Calls.spliced_cons (thn (he.run pins s1 σ H1 _ I1 q1) fun iv s2 ⟨y, H2, I2, ry, q2⟩ =>
    Calls.spliced_cons (thn (hf.run pins s2 σ H2 _ I2 q2) fun fv s3 ⟨z, H3, I3, rz, kvs, k, b, ea, ey, eb, hl, q3, q4⟩ => Calls.spliced_nil ?_))))
  subst ey
  obtain rfl : iv = Value.ref b := ry
  obtain ⟨zz, hd, xs, rel, dd⟩ := dt_of I3.hok ea
  have hz : xs.length ≤ sizeLine := by rw [← Paired.length rel]; exact zz
  refine call_setdefault_heap (tupleKind_room_in1 hu) (key_of I3.hok eb) hd dd (fun p hp => ?_) (fun hn h' dd' hs => ?_) hz
  · have q := rel.val k
    rw [hp] at q
    cases q0 : valV kvs k with
    | none =>
      rw [q0] at q
      exact (show False from q).elim
    | some v0 =>
      rw [q0] at q
      exact ⟨v0, _, I3.tok _, q, q3 v0 q0⟩
  · have q := rel.val k
    rw [hn] at q
    cases q0 : valV kvs k with
    | some v0 =>
      rw [q0] at q
      exact (show False from q).elim
    | none =>
      have hl2 : (putK kvs k z).length ≤ sizeLine := by
        have := length_putK kvs k z
        omega
      obtain ⟨oo, es, ep, hq, h2, h3, h4, _, h5⟩ := dd'
      have hk := (KT.put rel k eb rz)
      refine ⟨z, _, d_write (ob := .dT (putK kvs k z)) I3 (by rw [ea]; exact True.intro) hs ⟨oo, hq⟩ ⟨hl2, hd, _, hk.keeps (fun c ys ec => (by rw [upd_ne (ne_of ec ea (fun z => nomatch z))]; exact ec)), oo, es, ep, hq, h2, h3, h4, h5⟩, rz, q4 q0⟩
/-- a comprehension over the keys of a dict -/
theorem lc_keysT {d : Addr} {od : Obj} {kvs : List (List Key × V)} {g : TG} {tt : TT} {te : TE} {vs : List Nat} {σ : L2.St} {H1 : Hp} {D : Addr} {Qd : Hp → Prop} (Pv : Nat → Hp → Prop) (h0 : Pv 0 (upd H1 D (.lst []))) (hG : ∀ i H, i ≤ kvs.length → Pv i H → H d = some (.frz od (.dT kvs)))
    (hs : ∀ i k v q H, kvs[i]? = some (k, v) → H q = some (.tup (k.map kV)) → Pv i H → g (.ref q) (wipe σ vs) H fun σ2 H2 => wipe σ2 vs = wipe σ vs ∧ tt σ2 H2 fun b H3 =>
      if b = true then te σ2 H3 fun y H4 => ∃ acc, H4 D = some (.lst acc) ∧ acc.length < sizeLine ∧ Pv (i + 1) (upd H4 D (.lst (acc ++ [y]))) else Pv (i + 1) H3) (hd : ∀ H, Pv kvs.length H → Qd H) :
    ∃ W : Nat → Nat → Hp → Prop, (∃ m, W 0 m (upd H1 D (.lst []))) ∧ ∀ i m H, W i m H →
      ((Itkt d od kvs).stop i H ∧ Qd H) ∨ ((Itkt d od kvs).go i H ∧ ∃ Nx : Hp → Prop, (∀ H', Nx H' → ∃ m', m' < m ∧ W (i + 1) m' H') ∧ ∀ x H', (Itkt d od kvs).yld i H x H' → g x (wipe σ vs) H' fun σ2 H2 => wipe σ2 vs = wipe σ vs ∧ tt σ2 H2 fun b H3 =>
        if b = true then te σ2 H3 fun y H4 => ∃ acc, H4 D = some (.lst acc) ∧ acc.length < sizeLine ∧ Nx (upd H4 D (.lst (acc ++ [y]))) else Nx H3) :=
  lc_it (walk_keysT (d := d) (o := od) (kvs := kvs)) Pv h0 hG (fun i x H H' hi p y => by
    obtain ⟨rfl, k, v, q, h1, rfl, h2⟩ := y
    exact hs i k v q _ h1 h2 p) hd
/-- a loop over the keys of a dict -/
theorem for_keysT {d : Addr} {od : Obj} {kvs : List (List Key × V)} {g : TG} {tb : L2.TS} {D : Ends} {σ : L2.St} {H : Hp} (Pv : Nat → L2.St → Hp → Prop) (h0 : Pv 0 σ H) (hG : ∀ i σ H, i ≤ kvs.length → Pv i σ H → H d = some (.frz od (.dT kvs)))
    (hs : ∀ i k v q σ H, kvs[i]? = some (k, v) → H q = some (.tup (k.map kV)) → Pv i σ H → g (.ref q) σ H fun σ2 H2 => tb { D with nx := Pv (i + 1), ct := Pv (i + 1), bk := D.nx } σ2 H2) (hd : ∀ σ H, Pv kvs.length σ H → D.nx σ H) :
    ∃ W : Nat → Nat → L2.St → Hp → Prop, (∃ m, W 0 m σ H) ∧ ∀ i m σ H, W i m σ H →
      ((Itkt d od kvs).stop i H ∧ D.nx σ H) ∨ ((Itkt d od kvs).go i H ∧ ∃ N : L2.St → Hp → Prop, (∀ σ' H', N σ' H' → ∃ m', m' < m ∧ W (i + 1) m' σ' H') ∧ ∀ x H', (Itkt d od kvs).yld i H x H' → g x σ H' fun σ2 H2 => tb { D with nx := N, ct := N, bk := D.nx } σ2 H2) :=
  for_it (walk_keysT (d := d) (o := od) (kvs := kvs)) Pv h0 hG (fun i x σ H H' hi p y => by
    obtain ⟨rfl, k, v, q, h1, rfl, h2⟩ := y
    exact hs i k v q σ _ h1 h2 p) hd
end
/-- d.pop(y, z), y a tuple: whatever is told, the key is out -/
def rPopW : V → List V → Hp → VK → Prop := fun x xs H Q => ∃ (a : Addr) (kvs : List (List Key × V)) (k : List Key) (b : Addr) (d : V), x = .ref a ∧ xs = [.ref b, d] ∧ H a = some (.dT kvs) ∧ H b = some (.tup (k.map kV)) ∧
  ∀ v H', H' a = some (.dT (dropK kvs k)) → Keep [a] H H' → Dom H H' → Q v H'
theorem dropK_none {κ : Type} [DecidableEq κ] {kvs : List (κ × V)} {k : κ} (h : valV kvs k = none) : dropK kvs k = kvs := by
  unfold dropK
  refine List.filter_eq_self.mpr fun p hp => decide_eq_true fun e => ?_
  exact valV_not h (List.mem_map.mpr ⟨p, hp, e⟩)
theorem mt_popW {X : Cx} (hu : X.A.units + 1 < cLine) : MtR X "dict.pop" rPopW := by
  intro pins s σ H x xs v us Q I rx rxs h
  obtain ⟨a, kvs, k, b, d, rfl, rfl, ha, hb, q⟩ := h
  refine L2.DX.mt_popT hu pins s σ H _ _ v us Q I rx rxs ⟨a, kvs, k, b, d, rfl, rfl, ha, hb, fun v hv => ?_, fun hv => ?_⟩
  · exact q _ _ upd_same (keep_upd (Keep.refl _ _) (by simp)) (dom_upd _ _ _)
  · exact q _ _ (by rw [dropK_none hv]; exact ha) (Keep.refl _ _) (Dom.refl _)
/-- the lock is off again -/
theorem unlock {H H' : Hp} {d : Addr} {u : HO} (k : Keep [d] H H') (h : H d = some u) : Same H (upd H' d u) := fun b o e => by
  by_cases z : b = d
  · subst z
    rw [upd_same, ← h]
    exact e
  · rw [upd_ne z]
    exact k b o (by simpa using z) e
end Sky

/-! Cuts in walks: what holds behind a statement. -/
namespace Sky
open PySem PySem.Spec PyProof.Rows L2
section
variable {X b : L2.TS} {t : TT} {tb : L2.TS} {D : Ends} {σ : L2.St} {H : Hp} {i : Nat} {x : V} {r : VK} {k c : L2.St → Hp → Prop}
theorem seq_cut (R : L2.St → Hp → Prop) (rest : ∀ σ' H', R σ' H' → b D σ' H') (h : ∀ D' : Ends, (∀ σ' H', R σ' H' → D'.nx σ' H') → X D' σ H) : tSeq X b D σ H := h _ rest
theorem nx_cut (R : L2.St → Hp → Prop) (rest : ∀ σ' H', R σ' H' → b D σ' H') (h : ∀ D' : Ends, (∀ σ' H', R σ' H' → D'.nx σ' H') → X D' σ H) : Ends.nx ⟨tSeq X b D, r, k, c⟩ σ H := h _ rest
theorem gn_cut (R : L2.St → Hp → Prop) (rest : ∀ σ' H', R σ' H' → b D σ' H') (h : ∀ D' : Ends, (∀ σ' H', R σ' H' → D'.nx σ' H') → X D' (σ.set i (some x)) H) : gName i x σ H (Ends.nx ⟨tSeq X b D, r, k, c⟩) := h _ rest
theorem gb_cut (R : L2.St → Hp → Prop) (rest : ∀ σ' H', R σ' H' → b D σ' H') (h : ∀ D' : Ends, (∀ σ' H', R σ' H' → D'.nx σ' H') → X D' (σ.set i (some x)) H) : gName i x σ H (fun σ2 H2 => tSeq X b D σ2 H2) := h _ rest
theorem seq_ifs (Cd : Hp → Prop) (rest : ∀ H1, Cd H1 → b D σ H1) (h : ∀ Q : Bool → Hp → Prop, (∀ H1, Cd H1 → Q false H1) → t σ H Q) : tSeq (tIfS t tb tNext) b D σ H := h _ fun H1 c => iteF (rest H1 c)
theorem gn_ifs (Cd : Hp → Prop) (rest : ∀ H1, Cd H1 → b D (σ.set i (some x)) H1) (h : ∀ Q : Bool → Hp → Prop, (∀ H1, Cd H1 → Q false H1) → t (σ.set i (some x)) H Q) : gName i x σ H (Ends.nx ⟨tSeq (tIfS t tb tNext) b D, r, k, c⟩) := h _ fun H1 c => iteF (rest H1 c)
theorem nx_ifs (Cd : Hp → Prop) (rest : ∀ H1, Cd H1 → b D σ H1) (h : ∀ Q : Bool → Hp → Prop, (∀ H1, Cd H1 → Q false H1) → t σ H Q) : Ends.nx ⟨tSeq (tIfS t tb tNext) b D, r, k, c⟩ σ H := h _ fun H1 c => iteF (rest H1 c)
/-- no more arguments: a promise is asked -/
theorem nilA {G : Hp} {kk : List V → Hp → Prop} (h : kk [] G) : tNil σ G kk := h
end
end Sky

/-! Rules of my own: match a tuple against (word, name, ..). -/
namespace Sky
open PySem PySem.Spec PyProof.Rows L2
/-- a pattern's reading: what it binds, none where it doesn't fit -/
abbrev TPt := V → L2.St → Hp → (Option (List V) → Hp → Prop) → Prop
def BindsAs (ns : List Str) : Option (List (Str × Value)) → Option (List V) → Prop
  | none, none => True
  | some bs, some vs => bs.map (·.1) = ns ∧ Vals vs (bs.map (·.2))
  | _, _ => False
structure PMt (X : Cx) (p : Pattern) (ns : List Str) (t : TPt) : Prop where
  run : ∀ (pins : List (Addr × Obj)) (s : Shared) (σ : L2.St) (H : Hp) (v : V) (u : Value) (Q : Option (List V) → Hp → Prop), Inv X pins σ H s → RelV v u → t v σ H Q →
    wpAny (model X.prog X.w) X.A (matchPattern p X.env u) (fun r s' => ∃ o H', Inv X pins σ H' s' ∧ BindsAs ns r o ∧ Q o H') X.xe s
structure PMs (X : Cx) (ps : List Pattern) (ns : List Str) (t : List V → L2.St → Hp → (Option (List V) → Hp → Prop) → Prop) : Prop where
  run : ∀ (pins : List (Addr × Obj)) (s : Shared) (σ : L2.St) (H : Hp) (vs : List V) (us : List Value) (Q : Option (List V) → Hp → Prop), Inv X pins σ H s → Vals vs us → t vs σ H Q →
    wpAny (model X.prog X.w) X.A (matchEach ps X.env us) (fun r s' => ∃ o H', Inv X pins σ H' s' ∧ BindsAs ns r o ∧ Q o H') X.xe s
/-- a word -/
def ptWord (K : PySem.W.Frag) (w : Str) : TPt := fun v _ H Q => ∃ d, Dp K H v d ∧ SeqAt.shaped d = true ∧ Q (if PyData.eqv d (.str w) = true then some [] else none) H
def ptName : TPt := fun v _ H Q => Q (some [v]) H
def ptNil : List V → L2.St → Hp → (Option (List V) → Hp → Prop) → Prop := fun _ _ H Q => Q (some []) H
def ptCons (t : TPt) (u : List V → L2.St → Hp → (Option (List V) → Hp → Prop) → Prop) : List V → L2.St → Hp → (Option (List V) → Hp → Prop) → Prop :=
  fun vs σ H Q => ∃ x r, vs = x :: r ∧ t x σ H fun o H1 => match o with
    | none => Q none H1
    | some a => u r σ H1 fun o2 H2 => match o2 with
      | none => Q none H2
      | some b => Q (some (a ++ b)) H2
def ptSeq (K : PySem.W.Frag) (n : Nat) (u : List V → L2.St → Hp → (Option (List V) → Hp → Prop) → Prop) : TPt := fun v σ H Q => ∃ a xs, v = .ref a ∧ SqT K H a xs ∧ ((xs.length = n → u xs σ H Q) ∧ (xs.length ≠ n → Q none H))
section
variable {X : Cx}
theorem pm_word (few : X.A.units + 64 < cLine) {w : Str} {j : Nat} {p1 p2 : Pos} (ok : PyData.strOk w = true := by decide) : PMt X (.MatchValue (.Constant (.str w) j p1) p2) [] (ptWord X.K w) := by
  constructor
  rintro pins s σ H v u Q I r ⟨d, hd, sd, q⟩
  refine wpAny_matchPattern_Value (thn (pe_str.run pins s σ H (fun y H1 => y = V.str w ∧ H1 = H) I ⟨rfl, rfl⟩) fun x s1 ⟨y, H1, I1, ry, e1, e2⟩ => ?_)
  subst e1 e2
  have sw : SeqAt.shaped (.str w) = true := by
    unfold SeqAt.shaped
    simp [PyData.canLay0, PyData.depth, ok]
  refine thn (op_eqD few pins s1 σ H1 v (.str w) u x (fun z H2 => z = V.bl (PyData.eqv d (.str w)) ∧ H2 = H1) I1 r ry ⟨d, .str w, hd, .str w, sd, sw, rfl, rfl⟩) fun c s2 ⟨z, H2, I2, rz, e3, e4⟩ => ?_
  subst e3 e4
  cases rz
  refine wpAny_truthy_bool ?_
  by_cases e : PyData.eqv d (.str w) = true
  · rw [if_pos e] at q
    rw [e]
    exact ⟨some [], H2, I2, ⟨rfl, .nil⟩, q⟩
  · rw [if_neg e] at q
    rw [if_neg e]
    exact ⟨none, H2, I2, True.intro, q⟩
theorem pm_name {n : Str} {p : Pos} : PMt X (.MatchAs none (some n) p) [n] ptName := by
  constructor
  intro pins s σ H v u Q I r q
  exact wpAny_matchPattern_Capture ⟨some [v], H, I, ⟨rfl, .cons r .nil⟩, q⟩
theorem pms_nil : PMs X [] [] ptNil := by
  constructor
  intro pins s σ H vs us Q I r q
  exact wpAny_matchEach_nil ⟨some [], H, I, ⟨rfl, .nil⟩, q⟩
theorem vals_app {vs ws : List V} {us xs : List Value} (h : Vals vs us) (k : Vals ws xs) : Vals (vs ++ ws) (us ++ xs) := by
  induction h with
  | nil => exact k
  | cons a _ ih => exact .cons a ih
theorem pms_cons {p : Pattern} {ps : List Pattern} {n m : List Str} {t : TPt} {u : List V → L2.St → Hp → (Option (List V) → Hp → Prop) → Prop} (a : PMt X p n t) (b : PMs X ps m u) (hp : p.isStar = false := by rfl) : PMs X (p :: ps) (n ++ m) (ptCons t u) := by
  constructor
  rintro pins s σ H vs us Q I r ⟨x, rs, rfl, q⟩
  cases r with
  | cons rx rr =>
    refine wpAny_matchEach_cons (thn (a.run pins s σ H x _ _ I rx q) fun o s1 h1 => ?_) hp
    obtain ⟨o1, H1, I1, e1, q1⟩ := h1
    cases o with
    | none =>
      cases o1 with
      | none => exact ⟨none, H1, I1, True.intro, q1⟩
      | some v => exact e1.elim
    | some bs =>
      cases o1 with
      | none => exact e1.elim
      | some v =>
        refine thn (b.run pins s1 σ H1 rs _ _ I1 rr q1) fun o2 s2 h2 => ?_
        obtain ⟨o3, H2, I2, e2, q2⟩ := h2
        cases o2 with
        | none =>
          cases o3 with
          | none => exact ⟨none, H2, I2, True.intro, q2⟩
          | some v => exact e2.elim
        | some cs =>
          cases o3 with
          | none => exact e2.elim
          | some w =>
            refine ⟨some (v ++ w), H2, I2, ⟨?_, ?_⟩, q2⟩
            · rw [List.map_append, e1.1, e2.1]
            · rw [List.map_append]; exact vals_app e1.2 e2.2
theorem pm_seq (calm : X.calm = true) {ps : List Pattern} {pos : Pos} {ns : List Str} {k : Nat} {u : List V → L2.St → Hp → (Option (List V) → Hp → Prop) → Prop} (h : PMs X ps ns u) (hk : ps.length = k := by rfl)
    (hstar : ps.findIdx? (·.isStar) = none := by rfl) (hwild : (ps.all fun p => p.isWildcard || (p.isStar && p.names.isEmpty)) = false := by rfl) : PMt X (.MatchSequence ps pos) ns (ptSeq X.K k u) := by
  constructor
  rintro pins s σ H v w Q I r ⟨a, xs, rfl, hq, q1, q2⟩
  cases r
  obtain ⟨its, rv, ht, hz⟩ := I.tuple hq
  have hl : its.toArray.size = xs.length := by simp [rv.length]
  have hfit : (its.toArray.size : Int) < 2 ^ 63 := by
    rw [hl]
    have : xs.length ≤ 16777216 := by rw [← sizeLine_eq]; exact hz
    omega
  have I2 : Inv X pins σ H { s with toks := s.toks + 1 + 1 } := I.kept (t' := s.toks + 1 + 1) fun _ _ e => e
  by_cases e : xs.length = k
  · refine matchSeq_tuple_hit ht hfit (by rw [hl, e, hk]) ?_ hstar hwild
    have ht2 : IsTup ({ s with toks := s.toks + 1 + 1 } : Shared).heap a its.toArray := ht
    have e2 : its.toArray.size = ps.length := by rw [hl, e, hk]
    rw [← e2]
    refine unpackItems_tuple (I.ok.hd calm) ht2 fun h' hx => ?_
    have I3 : Inv X pins σ H { s with heap := h', toks := s.toks + 1 + 1 } := I.kept (t' := s.toks + 1 + 1) fun b o e => hx b o (Nat.ne_of_lt (Heap.lt_size e)) e
    exact h.run pins _ σ H xs _ Q I3 (by simpa using rv) (q1 e)
  · refine matchSeq_tuple_miss ht hfit (by rw [hl, hk]; exact e) ?_ hstar hwild
    exact ⟨none, H, I2, True.intro, q2 e⟩
end
/-! ### cases -/
def setN : List Nat → List V → L2.St → L2.St
  | i :: is, v :: vs, σ => setN is vs (σ.set i (some v))
  | _, _, σ => σ
structure PCs (X : Cx) (cs : List MatchCase) (t : V → L2.TS) : Prop where
  run : ∀ (pins : List (Addr × Obj)) (s : Shared) (σ : L2.St) (H : Hp) (v : V) (u : Value) (first : Bool) (D : Ends), Inv X pins σ H s → RelV v u → t v D σ H →
    wpAny (model X.prog X.w) X.A (matchCases cs X.env u first) (SP X pins D) X.xe s
def tCsNil : V → L2.TS := fun _ D σ H => D.nx σ H
def tCsCons (is : List Nat) (p : TPt) (b : L2.TS) (r : V → L2.TS) : V → L2.TS := fun v D σ H => p v σ H fun o H1 => match o with
  | none => r v D σ H1
  | some vs => b D (setN is vs σ) H1
def tMatch (te : TE) (t : V → L2.TS) : L2.TS := fun D σ H => te σ H fun v H1 => t v D σ H1
/-- the slots of the names -/
inductive Slots (X : Cx) : List Str → List Nat → Prop
  | nil : Slots X [] []
  | cons {n : Str} {i : Nat} {ns : List Str} {is : List Nat} : X.N[i]? = some n → Loc X.env.scope n → (X.fn n = true ∨ X.env.scope.names.lookup n = some .local) → Slots X ns is → Slots X (n :: ns) (i :: is)
section
variable {X : Cx}
theorem pcs_nil : PCs X [] tCsNil := by
  constructor
  intro pins s σ H v u first D I r q
  exact wpAny_matchCases_nil ⟨σ, H, I, q⟩
theorem binds_run (nd : X.N.Nodup) {pins : List (Addr × Obj)} {H : Hp} {Q : L2.St → Prop} {T : Unit → Shared → Prop} : ∀ {bs : List (Str × Value)} {ns : List Str} {is : List Nat} {vs : List V} {s : Shared} {σ : L2.St}, Slots X ns is → bs.map (·.1) = ns → Vals vs (bs.map (·.2)) → Inv X pins σ H s → Q (setN is vs σ) →
    (∀ s', Inv X pins (setN is vs σ) H s' → T () s') → wpAny (model X.prog X.w) X.A (assignInOrder (bs.map fun (n, _) => bindName X.env n) (bs.map (·.2))) T X.xe s
  | [], _, _, vs, s, σ, sl, e, r, I, q, k => by
    cases e
    cases sl
    cases r
    exact wpAny_assignInOrder_none (k s I)
  | (n, x) :: bs, _, _, vs, s, σ, sl, e, r, I, q, k => by
    cases e
    cases sl with
    | cons h1 h2 h3 sl =>
      cases r with
      | cons rx rr =>
        refine wpAny_assignInOrder_more (wpAny_bindName (store_ok I nd h1 h2 rx (fun s' I' => ?_) h3))
        exact binds_run nd sl rfl rr I' q k
theorem pcs_cons (nd : X.N.Nodup) {p : Pattern} {body : List Stmt} {cs : List MatchCase} {ns : List Str} {is : List Nat} {t : TPt} {b : L2.TS} {r : V → L2.TS} (hp : PMt X p ns t) (sl : Slots X ns is) (hb : PSs X body b) (hr : PCs X cs r) : PCs X (⟨p, none, body⟩ :: cs) (tCsCons is t b r) := by
  constructor
  intro pins s σ H v u first D I rv q
  refine wpAny_matchCases_cons (thn (hp.run pins s σ H v u _ I rv q) fun o s1 h1 => ?_)
  obtain ⟨o1, H1, I1, e1, q1⟩ := h1
  cases o with
  | none =>
    cases o1 with
    | none => exact hr.run pins s1 σ H1 v u false D I1 rv q1
    | some v => exact e1.elim
  | some bs =>
    cases o1 with
    | none => exact e1.elim
    | some vs =>
      exact binds_run (Q := fun _ => True) nd sl e1.1 e1.2 I1 True.intro fun s2 I2 => hb.run pins s2 _ H1 D I2 q1
theorem ps_match {e : Expr} {cs : List MatchCase} {pos : Pos} {te : TE} {t : V → L2.TS} (he : PE X e te) (hc : PCs X cs t) : PS X (.Match e cs pos) (tMatch te t) := by
  constructor
  intro pins s σ H D I q
  exact wpAny_Match (thn (he.run pins s σ H _ I q) fun u s1 ⟨v, H1, I1, r, q1⟩ => hc.run pins s1 σ H1 v u true D I1 r q1)
end
/-! ### what a match of a tuple asks, shortly -/
theorem eqv_str (a b : Str) : PyData.eqv (.str a) (.str b) = decide (a = b) := by
  by_cases e : a = b
  · subst e; simp [PyData.eqv]
  · simp [PyData.eqv, e]
theorem case_hit {K : PySem.W.Frag} {w : Str} {n : Nat} {u : List V → L2.St → Hp → (Option (List V) → Hp → Prop) → Prop} {σ : L2.St} {H : Hp} {a : Addr} {xs : List V} {Q : Option (List V) → Hp → Prop} (h : SqT K H a (.str w :: xs)) (e : xs.length + 1 = n)
    (ok : PyData.strOk w = true) (q : u xs σ H fun o H1 => match o with | none => Q none H1 | some b => Q (some b) H1) : ptSeq K n (ptCons (ptWord K w) u) (.ref a) σ H Q := by
  refine ⟨a, _, rfl, h, fun _ => ⟨_, _, rfl, .str w, .str w, ?_, ?_⟩, fun z => absurd e z⟩
  · unfold SeqAt.shaped; simp [PyData.canLay0, PyData.depth, ok]
  · rw [eqv_str, decide_eq_true rfl, if_pos rfl]
    exact q
theorem case_miss {K : PySem.W.Frag} {w w' : Str} {n : Nat} {u : List V → L2.St → Hp → (Option (List V) → Hp → Prop) → Prop} {σ : L2.St} {H : Hp} {a : Addr} {xs : List V} {Q : Option (List V) → Hp → Prop} (h : SqT K H a (.str w' :: xs)) (e : xs.length + 1 ≠ n ∨ w' ≠ w)
    (ok : PyData.strOk w' = true) (q : Q none H) : ptSeq K n (ptCons (ptWord K w) u) (.ref a) σ H Q := by
  refine ⟨a, _, rfl, h, fun z => ⟨_, _, rfl, .str w', .str w', ?_, ?_⟩, fun _ => q⟩
  · unfold SeqAt.shaped; simp [PyData.canLay0, PyData.depth, ok]
  · rcases e with e | e
    · exact absurd z e
    · rw [eqv_str, decide_eq_false e, if_neg (by decide)]
      exact q
end Sky
namespace Sky
open PySem PySem.Spec PyProof.Rows L2
/-! ### xs[::n], n written, at least 1 -/
def stepI (n : Nat) (len : Nat) : List Nat := sliceRange 0 (len : Int) (n : Int)
def stepL (n : Nat) (xs : List V) : List V := (stepI n xs.length).filterMap (xs[·]?)
def tStepL (K : PySem.W.Frag) (n : Nat) (te : TE) : TE := fun σ H Q => te σ H fun x H1 => ∃ a xs, x = .ref a ∧ SqL K H1 a xs ∧ (stepL n xs).length ≤ sizeLine ∧ ∀ p, H1 p = none → Q (.ref p) (upd H1 p (.lst (stepL n xs)))
theorem vals_pick {xs : List V} {its : List Value} (r : Vals xs its) : ∀ is : List Nat, Vals (is.filterMap (xs[·]?)) (is.filterMap (its[·]?))
  | [] => .nil
  | i :: is => by
    have ih := vals_pick r is
    cases h : xs[i]? with
    | none =>
      have h2 : its[i]? = none := by
        rw [List.getElem?_eq_none_iff] at h ⊢
        rw [← r.length]; exact h
      rw [List.filterMap_cons_none h, List.filterMap_cons_none h2]
      exact ih
    | some x =>
      obtain ⟨v, hv, rx⟩ := r.get h
      rw [List.filterMap_cons_some h, List.filterMap_cons_some hv]
      exact .cons rx ih
theorem pe_stepL {X : Cx} {e : Expr} {te : TE} {n : Nat} {k : Nat} {p1 p3 pos : Pos} (he : PE X e te) (h0 : 0 < n := by decide) : PE X (.Subscript e (.Slice none none (some (.Constant (.int (n : Int)) k p1)) p3) pos) (tStepL X.K n te) := by
  refine ⟨fun pins s σ H Q I h => ?_⟩
  refine Subscript_ (thn (he.run pins s σ H _ I h) fun v s1 ⟨x, H1, I1, r1, q1⟩ => ?_)
  obtain ⟨a, xs, ex, hx, hl, q⟩ := q1
  subst ex
  cases r1
  have hst : PO X (some (.Constant (.int (n : Int)) k p1)) (tPart (tC (.int (n : Int)))) := po_some pe_int
  refine wpAny_Slice (thn (po_none.run pins s1 σ H1 (fun o H2 => o = none ∧ H2 = H1) I1 ⟨rfl, rfl⟩) fun vl s2 ⟨l, H2, I2, pl, el, e2⟩ => ?_)
  subst el e2
  refine thn (po_none.run pins s2 σ H2 (fun o H3 => o = none ∧ H3 = H2) I2 ⟨rfl, rfl⟩) fun vu s3 ⟨u, H3, I3, pu, eu, e3⟩ => ?_
  subst eu e3
  refine thn (hst.run pins s3 σ H3 (fun o H4 => o = some (n : Int) ∧ H4 = H3) I3 ⟨(n : Int), rfl, rfl, rfl⟩) fun vs s4 ⟨o, H4, I4, ps, eo, e4⟩ => ?_
  subst eo e4
  have I5 : Inv X pins σ H4 { s4 with heap := s4.heap.push { cls := .type "slice", data := .fields #[vl, vu, vs] } } := I4.kept (t' := s4.toks) fun b ob q => Heap.get?_push_of_some _ q
  obtain ⟨its, r, ht, hz⟩ := I5.list hx
  have hlen := r.length
  show wpAny (model X.prog X.w) X.A (subscriptTail e (.Slice none none (some (.Constant (.int (n : Int)) k p1)) p3) (.ref a) (.ref s4.heap.objs.size)) (EP X pins σ Q) X.xe { s4 with heap := s4.heap.push { cls := .type "slice", data := .fields #[vl, vu, vs] } }
  refine tail_any (ops := [.ref a, .ref s4.heap.objs.size]) ht.isList.typeIs (PySem.slot_list_getitem.lookup) ?_ (by with_unfolding_all rfl)
  refine wpAny_getItem_list_slice ht.isList (Heap.IsSliceOf.new _ vl vu vs) pl pu ps (by intro z; injection z with z; omega) ?_ (by rw [List.size_toArray]; omega)
  have epick : slicePick its.toArray none none (some (n : Int)) = ((stepI n xs.length).filterMap (its[·]?)).toArray := by
    unfold slicePick
    have eb : sliceBounds none none (some (n : Int)) its.toArray.size = (0, ((its.toArray.size : Nat) : Int), (n : Int)) := by
      unfold sliceBounds
      have : (n : Int) > 0 := by omega
      have n0 : ¬ n = 0 := by omega
      simp [this, n0]
    rw [eb]
    show ((sliceRange 0 ((its.toArray.size : Nat) : Int) (n : Int)).filterMap (its.toArray[·]?)).toArray = _
    rw [List.size_toArray, ← hlen]
    congr 1
    refine congrArg (fun f => List.filterMap f _) (funext fun i => ?_)
    simp
  rw [epick]
  refine ⟨.ref _, _, I5.laid (t' := s4.toks) (o := .lst (stepL n xs)) (fun b ob q => Heap.get?_push_of_some _ q) (Nat.le_refl _) ?_, rfl, q _ (I5.hok.fresh (Nat.le_refl _))⟩
  exact ⟨hl, _, 0, vals_pick r _, Heap.get?_push_size _ rfl⟩
end Sky

/-! Rules of my own: l.remove of data, d.update, a tuple taken once. -/
namespace Sky
open PySem PySem.Spec PyProof.Rows L2
/-! ### l.remove(x), items data -/
theorem er_size (us : Array Value) (at' : Nat) : (us.eraseIdxIfInBounds at').size ≤ us.size := by
  unfold Array.eraseIdxIfInBounds
  split
  · rw [Array.size_eraseIdx]; omega
  · exact Nat.le_refl _
/-- the list object -/
abbrev lob (us : Array Value) (cap : Nat) : Obj := { cls := .type "list", dict := none, data := .seq us cap, slots := #[] }
theorem drop_walk (me : Addr) (us : Array Value) (cap : Nat) (what : Value) (fits : Value → Bool) (goal : Nat) (inside : goal < us.size) (yes : fits us[goal] = true) (small : us.size ≤ sizeLine) (far : Nat) :
    ∀ now : Nat, goal - now = far → now ≤ goal → (∀ k (hk : k < us.size), now ≤ k → k < goal → fits us[k] = false) →
      Meets (Builtin.«list.remove.loop» ⟨[.ref me, what, rawInt now], []⟩) (fun A R s => s.heap.get? me = some (lob us cap) ∧ (∀ y, y ∈ us → SeqAt.EqAt A.in1 s y what (fits y)) ∧
        R (.ok (.ret .none)) { s with heap := s.heap.update me (Obj.mapSeq fun vs => vs.eraseIdxIfInBounds goal) }) := by
  induction far with
  | zero =>
    intro now gap upto others prog w A R s got
    obtain ⟨heap0, gen0, dr0, tk0, sys0⟩ := s
    obtain ⟨here, same, after⟩ := got
    obtain rfl : now = goal := by omega
    wp_walk using wpAny_loadPart' here
    have pick : us[((now : Nat) : Int).toNat]? = some us[now] := by simp [inside]
    rw [pick]
    refine wpAny_bind (same us[now] (Array.getElem_mem inside) prog w _ _ ?_)
    rw [yes]
    have less : (us.eraseIdxIfInBounds now).size ≤ sizeLine + 1 := Nat.le_succ_of_le (Nat.le_trans (er_size us now) small)
    wp_walk using (wpAny_updateSeq here rfl (hz := small) (_hz' := less)), wpAny_loadPart' here
    simpa using after
  | succ far more =>
    intro now gap upto others prog w A R s got
    obtain ⟨heap0, gen0, dr0, tk0, sys0⟩ := s
    obtain ⟨here, same, after⟩ := got
    have inside' : now < us.size := by omega
    wp_walk using wpAny_loadPart' here
    have pick : us[((now : Nat) : Int).toNat]? = some us[now] := by simp [inside']
    have next : ((now : Int) + 1) = ((now + 1 : Nat) : Int) := by push_cast; rfl
    rw [pick]
    refine wpAny_bind (same us[now] (Array.getElem_mem inside') prog w _ _ ?_)
    rw [others now inside' (Nat.le_refl _) (by omega)]
    wp_walk
    rw [next]
    refine ⟨plainId_quiet MeetsSeq.plain_remove_loop _, codeAny_builtin MeetsSeq.entry_remove_loop ?_⟩
    rw [Around.under_plainId MeetsSeq.plain_remove_loop _]
    exact more (now + 1) (by omega) (by omega) (fun k hk a b => others k hk (by omega) b) prog w A R _ ⟨here, same, after⟩
theorem drop_meets (me : Addr) (us : Array Value) (cap : Nat) (what : Value) (fits : Value → Bool) (goal : Nat) (inside : goal < us.size) (yes : fits us[goal] = true)
    (others : ∀ k (hk : k < us.size), k < goal → fits us[k] = false) (small : us.size ≤ sizeLine) :
    Meets (Builtin.«list.remove» ⟨[.ref me, what], []⟩) (fun A R s => s.heap.get? me = some (lob us cap) ∧ (∀ y, y ∈ us → SeqAt.EqAt A.in1 s y what (fits y)) ∧
      R (.ok (.ret .none)) { s with heap := s.heap.update me (Obj.mapSeq fun vs => vs.eraseIdxIfInBounds goal) }) := by
  intro prog w A R s got
  obtain ⟨heap0, gen0, dr0, tk0, sys0⟩ := s
  obtain ⟨here, same, after⟩ := got
  wp_walk using wpAny_loadPart' here
  refine ⟨plainId_quiet MeetsSeq.plain_remove_loop _, codeAny_builtin MeetsSeq.entry_remove_loop ?_⟩
  rw [Around.under_plainId MeetsSeq.plain_remove_loop _]
  exact drop_walk me us cap what fits goal inside yes small _ 0 rfl (Nat.zero_le _) (fun k hk _ b => others k hk b) prog w A R _ ⟨here, same, after⟩
section
variable {X : Cx}
def rRemD (K : PySem.W.Frag) : V → List V → Hp → VK → Prop := fun x xs H Q => ∃ (l : Addr) (y : V) (d : PyData) (vs : List V) (ds : List PyData) (j : Nat) (z : PyData), x = .ref l ∧ xs = [y] ∧ H l = some (.lst vs) ∧ DpAll K H vs ds ∧ Dp K H y d ∧
  SeqAt.shaped (.list ds) = true ∧ SeqAt.shaped d = true ∧ ds[j]? = some z ∧ PyData.eqv z d = true ∧ (∀ (m : Nat) (z' : PyData), m < j → ds[m]? = some z' → PyData.eqv z' d = false) ∧ Q .non (upd H l (.lst (vs.eraseIdx j)))
theorem mt_removeD (hu : X.A.units + 65 < cLine) : MtM X "list.remove" (rRemD X.K) := by
  intro pins s σ H x xs v us Q I rx rxs told
  obtain ⟨l, y, d, vs, ds, j, w, rfl, rfl, hl, dall, dy, shl, shd, hjw, yes, others, after⟩ := told
  cases rx
  obtain ⟨uy, rfl, ry⟩ := rxs.one
  obtain ⟨fits, its, cap, rel, len, obj⟩ := I.lstM hl
  obtain ⟨bs, ready⟩ := Dp.reads I d y uy dy ry
  obtain ⟨as, reads⟩ := Dp.readsAll I ds _ its dall rel
  have lay : PyData.canLayAll0 ds = true := SeqAt.canLay_of_shaped shl
  have room : X.A.units + 1 + min (PyData.depthAll ds) d.depth < cLine := room_in_shaped shd hu
  have many : its.length = ds.length := SeqAt.ReadsAll.length ds its as reads
  have back : its.map (SeqAt.readOf s.heap) = ds := SeqAt.readsAll_map ds its as lay reads
  have inside : j < its.toArray.size := by rw [List.size_toArray, many]; exact (List.getElem?_eq_some_iff.mp hjw).1
  have told : ∀ (k : Nat) (hk : k < its.toArray.size) (e : PyData), ds[k]? = some e → SeqAt.readOf s.heap its.toArray[k] = e := fun k hk e he => by
    have hk' : k < its.length := by rw [List.size_toArray] at hk; exact hk
    rw [← back, List.getElem?_map, List.getElem?_eq_getElem hk'] at he
    exact Option.some.inj he
  refine call_meets PySem.F.slot_list_remove ⟨_, obj, rfl⟩ PySem.F.entry_list_remove (PySem.F.args_list_remove_2 _ _)
    (drop_meets l its.toArray cap uy (fun u => PyData.eqv (SeqAt.readOf s.heap u) d) j inside (by show PyData.eqv (SeqAt.readOf s.heap its.toArray[j]) d = true; rw [told j inside w hjw]; exact yes) (fun k hk less => ?_) (by rw [List.size_toArray, ← len]; exact fits))
    ⟨obj, SeqAt.items_eqAt (vs := its.toArray) reads ready lay (SeqAt.canLay_of_shaped shd) room, .non, _, I.lset (its' := its.eraseIdx j) hl obj (by show its.toArray.eraseIdxIfInBounds j = _; rw [List.eraseIdxIfInBounds_toArray]) (rel.eraseIdx j) (Nat.le_trans (List.length_eraseIdx_le vs j) fits), rfl, after⟩
  have hk2 : k < ds.length := by rw [List.size_toArray] at hk; omega
  show PyData.eqv (SeqAt.readOf s.heap its.toArray[k]) d = false
  rw [told k hk ds[k] (List.getElem?_eq_getElem hk2)]
  exact others k _ less (List.getElem?_eq_getElem hk2)
/-! ### d.update(d2), both of short keys -/
def rUpdK : V → List V → Hp → VK → Prop := fun x xs H Q => ∃ (a b : Addr) (ks ms : List (Key × V)), x = .ref a ∧ xs = [.ref b] ∧ a ≠ b ∧ H a = some (.dK ks) ∧ H b = some (.dK ms) ∧ ks.length + ms.length ≤ sizeLine ∧ Q .non (upd H a (.dK (mergeK ks ms)))
theorem mt_updK : MtM X "dict.update" rUpdK := by
  intro pins s σ H x xs v us Q I rx rxs told
  obtain ⟨a, b, ks, ms, rfl, rfl, apart, ha, hb, fits, after⟩ := told
  cases rx
  obtain ⟨ub, rfl, rb⟩ := rxs.one
  cases (show ub = Value.ref b from rb)
  obtain ⟨_, plainA, va, relA, isA⟩ := dk_of I.hok ha
  obtain ⟨_, plainB, vb, relB, isB⟩ := dk_of I.hok hb
  refine call_meetsIn PySem.F.slot_dict_update isA.typeIs PySem.F.entry_dict_update (PySem.F.args_dict_update_2 _ _) (meets_dict_update (mixKind X.prog X.w) a b apart plainB)
    ⟨va, vb, isA, isB, by rw [← relA.length, ← relB.length]; exact fits, fun h' new _ but => ?_⟩
  have some' : ∃ ob, h'.get? a = some ob := let ⟨ob, _, _, e, _⟩ := new; ⟨ob, e⟩
  exact ⟨.non, _, d_write I (by rw [ha]; exact True.intro) but some' (dk_new (Nat.le_trans (length_mergeK ms ks) fits) plainA (KV.merge relB relA) new), rfl, after⟩
end
end Sky
/-! ### a tuple taken once -/
namespace Sky
open PySem PySem.Spec PyProof.Rows L2
theorem once_meets (me : Addr) (us : Array Value) (cap : Nat) (own : Option Addr) (sls : Array (Option Value)) (tk : Tok) :
    Meets (Builtin.«tuple.__mul__» ⟨[.ref me, .int 1 tk], []⟩)
      (fun _ R s => s.heap.get? me = some { cls := .type "tuple", dict := own, data := .seq us cap, slots := sls } ∧ R (.ok (.ret (Value.ref me))) s) :=
  .of_wp fun prog w A R s got => by
    obtain ⟨heap0, gen0, dr0, tk0, sys0⟩ := s
    obtain ⟨here, after⟩ := got
    have f1 := AutoSeq1.idx_int
    wp_walk using wpAny_loadPart' here
    exact ⟨_, rfl, after⟩
def rOnceT (K : PySem.W.Frag) : R2 := fun x y H Q => ∃ l xs, x = .ref l ∧ y = .int 1 ∧ SqT K H l xs ∧ Q (.ref l) H
theorem op_onceT {X : Cx} : OpR X (binaryOp .Mult) (rOnceT X.K) := by
  intro pins s σ H x y v u Q I rx ry told
  obtain ⟨l, xs, rfl, rfl, isT, after⟩ := told
  cases rx
  obtain ⟨tk, rfl⟩ := ry
  obtain ⟨its, rel, ⟨⟨cls, own, data, sls⟩, obj, isC, cap, isD⟩, _⟩ := I.tuple isT
  simp only at isC isD
  subst isC isD
  refine wpAny_binaryOp_repeat_ref (T := "tuple") (U := "int") (by decide) ⟨_, obj, rfl⟩ (fun s' => typeIs_int s' 1 tk) noFill_tuple_mul F.fills_int_mul F.slot_int_rmul repeat_tuple F.slot_int_index.lookup
    (call_meets F.slot_int_rmul (typeIs_int s 1 tk) F.entry_int_rmul (F.args_int_rmul_2 _ _) (int_rmul_tuple 1 tk l its.toArray cap own sls)
      ⟨obj, rfl, ⟨_, obj, rfl⟩, call_meets F.slot_tuple_mul ⟨_, obj, rfl⟩ F.entry_tuple_mul (F.args_tuple_mul_2 _ _) (once_meets l its.toArray cap own sls tk) ⟨obj, .ref l, H, I, rfl, after⟩⟩)
end Sky

/-! Rules of my own: a def that ends well here and lets an exception out there. -/
namespace Sky
open PySem PySem.Spec PyProof.Rows L2
/-- the facts of an own exception class over ValueError -/
structure ExC (K : PySem.W.Frag) (mg : Str → Option Value) (x : Str) (C : Addr) : Prop where
  g : mg x = some (.ref C)
  q : PySem.W.excIn K C [.type "ValueError", .type "Exception", .type "BaseException", .type "object"] "ValueError.__new__" = true
  k : PySem.W.keepIn K (.ref C) = true
  b : PySem.W.subIn K (.ref C) (.type "BaseException") = some true
  t : PySem.W.typeIn K (.ref C) = some (.type "type")
/-- two promises of one def, the second with exceptions -/
theorem fn_or {P : Program} {w : World} {K : PySem.W.Frag} {mg : Str → Option Value} {base : Heap} {C : CXT} {k : Nat} {f : Addr} {fd : FuncData} {ps : List Str} {well ill : Sp} (F : FnOk P w K mg base (fun _ _ _ _ _ _ => False) k f fd ps well) (G : FnOk P w K mg base C k f fd ps ill) :
    FnOk P w K mg base C k f fd ps (fun vs H Q E => well vs H Q E ∨ ill vs H Q E) where
  len := fun vs H Q E h => h.elim (F.len vs H Q E) (G.len vs H Q E)
  run := fun A outer s H args us vs Q E room env binds rel h => by
    rcases h with h | h
    · refine codeAny_mono (F.run A outer s H args us vs Q E room env binds rel h) fun r s' end' => ?_
      cases r with
      | ok flow =>
        cases flow with
        | ret u => exact end'
        | next => exact end'
        | brk => exact end'
        | cont => exact end'
      | error e => exact False.elim end'
    · exact G.run A outer s H args us vs Q E room env binds rel h
/-! ### o.m(e, ..) within a try: what is wished of an exception knows the slots at the call -/
section
variable {X : Cx} {C : CXT} {k : Nat} {f cl : Addr} {fd : FuncData} {ps : List Str} {sp : Sp} {dvs : List V} {ds : List Value} {W : L2.St → XK} {m : Str} {here dot : Pos} {e ob : Expr} {es : List Expr} {to : TE} {t : TA}
theorem calls_in {pins : List (Addr × Obj)} {σ : L2.St} {H : Hp} {s : Shared} {Q : VK} {us : List Value} {vs : List V} (F : FnOk X.prog X.w X.K X.mg X.base C k f fd ps sp) (room : Room k X.A) (bind : Binds X.K fd ps ds) (rest : Vals dvs ds)
    (out : ∀ e s', C X.stack H s (W σ) e s' → X.xe e s') (I : Inv X pins σ H s) (rel : Vals vs us) (h : sp (vs ++ dvs) H Q (W σ)) : wpAny (model X.prog X.w) X.A (call (.ref f) us) (EP X pins σ Q) X.xe s := by
  have all := rel.append rest
  have many : (us ++ ds).length = ps.length := all.length.symm.trans (F.len _ _ _ _ h)
  refine wpAny_call (codeAny_mono (F.run X.A X.stack s H ⟨us, []⟩ (us ++ ds) (vs ++ dvs) Q (W σ) room I.env0 (bind s us I.kIn many) all h) fun r s' fin => ?_)
  match r, fin with
  | .error e, fin => exact out e s' fin
  | .ok (.ret u), fin => exact I.after fin
  | .ok .next, fin => exact fin.elim
  | .ok .brk, fin => exact fin.elim
  | .ok .cont, fin => exact fin.elim
theorem pe_methS {pl : Sem Bool} (ho : PE X ob to) (cls : Cls X.K cl) (hm : Meth X.K cl m f) (F : FnOk X.prog X.w X.K X.mg X.base C k f fd ps sp) (room : Room k X.A) (bind : Binds X.K fd ps ds) (rest : Vals dvs ds)
    (out : ∀ (pins : List (Addr × Obj)) (σ : L2.St) (H : Hp) (s : Shared) (e : Value) (s' : Shared), Inv X pins σ H s → C X.stack H s (W σ) e s' → X.xe e s') (args : PA X (e :: es) t)
    (hst : starEach (e :: es) X.env = (false, eval e X.env) :: starEach es X.env := by rfl) (hpl : (backTo here (starEach es X.env)).any (·.1) = false := by rfl)
    (ht : eval (.Call (.Attribute ob m dot) (e :: es) [] here) X.env = (do
      let recv ← eval ob X.env
      standAt dot.atName
      let (run, self) ← holding [recv] (getMethod recv m pl)
      callWith here run self (backTo here (starEach (e :: es) X.env)) (backToKw here (keywordEach [] X.env))) := by rfl) :
    PE X (.Call (.Attribute ob m dot) (e :: es) [] here) (fun σ => tMeth cl m sp dvs (W σ) to t σ) where
  run := fun pins s σ H Q I h => by
    refine PySem.W.methodCall_KW (pl := pl) (thn (ho.run pins s σ H _ I h) fun u s1 met => ?_) ht
    obtain ⟨x, H1, I1, rx, a, dx, fs, rfl, obj, bare, more⟩ := met
    obtain rfl : u = Value.ref a := rx
    refine getmeth_ok I1 obj cls hm bare ?_
    refine PySem.W.callWith_K (first := [.ref a]) (h₀ := X.base) I.ok.mod.kin hm.kp (thn (args.run here pins s1 σ H1 _ I1 more) fun us s2 got => ?_) hst hpl
    obtain ⟨vs, H2, I2, rel, told⟩ := got
    exact ⟨I2.kIn, calls_in (us := .ref a :: us) (vs := .ref a :: vs) F room bind rest (fun e s' c => out pins σ H2 s2 e s' I2 c) I2 (.cons rfl rel) told⟩
/-- what a callee may let out is taken, the slots as at the call -/
theorem passes_slots {W : WX} (tk : Takes X W) : ∀ (pins : List (Addr × Obj)) (σ : L2.St) (H : Hp) (s : Shared) (e : Value) (s' : Shared), Inv X pins σ H s → L2.CX X.prog X.w X.stack H s (fun cls d H' => W cls d σ H') e s' → X.xe e s' :=
  fun _ _ _ _ e s' I c => tk e s' (XE.of_call I (fun _ _ _ h => h) c)
end
/-! ### try .. except X, its reading under a name of its own (so that a loop's rule can tell what its body is) -/
def tTry1 (K : PySem.W.Frag) (c : Value) (tb : WX → L2.TS) (ts : Addr → Value → Option Addr → L2.TS) (Wout : WX) : L2.TS := fun D σ H => tb (wOnly K c ts Wout D) D σ H
theorem ps_try1 {X : Cx} {x : Str} {c : Value} {body suite : List Stmt} {first : Stmt} {p1 p2 p3 : Pos} {tb : WX → L2.TS} {ts : Addr → Value → Option Addr → L2.TS} {Wout : WX} (one : X.stack = X.env :: X.outer) (two : X.env.frame = some X.env.locals) (named : Names X x c) (tk : Takes X Wout)
    (inside : ∀ (W : WX) (pn : List (Addr × Obj)) (xe : Value → Shared → Prop), Takes (X.tr pn xe) W → PassesOwn (model X.prog X.w) X.A X.env xe → PSs (X.tr pn xe) body (tb W))
    (caught : ∀ (a : Addr) (oe : Obj) (cls : Value) (d : Option Addr) (pn : List (Addr × Obj)), Zc cls d oe → (∃ vs, oe.data = .fields vs) → PSs (X.suite a ((a, oe) :: pn)) (first :: suite) (ts a cls d)) :
    PS X (.Try body [.ExceptHandler (some (.Name x p1)) none (first :: suite) p2] [] [] p3) (tTry1 X.K c tb ts Wout) := ps_try_only one two named tk inside caught
end Sky

/-! Rules of my own: a pattern of two words, case ("a" | "b", name). -/
namespace Sky
open PySem PySem.Spec PyProof.Rows L2
def ptOr (t u : TPt) : TPt := fun v σ H Q => t v σ H fun o H1 => match o with
  | some _ => Q (some []) H1
  | none => u v σ H1 fun o2 H2 => Q (o2.map fun _ => []) H2
theorem nol (ns : List Str) : (ns.filterMap fun n => (([] : List (Str × Value)).lookup n).map (n, ·)) = [] := by
  induction ns with
  | nil => rfl
  | cons n ns ih => exact ih
theorem pm_or {X : Cx} {p q : Pattern} {pos : Pos} {t u : TPt} (a : PMt X p [] t) (b : PMt X q [] u) : PMt X (.MatchOr [p, q] pos) [] (ptOr t u) := by
  constructor
  intro pins s σ H v x Q I r h
  refine wpAny_matchPattern_Or (wpAny_matchFirst_cons (thn (a.run pins s σ H v x _ I r h) fun o s1 h1 => ?_))
  obtain ⟨o1, H1, I1, e1, q1⟩ := h1
  cases o with
  | some bs =>
    cases o1 with
    | none => exact e1.elim
    | some vs =>
      obtain ⟨eb, ev⟩ := e1
      have e2 : bs = [] := List.map_eq_nil_iff.mp eb
      subst e2
      exact ⟨some [], H1, I1, ⟨by rw [nol]; rfl, by rw [nol]; exact .nil⟩, q1⟩
  | none =>
    cases o1 with
    | some vs => exact e1.elim
    | none =>
      refine wpAny_matchFirst_cons (thn (b.run pins s1 σ H1 v x _ I1 r q1) fun o s2 h2 => ?_)
      obtain ⟨o2, H2, I2, e2, q2⟩ := h2
      cases o with
      | some bs =>
        cases o2 with
        | none => exact e2.elim
        | some vs =>
          obtain ⟨eb, ev⟩ := e2
          have e3 : bs = [] := List.map_eq_nil_iff.mp eb
          subst e3
          exact ⟨some [], H2, I2, ⟨by rw [nol]; rfl, by rw [nol]; exact .nil⟩, q2⟩
      | none =>
        cases o2 with
        | some vs => exact e2.elim
        | none => exact wpAny_matchFirst_nil ⟨none, H2, I2, True.intro, q2⟩
section
variable {K : PySem.W.Frag} {w1 w2 w' : Str} {n i : Nat} {is : List Nat} {u : List V → L2.St → Hp → (Option (List V) → Hp → Prop) → Prop} {σ : L2.St} {H : Hp} {a : Addr} {xs : List V} {x : V} {b : L2.TS} {r : V → L2.TS} {D : Ends}
theorem word_is {w w' : Str} {Q : Option (List V) → Hp → Prop} (ok : PyData.strOk w' = true) (h : w' = w → Q (some []) H) (m : w' ≠ w → Q none H) : ptWord K w (.str w') σ H Q := by
  refine ⟨.str w', .str w', ?_, ?_⟩
  · unfold SeqAt.shaped; simp [PyData.canLay0, PyData.depth, ok]
  · rw [eqv_str]
    by_cases e : w' = w
    · rw [decide_eq_true e, if_pos rfl]; exact h e
    · rw [decide_eq_false e, if_neg (by decide)]; exact m e
theorem cs_missO (h : SqT K H a (.str w' :: xs)) (ok : PyData.strOk w' = true) (e : xs.length + 1 ≠ n ∨ (w' ≠ w1 ∧ w' ≠ w2)) (q : r (.ref a) D σ H) : tCsCons is (ptSeq K n (ptCons (ptOr (ptWord K w1) (ptWord K w2)) u)) b r (.ref a) D σ H := by
  refine ⟨a, _, rfl, h, fun z => ⟨_, _, rfl, ?_⟩, fun _ => q⟩
  rcases e with e | ⟨e1, e2⟩
  · exact absurd z e
  · refine word_is ok (fun z => absurd z e1) fun _ => word_is ok (fun z => absurd z e2) fun _ => q
theorem cs_hitO (h : SqT K H a [.str w', x]) (ok : PyData.strOk w' = true) (e : w' = w1 ∨ w' = w2) (q : b D (σ.set i (some x)) H) : tCsCons [i] (ptSeq K 2 (ptCons (ptOr (ptWord K w1) (ptWord K w2)) (ptCons ptName ptNil))) b r (.ref a) D σ H := by
  refine ⟨a, _, rfl, h, fun z => ⟨_, _, rfl, ?_⟩, fun z => absurd rfl z⟩
  refine word_is ok (fun _ => ⟨x, [], rfl, q⟩) fun n1 => word_is ok (fun _ => ⟨x, [], rfl, q⟩) fun n2 => ?_
  rcases e with e | e
  · exact absurd e n1
  · exact absurd e n2
end
end Sky
/-! ### data without truth values: alike is the same -/
namespace Sky
open PySem PySem.Spec PyProof.Rows L2
mutual
def plainD : PyData → Bool
  | .none => true
  | .int _ => true
  | .str _ => true
  | .tuple ds => plainDs ds
  | .list ds => plainDs ds
  | .bool _ => false
  | .dict _ => false
def plainDs : List PyData → Bool
  | [] => true
  | d :: ds => plainD d && plainDs ds
end
mutual
theorem eqv_plain : ∀ (d e : PyData), plainD d = true → plainD e = true → (PyData.eqv d e = true ↔ d = e)
  | .none, e, _, he => by cases e <;> simp [PyData.eqv, plainD] at *
  | .int i, e, _, he => by cases e <;> simp [PyData.eqv, plainD] at *
  | .str x, e, _, he => by cases e <;> simp [PyData.eqv, plainD] at *
  | .bool b, e, hd, _ => by simp [plainD] at hd
  | .dict k, e, hd, _ => by simp [plainD] at hd
  | .tuple ds, e, hd, he => by
    cases e with
    | tuple es =>
      rw [plainD] at hd he
      rw [PyData.eqv, eqvAll_plain ds es hd he]
      constructor
      · intro h; rw [h]
      · intro h; injection h
    | bool _ => simp [plainD] at he
    | dict _ => simp [plainD] at he
    | none => simp [PyData.eqv]
    | int _ => simp [PyData.eqv]
    | str _ => simp [PyData.eqv]
    | list _ => simp [PyData.eqv]
  | .list ds, e, hd, he => by
    cases e with
    | list es =>
      rw [plainD] at hd he
      rw [PyData.eqv, eqvAll_plain ds es hd he]
      constructor
      · intro h; rw [h]
      · intro h; injection h
    | bool _ => simp [plainD] at he
    | dict _ => simp [plainD] at he
    | none => simp [PyData.eqv]
    | int _ => simp [PyData.eqv]
    | str _ => simp [PyData.eqv]
    | tuple _ => simp [PyData.eqv]
theorem eqvAll_plain : ∀ (ds es : List PyData), plainDs ds = true → plainDs es = true → (PyData.eqvAll ds es = true ↔ ds = es)
  | [], [], _, _ => by simp [PyData.eqvAll]
  | [], _ :: _, _, _ => by simp [PyData.eqvAll]
  | _ :: _, [], _, _ => by simp [PyData.eqvAll]
  | d :: ds, e :: es, hd, he => by
    rw [plainDs, Bool.and_eq_true] at hd he
    rw [PyData.eqvAll, Bool.and_eq_true, eqv_plain d e hd.1 he.1, eqvAll_plain ds es hd.2 he.2, List.cons.injEq]
end
theorem plainDs_of {α : Type} {f : α → PyData} : ∀ {xs : List α}, (∀ x ∈ xs, plainD (f x) = true) → plainDs (xs.map f) = true
  | [], _ => rfl
  | x :: xs, h => by
    rw [List.map_cons, plainDs, Bool.and_eq_true]
    exact ⟨h x List.mem_cons_self, plainDs_of fun y hy => h y (List.mem_cons_of_mem _ hy)⟩
theorem eqv_is {d e : PyData} (hd : plainD d = true) (he : plainD e = true) [Decidable (d = e)] : PyData.eqv d e = decide (d = e) := by
  by_cases h : d = e
  · rw [decide_eq_true h]; exact (eqv_plain d e hd he).mpr h
  · rw [decide_eq_false h]
    cases g : PyData.eqv d e with
    | false => rfl
    | true => exact absurd ((eqv_plain d e hd he).mp g) h
/-- by what the data tell of -/
theorem eqv_inj {α : Type} {f : α → PyData} (inj : ∀ x y, f x = f y → x = y) (pl : ∀ x, plainD (f x) = true) (x y : α) [Decidable (x = y)] : PyData.eqv (f x) (f y) = decide (x = y) := by
  by_cases h : x = y
  · subst h
    rw [decide_eq_true rfl]; exact (eqv_plain _ _ (pl x) (pl x)).mpr rfl
  · rw [decide_eq_false h]
    cases g : PyData.eqv (f x) (f y) with
    | false => rfl
    | true => exact absurd (inj _ _ ((eqv_plain _ _ (pl x) (pl y)).mp g)) h
theorem plain_tl (t : List Int) : plainD (tlD t) = true := plainDs_of fun _ _ => rfl
theorem map_inj {α β : Type} {f : α → β} (inj : ∀ x y, f x = f y → x = y) : ∀ {xs ys : List α}, xs.map f = ys.map f → xs = ys
  | [], [], _ => rfl
  | [], _ :: _, h => by simp at h
  | _ :: _, [], h => by simp at h
  | x :: xs, y :: ys, h => by
    rw [List.map_cons, List.map_cons] at h
    injection h with h1 h2
    rw [inj _ _ h1, map_inj inj h2]
theorem tl_inj {t u : List Int} (h : tlD t = tlD u) : t = u := by
  injection h with h
  exact map_inj (fun x y e => by injection e) h
end Sky

namespace L2
open PySem PySem.Spec PyProof.Rows PySem.W
/-! ### a, *rest = list -/
def gStar (K : PySem.W.Frag) (g1 g2 : TG) : TG := fun v σ H Q => ∃ a x xs, v = .ref a ∧ SqL K H a (x :: xs) ∧ xs.length ≤ 16000 ∧ ∀ p, H p = none → g1 x σ (upd H p (.lst xs)) fun σ1 H1 => g2 (.ref p) σ1 H1 Q
theorem pg_star {X : Cx} {t1 t2 : Expr} {g1 g2 : TG} {p pos : Pos} {k : Nat} (hc : X.calm = true) (h1 : PG X t1 g1) (h2 : PG X t2 g2)
    (he : assignEach [t1, .Starred t2 p] X.env = [(false, assign t1 X.env), (true, assign t2 X.env)] := by rfl) : PG X (.Tuple [t1, .Starred t2 p] k pos) (gStar X.K g1 g2) := by
  refine ⟨fun pins s σ H v u Q I r hw => ?_⟩
  obtain ⟨a, x, xs, e1, hq, hl, hw⟩ := hw
  subst e1
  cases r
  obtain ⟨its, rv, ht, hz⟩ := I.list hq
  have hli : s.heap.IsList a its.toArray := ht.isList
  have hlt : a ≠ s.heap.objs.size := by obtain ⟨o, ho, _⟩ := hli; exact Nat.ne_of_lt (Heap.lt_size ho)
  cases rv with
  | cons r1 rs =>
  rename_i x' xs'
  have hlen := rs.length
  rw [assign_Tuple]
  refine wpAny_bind (wpAny_standAt ?_)
  unfold unpack
  rw [he]
  show wpAny _ _ (holding [Value.ref a] (unpackItems (.ref a) 2 (some 1)) >>= fun vs => assignInOrder [assign t1 X.env, assign t2 X.env] vs) _ _ s
  refine wpAny_bind (wpAny_holding ?_)
  unfold unpackItems
  refine wpAny_bind ?_
  unfold notIterableAtAll
  refine wpAny_bind (wpAny_specialOf hli.typeIs slot_list_iter.lookup ?_)
  refine wpAny_pure ?_
  simp only [Bool.false_eq_true, if_false]
  refine wpAny_bind (wpAny_holding (wpAny_pyIter_list hli ?_))
  refine wpAny_bind (wpAny_holding (kun_draw hlt 1 0 _ _ ⟨_, Heap.get?_push_size _ rfl, rfl, rfl⟩ (hli.push _) (by simp) fun h₁ hit₁ hs₁ => ?_))
  have hl₁ : h₁.IsList a (x' :: xs').toArray := (hli.push _).extBut hs₁.extBut hlt
  rw [Nat.zero_add] at hit₁
  have hit₁' := hit₁
  obtain ⟨oi, hoi, _⟩ := hit₁'
  have hl₁' := hl₁
  obtain ⟨ol, hol, _⟩ := hl₁'
  rw [List.drop_zero]
  show wpAny _ _ (if ([x'] : List Value).length < 1 then _ else _) _ _ _
  rw [if_neg (by show ¬ ((1 : Nat) < 1); decide)]
  refine wpAny_bind (wpAny_holding (kun_collect (s := { s with heap := h₁ }) (T := "list_iterator") (.inr (.inr (.inl rfl))) (items := (x' :: xs').toArray) (Walks.list (A := X.A.in1) (I.ok.hd hc) s.heap.objs.size a hlt (x' :: xs').toArray) (fun j u st => st.1.typeIs) (k := 1) (by simp) ⟨hit₁, hl₁⟩ (Heap.lt_size hoi) (Heap.lt_size hol) (fun h₂ tk hk => ?_) (by rw [sizeLine_eq]; simp; omega)))
  show wpAny _ _ (if xs'.length < 0 then _ else _) _ _ _
  rw [if_neg (Nat.not_lt_zero _)]
  show wpAny _ _ (newList (xs'.take (xs'.length - 0)) >>= fun d => pure ([x'] ++ [d] ++ xs'.drop (xs'.length - 0))) _ _ _
  rw [Nat.sub_zero, List.take_length, List.drop_length]
  refine wpAny_bind (wpAny_newList ?_ (by rw [sizeLine_eq]; omega))
  have keep0 : ∀ b u, s.heap.get? b = some u → h₂.get? b = some u := fun b u e => hk b u (Nat.ne_of_lt (Heap.lt_size e)) (hs₁.extBut b u (Nat.ne_of_lt (Heap.lt_size e)) (Heap.get?_push_of_some _ e))
  have I2 : Inv X pins σ H { s with heap := h₂, toks := tk } := I.kept (t' := tk) keep0
  have hp := I2.hok.fresh (Nat.le_refl _)
  have I3 := I2.laid (t' := tk) (o := .lst xs) (h' := h₂.push { cls := .type "list", data := .seq xs'.toArray }) (fun b u q => Heap.get?_push_of_some _ q) (Nat.le_refl _) ⟨by rw [sizeLine_eq]; omega, xs', _, rs, Heap.get?_push_size _ rfl⟩
  refine wpAny_pure ?_
  show wpAny _ _ (assignInOrder [assign t1 X.env, assign t2 X.env] ([x'] ++ [Value.ref _] ++ [])) _ _ _
  refine assignInOrder_cons (thn (h1.run pins _ σ _ x x' _ I3 r1 (hw _ hp)) fun _ s2 ⟨σ2, H2, I2, q2⟩ => ?_)
  exact assignInOrder_cons (thn (h2.run pins s2 σ2 H2 (.ref _) (.ref _) Q I2 rfl q2) fun _ s3 q => assignInOrder_nil q)
/-! ### str of a text or a number -/
theorem call_str_si {X : Cx} : CallR X (.type "str") (fun xs H Q => (∃ a, xs = [.str a] ∧ Q (.str a) H) ∨ ∃ i : Int, xs = [.int i] ∧ i.natAbs.log2 < 1920 ∧ Q (.str (Str.ofString (toString i))) H) := by
  intro pins s σ H xs us Q I r h
  rcases h with h | h
  · exact SkE.call_str_str pins s σ H xs us Q I r h
  · exact call_str_int pins s σ H xs us Q I r h
end L2
namespace Sky
open PySem PySem.Spec PyProof.Rows L2 TL
/-! ### numbers as words -/
def numW (n : Nat) : Str := Str.ofString (toString ((n : Nat) : Int))
def wrOk (n : Nat) : Bool := Txt.isascii (numW n) && Txt.isdigit (numW n) && decide ((numW n).length ≤ 3) && decide (0 < (numW n).length) && (decide (numW n = "0") || decide ((numW n).cps.toList[0]? ≠ some 48))
theorem wr_ok : ∀ n, n < 256 → wrOk n = true := by decide +kernel
theorem numW_int {n : Nat} (h : n < 256) : intText? (numW n) = some ((n : Nat) : Int) := int_num (by have := numL_len (n := n) (k := 3) (by decide) (by omega); omega)
theorem numW_tl (n : Nat) : tl (numW n) = numL n := tl_num n
theorem numW_free {n s : Nat} (h : s < 48 ∨ 57 < s) : s ∉ tl (numW n) := by rw [numW_tl]; exact numL_free h
theorem numW_len {n : Nat} (h : n < 256) : (numW n).length ≤ 3 := by rw [len_tl, numW_tl]; exact numL_len (by decide) (by omega)
/-! ### how long a joined text is -/
theorem joinL_len (S : List Nat) : ∀ ps : List (List Nat), (joinL S ps).length ≤ (ps.map List.length).sum + ps.length * S.length
  | [] => Nat.zero_le _
  | [p] => by show p.length ≤ _; simp
  | p :: q :: r => by
    show (p ++ (S ++ joinL S (q :: r))).length ≤ _
    have := joinL_len S (q :: r)
    rw [List.length_append, List.length_append, List.map_cons, List.sum_cons, List.length_cons, Nat.add_mul]
    omega
theorem join_len (y : Str) (ps : List Str) : (Txt.join y ps).length ≤ (ps.map (·.length)).sum + ps.length * y.length := by
  have := joinL_len (tl y) (ps.map tl)
  rw [len_tl, join_eq, tl_join]
  rw [List.map_map, List.length_map] at this
  have e : (List.length ∘ tl) = (fun p : Str => p.length) := funext fun p => (len_tl p).symm
  rw [e, ← len_tl y] at this
  exact this
theorem sum_le {α : Type} (f : α → Nat) (b : Nat) : ∀ xs : List α, (∀ x ∈ xs, f x ≤ b) → (xs.map f).sum ≤ xs.length * b
  | [], _ => Nat.zero_le _
  | x :: xs, h => by
    have := sum_le f b xs fun y hy => h y (List.mem_cons_of_mem _ hy)
    have := h x (List.mem_cons_self ..)
    rw [List.map_cons, List.sum_cons, List.length_cons, Nat.add_mul]
    omega
/-- a sign that is in no part and not in the glue -/
theorem join_free {y : Str} {s : Nat} (hy : s ∉ tl y) : ∀ {ps : List Str}, (∀ p ∈ ps, s ∉ tl p) → s ∉ tl (Txt.join y ps) := by
  intro ps h
  rw [join_eq, tl_join]
  induction ps with
  | nil => exact List.not_mem_nil
  | cons p r ih =>
    cases r with
    | nil => exact h p (List.mem_singleton.mpr rfl)
    | cons q r =>
      intro hm
      have hm : s ∈ tl p ++ (tl y ++ joinL (tl y) ((q :: r).map tl)) := hm
      rcases List.mem_append.mp hm with g | g
      · exact h p (List.mem_cons_self ..) g
      · rcases List.mem_append.mp g with g | g
        · exact hy g
        · exact ih (fun z hz => h z (List.mem_cons_of_mem _ hz)) g
end Sky

namespace K20
open PySem PySem.Spec PyProof.Rows L2 Sky
def topS (i : Nat) : Stmt := PySem.Challenge.pw_skyframes_k20_whole_plays_cut.main.body.getD i (.Pass ⟨0, 0, 0, 0⟩)
abbrev s_is_number : Stmt := topS 18
abbrev N_is_number : List Str := ["value", "low", "high"]
theorem sc_is_number : FnScope N_is_number ["value", "low", "high"] (defScope s_is_number) := ⟨rfl, rfl, rfl, by decide +kernel, rfl, by decide +kernel, by decide +kernel⟩
abbrev s_is_stream : Stmt := topS 19
abbrev N_is_stream : List Str := ["value"]
theorem sc_is_stream : FnScope N_is_stream ["value"] (defScope s_is_stream) := ⟨rfl, rfl, rfl, by decide +kernel, rfl, by decide +kernel, by decide +kernel⟩
abbrev s_holds_numbers : Stmt := topS 20
abbrev N_holds_numbers : List Str := ["value", "number"]
theorem sc_holds_numbers : FnScope N_holds_numbers ["value"] (defScope s_holds_numbers) := ⟨rfl, rfl, rfl, by decide +kernel, rfl, by decide +kernel, by decide +kernel⟩
abbrev s_is_telling : Stmt := topS 21
abbrev N_is_telling : List Str := ["value"]
theorem sc_is_telling : FnScope N_is_telling ["value"] (defScope s_is_telling) := ⟨rfl, rfl, rfl, by decide +kernel, rfl, by decide +kernel, by decide +kernel⟩
abbrev s_is_mark : Stmt := topS 22
abbrev N_is_mark : List Str := ["value", "stream", "count"]
theorem sc_is_mark : FnScope N_is_mark ["value"] (defScope s_is_mark) := ⟨rfl, rfl, rfl, by decide +kernel, rfl, by decide +kernel, by decide +kernel⟩
abbrev s_is_frame : Stmt := topS 23
abbrev N_is_frame : List Str := ["value", "size", "stream", "count", "first", "body"]
theorem sc_is_frame : FnScope N_is_frame ["value", "size"] (defScope s_is_frame) := ⟨rfl, rfl, rfl, by decide +kernel, rfl, by decide +kernel, by decide +kernel⟩
abbrev s_check_stream : Stmt := topS 24
abbrev N_check_stream : List Str := ["stream"]
theorem sc_check_stream : FnScope N_check_stream ["stream"] (defScope s_check_stream) := ⟨rfl, rfl, rfl, by decide +kernel, rfl, by decide +kernel, by decide +kernel⟩
abbrev s_check_telling : Stmt := topS 25
abbrev N_check_telling : List Str := ["telling"]
theorem sc_check_telling : FnScope N_check_telling ["telling"] (defScope s_check_telling) := ⟨rfl, rfl, rfl, by decide +kernel, rfl, by decide +kernel, by decide +kernel⟩
abbrev s_check_size : Stmt := topS 26
abbrev N_check_size : List Str := ["size"]
theorem sc_check_size : FnScope N_check_size ["size"] (defScope s_check_size) := ⟨rfl, rfl, rfl, by decide +kernel, rfl, by decide +kernel, by decide +kernel⟩
abbrev s_check_room : Stmt := topS 27
abbrev N_check_room : List Str := ["room"]
theorem sc_check_room : FnScope N_check_room ["room"] (defScope s_check_room) := ⟨rfl, rfl, rfl, by decide +kernel, rfl, by decide +kernel, by decide +kernel⟩
abbrev s_check_marks : Stmt := topS 28
abbrev N_check_marks : List Str := ["marks", "at", "mark"]
theorem sc_check_marks : FnScope N_check_marks ["marks"] (defScope s_check_marks) := ⟨rfl, rfl, rfl, by decide +kernel, rfl, by decide +kernel, by decide +kernel⟩
abbrev s_Laying_init : Stmt := inClass (topS 32) 0
abbrev N_Laying_init : List Str := ["self", "stream", "size"]
theorem sc_Laying_init : FnScope N_Laying_init ["self", "stream", "size"] (defScope s_Laying_init) := ⟨rfl, rfl, rfl, by decide +kernel, rfl, by decide +kernel, by decide +kernel⟩
abbrev s_Laying_lay : Stmt := inClass (topS 32) 1
abbrev N_Laying_lay : List Str := ["self", "telling", "laid", "full", "number"]
theorem sc_Laying_lay : FnScope N_Laying_lay ["self", "telling"] (defScope s_Laying_lay) := ⟨rfl, rfl, rfl, by decide +kernel, rfl, by decide +kernel, by decide +kernel⟩
abbrev s_Laying_fill : Stmt := inClass (topS 32) 2
abbrev N_Laying_fill : List Str := ["self"]
theorem sc_Laying_fill : FnScope N_Laying_fill ["self"] (defScope s_Laying_fill) := ⟨rfl, rfl, rfl, by decide +kernel, rfl, by decide +kernel, by decide +kernel⟩
abbrev s_Laying_done : Stmt := inClass (topS 32) 3
abbrev N_Laying_done : List Str := ["self", "frame"]
theorem sc_Laying_done : FnScope N_Laying_done ["self"] (defScope s_Laying_done) := ⟨rfl, rfl, rfl, by decide +kernel, rfl, by decide +kernel, by decide +kernel⟩
abbrev s_Craft_init : Stmt := inClass (topS 34) 0
abbrev N_Craft_init : List Str := ["self", "size", "room", "stream"]
theorem sc_Craft_init : FnScope N_Craft_init ["self", "size", "room"] (defScope s_Craft_init) := ⟨rfl, rfl, rfl, by decide +kernel, rfl, by decide +kernel, by decide +kernel⟩
abbrev s_Craft_tell : Stmt := inClass (topS 34) 1
abbrev N_Craft_tell : List Str := ["self", "stream", "data", "laying", "number", "frame"]
theorem sc_Craft_tell : FnScope N_Craft_tell ["self", "stream", "data"] (defScope s_Craft_tell) := ⟨rfl, rfl, rfl, by decide +kernel, rfl, by decide +kernel, by decide +kernel⟩
abbrev s_Craft_close : Stmt := inClass (topS 34) 2
abbrev N_Craft_close : List Str := ["self", "stream", "frame"]
theorem sc_Craft_close : FnScope N_Craft_close ["self", "stream"] (defScope s_Craft_close) := ⟨rfl, rfl, rfl, by decide +kernel, rfl, by decide +kernel, by decide +kernel⟩
abbrev s_Craft_begin : Stmt := inClass (topS 34) 3
abbrev N_Craft_begin : List Str := ["self", "fresh"]
theorem sc_Craft_begin : FnScope N_Craft_begin ["self"] (defScope s_Craft_begin) := ⟨rfl, rfl, rfl, by decide +kernel, rfl, by decide +kernel, by decide +kernel⟩
abbrev s_Craft_shut : Stmt := inClass (topS 34) 4
abbrev N_Craft_shut : List Str := ["self", "ended"]
theorem sc_Craft_shut : FnScope N_Craft_shut ["self"] (defScope s_Craft_shut) := ⟨rfl, rfl, rfl, by decide +kernel, rfl, by decide +kernel, by decide +kernel⟩
abbrev s_Craft_beat : Stmt := inClass (topS 34) 5
abbrev N_Craft_beat : List Str := ["self", "mark"]
theorem sc_Craft_beat : FnScope N_Craft_beat ["self"] (defScope s_Craft_beat) := ⟨rfl, rfl, rfl, by decide +kernel, rfl, by decide +kernel, by decide +kernel⟩
abbrev s_Craft_known : Stmt := inClass (topS 34) 6
abbrev N_Craft_known : List Str := ["self", "marks", "many", "mark"]
theorem sc_Craft_known : FnScope N_Craft_known ["self", "marks"] (defScope s_Craft_known) := ⟨rfl, rfl, rfl, by decide +kernel, rfl, by decide +kernel, by decide +kernel⟩
abbrev s_Craft_again : Stmt := inClass (topS 34) 7
abbrev N_Craft_again : List Str := ["self", "marks", "others", "mark"]
theorem sc_Craft_again : FnScope N_Craft_again ["self", "marks"] (defScope s_Craft_again) := ⟨rfl, rfl, rfl, by decide +kernel, rfl, by decide +kernel, by decide +kernel⟩
abbrev s_Craft_kept : Stmt := inClass (topS 34) 8
abbrev N_Craft_kept : List Str := ["self", "rows", "stream", "count", "state"]
theorem sc_Craft_kept : FnScope N_Craft_kept ["self"] (defScope s_Craft_kept) := ⟨rfl, rfl, rfl, by decide +kernel, rfl, by decide +kernel, by decide +kernel⟩
abbrev s_Craft_lost : Stmt := inClass (topS 34) 9
abbrev N_Craft_lost : List Str := ["self"]
theorem sc_Craft_lost : FnScope N_Craft_lost ["self"] (defScope s_Craft_lost) := ⟨rfl, rfl, rfl, by decide +kernel, rfl, by decide +kernel, by decide +kernel⟩
abbrev s_Craft_next_mark : Stmt := inClass (topS 34) 11
abbrev N_Craft_next_mark : List Str := ["self", "fresh", "line", "mark"]
theorem sc_Craft_next_mark : FnScope N_Craft_next_mark ["self"] (defScope s_Craft_next_mark) := ⟨rfl, rfl, rfl, by decide +kernel, rfl, by decide +kernel, by decide +kernel⟩
abbrev s_Craft_keep : Stmt := inClass (topS 34) 12
abbrev N_Craft_keep : List Str := ["self", "frame"]
theorem sc_Craft_keep : FnScope N_Craft_keep ["self", "frame"] (defScope s_Craft_keep) := ⟨rfl, rfl, rfl, by decide +kernel, rfl, by decide +kernel, by decide +kernel⟩
abbrev s_Craft_make_room : Stmt := inClass (topS 34) 13
abbrev N_Craft_make_room : List Str := ["self", "sent", "oldest", "mark"]
theorem sc_Craft_make_room : FnScope N_Craft_make_room ["self"] (defScope s_Craft_make_room) := ⟨rfl, rfl, rfl, by decide +kernel, rfl, by decide +kernel, by decide +kernel⟩
abbrev s_Craft_let_go : Stmt := inClass (topS 34) 14
abbrev N_Craft_let_go : List Str := ["self", "mark"]
theorem sc_Craft_let_go : FnScope N_Craft_let_go ["self", "mark"] (defScope s_Craft_let_go) := ⟨rfl, rfl, rfl, by decide +kernel, rfl, by decide +kernel, by decide +kernel⟩
abbrev s_rows_of : Stmt := topS 36
abbrev N_rows_of : List Str := ["frames", "size", "told", "rows", "low", "number"]
theorem sc_rows_of : FnScope N_rows_of ["frames", "size"] (defScope s_rows_of) := ⟨rfl, rfl, rfl, by decide +kernel, rfl, by decide +kernel, by decide +kernel⟩
abbrev s_check_frames : Stmt := topS 37
abbrev N_check_frames : List Str := ["frames", "size", "ahead", "at", "frame"]
theorem sc_check_frames : FnScope N_check_frames ["frames", "size"] (defScope s_check_frames) := ⟨rfl, rfl, rfl, by decide +kernel, rfl, by decide +kernel, by decide +kernel⟩
abbrev s_told_in : Stmt := topS 38
abbrev N_told_in : List Str := ["frames", "size", "frame", "bodies", "told", "place", "laid"]
theorem sc_told_in : FnScope N_told_in ["frames", "size"] (defScope s_told_in) := ⟨rfl, rfl, rfl, by decide +kernel, rfl, by decide +kernel, by decide +kernel⟩
abbrev s_beginnings : Stmt := topS 39
abbrev N_beginnings : List Str := ["frame", "size", "_", "count", "first", "body", "places", "at"]
theorem sc_beginnings : FnScope N_beginnings ["frame", "size"] (defScope s_beginnings) := ⟨rfl, rfl, rfl, by decide +kernel, rfl, by decide +kernel, by decide +kernel⟩
abbrev s_laid_at : Stmt := topS 40
abbrev N_laid_at : List Str := ["bodies", "place", "size", "many", "laid", "at", "body"]
theorem sc_laid_at : FnScope N_laid_at ["bodies", "place", "size"] (defScope s_laid_at) := ⟨rfl, rfl, rfl, by decide +kernel, rfl, by decide +kernel, by decide +kernel⟩
abbrev s_Ground_init : Stmt := inClass (topS 42) 0
abbrev N_Ground_init : List Str := ["self", "size", "_"]
theorem sc_Ground_init : FnScope N_Ground_init ["self", "size"] (defScope s_Ground_init) := ⟨rfl, rfl, rfl, by decide +kernel, rfl, by decide +kernel, by decide +kernel⟩
abbrev s_Ground_hear : Stmt := inClass (topS 42) 1
abbrev N_Ground_hear : List Str := ["self", "frame", "stream", "count"]
theorem sc_Ground_hear : FnScope N_Ground_hear ["self", "frame"] (defScope s_Ground_hear) := ⟨rfl, rfl, rfl, by decide +kernel, rfl, by decide +kernel, by decide +kernel⟩
abbrev s_Ground_never : Stmt := inClass (topS 42) 2
abbrev N_Ground_never : List Str := ["self", "marks", "mark"]
theorem sc_Ground_never : FnScope N_Ground_never ["self", "marks"] (defScope s_Ground_never) := ⟨rfl, rfl, rfl, by decide +kernel, rfl, by decide +kernel, by decide +kernel⟩
abbrev s_Ground_rows : Stmt := inClass (topS 42) 3
abbrev N_Ground_rows : List Str := ["self", "stream"]
theorem sc_Ground_rows : FnScope N_Ground_rows ["self", "stream"] (defScope s_Ground_rows) := ⟨rfl, rfl, rfl, by decide +kernel, rfl, by decide +kernel, by decide +kernel⟩
abbrev s_Ground_has : Stmt := inClass (topS 42) 4
abbrev N_Ground_has : List Str := ["self", "stream", "count"]
theorem sc_Ground_has : FnScope N_Ground_has ["self"] (defScope s_Ground_has) := ⟨rfl, rfl, rfl, by decide +kernel, rfl, by decide +kernel, by decide +kernel⟩
abbrev s_Ground_wants : Stmt := inClass (topS 42) 5
abbrev N_Ground_wants : List Str := ["self", "wanted", "stream", "came", "count"]
theorem sc_Ground_wants : FnScope N_Ground_wants ["self"] (defScope s_Ground_wants) := ⟨rfl, rfl, rfl, by decide +kernel, rfl, by decide +kernel, by decide +kernel⟩
abbrev s_Sky_init : Stmt := inClass (topS 44) 0
abbrev N_Sky_init : List Str := ["self", "size", "room"]
theorem sc_Sky_init : FnScope N_Sky_init ["self", "size", "room"] (defScope s_Sky_init) := ⟨rfl, rfl, rfl, by decide +kernel, rfl, by decide +kernel, by decide +kernel⟩
abbrev s_Sky_do : Stmt := inClass (topS 44) 1
abbrev N_Sky_do : List Str := ["self", "step", "stream", "telling", "way", "k"]
theorem sc_Sky_do : FnScope N_Sky_do ["self", "step"] (defScope s_Sky_do) := ⟨rfl, rfl, rfl, by decide +kernel, rfl, by decide +kernel, by decide +kernel⟩
abbrev s_Sky_shown : Stmt := inClass (topS 44) 2
abbrev N_Sky_shown : List Str := ["self", "rows", "stream"]
theorem sc_Sky_shown : FnScope N_Sky_shown ["self"] (defScope s_Sky_shown) := ⟨rfl, rfl, rfl, by decide +kernel, rfl, by decide +kernel, by decide +kernel⟩
abbrev s_Sky_log : Stmt := inClass (topS 44) 3
abbrev N_Sky_log : List Str := ["self"]
theorem sc_Sky_log : FnScope N_Sky_log ["self"] (defScope s_Sky_log) := ⟨rfl, rfl, rfl, by decide +kernel, rfl, by decide +kernel, by decide +kernel⟩
abbrev s_Sky_tell : Stmt := inClass (topS 44) 4
abbrev N_Sky_tell : List Str := ["self", "stream", "telling", "number"]
theorem sc_Sky_tell : FnScope N_Sky_tell ["self", "stream", "telling"] (defScope s_Sky_tell) := ⟨rfl, rfl, rfl, by decide +kernel, rfl, by decide +kernel, by decide +kernel⟩
abbrev s_Sky_close : Stmt := inClass (topS 44) 5
abbrev N_Sky_close : List Str := ["self", "stream", "filled"]
theorem sc_Sky_close : FnScope N_Sky_close ["self", "stream"] (defScope s_Sky_close) := ⟨rfl, rfl, rfl, by decide +kernel, rfl, by decide +kernel, by decide +kernel⟩
abbrev s_Sky_beat : Stmt := inClass (topS 44) 6
abbrev N_Sky_beat : List Str := ["self", "frame"]
theorem sc_Sky_beat : FnScope N_Sky_beat ["self"] (defScope s_Sky_beat) := ⟨rfl, rfl, rfl, by decide +kernel, rfl, by decide +kernel, by decide +kernel⟩
abbrev s_Sky_ask : Stmt := inClass (topS 44) 7
abbrev N_Sky_ask : List Str := ["self"]
theorem sc_Sky_ask : FnScope N_Sky_ask ["self"] (defScope s_Sky_ask) := ⟨rfl, rfl, rfl, by decide +kernel, rfl, by decide +kernel, by decide +kernel⟩
abbrev s_Sky_letter : Stmt := inClass (topS 44) 8
abbrev N_Sky_letter : List Str := ["self", "way", "k", "road"]
theorem sc_Sky_letter : FnScope N_Sky_letter ["self", "way", "k"] (defScope s_Sky_letter) := ⟨rfl, rfl, rfl, by decide +kernel, rfl, by decide +kernel, by decide +kernel⟩
abbrev s_Sky_lose : Stmt := inClass (topS 44) 9
abbrev N_Sky_lose : List Str := ["self", "way", "k"]
theorem sc_Sky_lose : FnScope N_Sky_lose ["self", "way", "k"] (defScope s_Sky_lose) := ⟨rfl, rfl, rfl, by decide +kernel, rfl, by decide +kernel, by decide +kernel⟩
abbrev s_Sky_hear : Stmt := inClass (topS 44) 10
abbrev N_Sky_hear : List Str := ["self", "way", "k", "letter"]
theorem sc_Sky_hear : FnScope N_Sky_hear ["self", "way", "k"] (defScope s_Sky_hear) := ⟨rfl, rfl, rfl, by decide +kernel, rfl, by decide +kernel, by decide +kernel⟩
abbrev s_Sky_hear_down : Stmt := inClass (topS 44) 11
abbrev N_Sky_hear_down : List Str := ["self", "letter", "word", "what"]
theorem sc_Sky_hear_down : FnScope N_Sky_hear_down ["self", "letter"] (defScope s_Sky_hear_down) := ⟨rfl, rfl, rfl, by decide +kernel, rfl, by decide +kernel, by decide +kernel⟩
abbrev s_Sky_hear_up : Stmt := inClass (topS 44) 12
abbrev N_Sky_hear_up : List Str := ["self", "letter", "has", "wants", "others"]
theorem sc_Sky_hear_up : FnScope N_Sky_hear_up ["self", "letter"] (defScope s_Sky_hear_up) := ⟨rfl, rfl, rfl, by decide +kernel, rfl, by decide +kernel, by decide +kernel⟩
abbrev s_Sky_settle : Stmt := inClass (topS 44) 13
abbrev N_Sky_settle : List Str := ["self", "stream"]
theorem sc_Sky_settle : FnScope N_Sky_settle ["self"] (defScope s_Sky_settle) := ⟨rfl, rfl, rfl, by decide +kernel, rfl, by decide +kernel, by decide +kernel⟩
abbrev s_Sky_hear_all : Stmt := inClass (topS 44) 14
abbrev N_Sky_hear_all : List Str := ["self", "way"]
theorem sc_Sky_hear_all : FnScope N_Sky_hear_all ["self"] (defScope s_Sky_hear_all) := ⟨rfl, rfl, rfl, by decide +kernel, rfl, by decide +kernel, by decide +kernel⟩
abbrev s_Sky_go_round : Stmt := inClass (topS 44) 15
abbrev N_Sky_go_round : List Str := ["self", "stream", "count", "_"]
theorem sc_Sky_go_round : FnScope N_Sky_go_round ["self"] (defScope s_Sky_go_round) := ⟨rfl, rfl, rfl, by decide +kernel, rfl, by decide +kernel, by decide +kernel⟩
abbrev s_played : Stmt := topS 50
abbrev N_played : List Str := ["size", "room", "steps", "sky", "told", "step"]
theorem sc_played : FnScope N_played ["size", "room", "steps"] (defScope s_played) := ⟨rfl, rfl, rfl, by decide +kernel, rfl, by decide +kernel, by decide +kernel⟩
abbrev s_written : Stmt := topS 51
abbrev N_written : List Str := ["steps", "step"]
theorem sc_written : FnScope N_written ["steps"] (defScope s_written) := ⟨rfl, rfl, rfl, by decide +kernel, rfl, by decide +kernel, by decide +kernel⟩
abbrev s_read : Stmt := topS 52
abbrev N_read : List Str := ["text", "steps", "line", "row", "step"]
theorem sc_read : FnScope N_read ["text"] (defScope s_read) := ⟨rfl, rfl, rfl, by decide +kernel, rfl, by decide +kernel, by decide +kernel⟩
abbrev s_row_of : Stmt := topS 53
abbrev N_row_of : List Str := ["step", "words", "part", "number"]
theorem sc_row_of : FnScope N_row_of ["step"] (defScope s_row_of) := ⟨rfl, rfl, rfl, by decide +kernel, rfl, by decide +kernel, by decide +kernel⟩
abbrev s_step_of : Stmt := topS 54
abbrev N_step_of : List Str := ["words", "word", "rest", "numbers", "figures"]
theorem sc_step_of : FnScope N_step_of ["words"] (defScope s_step_of) := ⟨rfl, rfl, rfl, by decide +kernel, rfl, by decide +kernel, by decide +kernel⟩
abbrev s_is_written_number : Stmt := topS 55
abbrev N_is_written_number : List Str := ["figures"]
theorem sc_is_written_number : FnScope N_is_written_number ["figures"] (defScope s_is_written_number) := ⟨rfl, rfl, rfl, by decide +kernel, rfl, by decide +kernel, by decide +kernel⟩
abbrev s_law_mix : Stmt := topS 57
abbrev N_law_mix : List Str := ["_law_script", "_law_seed", "_law_mixed", "_law_cell"]
theorem sc_law_mix : FnScope N_law_mix ["_law_script", "_law_seed"] (defScope s_law_mix) := ⟨rfl, rfl, rfl, by decide +kernel, rfl, by decide +kernel, by decide +kernel⟩
abbrev s_law_next : Stmt := topS 58
abbrev N_law_next : List Str := ["_law_h", "_law_many", "_law_at", "_law_cell"]
theorem sc_law_next : FnScope N_law_next ["_law_h", "_law_many"] (defScope s_law_next) := ⟨rfl, rfl, rfl, by decide +kernel, rfl, by decide +kernel, by decide +kernel⟩
abbrev s_law_alike : Stmt := topS 59
abbrev N_law_alike : List Str := ["_law_found", "_law_due", "_law_k"]
theorem sc_law_alike : FnScope N_law_alike ["_law_found", "_law_due"] (defScope s_law_alike) := ⟨rfl, rfl, rfl, by decide +kernel, rfl, by decide +kernel, by decide +kernel⟩
abbrev s_law_data : Stmt := topS 60
abbrev N_law_data : List Str := ["_law_h", "_law_many", "_law_k"]
theorem sc_law_data : FnScope N_law_data ["_law_h"] (defScope s_law_data) := ⟨rfl, rfl, rfl, by decide +kernel, rfl, by decide +kernel, by decide +kernel⟩
abbrev s_law_step : Stmt := topS 61
abbrev N_law_step : List Str := ["_law_h", "_law_way", "_law_stream", "_law_road", "_law_k", "_law_some"]
theorem sc_law_step : FnScope N_law_step ["_law_h"] (defScope s_law_step) := ⟨rfl, rfl, rfl, by decide +kernel, rfl, by decide +kernel, by decide +kernel⟩
abbrev s_law : Stmt := topS 62
abbrev N_law : List Str := ["_law_script", "_law_h", "_law_size", "_law_room", "_law_k", "_law_steps", "_law_told", "_law_sky", "_law_cut", "_law_first", "_law_other", "_law_again", "_law_good", "_law_kept", "_law_some", "_law_text"]
theorem sc_law : FnScope N_law ["_law_script"] (defScope s_law) := ⟨rfl, rfl, rfl, by decide +kernel, rfl, by decide +kernel, by decide +kernel⟩
structure Tx (K : PySem.W.Frag) (mg : Str → Option Value) where
  A_Laying : Addr
  A_Craft : Addr
  A_Ground : Addr
  A_Sky : Addr
  a_is_number : Addr
  d_is_number : FuncData
  F_is_number : Fun K "is_number" "is_number" s_is_number a_is_number d_is_number
  b_is_number : Binds K d_is_number ["value", "low", "high"] []
  m_is_number : mg "is_number" = some (.ref a_is_number)
  a_is_stream : Addr
  d_is_stream : FuncData
  F_is_stream : Fun K "is_stream" "is_stream" s_is_stream a_is_stream d_is_stream
  b_is_stream : Binds K d_is_stream ["value"] []
  m_is_stream : mg "is_stream" = some (.ref a_is_stream)
  a_holds_numbers : Addr
  d_holds_numbers : FuncData
  F_holds_numbers : Fun K "holds_numbers" "holds_numbers" s_holds_numbers a_holds_numbers d_holds_numbers
  b_holds_numbers : Binds K d_holds_numbers ["value"] []
  m_holds_numbers : mg "holds_numbers" = some (.ref a_holds_numbers)
  a_is_telling : Addr
  d_is_telling : FuncData
  F_is_telling : Fun K "is_telling" "is_telling" s_is_telling a_is_telling d_is_telling
  b_is_telling : Binds K d_is_telling ["value"] []
  m_is_telling : mg "is_telling" = some (.ref a_is_telling)
  a_is_mark : Addr
  d_is_mark : FuncData
  F_is_mark : Fun K "is_mark" "is_mark" s_is_mark a_is_mark d_is_mark
  b_is_mark : Binds K d_is_mark ["value"] []
  m_is_mark : mg "is_mark" = some (.ref a_is_mark)
  a_is_frame : Addr
  d_is_frame : FuncData
  F_is_frame : Fun K "is_frame" "is_frame" s_is_frame a_is_frame d_is_frame
  b_is_frame : Binds K d_is_frame ["value", "size"] []
  m_is_frame : mg "is_frame" = some (.ref a_is_frame)
  a_check_stream : Addr
  d_check_stream : FuncData
  F_check_stream : Fun K "check_stream" "check_stream" s_check_stream a_check_stream d_check_stream
  b_check_stream : Binds K d_check_stream ["stream"] []
  m_check_stream : mg "check_stream" = some (.ref a_check_stream)
  a_check_telling : Addr
  d_check_telling : FuncData
  F_check_telling : Fun K "check_telling" "check_telling" s_check_telling a_check_telling d_check_telling
  b_check_telling : Binds K d_check_telling ["telling"] []
  m_check_telling : mg "check_telling" = some (.ref a_check_telling)
  a_check_size : Addr
  d_check_size : FuncData
  F_check_size : Fun K "check_size" "check_size" s_check_size a_check_size d_check_size
  b_check_size : Binds K d_check_size ["size"] []
  m_check_size : mg "check_size" = some (.ref a_check_size)
  a_check_room : Addr
  d_check_room : FuncData
  F_check_room : Fun K "check_room" "check_room" s_check_room a_check_room d_check_room
  b_check_room : Binds K d_check_room ["room"] []
  m_check_room : mg "check_room" = some (.ref a_check_room)
  a_check_marks : Addr
  d_check_marks : FuncData
  F_check_marks : Fun K "check_marks" "check_marks" s_check_marks a_check_marks d_check_marks
  b_check_marks : Binds K d_check_marks ["marks"] []
  m_check_marks : mg "check_marks" = some (.ref a_check_marks)
  a_Laying_init : Addr
  d_Laying_init : FuncData
  F_Laying_init : Fun K "__init__" "Laying.__init__" s_Laying_init a_Laying_init d_Laying_init
  b_Laying_init : Binds K d_Laying_init ["self", "stream", "size"] []
  a_Laying_lay : Addr
  d_Laying_lay : FuncData
  F_Laying_lay : Fun K "lay" "Laying.lay" s_Laying_lay a_Laying_lay d_Laying_lay
  b_Laying_lay : Binds K d_Laying_lay ["self", "telling"] []
  M_Laying_lay : Meth K A_Laying "lay" a_Laying_lay
  a_Laying_fill : Addr
  d_Laying_fill : FuncData
  F_Laying_fill : Fun K "fill" "Laying.fill" s_Laying_fill a_Laying_fill d_Laying_fill
  b_Laying_fill : Binds K d_Laying_fill ["self"] []
  M_Laying_fill : Meth K A_Laying "fill" a_Laying_fill
  a_Laying_done : Addr
  d_Laying_done : FuncData
  F_Laying_done : Fun K "_done" "Laying._done" s_Laying_done a_Laying_done d_Laying_done
  b_Laying_done : Binds K d_Laying_done ["self"] []
  M_Laying_done : Meth K A_Laying "_done" a_Laying_done
  a_Craft_init : Addr
  d_Craft_init : FuncData
  F_Craft_init : Fun K "__init__" "Craft.__init__" s_Craft_init a_Craft_init d_Craft_init
  b_Craft_init : Binds K d_Craft_init ["self", "size", "room"] []
  a_Craft_tell : Addr
  d_Craft_tell : FuncData
  F_Craft_tell : Fun K "tell" "Craft.tell" s_Craft_tell a_Craft_tell d_Craft_tell
  b_Craft_tell : Binds K d_Craft_tell ["self", "stream", "data"] []
  M_Craft_tell : Meth K A_Craft "tell" a_Craft_tell
  a_Craft_close : Addr
  d_Craft_close : FuncData
  F_Craft_close : Fun K "close" "Craft.close" s_Craft_close a_Craft_close d_Craft_close
  b_Craft_close : Binds K d_Craft_close ["self", "stream"] []
  M_Craft_close : Meth K A_Craft "close" a_Craft_close
  a_Craft_begin : Addr
  d_Craft_begin : FuncData
  F_Craft_begin : Fun K "begin" "Craft.begin" s_Craft_begin a_Craft_begin d_Craft_begin
  b_Craft_begin : Binds K d_Craft_begin ["self"] []
  M_Craft_begin : Meth K A_Craft "begin" a_Craft_begin
  a_Craft_shut : Addr
  d_Craft_shut : FuncData
  F_Craft_shut : Fun K "shut" "Craft.shut" s_Craft_shut a_Craft_shut d_Craft_shut
  b_Craft_shut : Binds K d_Craft_shut ["self"] []
  M_Craft_shut : Meth K A_Craft "shut" a_Craft_shut
  a_Craft_beat : Addr
  d_Craft_beat : FuncData
  F_Craft_beat : Fun K "beat" "Craft.beat" s_Craft_beat a_Craft_beat d_Craft_beat
  b_Craft_beat : Binds K d_Craft_beat ["self"] []
  M_Craft_beat : Meth K A_Craft "beat" a_Craft_beat
  a_Craft_known : Addr
  d_Craft_known : FuncData
  F_Craft_known : Fun K "known" "Craft.known" s_Craft_known a_Craft_known d_Craft_known
  b_Craft_known : Binds K d_Craft_known ["self", "marks"] []
  M_Craft_known : Meth K A_Craft "known" a_Craft_known
  a_Craft_again : Addr
  d_Craft_again : FuncData
  F_Craft_again : Fun K "again" "Craft.again" s_Craft_again a_Craft_again d_Craft_again
  b_Craft_again : Binds K d_Craft_again ["self", "marks"] []
  M_Craft_again : Meth K A_Craft "again" a_Craft_again
  a_Craft_kept : Addr
  d_Craft_kept : FuncData
  F_Craft_kept : Fun K "kept" "Craft.kept" s_Craft_kept a_Craft_kept d_Craft_kept
  b_Craft_kept : Binds K d_Craft_kept ["self"] []
  M_Craft_kept : Meth K A_Craft "kept" a_Craft_kept
  a_Craft_lost : Addr
  d_Craft_lost : FuncData
  F_Craft_lost : Fun K "lost" "Craft.lost" s_Craft_lost a_Craft_lost d_Craft_lost
  b_Craft_lost : Binds K d_Craft_lost ["self"] []
  M_Craft_lost : Meth K A_Craft "lost" a_Craft_lost
  a_Craft_next_mark : Addr
  d_Craft_next_mark : FuncData
  F_Craft_next_mark : Fun K "_next_mark" "Craft._next_mark" s_Craft_next_mark a_Craft_next_mark d_Craft_next_mark
  b_Craft_next_mark : Binds K d_Craft_next_mark ["self"] []
  M_Craft_next_mark : Meth K A_Craft "_next_mark" a_Craft_next_mark
  a_Craft_keep : Addr
  d_Craft_keep : FuncData
  F_Craft_keep : Fun K "_keep" "Craft._keep" s_Craft_keep a_Craft_keep d_Craft_keep
  b_Craft_keep : Binds K d_Craft_keep ["self", "frame"] []
  M_Craft_keep : Meth K A_Craft "_keep" a_Craft_keep
  a_Craft_make_room : Addr
  d_Craft_make_room : FuncData
  F_Craft_make_room : Fun K "_make_room" "Craft._make_room" s_Craft_make_room a_Craft_make_room d_Craft_make_room
  b_Craft_make_room : Binds K d_Craft_make_room ["self"] []
  M_Craft_make_room : Meth K A_Craft "_make_room" a_Craft_make_room
  a_Craft_let_go : Addr
  d_Craft_let_go : FuncData
  F_Craft_let_go : Fun K "_let_go" "Craft._let_go" s_Craft_let_go a_Craft_let_go d_Craft_let_go
  b_Craft_let_go : Binds K d_Craft_let_go ["self", "mark"] []
  M_Craft_let_go : Meth K A_Craft "_let_go" a_Craft_let_go
  a_rows_of : Addr
  d_rows_of : FuncData
  F_rows_of : Fun K "rows_of" "rows_of" s_rows_of a_rows_of d_rows_of
  b_rows_of : Binds K d_rows_of ["frames", "size"] []
  m_rows_of : mg "rows_of" = some (.ref a_rows_of)
  a_check_frames : Addr
  d_check_frames : FuncData
  F_check_frames : Fun K "_check_frames" "_check_frames" s_check_frames a_check_frames d_check_frames
  b_check_frames : Binds K d_check_frames ["frames", "size"] []
  m_check_frames : mg "_check_frames" = some (.ref a_check_frames)
  a_told_in : Addr
  d_told_in : FuncData
  F_told_in : Fun K "_told_in" "_told_in" s_told_in a_told_in d_told_in
  b_told_in : Binds K d_told_in ["frames", "size"] []
  m_told_in : mg "_told_in" = some (.ref a_told_in)
  a_beginnings : Addr
  d_beginnings : FuncData
  F_beginnings : Fun K "_beginnings" "_beginnings" s_beginnings a_beginnings d_beginnings
  b_beginnings : Binds K d_beginnings ["frame", "size"] []
  m_beginnings : mg "_beginnings" = some (.ref a_beginnings)
  a_laid_at : Addr
  d_laid_at : FuncData
  F_laid_at : Fun K "_laid_at" "_laid_at" s_laid_at a_laid_at d_laid_at
  b_laid_at : Binds K d_laid_at ["bodies", "place", "size"] []
  m_laid_at : mg "_laid_at" = some (.ref a_laid_at)
  a_Ground_init : Addr
  d_Ground_init : FuncData
  F_Ground_init : Fun K "__init__" "Ground.__init__" s_Ground_init a_Ground_init d_Ground_init
  b_Ground_init : Binds K d_Ground_init ["self", "size"] []
  a_Ground_hear : Addr
  d_Ground_hear : FuncData
  F_Ground_hear : Fun K "hear" "Ground.hear" s_Ground_hear a_Ground_hear d_Ground_hear
  b_Ground_hear : Binds K d_Ground_hear ["self", "frame"] []
  M_Ground_hear : Meth K A_Ground "hear" a_Ground_hear
  a_Ground_never : Addr
  d_Ground_never : FuncData
  F_Ground_never : Fun K "never" "Ground.never" s_Ground_never a_Ground_never d_Ground_never
  b_Ground_never : Binds K d_Ground_never ["self", "marks"] []
  M_Ground_never : Meth K A_Ground "never" a_Ground_never
  a_Ground_rows : Addr
  d_Ground_rows : FuncData
  F_Ground_rows : Fun K "rows" "Ground.rows" s_Ground_rows a_Ground_rows d_Ground_rows
  b_Ground_rows : Binds K d_Ground_rows ["self", "stream"] []
  M_Ground_rows : Meth K A_Ground "rows" a_Ground_rows
  a_Ground_has : Addr
  d_Ground_has : FuncData
  F_Ground_has : Fun K "has" "Ground.has" s_Ground_has a_Ground_has d_Ground_has
  b_Ground_has : Binds K d_Ground_has ["self"] []
  M_Ground_has : Meth K A_Ground "has" a_Ground_has
  a_Ground_wants : Addr
  d_Ground_wants : FuncData
  F_Ground_wants : Fun K "wants" "Ground.wants" s_Ground_wants a_Ground_wants d_Ground_wants
  b_Ground_wants : Binds K d_Ground_wants ["self"] []
  M_Ground_wants : Meth K A_Ground "wants" a_Ground_wants
  a_Sky_init : Addr
  d_Sky_init : FuncData
  F_Sky_init : Fun K "__init__" "Sky.__init__" s_Sky_init a_Sky_init d_Sky_init
  b_Sky_init : Binds K d_Sky_init ["self", "size", "room"] []
  a_Sky_do : Addr
  d_Sky_do : FuncData
  F_Sky_do : Fun K "do" "Sky.do" s_Sky_do a_Sky_do d_Sky_do
  b_Sky_do : Binds K d_Sky_do ["self", "step"] []
  M_Sky_do : Meth K A_Sky "do" a_Sky_do
  a_Sky_shown : Addr
  d_Sky_shown : FuncData
  F_Sky_shown : Fun K "shown" "Sky.shown" s_Sky_shown a_Sky_shown d_Sky_shown
  b_Sky_shown : Binds K d_Sky_shown ["self"] []
  M_Sky_shown : Meth K A_Sky "shown" a_Sky_shown
  a_Sky_log : Addr
  d_Sky_log : FuncData
  F_Sky_log : Fun K "log" "Sky.log" s_Sky_log a_Sky_log d_Sky_log
  b_Sky_log : Binds K d_Sky_log ["self"] []
  M_Sky_log : Meth K A_Sky "log" a_Sky_log
  a_Sky_tell : Addr
  d_Sky_tell : FuncData
  F_Sky_tell : Fun K "_tell" "Sky._tell" s_Sky_tell a_Sky_tell d_Sky_tell
  b_Sky_tell : Binds K d_Sky_tell ["self", "stream", "telling"] []
  M_Sky_tell : Meth K A_Sky "_tell" a_Sky_tell
  a_Sky_close : Addr
  d_Sky_close : FuncData
  F_Sky_close : Fun K "_close" "Sky._close" s_Sky_close a_Sky_close d_Sky_close
  b_Sky_close : Binds K d_Sky_close ["self", "stream"] []
  M_Sky_close : Meth K A_Sky "_close" a_Sky_close
  a_Sky_beat : Addr
  d_Sky_beat : FuncData
  F_Sky_beat : Fun K "_beat" "Sky._beat" s_Sky_beat a_Sky_beat d_Sky_beat
  b_Sky_beat : Binds K d_Sky_beat ["self"] []
  M_Sky_beat : Meth K A_Sky "_beat" a_Sky_beat
  a_Sky_ask : Addr
  d_Sky_ask : FuncData
  F_Sky_ask : Fun K "_ask" "Sky._ask" s_Sky_ask a_Sky_ask d_Sky_ask
  b_Sky_ask : Binds K d_Sky_ask ["self"] []
  M_Sky_ask : Meth K A_Sky "_ask" a_Sky_ask
  a_Sky_letter : Addr
  d_Sky_letter : FuncData
  F_Sky_letter : Fun K "_letter" "Sky._letter" s_Sky_letter a_Sky_letter d_Sky_letter
  b_Sky_letter : Binds K d_Sky_letter ["self", "way", "k"] []
  M_Sky_letter : Meth K A_Sky "_letter" a_Sky_letter
  a_Sky_lose : Addr
  d_Sky_lose : FuncData
  F_Sky_lose : Fun K "_lose" "Sky._lose" s_Sky_lose a_Sky_lose d_Sky_lose
  b_Sky_lose : Binds K d_Sky_lose ["self", "way", "k"] []
  M_Sky_lose : Meth K A_Sky "_lose" a_Sky_lose
  a_Sky_hear : Addr
  d_Sky_hear : FuncData
  F_Sky_hear : Fun K "_hear" "Sky._hear" s_Sky_hear a_Sky_hear d_Sky_hear
  b_Sky_hear : Binds K d_Sky_hear ["self", "way", "k"] []
  M_Sky_hear : Meth K A_Sky "_hear" a_Sky_hear
  a_Sky_hear_down : Addr
  d_Sky_hear_down : FuncData
  F_Sky_hear_down : Fun K "_hear_down" "Sky._hear_down" s_Sky_hear_down a_Sky_hear_down d_Sky_hear_down
  b_Sky_hear_down : Binds K d_Sky_hear_down ["self", "letter"] []
  M_Sky_hear_down : Meth K A_Sky "_hear_down" a_Sky_hear_down
  a_Sky_hear_up : Addr
  d_Sky_hear_up : FuncData
  F_Sky_hear_up : Fun K "_hear_up" "Sky._hear_up" s_Sky_hear_up a_Sky_hear_up d_Sky_hear_up
  b_Sky_hear_up : Binds K d_Sky_hear_up ["self", "letter"] []
  M_Sky_hear_up : Meth K A_Sky "_hear_up" a_Sky_hear_up
  a_Sky_settle : Addr
  d_Sky_settle : FuncData
  F_Sky_settle : Fun K "_settle" "Sky._settle" s_Sky_settle a_Sky_settle d_Sky_settle
  b_Sky_settle : Binds K d_Sky_settle ["self"] []
  M_Sky_settle : Meth K A_Sky "_settle" a_Sky_settle
  a_Sky_hear_all : Addr
  d_Sky_hear_all : FuncData
  F_Sky_hear_all : Fun K "_hear_all" "Sky._hear_all" s_Sky_hear_all a_Sky_hear_all d_Sky_hear_all
  b_Sky_hear_all : Binds K d_Sky_hear_all ["self"] []
  M_Sky_hear_all : Meth K A_Sky "_hear_all" a_Sky_hear_all
  a_Sky_go_round : Addr
  d_Sky_go_round : FuncData
  F_Sky_go_round : Fun K "_go_round" "Sky._go_round" s_Sky_go_round a_Sky_go_round d_Sky_go_round
  b_Sky_go_round : Binds K d_Sky_go_round ["self"] []
  M_Sky_go_round : Meth K A_Sky "_go_round" a_Sky_go_round
  a_played : Addr
  d_played : FuncData
  F_played : Fun K "played" "played" s_played a_played d_played
  b_played : Binds K d_played ["size", "room", "steps"] []
  m_played : mg "played" = some (.ref a_played)
  a_written : Addr
  d_written : FuncData
  F_written : Fun K "written" "written" s_written a_written d_written
  b_written : Binds K d_written ["steps"] []
  m_written : mg "written" = some (.ref a_written)
  a_read : Addr
  d_read : FuncData
  F_read : Fun K "read" "read" s_read a_read d_read
  b_read : Binds K d_read ["text"] []
  m_read : mg "read" = some (.ref a_read)
  a_row_of : Addr
  d_row_of : FuncData
  F_row_of : Fun K "_row_of" "_row_of" s_row_of a_row_of d_row_of
  b_row_of : Binds K d_row_of ["step"] []
  m_row_of : mg "_row_of" = some (.ref a_row_of)
  a_step_of : Addr
  d_step_of : FuncData
  F_step_of : Fun K "_step_of" "_step_of" s_step_of a_step_of d_step_of
  b_step_of : Binds K d_step_of ["words"] []
  m_step_of : mg "_step_of" = some (.ref a_step_of)
  a_is_written_number : Addr
  d_is_written_number : FuncData
  F_is_written_number : Fun K "_is_written_number" "_is_written_number" s_is_written_number a_is_written_number d_is_written_number
  b_is_written_number : Binds K d_is_written_number ["figures"] []
  m_is_written_number : mg "_is_written_number" = some (.ref a_is_written_number)
  a_law_mix : Addr
  d_law_mix : FuncData
  F_law_mix : Fun K "_law_mix" "_law_mix" s_law_mix a_law_mix d_law_mix
  b_law_mix : Binds K d_law_mix ["_law_script", "_law_seed"] []
  m_law_mix : mg "_law_mix" = some (.ref a_law_mix)
  a_law_next : Addr
  d_law_next : FuncData
  F_law_next : Fun K "_law_next" "_law_next" s_law_next a_law_next d_law_next
  b_law_next : Binds K d_law_next ["_law_h", "_law_many"] []
  m_law_next : mg "_law_next" = some (.ref a_law_next)
  a_law_alike : Addr
  d_law_alike : FuncData
  F_law_alike : Fun K "_law_alike" "_law_alike" s_law_alike a_law_alike d_law_alike
  b_law_alike : Binds K d_law_alike ["_law_found", "_law_due"] []
  m_law_alike : mg "_law_alike" = some (.ref a_law_alike)
  a_law_data : Addr
  d_law_data : FuncData
  F_law_data : Fun K "_law_data" "_law_data" s_law_data a_law_data d_law_data
  b_law_data : Binds K d_law_data ["_law_h"] []
  m_law_data : mg "_law_data" = some (.ref a_law_data)
  a_law_step : Addr
  d_law_step : FuncData
  F_law_step : Fun K "_law_step" "_law_step" s_law_step a_law_step d_law_step
  b_law_step : Binds K d_law_step ["_law_h"] []
  m_law_step : mg "_law_step" = some (.ref a_law_step)
  a_law : Addr
  d_law : FuncData
  F_law : Fun K "law" "law" s_law a_law d_law
  b_law : Binds K d_law ["_law_script"] []
  m_law : mg "law" = some (.ref a_law)
  cl_Laying : Cls K A_Laying
  m_Laying : mg "Laying" = some (.ref A_Laying)
  mk_Laying : Mk K A_Laying a_Laying_init
  n_Laying_body : NoAttr K A_Laying "_body"
  n_Laying_count : NoAttr K A_Laying "_count"
  n_Laying_first : NoAttr K A_Laying "_first"
  n_Laying_size : NoAttr K A_Laying "_size"
  n_Laying_stream : NoAttr K A_Laying "_stream"
  n_Laying_many : NoAttr K A_Laying "many"
  cl_Craft : Cls K A_Craft
  m_Craft : mg "Craft" = some (.ref A_Craft)
  mk_Craft : Mk K A_Craft a_Craft_init
  n_Craft_asked : NoAttr K A_Craft "_asked"
  n_Craft_frames : NoAttr K A_Craft "_frames"
  n_Craft_gone : NoAttr K A_Craft "_gone"
  n_Craft_layings : NoAttr K A_Craft "_layings"
  n_Craft_room : NoAttr K A_Craft "_room"
  n_Craft_sent : NoAttr K A_Craft "_sent"
  n_Craft_window : NoAttr K A_Craft "_window"
  cl_Ground : Cls K A_Ground
  m_Ground : mg "Ground" = some (.ref A_Ground)
  mk_Ground : Mk K A_Ground a_Ground_init
  n_Ground_came : NoAttr K A_Ground "_came"
  n_Ground_never : NoAttr K A_Ground "_never"
  n_Ground_size : NoAttr K A_Ground "_size"
  cl_Sky : Cls K A_Sky
  m_Sky : mg "Sky" = some (.ref A_Sky)
  mk_Sky : Mk K A_Sky a_Sky_init
  n_Sky_craft : NoAttr K A_Sky "_craft"
  n_Sky_entries : NoAttr K A_Sky "_entries"
  n_Sky_ground : NoAttr K A_Sky "_ground"
  n_Sky_roads : NoAttr K A_Sky "_roads"
  z_all : mg "all" = none
  z_bool : mg "bool" = none
  z_enumerate : mg "enumerate" = none
  z_int : mg "int" = none
  z_isinstance : mg "isinstance" = none
  z_len : mg "len" = none
  z_list : mg "list" = none
  z_max : mg "max" = none
  z_range : mg "range" = none
  z_sorted : mg "sorted" = none
  z_str : mg "str" = none
  z_tuple : mg "tuple" = none
  t_STREAMS : Tok
  c_STREAMS : mg "STREAMS" = some (.int 4 t_STREAMS)
  t_MOST_NUMBERS : Tok
  c_MOST_NUMBERS : mg "MOST_NUMBERS" = some (.int 20 t_MOST_NUMBERS)
  t_LEAST_SIZE : Tok
  c_LEAST_SIZE : mg "LEAST_SIZE" = some (.int 8 t_LEAST_SIZE)
  t_MOST_SIZE : Tok
  c_MOST_SIZE : mg "MOST_SIZE" = some (.int 24 t_MOST_SIZE)
  t_MOST_ROOM : Tok
  c_MOST_ROOM : mg "MOST_ROOM" = some (.int 60 t_MOST_ROOM)
  t_MOST_COUNT : Tok
  c_MOST_COUNT : mg "MOST_COUNT" = some (.int 9999 t_MOST_COUNT)
  t_HEAD : Tok
  c_HEAD : mg "HEAD" = some (.int 3 t_HEAD)
  t_HUNDRED : Tok
  c_HUNDRED : mg "HUNDRED" = some (.int 256 t_HUNDRED)
  A_BARE : Addr
  c_BARE : mg "BARE" = some (.ref A_BARE)
  q_BARE : ∀ H, SqT K H A_BARE [.str "begin", .str "shut", .str "beat", .str "ask", .str "settle"]
  A_LETTERS : Addr
  c_LETTERS : mg "LETTERS" = some (.ref A_LETTERS)
  q_LETTERS : ∀ H, SqT K H A_LETTERS [.str "hear", .str "lose", .str "twice"]
  A_WAYS : Addr
  c_WAYS : mg "WAYS" = some (.ref A_WAYS)
  q_WAYS : ∀ H, SqT K H A_WAYS [.str "down", .str "up"]
  t_MOST_FIGURES : Tok
  c_MOST_FIGURES : mg "MOST_FIGURES" = some (.int 3 t_MOST_FIGURES)
  A_BadStream : Addr
  e_BadStream : ExC K mg "BadStream" A_BadStream
  A_BadData : Addr
  e_BadData : ExC K mg "BadData" A_BadData
  A_SkyError : Addr
  g_SkyError : mg "SkyError" = some (.ref A_SkyError)
  x_BadStream : PySem.W.exmOne K (.ref A_BadStream) (.ref A_SkyError) = some true
  x_BadData : PySem.W.exmOne K (.ref A_BadData) (.ref A_SkyError) = some true
end K20

namespace K20
open PySem PySem.Spec PyProof.Rows L2 Sky
section
variable {P : Program} {w : World} {K : PySem.W.Frag} {mg : Str → Option Value} {base : Heap}
/-! ### what may be handed in -/
def sp_is_number : Sp := fun vs H Q _ => ∃ n lo hi : Int, vs = [.int n, .int lo, .int hi] ∧ Q (.bl (decide (lo ≤ n) && decide (n ≤ hi))) H
theorem ok_is_number (T : Tx K mg) : FnOk P w K mg base CX0 1 T.a_is_number T.d_is_number ["value", "low", "high"] sp_is_number := by
  have nd := sc_is_number.nd
  refine T.F_is_number.ok sc_is_number (fun vs H Q E h => ?_) (fun cdv A outer s H vs Q E hr h => ?_)
  · obtain ⟨n, lo, hi, rfl, _⟩ := h
    rfl
  · obtain ⟨n, lo, hi, rfl, q⟩ := h
    refine ⟨_, (pss_one (ps_ret (pe_and (pe_callB call_isi (by rfl) T.z_isinstance (by decide +kernel) (pa_cons (pv 0) (pa_cons (pe_bltn (v := .ty "int") (u := .type "int") (by rfl) T.z_int (by decide +kernel) rfl) pa_nil))) (pe_and (pe_not (pe_callB call_isi (by rfl) T.z_isinstance (by decide +kernel) (pa_cons (pv 0) (pa_cons (pe_bltn (v := .ty "bool") (u := .type "bool") (by rfl) T.z_bool (by decide +kernel) rfl) pa_nil)))) (pe_one (pe_chain op_le op_le (pv 1) (pv 0) (pv 2))))))), ?_⟩
    refine ⟨_, rfl, _, _, _, _, true, rfl, .ty "int", .base (.int n), kit_ty (by decide +kernel), true, rfl, iteT ?_⟩
    refine ⟨_, rfl, _, _, _, _, false, rfl, .ty "bool", .base (.int n), kit_ty (by decide +kernel), false, rfl, true, rfl, iteT ?_⟩
    refine ⟨_, rfl, _, rfl, _, _, rfl, rfl, _, rfl, ite2 (fun a => ?_) (fun a => ?_)⟩
    · refine ⟨_, rfl, _, _, rfl, rfl, ?_⟩
      rw [a, Bool.true_and] at q
      exact q
    · rw [Bool.eq_false_iff.mpr a, Bool.false_and] at q
      exact q
end
end K20

namespace K20
open PySem PySem.Spec PyProof.Rows L2 Sky
section
variable {P : Program} {w : World} {K : PySem.W.Frag} {mg : Str → Option Value} {base : Heap}
def sp_is_stream : Sp := fun vs H Q _ => ∃ n : Int, vs = [.int n] ∧ Q (.bl (decide (0 ≤ n) && decide (n ≤ 3))) H
theorem ok_is_stream (T : Tx K mg) : FnOk P w K mg base CX0 2 T.a_is_stream T.d_is_stream ["value"] sp_is_stream := by
  have nd := sc_is_stream.nd
  refine T.F_is_stream.ok sc_is_stream (fun vs H Q E h => ?_) (fun cdv A outer s H vs Q E hr h => ?_)
  · obtain ⟨n, rfl, _⟩ := h
    rfl
  · obtain ⟨n, rfl, q⟩ := h
    refine ⟨_, (pss_one (ps_ret (pe_call (ok_is_number T) (hr.mono (by decide)) (by rfl) T.m_is_number T.F_is_number.kp T.b_is_number .nil pass0 (pa_cons (pv 0) (pa_cons pe_int (pa_cons (pe_op op_sub (pe_glob (v := .int 4) (by rfl) T.c_STREAMS ⟨_, rfl⟩) pe_int) pa_nil)))))), ?_⟩
    exact ⟨_, rfl, 4, 1, rfl, rfl, n, 0, 3, rfl, q⟩
def sp_check_stream : Sp := fun vs H Q _ => ∃ n : Int, vs = [.int n] ∧ 0 ≤ n ∧ n ≤ 3 ∧ Q .non H
theorem ok_check_stream (T : Tx K mg) : FnOk P w K mg base CX0 3 T.a_check_stream T.d_check_stream ["stream"] sp_check_stream := by
  have nd := sc_check_stream.nd
  refine T.F_check_stream.ok sc_check_stream (fun vs H Q E h => ?_) (fun cdv A outer s H vs Q E hr h => ?_)
  · obtain ⟨n, rfl, _⟩ := h
    rfl
  · obtain ⟨n, rfl, h0, h3, q⟩ := h
    refine ⟨_, (pss_one (ps_if (pt_not (pt_val (pe_call (ok_is_stream T) (hr.mono (by decide)) (by rfl) T.m_is_stream T.F_is_stream.kp T.b_is_stream .nil pass0 (pa_cons (pv 0) pa_nil)))) (pss_one ps_never) pss_nil)), ?_⟩
    refine ⟨_, rfl, n, rfl, ?_⟩
    rw [decide_eq_true h0, decide_eq_true h3]
    exact ⟨true, rfl, iteF q⟩
def sp_check_size : Sp := fun vs H Q _ => ∃ n : Int, vs = [.int n] ∧ 8 ≤ n ∧ n ≤ 24 ∧ Q .non H
theorem ok_check_size (T : Tx K mg) : FnOk P w K mg base CX0 2 T.a_check_size T.d_check_size ["size"] sp_check_size := by
  have nd := sc_check_size.nd
  refine T.F_check_size.ok sc_check_size (fun vs H Q E h => ?_) (fun cdv A outer s H vs Q E hr h => ?_)
  · obtain ⟨n, rfl, _⟩ := h
    rfl
  · obtain ⟨n, rfl, h0, h3, q⟩ := h
    refine ⟨_, (pss_one (ps_if (pt_not (pt_val (pe_call (ok_is_number T) (hr.mono (by decide)) (by rfl) T.m_is_number T.F_is_number.kp T.b_is_number .nil pass0 (pa_cons (pv 0) (pa_cons (pe_glob (v := .int 8) (by rfl) T.c_LEAST_SIZE ⟨_, rfl⟩) (pa_cons (pe_glob (v := .int 24) (by rfl) T.c_MOST_SIZE ⟨_, rfl⟩) pa_nil)))))) (pss_one ps_never) pss_nil)), ?_⟩
    refine ⟨_, rfl, n, 8, 24, rfl, ?_⟩
    rw [decide_eq_true h0, decide_eq_true h3]
    exact ⟨true, rfl, iteF q⟩
def sp_holds_numbers : Sp := fun vs H Q _ => ∃ (a : Addr) (xs : List Int), vs = [.ref a] ∧ H a = some (.tup (xs.map V.int)) ∧ (∀ x ∈ xs, 0 ≤ x ∧ x ≤ 255) ∧ xs.length ≤ 100000 ∧ ∀ H', Same H H' → Q (.bl true) H'
theorem ok_holds_numbers (T : Tx K mg) : FnOk P w K mg base CX0 2 T.a_holds_numbers T.d_holds_numbers ["value"] sp_holds_numbers := by
  have nd := sc_holds_numbers.nd
  refine T.F_holds_numbers.ok sc_holds_numbers (fun vs H Q E h => ?_) (fun cdv A outer s H vs Q E hr h => ?_)
  · obtain ⟨n, _, rfl, _⟩ := h
    rfl
  · obtain ⟨a, xs, rfl, ha, hx, hl, q⟩ := h
    refine ⟨_, (pss_one (ps_ret (pe_and (pe_callB call_isi (by rfl) T.z_isinstance (by decide +kernel) (pa_cons (pv 0) (pa_cons (pe_bltn (v := .ty "tuple") (u := .type "tuple") (by rfl) T.z_tuple (by decide +kernel) rfl) pa_nil))) (pe_one (pe_callB (cr_all rfl) (by rfl) T.z_all (by decide +kernel) (pa_cons (pe_lc (own := [("number", 1)]) rfl nd (pi_tup (pv 0)) (blkOk_by (own := [("number", 1)]) (N := N_holds_numbers) (sc := defScope s_holds_numbers) (by decide +kernel)) (fun _ _ _ _ _ => (pg_name (i := 1) nd rfl (Or.inl rfl))) (fun _ _ _ _ _ => pts_nil) (fun _ _ _ _ _ => (pe_call (ok_is_number T) (hr.mono (by decide)) (by rfl) T.m_is_number T.F_is_number.kp T.b_is_number .nil pass0 (pa_cons (pv 1) (pa_cons pe_int (pa_cons pe_int pa_nil)))))) pa_nil)))))), ?_⟩
    refine ⟨_, rfl, _, _, _, _, true, rfl, .ty "tuple", .base (.tup ha), kit_ty (by decide +kernel), true, rfl, iteT ?_⟩
    refine ⟨_, rfl, a, rfl, ⟨_, SqT.of ha⟩, fun D hD => ?_⟩
    refine lc_tup (K := K) (a := a) (xs := xs.map V.int) (fun i H' => Same H H' ∧ H' D = some (.lst ((List.replicate i true).map V.bl))) ⟨same_new (Same.refl H) hD, upd_same⟩ (fun i H' _ p => SqT.of (p.1 _ _ ha)) ?_ ?_
    · intro i x H' hi p
      obtain ⟨n, hn, rfl⟩ := map_get hi
      have hlt : i < xs.length := (List.getElem?_eq_some_iff.mp hn).1
      have hb := hx n (List.mem_of_getElem? hn)
      refine ⟨rfl, _, rfl, n, 0, 255, rfl, ?_⟩
      rw [decide_eq_true hb.1, decide_eq_true hb.2]
      refine ⟨_, p.2, ?_, same_mut p.1 hD, ?_⟩
      · rw [List.length_map, List.length_replicate]
        exact lt_line (by omega)
      · rw [upd_same, List.replicate_succ', List.map_append]
        rfl
    · intro H' p
      refine ⟨D, List.replicate (xs.map V.int).length true, rfl, SqL.of p.2, ?_⟩
      have e : (List.replicate (xs.map V.int).length true).all id = true := by simp
      rw [e]
      exact q _ p.1
end
end K20

namespace K20
open PySem PySem.Spec PyProof.Rows L2 Sky
section
variable {P : Program} {w : World} {K : PySem.W.Frag} {mg : Str → Option Value} {base : Heap}
def sp_is_telling : Sp := fun vs H Q _ => ∃ (a : Addr) (xs : List Int), vs = [.ref a] ∧ H a = some (.tup (xs.map V.int)) ∧ tellOk xs ∧ ∀ H', Same H H' → Q (.bl true) H'
theorem ok_is_telling (T : Tx K mg) : FnOk P w K mg base CX0 3 T.a_is_telling T.d_is_telling ["value"] sp_is_telling := by
  have nd := sc_is_telling.nd
  refine T.F_is_telling.ok sc_is_telling (fun vs H Q E h => ?_) (fun cdv A outer s H vs Q E hr h => ?_)
  · obtain ⟨n, _, rfl, _⟩ := h
    rfl
  · obtain ⟨a, xs, rfl, ha, ⟨h1, h2, h3⟩, q⟩ := h
    refine ⟨_, (pss_one (ps_ret (pe_and (pe_call (ok_holds_numbers T) (hr.mono (by decide)) (by rfl) T.m_holds_numbers T.F_holds_numbers.kp T.b_holds_numbers .nil pass0 (pa_cons (pv 0) pa_nil)) (pe_one (pe_chain op_le op_le pe_int (pe_callB call_len_seq (by rfl) T.z_len PySem.boot_len (pa_cons (pv 0) pa_nil)) (pe_glob (v := .int 20) (by rfl) T.c_MOST_NUMBERS ⟨_, rfl⟩)))))), ?_⟩
    refine ⟨_, rfl, a, xs, rfl, ha, h3, by omega, fun H1 s1 => ⟨true, rfl, iteT ?_⟩⟩
    refine ⟨_, rfl, _, _, rfl, .inr (SqT.of (s1 _ _ ha)), _, _, rfl, rfl, true, dT (by rw [List.length_map]; omega), iteT ?_⟩
    refine ⟨_, 20, rfl, rfl, ?_⟩
    show Q (.bl (decide (((xs.map V.int).length : Int) ≤ 20))) H1
    rw [decide_eq_true (show ((xs.map V.int).length : Int) ≤ 20 by rw [List.length_map]; omega)]
    exact q _ s1
def sp_check_telling : Sp := fun vs H Q _ => ∃ (a : Addr) (xs : List Int), vs = [.ref a] ∧ H a = some (.tup (xs.map V.int)) ∧ tellOk xs ∧ ∀ H', Same H H' → Q .non H'
theorem ok_check_telling (T : Tx K mg) : FnOk P w K mg base CX0 4 T.a_check_telling T.d_check_telling ["telling"] sp_check_telling := by
  have nd := sc_check_telling.nd
  refine T.F_check_telling.ok sc_check_telling (fun vs H Q E h => ?_) (fun cdv A outer s H vs Q E hr h => ?_)
  · obtain ⟨n, _, rfl, _⟩ := h
    rfl
  · obtain ⟨a, xs, rfl, ha, ⟨h1, h2, h3⟩, q⟩ := h
    refine ⟨_, (pss_one (ps_if (pt_not (pt_val (pe_call (ok_is_telling T) (hr.mono (by decide)) (by rfl) T.m_is_telling T.F_is_telling.kp T.b_is_telling .nil pass0 (pa_cons (pv 0) pa_nil)))) (pss_one ps_never) pss_nil)), ?_⟩
    exact ⟨_, rfl, a, xs, rfl, ha, ⟨h1, h2, h3⟩, fun H1 s1 => ⟨true, rfl, iteF (q _ s1)⟩⟩
end
end K20

namespace K20
open PySem PySem.Spec PyProof.Rows L2 Sky
section
variable {P : Program} {w : World} {K : PySem.W.Frag} {mg : Str → Option Value} {base : Heap}
def sp_is_mark : Sp := fun vs H Q _ => ∃ (m : Addr) (st c : Int), vs = [.ref m] ∧ H m = some (.tup [.int st, .int c]) ∧ 0 ≤ st ∧ st ≤ 3 ∧ 0 ≤ c ∧ c ≤ 9999 ∧ Q (.bl true) H
theorem ok_is_mark (T : Tx K mg) : FnOk P w K mg base CX0 3 T.a_is_mark T.d_is_mark ["value"] sp_is_mark := by
  have nd := sc_is_mark.nd
  refine T.F_is_mark.ok sc_is_mark (fun vs H Q E h => ?_) (fun cdv A outer s H vs Q E hr h => ?_)
  · obtain ⟨_, _, _, rfl, _⟩ := h
    rfl
  · obtain ⟨m, st, c, rfl, hm, h0, h3, c0, c9, q⟩ := h
    refine ⟨_, (pss_cons (ps_if (PW.pt (pw_or (pt_not (pt_val (pe_callB call_isi (by rfl) T.z_isinstance (by decide +kernel) (pa_cons (pv 0) (pa_cons (pe_bltn (v := .ty "tuple") (u := .type "tuple") (by rfl) T.z_tuple (by decide +kernel) rfl) pa_nil))))) (pw_or1 (pt_cmpR op_ne (pe_callB call_len_seq (by rfl) T.z_len PySem.boot_len (pa_cons (pv 0) pa_nil)) pe_int (nomark _))))) (pss_one (ps_ret pe_bl)) pss_nil) (pss_cons (ps_asg (pv 0) (pg_tup rfl (pgs_cons (pg_name (i := 1) nd rfl (Or.inl rfl)) (pgs_cons (pg_name (i := 2) nd rfl (Or.inl rfl)) pgs_nil)))) (pss_one (ps_ret (pe_and (pe_call (ok_is_stream T) (hr.mono (by decide)) (by rfl) T.m_is_stream T.F_is_stream.kp T.b_is_stream .nil pass0 (pa_cons (pv 1) pa_nil)) (pe_one (pe_call (ok_is_number T) (hr.mono (by decide)) (by rfl) T.m_is_number T.F_is_number.kp T.b_is_number .nil pass0 (pa_cons (pv 2) (pa_cons pe_int (pa_cons (pe_glob (v := .int 9999) (by rfl) T.c_MOST_COUNT ⟨_, rfl⟩) pa_nil)))))))))), ?_⟩
    refine ⟨_, rfl, _, _, _, _, true, rfl, .ty "tuple", .base (.tup hm), kit_ty (by decide +kernel), true, rfl, iteF ?_⟩
    refine ⟨_, rfl, m, _, rfl, .inr (SqT.of hm), rfl, false, ndF rfl, iteF ?_⟩
    refine ⟨_, rfl, m, _, rfl, SqT.of hm, rfl, _, _, rfl, _, _, rfl, rfl, ?_⟩
    refine ⟨_, rfl, st, rfl, ?_⟩
    rw [decide_eq_true h0, decide_eq_true h3]
    refine ⟨true, rfl, iteT ?_⟩
    refine ⟨_, rfl, c, 0, 9999, rfl, ?_⟩
    rw [decide_eq_true c0, decide_eq_true c9]
    exact q
/-- a frame of a size, of a stream -/
structure FOk (z : Nat) (st : Int) (f : Frm) : Prop where
  st0 : 0 ≤ st
  st3 : st ≤ 3
  few : f.1 ≤ 9999
  first : ∀ x, f.2.1 = some x → x < z
  len : f.2.2.length = z
  nums : ∀ b ∈ f.2.2, 0 ≤ b ∧ b ≤ 255
theorem td_frm {H : Hp} {v : V} {st : Int} {f : Frm} (h : TD H v (frmD st f)) : ∃ a b, v = .ref a ∧ H a = some (.tup [.int st, .int (f.1 : Nat), optV f.2.1, .ref b]) ∧ H b = some (.tup (f.2.2.map V.int)) := by
  unfold frmD at h
  cases h with
  | tup h t =>
    cases t with
    | cons t1 t =>
      cases t with
      | cons t2 t =>
        cases t with
        | cons t3 t =>
          cases t with
          | cons t4 t =>
            cases t
            cases t1
            cases t2
            obtain ⟨b, rfl, hb⟩ := t4.of_tl
            refine ⟨_, b, rfl, ?_, hb⟩
            cases e : f.2.1 with
            | none =>
              rw [e] at t3
              cases t3
              exact h
            | some x =>
              rw [e] at t3
              cases t3
              exact h
end
end K20

namespace K20
open PySem PySem.Spec PyProof.Rows L2 Sky
/-! ### marks -/
def mkD (s c : Nat) : PyData := .tuple [.int (s : Nat), .int (c : Nat)]
theorem td_mk {H : Hp} {v : V} {s c : Nat} (h : TD H v (mkD s c)) : ∃ p, v = .ref p ∧ H p = some (.tup [.int (s : Nat), .int (c : Nat)]) := by
  cases h with
  | tup h t =>
    cases t with
    | cons t1 t =>
      cases t1
      cases t with
      | cons t2 t =>
        cases t2
        cases t
        exact ⟨_, rfl, h⟩
end K20

namespace K20
open PySem PySem.Spec PyProof.Rows L2 Sky
section
variable {P : Program} {w : World} {K : PySem.W.Frag} {mg : Str → Option Value} {base : Heap}
def sp_check_marks : Sp := fun vs H Q _ => ∃ (lm : Addr) (ms : List V) (ks : List (Nat × Nat)), vs = [.ref lm] ∧ H lm = some (.lst ms) ∧ TDs H ms (ks.map fun k => mkD k.1 k.2) ∧ (∀ k ∈ ks, k.1 ≤ 3 ∧ k.2 ≤ 9999) ∧ ∀ H', Same H H' → Q .non H'
theorem ok_check_marks (T : Tx K mg) : FnOk P w K mg base CX0 4 T.a_check_marks T.d_check_marks ["marks"] sp_check_marks := by
  have nd := sc_check_marks.nd
  refine T.F_check_marks.ok sc_check_marks (fun vs H Q E h => ?_) (fun cdv A outer s H vs Q E hr h => ?_)
  · obtain ⟨_, _, _, rfl, _⟩ := h
    rfl
  · obtain ⟨lm, ms, ks, rfl, hl, tds, hok, fin⟩ := h
    refine ⟨_, (pss_one (ps_for PassesOwn.never rfl (pi_enum (by rfl) T.z_enumerate (pa_cons (pv 0) pa_nil)) (pg_tup rfl (pgs_cons (pg_name (i := 1) nd rfl (Or.inl rfl)) (pgs_cons (pg_name (i := 2) nd rfl (Or.inl rfl)) pgs_nil))) (pss_one (ps_if (pt_not (pt_val (pe_call (ok_is_mark T) (hr.mono (by decide)) (by rfl) T.m_is_mark T.F_is_mark.kp T.b_is_mark .nil pass0 (pa_cons (pv 2) pa_nil)))) (pss_one ps_never) pss_nil)))), ?_⟩
    refine ⟨_, rfl, lm, ms, rfl, SqL.of hl, ?_⟩
    refine for_enum (K := K) (l := lm) (ys := ms) (fun i σ H' => ∃ (v1 v2 : Option V), σ = [some (.ref lm), v1, v2] ∧ Same H H') ⟨none, none, rfl, Same.refl _⟩ (fun i σ H' _ ⟨_, _, _, s'⟩ => SqL.of (s' _ _ hl)) ?_ ?_
    · rintro i y σ H' t hy ⟨v1, v2, rfl, s'⟩ ht
      obtain ⟨d, hd, td⟩ := tds.get hy
      obtain ⟨k, hk, rfl⟩ := map_get hd
      have hkm := hok k (List.mem_of_getElem? hk)
      have s1 := same_new (Same.refl H') ht (o := .tup [.int ((i : Nat) : Int), y])
      obtain ⟨b, rfl, hb⟩ := td_mk ((td.mono (TSm.of_same s')).mono (TSm.of_same s1))
      refine ⟨t, _, rfl, SqT.of upd_same, rfl, _, _, rfl, _, _, rfl, rfl, ?_⟩
      exact ⟨_, rfl, b, _, _, rfl, hb, (by omega), (by omega), (by omega), (by omega), true, rfl, iteF ⟨_, _, rfl, s'.trans s1⟩⟩
    · rintro σ H' ⟨v1, v2, rfl, s'⟩
      exact fin _ s'
end
end K20

namespace K20
open PySem PySem.Spec PyProof.Rows L2 Sky
section
variable {P : Program} {w : World} {K : PySem.W.Frag} {mg : Str → Option Value} {base : Heap}
def sp_check_room : Sp := fun vs H Q _ => ∃ r : Nat, vs = [.int (r : Nat)] ∧ 1 ≤ r ∧ r ≤ 60 ∧ Q .non H
theorem ok_check_room (T : Tx K mg) : FnOk P w K mg base CX0 2 T.a_check_room T.d_check_room ["room"] sp_check_room := by
  have nd := sc_check_room.nd
  refine T.F_check_room.ok sc_check_room (fun vs H Q E h => ?_) (fun cdv A outer s H vs Q E hr h => ?_)
  · obtain ⟨_, rfl, _⟩ := h
    rfl
  · obtain ⟨r, rfl, h1, h2, q⟩ := h
    refine ⟨_, (pss_one (ps_if (pt_not (pt_val (pe_call (ok_is_number T) (hr.mono (by decide)) (by rfl) T.m_is_number T.F_is_number.kp T.b_is_number .nil pass0 (pa_cons (pv 0) (pa_cons pe_int (pa_cons (pe_glob (v := .int 60) (by rfl) T.c_MOST_ROOM ⟨_, rfl⟩) pa_nil)))))) (pss_one ps_never) pss_nil)), ?_⟩
    refine ⟨_, rfl, _, 1, 60, rfl, ?_⟩
    rw [decide_eq_true (show (1 : Int) ≤ ((r : Nat) : Int) by omega), decide_eq_true (show ((r : Nat) : Int) ≤ 60 by omega)]
    exact ⟨true, rfl, iteF q⟩
end
end K20

namespace K20
open PySem PySem.Spec PyProof.Rows L2 Sky
section
variable {P : Program} {w : World} {K : PySem.W.Frag} {mg : Str → Option Value} {base : Heap}
/-! ### frames handed in -/
def sp_is_frame : Sp := fun vs H Q _ => ∃ (v : V) (z : Nat) (st : Int) (f : Frm), vs = [v, .int (z : Nat)] ∧ TD H v (frmD st f) ∧ FOk z st f ∧ z ≤ 100 ∧ ∀ H', Same H H' → Q (.bl true) H'
theorem ok_is_frame (T : Tx K mg) : FnOk P w K mg base CX0 4 T.a_is_frame T.d_is_frame ["value", "size"] sp_is_frame := by
  have nd := sc_is_frame.nd
  refine T.F_is_frame.ok sc_is_frame (fun vs H Q E h => ?_) (fun cdv A outer s H vs Q E hr h => ?_)
  · obtain ⟨_, _, _, _, rfl, _⟩ := h
    rfl
  · obtain ⟨v, z, st, f, rfl, tf, ok, hz, q⟩ := h
    obtain ⟨a, b, rfl, ha, hb⟩ := td_frm tf
    refine ⟨_, (pss_cons (ps_if (PW.pt (pw_or (pt_not (pt_val (pe_callB call_isi (by rfl) T.z_isinstance (by decide +kernel) (pa_cons (pv 0) (pa_cons (pe_bltn (v := .ty "tuple") (u := .type "tuple") (by rfl) T.z_tuple (by decide +kernel) rfl) pa_nil))))) (pw_or1 (pt_cmpR op_ne (pe_callB call_len_seq (by rfl) T.z_len PySem.boot_len (pa_cons (pv 0) pa_nil)) pe_int (nomark _))))) (pss_one (ps_ret pe_bl)) pss_nil) (pss_cons (ps_asg (pv 0) (pg_tup rfl (pgs_cons (pg_name (i := 2) nd rfl (Or.inl rfl)) (pgs_cons (pg_name (i := 3) nd rfl (Or.inl rfl)) (pgs_cons (pg_name (i := 4) nd rfl (Or.inl rfl)) (pgs_cons (pg_name (i := 5) nd rfl (Or.inl rfl)) pgs_nil)))))) (pss_one (ps_ret (pe_and (pe_call (ok_is_mark T) (hr.mono (by decide)) (by rfl) T.m_is_mark T.F_is_mark.kp T.b_is_mark .nil pass0 (pa_cons (pe_tup (pa_cons (pv 2) (pa_cons (pv 3) pa_nil))) pa_nil)) (pe_and (pe_or (pe_cmpR op_isN (pv 4) pe_non (nomark _)) (pe_one (pe_call (ok_is_number T) (hr.mono (by decide)) (by rfl) T.m_is_number T.F_is_number.kp T.b_is_number .nil pass0 (pa_cons (pv 4) (pa_cons pe_int (pa_cons (pe_op op_sub (pv 1) pe_int) pa_nil)))))) (pe_and (pe_call (ok_holds_numbers T) (hr.mono (by decide)) (by rfl) T.m_holds_numbers T.F_holds_numbers.kp T.b_holds_numbers .nil pass0 (pa_cons (pv 5) pa_nil)) (pe_one (pe_cmpR op_eq (pe_callB call_len_seq (by rfl) T.z_len PySem.boot_len (pa_cons (pv 5) pa_nil)) (pv 1) (nomark _)))))))))), ?_⟩
    refine ⟨_, rfl, _, _, _, _, true, rfl, .ty "tuple", .base (.tup ha), kit_ty (by decide +kernel), true, rfl, iteF ?_⟩
    refine ⟨_, rfl, a, _, rfl, .inr (SqT.of ha), rfl, false, ndF rfl, iteF ?_⟩
    refine ⟨_, rfl, a, _, rfl, SqT.of ha, rfl, _, _, rfl, _, _, rfl, _, _, rfl, _, _, rfl, rfl, ?_⟩
    refine ⟨_, rfl, _, rfl, (by decide : (2 : Nat) ≤ sizeLine), fun m hm => ?_⟩
    have s1 := same_new (Same.refl H) hm (o := .tup [.int st, .int (f.1 : Nat)])
    refine ⟨m, st, _, rfl, upd_same, ok.st0, ok.st3, by omega, by have := ok.few; omega, true, rfl, iteT ?_⟩
    have fin : ∀ H', Same (upd H m (.tup [.int st, .int (f.1 : Nat)])) H' → Q (.bl true) H' := fun H' s' => q H' (s1.trans s')
    generalize upd H m (.tup [.int st, .int (f.1 : Nat)]) = H1 at *
    have hb1 := s1 _ _ hb
    have tail : ∃ c, V.bl true = V.bl c ∧ (if c = true then (tAndV (tCall sp_holds_numbers [] E0 (tCons (tVar 5) tNil)) (tOp rEq (tCB (rLenSq K) (tCons (tVar 5) tNil)) (tVar 1))) [some (.ref a), some (.int (z : Nat)), some (.int st), some (.int (f.1 : Nat)), some (optV f.2.1), some (.ref b)] H1 Q else Q (.bl false) H1) := by
      refine ⟨true, rfl, iteT ?_⟩
      refine ⟨_, rfl, b, f.2.2, rfl, hb1, ok.nums, by have := ok.len; omega, fun H2 s2 => ⟨true, rfl, iteT ?_⟩⟩
      refine ⟨_, rfl, b, _, rfl, .inr (SqT.of (s2 _ _ hb1)), _, rfl, rfl, ?_⟩
      refine bl_of (by rw [List.length_map, ok.len]) (fin _ s2)
    refine ⟨_, rfl, rfl, ?_⟩
    cases e : f.2.1 with
    | none =>
      rw [e] at tail
      exact ⟨true, rfl, iteT tail⟩
    | some x =>
      rw [e] at tail
      refine ⟨false, dF (fun z => nomatch z), iteF ?_⟩
      have hx := ok.first x e
      refine ⟨_, rfl, _, rfl, _, 1, rfl, rfl, x, 0, (z : Int) - 1, rfl, ?_⟩
      rw [decide_eq_true (show (0 : Int) ≤ (x : Nat) by omega), decide_eq_true (show ((x : Nat) : Int) ≤ (z : Nat) - 1 by omega)]
      exact tail
def sp_check_frames : Sp := fun vs H Q _ => ∃ (lf : Addr) (us : List V) (z : Nat) (st : Int) (fs : List Frm), vs = [.ref lf, .int (z : Nat)] ∧ H lf = some (.lst us) ∧ TDs H us (fs.map (frmD st)) ∧ (∀ f ∈ fs, FOk z st f) ∧ (∀ f ∈ fs, ∀ g ∈ fs, f.1 = g.1 → f = g) ∧
  z ≤ 100 ∧ fs.length ≤ 1000000 ∧ ∀ H', Same H H' → Q .non H'
theorem frmD_lay {st : Int} {f : Frm} : Lay 2 (frmD st f) := by
  have h1 : Lay 1 (tlD f.2.2) := Lay.tl _
  have h2 : Lay 0 (optD f.2.1) := by
    cases f.2.1 with
    | none => exact Lay.none
    | some x => exact Lay.int _
  have h3 := Lay.tuple (f := fun d : PyData => d) (k := 1) (xs := [.int st, .int (f.1 : Nat), optD f.2.1, tlD f.2.2]) (by
    intro x hx
    simp only [List.mem_cons, List.not_mem_nil, or_false] at hx
    rcases hx with rfl | rfl | rfl | rfl
    · exact (Lay.int _).mono (by decide)
    · exact (Lay.int _).mono (by decide)
    · exact h2.mono (by decide)
    · exact h1)
  rw [List.map_id'] at h3
  exact h3
theorem ok_check_frames (T : Tx K mg) : FnOk P w K mg base CX0 5 T.a_check_frames T.d_check_frames ["frames", "size"] sp_check_frames := by
  have nd := sc_check_frames.nd
  refine T.F_check_frames.ok sc_check_frames (fun vs H Q E h => ?_) (fun cdv A outer s H vs Q E hr h => ?_)
  · obtain ⟨_, _, _, _, _, rfl, _⟩ := h
    rfl
  · obtain ⟨lf, us, z, st, fs, rfl, hlf, tus, ok, one, hz, hfs, q⟩ := h
    have hul : us.length = fs.length := by rw [tus.length, List.length_map]
    have item : ∀ (i : Nat) (y : V) (H' : Hp), Same H H' → us[i]? = some y → ∃ f, fs[i]? = some f ∧ TD H' y (frmD st f) := by
      intro i y H' s' hy
      obtain ⟨d, hd, td⟩ := tus.get hy
      obtain ⟨f, hf, rfl⟩ := map_get hd
      exact ⟨f, hf, td.mono (TSm.of_same s')⟩
    refine ⟨_, (pss_cons (ps_set (i := 2) nd rfl (Or.inl rfl) pe_dnewK) (pss_one (ps_for PassesOwn.never rfl (pi_enum (by rfl) T.z_enumerate (pa_cons (pv 0) pa_nil)) (pg_tup rfl (pgs_cons (pg_name (i := 3) nd rfl (Or.inl rfl)) (pgs_cons (pg_name (i := 4) nd rfl (Or.inl rfl)) pgs_nil))) (pss_cons (ps_if (PW.pt (pw_or (pt_not (pt_val (pe_call (ok_is_frame T) (hr.mono (by decide)) (by rfl) T.m_is_frame T.F_is_frame.kp T.b_is_frame .nil pass0 (pa_cons (pv 4) (pa_cons (pv 1) pa_nil))))) (pw_or1 (pt_cmpR op_ne (pe_ix ix_tup (pv 4) pe_int (fun _ _ => rfl)) (pe_ix ix_tup (pe_ix ix_list (pv 0) pe_int (fun _ _ => rfl)) pe_int (fun _ _ => rfl)) (nomark _))))) (pss_one ps_never) pss_nil) (pss_one (ps_if (pt_cmpR (op_neD hr.units) (pe_dsetd (pv 2) (pe_ix ix_tup (pv 4) pe_int (fun _ _ => rfl)) (pv 4) ⟨rfl, rfl, rfl, rfl⟩) (pv 4) (nomark _)) (pss_one ps_never) pss_nil)))))), ?_⟩
    intro d hd
    refine ⟨_, rfl, lf, us, rfl, SqL.of (same_new (Same.refl _) hd _ _ hlf), ?_⟩
    refine for_enum (K := K) (l := lf) (ys := us) (fun i σ H' => ∃ (v3 v4 : Option V) (kvs : List (Key × V)), σ = [some (.ref lf), some (.int (z : Nat)), some (.ref d), v3, v4] ∧ Same H H' ∧ H' d = some (.dK kvs) ∧ kvs.length ≤ i ∧
      ∀ k v, valV kvs k = some v → ∃ f ∈ fs, k = Sum.inl ((f.1 : Nat) : Int) ∧ TD H' v (frmD st f)) ⟨none, none, [], rfl, same_new (Same.refl _) hd, upd_same, Nat.le_refl _, fun k v e => by cases e⟩ (fun i σ H' _ ⟨_, _, _, _, s', _⟩ => SqL.of (s' _ _ hlf)) ?_ ?_
    · rintro i y σ H' t hy ⟨v3, v4, kvs, rfl, s', hd', hk, hkv⟩ ht
      obtain ⟨f, hf, tf⟩ := item i y H' s' hy
      have hfm : f ∈ fs := List.mem_of_getElem? hf
      have hil : i < fs.length := (List.getElem?_eq_some_iff.mp hf).1
      have s1 := same_new (Same.refl H') ht (o := .tup [.int ((i : Nat) : Int), y])
      have ndt : d ≠ t := ne_of_none hd' ht
      refine ⟨t, _, rfl, SqT.of upd_same, rfl, _, _, rfl, _, _, rfl, rfl, ?_⟩
      have tf1 := tf.mono (TSm.of_same s1)
      have hd1 : upd H' t (.tup [.int ((i : Nat) : Int), y]) d = some (.dK kvs) := s1 _ _ hd'
      have hkv1 : ∀ k v, valV kvs k = some v → ∃ f ∈ fs, k = Sum.inl ((f.1 : Nat) : Int) ∧ TD (upd H' t (.tup [.int ((i : Nat) : Int), y])) v (frmD st f) := fun k v e => by
        obtain ⟨g, hg, e1, tg⟩ := hkv k v e
        exact ⟨g, hg, e1, tg.mono (TSm.of_same s1)⟩
      have s2 : Same H (upd H' t (.tup [.int ((i : Nat) : Int), y])) := s'.trans s1
      generalize upd H' t (.tup [.int ((i : Nat) : Int), y]) = H1 at *
      -- is_frame
      refine ⟨_, rfl, _, rfl, y, z, st, f, rfl, tf1, ok f hfm, hz, fun H2 s3 => ⟨true, rfl, iteF ?_⟩⟩
      have tf2 := tf1.mono (TSm.of_same s3)
      obtain ⟨a, b, rfl, ha, hb⟩ := td_frm tf2
      -- frames[0][0]
      obtain ⟨y0, hy0⟩ : ∃ y0, us[0]? = some y0 := ⟨us[0]'(by omega), List.getElem?_eq_getElem (by omega)⟩
      obtain ⟨f0, hf0, tf0⟩ := item 0 y0 H2 (s2.trans s3) hy0
      obtain ⟨a0, b0, rfl, ha0, hb0⟩ := td_frm tf0
      refine ⟨_, rfl, a, _, 0, .int st, rfl, rfl, SqT.of ha, atI_nat (j := 0) rfl, ?_⟩
      refine ⟨_, rfl, lf, us, 0, _, rfl, rfl, SqL.of (s3 _ _ (s2 _ _ hlf)), atI_nat (j := 0) hy0, ?_⟩
      refine ⟨a0, _, 0, .int st, rfl, rfl, SqT.of ha0, atI_nat (j := 0) rfl, rfl, false, ndF rfl, iteF ?_⟩
      -- setdefault
      have hd2 := s3 _ _ hd1
      refine ⟨_, rfl, d, rfl, .inl ⟨kvs, .inl hd2⟩, _, rfl, a, _, 1, .int (f.1 : Nat), rfl, rfl, SqT.of ha, atI_nat (j := 1) rfl, _, rfl, kvs, Sum.inl ((f.1 : Nat) : Int), hd2, rfl, lt_line (by omega), ?_, ?_⟩
      · intro v hv
        obtain ⟨g, hg, e1, tg⟩ := hkv1 _ _ hv
        have e2 : f.1 = g.1 := by
          injection e1 with e1
          exact Int.ofNat.inj e1
        have e3 := one f hfm g hg e2
        subst e3
        refine ⟨_, rfl, _, _, (tg.mono (TSm.of_same s3)).dp, tf2.dp, frmD_lay.shaped (by decide), frmD_lay.shaped (by decide), _, rfl, ?_⟩
        rw [frmD_lay.refl]
        refine iteF ?_
        exact ⟨_, _, kvs, rfl, s2.trans s3, hd2, Nat.le_succ_of_le hk, fun k v e => by
          obtain ⟨g, hg, e1, tg⟩ := hkv1 k v e
          exact ⟨g, hg, e1, tg.mono (TSm.of_same s3)⟩⟩
      · intro hv
        have t3 : TSm H2 (upd H2 d (.dK (putK kvs (Sum.inl ((f.1 : Nat) : Int)) (.ref a)))) := ts_upd (TSm.refl _) (NoT.dK hd2)
        refine ⟨_, rfl, _, _, (tf2.mono t3).dp, (tf2.mono t3).dp, frmD_lay.shaped (by decide), frmD_lay.shaped (by decide), _, rfl, ?_⟩
        rw [frmD_lay.refl]
        refine iteF ?_
        refine ⟨_, _, _, rfl, same_mut (s2.trans s3) hd, upd_same, ?_, fun k v e => ?_⟩
        · rw [L2.putK_new _ hv, List.length_append]
          exact Nat.succ_le_succ hk
        · rw [valV_put] at e
          split at e
          · next e1 =>
            cases e
            exact ⟨f, hfm, e1, tf2.mono t3⟩
          · obtain ⟨g, hg, e1, tg⟩ := hkv1 k v e
            exact ⟨g, hg, e1, (tg.mono (TSm.of_same s3)).mono t3⟩
    · rintro σ H' ⟨_, _, _, rfl, s', _⟩
      exact q _ s'
end
end K20

namespace K20
open PySem PySem.Spec PyProof.Rows L2 Sky
section
variable {P : Program} {w : World} {K : PySem.W.Frag} {mg : Str → Option Value} {base : Heap}
/-! ### where tellings begin -/
abbrev stOf (L : List (Nat × List Int)) : List Nat := L.map (·.1)
/-- where the walk over a frame stands -/
def Beg (z c : Nat) (N : List Int) (L : List (Nat × List Int)) (p : Nat) (ps : List Nat) : Prop := ∃ j, ps = ((stOf L).take j).filter (inFr z c) ∧
  ((∃ a t, L[j]? = some (a, t) ∧ a = c * z + p) ∨ ((∀ i, j ≤ i → ∀ x, (stOf L)[i]? = some x → c * z + z ≤ x) ∧ (z ≤ p ∨ N[c * z + p]? = some 0)))
theorem beg_at {z c p : Nat} {N : List Int} (hp : p < z) : ((N.drop (c * z)).take z)[p]? = N[c * z + p]? := by
  rw [List.getElem?_take_of_lt hp, List.getElem?_drop]
theorem Beg.end_ {z c p : Nat} {N : List Int} {L : List (Nat × List Int)} {ps : List Nat} (h : Lays z N L) (b : Beg z c N L p ps) (hz : z ≤ p ∨ N[c * z + p]? = some 0) : ps = (stOf L).filter (inFr z c) := by
  obtain ⟨j, rfl, hj⟩ := b
  refine filter_take_all fun i hi x hx => ?_
  have hx' : c * z + z ≤ x := by
    rcases hj with ⟨a, t, e, ea⟩ | ⟨hj, _⟩
    · have h1 := h.S_at (x := a) hi (by rw [List.getElem?_map, e]; rfl) hx
      rcases hz with hz | hz
      · omega
      · have h2 := h.at e
        rw [ea, hz] at h2
        have h3 := (h.item j a t e).2.2.1
        have h4 : (0 : Int) = (t.length : Int) := Option.some.inj h2
        omega
    · exact hj i hi x hx
  unfold inFr
  simp
  omega
theorem Beg.next_ {z c p : Nat} {N : List Int} {L : List (Nat × List Int)} {ps : List Nat} (h : Lays z N L) (hz : 0 < z) (hc : c * z + z ≤ N.length) (b : Beg z c N L p ps) (hp : p < z) {x : Int} (hx : N[c * z + p]? = some x) (h0 : 0 < x) :
    ∃ n : Nat, x = (n : Int) ∧ Beg z c N L (p + (3 + n)) (ps ++ [c * z + p]) := by
  obtain ⟨j, rfl, hj⟩ := b
  rcases hj with ⟨a, t, e, ea⟩ | ⟨_, hz' | hz'⟩
  · have h2 := h.at e
    rw [ea, hx] at h2
    refine ⟨t.length, Option.some.inj h2, j + 1, ?_, ?_⟩
    · rw [List.take_add_one, List.getElem?_map, e]
      show _ = (List.take j (stOf L) ++ [a]).filter (inFr z c)
      rw [List.filter_append, List.filter_cons_of_pos (by unfold inFr; simp; omega), ea]
      rfl
    · exact h.step hz hc e ea hp
  · omega
  · rw [hx] at hz'
    cases hz'
    exact absurd h0 (by decide)
def sp_beginnings : Sp := fun vs H Q _ => ∃ (v : V) (z c : Nat) (st : Int) (N : List Int) (L : List (Nat × List Int)), vs = [v, .int (z : Nat)] ∧ TD H v (frmD st (frm z N (stOf L) c)) ∧ Lays z N L ∧ 0 < z ∧ z ≤ 100 ∧ c ≤ 9999 ∧ c * z + z ≤ N.length ∧ L.length ≤ 1000000 ∧
  ∀ r H', H' r = some (.lst ((((stOf L).filter (inFr z c)).map fun n : Nat => (n : Int)).map V.int)) → H r = none → Same H H' → Q (.ref r) H'
theorem ok_beginnings (T : Tx K mg) : FnOk P w K mg base CX0 1 T.a_beginnings T.d_beginnings ["frame", "size"] sp_beginnings := by
  have nd := sc_beginnings.nd
  refine T.F_beginnings.ok sc_beginnings (fun vs H Q E h => ?_) (fun cdv A outer s H vs Q E hr h => ?_)
  · obtain ⟨_, _, _, _, _, _, rfl, _⟩ := h
    rfl
  · obtain ⟨v, z, c, st, N, L, rfl, tf, hL, hz, hz1, hc9, hc, hLl, fin⟩ := h
    obtain ⟨a, b, rfl, ha, hb⟩ := td_frm tf
    refine ⟨_, (pss_cons (ps_asg (pv 0) (pg_tup rfl (pgs_cons (pg_name (i := 2) nd rfl (Or.inl rfl)) (pgs_cons (pg_name (i := 3) nd rfl (Or.inl rfl)) (pgs_cons (pg_name (i := 4) nd rfl (Or.inl rfl)) (pgs_cons (pg_name (i := 5) nd rfl (Or.inl rfl)) pgs_nil)))))) (pss_cons (ps_set (i := 6) nd rfl (Or.inl rfl) (pe_lst pa_nil)) (pss_cons (ps_set (i := 7) nd rfl (Or.inl rfl) (pe_ifExp (pt_cmpR op_isN (pv 4) pe_non (nomark _)) (pv 1) (pv 4))) (pss_cons (ps_while PassesOwn.never (PW.pt (pw_and (pt_cmpR op_lt (pv 7) (pv 1) (nomark _)) (pw_and1 (pt_cmpR op_gt (pe_ix ix_tup (pv 5) (pv 7) (fun _ _ => rfl)) pe_int (nomark _))))) (pss_cons (ps_expr (pe_bm PySem.F.plainAttrs_list PySem.F.slot_list_append PySem.F.type_list_append mt_append (pv 6) (pa_cons (pe_op op_add (pe_op op_mul (pv 3) (pv 1)) (pv 7)) pa_nil))) (pss_one (ps_aug (i := 7) nd rfl (Or.inl rfl) (pe_op op_add (pe_glob (v := .int 3) (by rfl) T.c_HEAD ⟨_, rfl⟩) (pe_ix ix_tup (pv 5) (pv 7) (fun _ _ => rfl))) ip_add)))) (pss_one (ps_ret (pv 6))))))), ?_⟩
    refine ⟨_, rfl, a, _, rfl, SqT.of ha, rfl, _, _, rfl, _, _, rfl, _, _, rfl, _, _, rfl, rfl, ?_⟩
    refine ⟨Nat.zero_le _, fun lp hlp => ?_⟩
    have s1 := same_new (Same.refl H) hlp (o := .lst [])
    have hb1 := s1 _ _ hb
    have hlp1 : upd H lp (.lst []) lp = some (.lst []) := upd_same
    generalize upd H lp (.lst []) = H1 at *
    -- at
    refine ⟨_, rfl, rfl, _, rfl, ?_⟩
    refine ife_skip (fun v H2 => ∃ p : Nat, v = .int (p : Nat) ∧ H2 = H1 ∧ Beg z c N L p [] ∧ p ≤ z) (fun v H2 ⟨p, ev, eh, hB, hpz⟩ => ?_) (fun e rest => ?_) (fun e rest => ?_)
    case refine_2 =>
      have e0 : (frm z N (stOf L) c).2.1 = none := by
        have := of_decide_eq_true e
        cases h : (frm z N (stOf L) c).2.1 with
        | none => rfl
        | some x => rw [h] at this; cases this
      refine ⟨_, rfl, rest _ _ ⟨z, rfl, rfl, ⟨L.length, ?_, .inr ⟨fun i hi x hx => ?_, .inl (Nat.le_refl _)⟩⟩, Nat.le_refl _⟩⟩
      · rw [List.take_of_length_le (by rw [List.length_map]; exact Nat.le_refl _)]
        exact (first_no e0).symm
      · have := (List.getElem?_eq_some_iff.mp hx).1
        rw [List.length_map] at this
        omega
    case refine_3 =>
      obtain ⟨x, h⟩ : ∃ x, (frm z N (stOf L) c).2.1 = some x := by
        cases h : (frm z N (stOf L) c).2.1 with
        | none => rw [h] at e; exact absurd (decide_eq_true rfl) e
        | some x => exact ⟨x, rfl⟩
      obtain ⟨j, h1, h2, h3⟩ := first_at h
      refine ⟨_, rfl, rest _ _ ⟨x, by rw [h]; rfl, rfl, ⟨j, h2.symm, .inl ?_⟩, Nat.le_of_lt h3⟩⟩
      rw [List.getElem?_map] at h1
      cases hj : L[j]? with
      | none => rw [hj] at h1; cases h1
      | some y =>
        rw [hj] at h1
        exact ⟨y.1, y.2, rfl, Option.some.inj h1⟩
    subst ev eh
    -- while
    refine ⟨fun m σ H' => ∃ (p : Nat) (ps : List Nat), σ = [some (.ref a), some (.int (z : Nat)), some (.int st), some (.int (c : Nat)), some (optV (frm z N (stOf L) c).2.1), some (.ref b), some (.ref lp), some (.int (p : Nat))] ∧ Beg z c N L p ps ∧
      H' lp = some (.lst ((ps.map fun n : Nat => (n : Int)).map V.int)) ∧ Same H H' ∧ m = z - p, ⟨_, p, [], rfl, hB, hlp1, s1, rfl⟩, ?_⟩
    rintro m σ H' ⟨p, ps, rfl, hB, hps, s', rfl⟩
    have hb' := s' _ _ hb
    have pslen : ps.length ≤ 1000000 := by
      obtain ⟨j, rfl, _⟩ := hB
      have h1 := List.length_filter_le (inFr z c) ((stOf L).take j)
      rw [List.length_take, List.length_map] at h1
      omega
    have done : (z ≤ p ∨ N[c * z + p]? = some 0) → Q (.ref lp) H' := fun hz' => by
      have e := hB.end_ hL hz'
      rw [e] at hps
      exact fin lp H' hps hlp s'
    refine ⟨_, rfl, _, rfl, _, _, rfl, rfl, _, rfl, ?_⟩
    by_cases hp : p < z
    · rw [decide_eq_true (show ((p : Nat) : Int) < ((z : Nat) : Int) by omega)]
      refine iteT ?_
      obtain ⟨x, hx⟩ : ∃ x, N[c * z + p]? = some x := ⟨N[c * z + p]'(by omega), List.getElem?_eq_getElem (by omega)⟩
      have hxb : ((frm z N (stOf L) c).2.2.map V.int)[p]? = some (.int x) := by
        show (((N.drop (c * z)).take z).map V.int)[p]? = _
        rw [List.getElem?_map, beg_at hp, hx]
        rfl
      refine ⟨_, rfl, _, rfl, b, _, _, _, rfl, rfl, SqT.of hb', atI_nat hxb, x, 0, rfl, rfl, _, rfl, ?_⟩
      by_cases h0 : 0 < x
      · rw [decide_eq_true h0]
        refine iteT ?_
        obtain ⟨n, rfl, hB'⟩ := hB.next_ hL hz hc hp hx h0
        refine ⟨fun σ' H'' => ∃ (ps' : List Nat), σ' = [some (.ref a), some (.int (z : Nat)), some (.int st), some (.int (c : Nat)), some (optV (frm z N (stOf L) c).2.1), some (.ref b), some (.ref lp), some (.int ((p + (3 + n) : Nat) : Int))] ∧ Beg z c N L (p + (3 + n)) ps' ∧
          H'' lp = some (.lst ((ps'.map fun n : Nat => (n : Int)).map V.int)) ∧ Same H H'', fun σ' H'' ⟨ps', e, hb2, hl2, s2⟩ => ⟨z - (p + (3 + n)), by omega, _, ps', e, hb2, hl2, s2, rfl⟩, ?_⟩
        -- places.append(count * size + at)
        refine ⟨_, rfl, .inl ⟨rfl, _, SqL.of hps⟩, _, rfl, _, rfl, _, _, rfl, rfl, .inr ⟨by omega, by omega⟩, _, rfl, _, _, rfl, rfl, ?_⟩
        refine ⟨lp, _, _, rfl, rfl, hps, lt_line (by rw [List.length_map, List.length_map]; omega), ?_⟩
        have e1 : (ps.map fun n : Nat => (n : Int)).map V.int ++ [V.int (((c : Nat) : Int) * ((z : Nat) : Int) + ((p : Nat) : Int))] = ((ps ++ [c * z + p]).map fun n : Nat => (n : Int)).map V.int := by
          rw [List.map_append, List.map_append, ← Int.natCast_mul, ← Int.natCast_add]
          rfl
        show (tAug _ _ _ : L2.TS) _ _ (upd H' lp (.lst ((ps.map fun n : Nat => (n : Int)).map V.int ++ [V.int (((c : Nat) : Int) * ((z : Nat) : Int) + ((p : Nat) : Int))])))
        rw [e1]
        have s3 := same_mut (o := .lst (((ps ++ [c * z + p]).map fun n : Nat => (n : Int)).map V.int)) s' hlp
        -- at += HEAD + body[at]
        refine ⟨_, rfl, _, rfl, _, rfl, b, _, _, _, rfl, rfl, SqT.of (s3 _ _ hb), atI_nat hxb, 3, ((n : Nat) : Int), rfl, rfl, _, _, rfl, rfl, ?_⟩
        refine ⟨ps ++ [c * z + p], ?_, hB', upd_same, s3⟩
        show _ = [some (V.ref a), some (.int (z : Nat)), some (.int st), some (.int (c : Nat)), some (optV (frm z N (stOf L) c).2.1), some (.ref b), some (.ref lp), some (.int ((p + (3 + n) : Nat) : Int))]
        rw [show ((p + (3 + n) : Nat) : Int) = ((p : Nat) : Int) + (3 + ((n : Nat) : Int)) by omega]
        rfl
      · rw [decide_eq_false h0]
        refine iteF ?_
        have hx0 : x = 0 := by
          have := (hL.nums x (List.mem_of_getElem? hx)).1
          omega
        exact ⟨_, rfl, done (.inr (by rw [hx, hx0]))⟩
    · rw [decide_eq_false (show ¬ ((p : Nat) : Int) < ((z : Nat) : Int) by omega)]
      exact iteF (iteF ⟨_, rfl, done (.inl (by omega))⟩)
/-! ### what is laid at a place -/
/-- the frames' bodies by their counts -/
structure BodAt (H : Hp) (d : Addr) (kvs : List (Key × V)) (z : Nat) (N : List Int) (cs : List Nat) : Prop where
  d : H d = some (.dK kvs)
  has : ∀ c ∈ cs, ∃ b, valV kvs (Sum.inl ((c : Nat) : Int)) = some (.ref b) ∧ H b = some (.tup (((N.drop (c * z)).take z).map V.int))
  no : ∀ c : Nat, c ∉ cs → valV kvs (Sum.inl ((c : Nat) : Int)) = none
theorem BodAt.same {H H' : Hp} {d : Addr} {kvs : List (Key × V)} {z : Nat} {N : List Int} {cs : List Nat} (h : BodAt H d kvs z N cs) (s : Same H H') : BodAt H' d kvs z N cs :=
  ⟨s _ _ h.d, fun c hc => by obtain ⟨b, e, hb⟩ := h.has c hc; exact ⟨b, e, s _ _ hb⟩, h.no⟩
theorem at_div {z x : Nat} {N : List Int} (hz : 0 < z) : ((N.drop (x / z * z)).take z)[x % z]? = N[x]? := by
  rw [beg_at (Nat.mod_lt _ hz), div_mod]
def sp_laid_at : Sp := fun vs H Q _ => ∃ (d : Addr) (kvs : List (Key × V)) (z a n : Nat) (N : List Int) (cs : List Nat), vs = [.ref d, .int (a : Nat), .int (z : Nat)] ∧ BodAt H d kvs z N cs ∧ 0 < z ∧ z ≤ 100 ∧ a / z ∈ cs ∧ N[a]? = some ((n : Nat) : Int) ∧ a + (n + 3) ≤ N.length ∧ N.length ≤ 1000000 ∧ n ≤ 100 ∧
  (covers z cs a (n + 3) = true → ∀ r H', H' r = some (.lst (((N.drop a).take (n + 3)).map V.int)) → H r = none → Same H H' → Q (.ref r) H') ∧ (covers z cs a (n + 3) = false → ∀ H', Same H H' → Q .non H')
theorem ok_laid_at (T : Tx K mg) : FnOk P w K mg base CX0 1 T.a_laid_at T.d_laid_at ["bodies", "place", "size"] sp_laid_at := by
  have nd := sc_laid_at.nd
  refine T.F_laid_at.ok sc_laid_at (fun vs H Q E h => ?_) (fun cdv A outer s H vs Q E hr h => ?_)
  · obtain ⟨_, _, _, _, _, _, _, rfl, _⟩ := h
    rfl
  · obtain ⟨d, kvs, z, a, n, N, cs, rfl, hB, hz, hz1, hac, hN, hlen, hNl, hn, finT, finF⟩ := h
    have dz : CDivN ((a : Nat) : Int) ((z : Nat) : Int) := ⟨by omega, by omega⟩
    obtain ⟨b, hv, hb⟩ := hB.has _ hac
    refine ⟨_, (pss_cons (ps_set (i := 3) nd rfl (Or.inl rfl) (pe_op op_add (pe_glob (v := .int 3) (by rfl) T.c_HEAD ⟨_, rfl⟩) (pe_ix ix_tup (pe_dget (hu_of hr) (pv 0) (pe_op op_fdivN (pv 1) (pv 2)) (fun _ _ => rfl)) (pe_op op_modN (pv 1) (pv 2)) (fun _ _ => rfl)))) (pss_cons (ps_set (i := 4) nd rfl (Or.inl rfl) (pe_lst pa_nil)) (pss_cons (ps_for PassesOwn.never rfl (pi_range2 rfl T.z_range (pa_cons (pv 1) (pa_cons (pe_op op_add (pv 1) (pv 3)) pa_nil))) (pg_name (i := 5) nd rfl (Or.inl rfl)) (pss_cons (ps_set (i := 6) nd rfl (Or.inl rfl) (pe_dget1 (hu_of hr) (pv 0) (pe_op op_fdivN (pv 5) (pv 2)) ⟨rfl, rfl, rfl, rfl⟩)) (pss_cons (ps_if (pt_cmpR op_isN (pv 6) pe_non (nomark _)) (pss_one (ps_ret pe_non)) pss_nil) (pss_one (ps_expr (pe_bm PySem.F.plainAttrs_list PySem.F.slot_list_append PySem.F.type_list_append mt_append (pv 4) (pa_cons (pe_ix ix_tup (pv 6) (pe_op op_modN (pv 5) (pv 2)) (fun _ _ => rfl)) pa_nil))))))) (pss_one (ps_ret (pv 4)))))), ?_⟩
    refine ⟨_, rfl, _, rfl, _, rfl, _, _, rfl, rfl, dz, ?_⟩
    simp only [fdiv_nat]
    have g1 := DGet.k (k := Sum.inl (((a / z : Nat) : Int))) hB.d
    rw [hv] at g1
    refine ⟨d, _, rfl, g1, _, rfl, _, rfl, _, _, rfl, rfl, (by show ((z : Nat) : Int) ≠ 0; omega), ?_⟩
    simp only [fmod_nat]
    have hba : (((N.drop (a / z * z)).take z).map V.int)[a % z]? = some (.int ((n : Nat) : Int)) := by
      rw [List.getElem?_map, at_div hz, hN]
      rfl
    refine ⟨b, _, _, _, rfl, rfl, SqT.of hb, atI_nat hba, 3, _, rfl, rfl, ?_⟩
    refine ⟨Nat.zero_le _, fun lq hlq => ?_⟩
    have s1 := same_new (Same.refl H) hlq (o := .lst [])
    -- for at in range(place, place + many)
    refine ⟨_, rfl, _, rfl, _, rfl, _, _, rfl, rfl, _, _, rfl, ⟨by omega, by omega, by omega, by omega⟩, ?_⟩
    have en : (((a : Nat) : Int) + (3 + ((n : Nat) : Int)) - ((a : Nat) : Int)).toNat = n + 3 := by omega
    show (∃ W : Nat → Nat → L2.St → Hp → Prop, _ ∧ _)
    rw [en]
    refine for_range (lo := ((a : Nat) : Int)) (n := n + 3) (fun i σ H' => ∃ v5 v6 : Option V, σ = [some (.ref d), some (.int (a : Nat)), some (.int (z : Nat)), some (.int (3 + ((n : Nat) : Int))), some (.ref lq), v5, v6] ∧ H' lq = some (.lst (((N.drop a).take i).map V.int)) ∧ Same H H' ∧ covers z cs a i = true)
      ⟨none, none, rfl, upd_same, s1, rfl⟩ ?_ ?_
    · rintro i σ H' hi ⟨v5, v6, rfl, hq, s', hcv⟩
      have hB' := hB.same s'
      rw [show ((a : Nat) : Int) + ((i : Nat) : Int) = ((a + i : Nat) : Int) by omega]
      have dzi : CDivN ((a + i : Nat) : Int) ((z : Nat) : Int) := ⟨by omega, by omega⟩
      refine ⟨_, rfl, d, rfl, .inl ⟨kvs, .inl hB'.d⟩, _, rfl, _, rfl, _, _, rfl, rfl, dzi, ?_⟩
      simp only [fdiv_nat]
      have g2 := DGet.k (k := Sum.inl ((((a + i) / z : Nat) : Int))) hB'.d
      by_cases hm : (a + i) / z ∈ cs
      · obtain ⟨b', hv', hb'⟩ := hB'.has _ hm
        rw [hv'] at g2
        refine ⟨_, g2, _, rfl, rfl, false, dF (fun z => nomatch z), iteF ?_⟩
        obtain ⟨x, hx⟩ : ∃ x, N[a + i]? = some x := ⟨N[a + i]'(by omega), List.getElem?_eq_getElem (by omega)⟩
        have hbx : (((N.drop ((a + i) / z * z)).take z).map V.int)[(a + i) % z]? = some (.int x) := by
          rw [List.getElem?_map, at_div hz, hx]
          rfl
        refine ⟨_, rfl, .inl ⟨rfl, _, SqL.of hq⟩, _, rfl, _, rfl, _, rfl, _, _, rfl, rfl, (by show ((z : Nat) : Int) ≠ 0; omega), ?_⟩
        simp only [fmod_nat]
        refine ⟨b', _, _, _, rfl, rfl, SqT.of hb', atI_nat hbx, lq, _, _, rfl, rfl, hq, ?_, ?_⟩
        · rw [List.length_map, List.length_take]
          exact lt_line (by omega)
        · refine ⟨_, _, rfl, ?_, same_mut s' hlq, ?_⟩
          · rw [upd_same, List.take_add_one, List.getElem?_drop, hx, List.map_append]
            rfl
          · rw [covers_iff] at hcv ⊢
            intro k hk
            rcases Nat.lt_succ_iff_lt_or_eq.mp hk with q | q
            · exact hcv k q
            · rw [q]; exact hm
      · rw [hB'.no _ hm] at g2
        refine ⟨_, g2, _, rfl, rfl, true, dT rfl, iteT ?_⟩
        refine finF ?_ _ s'
        rw [Bool.eq_false_iff]
        intro hc
        exact hm (covers_iff.mp hc i hi)
    · rintro σ H' ⟨v5, v6, rfl, hq, s', hcv⟩
      exact ⟨_, rfl, finT hcv lq H' hq hlq s'⟩
end
end K20

namespace K20
open PySem PySem.Spec PyProof.Rows L2 Sky
section
variable {P : Program} {w : World} {K : PySem.W.Frag} {mg : Str → Option Value} {base : Heap}
/-- what is told so far: each by its number, none that isn't whole; all that begin at such places -/
structure TolAt (H : Hp) (d : Addr) (kvs : List (Key × V)) (z : Nat) (L : List (Nat × List Int)) (cs : List Nat) (Done : Nat → Prop) : Prop where
  d : H d = some (.dK kvs)
  nd : (kvs.map (·.1)).Nodup
  sound : ∀ k v, valV kvs k = some v → ∃ j : Nat, k = Sum.inl ((j : Nat) : Int) ∧ toldJ z L cs j = true ∧ TD H v (tlD (textOf L j))
  all : ∀ j a t, L[j]? = some (a, t) → toldJ z L cs j = true → Done a → (valV kvs (Sum.inl ((j : Nat) : Int))).isSome = true
theorem toldJ_lt {z : Nat} {L : List (Nat × List Int)} {cs : List Nat} {j : Nat} (h : toldJ z L cs j = true) : ∃ a t, L[j]? = some (a, t) ∧ covers z cs a (t.length + 3) = true ∧ textOf L j = t := by
  unfold toldJ at h
  cases e : L[j]? with
  | none => rw [e] at h; cases h
  | some x =>
    rw [e] at h
    refine ⟨x.1, x.2, rfl, h, ?_⟩
    unfold textOf
    rw [e]
theorem TolAt.few {H : Hp} {d : Addr} {kvs : List (Key × V)} {z : Nat} {L : List (Nat × List Int)} {cs : List Nat} {Done : Nat → Prop} (h : TolAt H d kvs z L cs Done) : kvs.length ≤ L.length := by
  have h1 := len_of_sub (l := (List.range L.length).map fun j : Nat => (Sum.inl ((j : Nat) : Int) : Key)) h.nd fun k hk => by
    have h2 := mem_keys.mp hk
    cases e : valV kvs k with
    | none => rw [e] at h2; cases h2
    | some v =>
      obtain ⟨j, rfl, hj, _⟩ := h.sound k v e
      obtain ⟨a, t, hL, _⟩ := toldJ_lt hj
      exact List.mem_map.mpr ⟨j, List.mem_range.mpr (List.getElem?_eq_some_iff.mp hL).1, rfl⟩
  rw [List.length_map, List.length_map, List.length_range] at h1
  exact h1
theorem TolAt.keep {H H' : Hp} {d : Addr} {kvs : List (Key × V)} {z : Nat} {L : List (Nat × List Int)} {cs : List Nat} {Done Done' : Nat → Prop} (h : TolAt H d kvs z L cs Done) (s : Same H H') (hD : ∀ a, Done' a → Done a) : TolAt H' d kvs z L cs Done' :=
  ⟨s _ _ h.d, h.nd, fun k v e => by obtain ⟨j, a, b, c⟩ := h.sound k v e; exact ⟨j, a, b, c.mono (TSm.of_same s)⟩, fun j a t e hj hd => h.all j a t e hj (hD a hd)⟩
def sp_told_in : Sp := fun vs H Q _ => ∃ (lf : Addr) (us : List V) (z : Nat) (st : Int) (N : List Int) (L : List (Nat × List Int)) (cs : List Nat), vs = [.ref lf, .int (z : Nat)] ∧ H lf = some (.lst us) ∧ TDs H us ((cs.map (frm z N (stOf L))).map (frmD st)) ∧ Lays z N L ∧ 0 < z ∧ z ≤ 100 ∧
  (∀ c ∈ cs, c ≤ 9999 ∧ c * z + z ≤ N.length) ∧ cs.length ≤ 1000000 ∧ N.length ≤ 1000000 ∧ L.length ≤ 65536 ∧
  ∀ d kvs H', TolAt H' d kvs z L cs (fun a => a / z ∈ cs) → H d = none → Same H H' → Q (.ref d) H'
theorem ok_told_in (T : Tx K mg) : FnOk P w K mg base CX0 2 T.a_told_in T.d_told_in ["frames", "size"] sp_told_in := by
  have nd := sc_told_in.nd
  refine T.F_told_in.ok sc_told_in (fun vs H Q E h => ?_) (fun cdv A outer s H vs Q E hr h => ?_)
  · obtain ⟨_, _, _, _, _, _, _, rfl, _⟩ := h
    rfl
  · obtain ⟨lf, us, z, st, N, L, cs, rfl, hlf, tus, hL, hz, hz1, hcs, hcl, hNl, hLl, fin⟩ := h
    have hul : us.length = cs.length := by rw [tus.length, List.length_map, List.length_map]
    have item : ∀ (i : Nat) (y : V) (H' : Hp), Same H H' → us[i]? = some y → ∃ c, cs[i]? = some c ∧ c ∈ cs ∧ TD H' y (frmD st (frm z N (stOf L) c)) := by
      intro i y H' s' hy
      obtain ⟨d, hd, td⟩ := tus.get hy
      obtain ⟨f, hf, rfl⟩ := map_get hd
      obtain ⟨c, hc, rfl⟩ := map_get hf
      exact ⟨c, hc, List.mem_of_getElem? hc, td.mono (TSm.of_same s')⟩
    refine ⟨_, (pss_cons (ps_setDc (i := 3) (own := [("frame", 2)]) rfl nd rfl rfl (sw_trueD rfl rfl rfl (by decide +kernel)) (pi_list (pv 0)) (blkOk_by (own := [("frame", 2)]) (N := N_told_in) (sc := defScope s_told_in) (by decide +kernel)) (fun _ _ _ _ _ => (pg_name (i := 2) nd rfl (Or.inl rfl))) (fun _ _ _ _ _ => pts_nil) (fun _ _ _ _ _ => (pe_ix (ix_tupK (K := K) rfl) (pv 2) pe_int (fun _ _ => rfl))) (fun _ _ _ _ _ => (pe_ix (ix_tupK (K := K) rfl) (pv 2) pe_int (fun _ _ => rfl)))) (pss_cons (ps_set (i := 4) nd rfl (Or.inl rfl) pe_dnewK) (pss_cons (ps_for PassesOwn.never rfl (pi_list (pv 0)) (pg_name (i := 2) nd rfl (Or.inl rfl)) (pss_one (ps_for PassesOwn.never rfl (pi_list (pe_call (ok_beginnings T) (hr.mono (by decide)) (by rfl) T.m_beginnings T.F_beginnings.kp T.b_beginnings .nil pass0 (pa_cons (pv 2) (pa_cons (pv 1) pa_nil)))) (pg_name (i := 5) nd rfl (Or.inl rfl)) (pss_cons (ps_set (i := 6) nd rfl (Or.inl rfl) (pe_call (ok_laid_at T) (hr.mono (by decide)) (by rfl) T.m_laid_at T.F_laid_at.kp T.b_laid_at .nil pass0 (pa_cons (pv 3) (pa_cons (pv 5) (pa_cons (pv 1) pa_nil))))) (pss_one (ps_if (pt_cmpR op_notN (pv 6) pe_non (nomark _)) (pss_one (ps_dput (hu_of hr) (pv 4) (pe_op op_add (pe_op op_mul (pe_ix ix_list (pv 6) pe_int (fun _ _ => rfl)) (pe_glob (v := .int 256) (by rfl) T.c_HUNDRED ⟨_, rfl⟩)) (pe_ix ix_list (pv 6) pe_int (fun _ _ => rfl))) (pe_tupleOf (by rfl) T.z_tuple (pe_slice sl_list (pv 6) (po_some (pe_glob (v := .int 3) (by rfl) T.c_HEAD ⟨_, rfl⟩)) po_none)) rfl)) pss_nil)))))) (pss_one (ps_ret (pv 4)))))), ?_⟩
    -- bodies
    refine ⟨_, rfl, lf, rfl, ⟨_, SqL.of hlf⟩, fun D hD => ?_⟩
    refine dc_list (K := K) (l := lf) (ys := us) (fun i H' => Same H H' ∧ ∃ kvs : List (Key × V), H' D = some (.dK kvs) ∧ kvs.length ≤ i ∧ (∀ c ∈ cs.take i, ∃ b, valV kvs (Sum.inl ((c : Nat) : Int)) = some (.ref b) ∧ H b = some (.tup (((N.drop (c * z)).take z).map V.int))) ∧
      ∀ c : Nat, c ∉ cs.take i → valV kvs (Sum.inl ((c : Nat) : Int)) = none) ⟨same_new (Same.refl _) hD, [], upd_same, Nat.le_refl _, by simp, fun c _ => rfl⟩ (fun i H' _ p => SqL.of (p.1 _ _ hlf)) ?_ ?_
    · rintro i y H' hy ⟨s', kvs, hd', hk, has, no⟩
      obtain ⟨c, hc, hm, tf⟩ := item i y H (Same.refl _) hy
      obtain ⟨a, b, rfl, ha, hb⟩ := td_frm tf
      have hil : i < cs.length := (List.getElem?_eq_some_iff.mp hc).1
      refine ⟨rfl, _, rfl, a, _, 1, .int ((c : Nat) : Int), rfl, rfl, SqT.of (s' _ _ ha), atI_nat (j := 1) rfl, _, rfl, a, _, 3, .ref b, rfl, rfl, SqT.of (s' _ _ ha), atI_nat (j := 3) rfl, kvs, Sum.inl ((c : Nat) : Int), rfl, hd', lt_line (by omega), same_mut s' hD, _, upd_same, ?_, ?_, ?_⟩
      · have := length_putK kvs (Sum.inl ((c : Nat) : Int) : Key) (.ref b)
        omega
      · intro c' hc'
        rw [List.take_add_one, hc] at hc'
        rw [valV_put]
        by_cases e : c' = c
        · subst e
          exact ⟨b, by rw [if_pos rfl], hb⟩
        · rw [if_neg (fun q => e (by injection q with q; exact Int.ofNat.inj q))]
          rcases List.mem_append.mp hc' with q | q
          · exact has c' q
          · exact absurd (List.mem_singleton.mp q) e
      · intro c' hc'
        rw [List.take_add_one, hc] at hc'
        have e : c' ≠ c := fun e => hc' (List.mem_append_right _ (by rw [e]; exact List.mem_singleton.mpr rfl))
        rw [valV_put, if_neg (fun q => e (by injection q with q; exact Int.ofNat.inj q))]
        exact no c' fun q => hc' (List.mem_append_left _ q)
    rintro H1 ⟨s1, bkv, hd1, _, has, no⟩
    rw [List.take_of_length_le (by omega)] at has no
    have hB : BodAt H1 D bkv z N cs := ⟨hd1, fun c hc => by obtain ⟨b, e, hb⟩ := has c hc; exact ⟨b, e, s1 _ _ hb⟩, no⟩
    -- told = {}
    intro d hd
    have hlf1 := s1 _ _ hlf
    have nd0 : H d = none := s1.free hd
    have hB2 := hB.same (same_new (Same.refl H1) hd (o := .dK []))
    refine ⟨_, rfl, lf, rfl, ⟨_, SqL.of (same_new (Same.refl H1) hd _ _ hlf1)⟩, ?_⟩
    refine for_list (K := K) (a := lf) (xs := us) (fun i σ H' => ∃ (v2 v5 v6 : Option V) (kvs : List (Key × V)), σ = [some (.ref lf), some (.int (z : Nat)), v2, some (.ref D), some (.ref d), v5, v6] ∧ Same H1 H' ∧ TolAt H' d kvs z L cs (fun a => a / z ∈ cs.take i)) ?_ (fun i σ H' _ ⟨_, _, _, _, _, s', _⟩ => SqL.of (s' _ _ hlf1)) ?_ ?_
    · exact ⟨none, none, none, [], rfl, same_new (Same.refl _) hd, upd_same, by simp, (fun k v e => by cases e), (fun j a t _ _ h => by simp at h)⟩
    · rintro i y σ H' hy ⟨v2, v5, v6, kvs, rfl, s', hT⟩
      obtain ⟨c, hc, hm, tf⟩ := item i y H' (s1.trans s') hy
      obtain ⟨hc9, hcN⟩ := hcs c hm
      -- for place in beginnings(frame, size)
      refine ⟨_, rfl, _, rfl, y, z, c, st, N, L, rfl, tf, hL, hz, hz1, hc9, hcN, by omega, fun r H2 hr nr s2 => ?_⟩
      have hT2 := hT.keep s2 fun a h => h
      have ndr : d ≠ r := ne_of_none hT.d nr
      refine ⟨r, rfl, ⟨_, SqL.of hr⟩, ?_⟩
      refine for_list (K := K) (a := r) (xs := (((stOf L).filter (inFr z c)).map fun n : Nat => (n : Int)).map V.int) (fun k σ H' => ∃ (v5 v6 : Option V) (kvs : List (Key × V)), σ = [some (.ref lf), some (.int (z : Nat)), some y, some (.ref D), some (.ref d), v5, v6] ∧ Same H1 H' ∧
        H' r = some (.lst ((((stOf L).filter (inFr z c)).map fun n : Nat => (n : Int)).map V.int)) ∧ TolAt H' d kvs z L cs (fun a => a / z ∈ cs.take i ∨ a ∈ ((stOf L).filter (inFr z c)).take k)) ?_ (fun k σ H' _ ⟨_, _, _, _, _, h, _⟩ => SqL.of h) ?_ ?_
      · exact ⟨v5, v6, kvs, rfl, s'.trans s2, hr, hT2.keep (Same.refl _) fun a h => h.elim id fun q => by simp at q⟩
      · rintro k x σ H3 hx ⟨v5, v6, kvs, rfl, s3, hr3, hT3⟩
        obtain ⟨x1, hx1, rfl⟩ := map_get hx
        obtain ⟨p, hp, rfl⟩ := map_get hx1
        have hpm := List.mem_filter.mp (List.mem_of_getElem? hp)
        have hpin := hpm.2
        unfold inFr at hpin
        simp at hpin
        have hpc : p / z = c := div_eq hpin.1 hpin.2
        obtain ⟨j, hj1, hj2⟩ := List.getElem_of_mem hpm.1
        rw [List.length_map] at hj1
        obtain ⟨t, hLj⟩ : ∃ t, L[j]? = some (p, t) := by
          refine ⟨L[j].2, ?_⟩
          rw [List.getElem?_eq_getElem hj1]
          rw [List.getElem_map] at hj2
          rw [← hj2]
        obtain ⟨g1, g2, g3⟩ := hL.item j p t hLj
        have hNp := hL.at hLj
        have hTx : textOf L j = t := by unfold textOf; rw [hLj]
        have hTj : toldJ z L cs j = covers z cs p (t.length + 3) := by unfold toldJ; rw [hLj]
        -- laid = laid_at(bodies, place, size)
        have hB3 := hB.same s3
        have htl := g3.2.1
        refine ⟨_, rfl, _, rfl, _, rfl, D, bkv, z, p, t.length, N, cs, rfl, hB3, hz, hz1, by rw [hpc]; exact hm, hNp, g1, hNl, by omega, fun hcv q H4 hq nq s4 => ?_, fun hcv H4 s4 => ?_⟩
        · refine ⟨_, rfl, rfl, _, rfl, iteT ?_⟩
          rw [g2] at hq
          -- told[..] = tuple(laid[3:])
          have hj16 : j < 65536 := by omega
          refine ⟨_, rfl, 3, rfl, q, _, rfl, SqL.of hq, fun e he => .inl ⟨e, _, rfl, SqL.of upd_same, fun f hf => ?_⟩⟩
          have ecut : cutV ((laidN ((j : Nat) : Int) t).map V.int) (some 3) none = t.map V.int := by
            have e1 := cut_nat (xs := (laidN ((j : Nat) : Int) t).map V.int) (a := 3) (b := ((laidN ((j : Nat) : Int) t).map V.int).length) (by rw [List.length_map, laidN_length]; omega) (Nat.le_refl _)
            unfold cutV at e1 ⊢
            rw [HT.sIx_none]
            rw [HT.sIx_nat, Nat.min_eq_left (Nat.le_refl _)] at e1
            rw [show (some (3 : Int)) = some ((3 : Nat) : Int) from rfl, e1]
            unfold laidN
            simp
            exact List.take_of_length_le (by rw [List.length_map]; exact Nat.le_refl _)
          rw [ecut] at hf ⊢
          have nef : e ≠ f := ne_of_none upd_same hf
          have s5 := same_new (same_new (Same.refl H4) he) hf (o := .tup (t.map V.int))
          have hq5 := s5 _ _ hq
          have hf5 : upd (upd H4 e (.lst (t.map V.int))) f (.tup (t.map V.int)) f = some (.tup (t.map V.int)) := upd_same
          have hT5 := hT3.keep (s4.trans s5) fun a h => h
          have s15 := (s3.trans s4).trans s5
          have hr5 := s5 _ _ (s4 _ _ hr3)
          generalize upd (upd H4 e (.lst (t.map V.int))) f (.tup (t.map V.int)) = H5 at *
          refine ⟨_, rfl, _, rfl, q, _, 1, .int (((j : Nat) : Int).fdiv 256), rfl, rfl, SqL.of hq5, atI_nat (j := 1) rfl, _, 256, rfl, rfl, .inr (by decide), _, rfl, q, _, 2, .int (((j : Nat) : Int).fmod 256), rfl, rfl, SqL.of hq5, atI_nat (j := 2) rfl, _, _, rfl, rfl, ?_⟩
          have ekey : ((j : Nat) : Int).fdiv 256 * 256 + ((j : Nat) : Int).fmod 256 = ((j : Nat) : Int) := by
            rw [Int.fdiv_eq_ediv_of_nonneg _ (by omega), Int.fmod_eq_emod_of_nonneg _ (by omega)]
            omega
          have fw := hT5.few
          have hput : DPut H5 d (.int (((j : Nat) : Int).fdiv 256 * 256 + ((j : Nat) : Int).fmod 256)) (.ref f) (upd H5 d (.dK (putK kvs (Sum.inl ((j : Nat) : Int)) (.ref f)))) := by
            rw [ekey]
            exact .inl ⟨kvs, Sum.inl ((j : Nat) : Int), hT5.d, rfl, lt_line (by omega), rfl⟩
          refine ⟨d, _, rfl, hput, ?_⟩
          have t6 : TSm H5 (upd H5 d (.dK (putK kvs (Sum.inl ((j : Nat) : Int)) (.ref f)))) := ts_upd (TSm.refl _) (NoT.dK hT5.d)
          refine ⟨_, _, _, rfl, same_mut s15 hd, by rw [upd_ne ndr.symm]; exact hr5, upd_same, keys_put hT5.nd, fun k' v' ev => ?_, fun j' a' t' eL hj' hD' => ?_⟩
          · rw [valV_put] at ev
            split at ev
            · next ek =>
              cases ev
              exact ⟨j, ek, by rw [hTj]; exact hcv, by rw [hTx]; exact TD.tl (t6 _ _ hf5)⟩
            · obtain ⟨j', a, b, c'⟩ := hT5.sound k' v' ev
              exact ⟨j', a, b, c'.mono t6⟩
          · rw [valV_put]
            by_cases ej : j' = j
            · subst ej
              rw [if_pos rfl]
              rfl
            · rw [if_neg (fun q => ej (by injection q with q; exact Int.ofNat.inj q))]
              refine hT5.all j' a' t' eL hj' ?_
              rcases hD' with q | q
              · exact .inl q
              · rw [List.take_add_one, hp] at q
                rcases List.mem_append.mp q with q | q
                · exact .inr q
                · exfalso
                  rw [List.mem_singleton.mp q] at eL
                  exact ej (hL.one eL hLj)
        · refine ⟨_, rfl, rfl, _, rfl, iteF ?_⟩
          refine ⟨_, _, kvs, rfl, s3.trans s4, s4 _ _ hr3, (hT3.d |> s4 _ _), hT3.nd, (hT3.keep s4 fun a h => h).sound, fun j' a' t' eL hj' hD' => ?_⟩
          refine hT3.all j' a' t' eL hj' ?_
          rcases hD' with q | q
          · exact .inl q
          · rw [List.take_add_one, hp] at q
            rcases List.mem_append.mp q with q | q
            · exact .inr q
            · exfalso
              rw [List.mem_singleton.mp q] at eL
              have := hL.one eL hLj
              subst this
              rw [hTj, hcv] at hj'
              cases hj'
      · rintro σ H3 ⟨v5, v6, kvs, rfl, s3, hr3, hT3⟩
        refine ⟨_, _, _, kvs, rfl, s3, hT3.d, hT3.nd, hT3.sound, fun j a t eL hj hD => hT3.all j a t eL hj ?_⟩
        rw [List.take_add_one, hc] at hD
        rcases List.mem_append.mp hD with q | q
        · exact .inl q
        · right
          have ec : a / z = c := List.mem_singleton.mp q
          rw [List.take_of_length_le (by rw [List.length_map, List.length_map]; exact Nat.le_refl _)]
          refine List.mem_filter.mpr ⟨List.mem_map.mpr ⟨(a, t), List.mem_of_getElem? eL, rfl⟩, ?_⟩
          have h1 := div_lo z a
          have h2 := div_hi hz a
          rw [ec] at h1 h2
          unfold inFr
          simp
          omega
    · rintro σ H' ⟨v2, v5, v6, kvs, rfl, s', hT⟩
      rw [List.take_of_length_le (by omega)] at hT
      exact ⟨_, rfl, fin d kvs H' hT nd0 (s1.trans s')⟩
/-! ### rows_of -/
def sp_rows_of : Sp := fun vs H Q _ => ∃ (lf : Addr) (us : List V) (z : Nat) (st : Int) (N : List Int) (L : List (Nat × List Int)) (cs : List Nat), vs = [.ref lf, .int (z : Nat)] ∧ H lf = some (.lst us) ∧ TDs H us ((cs.map (frm z N (stOf L))).map (frmD st)) ∧ Lays z N L ∧ 8 ≤ z ∧ z ≤ 24 ∧
  0 ≤ st ∧ st ≤ 3 ∧ (∀ c ∈ cs, c ≤ 9999 ∧ c * z + z ≤ N.length) ∧ cs.length ≤ 1000000 ∧ N.length ≤ 1000000 ∧ L.length ≤ 65536 ∧
  ∀ r xs H', H' r = some (.lst xs) → TDs H' xs (rowsD L 0 (toldL z L cs)) → H r = none → Same H H' → Q (.ref r) H'
theorem frm_ok {z c : Nat} {st : Int} {N : List Int} {L : List (Nat × List Int)} (h : Lays z N L) (s0 : 0 ≤ st) (s3 : st ≤ 3) (c9 : c ≤ 9999) (hc : c * z + z ≤ N.length) : FOk z st (frm z N (stOf L) c) :=
  ⟨s0, s3, c9, fun x hx => by obtain ⟨_, _, _, h⟩ := first_at hx; exact h, by unfold frm; rw [List.length_take, List.length_drop]; omega, fun b hb => h.nums b (List.mem_of_mem_drop (List.mem_of_mem_take hb))⟩
theorem toldL_rise (z : Nat) (L : List (Nat × List Int)) (cs : List Nat) : (toldL z L cs).Pairwise (· < ·) := by
  unfold toldL
  exact List.Pairwise.filter _ List.pairwise_lt_range
theorem mem_toldL {z : Nat} {L : List (Nat × List Int)} {cs : List Nat} {j : Nat} : j ∈ toldL z L cs ↔ toldJ z L cs j = true := by
  unfold toldL
  rw [List.mem_filter, List.mem_range]
  refine ⟨fun h => h.2, fun h => ⟨?_, h⟩⟩
  obtain ⟨a, t, hL, _⟩ := toldJ_lt h
  exact (List.getElem?_eq_some_iff.mp hL).1
theorem td_gap {H : Hp} {a : Addr} {lo hi : Nat} (h : H a = some (.tup [.str "gap", .int (lo : Nat), .int (hi : Nat)])) : TD H (.ref a) (gapD lo hi) := .tup h (.cons (.str _) (.cons (.int _) (.cons (.int _) .nil)))
theorem rows_len (L : List (Nat × List Int)) : ∀ (js : List Nat) (lo : Nat), (rowsD L lo js).length ≤ 2 * js.length
  | [], _ => Nat.le_refl _
  | j :: r, lo => by
    have ih := rows_len L r (j + 1)
    show ((if lo < j then [gapD lo (j - 1)] else []) ++ (toldD j (textOf L j) :: rowsD L (j + 1) r)).length ≤ _
    rw [List.length_append, List.length_cons, List.length_cons]
    split
    · rw [List.length_singleton]; omega
    · rw [List.length_nil]; omega
theorem ok_rows_of (T : Tx K mg) : FnOk P w K mg base CX0 6 T.a_rows_of T.d_rows_of ["frames", "size"] sp_rows_of := by
  have nd := sc_rows_of.nd
  refine T.F_rows_of.ok sc_rows_of (fun vs H Q E h => ?_) (fun cdv A outer s H vs Q E hr h => ?_)
  · obtain ⟨_, _, _, _, _, _, _, rfl, _⟩ := h
    rfl
  · obtain ⟨lf, us, z, st, N, L, cs, rfl, hlf, tus, hL, h8, h24, s0, s3, hcs, hcl, hNl, hLl, fin⟩ := h
    refine ⟨_, (pss_cons (ps_expr (pe_call (ok_check_size T) (hr.mono (by decide)) (by rfl) T.m_check_size T.F_check_size.kp T.b_check_size .nil pass0 (pa_cons (pv 1) pa_nil))) (pss_cons (ps_expr (pe_call (ok_check_frames T) (hr.mono (by decide)) (by rfl) T.m_check_frames T.F_check_frames.kp T.b_check_frames .nil pass0 (pa_cons (pv 0) (pa_cons (pv 1) pa_nil)))) (pss_cons (ps_set (i := 2) nd rfl (Or.inl rfl) (pe_call (ok_told_in T) (hr.mono (by decide)) (by rfl) T.m_told_in T.F_told_in.kp T.b_told_in .nil pass0 (pa_cons (pv 0) (pa_cons (pv 1) pa_nil)))) (pss_cons (ps_set (i := 3) nd rfl (Or.inl rfl) (pe_lst pa_nil)) (pss_cons (ps_set (i := 4) nd rfl (Or.inl rfl) pe_int) (pss_cons (ps_for PassesOwn.never rfl (pi_list (pe_callB (call_sortedDk rfl) (by rfl) T.z_sorted (by decide +kernel) (pa_cons (pv 2) pa_nil))) (pg_name (i := 5) nd rfl (Or.inl rfl)) (pss_cons (ps_if (pt_cmpR op_gt (pv 5) (pv 4) (nomark _)) (pss_one (ps_expr (pe_bm PySem.F.plainAttrs_list PySem.F.slot_list_append PySem.F.type_list_append mt_append (pv 3) (pa_cons (pe_tup (pa_cons pe_str (pa_cons (pv 4) (pa_cons (pe_op op_sub (pv 5) pe_int) pa_nil)))) pa_nil)))) pss_nil) (pss_cons (ps_expr (pe_bm PySem.F.plainAttrs_list PySem.F.slot_list_append PySem.F.type_list_append mt_append (pv 3) (pa_cons (pe_tup (pa_cons pe_str (pa_cons (pv 5) (pa_cons (pe_dget (hu_of hr) (pv 2) (pv 5) (fun _ _ => rfl)) pa_nil)))) pa_nil))) (pss_one (ps_set (i := 4) nd rfl (Or.inl rfl) (pe_op op_add (pv 5) pe_int)))))) (pss_one (ps_ret (pv 3))))))))), ?_⟩
    refine ⟨_, rfl, z, rfl, by omega, by omega, ?_⟩
    refine ⟨_, rfl, _, rfl, lf, us, z, st, _, rfl, hlf, tus, ?_, ?_, by omega, by rw [List.length_map]; exact hcl, fun H1 s1 => ?_⟩
    · intro f hf
      obtain ⟨c, hc, rfl⟩ := List.mem_map.mp hf
      exact frm_ok hL s0 s3 (hcs c hc).1 (hcs c hc).2
    · intro f hf g hg e
      obtain ⟨c, hc, rfl⟩ := List.mem_map.mp hf
      obtain ⟨c', hc', rfl⟩ := List.mem_map.mp hg
      have e' : c = c' := e
      rw [e']
    refine ⟨_, rfl, _, rfl, lf, us, z, st, N, L, cs, rfl, s1 _ _ hlf, tus.mono (TSm.of_same s1), hL, by omega, by omega, hcs, hcl, hNl, hLl, fun d kvs H2 hT ndd s2 => ?_⟩
    -- rows = [], low = 0
    refine ⟨Nat.zero_le _, fun lr hlr => ?_⟩
    have s3' := same_new (Same.refl H2) hlr (o := .lst [])
    have sH : Same H H2 := s1.trans s2
    have nlr : H lr = none := sH.free hlr
    -- the keys
    obtain ⟨ks, hks⟩ := keys_ints' (kvs := kvs) fun k hk => by
      have h2 := mem_keys.mp hk
      cases e : valV kvs k with
      | none => rw [e] at h2; cases h2
      | some v =>
        obtain ⟨j, rfl, _⟩ := hT.sound k v e
        exact ⟨_, rfl⟩
    refine ⟨_, rfl, d, kvs, ks, rfl, s3' _ _ hT.d, hks, fun ys p hp hs hpn => ?_⟩
    have hndk : ks.Nodup := by
      have := hT.nd
      rw [hks] at this
      exact List.Pairwise.of_map Sum.inl (fun a b h e => h (by rw [e])) this
    have hys : ys = (toldL z L cs).map fun j : Nat => (j : Int) := by
      refine rising_same (rising_of hp hs hndk) (List.Pairwise.map _ (fun a b h => Int.ofNat_lt.mpr h) (toldL_rise z L cs)) fun x => ?_
      rw [hp.mem_iff]
      have h1 : x ∈ ks ↔ (valV kvs (Sum.inl x)).isSome = true := by
        rw [← mem_keys, hks]
        exact ⟨fun h => List.mem_map.mpr ⟨x, h, rfl⟩, fun h => by obtain ⟨y, hy, e⟩ := List.mem_map.mp h; cases e; exact hy⟩
      rw [h1]
      constructor
      · intro h
        cases e : valV kvs (Sum.inl x) with
        | none => rw [e] at h; cases h
        | some v =>
          obtain ⟨j, ej, hj, _⟩ := hT.sound _ v e
          injection ej with ej
          exact List.mem_map.mpr ⟨j, mem_toldL.mpr hj, ej.symm⟩
      · intro h
        obtain ⟨j, hj, rfl⟩ := List.mem_map.mp h
        have hj' := mem_toldL.mp hj
        obtain ⟨a, t, hLj, hcv, _⟩ := toldJ_lt hj'
        refine hT.all j a t hLj hj' ?_
        have := covers_iff.mp hcv 0 (by omega)
        rw [Nat.add_zero] at this
        exact this
    subst hys
    have s4 : Same H2 (upd (upd H2 lr (.lst [])) p (.lst (((toldL z L cs).map fun j : Nat => (j : Int)).map V.int))) := same_new s3' hpn
    have hp4 : upd (upd H2 lr (.lst [])) p (.lst (((toldL z L cs).map fun j : Nat => (j : Int)).map V.int)) p = some (.lst (((toldL z L cs).map fun j : Nat => (j : Int)).map V.int)) := upd_same
    have npl : lr ≠ p := ne_of_none upd_same hpn
    have hlr4 : upd (upd H2 lr (.lst [])) p (.lst (((toldL z L cs).map fun j : Nat => (j : Int)).map V.int)) lr = some (.lst []) := by rw [upd_ne npl]; exact upd_same
    have hT4 := hT.keep s4 fun a h => h
    have sH4 : Same H (upd (upd H2 lr (.lst [])) p (.lst (((toldL z L cs).map fun j : Nat => (j : Int)).map V.int))) := sH.trans s4
    generalize upd (upd H2 lr (.lst [])) p (.lst (((toldL z L cs).map fun j : Nat => (j : Int)).map V.int)) = H4 at *
    refine ⟨p, rfl, ⟨_, SqL.of hp4⟩, ?_⟩
    have hjl : (toldL z L cs).length ≤ L.length := by
      unfold toldL
      have := List.length_filter_le (toldJ z L cs) (List.range L.length)
      rw [List.length_range] at this
      exact this
    have ndl : d ≠ lr := ne_of hT4.d hlr4 (by intro e; cases e)
    have npl4 : p ≠ lr := npl.symm
    refine for_list (K := K) (a := p) (xs := ((toldL z L cs).map fun j : Nat => (j : Int)).map V.int) (fun i σ H' => ∃ (v5 : Option V) (lo : Nat) (xs : List V), σ = [some (.ref lf), some (.int (z : Nat)), some (.ref d), some (.ref lr), some (.int (lo : Nat)), v5] ∧ lo = ((toldL z L cs).take i).foldl (fun _ x => x + 1) 0 ∧
      H' lr = some (.lst xs) ∧ TDs H' xs (rowsD L 0 ((toldL z L cs).take i)) ∧ Keep [lr] H4 H') ⟨none, 0, [], rfl, rfl, hlr4, .nil, Keep.refl _ _⟩ (fun i σ H' _ ⟨_, _, _, _, _, _, _, k⟩ => SqL.of (k _ _ (by simp [npl4]) hp4)) ?_ ?_
    · rintro i y σ H' hy ⟨v5, lo, xs, rfl, hlo, hx, tx, k⟩
      obtain ⟨x1, hx1, rfl⟩ := map_get hy
      obtain ⟨j, hj, rfl⟩ := map_get hx1
      have hjt := mem_toldL.mp (List.mem_of_getElem? hj)
      have hd' := k _ _ (by simp [ndl]) hT4.d
      have xl : xs.length ≤ 2 * L.length := by
        rw [tx.length]
        have h1 := rows_len L ((toldL z L cs).take i) 0
        rw [List.length_take] at h1
        omega
      obtain ⟨a, t, hLj, _, hTx⟩ := toldJ_lt hjt
      obtain ⟨v, hv⟩ : ∃ v, valV kvs (Sum.inl ((j : Nat) : Int)) = some v := by
        have := hT4.all j a t hLj hjt (by
          have := covers_iff.mp (toldJ_lt hjt |>.choose_spec.choose_spec.2.1) 0 (by omega)
          obtain ⟨a', t', e1, e2, _⟩ := toldJ_lt hjt
          rw [hLj] at e1
          cases e1
          have := covers_iff.mp e2 0 (by omega)
          rw [Nat.add_zero] at this
          exact this)
        cases e : valV kvs (Sum.inl ((j : Nat) : Int)) with
        | none => rw [e] at this; cases this
        | some v => exact ⟨v, rfl⟩
      obtain ⟨j', ej, _, tv⟩ := hT4.sound _ v hv
      have ej' : j' = j := by injection ej with ej; exact (Int.ofNat.inj ej).symm
      subst ej'
      rw [List.take_add_one, hj]
      show tSeq _ _ _ _ _
      -- what comes behind the gap
      refine ⟨_, rfl, _, rfl, _, _, rfl, rfl, _, rfl, ?_⟩
      refine if_skip (fun H5 => ∃ xs', H5 lr = some (.lst xs') ∧ TDs H5 xs' (rowsD L 0 ((toldL z L cs).take i) ++ (if lo < j' then [gapD lo (j' - 1)] else [])) ∧ Keep [lr] H4 H5) (fun H5 ⟨xs', hx5, tx5, k5⟩ => ?_) (fun e rest => ?_) (fun e => ?_)
      case refine_2.refine_3.refine_1.refine_2 =>
        have e0 : lo < j' := by have := of_decide_eq_true e; omega
        refine ⟨_, rfl, .inl ⟨rfl, _, SqL.of hx⟩, _, rfl, _, rfl, _, 1, rfl, rfl, (by decide : (3 : Nat) ≤ sizeLine), fun b hb => ?_⟩
        have e1 : ((j' : Nat) : Int) - 1 = ((j' - 1 : Nat) : Int) := by omega
        simp only [e1]
        have nlb : lr ≠ b := ne_of_none hx hb
        refine ⟨lr, xs, _, rfl, rfl, (by rw [upd_ne nlb]; exact hx), lt_line (by omega), ?_⟩
        refine rest _ ⟨xs ++ [.ref b], upd_same, ?_, keep_upd (keep_new' k hb) (by simp)⟩
        rw [if_pos e0]
        have t5 : TSm H' (upd H' b (.tup [.str "gap", .int ((lo : Nat) : Int), .int ((j' - 1 : Nat) : Int)])) := TSm.of_same (same_new (Same.refl _) hb)
        exact ((tx.mono t5).app (.one (td_gap upd_same))).mono (ts_upd (TSm.refl _) (NoT.lst (by rw [upd_ne nlb]; exact hx)))
      case refine_2.refine_3.refine_1.refine_3 =>
        have e0 : ¬ lo < j' := fun h => e (decide_eq_true (by omega))
        rw [if_neg e0, List.append_nil]
        exact ⟨xs, hx, tx, k⟩
      have hd5 := k5 _ _ (by simp [ndl]) hT4.d
      have tv5 : TD H5 v (tlD (textOf L j')) := tv.mono (k5.ts (by intro m hm; rw [List.mem_singleton.mp hm]; exact NoT.lst hlr4))
      have g1 := DGet.k (k := Sum.inl (((j' : Nat) : Int))) hd5
      rw [hv] at g1
      have xl5 : xs'.length ≤ 2 * L.length + 1 := by
        rw [tx5.length, List.length_append]
        have h1 := rows_len L ((toldL z L cs).take i) 0
        rw [List.length_take] at h1
        split
        · rw [List.length_singleton]; omega
        · rw [List.length_nil]; omega
      refine ⟨_, rfl, .inl ⟨rfl, _, SqL.of hx5⟩, _, rfl, _, rfl, _, rfl, d, v, rfl, g1, (by decide : (3 : Nat) ≤ sizeLine), fun b hb => ?_⟩
      have nlb : lr ≠ b := ne_of_none hx5 hb
      refine ⟨lr, xs', _, rfl, rfl, (by rw [upd_ne nlb]; exact hx5), lt_line (by omega), ?_⟩
      refine ⟨_, rfl, _, 1, rfl, rfl, ?_⟩
      refine ⟨_, j' + 1, xs' ++ [.ref b], rfl, ?_, upd_same, ?_, keep_upd (keep_new' k5 hb) (by simp)⟩
      · exact (lo_snoc _ _ _).symm
      · have t5 : TSm H5 (upd H5 b (.tup [.str "told", .int ((j' : Nat) : Int), v])) := TSm.of_same (same_new (Same.refl _) hb)
        show TDs _ _ (rowsD L 0 ((toldL z L cs).take i ++ [j']))
        rw [rowsD_snoc, ← hlo]
        show TDs _ _ (rowsD L 0 ((toldL z L cs).take i) ++ ((if lo < j' then [gapD lo (j' - 1)] else []) ++ [toldD j' (textOf L j')]))
        rw [← List.append_assoc]
        exact ((tx5.mono t5).app (.one (.tup upd_same (.cons (.str _) (.cons (.int _) (.cons (tv5.mono t5) .nil)))))).mono (ts_upd (TSm.refl _) (NoT.lst (by rw [upd_ne nlb]; exact hx5)))
    · rintro σ H' ⟨v5, lo, xs, rfl, _, hx, tx, k⟩
      rw [List.take_of_length_le (by rw [List.length_map, List.length_map]; exact Nat.le_refl _)] at tx
      refine ⟨_, rfl, fin lr xs H' hx tx nlr ?_⟩
      exact k.same sH4 (by intro m hm; rw [List.mem_singleton.mp hm]; exact nlr)
end
end K20

namespace K20
open PySem PySem.Spec PyProof.Rows L2 Sky
def GF : List Str := ["_size", "_came", "_never"]
theorem GF_nd : GF.Nodup := by decide +kernel
def gf (z : Int) (lc nv : Addr) : List (Str × V) := GF.zip [.int z, .ref lc, .ref nv]
section
variable {z : Int} {lc nv : Addr}
theorem gf_size : (gf z lc nv).lookup ("_size" : Str) = some (.int z) := lookup_zip GF _ 0 _ GF_nd rfl rfl
theorem gf_came : (gf z lc nv).lookup ("_came" : Str) = some (.ref lc) := lookup_zip GF _ 1 _ GF_nd rfl rfl
theorem gf_never : (gf z lc nv).lookup ("_never" : Str) = some (.ref nv) := lookup_zip GF _ 2 _ GF_nd rfl rfl
end
/-- a ground stands: cm, what came of each stream; nev, the marks that never come -/
structure GAt (C : Addr) (H : Hp) (g dx lc nv : Addr) (ds : List Addr) (z : Nat) (cm : List (List (Key × V))) (nev : List (List Key × V)) : Prop where
  o : H g = some (.ins C dx (gf (z : Nat) lc nv))
  l : H lc = some (.lst (ds.map V.ref))
  four : ds.length = 4
  cl : cm.length = 4
  d : ∀ (i : Nat) (a : Addr) (kvs : List (Key × V)), ds[i]? = some a → cm[i]? = some kvs → H a = some (.dK kvs)
  apart : ds.Nodup
  n : H nv = some (.dT nev)
theorem GAt.same {C : Addr} {H H' : Hp} {g dx lc nv : Addr} {ds : List Addr} {z : Nat} {cm : List (List (Key × V))} {nev : List (List Key × V)} (h : GAt C H g dx lc nv ds z cm nev) (k : Same H H') : GAt C H' g dx lc nv ds z cm nev :=
  ⟨k _ _ h.o, k _ _ h.l, h.four, h.cl, fun i a kvs e1 e2 => k _ _ (h.d i a kvs e1 e2), h.apart, k _ _ h.n⟩
/-- one more came -/
theorem GAt.put {C : Addr} {H : Hp} {g dx lc nv : Addr} {ds : List Addr} {z : Nat} {cm : List (List (Key × V))} {nev : List (List Key × V)} (h : GAt C H g dx lc nv ds z cm nev) {s : Nat} {a : Addr} {kvs kvs' : List (Key × V)} (ha : ds[s]? = some a) (hk : cm[s]? = some kvs) :
    GAt C (upd H a (.dK kvs')) g dx lc nv ds z (cm.set s kvs') nev := by
  have hd := h.d s a kvs ha hk
  refine ⟨?_, ?_, h.four, by rw [List.length_set]; exact h.cl, fun i b xs e1 e2 => ?_, h.apart, ?_⟩
  · rw [upd_ne (ne_of h.o hd (by intro e; cases e))]; exact h.o
  · rw [upd_ne (ne_of h.l hd (by intro e; cases e))]; exact h.l
  · by_cases hi : i = s
    · subst hi
      have hlt := (List.getElem?_eq_some_iff.mp hk).1
      rw [List.getElem?_set_self hlt] at e2
      have e3 : b = a := Option.some.inj (e1.symm.trans ha)
      rw [e3, ← Option.some.inj e2]
      exact upd_same
    · rw [List.getElem?_set_ne (fun e => hi e.symm)] at e2
      have nba : b ≠ a := fun e => by
        subst e
        have h1 := (List.getElem?_eq_some_iff.mp e1).1
        exact hi ((List.getElem?_inj h1 h.apart).mp (e1.trans ha.symm))
      rw [upd_ne nba]
      exact h.d i b xs e1 e2
  · rw [upd_ne (ne_of h.n hd (by intro e; cases e))]; exact h.n
section
variable {P : Program} {w : World} {K : PySem.W.Frag} {mg : Str → Option Value} {base : Heap}
theorem putK_fresh {kvs : List (Key × V)} {k : Key} {v : V} (h : k ∉ kvs.map (·.1)) : putK kvs k v = kvs ++ [(k, v)] := by
  unfold putK
  rw [if_neg]
  rw [List.any_eq_true]
  rintro ⟨kv, hm, e⟩
  exact h (List.mem_map.mpr ⟨kv, hm, of_decide_eq_true e⟩)
/-! ### hear -/
def sp_hear (C : Addr) : Sp := fun vs H Q _ => ∃ (g dx lc nv a : Addr) (v : V) (ds : List Addr) (z s : Nat) (f : Frm) (cm : List (List (Key × V))) (nev : List (List Key × V)) (kvs : List (Key × V)), vs = [.ref g, v] ∧ GAt C H g dx lc nv ds z cm nev ∧
  TD H v (frmD ((s : Nat) : Int) f) ∧ FOk z ((s : Nat) : Int) f ∧ z ≤ 100 ∧ ds[s]? = some a ∧ cm[s]? = some kvs ∧ kvs.length ≤ 1000000 ∧
  ((Sum.inl ((f.1 : Nat) : Int) : Key) ∈ kvs.map (·.1) → ∀ H', Same H H' → Q (.bl false) H') ∧
  ((Sum.inl ((f.1 : Nat) : Int) : Key) ∉ kvs.map (·.1) → ∀ H', GAt C H' g dx lc nv ds z (cm.set s (kvs ++ [(Sum.inl ((f.1 : Nat) : Int), v)])) nev → Keep [a] H H' → Dom H H' → Q (.bl true) H')
theorem ok_Ground_hear (T : Tx K mg) : FnOk P w K mg base CX0 5 T.a_Ground_hear T.d_Ground_hear ["self", "frame"] (sp_hear T.A_Ground) := by
  have nd := sc_Ground_hear.nd
  refine T.F_Ground_hear.ok sc_Ground_hear (fun vs H Q E h => ?_) (fun cdv A outer s H vs Q E hr h => ?_)
  · obtain ⟨_, _, _, _, _, _, _, _, _, _, _, _, _, rfl, _⟩ := h
    rfl
  · obtain ⟨g, dx, lc, nv, a, v, ds, z, s0, f, cm, nev, kvs, rfl, hG, td, ok, hz, ha, hk, hkl, old, new⟩ := h
    refine ⟨_, (pss_cons (ps_if (pt_not (pt_val (pe_call (ok_is_frame T) (hr.mono (by decide)) (by rfl) T.m_is_frame T.F_is_frame.kp T.b_is_frame .nil pass0 (pa_cons (pv 1) (pa_cons (pe_fld (pv 0) rfl) pa_nil))))) (pss_one ps_never) pss_nil) (pss_cons (ps_par (i := 2) (j := 3) rfl nd rfl rfl (by decide) rfl rfl (pa_cons (pe_ix ix_tup (pv 1) pe_int (fun _ _ => rfl)) (pa_cons (pe_ix ix_tup (pv 1) pe_int (fun _ _ => rfl)) pa_nil)) (by rfl)) (pss_cons (ps_if (pt_cmp (pc_din (hu_of hr) (pv 3) (pe_ix ix_list (pe_fld (pv 0) rfl) (pv 2) (fun _ _ => rfl)))) (pss_one (ps_ret pe_bl)) pss_nil) (pss_cons (ps_dput (hu_of hr) (pe_ix ix_list (pe_fld (pv 0) rfl) (pv 2) (fun _ _ => rfl)) (pv 3) (pv 1) rfl) (pss_one (ps_ret pe_bl)))))), ?_⟩
    refine ⟨_, rfl, _, rfl, g, _, dx, _, _, rfl, hG.o, T.cl_Ground, T.n_Ground_size, gf_size, v, z, _, f, rfl, td, ok, hz, fun H1 s1 => ⟨true, rfl, iteF ?_⟩⟩
    have hG1 := hG.same s1
    obtain ⟨b, bb, rfl, hb, hbb⟩ := td_frm (td.mono (TSm.of_same s1))
    refine ⟨_, rfl, b, _, 0, _, rfl, rfl, SqT.of hb, atI_nat (j := 0) rfl, _, rfl, b, _, 1, _, rfl, rfl, SqT.of hb, atI_nat (j := 1) rfl, _, _, rfl, ?_⟩
    have had : (ds.map V.ref)[s0]? = some (.ref a) := by rw [List.getElem?_map, ha]; rfl
    have hd1 := hG1.d s0 a kvs ha hk
    refine ⟨_, rfl, _, rfl, g, _, dx, _, _, rfl, hG1.o, T.cl_Ground, T.n_Ground_came, gf_came, _, rfl, lc, _, _, .ref a, rfl, rfl, SqL.of hG1.l, atI_nat had, a, _, rfl, DGet.k (k := Sum.inl ((f.1 : Nat) : Int)) hd1, _, rfl, ?_⟩
    refine ite2 (fun e => ?_) (fun e => ?_)
    · exact old (mem_keys.mpr e) _ s1
    · have hnot : (Sum.inl ((f.1 : Nat) : Int) : Key) ∉ kvs.map (·.1) := fun z => e (mem_keys.mp z)
      refine ⟨_, rfl, _, rfl, g, _, dx, _, _, rfl, hG1.o, T.cl_Ground, T.n_Ground_came, gf_came, _, rfl, lc, _, _, .ref a, rfl, rfl, SqL.of hG1.l, atI_nat had, _, rfl, a, _, rfl, DPut.k (k := Sum.inl ((f.1 : Nat) : Int)) hd1 (lt_line (by omega)), ?_⟩
      rw [putK_fresh hnot]
      exact new hnot _ (hG1.put ha hk) (keep_upd (Keep.of_same s1) (by simp)) ((Dom.of_same s1).upd _ _)
/-! ### rows -/
def sp_rows (C : Addr) : Sp := fun vs H Q _ => ∃ (g dx lc nv a : Addr) (ds : List Addr) (z s : Nat) (N : List Int) (L : List (Nat × List Int)) (cs : List Nat) (cm : List (List (Key × V))) (nev : List (List Key × V)) (kvs : List (Key × V)), vs = [.ref g, .int ((s : Nat) : Int)] ∧ GAt C H g dx lc nv ds z cm nev ∧
  ds[s]? = some a ∧ cm[s]? = some kvs ∧ TDs H (kvs.map (·.2)) ((cs.map (frm z N (stOf L))).map (frmD ((s : Nat) : Int))) ∧ Lays z N L ∧ 8 ≤ z ∧ z ≤ 24 ∧ (∀ c ∈ cs, c ≤ 9999 ∧ c * z + z ≤ N.length) ∧ cs.length ≤ 1000000 ∧ N.length ≤ 1000000 ∧ L.length ≤ 65536 ∧
  ∀ r xs H', H' r = some (.lst xs) → TDs H' xs (rowsD L 0 (toldL z L cs)) → H r = none → Same H H' → Q (.ref r) H'
theorem ok_Ground_rows (T : Tx K mg) : FnOk P w K mg base CX0 7 T.a_Ground_rows T.d_Ground_rows ["self", "stream"] (sp_rows T.A_Ground) := by
  have nd := sc_Ground_rows.nd
  refine T.F_Ground_rows.ok sc_Ground_rows (fun vs H Q E h => ?_) (fun cdv A outer s H vs Q E hr h => ?_)
  · obtain ⟨_, _, _, _, _, _, _, _, _, _, _, _, _, _, rfl, _⟩ := h
    rfl
  · obtain ⟨g, dx, lc, nv, a, ds, z, s0, N, L, cs, cm, nev, kvs, rfl, hG, ha, hk, td, hL, hz8, hz24, hcs, hcl, hN, hLl, fin⟩ := h
    have hs4 : s0 < 4 := by
      have := (List.getElem?_eq_some_iff.mp ha).1
      rw [hG.four] at this
      exact this
    refine ⟨_, (pss_cons (ps_expr (pe_call (ok_check_stream T) (hr.mono (by decide)) (by rfl) T.m_check_stream T.F_check_stream.kp T.b_check_stream .nil pass0 (pa_cons (pv 1) pa_nil))) (pss_one (ps_ret (pe_call (ok_rows_of T) (hr.mono (by decide)) (by rfl) T.m_rows_of T.F_rows_of.kp T.b_rows_of .nil pass0 (pa_cons (pe_listVals rfl (by rfl) T.z_list (pe_ix ix_list (pe_fld (pv 0) rfl) (pv 1) (fun _ _ => rfl))) (pa_cons (pe_fld (pv 0) rfl) pa_nil)))))), ?_⟩
    refine ⟨_, rfl, _, rfl, (by omega), (by omega), ?_⟩
    have had : (ds.map V.ref)[s0]? = some (.ref a) := by rw [List.getElem?_map, ha]; rfl
    refine ⟨_, rfl, g, _, dx, _, _, rfl, hG.o, T.cl_Ground, T.n_Ground_came, gf_came, _, rfl, lc, _, _, .ref a, rfl, rfl, SqL.of hG.l, atI_nat had, a, kvs, rfl, hG.d s0 a kvs ha hk, fun x hx => ?_⟩
    have s1 := same_new (Same.refl H) hx (o := .lst (kvs.map (·.2)))
    have hG1 := hG.same s1
    refine ⟨_, rfl, g, _, dx, _, _, rfl, hG1.o, T.cl_Ground, T.n_Ground_size, gf_size, x, _, z, _, N, L, cs, rfl, upd_same, td.mono (TSm.of_same s1), hL, hz8, hz24, (by omega), (by omega), hcs, hcl, hN, hLl, fun r xs H' hr' tr nr s' => ?_⟩
    exact fin r xs H' hr' tr (s1.free nr) (s1.trans s')
/-! ### __init__ -/
def sp_ginit (C : Addr) : Sp := fun vs H Q _ => ∃ (g dx : Addr) (z : Nat), vs = [.ref g, .int (z : Nat)] ∧ H g = some (.ins C dx []) ∧ 8 ≤ z ∧ z ≤ 24 ∧
  ∀ lc nv ds H', GAt C H' g dx lc nv ds z (List.replicate 4 []) [] → H lc = none → H nv = none → (∀ d ∈ ds, H d = none) → Keep [g] H H' → Dom H H' → Q .non H'
theorem ok_Ground_init (T : Tx K mg) : FnOk P w K mg base CX0 3 T.a_Ground_init T.d_Ground_init ["self", "size"] (sp_ginit T.A_Ground) := by
  have nd := sc_Ground_init.nd
  refine T.F_Ground_init.ok sc_Ground_init (fun vs H Q E h => ?_) (fun cdv A outer s H vs Q E hr h => ?_)
  · obtain ⟨_, _, _, rfl, _⟩ := h
    rfl
  · obtain ⟨g, dx, z, rfl, hg, hz8, hz24, fin⟩ := h
    refine ⟨_, (pss_cons (ps_expr (pe_call (ok_check_size T) (hr.mono (by decide)) (by rfl) T.m_check_size T.F_check_size.kp T.b_check_size .nil pass0 (pa_cons (pv 1) pa_nil))) (pss_cons (ps_fld (pv 0) (pv 1) rfl) (pss_cons (ps_fld (pv 0) (pe_lc (own := [("_", 2)]) rfl nd (pi_range1 rfl T.z_range (pa_cons (pe_glob (v := .int 4) (by rfl) T.c_STREAMS ⟨_, rfl⟩) pa_nil)) (blkOk_by (own := [("_", 2)]) (N := N_Ground_init) (sc := defScope s_Ground_init) (by decide +kernel)) (fun _ _ _ _ _ => (pg_name (i := 2) nd rfl (Or.inl rfl))) (fun _ _ _ _ _ => pts_nil) (fun _ _ _ _ _ => pe_dnewK)) rfl) (pss_one (ps_fld (pv 0) pe_dnewT rfl))))), ?_⟩
    refine ⟨_, rfl, z, rfl, (by omega), (by omega), ?_⟩
    refine ⟨_, rfl, _, rfl, g, _, dx, _, rfl, hg, T.cl_Ground, T.n_Ground_size, (by decide), ?_⟩
    rw [show putF "_size" (V.int ((z : Nat) : Int)) [] = (GF.take 1).zip [.int ((z : Nat) : Int)] from rfl]
    have k1 : Keep [g] H (upd H g (.ins T.A_Ground dx ((GF.take 1).zip [.int ((z : Nat) : Int)]))) := keep_upd (Keep.refl _ _) (by simp)
    have d1 : Dom H (upd H g (.ins T.A_Ground dx ((GF.take 1).zip [.int ((z : Nat) : Int)]))) := dom_upd _ _ _
    have hg1 : upd H g (.ins T.A_Ground dx ((GF.take 1).zip [.int ((z : Nat) : Int)])) g = some (.ins T.A_Ground dx ((GF.take 1).zip [.int ((z : Nat) : Int)])) := upd_same
    generalize upd H g (.ins T.A_Ground dx ((GF.take 1).zip [.int ((z : Nat) : Int)])) = H1 at *
    -- [{} for _ in range(4)]
    refine ⟨4, rfl, by decide, by decide, fun D hD => ?_⟩
    have ngD : g ≠ D := ne_of_none hg1 hD
    refine lc_range (lo := 0) (n := 4) (fun i H' => ∃ ds : List Addr, H' D = some (.lst (ds.map V.ref)) ∧ ds.length = i ∧ ds.Nodup ∧ (∀ d ∈ ds, H' d = some (.dK []) ∧ H1 d = none ∧ d ≠ D) ∧ Same H1 H') ⟨[], upd_same, rfl, by simp, by simp, same_new (Same.refl _) hD⟩ ?_ ?_
    · rintro i H' hi ⟨ds, hds, hl, hnd, hall, s'⟩
      refine ⟨rfl, fun d hd => ?_⟩
      have nDd : D ≠ d := ne_of_none hds hd
      refine ⟨_, (by rw [upd_ne nDd]; exact hds), lt_line (by rw [List.length_map]; omega), ds ++ [d], by rw [upd_same, List.map_append]; rfl, by rw [List.length_append, hl]; rfl, ?_, fun x hx => ?_, same_mut (same_new s' hd) hD⟩
      · rw [List.nodup_append]
        refine ⟨hnd, by simp, fun x hx y hy => ?_⟩
        rw [List.mem_singleton.mp hy]
        exact ne_of_none (hall x hx).1 hd
      · rcases List.mem_append.mp hx with e | e
        · obtain ⟨h1, h2, h3⟩ := hall x e
          exact ⟨by rw [upd_ne h3, upd_ne (ne_of_none h1 hd)]; exact h1, h2, h3⟩
        · rw [List.mem_singleton.mp e]
          exact ⟨by rw [upd_ne nDd.symm]; exact upd_same, s'.free hd, nDd.symm⟩
    · rintro H2 ⟨ds, hds, hl, hnd, hall, s2⟩
      have hg2 := s2 _ _ hg1
      refine ⟨_, rfl, g, _, dx, _, rfl, hg2, T.cl_Ground, T.n_Ground_came, (Nat.lt_of_le_of_lt (zip_len _ _) (by decide)), ?_⟩
      rw [putF_take (i := 1) GF_nd rfl rfl]
      refine fun nv hnv => ?_
      have ngn : g ≠ nv := ne_of_none upd_same hnv
      have hnv2 : H2 nv = none := by rw [upd_ne ngn.symm] at hnv; exact hnv
      refine ⟨_, rfl, g, _, dx, _, rfl, (by rw [upd_ne ngn]; exact upd_same), T.cl_Ground, T.n_Ground_never, (Nat.lt_of_le_of_lt (zip_len _ _) (by decide)), ?_⟩
      rw [putF_take (i := 2) GF_nd rfl rfl]
      have hnv1 : H1 nv = none := s2.free hnv2
      refine fin D nv ds _ ⟨upd_same, ?_, hl, rfl, fun i a kvs e1 e2 => ?_, hnd, ?_⟩ (d1 _ hD) (d1 _ hnv1) (fun d hd => d1 _ (hall d hd).2.1) ?_ ?_
      · rw [upd_ne ngD.symm, upd_ne (ne_of_none hds hnv2), upd_ne ngD.symm]
        exact hds
      · have h1 := (hall a (List.mem_of_getElem? e1)).1
        have nga : a ≠ g := ne_of h1 hg2 (by intro e; cases e)
        rw [upd_ne nga, upd_ne (ne_of_none h1 hnv2), upd_ne nga, h1]
        have hi4 : i < 4 := by
          have := (List.getElem?_eq_some_iff.mp e2).1
          rw [List.length_replicate] at this
          exact this
        rw [List.getElem?_replicate, if_pos hi4] at e2
        rw [← Option.some.inj e2]
      · rw [upd_ne ngn.symm]
        exact upd_same
      · exact keep_upd (keep_new' (keep_upd (k1.trans (Keep.of_same s2)) (by simp)) hnv) (by simp)
      · exact ((((d1.trans (Dom.of_same s2)).upd _ _).upd _ _).upd _ _)
/-! ### has -/
/-- a loop of a comprehension's clause over a range, whatever stands in it -/
theorem loop_range {lo : Int} {n : Nat} {H0 : Hp} {Qd : Hp → Prop} {Bd : V → Hp → (Hp → Prop) → Prop} (Pv : Nat → Hp → Prop) (h0 : Pv 0 H0) (hs : ∀ i H, i < n → Pv i H → Bd (.int (lo + i)) H (Pv (i + 1))) (hd : ∀ H, Pv n H → Qd H) :
    ∃ W : Nat → Nat → Hp → Prop, (∃ m, W 0 m H0) ∧ ∀ i m H, W i m H →
      ((Itr lo n).stop i H ∧ Qd H) ∨ ((Itr lo n).go i H ∧ ∃ Nx : Hp → Prop, (∀ H', Nx H' → ∃ m', m' < m ∧ W (i + 1) m' H') ∧ ∀ x H', (Itr lo n).yld i H x H' → Bd x H' Nx) := by
  refine ⟨fun k left G => left + k = n ∧ Pv k G, ⟨n, rfl, h0⟩, ?_⟩
  intro k left G ⟨sum, holds⟩
  cases left with
  | zero =>
    have all : k = n := by omega
    exact Or.inl ⟨by rw [all]; exact Nat.le_refl n, hd G (by rw [← all]; exact holds)⟩
  | succ left =>
    have less : k < n := by omega
    refine Or.inr ⟨less, Pv (k + 1), ?_, ?_⟩
    · intro G' holds'
      exact ⟨left, by omega, by omega, holds'⟩
    · rintro _ _ ⟨rfl, rfl⟩
      exact hs k _ less holds
theorem loop_list {a : Addr} {xs : List V} {H0 : Hp} {Qd : Hp → Prop} {Bd : V → Hp → (Hp → Prop) → Prop} (Pv : Nat → Hp → Prop) (h0 : Pv 0 H0) (hl : ∀ i H, i ≤ xs.length → Pv i H → SqL K H a xs) (hs : ∀ i x H, xs[i]? = some x → Pv i H → Bd x H (Pv (i + 1))) (hd : ∀ H, Pv xs.length H → Qd H) :
    ∃ W : Nat → Nat → Hp → Prop, (∃ m, W 0 m H0) ∧ ∀ i m H, W i m H →
      ((Itl K a).stop i H ∧ Qd H) ∨ ((Itl K a).go i H ∧ ∃ Nx : Hp → Prop, (∀ H', Nx H' → ∃ m', m' < m ∧ W (i + 1) m' H') ∧ ∀ x H', (Itl K a).yld i H x H' → Bd x H' Nx) := by
  refine ⟨fun k left G => left + k = xs.length ∧ Pv k G, ⟨xs.length, rfl, h0⟩, ?_⟩
  intro k left G ⟨sum, holds⟩
  have list := hl k G (by omega) holds
  cases left with
  | zero =>
    have all : k = xs.length := by omega
    exact Or.inl ⟨⟨xs, list, by rw [all]; exact Nat.le_refl _⟩, hd G (by rw [← all]; exact holds)⟩
  | succ left =>
    have less : k < xs.length := by omega
    refine Or.inr ⟨⟨xs, xs[k], list, List.getElem?_eq_getElem less⟩, Pv (k + 1), ?_, ?_⟩
    · intro G' holds'
      exact ⟨left, by omega, by omega, holds'⟩
    · rintro x _ ⟨rfl, item⟩
      exact hs k x _ (item xs list) holds
def sp_has (C : Addr) : Sp := fun vs H Q _ => ∃ (g dx lc nv : Addr) (ds : List Addr) (z : Nat) (cm : List (List (Key × V))) (nev : List (List Key × V)) (css ss : Nat → List Nat), vs = [.ref g] ∧ GAt C H g dx lc nv ds z cm nev ∧
  (∀ i kvs, cm[i]? = some kvs → kvs.map (·.1) = ((css i).map fun c : Nat => (c : Int)).map Sum.inl) ∧ (∀ i, (css i).Nodup ∧ (ss i).Pairwise (· < ·) ∧ (∀ c, c ∈ ss i ↔ c ∈ css i) ∧ (ss i).length ≤ 100000) ∧
  ∀ r xs H', H' r = some (.lst xs) → TDs H' xs ((List.range 4).flatMap fun i => (ss i).map (mkD i)) → H r = none → Same H H' → Q (.ref r) H'
theorem ok_Ground_has (T : Tx K mg) : FnOk P w K mg base CX0 1 T.a_Ground_has T.d_Ground_has ["self"] (sp_has T.A_Ground) := by
  have nd := sc_Ground_has.nd
  refine T.F_Ground_has.ok sc_Ground_has (fun vs H Q E h => ?_) (fun cdv A outer s H vs Q E hr h => ?_)
  · obtain ⟨_, _, _, _, _, _, _, _, _, _, rfl, _⟩ := h
    rfl
  · obtain ⟨g, dx, lc, nv, ds, z, cm, nev, css, ss, rfl, hG, hks, hss, fin⟩ := h
    refine ⟨_, (pss_one (ps_ret (pe_lc2 (own := [("stream", 1), ("count", 2)]) (vs1 := [2]) rfl nd (pi_range1 rfl T.z_range (pa_cons (pe_glob (v := .int 4) (by rfl) T.c_STREAMS ⟨_, rfl⟩) pa_nil)) (blkOk_by (own := [("stream", 1), ("count", 2)]) (N := N_Ground_has) (sc := defScope s_Ground_has) (by decide +kernel)) (by decide) (fun _ _ _ _ _ => (pg_name (i := 1) nd rfl (Or.inl rfl))) (fun _ _ _ _ _ => pts_nil) (fun _ _ _ _ _ => (pi_listK (K := K) rfl (pe_callB (call_sortedDk rfl) (by rfl) T.z_sorted (by decide +kernel) (pa_cons (pe_ix (ix_listK (K := K) rfl) (pe_fldK (K := K) rfl (pv 0) rfl) (pv 1) (fun _ _ => rfl)) pa_nil)))) (fun _ _ _ _ _ => (pg_name (i := 2) nd rfl (Or.inl rfl))) (fun _ _ _ _ _ => pts_nil) (fun _ _ _ _ _ => (pe_tup (pa_cons (pv 1) (pa_cons (pv 2) pa_nil))))))), ?_⟩
    have small : ∀ i, i ≤ 4 → ((List.range i).flatMap fun i => (ss i).map (mkD i)).length ≤ i * 100000 := by
      intro i hi
      induction i with
      | zero => simp
      | succ n ih =>
        rw [List.range_succ, List.flatMap_append, List.length_append]
        have h1 := ih (by omega)
        have h2 := (hss n).2.2.2
        have e : ([n].flatMap fun i => (ss i).map (mkD i)).length = (ss n).length := by simp
        rw [e]
        omega
    refine ⟨4, rfl, by decide, by decide, fun D hD => ?_⟩
    refine loop_range (lo := 0) (n := 4) (fun i H' => ∃ xs, H' D = some (.lst xs) ∧ TDs H' xs ((List.range i).flatMap fun i => (ss i).map (mkD i)) ∧ Same H H') ⟨[], upd_same, .nil, same_new (Same.refl _) hD⟩ ?_ ?_
    · rintro i H1 hi ⟨xs, hx, tx, s1⟩
      rw [Int.zero_add]
      have hG1 := hG.same s1
      obtain ⟨a, ha⟩ : ∃ a, ds[i]? = some a := ⟨ds[i]'(by rw [hG.four]; exact hi), List.getElem?_eq_getElem _⟩
      obtain ⟨kvs, hk⟩ : ∃ kvs, cm[i]? = some kvs := ⟨cm[i]'(by rw [hG.cl]; exact hi), List.getElem?_eq_getElem _⟩
      have had : (ds.map V.ref)[i]? = some (.ref a) := by rw [List.getElem?_map, ha]; rfl
      refine ⟨rfl, ?_⟩
      refine ⟨_, rfl, g, _, dx, _, _, rfl, hG1.o, T.cl_Ground, T.n_Ground_came, gf_came, _, rfl, lc, _, _, .ref a, rfl, rfl, SqL.of hG1.l, atI_nat had, a, kvs, _, rfl, hG1.d i a kvs ha hk, hks i kvs hk, fun ys p hperm hsort hp => ⟨p, rfl, ⟨_, SqL.of upd_same⟩, ?_⟩⟩
      obtain ⟨hnd, hrise, hmem, hlen⟩ := hss i
      have eys : ys = (ss i).map fun c : Nat => (c : Int) := by
        refine rising_same (rising_of hperm hsort ?_) (List.Pairwise.map _ (fun a b h => Int.ofNat_lt.mpr h) hrise) fun x => ?_
        · exact List.Pairwise.map _ (fun a b h e => h (by omega)) hnd
        · rw [hperm.mem_iff, List.mem_map, List.mem_map]
          exact ⟨fun ⟨c, h, e⟩ => ⟨c, (hmem c).mpr h, e⟩, fun ⟨c, h, e⟩ => ⟨c, (hmem c).mp h, e⟩⟩
      subst eys
      have s2 := same_new (Same.refl H1) hp (o := .lst (((ss i).map fun c : Nat => (c : Int)).map V.int))
      have npD : D ≠ p := ne_of_none hx hp
      refine loop_list (K := K) (a := p) (xs := ((ss i).map fun c : Nat => (c : Int)).map V.int) (fun j H' => ∃ xs, H' D = some (.lst xs) ∧ TDs H' xs (((List.range i).flatMap fun i => (ss i).map (mkD i)) ++ ((ss i).take j).map (mkD i)) ∧ Same H H' ∧ H' p = some (.lst (((ss i).map fun c : Nat => (c : Int)).map V.int))) ⟨xs, by rw [upd_ne npD]; exact hx, by simpa using tx.mono (TSm.of_same s2), s1.trans s2, upd_same⟩ (fun j H' _ ⟨_, _, _, _, h⟩ => SqL.of h) ?_ ?_
      · rintro j x H2 hj ⟨xs, hx2, tx2, s2', hp2⟩
        obtain ⟨x', hx', rfl⟩ := map_get hj
        obtain ⟨c, hc, rfl⟩ := map_get hx'
        refine ⟨rfl, _, rfl, _, rfl, (by decide : (2 : Nat) ≤ sizeLine), fun b hb => ?_⟩
        have nDb : D ≠ b := ne_of_none hx2 hb
        have hxl : xs.length ≤ 500000 := by
          rw [tx2.length, List.length_append, List.length_map, List.length_take]
          have := small i (by omega)
          omega
        refine ⟨xs, by rw [upd_ne nDb]; exact hx2, lt_line (by omega), xs ++ [.ref b], upd_same, ?_, same_mut (same_new s2' hb) hD, by rw [upd_ne npD.symm, upd_ne (ne_of_none hp2 hb)]; exact hp2⟩
        have t1 := TSm.of_same (same_new (Same.refl H2) hb (o := .tup [.int ((i : Nat) : Int), .int ((c : Nat) : Int)]))
        rw [List.take_add_one, hc, Option.toList_some, List.map_append, ← List.append_assoc]
        exact ((tx2.mono t1).app (.one (.tup upd_same (.cons (.int _) (.cons (.int _) .nil))))).mono (ts_upd (TSm.refl _) (NoT.lst (by rw [upd_ne nDb]; exact hx2)))
      · rintro H2 ⟨xs, hx2, tx2, s2', hp2⟩
        refine ⟨xs, hx2, ?_, s2'⟩
        rw [List.take_of_length_le (by rw [List.length_map, List.length_map]; exact Nat.le_refl _)] at tx2
        rw [List.range_succ, List.flatMap_append]
        simpa using tx2
    · rintro H1 ⟨xs, hx, tx, s1⟩
      exact fin D xs H1 hx tx hD s1
/-! ### wants -/
/-- what is wanted of a stream of whose frames these came: those below the highest that neither came nor are told never to come -/
def wantL (cs : List Nat) (nv : Nat → Bool) (m : Nat) : List Nat := (List.range m).filter fun c => !decide (c ∈ cs) && !nv c
theorem want_no {cs : List Nat} {nv : Nat → Bool} {m : Nat} (h : (!decide (m ∈ cs) && !nv m) = false) : wantL cs nv (m + 1) = wantL cs nv m := by
  unfold wantL
  rw [List.range_succ, List.filter_append, List.filter_cons_of_neg (by rw [h]; decide), List.filter_nil, List.append_nil]
theorem want_yes {cs : List Nat} {nv : Nat → Bool} {m : Nat} (h : (!decide (m ∈ cs) && !nv m) = true) : wantL cs nv (m + 1) = wantL cs nv m ++ [m] := by
  unfold wantL
  rw [List.range_succ, List.filter_append, List.filter_cons_of_pos (p := fun c => !decide (c ∈ cs) && !nv c) h, List.filter_nil]
theorem max_top {ks : List Int} {t : Int} {A : Prop} {B : Int → Prop} (h0 : ks = [] → B t → A) (h1 : ∀ m ∈ ks, (∀ j ∈ ks, j ≤ m) → m = t) (hq : B t) : (ks = [] → A) ∧ ∀ m, m ∈ ks → (∀ j ∈ ks, j ≤ m) → B m :=
  ⟨fun e => h0 e hq, fun m hm hl => by rw [h1 m hm hl]; exact hq⟩
def sp_wants (C : Addr) : Sp := fun vs H Q _ => ∃ (g dx lc nv : Addr) (ds : List Addr) (z : Nat) (cm : List (List (Key × V))) (nev : List (List Key × V)) (css : Nat → List Nat) (top : Nat → Nat) (nvr : Nat → Nat → Bool), vs = [.ref g] ∧ GAt C H g dx lc nv ds z cm nev ∧
  (∀ i kvs, cm[i]? = some kvs → kvs.map (·.1) = ((css i).map fun c : Nat => (c : Int)).map Sum.inl) ∧ (∀ i, (css i = [] → top i = 0) ∧ (∀ c ∈ css i, c ≤ top i) ∧ (css i ≠ [] → top i ∈ css i) ∧ top i ≤ 100000) ∧
  (∀ s c : Nat, (valV nev [Sum.inl (s : Int), Sum.inl (c : Int)]).isSome = nvr s c) ∧
  ∀ r xs H', H' r = some (.lst xs) → TDs H' xs ((List.range 4).flatMap fun i => (wantL (css i) (nvr i) (top i)).map (mkD i)) → H r = none → Same H H' → Q (.ref r) H'
theorem ok_Ground_wants (T : Tx K mg) : FnOk P w K mg base CX0 1 T.a_Ground_wants T.d_Ground_wants ["self"] (sp_wants T.A_Ground) := by
  have nd := sc_Ground_wants.nd
  refine T.F_Ground_wants.ok sc_Ground_wants (fun vs H Q E h => ?_) (fun cdv A outer s H vs Q E hr h => ?_)
  · obtain ⟨_, _, _, _, _, _, _, _, _, _, _, rfl, _⟩ := h
    rfl
  · obtain ⟨g, dx, lc, nv, ds, z, cm, nev, css, top, nvr, rfl, hG, hks, htop, hnv, fin⟩ := h
    refine ⟨_, (pss_cons (ps_set (i := 1) nd rfl (Or.inl rfl) (pe_lst pa_nil)) (pss_cons (ps_for PassesOwn.never rfl (pi_range1 rfl T.z_range (pa_cons (pe_glob (v := .int 4) (by rfl) T.c_STREAMS ⟨_, rfl⟩) pa_nil)) (pg_name (i := 2) nd rfl (Or.inl rfl)) (pss_cons (ps_set (i := 3) nd rfl (Or.inl rfl) (pe_ix ix_list (pe_fld (pv 0) rfl) (pv 2) (fun _ _ => rfl))) (pss_one (ps_for PassesOwn.never rfl (pi_range1 rfl T.z_range (pa_cons (pe_callBK (cr_maxDk rfl) (by rfl) T.z_max (by decide +kernel) (pa_cons (pv 3) pa_nil) (pk_cons pe_int pk_nil)) pa_nil)) (pg_name (i := 4) nd rfl (Or.inl rfl)) (pss_one (ps_if (PW.pt (pw_and (pt_cmp (pc_dnotin (hu_of hr) (pv 4) (pv 3))) (pw_and1 (pt_cmp (pc_dnotin (hu_of hr) (pe_tup (pa_cons (pv 2) (pa_cons (pv 4) pa_nil))) (pe_fld (pv 0) rfl)))))) (pss_one (ps_expr (pe_bm PySem.F.plainAttrs_list PySem.F.slot_list_append PySem.F.type_list_append mt_append (pv 1) (pa_cons (pe_tup (pa_cons (pv 2) (pa_cons (pv 4) pa_nil))) pa_nil)))) pss_nil)))))) (pss_one (ps_ret (pv 1))))), ?_⟩
    have wl : ∀ i m, m ≤ 100000 → (wantL (css i) (nvr i) m).length ≤ 100000 := by
      intro i m hm
      unfold wantL
      have := List.length_filter_le (fun c => !decide (c ∈ css i) && !nvr i c) (List.range m)
      rw [List.length_range] at this
      omega
    have small : ∀ i, i ≤ 4 → ((List.range i).flatMap fun i => (wantL (css i) (nvr i) (top i)).map (mkD i)).length ≤ i * 100000 := by
      intro i hi
      induction i with
      | zero => simp
      | succ n ih =>
        rw [List.range_succ, List.flatMap_append, List.length_append]
        have h1 := ih (by omega)
        have h2 := wl n (top n) (htop n).2.2.2
        have e : ([n].flatMap fun i => (wantL (css i) (nvr i) (top i)).map (mkD i)).length = (wantL (css n) (nvr n) (top n)).length := by simp
        rw [e]
        omega
    refine ⟨Nat.zero_le _, fun D hD => ?_⟩
    refine ⟨4, rfl, by decide, by decide, ?_⟩
    refine for_range (lo := 0) (n := 4) (fun i σ H' => ∃ (v2 v3 v4 : Option V) (xs : List V), σ = [some (.ref g), some (.ref D), v2, v3, v4] ∧ H' D = some (.lst xs) ∧ TDs H' xs ((List.range i).flatMap fun i => (wantL (css i) (nvr i) (top i)).map (mkD i)) ∧ Same H H') ⟨_, _, _, [], rfl, upd_same, .nil, same_new (Same.refl _) hD⟩ ?_ ?_
    · rintro i σ H1 hi ⟨v2, v3, v4, xs, rfl, hx, tx, s1⟩
      simp only [Int.zero_add]
      have hG1 := hG.same s1
      obtain ⟨a, ha⟩ : ∃ a, ds[i]? = some a := ⟨ds[i]'(by rw [hG.four]; exact hi), List.getElem?_eq_getElem _⟩
      obtain ⟨kvs, hk⟩ : ∃ kvs, cm[i]? = some kvs := ⟨cm[i]'(by rw [hG.cl]; exact hi), List.getElem?_eq_getElem _⟩
      have had : (ds.map V.ref)[i]? = some (.ref a) := by rw [List.getElem?_map, ha]; rfl
      have hd1 := hG1.d i a kvs ha hk
      have hkey := hks i kvs hk
      obtain ⟨t1, t2, t3, t4⟩ := htop i
      have hmem : ∀ c : Nat, (valV kvs (Sum.inl ((c : Nat) : Int))).isSome = decide (c ∈ css i) := by
        intro c
        by_cases e : c ∈ css i
        · rw [decide_eq_true e, ← mem_keys, hkey]
          exact List.mem_map.mpr ⟨_, List.mem_map.mpr ⟨c, e, rfl⟩, rfl⟩
        · rw [decide_eq_false e, Bool.eq_false_iff]
          intro h
          rw [Ne, ← mem_keys, hkey] at *
          obtain ⟨x, hx, e2⟩ := List.mem_map.mp h
          obtain ⟨c', hc', e3⟩ := List.mem_map.mp hx
          cases e2
          have : c' = c := by omega
          exact e (this ▸ hc')
      -- came
      refine ⟨_, rfl, g, _, dx, _, _, rfl, hG1.o, T.cl_Ground, T.n_Ground_came, gf_came, _, rfl, lc, _, _, .ref a, rfl, rfl, SqL.of hG1.l, atI_nat had, ?_⟩
      -- range(max(came, default=0))
      refine ⟨_, rfl, a, kvs, _, 0, rfl, rfl, hd1, hkey, max_top (t := ((top i : Nat) : Int)) (fun e h => ?_) (fun x hx hle => ?_) ?_⟩
      · have e1 : css i = [] := by
          cases h : css i with
          | nil => rfl
          | cons y r => rw [h] at e; cases e
        have e2 := t1 e1
        generalize top i = tp at e2 h
        subst e2
        exact h
      · obtain ⟨c, hc, rfl⟩ := List.mem_map.mp hx
        have h1 := t2 c hc
        have h2 := hle _ (List.mem_map.mpr ⟨top i, t3 (fun e => by rw [e] at hc; cases hc), rfl⟩)
        omega
      refine ⟨_, rfl, (by omega), (by omega), ?_⟩
      refine for_range (lo := 0) (n := ((top i : Nat) : Int).toNat) (fun j σ H' => ∃ (v4 : Option V) (xs : List V), σ = [some (.ref g), some (.ref D), some (.int ((i : Nat) : Int)), some (.ref a), v4] ∧ H' D = some (.lst xs) ∧ TDs H' xs (((List.range i).flatMap fun i => (wantL (css i) (nvr i) (top i)).map (mkD i)) ++ (wantL (css i) (nvr i) j).map (mkD i)) ∧ Same H H') ⟨_, xs, rfl, hx, by simpa [wantL] using tx, s1⟩ ?_ ?_
      · rintro j σ H2 hj ⟨v4, xs, rfl, hx2, tx2, s2⟩
        simp only [Int.zero_add]
        have hG2 := hG.same s2
        have hd2 := hG2.d i a kvs ha hk
        have hxl : xs.length ≤ 600000 := by
          rw [tx2.length, List.length_append, List.length_map]
          have h1 := small i (by omega)
          have h2 := wl i j (by omega)
          omega
        have next : ∀ H3, Same H H3 → (wantL (css i) (nvr i) (j + 1) = wantL (css i) (nvr i) j) → H3 D = some (.lst xs) → TDs H3 xs (((List.range i).flatMap fun i => (wantL (css i) (nvr i) (top i)).map (mkD i)) ++ (wantL (css i) (nvr i) j).map (mkD i)) → ∃ (v4 : Option V) (ys : List V), [some (V.ref g), some (.ref D), some (.int ((i : Nat) : Int)), some (.ref a), some (.int ((j : Nat) : Int))] = [some (.ref g), some (.ref D), some (.int ((i : Nat) : Int)), some (.ref a), v4] ∧ H3 D = some (.lst ys) ∧ TDs H3 ys (((List.range i).flatMap fun i => (wantL (css i) (nvr i) (top i)).map (mkD i)) ++ (wantL (css i) (nvr i) (j + 1)).map (mkD i)) ∧ Same H H3 :=
          fun H3 s3 e h1 h2 => ⟨_, xs, rfl, h1, by rw [e]; exact h2, s3⟩
        refine ⟨_, rfl, _, rfl, a, _, rfl, DGet.k (k := Sum.inl ((j : Nat) : Int)) hd2, _, rfl, ?_⟩
        rw [hmem]
        by_cases c1 : j ∈ css i
        · rw [decide_eq_true c1]
          exact iteF (iteF (next H2 s2 (want_no (by rw [decide_eq_true c1]; rfl)) hx2 tx2))
        · rw [decide_eq_false c1]
          refine iteT ?_
          refine ⟨_, rfl, _, rfl, (by decide : (2 : Nat) ≤ sizeLine), fun b hb => ?_⟩
          have sb := same_new (Same.refl H2) hb (o := .tup [.int ((i : Nat) : Int), .int ((j : Nat) : Int)])
          have hG3 := hG2.same sb
          have hb3 : upd H2 b (.tup [.int ((i : Nat) : Int), .int ((j : Nat) : Int)]) b = some (.tup ([Sum.inl ((i : Nat) : Int), Sum.inl ((j : Nat) : Int)].map kV)) := upd_same
          have hx3 := sb _ _ hx2
          have tx3 := tx2.mono (TSm.of_same sb)
          generalize upd H2 b (.tup [.int ((i : Nat) : Int), .int ((j : Nat) : Int)]) = H3 at *
          refine ⟨_, rfl, g, _, dx, _, _, rfl, hG3.o, T.cl_Ground, T.n_Ground_never, gf_never, nv, _, rfl, DGet.t (k := [Sum.inl ((i : Nat) : Int), Sum.inl ((j : Nat) : Int)]) hG3.n hb3, _, rfl, ?_⟩
          rw [hnv]
          by_cases c2 : nvr i j = true
          · rw [c2]
            exact iteF (next H3 (s2.trans sb) (want_no (by rw [c2, Bool.not_true, Bool.and_false])) hx3 tx3)
          · have c3 : nvr i j = false := by simpa using c2
            rw [c3]
            refine iteT ?_
            refine ⟨_, rfl, .inl ⟨rfl, _, SqL.of hx3⟩, _, rfl, _, rfl, (by decide : (2 : Nat) ≤ sizeLine), fun b2 hb2 => ?_⟩
            have nDb : D ≠ b2 := ne_of_none hx3 hb2
            refine ⟨D, xs, _, rfl, rfl, by rw [upd_ne nDb]; exact hx3, lt_line (by omega), ?_⟩
            refine ⟨_, xs ++ [.ref b2], rfl, upd_same, ?_, same_mut (same_new (s2.trans sb) hb2) hD⟩
            have t1 := TSm.of_same (same_new (Same.refl H3) hb2 (o := .tup [.int ((i : Nat) : Int), .int ((j : Nat) : Int)]))
            rw [want_yes (by rw [decide_eq_false c1, c3]; rfl), List.map_append, ← List.append_assoc]
            exact ((tx3.mono t1).app (.one (.tup upd_same (.cons (.int _) (.cons (.int _) .nil))))).mono (ts_upd (TSm.refl _) (NoT.lst (by rw [upd_ne nDb]; exact hx3)))
      · rintro σ H2 ⟨v4, xs, rfl, hx2, tx2, s2⟩
        refine ⟨_, _, _, xs, rfl, hx2, ?_, s2⟩
        rw [show ((top i : Nat) : Int).toNat = top i by omega] at tx2
        rw [List.range_succ, List.flatMap_append]
        simpa using tx2
    · rintro σ H1 ⟨v2, v3, v4, xs, rfl, hx, tx, s1⟩
      exact ⟨_, rfl, fin D xs H1 hx tx hD s1⟩
end
end K20

namespace K20
open PySem PySem.Spec PyProof.Rows L2 Sky
section
variable {P : Program} {w : World} {K : PySem.W.Frag} {mg : Str → Option Value} {base : Heap}
def sp_never (C : Addr) : Sp := fun vs H Q _ => ∃ (g dx lc nv lm : Addr) (ms : List V) (ds : List Addr) (z : Nat) (ks : List (Nat × Nat)) (cm : List (List (Key × V))) (nev : List (List Key × V)), vs = [.ref g, .ref lm] ∧ GAt C H g dx lc nv ds z cm nev ∧
  H lm = some (.lst ms) ∧ TDs H ms (ks.map fun k => mkD k.1 k.2) ∧ (∀ k ∈ ks, k.1 ≤ 3 ∧ k.2 ≤ 9999) ∧ nev.length + ks.length ≤ 1000000 ∧
  ∀ nev' H', GAt C H' g dx lc nv ds z cm nev' → nev'.length ≤ nev.length + ks.length → (∀ s c : Nat, (valV nev' [Sum.inl (s : Int), Sum.inl (c : Int)]).isSome = true ↔ ((valV nev [Sum.inl (s : Int), Sum.inl (c : Int)]).isSome = true ∨ (s, c) ∈ ks)) → Keep [nv] H H' → Dom H H' → Q .non H'
theorem putK_len {κ : Type} [DecidableEq κ] (kvs : List (κ × V)) (k : κ) (v : V) : (putK kvs k v).length ≤ kvs.length + 1 := by
  unfold putK
  split
  · rw [List.length_map]; omega
  · rw [List.length_append]; exact Nat.le_refl _
theorem ok_Ground_never (T : Tx K mg) : FnOk P w K mg base CX0 5 T.a_Ground_never T.d_Ground_never ["self", "marks"] (sp_never T.A_Ground) := by
  have nd := sc_Ground_never.nd
  refine T.F_Ground_never.ok sc_Ground_never (fun vs H Q E h => ?_) (fun cdv A outer s H vs Q E hr h => ?_)
  · obtain ⟨_, _, _, _, _, _, _, _, _, _, _, rfl, _⟩ := h
    rfl
  · obtain ⟨g, dx, lc, nv, lm, ms, ds, z, ks, cm, nev, rfl, hG, hl, tds, hok, hlen, fin⟩ := h
    refine ⟨_, (pss_cons (ps_expr (pe_call (ok_check_marks T) (hr.mono (by decide)) (by rfl) T.m_check_marks T.F_check_marks.kp T.b_check_marks .nil pass0 (pa_cons (pv 1) pa_nil))) (pss_one (ps_for PassesOwn.never rfl (pi_list (pv 1)) (pg_name (i := 2) nd rfl (Or.inl rfl)) (pss_one (ps_dput (hu_of hr) (pe_fld (pv 0) rfl) (pv 2) pe_bl rfl))))), ?_⟩
    refine ⟨_, rfl, lm, ms, ks, rfl, hl, tds, hok, fun H1 s1 => ?_⟩
    have hG1 := hG.same s1
    have hl1 := s1 _ _ hl
    have tds1 := tds.mono (TSm.of_same s1)
    have hml : ms.length = ks.length := by rw [tds.length, List.length_map]
    refine ⟨_, rfl, lm, rfl, ⟨_, SqL.of hl1⟩, ?_⟩
    refine for_list (K := K) (a := lm) (xs := ms) (fun i σ H' => ∃ (v2 : Option V) (nv' : List (List Key × V)), σ = [some (.ref g), some (.ref lm), v2] ∧ GAt T.A_Ground H' g dx lc nv ds z cm nv' ∧ nv'.length ≤ nev.length + i ∧
      (∀ s c : Nat, (valV nv' [Sum.inl (s : Int), Sum.inl (c : Int)]).isSome = true ↔ ((valV nev [Sum.inl (s : Int), Sum.inl (c : Int)]).isSome = true ∨ (s, c) ∈ ks.take i)) ∧ Keep [nv] H1 H' ∧ Dom H1 H') ⟨none, nev, rfl, hG1, Nat.le_refl _, fun s c => by simp, Keep.refl _ _, Dom.refl _⟩
      (fun i σ H' _ ⟨_, _, _, hG', _, _, k, _⟩ => SqL.of (k _ _ (by simp [ne_of hl1 hG1.n (by intro e; cases e)]) hl1)) ?_ ?_
    · rintro i y σ H' hy ⟨v2, nv', rfl, hG', hle, hiff, k', d'⟩
      obtain ⟨d, hd, td⟩ := tds1.get hy
      obtain ⟨k, hk, rfl⟩ := map_get hd
      have hil : i < ms.length := (List.getElem?_eq_some_iff.mp hy).1
      obtain ⟨b, rfl, hb⟩ := td_mk (td.mono (k'.ts (fun m hm => by rw [List.mem_singleton.mp hm]; exact NoT.dT hG1.n)))
      refine ⟨_, rfl, g, _, dx, _, _, rfl, hG'.o, T.cl_Ground, T.n_Ground_never, gf_never, _, rfl, nv, _, rfl, DPut.t (k := [Sum.inl ((k.1 : Nat) : Int), Sum.inl ((k.2 : Nat) : Int)]) hG'.n hb (lt_line (by omega)), ?_⟩
      refine ⟨_, _, rfl, ⟨?_, ?_, hG'.four, hG'.cl, fun i a kvs e1 e2 => ?_, hG'.apart, upd_same⟩, Nat.le_trans (putK_len _ _ _) (by omega), fun s c => ?_, keep_upd k' (by simp), d'.upd _ _⟩
      · rw [upd_ne (ne_of hG'.o hG'.n (by intro e; cases e))]; exact hG'.o
      · rw [upd_ne (ne_of hG'.l hG'.n (by intro e; cases e))]; exact hG'.l
      · have h1 := hG'.d i a kvs e1 e2
        rw [upd_ne (ne_of h1 hG'.n (by intro e; cases e))]; exact h1
      · rw [valV_put, List.take_add_one, hk, Option.toList_some, List.mem_append, List.mem_singleton]
        by_cases e : ([Sum.inl ((s : Nat) : Int), Sum.inl ((c : Nat) : Int)] : List Key) = [Sum.inl ((k.1 : Nat) : Int), Sum.inl ((k.2 : Nat) : Int)]
        · rw [if_pos e]
          have e1 : s = k.1 ∧ c = k.2 := by
            injection e with e1 e2
            injection e2 with e2 _
            injection e1 with e1
            injection e2 with e2
            omega
          exact ⟨fun _ => .inr (.inr (Prod.ext e1.1 e1.2)), fun _ => rfl⟩
        · rw [if_neg e, hiff]
          constructor
          · rintro (h | h)
            · exact .inl h
            · exact .inr (.inl h)
          · rintro (h | h | h)
            · exact .inl h
            · exact .inr h
            · exact absurd (by rw [← h]) e
    · rintro σ H' ⟨v2, nv', rfl, hG', hle, hiff, k', d'⟩
      rw [List.take_of_length_le (by omega)] at hiff
      exact fin nv' H' hG' (by omega) hiff ((Keep.of_same s1).trans k') ((Dom.of_same s1).trans d')
end
end K20

namespace K20
open PySem PySem.Spec PyProof.Rows L2 Sky
def LF : List Str := ["many", "_stream", "_size", "_count", "_first", "_body"]
theorem LF_nd : LF.Nodup := by decide +kernel
def lf (m st z c : Int) (fo : Option Nat) (l : Addr) : List (Str × V) := LF.zip [.int m, .int st, .int z, .int c, optV fo, .ref l]
section
variable {m st z c x : Int} {fo : Option Nat} {l l' : Addr}
theorem lf_many : (lf m st z c fo l).lookup ("many" : Str) = some (.int m) := lookup_zip LF _ 0 _ LF_nd rfl rfl
theorem lf_stream : (lf m st z c fo l).lookup ("_stream" : Str) = some (.int st) := lookup_zip LF _ 1 _ LF_nd rfl rfl
theorem lf_size : (lf m st z c fo l).lookup ("_size" : Str) = some (.int z) := lookup_zip LF _ 2 _ LF_nd rfl rfl
theorem lf_count : (lf m st z c fo l).lookup ("_count" : Str) = some (.int c) := lookup_zip LF _ 3 _ LF_nd rfl rfl
theorem lf_first : (lf m st z c fo l).lookup ("_first" : Str) = some (optV fo) := lookup_zip LF _ 4 _ LF_nd rfl rfl
theorem lf_body : (lf m st z c fo l).lookup ("_body" : Str) = some (.ref l) := lookup_zip LF _ 5 _ LF_nd rfl rfl
theorem lf_no {f : Str} (h : f ∉ LF) : (lf m st z c fo l).lookup f = none := lookup_zip_none LF _ _ h
theorem pf_many : putF "many" (.int x) (lf m st z c fo l) = lf x st z c fo l := putF_zip LF _ 0 _ _ LF_nd rfl rfl
theorem pf_count : putF "_count" (.int x) (lf m st z c fo l) = lf m st z x fo l := putF_zip LF _ 3 _ _ LF_nd rfl rfl
theorem pf_first {o : Option Nat} : putF "_first" (optV o) (lf m st z c fo l) = lf m st z c o l := putF_zip LF _ 4 _ _ LF_nd rfl rfl
theorem pf_body : putF "_body" (.ref l') (lf m st z c fo l) = lf m st z c fo l' := putF_zip LF _ 5 _ _ LF_nd rfl rfl
theorem lf_few : (lf m st z c fo l).length < 1000 := Nat.lt_of_le_of_lt (zip_len LF _) (by decide)
end
section
variable {P : Program} {w : World} {K : PySem.W.Frag} {mg : Str → Option Value} {base : Heap}
/-! ### _done -/
def sp_done (C : Addr) : Sp := fun vs H Q _ => ∃ (p dx l : Addr) (m st z c : Int) (fo : Option Nat) (b : List Int), vs = [.ref p] ∧ H p = some (.ins C dx (lf m st z c fo l)) ∧ H l = some (.lst (b.map V.int)) ∧
  ∀ f H' l', TD H' (.ref f) (.tuple [.int st, .int c, optD fo, tlD b]) → H' p = some (.ins C dx (lf m st z (c + 1) none l')) → H' l' = some (.lst []) → H l' = none → H f = none → Keep [p] H H' → Q (.ref f) H'
theorem ok_Laying_done (T : Tx K mg) : FnOk P w K mg base CX0 1 T.a_Laying_done T.d_Laying_done ["self"] (sp_done T.A_Laying) := by
  have nd := sc_Laying_done.nd
  refine T.F_Laying_done.ok sc_Laying_done (fun vs H Q E h => ?_) (fun cdv A outer s H vs Q E hr h => ?_)
  · obtain ⟨p, _, _, _, _, _, _, _, _, rfl, _⟩ := h
    rfl
  · obtain ⟨p, dx, l, m, st, z, c, fo, b, rfl, hp, hl, q⟩ := h
    refine ⟨_, (pss_cons (ps_set (i := 1) nd rfl (Or.inl rfl) (pe_tup (pa_cons (pe_fld (pv 0) rfl) (pa_cons (pe_fld (pv 0) rfl) (pa_cons (pe_fld (pv 0) rfl) (pa_cons (pe_tupleOf (by rfl) T.z_tuple (pe_fld (pv 0) rfl)) pa_nil)))))) (pss_cons (ps_fldaug (pv 0) pe_int in_add) (pss_cons (ps_fld (pv 0) pe_non rfl) (pss_cons (ps_fld (pv 0) (pe_lst pa_nil) rfl) (pss_one (ps_ret (pv 1))))))), ?_⟩
    refine ⟨_, rfl, p, _, dx, _, _, rfl, hp, T.cl_Laying, T.n_Laying_stream, lf_stream, ?_⟩
    refine ⟨_, rfl, p, _, dx, _, _, rfl, hp, T.cl_Laying, T.n_Laying_count, lf_count, ?_⟩
    refine ⟨_, rfl, p, _, dx, _, _, rfl, hp, T.cl_Laying, T.n_Laying_first, lf_first, ?_⟩
    refine ⟨_, rfl, p, _, dx, _, _, rfl, hp, T.cl_Laying, T.n_Laying_body, lf_body, .inl ⟨l, _, rfl, SqL.of hl, fun b' hb' => ?_⟩⟩
    refine ⟨(by decide : (4 : Nat) ≤ sizeLine), fun f hf => ?_⟩
    have hf' : H f = none := (same_new (Same.refl H) hb').free hf
    have npb : p ≠ b' := ne_of_none hp hb'
    have npf : p ≠ f := ne_of_none hp hf'
    have nbf : b' ≠ f := ne_of_none upd_same hf
    have k1 : Keep [p] H (upd (upd H b' (.tup (b.map V.int))) f (.tup [.int st, .int c, optV fo, .ref b'])) := keep_new (keep_new (Keep.refl _ _) hb') hf'
    generalize hH1 : upd (upd H b' (.tup (b.map V.int))) f (.tup [.int st, .int c, optV fo, .ref b']) = H1 at *
    have p1 : H1 p = some (.ins T.A_Laying dx (lf m st z c fo l)) := by rw [← hH1, upd_ne npf, upd_ne npb]; exact hp
    have t1 : TD H1 (.ref f) (.tuple [.int st, .int c, optD fo, tlD b]) := by
      refine .tup (by rw [← hH1]; exact upd_same) (.cons (.int _) (.cons (.int _) (.cons (TD.opt _) (.cons (TD.tl ?_) .nil))))
      rw [← hH1, upd_ne nbf]
      exact upd_same
    -- self._count += 1
    refine ⟨_, rfl, p, _, dx, _, _, rfl, p1, T.cl_Laying, T.n_Laying_count, lf_count, c, 1, rfl, rfl, dx, _, p1, lf_few, ?_⟩
    rw [pf_count]
    refine ⟨_, rfl, p, _, dx, _, rfl, upd_same, T.cl_Laying, T.n_Laying_first, lf_few, ?_⟩
    rw [show putF "_first" V.non _ = _ from pf_first (o := none), upd_upd]
    refine ⟨Nat.zero_le _, fun l' hl' => ?_⟩
    have npl : p ≠ l' := ne_of_none upd_same hl'
    have hl1 : H1 l' = none := by rw [upd_ne npl.symm] at hl'; exact hl'
    refine ⟨_, rfl, p, _, dx, _, rfl, (by rw [upd_ne npl]; exact upd_same), T.cl_Laying, T.n_Laying_body, lf_few, ?_⟩
    rw [pf_body]
    have hl0 : H l' = none := by
      rw [← hH1] at hl1
      have := (same_new (Same.refl _) hf).free hl1
      exact (same_new (Same.refl _) hb').free this
    refine ⟨_, rfl, q f _ l' ?_ upd_same (by rw [upd_ne npl.symm]; exact upd_same) hl0 hf' ?_⟩
    · refine t1.mono (ts_upd (ts_upd (ts_upd (TSm.refl _) (NoT.ins p1)) (NoT.none hl')) (NoT.ins (by rw [upd_ne npl]; exact upd_same)))
    · exact keep_upd (keep_new (keep_upd k1 (by simp)) hl0) (by simp)
/-! ### __init__ -/
def sp_init (C : Addr) : Sp := fun vs H Q _ => ∃ (p dx : Addr) (st z : Int), vs = [.ref p, .int st, .int z] ∧ H p = some (.ins C dx []) ∧
  ∀ H' l, H' p = some (.ins C dx (lf 0 st z 0 none l)) → H' l = some (.lst []) → H l = none → Keep [p] H H' → Q .non H'
theorem ok_Laying_init (T : Tx K mg) : FnOk P w K mg base CX0 1 T.a_Laying_init T.d_Laying_init ["self", "stream", "size"] (sp_init T.A_Laying) := by
  have nd := sc_Laying_init.nd
  refine T.F_Laying_init.ok sc_Laying_init (fun vs H Q E h => ?_) (fun cdv A outer s H vs Q E hr h => ?_)
  · obtain ⟨p, _, _, _, rfl, _⟩ := h
    rfl
  · obtain ⟨p, dx, st, z, rfl, hp, q⟩ := h
    refine ⟨_, (pss_cons (ps_fld (pv 0) pe_int rfl) (pss_cons (ps_fld (pv 0) (pv 1) rfl) (pss_cons (ps_fld (pv 0) (pv 2) rfl) (pss_cons (ps_fld (pv 0) pe_int rfl) (pss_cons (ps_fld (pv 0) pe_non rfl) (pss_one (ps_fld (pv 0) (pe_lst pa_nil) rfl))))))), ?_⟩
    refine ⟨_, rfl, p, _, dx, _, rfl, hp, T.cl_Laying, T.n_Laying_many, (by decide), ?_⟩
    rw [show putF "many" (V.int 0) [] = (LF.take 1).zip [.int 0] from rfl]
    refine ⟨_, rfl, _, rfl, p, _, dx, _, rfl, upd_same, T.cl_Laying, T.n_Laying_stream, (Nat.lt_of_le_of_lt (zip_len _ _) (by decide)), ?_⟩
    rw [upd_upd, putF_take (i := 1) LF_nd rfl rfl]
    refine ⟨_, rfl, _, rfl, p, _, dx, _, rfl, upd_same, T.cl_Laying, T.n_Laying_size, (Nat.lt_of_le_of_lt (zip_len _ _) (by decide)), ?_⟩
    rw [upd_upd, putF_take (i := 2) LF_nd rfl rfl]
    refine ⟨_, rfl, p, _, dx, _, rfl, upd_same, T.cl_Laying, T.n_Laying_count, (Nat.lt_of_le_of_lt (zip_len _ _) (by decide)), ?_⟩
    rw [upd_upd, putF_take (i := 3) LF_nd rfl rfl]
    refine ⟨_, rfl, p, _, dx, _, rfl, upd_same, T.cl_Laying, T.n_Laying_first, (Nat.lt_of_le_of_lt (zip_len _ _) (by decide)), ?_⟩
    rw [upd_upd, putF_take (i := 4) LF_nd rfl rfl]
    refine ⟨Nat.zero_le _, fun l hl => ?_⟩
    have npl : p ≠ l := ne_of_none upd_same hl
    have hl0 : H l = none := by rw [upd_ne npl.symm] at hl; exact hl
    refine ⟨_, rfl, p, _, dx, _, rfl, (by rw [upd_ne npl]; exact upd_same), T.cl_Laying, T.n_Laying_body, (Nat.lt_of_le_of_lt (zip_len _ _) (by decide)), ?_⟩
    rw [putF_take (i := 5) LF_nd rfl rfl]
    exact q _ l upd_same (by rw [upd_ne npl.symm]; exact upd_same) hl0 (keep_upd (keep_new (keep_upd (Keep.refl _ _) (by simp)) hl0) (by simp))
/-! ### the object as it stands -/
def LAt (C : Addr) (H : Hp) (p dx l : Addr) (st : Int) (z : Nat) (N : List Int) (S : List Nat) : Prop :=
  H p = some (.ins C dx (lf (S.length : Nat) st (z : Nat) (N.length / z : Nat) (firstOf z (N.length / z) S) l)) ∧ H l = some (.lst ((N.drop (N.length / z * z)).map V.int))
/-! ### fill -/
def sp_fill (C : Addr) : Sp := fun vs H Q _ => ∃ (p dx l : Addr) (st : Int) (z : Nat) (N : List Int) (S : List Nat), vs = [.ref p] ∧ LAt C H p dx l st z N S ∧ 0 < z ∧ z ≤ 100 ∧ Laid N S ∧
  (N.length % z = 0 → Q .non H) ∧
  (N.length % z ≠ 0 → ∀ f H' l', TD H' (.ref f) (frmD st (N.length / z, firstOf z (N.length / z) S, N.drop (N.length / z * z) ++ List.replicate (z - N.length % z) 0)) → LAt C H' p dx l' st z (padN z N) S → H l' = none → H f = none → Keep [p, l] H H' → Dom H H' → Q (.ref f) H')
theorem ok_Laying_fill (T : Tx K mg) : FnOk P w K mg base CX0 2 T.a_Laying_fill T.d_Laying_fill ["self"] (sp_fill T.A_Laying) := by
  have nd := sc_Laying_fill.nd
  refine T.F_Laying_fill.ok sc_Laying_fill (fun vs H Q E h => ?_) (fun cdv A outer s H vs Q E hr h => ?_)
  · obtain ⟨p, _, _, _, _, _, _, rfl, _⟩ := h
    rfl
  · obtain ⟨p, dx, l, st, z, N, S, rfl, ⟨hp, hl⟩, hz, hz1, hL, q0, q1⟩ := h
    refine ⟨_, (pss_cons (ps_if (pt_not (pt_truth (pe_fld (pv 0) rfl) (by intro _; rfl))) (pss_one (ps_ret pe_non)) pss_nil) (pss_cons (ps_expr (pe_bm PySem.F.plainAttrs_list PySem.F.slot_list_extend PySem.F.type_list_extend mt_extend (pe_fld (pv 0) rfl) (pa_cons (pe_op op_rep (pe_lst (pa_cons pe_int pa_nil)) (pe_op op_sub (pe_fld (pv 0) rfl) (pe_callB call_len_seq (by rfl) T.z_len PySem.boot_len (pa_cons (pe_fld (pv 0) rfl) pa_nil)))) pa_nil))) (pss_one (ps_ret (pe_meth0 (pv 0) T.cl_Laying T.M_Laying_done (ok_Laying_done T) (hr.mono (by decide)) T.b_Laying_done .nil pass0))))), ?_⟩
    refine ⟨_, rfl, p, _, dx, _, _, rfl, hp, T.cl_Laying, T.n_Laying_body, lf_body, _, .inl ⟨_, SqL.of hl, rfl⟩, ?_⟩
    have hbl := body_length z N
    by_cases hm : N.length % z = 0
    · have e : N.drop (N.length / z * z) = [] := List.eq_nil_of_length_eq_zero (by omega)
      rw [e]
      exact q0 hm
    · have e : (!(!((N.drop (N.length / z * z)).map V.int).isEmpty)) = false := by
        cases hd : N.drop (N.length / z * z) with
        | nil => rw [hd] at hbl; simp at hbl; omega
        | cons x r => rfl
      show (if (!(!((N.drop (N.length / z * z)).map V.int).isEmpty)) = true then _ else _)
      rw [e]
      refine iteF ?_
      -- self._body.extend([0] * (self._size - len(self._body)))
      refine ⟨_, rfl, p, _, dx, _, _, rfl, hp, T.cl_Laying, T.n_Laying_body, lf_body, .inl ⟨rfl, _, SqL.of hl⟩, ?_⟩
      refine ⟨(by decide : (1 : Nat) ≤ sizeLine), fun a ha => ?_⟩
      have k1 : Keep [p, l] H (upd H a (.lst [.int 0])) := keep_new (Keep.refl _ _) ha
      have npa : p ≠ a := ne_of_none hp ha
      have nla : l ≠ a := ne_of_none hl ha
      have hp1 : upd H a (.lst [.int 0]) p = some (.ins T.A_Laying dx (lf (S.length : Nat) st (z : Nat) (N.length / z : Nat) (firstOf z (N.length / z) S) l)) := by rw [upd_ne npa]; exact hp
      have hl1 : upd H a (.lst [.int 0]) l = some (.lst ((N.drop (N.length / z * z)).map V.int)) := by rw [upd_ne nla]; exact hl
      refine ⟨_, rfl, p, _, dx, _, _, rfl, hp1, T.cl_Laying, T.n_Laying_size, lf_size, ?_⟩
      refine ⟨_, rfl, p, _, dx, _, _, rfl, hp1, T.cl_Laying, T.n_Laying_body, lf_body, l, _, rfl, .inl (SqL.of hl1), _, _, rfl, rfl, ?_⟩
      have hlen : ((N.drop (N.length / z * z)).map V.int).length = N.length % z := by rw [List.length_map, hbl]
      have hmz := Nat.mod_lt N.length hz
      refine ⟨a, _, _, rfl, rfl, upd_same, (by omega), (by omega), le_line (by rw [List.length_singleton]; omega), fun b hb => ?_⟩
      have hb0 : H b = none := (same_new (Same.refl _) ha).free hb
      have nlb : l ≠ b := ne_of_none hl hb0
      have npb : p ≠ b := ne_of_none hp hb0
      have ez : (List.replicate (((z : Nat) : Int) - ((((N.drop (N.length / z * z)).map V.int).length : Nat) : Int)).toNat [V.int 0]).flatten = (List.replicate (z - N.length % z) (0 : Int)).map V.int := by
        rw [hlen, show (((z : Nat) : Int) - ((N.length % z : Nat) : Int)).toNat = z - N.length % z by omega]
        induction (z - N.length % z) with
        | zero => rfl
        | succ n ih => rw [List.replicate_succ, List.replicate_succ, List.flatten_cons, ih]; rfl
      rw [ez]
      refine ⟨l, b, _, _, rfl, rfl, (by rw [upd_ne nlb]; exact hl1), upd_same, le_line (by rw [List.length_map, List.length_map, List.length_replicate, hbl]; omega), ?_⟩
      rw [← List.map_append]
      have npl : p ≠ l := ne_of hp hl (by intro e; cases e)
      have hp2 : upd (upd (upd H a (.lst [.int 0])) b (.lst ((List.replicate (z - N.length % z) (0 : Int)).map V.int))) l (.lst ((N.drop (N.length / z * z) ++ List.replicate (z - N.length % z) 0).map V.int)) p = some (.ins T.A_Laying dx (lf (S.length : Nat) st (z : Nat) (N.length / z : Nat) (firstOf z (N.length / z) S) l)) := by
        rw [upd_ne npl, upd_ne npb]
        exact hp1
      have k2 := keep_upd (o := .lst ((N.drop (N.length / z * z) ++ List.replicate (z - N.length % z) 0).map V.int)) (keep_new (o := .lst ((List.replicate (z - N.length % z) (0 : Int)).map V.int)) k1 hb0) (show l ∈ [p, l] by simp)
      refine ⟨_, rfl, p, dx, _, rfl, hp2, lf_no (by decide +kernel), p, dx, l, _, _, _, _, _, _, rfl, hp2, upd_same, fun f H' l' tf hp' hl' nl nf k => ?_⟩
      have nl0 : H l' = none := by
        cases e : H l' with
        | none => rfl
        | some o =>
          by_cases e1 : l' ∈ [p, l]
          · rcases List.mem_cons.mp e1 with z1 | z1
            · subst z1; rw [hp2] at nl; cases nl
            · rw [List.mem_singleton.mp z1, upd_same] at nl; cases nl
          · rw [k2 _ _ e1 e] at nl; cases nl
      have nf0 : H f = none := by
        cases e : H f with
        | none => rfl
        | some o =>
          by_cases e1 : f ∈ [p, l]
          · rcases List.mem_cons.mp e1 with z1 | z1
            · subst z1; rw [hp2] at nf; cases nf
            · rw [List.mem_singleton.mp z1, upd_same] at nf; cases nf
          · rw [k2 _ _ e1 e] at nf; cases nf
      refine q1 hm f H' l' tf ⟨?_, ?_⟩ nl0 nf0 (k2.trans (k.mono (by simp))) (((((Dom.refl H).upd _ _).upd _ _).upd _ _).trans (Dom.of_keep k fun x hx => by rw [List.mem_singleton.mp hx]; exact ⟨_, hp'⟩))
      · have e1 : (padN z N).length = (N.length / z + 1) * z := by
          unfold padN
          rw [if_neg hm, List.length_append, List.length_replicate, Nat.succ_mul]
          have := div_mod z N.length
          omega
        have e2 : (padN z N).length / z = N.length / z + 1 := by rw [e1, Nat.mul_div_cancel _ hz]
        rw [e2, firstOf_none (fun s hs => ?_)]
        · exact hp'
        · have := hL.le s hs
          have := div_hi hz N.length
          rw [Nat.succ_mul]
          omega
      · have e1 : (padN z N).length = (N.length / z + 1) * z := by
          unfold padN
          rw [if_neg hm, List.length_append, List.length_replicate, Nat.succ_mul]
          have := div_mod z N.length
          omega
        have e2 : (padN z N).length / z * z = (padN z N).length := by rw [e1, Nat.mul_div_cancel _ hz]
        rw [e2, List.drop_length]
        exact hl'
end
end K20

namespace K20
open PySem PySem.Spec PyProof.Rows L2 Sky
section
variable {P : Program} {w : World} {K : PySem.W.Frag} {mg : Str → Option Value} {base : Heap}
/-! ### lay -/
def sp_lay (C : Addr) : Sp := fun vs H Q _ => ∃ (p dx l a : Addr) (st : Int) (z : Nat) (N : List Int) (S : List Nat) (t : List Int), vs = [.ref p, .ref a] ∧ LAt C H p dx l st z N S ∧ 0 < z ∧ z ≤ 100 ∧ Laid N S ∧
  H a = some (.tup (t.map V.int)) ∧ t.length ≤ 1000 ∧
  ∀ r us H' l', H' r = some (.lst us) → TDs H' us (((frms z (lay1 (N, S) t).1 (lay1 (N, S) t).2).drop (N.length / z)).map (frmD st)) → LAt C H' p dx l' st z (lay1 (N, S) t).1 (lay1 (N, S) t).2 →
    (l' = l ∨ H l' = none) → H r = none → Keep [p, l] H H' → Dom H H' → Q (.ref r) H'
theorem ok_Laying_lay (T : Tx K mg) : FnOk P w K mg base CX0 2 T.a_Laying_lay T.d_Laying_lay ["self", "telling"] (sp_lay T.A_Laying) := by
  have nd := sc_Laying_lay.nd
  refine T.F_Laying_lay.ok sc_Laying_lay (fun vs H Q E h => ?_) (fun cdv A outer s H vs Q E hr h => ?_)
  · obtain ⟨p, _, _, _, _, _, _, _, _, rfl, _⟩ := h
    rfl
  · obtain ⟨p, dx, l, a, st, z, N, S, t, rfl, ⟨hp, hl⟩, hz, hz1, hL, ha, ht, q⟩ := h
    have npl : p ≠ l := ne_of hp hl (by intro e; cases e)
    have nap : a ≠ p := ne_of ha hp (by intro e; cases e)
    have nal : a ≠ l := ne_of ha hl (by intro e; cases e)
    have hbl := body_length z N
    refine ⟨_, (pss_cons (ps_if (pt_cmpR op_isN (pe_fld (pv 0) rfl) pe_non (nomark _)) (pss_one (ps_fld (pv 0) (pe_callB call_len_seq (by rfl) T.z_len PySem.boot_len (pa_cons (pe_fld (pv 0) rfl) pa_nil)) rfl)) pss_nil) (pss_cons (ps_set (i := 2) nd rfl (Or.inl rfl) (pe_lst (pa_cons (pe_callB call_len_seq (by rfl) T.z_len PySem.boot_len (pa_cons (pv 1) pa_nil)) (pa_cons (pe_op op_fdivN (pe_fld (pv 0) rfl) (pe_glob (v := .int 256) (by rfl) T.c_HUNDRED ⟨_, rfl⟩)) (pa_cons (pe_op op_modN (pe_fld (pv 0) rfl) (pe_glob (v := .int 256) (by rfl) T.c_HUNDRED ⟨_, rfl⟩)) (StX.pa_star (pv 1) pa_nil)))))) (pss_cons (ps_fldaug (pv 0) pe_int in_add) (pss_cons (ps_set (i := 3) nd rfl (Or.inl rfl) (pe_lst pa_nil)) (pss_cons (ps_for PassesOwn.never rfl (pi_list (pv 2)) (pg_name (i := 4) nd rfl (Or.inl rfl)) (pss_cons (ps_expr (pe_bm PySem.F.plainAttrs_list PySem.F.slot_list_append PySem.F.type_list_append mt_append (pe_fld (pv 0) rfl) (pa_cons (pv 4) pa_nil))) (pss_one (ps_if (pt_cmpR op_eq (pe_callB call_len_seq (by rfl) T.z_len PySem.boot_len (pa_cons (pe_fld (pv 0) rfl) pa_nil)) (pe_fld (pv 0) rfl) (nomark _)) (pss_one (ps_expr (pe_bm PySem.F.plainAttrs_list PySem.F.slot_list_append PySem.F.type_list_append mt_append (pv 3) (pa_cons (pe_meth0 (pv 0) T.cl_Laying T.M_Laying_done (ok_Laying_done T) (hr.mono (by decide)) T.b_Laying_done .nil pass0) pa_nil)))) pss_nil)))) (pss_one (ps_ret (pv 3)))))))), ?_⟩
    -- if self._first is None: self._first = len(self._body)
    refine ⟨_, rfl, p, _, dx, _, _, rfl, hp, T.cl_Laying, T.n_Laying_first, lf_first, rfl, _, rfl, ?_⟩
    refine if_skip (fun H1 => H1 p = some (.ins T.A_Laying dx (lf (S.length : Nat) st (z : Nat) (N.length / z : Nat) (firstOf z (N.length / z) (S ++ [N.length])) l)) ∧ H1 l = some (.lst ((N.drop (N.length / z * z)).map V.int)) ∧ Keep [p, l] H H1 ∧ Dom H H1)
      (fun H1 ⟨hp1, hl1, k1, d1⟩ => ?_) (fun e rest => ?_) (fun e => ?_)
    case refine_2.refine_2 =>
      refine ⟨_, rfl, p, _, dx, _, _, rfl, hp, T.cl_Laying, T.n_Laying_body, lf_body, l, _, rfl, .inl (SqL.of hl), _, rfl, p, _, dx, _, rfl, hp, T.cl_Laying, T.n_Laying_first, lf_few, ?_⟩
      have e0 : firstOf z (N.length / z) S = none := by
        have := of_decide_eq_true e
        cases h : firstOf z (N.length / z) S with
        | none => rfl
        | some x => rw [h] at this; cases this
      have e1 : V.int (((N.drop (N.length / z * z)).map V.int).length : Nat) = optV (some (N.length % z)) := by rw [List.length_map, hbl]; rfl
      rw [e1, pf_first]
      refine rest _ ⟨?_, by rw [upd_ne npl.symm]; exact hl, keep_upd (Keep.refl _ _) (by simp), dom_upd _ _ _⟩
      rw [upd_same, first_start hz, e0]
      rfl
    case refine_2.refine_3 =>
      refine ⟨?_, hl, Keep.refl _ _, Dom.refl _⟩
      rw [hp, first_start hz]
      cases h : firstOf z (N.length / z) S with
      | none => rw [h] at e; exact absurd (decide_eq_true rfl) e
      | some x => rfl
    -- laid = [..]
    have ha1 : H1 a = some (.tup (t.map V.int)) := k1 _ _ (by simp [nap, nal]) ha
    refine ⟨_, rfl, a, _, rfl, .inr (SqT.of ha1), ?_⟩
    refine ⟨_, rfl, p, _, dx, _, _, rfl, hp1, T.cl_Laying, T.n_Laying_many, lf_many, _, 256, rfl, rfl, (show CDivN _ 256 from ⟨by decide, by decide⟩), ?_⟩
    refine ⟨_, rfl, p, _, dx, _, _, rfl, hp1, T.cl_Laying, T.n_Laying_many, lf_many, _, 256, rfl, rfl, (by decide : (256 : Int) ≠ 0), ?_⟩
    refine ⟨_, rfl, a, _, rfl, .inl (SqT.of ha1), ?_⟩
    have elaid : (V.int (((t.map V.int).length : Nat) : Int) :: V.int (((S.length : Nat) : Int).fdiv 256) :: V.int (((S.length : Nat) : Int).fmod 256) :: (t.map V.int ++ [])) = (laidN (S.length : Nat) t).map V.int := by
      unfold laidN
      rw [List.append_nil, List.length_map]
      rfl
    refine ⟨?_, fun ll hll => ?_⟩
    · show (V.int (((t.map V.int).length : Nat) : Int) :: V.int (((S.length : Nat) : Int).fdiv 256) :: V.int (((S.length : Nat) : Int).fmod 256) :: (t.map V.int ++ [])).length ≤ sizeLine
      rw [elaid, List.length_map, laidN_length]
      exact le_line (by omega)
    show tSeq _ _ _ (L2.start N_Laying_lay [V.ref p, V.ref a] |>.set 2 (some (.ref ll))) (upd H1 ll (.lst (V.int (((t.map V.int).length : Nat) : Int) :: V.int (((S.length : Nat) : Int).fdiv 256) :: V.int (((S.length : Nat) : Int).fmod 256) :: (t.map V.int ++ []))))
    rw [elaid]
    have nll0 : H ll = none := d1 _ hll
    have nlp : p ≠ ll := ne_of_none hp1 hll
    have nlb : l ≠ ll := ne_of_none hl1 hll
    -- self.many += 1
    refine ⟨_, rfl, p, _, dx, _, _, rfl, (by rw [upd_ne nlp]; exact hp1), T.cl_Laying, T.n_Laying_many, lf_many, _, 1, rfl, rfl, dx, _, (by rw [upd_ne nlp]; exact hp1), lf_few, ?_⟩
    rw [pf_many]
    -- full = []
    refine ⟨Nat.zero_le _, fun fl hfl => ?_⟩
    have nfp : p ≠ fl := ne_of_none upd_same hfl
    have hfl1 := hfl
    rw [upd_ne nfp.symm] at hfl1
    have nfl : ll ≠ fl := ne_of_none upd_same hfl1
    rw [upd_ne nfl.symm] at hfl1
    have nfb : l ≠ fl := ne_of_none hl1 hfl1
    have nfl0 : H fl = none := d1 _ hfl1
    have nff : a ≠ fl := ne_of_none ha1 hfl1
    have nfa : a ≠ ll := ne_of_none ha1 hll
    have kb : Keep [p, l] H (upd (upd (upd H1 ll (.lst ((laidN (S.length : Nat) t).map V.int))) p (.ins T.A_Laying dx (lf ((S.length : Nat) + 1) st (z : Nat) (N.length / z : Nat) (firstOf z (N.length / z) (S ++ [N.length])) l))) fl (.lst [])) :=
      keep_new (keep_upd (keep_new k1 nll0) (by simp)) nfl0
    have db : Dom H (upd (upd (upd H1 ll (.lst ((laidN (S.length : Nat) t).map V.int))) p (.ins T.A_Laying dx (lf ((S.length : Nat) + 1) st (z : Nat) (N.length / z : Nat) (firstOf z (N.length / z) (S ++ [N.length])) l))) fl (.lst [])) := ((d1.upd _ _).upd _ _).upd _ _
    have hpb : (upd (upd (upd H1 ll (.lst ((laidN (S.length : Nat) t).map V.int))) p (.ins T.A_Laying dx (lf ((S.length : Nat) + 1) st (z : Nat) (N.length / z : Nat) (firstOf z (N.length / z) (S ++ [N.length])) l))) fl (.lst [])) p = some (.ins T.A_Laying dx (lf ((S ++ [N.length]).length : Nat) st (z : Nat) (N.length / z : Nat) (firstOf z (N.length / z) (S ++ [N.length])) l)) := by
      rw [upd_ne nfp, upd_same, List.length_append]
      rfl
    have hlb : (upd (upd (upd H1 ll (.lst ((laidN (S.length : Nat) t).map V.int))) p (.ins T.A_Laying dx (lf ((S.length : Nat) + 1) st (z : Nat) (N.length / z : Nat) (firstOf z (N.length / z) (S ++ [N.length])) l))) fl (.lst [])) l = some (.lst ((N.drop (N.length / z * z)).map V.int)) := by
      rw [upd_ne nfb, upd_ne npl.symm, upd_ne nlb]
      exact hl1
    have hllb : (upd (upd (upd H1 ll (.lst ((laidN (S.length : Nat) t).map V.int))) p (.ins T.A_Laying dx (lf ((S.length : Nat) + 1) st (z : Nat) (N.length / z : Nat) (firstOf z (N.length / z) (S ++ [N.length])) l))) fl (.lst [])) ll = some (.lst ((laidN (S.length : Nat) t).map V.int)) := by
      rw [upd_ne nfl, upd_ne nlp.symm, upd_same]
    have hflb : (upd (upd (upd H1 ll (.lst ((laidN (S.length : Nat) t).map V.int))) p (.ins T.A_Laying dx (lf ((S.length : Nat) + 1) st (z : Nat) (N.length / z : Nat) (firstOf z (N.length / z) (S ++ [N.length])) l))) fl (.lst [])) fl = some (.lst []) := upd_same
    generalize (upd (upd (upd H1 ll (.lst ((laidN (S.length : Nat) t).map V.int))) p (.ins T.A_Laying dx (lf ((S.length : Nat) + 1) st (z : Nat) (N.length / z : Nat) (firstOf z (N.length / z) (S ++ [N.length])) l))) fl (.lst [])) = Hb at *
    -- the loop
    refine ⟨_, rfl, ll, rfl, ⟨_, SqL.of hllb⟩, ?_⟩
    refine for_list (K := K) (a := ll) (xs := (laidN (S.length : Nat) t).map V.int) (fun i σ H' => ∃ (v : Option V) (l' : Addr) (us : List V), σ = [some (.ref p), some (.ref a), some (.ref ll), some (.ref fl), v] ∧ (l' = l ∨ Hb l' = none) ∧
      LAt T.A_Laying H' p dx l' st z (N ++ (laidN (S.length : Nat) t).take i) (S ++ [N.length]) ∧ H' fl = some (.lst us) ∧ TDs H' us (((frms z (N ++ (laidN (S.length : Nat) t).take i) (S ++ [N.length])).drop (N.length / z)).map (frmD st)) ∧ Keep [p, l, fl] Hb H' ∧ Dom Hb H' ∧ us.length ≤ i) ?_ ?_ ?_ ?_
    · refine ⟨none, l, [], rfl, .inl rfl, ?_, hflb, ?_, Keep.refl _ _, Dom.refl _, Nat.le_refl _⟩
      · rw [List.take_zero, List.append_nil]
        exact ⟨hpb, hlb⟩
      · rw [List.take_zero, List.append_nil, frms_start, List.drop_of_length_le (by rw [frms_length]; exact Nat.le_refl _)]
        exact .nil
    · rintro i σ H' _ ⟨v, l', us, _, _, _, _, _, k, _, _⟩
      exact SqL.of (k _ _ (by simp [nlp.symm, nlb.symm, nfl]) hllb)
    · rintro i y σ H' hi ⟨v, l', us, rfl, hl', ⟨hp', hb'⟩, hf', hu, k, d, hus⟩
      obtain ⟨x, hx, rfl⟩ := map_get hi
      have hi3 : i < t.length + 3 := by rw [← laidN_length (S.length : Nat) t]; exact (List.getElem?_eq_some_iff.mp hx).1
      have npl' : p ≠ l' := ne_of hp' hb' (by intro e; cases e)
      have nfl' : fl ≠ l' := by
        rcases hl' with e | e
        · rw [e]; exact nfb.symm
        · exact ne_of_none hflb e
      have etake : N ++ (laidN (S.length : Nat) t).take (i + 1) = (N ++ (laidN (S.length : Nat) t).take i) ++ [x] := by rw [List.take_add_one, hx, List.append_assoc]; rfl
      have hLi : Laid (N ++ (laidN (S.length : Nat) t).take i) (S ++ [N.length]) := (hL.start).more _
      have hN0 : N.length ≤ (N ++ (laidN (S.length : Nat) t).take i).length := by rw [List.length_append]; exact Nat.le_add_right _ _
      have hS0 : ∀ s ∈ S ++ [N.length], s ≤ N.length := hL.start.le
      rw [etake]
      generalize N ++ (laidN (S.length : Nat) t).take i = Ni at *
      have hbi := body_length z Ni
      -- self._body.append(number)
      refine ⟨_, rfl, p, _, dx, _, _, rfl, hp', T.cl_Laying, T.n_Laying_body, lf_body, .inl ⟨rfl, _, SqL.of hb'⟩, _, rfl, l', _, _, rfl, rfl, hb', lt_line (by rw [List.length_map, hbi]; have := Nat.mod_lt Ni.length hz; omega), ?_⟩
      rw [show (Ni.drop (Ni.length / z * z)).map V.int ++ [V.int x] = (Ni.drop (Ni.length / z * z) ++ [x]).map V.int by rw [List.map_append]; rfl]
      have hp2 : upd H' l' (.lst ((Ni.drop (Ni.length / z * z) ++ [x]).map V.int)) p = some (.ins T.A_Laying dx (lf ((S ++ [N.length]).length : Nat) st (z : Nat) (Ni.length / z : Nat) (firstOf z (Ni.length / z) (S ++ [N.length])) l')) := by rw [upd_ne npl']; exact hp'
      have hf2 : upd H' l' (.lst ((Ni.drop (Ni.length / z * z) ++ [x]).map V.int)) fl = some (.lst us) := by rw [upd_ne nfl']; exact hf'
      have hu2 : TDs (upd H' l' (.lst ((Ni.drop (Ni.length / z * z) ++ [x]).map V.int))) us (((frms z Ni (S ++ [N.length])).drop (N.length / z)).map (frmD st)) := hu.mono (ts_upd (TSm.refl _) (NoT.lst hb'))
      have k2 : Keep [p, l, fl] Hb (upd H' l' (.lst ((Ni.drop (Ni.length / z * z) ++ [x]).map V.int))) := by
        rcases hl' with e | e
        · exact keep_upd k (by simp [e])
        · exact keep_mut k e
      have d2 : Dom Hb (upd H' l' (.lst ((Ni.drop (Ni.length / z * z) ++ [x]).map V.int))) := d.upd _ _
      have hb2 : upd H' l' (.lst ((Ni.drop (Ni.length / z * z) ++ [x]).map V.int)) l' = some (.lst ((Ni.drop (Ni.length / z * z) ++ [x]).map V.int)) := upd_same
      generalize upd H' l' (.lst ((Ni.drop (Ni.length / z * z) ++ [x]).map V.int)) = H2 at *
      -- if len(self._body) == self._size
      refine ⟨_, rfl, p, _, dx, _, _, rfl, hp2, T.cl_Laying, T.n_Laying_body, lf_body, l', _, rfl, .inl (SqL.of hb2), _, rfl, p, _, dx, _, _, rfl, hp2, T.cl_Laying, T.n_Laying_size, lf_size, rfl, _, rfl, ?_⟩
      have hlen : ((Ni.drop (Ni.length / z * z) ++ [x]).map V.int).length = Ni.length % z + 1 := by rw [List.length_map, List.length_append, hbi]; rfl
      refine ite2 (fun e => ?_) (fun e => ?_)
      · have e0 : Ni.length % z + 1 = z := by
          have := of_decide_eq_true e
          rw [hlen] at this
          injection this with this
          exact Int.ofNat.inj this
        obtain ⟨g1, g2, g3⟩ := step_full hz e0 (x := x)
        -- full.append(self._done())
        refine ⟨_, rfl, .inl ⟨rfl, _, SqL.of hf2⟩, _, rfl, p, dx, _, rfl, hp2, lf_no (by decide +kernel), p, dx, l', _, _, _, _, _, _, rfl, hp2, hb2, fun f H3 l3 tf hp3 hl3 nl3 nf3 k3 => ?_⟩
        have npf2 : fl ≠ p := nfp.symm
        have hf3 : H3 fl = some (.lst us) := k3 _ _ (by simp [npf2]) hf2
        have ts3 : TSm H2 H3 := k3.ts (fun m hm => by rw [List.mem_singleton.mp hm]; exact NoT.ins hp2)
        have hu3 := hu2.mono ts3
        refine ⟨fl, us, _, rfl, rfl, hf3, ?_, ?_⟩
        · exact lt_line (by omega)
        · refine ⟨some (.int x), l3, us ++ [.ref f], rfl, .inr (d2 _ nl3), ⟨?_, ?_⟩, upd_same, ?_, ?_, (d2.trans (Dom.of_keep k3 (by intro m hm; rw [List.mem_singleton.mp hm]; exact ⟨_, hp3⟩))).upd _ _, by rw [List.length_append]; exact Nat.succ_le_succ hus⟩
          · rw [upd_ne nfp, g2, firstOf_none (fun s hs => by have := hS0 s hs; rw [Nat.succ_mul]; omega)]
            exact hp3
          · have n3f : l3 ≠ fl := (ne_of_none hf2 nl3).symm
            rw [upd_ne n3f, g2, g3]
            exact hl3
          · rw [frms_full hz (by rw [List.length_singleton]; exact g1), List.drop_append_of_le_length (by rw [frms_length]; exact Nat.div_le_div_right hN0), List.map_append]
            exact (hu3.app (.one tf)).mono (ts_upd (TSm.refl _) (NoT.lst hf3))
          · exact keep_upd (k2.trans (k3.mono (by simp))) (by simp)
      · have e0 : Ni.length % z + 1 ≠ z := fun z1 => e (decide_eq_true (by rw [hlen, z1]))
        obtain ⟨g1, g2, g3⟩ := step_not hz e0 (x := x)
        refine ⟨some (.int x), l', us, rfl, hl', ⟨?_, ?_⟩, hf2, ?_, k2, d2, Nat.le_succ_of_le hus⟩
        · rw [g2]; exact hp2
        · rw [g2, g3]; exact hb2
        · rw [frms_same hz (by rw [List.length_singleton]; exact g1)]; exact hu2
    · rintro σ H' ⟨v, l', us, rfl, hl', hA, hf', hu, k, d, _⟩
      rw [List.take_of_length_le (by rw [List.length_map]; exact Nat.le_refl _)] at hA hu
      refine ⟨_, rfl, q fl us H' l' hf' hu hA ?_ nfl0 (kb.join k (by simp [nfl0])) (db.trans d)⟩
      rcases hl' with e | e
      · exact .inl e
      · exact .inr (db _ e)
end
end K20

namespace K20
open PySem PySem.Spec PyProof.Rows L2 Sky
def allFrms (z : Nat) (ts : List (List Int)) : List Frm := frms z (padN z (layAll ts).1) (layAll ts).2
end K20

namespace K20
open PySem PySem.Spec PyProof.Rows L2 Sky
section
variable {P : Program} {w : World} {K : PySem.W.Frag} {mg : Str → Option Value} {base : Heap}
/-- the drawing list: [mixed, the script's rest, which is next] -/
def HAt (H : Hp) (p q : Addr) : Prop := ∃ (m k : Int) (ns : List Int), p ≠ q ∧ H p = some (.lst [.int m, .ref q, .int k]) ∧ H q = some (.lst (ns.map V.int)) ∧ 0 ≤ m ∧ m < 2147483647 ∧ 0 ≤ k ∧ ns.length ≤ 63
theorem fmod_nn {a b : Int} (hb : 0 < b) : 0 ≤ a.fmod b := Int.fmod_nonneg_of_pos a hb
theorem fmod_lt {a b : Int} (hb : 0 < b) : a.fmod b < b := Int.fmod_lt_of_pos a hb
def sp_mix (K : PySem.W.Frag) : Sp := fun vs H Q _ => ∃ (a : Addr) (ns : List Int) (seed : Int), vs = [.ref a, .int seed] ∧ SqL K H a (ns.map V.int) ∧ 0 ≤ seed ∧ seed < 2147483647 ∧ ns.length ≤ 63 ∧
  ∀ p q H', HAt H' p q → H p = none → H q = none → Same H H' → Q (.ref p) H'
theorem ok_law_mix (T : Tx K mg) : FnOk P w K mg base CX0 1 T.a_law_mix T.d_law_mix ["_law_script", "_law_seed"] (sp_mix K) := by
  have nd := sc_law_mix.nd
  refine T.F_law_mix.ok sc_law_mix (fun vs H Q E h => ?_) (fun cdv A outer s H vs Q E hr h => ?_)
  · obtain ⟨_, _, _, rfl, _⟩ := h
    rfl
  · obtain ⟨a, ns, seed, rfl, hS, s0, s1, hns, k⟩ := h
    refine ⟨_, (pss_cons (ps_set (i := 2) nd rfl (Or.inl rfl) (pv 1)) (pss_cons (ps_for PassesOwn.never rfl (pi_list (pv 0)) (pg_name (i := 3) nd rfl (Or.inl rfl)) (pss_one (ps_set (i := 2) nd rfl (Or.inl rfl) (pe_op op_modN (pe_callTy call_int1 (by rfl) T.z_int (by decide +kernel) (pa_cons (pe_op op_add (pe_op op_add (pe_op op_mul (pv 2) pe_int) (pe_op op_modN (pe_callTy call_int1 (by rfl) T.z_int (by decide +kernel) (pa_cons (pv 3) pa_nil)) pe_int)) pe_int) pa_nil)) pe_int)))) (pss_one (ps_ret (pe_lst (pa_cons (pv 2) (pa_cons (pe_callTy call_list_of (by rfl) T.z_list (by decide +kernel) (pa_cons (pv 0) pa_nil)) (pa_cons pe_int pa_nil)))))))), ?_⟩
    refine ⟨_, rfl, _, rfl, a, rfl, ⟨_, hS⟩, ?_⟩
    refine for_list (K := K) (a := a) (xs := ns.map V.int) (fun i σ H' => ∃ (m : Int) (v : Option V), σ = [some (.ref a), some (.int seed), some (.int m), v] ∧ 0 ≤ m ∧ m < 2147483647 ∧ H' = H) ⟨seed, none, rfl, s0, s1, rfl⟩ (fun i σ H' _ ⟨_, _, _, _, _, e⟩ => by rw [e]; exact hS) ?_ ?_
    · rintro i y σ H' hy ⟨m, v, rfl, m0, m1, rfl⟩
      obtain ⟨x, hx, rfl⟩ := map_get hy
      refine ⟨_, rfl, m, 48271, rfl, rfl, .inr (by decide), ?_⟩
      refine ⟨_, rfl, .inl ⟨x, rfl, x, 2147483629, rfl, rfl, (by decide : (2147483629 : Int) ≠ 0), _, _, rfl, rfl, _, 1, rfl, rfl, .inl ⟨_, rfl, _, 2147483647, rfl, rfl, (by decide : (2147483647 : Int) ≠ 0), ?_⟩⟩⟩
      exact ⟨_, _, rfl, fmod_nn (by decide), fmod_lt (by decide), rfl⟩
    · rintro σ H' ⟨m, v, rfl, m0, m1, rfl⟩
      refine ⟨_, rfl, _, rfl, a, _, rfl, .inl hS, fun q hq => ⟨(by decide : (3 : Nat) ≤ sizeLine), fun p hp => ?_⟩⟩
      have nqp : q ≠ p := ne_of_none upd_same hp
      have hp0 : H' p = none := by rw [upd_ne nqp.symm] at hp; exact hp
      exact k p q _ ⟨m, 0, ns, nqp.symm, upd_same, by rw [upd_ne nqp]; exact upd_same, m0, m1, Int.le_refl _, hns⟩ hp0 hq (same_mut (same_new (Same.refl _) hq) hp0)
def sp_next : Sp := fun vs H Q _ => ∃ (p q : Addr) (n : Int), vs = [.ref p, .int n] ∧ HAt H p q ∧ 0 < n ∧ n < 1000000 ∧ ∀ r H', 0 ≤ r → r < n → HAt H' p q → Keep [p, q] H H' → Dom H H' → Q (.int r) H'
theorem ok_law_next (T : Tx K mg) : FnOk P w K mg base CX0 1 T.a_law_next T.d_law_next ["_law_h", "_law_many"] sp_next := by
  have nd := sc_law_next.nd
  refine T.F_law_next.ok sc_law_next (fun vs H Q E h => ?_) (fun cdv A outer s H vs Q E hr h => ?_)
  · obtain ⟨_, _, _, rfl, _⟩ := h
    rfl
  · obtain ⟨p, q, n, rfl, ⟨m, k, ns, npq, hp, hq, m0, m1, k0, hns⟩, n0, n1, fin⟩ := h
    refine ⟨_, (pss_cons (ps_set (i := 2) nd rfl (Or.inl rfl) (pe_op op_modN (pe_ix ix_list (pv 0) pe_int (fun _ _ => rfl)) (pe_callB (call_max2 rfl) (by rfl) T.z_max (by decide +kernel) (pa_cons pe_int (pa_cons (pe_callB call_len_seq (by rfl) T.z_len PySem.boot_len (pa_cons (pe_ix ix_list (pv 0) pe_int (fun _ _ => rfl)) pa_nil)) pa_nil))))) (pss_cons (ps_set (i := 3) nd rfl (Or.inl rfl) (pe_ifExp (pt_cmpR (op_neD hr.units) (pe_ix ix_list (pv 0) pe_int (fun _ _ => rfl)) (pe_lst pa_nil) (nomark _)) (pe_ix ix_list (pe_ix ix_list (pv 0) pe_int (fun _ _ => rfl)) (pv 2) (fun _ _ => rfl)) pe_int)) (pss_cons (ps_if (pt_cmpR op_ge (pv 3) (pe_op op_pow pe_int pe_int) (nomark _)) (pss_cons (ps_asg (pe_op op_fdivN (pv 3) (pv 1)) (pg_sub (pe_ix ix_list (pv 0) pe_int (fun _ _ => rfl)) (pv 2) set_list)) (pss_one (ps_ret (pe_op op_modN (pe_callTy call_int1 (by rfl) T.z_int (by decide +kernel) (pa_cons (pv 3) pa_nil)) (pv 1))))) pss_nil) (pss_cons (ps_asg (pe_op op_modN (pe_callTy call_int1 (by rfl) T.z_int (by decide +kernel) (pa_cons (pe_op op_add (pe_op op_add (pe_op op_mul (pe_ix ix_list (pv 0) pe_int (fun _ _ => rfl)) pe_int) (pe_op op_mul (pv 3) pe_int)) pe_int) pa_nil)) pe_int) (pg_sub (pv 0) pe_int set_list)) (pss_cons (ps_asg (pe_op op_add (pe_ix ix_list (pv 0) pe_int (fun _ _ => rfl)) pe_int) (pg_sub (pv 0) pe_int set_list)) (pss_one (ps_ret (pe_op op_modN (pe_callTy call_int1 (by rfl) T.z_int (by decide +kernel) (pa_cons (pe_op op_fdivN (pe_ix ix_list (pv 0) pe_int (fun _ _ => rfl)) pe_int) pa_nil)) (pv 1))))))))), ?_⟩
    -- at
    refine ⟨_, rfl, p, _, 2, .int k, rfl, rfl, SqL.of hp, atI_nat (j := 2) rfl, ?_⟩
    refine ⟨_, rfl, p, _, 1, .ref q, rfl, rfl, SqL.of hp, atI_nat (j := 1) rfl, q, _, rfl, .inl (SqL.of hq), 1, _, rfl, ?_⟩
    have hlen : ((ns.map V.int).length : Int) = (ns.length : Int) := by rw [List.length_map]
    rw [hlen]
    have hx : (if ((ns.length : Nat) : Int) > 1 then ((ns.length : Nat) : Int) else 1) = ((max 1 ns.length : Nat) : Int) := by
      split <;> omega
    show ∃ i j, V.int k = .int i ∧ V.int (if ((ns.length : Nat) : Int) > 1 then ((ns.length : Nat) : Int) else 1) = .int j ∧ _
    rw [hx]
    refine ⟨_, _, rfl, rfl, (by show ((max 1 ns.length : Nat) : Int) ≠ 0; omega), ?_⟩
    have hat0 : 0 ≤ k.fmod ((max 1 ns.length : Nat) : Int) := fmod_nn (by omega)
    have hat1 : k.fmod ((max 1 ns.length : Nat) : Int) < ((max 1 ns.length : Nat) : Int) := fmod_lt (by omega)
    obtain ⟨at', eat⟩ : ∃ at' : Nat, k.fmod ((max 1 ns.length : Nat) : Int) = (at' : Int) := ⟨_, (Int.toNat_of_nonneg hat0).symm⟩
    show tSeq _ _ _ (L2.start N_law_next [V.ref p, V.int n] |>.set 2 (some (.int (k.fmod ((max 1 ns.length : Nat) : Int))))) H
    rw [eat] at hat1 ⊢
    have hat2 : at' < max 1 ns.length := Int.ofNat_lt.mp hat1
    -- cell
    refine ⟨_, rfl, p, _, 1, .ref q, rfl, rfl, SqL.of hp, atI_nat (j := 1) rfl, Nat.zero_le _, fun e he => ?_⟩
    have npe : p ≠ e := ne_of_none hp he
    have nqe : q ≠ e := ne_of_none hq he
    have hp1 : upd H e (.lst []) p = some (.lst [.int m, .ref q, .int k]) := by rw [upd_ne npe]; exact hp
    have hq1 : upd H e (.lst []) q = some (.lst (ns.map V.int)) := by rw [upd_ne nqe]; exact hq
    have k1 : Keep [p, q] H (upd H e (.lst [])) := keep_new (Keep.refl _ _) he
    have d1 : Dom H (upd H e (.lst [])) := dom_upd _ _ _
    have de : Dp K (upd H e (.lst [])) (.ref e) (.list []) := .lst (SqL.of upd_same) .nil
    generalize upd H e (.lst []) = H1 at *
    refine ⟨.list (ns.map PyData.int), .list [], .lst (SqL.of hq1) (dpAll_ints ns), de, (Lay.list (k := 0) fun x _ => Lay.int x).shaped (by decide), Lay.nil.shaped (by decide), _, rfl, ?_⟩
    rw [eqv_nil]
    refine ife_skip (fun v H2 => ∃ cell : Int, v = .int cell ∧ H2 = H1 ∧ ((1000000000000000000 : Int) ≤ cell → ns[at']? = some cell)) (fun v H2 ⟨cell, ev, eh, hcell⟩ => ?_) (fun e rest => ?_) (fun e rest => ?_)
    case refine_2 =>
      have hne : ns ≠ [] := fun z => by subst z; exact absurd e (by decide)
      have hl0 : 0 < ns.length := List.length_pos_iff.mpr hne
      have hlt : at' < ns.length := by omega
      refine ⟨_, rfl, p, _, 1, .ref q, rfl, rfl, SqL.of hp1, atI_nat (j := 1) rfl, _, rfl, q, _, at', .int ns[at'], rfl, rfl, SqL.of hq1, atI_nat (by rw [List.getElem?_map, List.getElem?_eq_getElem hlt]; rfl), ?_⟩
      exact rest _ _ ⟨_, rfl, rfl, fun _ => List.getElem?_eq_getElem hlt⟩
    case refine_3 => exact rest _ _ ⟨0, rfl, rfl, fun z => absurd z (by decide)⟩
    subst ev eh
    refine ⟨_, rfl, 10, 18, rfl, rfl, ⟨by decide, by decide, by decide⟩, _, _, rfl, rfl, _, rfl, ite2 (fun e => ?_) (fun e => ?_)⟩
    · have hc : (1000000000000000000 : Int) ≤ cell := of_decide_eq_true e
      have hg := hcell hc
      have hlt : at' < ns.length := (List.getElem?_eq_some_iff.mp hg).1
      have hcq : CDivN cell n := ⟨by omega, by omega⟩
      refine ⟨_, rfl, _, rfl, cell, n, rfl, rfl, hcq, _, rfl, p, _, 1, .ref q, rfl, rfl, SqL.of hp1, atI_nat (j := 1) rfl, _, rfl, q, _, _, at', rfl, rfl, hq1, ?_, ?_⟩
      · unfold ixN
        rw [List.length_map, if_pos (by omega), if_pos (by omega)]
        simp
      · refine ⟨_, rfl, .inl ⟨cell, rfl, _, rfl, cell, n, rfl, rfl, (by show n ≠ 0; omega), ?_⟩⟩
        rw [show (ns.map V.int).set at' (V.int (cell.fdiv n)) = (ns.set at' (cell.fdiv n)).map V.int by rw [List.map_set]]
        refine fin _ _ (fmod_nn n0) (fmod_lt n0) ⟨m, k, _, npq, by rw [upd_ne npq]; exact hp1, upd_same, m0, m1, k0, by rw [List.length_set]; exact hns⟩ (keep_upd k1 (by simp)) (d1.upd _ _)
    · -- h[0] = ..
      refine ⟨_, rfl, p, _, 0, .int m, rfl, rfl, SqL.of hp1, atI_nat (j := 0) rfl, m, 48271, rfl, rfl, .inr (by decide), ?_⟩
      refine ⟨_, rfl, cell, 69621, rfl, rfl, .inr (by decide), _, _, rfl, rfl, _, 11, rfl, rfl, .inl ⟨_, rfl, _, 2147483647, rfl, rfl, (by decide : (2147483647 : Int) ≠ 0), ?_⟩⟩
      refine ⟨_, rfl, p, _, 0, 0, rfl, rfl, hp1, rfl, ?_⟩
      have hm0 : 0 ≤ (m * 48271 + cell * 69621 + 11).fmod 2147483647 := fmod_nn (by decide)
      have hm1 : (m * 48271 + cell * 69621 + 11).fmod 2147483647 < 2147483647 := fmod_lt (by decide)
      show tSeq _ _ _ _ (upd H2 p (.lst [.int ((m * 48271 + cell * 69621 + 11).fmod 2147483647), .ref q, .int k]))
      generalize (m * 48271 + cell * 69621 + 11).fmod 2147483647 = m' at *
      -- h[2] = h[2] + 1
      refine ⟨_, rfl, p, _, 2, .int k, rfl, rfl, SqL.of upd_same, atI_nat (j := 2) rfl, k, 1, rfl, rfl, _, rfl, p, _, 2, 2, rfl, rfl, upd_same, rfl, ?_⟩
      rw [upd_upd]
      -- return h[0] // 7 % many
      refine ⟨_, rfl, p, _, 0, .int m', rfl, rfl, SqL.of upd_same, atI_nat (j := 0) rfl, m', 7, rfl, rfl, ⟨by decide, by decide⟩, .inl ⟨_, rfl, _, rfl, _, n, rfl, rfl, (by show n ≠ 0; omega), ?_⟩⟩
      exact fin _ _ (fmod_nn n0) (fmod_lt n0) ⟨m', k + 1, ns, npq, upd_same, by rw [upd_ne npq.symm]; exact hq1, hm0, hm1, by omega, hns⟩ (keep_upd k1 (by simp)) (d1.upd _ _)
end
end K20

namespace K20
open PySem PySem.Spec PyProof.Rows L2 Sky
/-! ### dicts by marks, in lists -/
def mkK (m : Nat × Nat) : List Key := [Sum.inl ((m.1 : Nat) : Int), Sum.inl ((m.2 : Nat) : Int)]
theorem mkK_inj {a b : Nat × Nat} : mkK a = mkK b ↔ a = b := by
  constructor
  · intro h
    unfold mkK at h
    injection h with h1 h2
    injection h2 with h2 _
    injection h1 with h1
    injection h2 with h2
    exact Prod.ext (by omega) (by omega)
  · intro h; rw [h]
def keysD {α : Type} (f : α → Nat × Nat) (g : α → V) (l : List α) : List (List Key × V) := l.map fun x => (mkK (f x), g x)
section
variable {α : Type} {f : α → Nat × Nat} {g : α → V}
theorem val_some {l : List α} {x : α} (nd : (l.map f).Nodup) (h : x ∈ l) : valV (keysD f g l) (mkK (f x)) = some (g x) := by
  induction l with
  | nil => cases h
  | cons y l ih =>
    rw [List.map_cons, List.nodup_cons] at nd
    by_cases e : f y = f x
    · rcases List.mem_cons.mp h with z | z
      · subst z
        exact valV_pos rfl
      · exact absurd (List.mem_map.mpr ⟨x, z, e.symm⟩) nd.1
    · rcases List.mem_cons.mp h with z | z
      · subst z; exact absurd rfl e
      · unfold keysD
        rw [List.map_cons, valV_neg (fun q => e (mkK_inj.mp q))]
        exact ih nd.2 z
theorem val_none {l : List α} {m : Nat × Nat} (h : m ∉ l.map f) : valV (keysD f g l) (mkK m) = none := by
  induction l with
  | nil => rfl
  | cons y l ih =>
    rw [List.map_cons, List.mem_cons, not_or] at h
    unfold keysD
    rw [List.map_cons, valV_neg (fun q => h.1 (mkK_inj.mp q).symm)]
    exact ih h.2
theorem val_isSome {l : List α} {m : Nat × Nat} : (valV (keysD f g l) (mkK m)).isSome = decide (m ∈ l.map f) := by
  by_cases h : m ∈ l.map f
  · rw [decide_eq_true h]
    induction l with
    | nil => cases h
    | cons y l ih =>
      unfold keysD
      rw [List.map_cons]
      by_cases e : f y = m
      · rw [valV_pos (mkK_inj.mpr e)]; rfl
      · rw [valV_neg (fun q => e (mkK_inj.mp q))]
        rw [List.map_cons, List.mem_cons] at h
        rcases h with z | z
        · exact absurd z.symm e
        · exact ih z
  · rw [val_none h, decide_eq_false h]; rfl
theorem drop_keys {l : List α} {m : Nat × Nat} : dropK (keysD f g l) (mkK m) = keysD f g (l.filter fun x => decide (f x ≠ m)) := by
  unfold dropK keysD
  rw [List.filter_map]
  congr 1
  refine List.filter_congr fun x _ => ?_
  show decide (mkK (f x) ≠ mkK m) = decide (f x ≠ m)
  exact decide_eq_decide.mpr (not_congr mkK_inj)
theorem put_new {l : List α} {m : Nat × Nat} {v : V} (h : m ∉ l.map f) : putK (keysD f g l) (mkK m) v = keysD f g l ++ [(mkK m, v)] := putK_new _ (val_none h)
theorem keysD_len (l : List α) : (keysD f g l).length = l.length := by unfold keysD; rw [List.length_map]
end
def trueD (l : List (Nat × Nat)) : List (List Key × V) := keysD id (fun _ => .bl true) l
theorem true_in {l : List (Nat × Nat)} {m : Nat × Nat} : (valV (trueD l) (mkK m)).isSome = decide (m ∈ l) := by
  unfold trueD
  rw [val_isSome, List.map_id]
theorem true_drop {l : List (Nat × Nat)} {m : Nat × Nat} : dropK (trueD l) (mkK m) = trueD (l.filter fun x => decide (x ≠ m)) := drop_keys
theorem true_put {l : List (Nat × Nat)} {m : Nat × Nat} : putK (trueD l) (mkK m) (.bl true) = trueD (if m ∈ l then l else l ++ [m]) := by
  by_cases h : m ∈ l
  · rw [if_pos h]
    unfold putK
    rw [if_pos (by rw [valV_any, true_in]; exact decide_eq_true h)]
    unfold trueD keysD
    rw [List.map_map]
    refine List.map_congr_left fun x _ => ?_
    show (if mkK x = mkK m then (mkK x, V.bl true) else (mkK x, V.bl true)) = _
    split <;> rfl
  · rw [if_neg h]
    unfold trueD
    rw [put_new (by rw [List.map_id]; exact h)]
    unfold keysD
    rw [List.map_append]
    rfl
theorem trueD_len (l : List (Nat × Nat)) : (trueD l).length = l.length := keysD_len l
/-! ### a craft, in numbers -/
def mkOf (x : Nat × Frm) : Nat × Nat := (x.1, x.2.1)
structure Cr where
  q : List (Nat × Frm)
  sent : List (Nat × Nat)
  asked : List (Nat × Nat)
  gone : List (Nat × Nat)
  win : Bool
def Cr.marks (m : Cr) : List (Nat × Nat) := m.q.map mkOf
def Cr.new : Cr := ⟨[], [], [], [], false⟩
def Cr.letGo (m : Cr) (k : Nat × Nat) : Cr := { m with q := m.q.filter (fun x => decide (mkOf x ≠ k)), sent := m.sent.filter (fun j => decide (j ≠ k)), asked := m.asked.filter (fun j => decide (j ≠ k)) }
def Cr.old (m : Cr) : List (Nat × Nat) := m.marks.filter fun k => decide (k ∈ m.sent)
def Cr.fresh (m : Cr) : List (Nat × Nat) := m.marks.filter fun k => !decide (k ∈ m.sent)
def Cr.makeRoom (m : Cr) : Cr := match m.old with
  | k :: _ => m.letGo k
  | [] => match m.marks with
    | k :: _ => { m.letGo k with gone := m.gone ++ [k] }
    | [] => m
def Cr.put (m : Cr) (x : Nat × Frm) : Cr := { m with q := m.q ++ [x] }
def Cr.keep (room : Nat) (m : Cr) (x : Nat × Frm) : Cr := if m.q.length = room then m.makeRoom.put x else m.put x
def Cr.next (m : Cr) : Option (Nat × Nat) := (m.asked ++ m.fresh).head?
def Cr.sends (m : Cr) (k : Nat × Nat) : Cr := { m with asked := m.asked.filter (fun j => decide (j ≠ k)), sent := if k ∈ m.sent then m.sent else m.sent ++ [k] }
def Cr.knows (m : Cr) (ks : List (Nat × Nat)) : Cr := ks.foldl (fun m k => if k ∈ m.marks then m.letGo k else m) m
structure Cr.Ok (room : Nat) (m : Cr) : Prop where
  nd : m.marks.Nodup
  few : m.q.length ≤ room
  sn : m.sent.Nodup
  ss : ∀ k ∈ m.sent, k ∈ m.marks
  an : m.asked.Nodup
  as : ∀ k ∈ m.asked, k ∈ m.marks
theorem letGo_marks (m : Cr) (k : Nat × Nat) : (m.letGo k).marks = m.marks.filter fun j => decide (j ≠ k) := by
  unfold Cr.marks Cr.letGo
  rw [List.filter_map]
  rfl
theorem Cr.Ok.letGo {room : Nat} {m : Cr} (h : m.Ok room) (k : Nat × Nat) : (m.letGo k).Ok room := by
  refine ⟨?_, Nat.le_trans (List.length_filter_le _ _) h.few, List.Nodup.sublist List.filter_sublist h.sn, fun j hj => ?_, List.Nodup.sublist List.filter_sublist h.an, fun j hj => ?_⟩
  · rw [letGo_marks]; exact List.Nodup.sublist List.filter_sublist h.nd
  · rw [letGo_marks]
    have := List.mem_filter.mp hj
    exact List.mem_filter.mpr ⟨h.ss j this.1, this.2⟩
  · rw [letGo_marks]
    have := List.mem_filter.mp hj
    exact List.mem_filter.mpr ⟨h.as j this.1, this.2⟩
theorem filter_less {l : List (Nat × Frm)} {k : Nat × Nat} (h : k ∈ l.map mkOf) : (l.filter fun x => decide (mkOf x ≠ k)).length < l.length := by
  induction l with
  | nil => cases h
  | cons x l ih =>
    by_cases e : mkOf x = k
    · rw [List.filter_cons_of_neg (by simpa using e)]
      have := List.length_filter_le (fun x => decide (mkOf x ≠ k)) l
      rw [List.length_cons]
      omega
    · rw [List.filter_cons_of_pos (by simpa using e), List.length_cons, List.length_cons]
      rw [List.map_cons, List.mem_cons] at h
      rcases h with z | z
      · exact absurd z.symm e
      · have := ih z
        omega
theorem makeRoom_gone_le (m : Cr) : m.makeRoom.gone.length ≤ m.gone.length + 1 := by
  unfold Cr.makeRoom
  split
  · exact Nat.le_succ _
  · split
    · show (m.gone ++ _).length ≤ _
      rw [List.length_append]
      exact Nat.le_refl _
    · exact Nat.le_succ _
theorem Cr.Ok.room {room : Nat} {m : Cr} (h : m.Ok room) (ne : m.q ≠ []) : m.makeRoom.Ok room ∧ m.makeRoom.q.length < room ∧ (∀ k ∈ m.makeRoom.marks, k ∈ m.marks) ∧ m.makeRoom.win = m.win := by
  have hm : m.marks ≠ [] := by unfold Cr.marks; simpa using ne
  have hl := h.few
  have go : ∀ k ∈ m.marks, (m.letGo k).Ok room ∧ (m.letGo k).q.length < room ∧ (∀ j ∈ (m.letGo k).marks, j ∈ m.marks) := fun k hk => by
    refine ⟨h.letGo k, ?_, fun j hj => ?_⟩
    · have := filter_less (l := m.q) hk
      show (m.q.filter _).length < room
      omega
    · rw [letGo_marks] at hj
      exact (List.mem_filter.mp hj).1
  unfold Cr.makeRoom
  split
  · rename_i k r e
    have hk : k ∈ m.marks := (List.mem_filter.mp (show k ∈ m.old by rw [e]; exact List.mem_cons_self)).1
    obtain ⟨h1, h2, h3⟩ := go k hk
    exact ⟨h1, h2, h3, rfl⟩
  · split
    · rename_i k r e
      have hk : k ∈ m.marks := by rw [e]; exact List.mem_cons_self
      obtain ⟨h1, h2, h3⟩ := go k hk
      exact ⟨⟨h1.nd, h1.few, h1.sn, h1.ss, h1.an, h1.as⟩, h2, h3, rfl⟩
    · rename_i e
      exact absurd e hm
theorem Cr.Ok.put {room : Nat} {m : Cr} (h : m.Ok room) {x : Nat × Frm} (new : mkOf x ∉ m.marks) (less : m.q.length < room) : (m.put x).Ok room := by
  have e : (m.put x).marks = m.marks ++ [mkOf x] := by
    unfold Cr.marks Cr.put
    rw [List.map_append]
    rfl
  refine ⟨?_, ?_, h.sn, fun k hk => ?_, h.an, fun k hk => ?_⟩
  · rw [e, List.nodup_append]
    refine ⟨h.nd, by simp, fun a ha b hb => ?_⟩
    rw [List.mem_singleton.mp hb]
    exact fun z => new (by rw [← z]; exact ha)
  · show (m.q ++ [x]).length ≤ room
    rw [List.length_append, List.length_singleton]
    omega
  · rw [e]; exact List.mem_append_left _ (h.ss k hk)
  · rw [e]; exact List.mem_append_left _ (h.as k hk)
theorem Cr.Ok.sends {room : Nat} {m : Cr} (h : m.Ok room) {k : Nat × Nat} (hk : k ∈ m.marks) : (m.sends k).Ok room := by
  refine ⟨h.nd, h.few, ?_, fun j hj => ?_, List.Nodup.sublist List.filter_sublist h.an, fun j hj => h.as j (List.mem_filter.mp hj).1⟩
  · show (if k ∈ m.sent then m.sent else m.sent ++ [k]).Nodup
    split
    · exact h.sn
    · rename_i z
      rw [List.nodup_append]
      refine ⟨h.sn, by simp, fun a ha b hb => ?_⟩
      rw [List.mem_singleton.mp hb]
      exact fun e => z (by rw [← e]; exact ha)
  · have hj : j ∈ (if k ∈ m.sent then m.sent else m.sent ++ [k]) := hj
    split at hj
    · exact h.ss j hj
    · rcases List.mem_append.mp hj with z | z
      · exact h.ss j z
      · rw [List.mem_singleton.mp z]; exact hk
theorem Cr.Ok.lens {room : Nat} {m : Cr} (h : m.Ok room) : m.sent.length ≤ room ∧ m.asked.length ≤ room := by
  have hq : m.marks.length = m.q.length := List.length_map _
  have h1 := len_of_sub h.sn h.ss
  have h2 := len_of_sub h.an h.as
  have h3 := h.few
  omega
theorem Cr.Ok.next {room : Nat} {m : Cr} (h : m.Ok room) {k : Nat × Nat} (e : m.next = some k) : k ∈ m.marks := by
  rcases List.mem_append.mp (List.mem_of_head? e) with z | z
  · exact h.as k z
  · exact (List.mem_filter.mp z).1
theorem Cr.Ok.new (room : Nat) : Cr.new.Ok room := ⟨List.nodup_nil, Nat.zero_le _, List.nodup_nil, (by intro k hk; exact absurd hk List.not_mem_nil), List.nodup_nil, (by intro k hk; exact absurd hk List.not_mem_nil)⟩
/-! ### the object -/
def mD2 (k : Nat × Nat) : PyData := mkD k.1 k.2
def CF : List Str := ["_room", "_layings", "_window", "_frames", "_sent", "_asked", "_gone"]
theorem CF_nd : CF.Nodup := by decide +kernel
structure Ca where
  c : Addr
  dx : Addr
  la : Addr
  fr : Addr
  se : Addr
  ak : Addr
  go : Addr
def cf (room : Nat) (w : Bool) (A : Ca) : List (Str × V) := CF.zip [.int (room : Nat), .ref A.la, .bl w, .ref A.fr, .ref A.se, .ref A.ak, .ref A.go]
section
variable {room : Nat} {w : Bool} {A : Ca}
theorem cf_room : (cf room w A).lookup ("_room" : Str) = some (.int (room : Nat)) := lookup_zip CF _ 0 _ CF_nd rfl rfl
theorem cf_layings : (cf room w A).lookup ("_layings" : Str) = some (.ref A.la) := lookup_zip CF _ 1 _ CF_nd rfl rfl
theorem cf_window : (cf room w A).lookup ("_window" : Str) = some (.bl w) := lookup_zip CF _ 2 _ CF_nd rfl rfl
theorem cf_frames : (cf room w A).lookup ("_frames" : Str) = some (.ref A.fr) := lookup_zip CF _ 3 _ CF_nd rfl rfl
theorem cf_sent : (cf room w A).lookup ("_sent" : Str) = some (.ref A.se) := lookup_zip CF _ 4 _ CF_nd rfl rfl
theorem cf_asked : (cf room w A).lookup ("_asked" : Str) = some (.ref A.ak) := lookup_zip CF _ 5 _ CF_nd rfl rfl
theorem cf_gone : (cf room w A).lookup ("_gone" : Str) = some (.ref A.go) := lookup_zip CF _ 6 _ CF_nd rfl rfl
theorem cf_no {f : Str} (h : f ∉ CF) : (cf room w A).lookup f = none := lookup_zip_none CF _ _ h
theorem cf_few : (cf room w A).length < 1000 := Nat.lt_of_le_of_lt (zip_len CF _) (by decide)
theorem cf_put {b : Bool} : putF "_window" (.bl b) (cf room w A) = cf room b A := putF_zip CF _ 2 _ _ CF_nd rfl rfl
end
abbrev KF := (Nat × Frm) × V
def framesD (qv : List KF) : List (List Key × V) := keysD (fun x : KF => mkOf x.1) (fun x => x.2) qv
/-- a craft stands -/
structure CAt (C CL : Addr) (H : Hp) (A : Ca) (ps : List (Addr × Addr × Addr)) (room z : Nat) (ns : List (List Int × List Nat)) (m : Cr) (qv : List KF) (gs : List V) : Prop where
  o : H A.c = some (.ins C A.dx (cf room m.win A))
  la : H A.la = some (.lst (ps.map fun p => V.ref p.1))
  pl : ps.length = 4
  nl : ns.length = 4
  lay : ∀ (i : Nat) (p : Addr × Addr × Addr) (n : List Int × List Nat), ps[i]? = some p → ns[i]? = some n → LAt CL H p.1 p.2.1 p.2.2 ((i : Nat) : Int) z n.1 n.2 ∧ Laid n.1 n.2
  fr : H A.fr = some (.dT (framesD qv))
  qe : qv.map (·.1) = m.q
  ft : ∀ x ∈ qv, TD H x.2 (frmD ((x.1.1 : Nat) : Int) x.1.2)
  se : H A.se = some (.dT (trueD m.sent))
  ak : H A.ak = some (.dT (trueD m.asked))
  go : H A.go = some (.lst gs)
  gt : TDs H gs (m.gone.map mD2)
  ok : m.Ok room
  r60 : 1 ≤ room ∧ room ≤ 60
  d1 : A.fr ≠ A.se
  d2 : A.fr ≠ A.ak
  d3 : A.se ≠ A.ak
  d4 : A.la ≠ A.go
  pc : ∀ p ∈ ps, p.1 ≠ A.c ∧ p.2.2 ≠ A.la ∧ p.2.2 ≠ A.go
  pd : (ps.map (·.1)).Nodup
  ld : (ps.map (·.2.2)).Nodup
/-- all that may change -/
def cM (A : Ca) (ps : List (Addr × Addr × Addr)) : List Addr := [A.c, A.la, A.fr, A.se, A.ak, A.go] ++ ps.map (·.1) ++ ps.map (·.2.2)
section
variable {C CL : Addr} {H H' : Hp} {A : Ca} {ps : List (Addr × Addr × Addr)} {room z : Nat} {ns : List (List Int × List Nat)} {m : Cr} {qv : List KF} {gs : List V}
theorem CAt.marksq (h : CAt C CL H A ps room z ns m qv gs) : qv.map (fun x : KF => mkOf x.1) = m.marks := by
  unfold Cr.marks
  rw [← h.qe, List.map_map]
  rfl
theorem CAt.qlen (h : CAt C CL H A ps room z ns m qv gs) : qv.length = m.q.length := by rw [← h.qe, List.length_map]
theorem CAt.nec (h : CAt C CL H A ps room z ns m qv gs) : A.c ≠ A.fr ∧ A.c ≠ A.se ∧ A.c ≠ A.ak ∧ A.c ≠ A.go ∧ A.c ≠ A.la :=
  ⟨ne_of h.o h.fr (by intro e; cases e), ne_of h.o h.se (by intro e; cases e), ne_of h.o h.ak (by intro e; cases e), ne_of h.o h.go (by intro e; cases e), ne_of h.o h.la (by intro e; cases e)⟩
theorem CAt.neg (h : CAt C CL H A ps room z ns m qv gs) : A.go ≠ A.fr ∧ A.go ≠ A.se ∧ A.go ≠ A.ak :=
  ⟨ne_of h.go h.fr (by intro e; cases e), ne_of h.go h.se (by intro e; cases e), ne_of h.go h.ak (by intro e; cases e)⟩
theorem CAt.nel (h : CAt C CL H A ps room z ns m qv gs) : A.la ≠ A.fr ∧ A.la ≠ A.se ∧ A.la ≠ A.ak :=
  ⟨ne_of h.la h.fr (by intro e; cases e), ne_of h.la h.se (by intro e; cases e), ne_of h.la h.ak (by intro e; cases e)⟩
theorem CAt.lays (h : CAt C CL H A ps room z ns m qv gs) {p : Addr × Addr × Addr} (hp : p ∈ ps) : ∃ (C' dx : Addr) (f : List (Str × V)) (xs : List V), H p.1 = some (.ins C' dx f) ∧ H p.2.2 = some (.lst xs) := by
  obtain ⟨i, hi⟩ := List.getElem?_of_mem hp
  have hl := (List.getElem?_eq_some_iff.mp hi).1
  have hn : i < ns.length := by rw [h.nl, ← h.pl]; exact hl
  obtain ⟨⟨h1, h2⟩, _⟩ := h.lay i p ns[i] hi (List.getElem?_eq_getElem hn)
  exact ⟨_, _, _, _, h1, h2⟩
/-- the dicts and the list of the lost ones change -/
theorem CAt.step (h : CAt C CL H A ps room z ns m qv gs) (k : Keep [A.fr, A.se, A.ak, A.go] H H') {m' : Cr} {qv' : List KF} {gs' : List V} (hw : m'.win = m.win) (hok : m'.Ok room) (hq : qv'.map (·.1) = m'.q) (e1 : H' A.fr = some (.dT (framesD qv'))) (e2 : H' A.se = some (.dT (trueD m'.sent))) (e3 : H' A.ak = some (.dT (trueD m'.asked)))
    (e4 : H' A.go = some (.lst gs')) (t1 : ∀ x ∈ qv', TD H' x.2 (frmD ((x.1.1 : Nat) : Int) x.1.2)) (t2 : TDs H' gs' (m'.gone.map mD2)) : CAt C CL H' A ps room z ns m' qv' gs' := by
  obtain ⟨c1, c2, c3, c4, c5⟩ := h.nec
  obtain ⟨l1, l2, l3⟩ := h.nel
  refine ⟨by rw [hw]; exact k _ _ (by simp [c1, c2, c3, c4]) h.o, k _ _ (by simp [l1, l2, l3, h.d4]) h.la, h.pl, h.nl, fun i p n hp hn => ?_, e1, hq, t1, e2, e3, e4, t2, hok, h.r60, h.d1, h.d2, h.d3, h.d4, h.pc, h.pd, h.ld⟩
  obtain ⟨⟨h1, h2⟩, h3⟩ := h.lay i p n hp hn
  have hpc := h.pc p (List.mem_of_getElem? hp)
  refine ⟨⟨k _ _ ?_ h1, k _ _ ?_ h2⟩, h3⟩
  · simp [ne_of h1 h.fr (by intro e; cases e), ne_of h1 h.se (by intro e; cases e), ne_of h1 h.ak (by intro e; cases e), ne_of h1 h.go (by intro e; cases e)]
  · simp [ne_of h2 h.fr (by intro e; cases e), ne_of h2 h.se (by intro e; cases e), ne_of h2 h.ak (by intro e; cases e), hpc.2.2]
/-- something else changes -/
theorem CAt.else (h : CAt C CL H A ps room z ns m qv gs) {N : List Addr} (k : Keep N H H') (ts : TSm H H') (n : ∀ a ∈ cM A ps, a ∉ N) : CAt C CL H' A ps room z ns m qv gs := by
  have g : ∀ a, a ∈ cM A ps → ∀ o, H a = some o → H' a = some o := fun a ha o e => k a o (n a ha) e
  refine ⟨g _ (by simp [cM]) _ h.o, g _ (by simp [cM]) _ h.la, h.pl, h.nl, fun i p q hp hq => ?_, g _ (by simp [cM]) _ h.fr, h.qe, fun x hx => (h.ft x hx).mono ts, g _ (by simp [cM]) _ h.se, g _ (by simp [cM]) _ h.ak, g _ (by simp [cM]) _ h.go, h.gt.mono ts, h.ok, h.r60, h.d1, h.d2, h.d3, h.d4, h.pc, h.pd, h.ld⟩
  obtain ⟨⟨h1, h2⟩, h3⟩ := h.lay i p q hp hq
  have hm := List.mem_of_getElem? hp
  exact ⟨⟨g _ (List.mem_append_left _ (List.mem_append_right _ (List.mem_map.mpr ⟨p, hm, rfl⟩))) _ h1, g _ (List.mem_append_right _ (List.mem_map.mpr ⟨p, hm, rfl⟩)) _ h2⟩, h3⟩
theorem CAt.same (h : CAt C CL H A ps room z ns m qv gs) (s : Same H H') : CAt C CL H' A ps room z ns m qv gs := h.else (Keep.of_same (M := []) s) (TSm.of_same s) (by simp)
theorem CAt.noT4 (h : CAt C CL H A ps room z ns m qv gs) : ∀ a ∈ [A.fr, A.se, A.ak, A.go], NoT H a := by
  intro a ha
  simp only [List.mem_cons, List.not_mem_nil, or_false] at ha
  rcases ha with e | e | e | e
  · rw [e]; exact NoT.dT h.fr
  · rw [e]; exact NoT.dT h.se
  · rw [e]; exact NoT.dT h.ak
  · rw [e]; exact NoT.lst h.go
end
end K20

namespace K20
open PySem PySem.Spec PyProof.Rows L2 Sky
section
variable {P : Program} {w : World} {K : PySem.W.Frag} {mg : Str → Option Value} {base : Heap}
/-! ### _let_go -/
def sp_let_go (C CL : Addr) : Sp := fun vs H Q _ => ∃ (A : Ca) (ps : List (Addr × Addr × Addr)) (room z : Nat) (ns : List (List Int × List Nat)) (m : Cr) (qv : List KF) (gs : List V) (b : Addr) (k : Nat × Nat), vs = [.ref A.c, .ref b] ∧ CAt C CL H A ps room z ns m qv gs ∧
  H b = some (.tup [.int ((k.1 : Nat) : Int), .int ((k.2 : Nat) : Int)]) ∧ k ∈ m.marks ∧ ∀ H' qv', CAt C CL H' A ps room z ns (m.letGo k) qv' gs → Keep [A.fr, A.se, A.ak] H H' → Dom H H' → Q .non H'
theorem ok_Craft_let_go (T : Tx K mg) : FnOk P w K mg base CX0 1 T.a_Craft_let_go T.d_Craft_let_go ["self", "mark"] (sp_let_go T.A_Craft T.A_Laying) := by
  have nd := sc_Craft_let_go.nd
  refine T.F_Craft_let_go.ok sc_Craft_let_go (fun vs H Q E h => ?_) (fun cdv A0 outer s H vs Q E hr h => ?_)
  · obtain ⟨_, _, _, _, _, _, _, _, _, _, rfl, _⟩ := h
    rfl
  · obtain ⟨A, ps, room, z, ns, m, qv, gs, b, k, rfl, hC, hb, hk, fin⟩ := h
    obtain ⟨c1, c2, c3, c4, c5⟩ := hC.nec
    have b1 : b ≠ A.fr := ne_of hb hC.fr (by intro e; cases e)
    have b2 : b ≠ A.se := ne_of hb hC.se (by intro e; cases e)
    have b3 : b ≠ A.ak := ne_of hb hC.ak (by intro e; cases e)
    refine ⟨_, (pss_cons (ps_ddelT (hu_of hr) (pe_fld (pv 0) rfl) (pv 1)) (pss_cons (ps_expr (pe_bm PySem.F.plainAttrs_dict PySem.F.slot_dict_pop PySem.F.type_dict_pop (mt_popW (hu_of hr)) (pe_fld (pv 0) rfl) (pa_cons (pv 1) (pa_cons pe_non pa_nil)))) (pss_one (ps_expr (pe_bm PySem.F.plainAttrs_dict PySem.F.slot_dict_pop PySem.F.type_dict_pop (mt_popW (hu_of hr)) (pe_fld (pv 0) rfl) (pa_cons (pv 1) (pa_cons pe_non pa_nil))))))), ?_⟩
    refine ⟨_, rfl, A.c, _, A.dx, _, _, rfl, hC.o, T.cl_Craft, T.n_Craft_frames, cf_frames, _, rfl, A.fr, b, framesD qv, mkK k, rfl, rfl, hC.fr, hb, ?_, ?_⟩
    · unfold framesD
      rw [val_isSome, hC.marksq]
      exact decide_eq_true hk
    have e1 : dropK (framesD qv) (mkK k) = framesD (qv.filter fun x => decide (mkOf x.1 ≠ k)) := drop_keys
    rw [e1]
    have k1 : Keep [A.fr, A.se, A.ak] H (upd H A.fr (.dT (framesD (qv.filter fun x => decide (mkOf x.1 ≠ k))))) := keep_upd (Keep.refl _ _) (by simp)
    have D1 : Dom H (upd H A.fr (.dT (framesD (qv.filter fun x => decide (mkOf x.1 ≠ k))))) := dom_upd _ _ _
    have f1 : upd H A.fr (.dT (framesD (qv.filter fun x => decide (mkOf x.1 ≠ k)))) A.fr = some (.dT (framesD (qv.filter fun x => decide (mkOf x.1 ≠ k)))) := upd_same
    have s1 : upd H A.fr (.dT (framesD (qv.filter fun x => decide (mkOf x.1 ≠ k)))) A.se = some (.dT (trueD m.sent)) := by rw [upd_ne hC.d1.symm]; exact hC.se
    have a1 : upd H A.fr (.dT (framesD (qv.filter fun x => decide (mkOf x.1 ≠ k)))) A.ak = some (.dT (trueD m.asked)) := by rw [upd_ne hC.d2.symm]; exact hC.ak
    generalize upd H A.fr (.dT (framesD (qv.filter fun x => decide (mkOf x.1 ≠ k)))) = H1 at *
    have g1 : ∀ x o, x ∉ [A.fr, A.se, A.ak] → H x = some o → H1 x = some o := fun x o n e => k1 x o n e
    refine ⟨_, rfl, A.c, _, A.dx, _, _, rfl, g1 _ _ (by simp [c1, c2, c3]) hC.o, T.cl_Craft, T.n_Craft_sent, cf_sent, .inr (.inr (.inl ⟨rfl, .inr ⟨_, s1⟩⟩)), _, rfl, ?_⟩
    refine ⟨A.se, _, mkK k, b, _, rfl, rfl, s1, g1 _ _ (by simp [b1, b2, b3]) hb, fun _ H2 s2 k2 D2 => ?_⟩
    rw [true_drop] at s2
    have f2 := k2 _ _ (by simp [hC.d1]) f1
    have a2 := k2 _ _ (by simp [hC.d3.symm]) a1
    have k12 : Keep [A.fr, A.se, A.ak] H H2 := k1.trans (k2.mono (by simp))
    refine ⟨_, rfl, A.c, _, A.dx, _, _, rfl, k12 _ _ (by simp [c1, c2, c3]) hC.o, T.cl_Craft, T.n_Craft_asked, cf_asked, .inr (.inr (.inl ⟨rfl, .inr ⟨_, a2⟩⟩)), _, rfl, ?_⟩
    refine ⟨A.ak, _, mkK k, b, _, rfl, rfl, a2, k12 _ _ (by simp [b1, b2, b3]) hb, fun _ H3 a3 k3 D3 => ?_⟩
    rw [true_drop] at a3
    have f3 := k3 _ _ (by simp [hC.d2]) f2
    have s3 := k3 _ _ (by simp [hC.d3]) s2
    have k13 : Keep [A.fr, A.se, A.ak] H H3 := k12.trans (k3.mono (by simp))
    have k13' : Keep [A.fr, A.se, A.ak, A.go] H H3 := k13.mono fun x hx => List.mem_append_left [A.go] hx
    have ts := k13'.ts hC.noT4
    obtain ⟨n1, n2, n3⟩ := hC.neg
    refine fin H3 _ (hC.step k13' (m' := m.letGo k) rfl (hC.ok.letGo k) ?_ f3 s3 a3 (k13 _ _ (by simp [n1, n2, n3]) hC.go) (fun x hx => ?_) (hC.gt.mono ts)) k13 ((D1.trans D2).trans D3)
    · show _ = m.q.filter _
      rw [← hC.qe, List.filter_map]
      rfl
    · exact (hC.ft x (List.mem_filter.mp hx).1).mono ts
/-! ### _make_room -/
theorem mark_key {x : List Key} {l : List KF} {v : V} {i : Nat} (h : (framesD l)[i]? = some (x, v)) : ∃ y, l[i]? = some y ∧ x = mkK (mkOf y.1) ∧ v = y.2 := by
  unfold framesD keysD at h
  obtain ⟨y, hy, e⟩ := map_get h
  injection e with e1 e2
  exact ⟨y, hy, e1, e2⟩
/-- the marks of a dict, told as a list, those that pass -/
theorem walked {α : Type} {l : List α} {p : α → Bool} {i : Nat} {x : α} (h : l[i]? = some x) : (l.take (i + 1)).filter p = (l.take i).filter p ++ (if p x = true then [x] else []) := by
  rw [List.take_add_one, h, Option.toList_some, List.filter_append]
  congr 1
  by_cases c : p x = true
  · rw [if_pos c, List.filter_cons_of_pos c]; rfl
  · rw [if_neg c, List.filter_cons_of_neg c]; rfl
theorem td_key {H : Hp} {q : Addr} {k : Nat × Nat} (h : H q = some (.tup ((mkK k).map kV))) : TD H (.ref q) (mD2 k) := .tup h (.cons (.int _) (.cons (.int _) .nil))
theorem key_td {H : Hp} {v : V} {k : Nat × Nat} (h : TD H v (mD2 k)) : ∃ q, v = .ref q ∧ H q = some (.tup [.int ((k.1 : Nat) : Int), .int ((k.2 : Nat) : Int)]) := td_mk h
theorem keys_td {H : Hp} {l : List KF} {bs : List Addr} (h : IsKeys H (framesD l) bs) : TDs H (bs.map V.ref) ((l.map fun x : KF => mkOf x.1).map mD2) := by
  induction l generalizing bs with
  | nil => cases h; exact .nil
  | cons x l ih =>
    cases h with
    | cons h t => exact .cons (td_key h) (ih t)
theorem truek_td {H : Hp} {l : List (Nat × Nat)} {bs : List Addr} (h : IsKeys H (trueD l) bs) : TDs H (bs.map V.ref) (l.map mD2) := by
  induction l generalizing bs with
  | nil => cases h; exact .nil
  | cons x l ih =>
    cases h with
    | cons h t => exact .cons (td_key h) (ih t)
def sp_make_room (C CL : Addr) : Sp := fun vs H Q _ => ∃ (A : Ca) (ps : List (Addr × Addr × Addr)) (room z : Nat) (ns : List (List Int × List Nat)) (m : Cr) (qv : List KF) (gs : List V), vs = [.ref A.c] ∧ CAt C CL H A ps room z ns m qv gs ∧ m.q ≠ [] ∧ m.gone.length ≤ 1000000 ∧
  ∀ H' qv' gs', CAt C CL H' A ps room z ns m.makeRoom qv' gs' → Keep [A.fr, A.se, A.ak, A.go] H H' → Dom H H' → Q .non H'
theorem ok_Craft_make_room (T : Tx K mg) : FnOk P w K mg base CX0 2 T.a_Craft_make_room T.d_Craft_make_room ["self"] (sp_make_room T.A_Craft T.A_Laying) := by
  have nd := sc_Craft_make_room.nd
  refine T.F_Craft_make_room.ok sc_Craft_make_room (fun vs H Q E h => ?_) (fun cdv A0 outer s H vs Q E hr h => ?_)
  · obtain ⟨_, _, _, _, _, _, _, _, rfl, _⟩ := h
    rfl
  · obtain ⟨A, ps, room, z, ns, m, qv, gs, rfl, hC, hne, hgl, fin⟩ := h
    obtain ⟨c1, c2, c3, c4, c5⟩ := hC.nec
    have hqm := hC.marksq
    have hql := hC.qlen
    have hfew := hC.ok.few
    have hr60 := hC.r60.2
    refine ⟨_, (pss_cons (ps_lock (ps_setLc (i := 1) (own := [("mark", 3)]) rfl nd rfl rfl (sw_true rfl rfl rfl (by decide +kernel)) (pi_keys (pe_fld (pv 0) rfl)) (blkOk_by (own := [("mark", 3)]) (N := N_Craft_make_room) (sc := defScope s_Craft_make_room) (by decide +kernel)) (fun _ _ _ _ _ => (pg_name (i := 3) nd rfl (Or.inl rfl))) (fun _ _ _ _ _ => (pts_one (pt_cmp (pc_din (hu_of hr) (pv 3) (pe_fldK (K := K) rfl (pv 0) rfl))))) (fun _ _ _ _ _ => (pv 3)))) (pss_one (ps_if (pt_truth (pv 1) (by intro _; rfl)) (pss_one (ps_expr (pe_meth (pv 0) T.cl_Craft T.M_Craft_let_go (ok_Craft_let_go T) (hr.mono (by decide)) T.b_Craft_let_go .nil pass0 (pa_cons (pe_ix ix_list (pv 1) pe_int (fun _ _ => rfl)) pa_nil)))) (pss_cons (ps_set (i := 2) nd rfl (Or.inl rfl) (pe_ix ix_list (pe_callTy (call_list_dT rfl) (by rfl) T.z_list (by decide +kernel) (pa_cons (pe_fld (pv 0) rfl) pa_nil)) pe_int (fun _ _ => rfl))) (pss_cons (ps_expr (pe_meth (pv 0) T.cl_Craft T.M_Craft_let_go (ok_Craft_let_go T) (hr.mono (by decide)) T.b_Craft_let_go .nil pass0 (pa_cons (pv 2) pa_nil))) (pss_one (ps_expr (pe_bm PySem.F.plainAttrs_list PySem.F.slot_list_append PySem.F.type_list_append mt_append (pe_fld (pv 0) rfl) (pa_cons (pv 2) pa_nil))))))))), ?_⟩
    -- sent
    refine ⟨A.fr, _, hC.fr, True.intro, fun od => ?_⟩
    have k1 : Keep [A.fr] H (upd H A.fr (.frz od (.dT (framesD qv)))) := keep_upd (Keep.refl _ _) (by simp)
    have f1 : upd H A.fr (.frz od (.dT (framesD qv))) A.fr = some (.frz od (.dT (framesD qv))) := upd_same
    generalize upd H A.fr (.frz od (.dT (framesD qv))) = H1 at *
    refine ⟨_, rfl, A.c, _, A.dx, _, _, rfl, k1 _ _ (by simp [c1]) hC.o, T.cl_Craft, T.n_Craft_frames, cf_frames, A.fr, od, rfl, .inr ⟨_, f1, fun D hD => ?_⟩⟩
    have nfD : A.fr ≠ D := ne_of_none f1 hD
    have hD0 : H D = none := by
      cases e : H D with
      | none => rfl
      | some o =>
        have := k1 _ _ (by simp [nfD.symm]) e
        rw [hD] at this; cases this
    refine lc_keysT (d := A.fr) (od := od) (kvs := framesD qv) (fun i H' => ∃ xs, H' D = some (.lst xs) ∧ TDs H' xs ((((qv.map fun x : KF => mkOf x.1).take i).filter fun k => decide (k ∈ m.sent)).map mD2) ∧ H' A.fr = some (.frz od (.dT (framesD qv))) ∧ Keep [A.fr] H H') ⟨[], upd_same, .nil, by rw [upd_ne nfD]; exact f1, keep_new' k1 hD⟩ (fun i H' _ ⟨_, _, _, e, _⟩ => e) ?_ ?_
    · rintro i kk v q H2 hi hq ⟨xs, hL, tL, f2, k2⟩
      obtain ⟨y, hy, rfl, rfl⟩ := mark_key hi
      have hy2 : (qv.map fun x : KF => mkOf x.1)[i]? = some (mkOf y.1) := by rw [List.getElem?_map, hy]; rfl
      have hil := (List.getElem?_eq_some_iff.mp hy).1
      have hxl : xs.length ≤ i := by
        rw [tL.length, List.length_map]
        refine Nat.le_trans (List.length_filter_le _ _) ?_
        rw [List.length_take]; omega
      rw [walked hy2]
      refine ⟨rfl, _, rfl, _, rfl, A.c, _, A.dx, _, _, rfl, k2 _ _ (by simp [c1]) hC.o, T.cl_Craft, T.n_Craft_sent, cf_sent, A.se, _, rfl, DGet.t (k := mkK (mkOf y.1)) (k2 _ _ (by simp [hC.d1.symm]) hC.se) hq, _, rfl, ?_⟩
      rw [true_in]
      by_cases c : mkOf y.1 ∈ m.sent
      · rw [decide_eq_true c]
        refine iteT ?_
        refine ⟨_, rfl, xs, hL, lt_line (by omega), _, upd_same, ?_, by rw [upd_ne nfD]; exact f2, keep_mut k2 hD0⟩
        rw [if_pos rfl, List.map_append]
        have t7 : TSm H2 (upd H2 D (.lst (xs ++ [.ref q]))) := ts_upd (TSm.refl _) (NoT.lst hL)
        exact (tL.mono t7).app (.one ((td_key hq).mono t7))
      · rw [decide_eq_false c]
        refine iteF ⟨xs, hL, ?_, f2, k2⟩
        rw [if_neg (by decide), List.append_nil]
        exact tL
    · rintro H2 ⟨xs, hL, tL, f2, k2⟩
      rw [show (framesD qv).length = qv.length from keysD_len qv, List.take_of_length_le (by rw [List.length_map]; exact Nat.le_refl _), hqm] at tL
      refine ⟨f2, ?_⟩
      have s3 : Same H (upd H2 A.fr (.dT (framesD qv))) := unlock k2 hC.fr
      have hL3 : upd H2 A.fr (.dT (framesD qv)) D = some (.lst xs) := by rw [upd_ne nfD.symm]; exact hL
      have tL3 := tL.mono (ts_upd (TSm.refl H2) (a := A.fr) (o := .dT (framesD qv)) (fun ys e => by rw [f2] at e; cases e))
      generalize upd H2 A.fr (.dT (framesD qv)) = H3 at *
      have hC3 := hC.same s3
      have k3 : Keep [A.fr, A.se, A.ak, A.go] H H3 := Keep.of_same s3
      have d3 : Dom H H3 := Dom.of_same s3
      change TDs H3 xs (m.old.map mD2) at tL3
      cases e : m.old with
      | cons k r =>
        rw [e] at tL3
        cases tL3 with
        | cons tk tr =>
          obtain ⟨b, rfl, hb⟩ := key_td tk
          refine ⟨_, rfl, true, .inl ⟨_, SqL.of hL3, rfl⟩, iteT ?_⟩
          have hk : k ∈ m.marks := (List.mem_filter.mp (show k ∈ m.old by rw [e]; exact List.mem_cons_self)).1
          refine ⟨_, rfl, A.c, A.dx, _, rfl, hC3.o, cf_no (by decide), _, rfl, D, _, 0, .ref b, rfl, rfl, SqL.of hL3, atI_nat (j := 0) rfl, A, ps, room, z, ns, m, qv, gs, b, k, rfl, hC3, hb, hk, fun H4 qv' hC4 k4 d4 => ?_⟩
          have em : m.makeRoom = m.letGo k := by unfold Cr.makeRoom; rw [e]
          refine fin H4 qv' gs (by rw [em]; exact hC4) (k3.trans (k4.mono fun x hx => List.mem_append_left [A.go] hx)) (d3.trans d4)
      | nil =>
        rw [e] at tL3
        cases tL3
        refine ⟨_, rfl, false, .inl ⟨_, SqL.of hL3, rfl⟩, iteF ?_⟩
        -- the oldest
        refine ⟨_, rfl, A.c, _, A.dx, _, _, rfl, hC3.o, T.cl_Craft, T.n_Craft_frames, cf_frames, A.fr, _, rfl, Rd.of hC3.fr, fun p bs hp hbs => ?_⟩
        have tb := keys_td hbs
        rw [hqm] at tb
        cases e2 : m.marks with
        | nil =>
          have : m.q = [] := by unfold Cr.marks at e2; simpa using e2
          exact absurd this hne
        | cons k r =>
          rw [e2] at tb
          have s4 := same_new (Same.refl H3) hp (o := .lst (bs.map V.ref))
          cases bs with
          | nil => cases tb
          | cons b bs =>
            rw [List.map_cons] at tb
            have tk : TD H3 (.ref b) (mD2 k) := by cases tb with | cons h _ => exact h
            have hp4 : upd H3 p (.lst ((b :: bs).map V.ref)) p = some (.lst ((b :: bs).map V.ref)) := upd_same
            obtain ⟨b', eb, hb⟩ := key_td (tk.mono (TSm.of_same s4))
            cases eb
            have hC4 := hC3.same s4
            have k4 : Keep [A.fr, A.se, A.ak, A.go] H (upd H3 p (.lst ((b :: bs).map V.ref))) := k3.trans (Keep.of_same s4)
            have d4 := d3.trans (Dom.of_same s4)
            generalize upd H3 p (.lst ((b :: bs).map V.ref)) = H4 at *
            have hk : k ∈ m.marks := by rw [e2]; exact List.mem_cons_self
            refine ⟨p, _, 0, .ref b, rfl, rfl, SqL.of hp4, atI_nat (j := 0) rfl, ?_⟩
            refine ⟨_, rfl, A.c, A.dx, _, rfl, hC4.o, cf_no (by decide), _, rfl, A, ps, room, z, ns, m, qv, gs, b, k, rfl, hC4, hb, hk, fun H5 qv' hC5 k5 d5 => ?_⟩
            have k05 := k4.trans (k5.mono fun x hx => List.mem_append_left [A.go] hx)
            have hb5 : H5 b = some (.tup [.int ((k.1 : Nat) : Int), .int ((k.2 : Nat) : Int)]) := k5 _ _ (by simp [ne_of hb hC4.fr (by intro e; cases e), ne_of hb hC4.se (by intro e; cases e), ne_of hb hC4.ak (by intro e; cases e)]) hb
            have hgo5 := hC5.go
            have hgl5 : gs.length = m.gone.length := by rw [hC.gt.length, List.length_map]
            refine ⟨_, rfl, A.c, _, A.dx, _, _, rfl, hC5.o, T.cl_Craft, T.n_Craft_gone, cf_gone, .inl ⟨rfl, _, SqL.of hgo5⟩, _, rfl, A.go, gs, _, rfl, rfl, hgo5, lt_line (by omega), ?_⟩
            have t6 : TSm H5 (upd H5 A.go (.lst (gs ++ [.ref b]))) := ts_upd (TSm.refl _) (NoT.lst hgo5)
            obtain ⟨n1, n2, n3⟩ := hC5.neg
            have em : m.makeRoom = { m.letGo k with gone := m.gone ++ [k] } := by unfold Cr.makeRoom; rw [e, e2]
            have ok5 := hC5.ok
            refine fin _ qv' (gs ++ [.ref b]) ?_ (keep_upd k05 (by simp)) ((d4.trans d5).upd _ _)
            rw [em]
            refine hC5.step (keep_upd (Keep.refl _ _) (by simp)) rfl ⟨ok5.nd, ok5.few, ok5.sn, ok5.ss, ok5.an, ok5.as⟩ hC5.qe (by rw [upd_ne n1.symm]; exact hC5.fr) (by rw [upd_ne n2.symm]; exact hC5.se) (by rw [upd_ne n3.symm]; exact hC5.ak) upd_same (fun x hx => (hC5.ft x hx).mono t6) ?_
            show TDs _ _ ((m.gone ++ [k]).map mD2)
            rw [List.map_append]
            exact (hC5.gt.mono t6).app (.one ((TD.tup hb5 (.cons (.int _) (.cons (.int _) .nil))).mono t6))
end
end K20

namespace K20
open PySem PySem.Spec PyProof.Rows L2 Sky
section
variable {P : Program} {w : World} {K : PySem.W.Frag} {mg : Str → Option Value} {base : Heap}
/-! ### _keep -/
def sp_keep (C CL : Addr) : Sp := fun vs H Q _ => ∃ (A : Ca) (ps : List (Addr × Addr × Addr)) (room z : Nat) (ns : List (List Int × List Nat)) (m : Cr) (qv : List KF) (gs : List V) (v : V) (x : Nat × Frm), vs = [.ref A.c, v] ∧ CAt C CL H A ps room z ns m qv gs ∧ TD H v (frmD ((x.1 : Nat) : Int) x.2) ∧ mkOf x ∉ m.marks ∧ m.gone.length ≤ 1000000 ∧
  ∀ H' qv' gs', CAt C CL H' A ps room z ns (m.keep room x) qv' gs' → Keep [A.fr, A.se, A.ak, A.go] H H' → Dom H H' → Q .non H'
theorem ok_Craft_keep (T : Tx K mg) : FnOk P w K mg base CX0 3 T.a_Craft_keep T.d_Craft_keep ["self", "frame"] (sp_keep T.A_Craft T.A_Laying) := by
  have nd := sc_Craft_keep.nd
  refine T.F_Craft_keep.ok sc_Craft_keep (fun vs H Q E h => ?_) (fun cdv A0 outer s H vs Q E hr h => ?_)
  · obtain ⟨_, _, _, _, _, _, _, _, _, _, rfl, _⟩ := h
    rfl
  · obtain ⟨A, ps, room, z, ns, m, qv, gs, v, x, rfl, hC, tv, hnew, hgl, fin⟩ := h
    have hfew := hC.ok.few
    have hql := hC.qlen
    obtain ⟨hr1, hr60⟩ := hC.r60
    refine ⟨_, (pss_cons (ps_if (pt_cmpR op_eq (pe_callB call_len_dT (by rfl) T.z_len PySem.boot_len (pa_cons (pe_fld (pv 0) rfl) pa_nil)) (pe_fld (pv 0) rfl) (nomark _)) (pss_one (ps_expr (pe_meth0 (pv 0) T.cl_Craft T.M_Craft_make_room (ok_Craft_make_room T) (hr.mono (by decide)) T.b_Craft_make_room .nil pass0))) pss_nil) (pss_one (ps_dput (hu_of hr) (pe_fld (pv 0) rfl) (pe_tup (pa_cons (pe_ix ix_tup (pv 1) pe_int (fun _ _ => rfl)) (pa_cons (pe_ix ix_tup (pv 1) pe_int (fun _ _ => rfl)) pa_nil))) (pv 1) rfl))), ?_⟩
    refine ⟨_, rfl, A.c, _, A.dx, _, _, rfl, hC.o, T.cl_Craft, T.n_Craft_frames, cf_frames, A.fr, _, rfl, hC.fr, _, rfl, A.c, _, A.dx, _, _, rfl, hC.o, T.cl_Craft, T.n_Craft_room, cf_room, rfl, _, rfl, ?_⟩
    have elen : (framesD qv).length = m.q.length := by rw [show (framesD qv).length = qv.length from keysD_len qv, hql]
    rw [elen]
    have rest : ∀ (m1 : Cr) (qv1 : List KF) (gs1 : List V) (H1 : Hp), CAt T.A_Craft T.A_Laying H1 A ps room z ns m1 qv1 gs1 → m1.q.length < room → mkOf x ∉ m1.marks → m1.put x = m.keep room x → Keep [A.fr, A.se, A.ak, A.go] H H1 → Dom H H1 →
        ∀ b, H1 b = none → ∀ H2, H2 = upd (upd H1 b (.tup [.int ((x.1 : Nat) : Int), .int ((x.2.1 : Nat) : Int)])) A.fr (.dT (putK (framesD qv1) (mkK (mkOf x)) v)) → Q .non H2 := by
      intro m1 qv1 gs1 H1 hC1 less new1 em k1 d1 b hb H2 e2
      have hC2 := hC1.same (same_new (Same.refl H1) hb (o := .tup [.int ((x.1 : Nat) : Int), .int ((x.2.1 : Nat) : Int)]))
      have k2 : Keep [A.fr, A.se, A.ak, A.go] H (upd H1 b (.tup [.int ((x.1 : Nat) : Int), .int ((x.2.1 : Nat) : Int)])) := k1.trans (Keep.of_same (same_new (Same.refl H1) hb))
      have d2 := d1.trans (Dom.of_same (same_new (Same.refl H1) hb (o := .tup [.int ((x.1 : Nat) : Int), .int ((x.2.1 : Nat) : Int)])))
      generalize upd H1 b (.tup [.int ((x.1 : Nat) : Int), .int ((x.2.1 : Nat) : Int)]) = H1' at *
      have hq1 := hC2.marksq
      have ep : putK (framesD qv1) (mkK (mkOf x)) v = framesD (qv1 ++ [(x, v)]) := by
        unfold framesD
        rw [put_new (by rw [hq1]; exact new1)]
        unfold keysD
        rw [List.map_append]
        rfl
      rw [ep] at e2
      obtain ⟨n1, n2, n3⟩ := hC2.neg
      have tv2 : TD H1' v (frmD ((x.1 : Nat) : Int) x.2) := tv.mono (k2.ts hC.noT4)
      have t3 : TSm H1' H2 := by rw [e2]; exact ts_upd (TSm.refl _) (NoT.dT hC2.fr)
      subst e2
      refine fin _ (qv1 ++ [(x, v)]) gs1 ?_ (keep_upd k2 (by simp)) (d2.upd _ _)
      rw [← em]
      refine hC2.step (keep_upd (Keep.refl _ _) (by simp)) rfl (hC2.ok.put new1 less) ?_ upd_same (by rw [upd_ne hC2.d1.symm]; exact hC2.se) (by rw [upd_ne hC2.d2.symm]; exact hC2.ak) (by rw [upd_ne n1]; exact hC2.go) (fun y hy => ?_) (hC2.gt.mono t3)
      · show _ = m1.q ++ [x]
        rw [List.map_append, hC2.qe]
        rfl
      · rcases List.mem_append.mp hy with e | e
        · exact (hC2.ft y e).mono t3
        · rw [List.mem_singleton.mp e]; exact tv2.mono t3
    refine if_skip (fun H1 => ∃ (m1 : Cr) (qv1 : List KF) (gs1 : List V), CAt T.A_Craft T.A_Laying H1 A ps room z ns m1 qv1 gs1 ∧ m1.q.length < room ∧ mkOf x ∉ m1.marks ∧ m1.put x = m.keep room x ∧ Keep [A.fr, A.se, A.ak, A.go] H H1 ∧ Dom H H1) (fun H1 ⟨m1, qv1, gs1, hC1, less, new1, em, k1, d1⟩ => ?_) (fun e go => ?_) (fun e => ?_)
    · -- self._frames[..] = frame
      have tv1 := tv.mono (k1.ts hC.noT4)
      obtain ⟨a, bb, rfl, ha, hbb⟩ := td_frm tv1
      refine ⟨_, rfl, _, rfl, A.c, _, A.dx, _, _, rfl, hC1.o, T.cl_Craft, T.n_Craft_frames, cf_frames, ?_⟩
      refine ⟨_, rfl, a, _, 0, _, rfl, rfl, SqT.of ha, atI_nat (j := 0) rfl, _, rfl, a, _, 1, _, rfl, rfl, SqT.of ha, atI_nat (j := 1) rfl, (by decide : (2 : Nat) ≤ sizeLine), fun b hb => ?_⟩
      have nfb : A.fr ≠ b := ne_of_none hC1.fr hb
      have ql1 := hC1.qlen
      refine ⟨A.fr, _, rfl, DPut.t (k := mkK (mkOf x)) (by rw [upd_ne nfb]; exact hC1.fr) upd_same (lt_line (by rw [show (framesD qv1).length = qv1.length from keysD_len qv1]; omega)), ?_⟩
      exact rest m1 qv1 gs1 H1 hC1 less new1 em k1 d1 b hb _ rfl
    · have hroom : m.q.length = room := by
        have := of_decide_eq_true e
        injection this with this
        omega
      refine ⟨_, rfl, A.c, A.dx, _, rfl, hC.o, cf_no (by decide), A, ps, room, z, ns, m, qv, gs, rfl, hC, (fun z => by rw [z] at hroom; simp at hroom; omega), hgl, fun H1 qv1 gs1 hC1 k1 d1 => ?_⟩
      obtain ⟨h1, h2, h3, h4⟩ := hC.ok.room (fun z => by rw [z] at hroom; simp at hroom; omega)
      refine go _ ⟨m.makeRoom, qv1, gs1, hC1, h2, fun z => hnew (h3 _ z), ?_, k1, d1⟩
      unfold Cr.keep
      rw [if_pos hroom]
    · have hroom : m.q.length ≠ room := fun z => e (decide_eq_true (by rw [z]))
      refine ⟨m, qv, gs, hC, by omega, hnew, ?_, Keep.refl _ _, Dom.refl _⟩
      unfold Cr.keep
      rw [if_neg hroom]
/-! ### _next_mark -/
def sp_next_mark (C CL : Addr) : Sp := fun vs H Q _ => ∃ (A : Ca) (ps : List (Addr × Addr × Addr)) (room z : Nat) (ns : List (List Int × List Nat)) (m : Cr) (qv : List KF) (gs : List V), vs = [.ref A.c] ∧ CAt C CL H A ps room z ns m qv gs ∧
  (m.next = none → ∀ H', Same H H' → Q .non H') ∧ (∀ k, m.next = some k → ∀ b H', Same H H' → H' b = some (.tup [.int ((k.1 : Nat) : Int), .int ((k.2 : Nat) : Int)]) → Q (.ref b) H')
theorem ok_Craft_next_mark (T : Tx K mg) : FnOk P w K mg base CX0 1 T.a_Craft_next_mark T.d_Craft_next_mark ["self"] (sp_next_mark T.A_Craft T.A_Laying) := by
  have nd := sc_Craft_next_mark.nd
  refine T.F_Craft_next_mark.ok sc_Craft_next_mark (fun vs H Q E h => ?_) (fun cdv A0 outer s H vs Q E hr h => ?_)
  · obtain ⟨_, _, _, _, _, _, _, _, rfl, _⟩ := h
    rfl
  · obtain ⟨A, ps, room, z, ns, m, qv, gs, rfl, hC, no, yes⟩ := h
    obtain ⟨c1, c2, c3, c4, c5⟩ := hC.nec
    have hqm := hC.marksq
    have hql := hC.qlen
    have hfew := hC.ok.few
    have hr60 := hC.r60.2
    have hlens := hC.ok.lens
    refine ⟨_, (pss_cons (ps_lock (ps_setLc (i := 1) (own := [("mark", 3)]) rfl nd rfl rfl (sw_true rfl rfl rfl (by decide +kernel)) (pi_keys (pe_fld (pv 0) rfl)) (blkOk_by (own := [("mark", 3)]) (N := N_Craft_next_mark) (sc := defScope s_Craft_next_mark) (by decide +kernel)) (fun _ _ _ _ _ => (pg_name (i := 3) nd rfl (Or.inl rfl))) (fun _ _ _ _ _ => (pts_one (pt_cmp (pc_dnotin (hu_of hr) (pv 3) (pe_fldK (K := K) rfl (pv 0) rfl))))) (fun _ _ _ _ _ => (pv 3)))) (pss_cons (ps_set (i := 2) nd rfl (Or.inl rfl) (pe_op op_cat (pe_callTy (call_list_dT rfl) (by rfl) T.z_list (by decide +kernel) (pa_cons (pe_fld (pv 0) rfl) pa_nil)) (pv 1))) (pss_one (ps_ret (pe_ifExp (pt_truth (pv 2) (by intro _; rfl)) (pe_ix ix_list (pv 2) pe_int (fun _ _ => rfl)) pe_non))))), ?_⟩
    refine ⟨A.fr, _, hC.fr, True.intro, fun od => ?_⟩
    have k1 : Keep [A.fr] H (upd H A.fr (.frz od (.dT (framesD qv)))) := keep_upd (Keep.refl _ _) (by simp)
    have f1 : upd H A.fr (.frz od (.dT (framesD qv))) A.fr = some (.frz od (.dT (framesD qv))) := upd_same
    generalize upd H A.fr (.frz od (.dT (framesD qv))) = H1 at *
    refine ⟨_, rfl, A.c, _, A.dx, _, _, rfl, k1 _ _ (by simp [c1]) hC.o, T.cl_Craft, T.n_Craft_frames, cf_frames, A.fr, od, rfl, .inr ⟨_, f1, fun D hD => ?_⟩⟩
    have nfD : A.fr ≠ D := ne_of_none f1 hD
    have hD0 : H D = none := by
      cases e : H D with
      | none => rfl
      | some o =>
        have := k1 _ _ (by simp [nfD.symm]) e
        rw [hD] at this; cases this
    refine lc_keysT (d := A.fr) (od := od) (kvs := framesD qv) (fun i H' => ∃ xs, H' D = some (.lst xs) ∧ TDs H' xs ((((qv.map fun x : KF => mkOf x.1).take i).filter fun k => !decide (k ∈ m.sent)).map mD2) ∧ H' A.fr = some (.frz od (.dT (framesD qv))) ∧ Keep [A.fr] H H') ⟨[], upd_same, .nil, by rw [upd_ne nfD]; exact f1, keep_new' k1 hD⟩ (fun i H' _ ⟨_, _, _, e, _⟩ => e) ?_ ?_
    · rintro i kk v q H2 hi hq ⟨xs, hL, tL, f2, k2⟩
      obtain ⟨y, hy, rfl, rfl⟩ := mark_key hi
      have hy2 : (qv.map fun x : KF => mkOf x.1)[i]? = some (mkOf y.1) := by rw [List.getElem?_map, hy]; rfl
      have hil := (List.getElem?_eq_some_iff.mp hy).1
      have hxl : xs.length ≤ i := by
        rw [tL.length, List.length_map]
        refine Nat.le_trans (List.length_filter_le _ _) ?_
        rw [List.length_take]; omega
      rw [walked hy2]
      refine ⟨rfl, _, rfl, _, rfl, A.c, _, A.dx, _, _, rfl, k2 _ _ (by simp [c1]) hC.o, T.cl_Craft, T.n_Craft_sent, cf_sent, A.se, _, rfl, DGet.t (k := mkK (mkOf y.1)) (k2 _ _ (by simp [hC.d1.symm]) hC.se) hq, _, rfl, ?_⟩
      rw [true_in]
      by_cases c : mkOf y.1 ∈ m.sent
      · rw [decide_eq_true c]
        refine iteF ⟨xs, hL, ?_, f2, k2⟩
        rw [if_neg (by decide), List.append_nil]
        exact tL
      · rw [decide_eq_false c]
        refine iteT ?_
        refine ⟨_, rfl, xs, hL, lt_line (by omega), _, upd_same, ?_, by rw [upd_ne nfD]; exact f2, keep_mut k2 hD0⟩
        rw [if_pos (show (!false) = true from rfl), List.map_append]
        have t7 : TSm H2 (upd H2 D (.lst (xs ++ [.ref q]))) := ts_upd (TSm.refl _) (NoT.lst hL)
        exact (tL.mono t7).app (.one ((td_key hq).mono t7))
    · rintro H2 ⟨xs, hL, tL, f2, k2⟩
      rw [show (framesD qv).length = qv.length from keysD_len qv, List.take_of_length_le (by rw [List.length_map]; exact Nat.le_refl _), hqm] at tL
      refine ⟨f2, ?_⟩
      have s3 : Same H (upd H2 A.fr (.dT (framesD qv))) := unlock k2 hC.fr
      have hL3 : upd H2 A.fr (.dT (framesD qv)) D = some (.lst xs) := by rw [upd_ne nfD.symm]; exact hL
      have tL3 := tL.mono (ts_upd (TSm.refl H2) (a := A.fr) (o := .dT (framesD qv)) (fun ys e => by rw [f2] at e; cases e))
      generalize upd H2 A.fr (.dT (framesD qv)) = H3 at *
      have hC3 := hC.same s3
      change TDs H3 xs (m.fresh.map mD2) at tL3
      have hfl : m.fresh.length ≤ 60 := by
        have := List.length_filter_le (fun k => !decide (k ∈ m.sent)) m.marks
        have e : m.marks.length = m.q.length := List.length_map _
        show (m.marks.filter _).length ≤ 60
        omega
      -- line
      refine ⟨_, rfl, A.c, _, A.dx, _, _, rfl, hC3.o, T.cl_Craft, T.n_Craft_asked, cf_asked, A.ak, _, rfl, Rd.of hC3.ak, fun p bs hp hbs => ?_⟩
      have tb := truek_td hbs
      have hbl : bs.length = m.asked.length := by
        have := tb.length
        rw [List.length_map, List.length_map] at this
        exact this
      have s4 := same_new (Same.refl H3) hp (o := .lst (bs.map V.ref))
      have hp4 : upd H3 p (.lst (bs.map V.ref)) p = some (.lst (bs.map V.ref)) := upd_same
      have hL4 := s4 _ _ hL3
      have tb4 := tb.mono (TSm.of_same s4)
      have tL4 := tL3.mono (TSm.of_same s4)
      have s04 := s3.trans s4
      generalize upd H3 p (.lst (bs.map V.ref)) = H4 at *
      have hxl : xs.length = m.fresh.length := by rw [tL3.length, List.length_map]
      refine ⟨_, rfl, p, D, _, xs, rfl, rfl, hp4, hL4, le_line (by rw [List.length_map]; omega), fun r hr2 => ?_⟩
      have tr := (tb4.app tL4).mono (TSm.of_same (same_new (Same.refl H4) hr2 (o := .lst (bs.map V.ref ++ xs))))
      rw [← List.map_append] at tr
      have hr5 : upd H4 r (.lst (bs.map V.ref ++ xs)) r = some (.lst (bs.map V.ref ++ xs)) := upd_same
      have s05 := s04.trans (same_new (Same.refl H4) hr2 (o := .lst (bs.map V.ref ++ xs)))
      generalize upd H4 r (.lst (bs.map V.ref ++ xs)) = H5 at *
      cases e : m.asked ++ m.fresh with
      | nil =>
        rw [e] at tr
        generalize bs.map V.ref ++ xs = ys at *
        cases tr
        refine ⟨_, rfl, false, .inl ⟨_, SqL.of hr5, rfl⟩, iteF ?_⟩
        exact no (by unfold Cr.next; rw [e]; rfl) _ s05
      | cons k l =>
        rw [e] at tr
        generalize bs.map V.ref ++ xs = ys at *
        cases tr with
        | cons tk tl =>
          obtain ⟨b, rfl, hb⟩ := key_td tk
          refine ⟨_, rfl, true, .inl ⟨_, SqL.of hr5, rfl⟩, iteT ?_⟩
          refine ⟨_, rfl, r, _, 0, .ref b, rfl, rfl, SqL.of hr5, atI_nat (j := 0) rfl, ?_⟩
          exact yes k (by unfold Cr.next; rw [e]; rfl) b _ s05 hb
/-! ### beat -/
def sp_beat (C CL : Addr) : Sp := fun vs H Q _ => ∃ (A : Ca) (ps : List (Addr × Addr × Addr)) (room z : Nat) (ns : List (List Int × List Nat)) (m : Cr) (qv : List KF) (gs : List V), vs = [.ref A.c] ∧ CAt C CL H A ps room z ns m qv gs ∧
  (m.win = false ∨ m.next = none → ∀ H', Same H H' → Q .non H') ∧
  (∀ k x, m.win = true → m.next = some k → x ∈ m.q → mkOf x = k → ∀ v H', CAt C CL H' A ps room z ns (m.sends k) qv gs → TD H' v (frmD ((x.1 : Nat) : Int) x.2) → Keep [A.se, A.ak] H H' → Dom H H' → Q v H')
theorem ok_Craft_beat (T : Tx K mg) : FnOk P w K mg base CX0 2 T.a_Craft_beat T.d_Craft_beat ["self"] (sp_beat T.A_Craft T.A_Laying) := by
  have nd := sc_Craft_beat.nd
  refine T.F_Craft_beat.ok sc_Craft_beat (fun vs H Q E h => ?_) (fun cdv A0 outer s H vs Q E hr h => ?_)
  · obtain ⟨_, _, _, _, _, _, _, _, rfl, _⟩ := h
    rfl
  · obtain ⟨A, ps, room, z, ns, m, qv, gs, rfl, hC, no, yes⟩ := h
    have hlens := hC.ok.lens
    have hr60 := hC.r60.2
    refine ⟨_, (pss_cons (ps_set (i := 1) nd rfl (Or.inl rfl) (pe_ifExp (pt_truth (pe_fld (pv 0) rfl) (by intro _; rfl)) (pe_meth0 (pv 0) T.cl_Craft T.M_Craft_next_mark (ok_Craft_next_mark T) (hr.mono (by decide)) T.b_Craft_next_mark .nil pass0) pe_non)) (pss_cons (ps_if (pt_cmpR op_isN (pv 1) pe_non (nomark _)) (pss_one (ps_ret pe_non)) pss_nil) (pss_cons (ps_expr (pe_bm PySem.F.plainAttrs_dict PySem.F.slot_dict_pop PySem.F.type_dict_pop (mt_popW (hu_of hr)) (pe_fld (pv 0) rfl) (pa_cons (pv 1) (pa_cons pe_non pa_nil)))) (pss_cons (ps_dput (hu_of hr) (pe_fld (pv 0) rfl) (pv 1) pe_bl rfl) (pss_one (ps_ret (pe_dget (hu_of hr) (pe_fld (pv 0) rfl) (pv 1) (fun _ _ => rfl)))))))), ?_⟩
    refine ⟨_, rfl, A.c, _, A.dx, _, _, rfl, hC.o, T.cl_Craft, T.n_Craft_window, cf_window, m.win, rfl, ?_⟩
    cases ew : m.win with
    | false =>
      refine iteF ?_
      exact ⟨_, rfl, rfl, _, rfl, iteT (no (.inl ew) H (Same.refl _))⟩
    | true =>
      refine iteT ?_
      refine ⟨_, rfl, A.c, A.dx, _, rfl, hC.o, cf_no (by decide), A, ps, room, z, ns, m, qv, gs, rfl, hC, fun e H1 s1 => ?_, fun k e b H1 s1 hb => ?_⟩
      · exact ⟨_, rfl, rfl, _, rfl, iteT (no (.inr e) H1 s1)⟩
      · refine ⟨_, rfl, rfl, _, rfl, iteF ?_⟩
        have hC1 := hC.same s1
        have hk := hC.ok.next e
        obtain ⟨c1, c2, c3, c4, c5⟩ := hC1.nec
        have b2 : b ≠ A.se := ne_of hb hC1.se (by intro e; cases e)
        have b3 : b ≠ A.ak := ne_of hb hC1.ak (by intro e; cases e)
        refine ⟨_, rfl, A.c, _, A.dx, _, _, rfl, hC1.o, T.cl_Craft, T.n_Craft_asked, cf_asked, .inr (.inr (.inl ⟨rfl, .inr ⟨_, hC1.ak⟩⟩)), _, rfl, A.ak, _, mkK k, b, _, rfl, rfl, hC1.ak, hb, fun _ H2 a2 k2 D2 => ?_⟩
        rw [true_drop] at a2
        have s2 := k2 _ _ (by simp [hC1.d3]) hC1.se
        have hb2 := k2 _ _ (by simp [b3]) hb
        have o2 := k2 _ _ (by simp [c3]) hC1.o
        refine ⟨_, rfl, A.c, _, A.dx, _, _, rfl, o2, T.cl_Craft, T.n_Craft_sent, cf_sent, _, rfl, A.se, _, rfl, DPut.t (k := mkK k) s2 hb2 (lt_line (by rw [trueD_len]; omega)), ?_⟩
        rw [true_put]
        have k3 : Keep [A.se, A.ak] H1 (upd H2 A.se (.dT (trueD (if k ∈ m.sent then m.sent else m.sent ++ [k])))) := keep_upd (k2.mono (by simp)) (by simp)
        have d3 : Dom H1 (upd H2 A.se (.dT (trueD (if k ∈ m.sent then m.sent else m.sent ++ [k])))) := D2.upd _ _
        have s3 : upd H2 A.se (.dT (trueD (if k ∈ m.sent then m.sent else m.sent ++ [k]))) A.se = some (.dT (trueD (m.sends k).sent)) := upd_same
        have a3 : upd H2 A.se (.dT (trueD (if k ∈ m.sent then m.sent else m.sent ++ [k]))) A.ak = some (.dT (trueD (m.sends k).asked)) := by rw [upd_ne hC1.d3.symm]; exact a2
        generalize upd H2 A.se (.dT (trueD (if k ∈ m.sent then m.sent else m.sent ++ [k]))) = H3 at *
        have k3' : Keep [A.fr, A.se, A.ak, A.go] H1 H3 := k3.mono (by intro x hx; simp at hx ⊢; rcases hx with e | e <;> simp [e])
        have f3 := k3 _ _ (by simp [hC1.d1, hC1.d2]) hC1.fr
        have g3 := k3 _ _ (by simp [hC1.neg.2.1, hC1.neg.2.2]) hC1.go
        have o3 := k3 _ _ (by simp [c2, c3]) hC1.o
        have ts := k3'.ts hC1.noT4
        have hC3 := hC1.step k3' (m' := m.sends k) rfl (hC1.ok.sends hk) hC1.qe f3 s3 a3 g3 (fun y hy => (hC1.ft y hy).mono ts) (hC1.gt.mono ts)
        have hkq : k ∈ qv.map fun x : KF => mkOf x.1 := by rw [hC1.marksq]; exact hk
        obtain ⟨y, hy, ey⟩ := List.mem_map.mp hkq
        have hb3 := k3 _ _ (by simp [b2, b3]) hb
        have hv : valV (framesD qv) (mkK k) = some y.2 := by
          rw [← ey]
          exact val_some (f := fun x : KF => mkOf x.1) (g := fun x => x.2) (by rw [hC1.marksq]; exact hC1.ok.nd) hy
        refine ⟨_, rfl, A.c, _, A.dx, _, _, rfl, o3, T.cl_Craft, T.n_Craft_frames, cf_frames, _, rfl, A.fr, y.2, rfl, ?_, ?_⟩
        · rw [← hv]; exact DGet.t (k := mkK k) f3 hb3
        · exact yes k y.1 ew e (by rw [← hC1.qe]; exact List.mem_map.mpr ⟨y, hy, rfl⟩) ey y.2 H3 hC3 ((hC1.ft y hy).mono ts) ((Keep.of_same s1).trans k3) ((Dom.of_same s1).trans d3)
/-! ### begin, shut -/
theorem CAt.window {C CL : Addr} {H : Hp} {A : Ca} {ps : List (Addr × Addr × Addr)} {room z : Nat} {ns : List (List Int × List Nat)} {m : Cr} {qv : List KF} {gs : List V} (h : CAt C CL H A ps room z ns m qv gs) (b : Bool) :
    CAt C CL (upd H A.c (.ins C A.dx (cf room b A))) A ps room z ns { m with win := b } qv gs := by
  obtain ⟨c1, c2, c3, c4, c5⟩ := h.nec
  have t : TSm H (upd H A.c (.ins C A.dx (cf room b A))) := ts_upd (TSm.refl _) (NoT.ins h.o)
  refine ⟨upd_same, by rw [upd_ne c5.symm]; exact h.la, h.pl, h.nl, fun i p n hp hn => ?_, by rw [upd_ne c1.symm]; exact h.fr, h.qe, fun x hx => (h.ft x hx).mono t, by rw [upd_ne c2.symm]; exact h.se, by rw [upd_ne c3.symm]; exact h.ak, by rw [upd_ne c4.symm]; exact h.go, h.gt.mono t, ⟨h.ok.nd, h.ok.few, h.ok.sn, h.ok.ss, h.ok.an, h.ok.as⟩, h.r60, h.d1, h.d2, h.d3, h.d4, h.pc, h.pd, h.ld⟩
  obtain ⟨⟨h1, h2⟩, h3⟩ := h.lay i p n hp hn
  have hpc := h.pc p (List.mem_of_getElem? hp)
  exact ⟨⟨by rw [upd_ne hpc.1]; exact h1, by rw [upd_ne (ne_of h2 h.o (by intro e; cases e))]; exact h2⟩, h3⟩
def sp_begin (C CL : Addr) : Sp := fun vs H Q _ => ∃ (A : Ca) (ps : List (Addr × Addr × Addr)) (room z : Nat) (ns : List (List Int × List Nat)) (m : Cr) (qv : List KF) (gs : List V), vs = [.ref A.c] ∧ CAt C CL H A ps room z ns m qv gs ∧
  ∀ H', CAt C CL H' A ps room z ns { m with win := true } qv gs → Keep [A.c] H H' → Dom H H' → Q (.bl (!m.win)) H'
theorem ok_Craft_begin (T : Tx K mg) : FnOk P w K mg base CX0 1 T.a_Craft_begin T.d_Craft_begin ["self"] (sp_begin T.A_Craft T.A_Laying) := by
  have nd := sc_Craft_begin.nd
  refine T.F_Craft_begin.ok sc_Craft_begin (fun vs H Q E h => ?_) (fun cdv A0 outer s H vs Q E hr h => ?_)
  · obtain ⟨_, _, _, _, _, _, _, _, rfl, _⟩ := h
    rfl
  · obtain ⟨A, ps, room, z, ns, m, qv, gs, rfl, hC, fin⟩ := h
    refine ⟨_, (pss_cons (ps_set (i := 1) nd rfl (Or.inl rfl) (pe_not (pe_fld (pv 0) rfl))) (pss_cons (ps_fld (pv 0) pe_bl rfl) (pss_one (ps_ret (pv 1))))), ?_⟩
    refine ⟨_, rfl, A.c, _, A.dx, _, _, rfl, hC.o, T.cl_Craft, T.n_Craft_window, cf_window, m.win, rfl, ?_⟩
    refine ⟨_, rfl, A.c, _, A.dx, _, rfl, hC.o, T.cl_Craft, T.n_Craft_window, cf_few, ?_⟩
    rw [cf_put]
    exact ⟨_, rfl, fin _ (hC.window true) (keep_upd (Keep.refl _ _) (by simp)) (dom_upd _ _ _)⟩
end
end K20

namespace K20
open PySem PySem.Spec PyProof.Rows L2 Sky
section
variable {P : Program} {w : World} {K : PySem.W.Frag} {mg : Str → Option Value} {base : Heap}
/-! ### known -/
theorem filter_one {l : List (Nat × Frm)} {k : Nat × Nat} (nd : (l.map mkOf).Nodup) (h : k ∈ l.map mkOf) : (l.filter fun x => decide (mkOf x ≠ k)).length + 1 = l.length := by
  induction l with
  | nil => cases h
  | cons x l ih =>
    rw [List.map_cons, List.nodup_cons] at nd
    by_cases e : mkOf x = k
    · rw [List.filter_cons_of_neg (by simpa using e), List.length_cons]
      congr 1
      congr 1
      refine List.filter_eq_self.mpr fun y hy => decide_eq_true fun z => ?_
      exact nd.1 (by rw [e, ← z]; exact List.mem_map.mpr ⟨y, hy, rfl⟩)
    · rw [List.filter_cons_of_pos (by simpa using e), List.length_cons, List.length_cons]
      rw [List.map_cons, List.mem_cons] at h
      rcases h with z | z
      · exact absurd z.symm e
      · rw [ih nd.2 z]
def Cr.know1 (m : Cr) (k : Nat × Nat) : Cr := if k ∈ m.marks then m.letGo k else m
theorem knows_snoc (m : Cr) (ks : List (Nat × Nat)) (k : Nat × Nat) : m.knows (ks ++ [k]) = (m.knows ks).know1 k := by
  unfold Cr.knows
  rw [List.foldl_append]
  rfl
theorem Cr.Ok.knows {room : Nat} {m : Cr} (h : m.Ok room) (ks : List (Nat × Nat)) : (m.knows ks).Ok room := by
  unfold Cr.knows
  induction ks generalizing m with
  | nil => exact h
  | cons k ks ih =>
    rw [List.foldl_cons]
    split
    · exact ih (h.letGo k)
    · exact ih h
def sp_known (C CL : Addr) : Sp := fun vs H Q _ => ∃ (A : Ca) (ps : List (Addr × Addr × Addr)) (room z : Nat) (ns : List (List Int × List Nat)) (m : Cr) (qv : List KF) (gs : List V) (lm : Addr) (us : List V) (ks : List (Nat × Nat)), vs = [.ref A.c, .ref lm] ∧ CAt C CL H A ps room z ns m qv gs ∧
  H lm = some (.lst us) ∧ TDs H us (ks.map mD2) ∧ (∀ k ∈ ks, k.1 ≤ 3 ∧ k.2 ≤ 9999) ∧ lm ≠ A.go ∧
  ∀ H' qv', CAt C CL H' A ps room z ns (m.knows ks) qv' gs → Keep [A.fr, A.se, A.ak] H H' → Dom H H' → Q (.int (((m.q.length - (m.knows ks).q.length : Nat)) : Int)) H'
theorem ok_Craft_known (T : Tx K mg) : FnOk P w K mg base CX0 5 T.a_Craft_known T.d_Craft_known ["self", "marks"] (sp_known T.A_Craft T.A_Laying) := by
  have nd := sc_Craft_known.nd
  refine T.F_Craft_known.ok sc_Craft_known (fun vs H Q E h => ?_) (fun cdv A0 outer s H vs Q E hr h => ?_)
  · obtain ⟨_, _, _, _, _, _, _, _, _, _, _, rfl, _⟩ := h
    rfl
  · obtain ⟨A, ps, room, z, ns, m, qv, gs, lm, us, ks, rfl, hC, hl, tu, hok, nlg, fin⟩ := h
    have hul : us.length = ks.length := by rw [tu.length, List.length_map]
    have l1 : lm ≠ A.fr := ne_of hl hC.fr (by intro e; cases e)
    have l2 : lm ≠ A.se := ne_of hl hC.se (by intro e; cases e)
    have l3 : lm ≠ A.ak := ne_of hl hC.ak (by intro e; cases e)
    refine ⟨_, (pss_cons (ps_expr (pe_call (ok_check_marks T) (hr.mono (by decide)) (by rfl) T.m_check_marks T.F_check_marks.kp T.b_check_marks .nil pass0 (pa_cons (pv 1) pa_nil))) (pss_cons (ps_set (i := 2) nd rfl (Or.inl rfl) pe_int) (pss_cons (ps_for PassesOwn.never rfl (pi_list (pv 1)) (pg_name (i := 3) nd rfl (Or.inl rfl)) (pss_one (ps_if (pt_cmp (pc_din (hu_of hr) (pv 3) (pe_fld (pv 0) rfl))) (pss_cons (ps_expr (pe_meth (pv 0) T.cl_Craft T.M_Craft_let_go (ok_Craft_let_go T) (hr.mono (by decide)) T.b_Craft_let_go .nil pass0 (pa_cons (pv 3) pa_nil))) (pss_one (ps_aug (i := 2) nd rfl (Or.inl rfl) pe_int ip_add))) pss_nil))) (pss_one (ps_ret (pv 2)))))), ?_⟩
    refine ⟨_, rfl, lm, us, ks, rfl, hl, tu, hok, fun H1 s1 => ?_⟩
    have hC1 := hC.same s1
    have hl1 := s1 _ _ hl
    refine ⟨_, rfl, lm, rfl, ⟨_, SqL.of hl1⟩, ?_⟩
    refine for_list (K := K) (a := lm) (xs := us) (fun i σ H' => ∃ (n : Nat) (v3 : Option V) (qv' : List KF), σ = [some (.ref A.c), some (.ref lm), some (.int ((n : Nat) : Int)), v3] ∧ n + (m.knows (ks.take i)).q.length = m.q.length ∧ CAt T.A_Craft T.A_Laying H' A ps room z ns (m.knows (ks.take i)) qv' gs ∧ Keep [A.fr, A.se, A.ak] H1 H' ∧ Dom H1 H') ⟨0, none, qv, rfl, (by show 0 + m.q.length = _; omega), hC1, Keep.refl _ _, Dom.refl _⟩ (fun i σ H' _ ⟨_, _, _, _, _, _, k, _⟩ => SqL.of (k _ _ (by simp [l1, l2, l3]) hl1)) ?_ ?_
    · rintro i y σ H2 hy ⟨n, v3, qv', rfl, hn, hC2, k2, d2⟩
      obtain ⟨d, hd, td⟩ := tu.get hy
      obtain ⟨k, hk, rfl⟩ := map_get hd
      have ts : TSm H H2 := (TSm.of_same s1).trans (k2.ts fun a ha => hC1.noT4 a (List.mem_append_left [A.go] ha))
      obtain ⟨b, rfl, hb⟩ := key_td (td.mono ts)
      have esn : ks.take (i + 1) = ks.take i ++ [k] := by rw [List.take_add_one, hk]; rfl
      rw [esn, knows_snoc]
      generalize m.knows (ks.take i) = mi at *
      refine ⟨_, rfl, _, rfl, A.c, _, A.dx, _, _, rfl, hC2.o, T.cl_Craft, T.n_Craft_frames, cf_frames, A.fr, _, rfl, DGet.t (k := mkK k) hC2.fr hb, _, rfl, ?_⟩
      have ein : (valV (framesD qv') (mkK k)).isSome = decide (k ∈ mi.marks) := by unfold framesD; rw [val_isSome, hC2.marksq]
      rw [ein]
      by_cases c : k ∈ mi.marks
      · rw [decide_eq_true c]
        refine iteT ?_
        have e1 : mi.know1 k = mi.letGo k := if_pos c
        rw [e1]
        refine ⟨_, rfl, A.c, A.dx, _, rfl, hC2.o, cf_no (by decide), _, rfl, A, ps, room, z, ns, mi, qv', gs, b, k, rfl, hC2, hb, c, fun H3 qv3 hC3 k3 d3 => ?_⟩
        refine ⟨_, rfl, _, 1, rfl, rfl, ?_⟩
        have h1 := filter_one hC2.ok.nd c
        refine ⟨n + 1, _, qv3, rfl, ?_, hC3, k2.trans k3, d2.trans d3⟩
        show n + 1 + (mi.q.filter _).length = _
        omega
      · rw [decide_eq_false c]
        have e1 : mi.know1 k = mi := if_neg c
        rw [e1]
        exact iteF ⟨n, _, qv', rfl, hn, hC2, k2, d2⟩
    · rintro σ H2 ⟨n, v3, qv', rfl, hn, hC2, k2, d2⟩
      rw [hul, List.take_length] at hn hC2
      refine ⟨_, rfl, ?_⟩
      have e : n = m.q.length - (m.knows ks).q.length := by omega
      rw [e]
      exact fin H2 qv' hC2 ((Keep.of_same s1).trans k2) ((Dom.of_same s1).trans d2)
end
end K20

namespace K20
open PySem PySem.Spec PyProof.Rows L2 Sky
section
variable {P : Program} {w : World} {K : PySem.W.Frag} {mg : Str → Option Value} {base : Heap}
/-! ### kept -/
def keptD (m : Cr) (x : Nat × Frm) : PyData := .tuple [.int ((x.1 : Nat) : Int), .int ((x.2.1 : Nat) : Int), .str (if mkOf x ∈ m.sent then "sent" else "fresh")]
def sp_ckept (C CL : Addr) : Sp := fun vs H Q _ => ∃ (A : Ca) (ps : List (Addr × Addr × Addr)) (room z : Nat) (ns : List (List Int × List Nat)) (m : Cr) (qv : List KF) (gs : List V), vs = [.ref A.c] ∧ CAt C CL H A ps room z ns m qv gs ∧
  ∀ p us H', H' p = some (.lst us) → TDs H' us (m.q.map (keptD m)) → H p = none → Same H H' → Q (.ref p) H'
theorem ok_Craft_kept (T : Tx K mg) : FnOk P w K mg base CX0 1 T.a_Craft_kept T.d_Craft_kept ["self"] (sp_ckept T.A_Craft T.A_Laying) := by
  have nd := sc_Craft_kept.nd
  refine T.F_Craft_kept.ok sc_Craft_kept (fun vs H Q E h => ?_) (fun cdv A0 outer s H vs Q E hr h => ?_)
  · obtain ⟨_, _, _, _, _, _, _, _, rfl, _⟩ := h
    rfl
  · obtain ⟨A, ps, room, z, ns, m, qv, gs, rfl, hC, fin⟩ := h
    obtain ⟨c1, c2, c3, c4, c5⟩ := hC.nec
    have hql := hC.qlen
    have hfew := hC.ok.few
    have hr60 := hC.r60.2
    refine ⟨_, (pss_cons (ps_set (i := 1) nd rfl (Or.inl rfl) (pe_lst pa_nil)) (pss_cons (ps_lock (ps_for PassesOwn.never rfl (pi_keys (pe_fld (pv 0) rfl)) (pg_tup rfl (pgs_cons (pg_name (i := 2) nd rfl (Or.inl rfl)) (pgs_cons (pg_name (i := 3) nd rfl (Or.inl rfl)) pgs_nil))) (pss_cons (ps_set (i := 4) nd rfl (Or.inl rfl) (pe_ifExp (pt_cmp (pc_din (hu_of hr) (pe_tup (pa_cons (pv 2) (pa_cons (pv 3) pa_nil))) (pe_fld (pv 0) rfl))) pe_str pe_str)) (pss_one (ps_expr (pe_bm PySem.F.plainAttrs_list PySem.F.slot_list_append PySem.F.type_list_append mt_append (pv 1) (pa_cons (pe_tup (pa_cons (pv 2) (pa_cons (pv 3) (pa_cons (pv 4) pa_nil)))) pa_nil))))))) (pss_one (ps_ret (pv 1))))), ?_⟩
    refine ⟨Nat.zero_le _, fun D hD0 => ?_⟩
    have nfD : A.fr ≠ D := ne_of_none hC.fr hD0
    have s1 := same_new (Same.refl H) hD0 (o := .lst [])
    have hD1 : upd H D (.lst []) D = some (.lst []) := upd_same
    have hC1 := hC.same s1
    generalize upd H D (.lst []) = H1 at *
    refine ⟨A.fr, _, hC1.fr, True.intro, fun od => ?_⟩
    have k2 : Keep [A.fr] H1 (upd H1 A.fr (.frz od (.dT (framesD qv)))) := keep_upd (Keep.refl _ _) (by simp)
    have f2 : upd H1 A.fr (.frz od (.dT (framesD qv))) A.fr = some (.frz od (.dT (framesD qv))) := upd_same
    have hD2 : upd H1 A.fr (.frz od (.dT (framesD qv))) D = some (.lst []) := by rw [upd_ne nfD.symm]; exact hD1
    generalize upd H1 A.fr (.frz od (.dT (framesD qv))) = H2 at *
    refine ⟨_, rfl, A.c, _, A.dx, _, _, rfl, k2 _ _ (by simp [c1]) hC1.o, T.cl_Craft, T.n_Craft_frames, cf_frames, A.fr, od, rfl, .inr ⟨_, f2, ?_⟩⟩
    refine for_keysT (d := A.fr) (od := od) (kvs := framesD qv) (fun i σ H' => ∃ (v2 v3 v4 : Option V) (xs : List V), σ = [some (.ref A.c), some (.ref D), v2, v3, v4] ∧ H' D = some (.lst xs) ∧ TDs H' xs ((m.q.take i).map (keptD m)) ∧ H' A.fr = some (.frz od (.dT (framesD qv))) ∧ Keep [A.fr, D] H1 H') ⟨_, _, _, [], rfl, hD2, .nil, f2, k2.mono (by simp)⟩ (fun i σ H' _ ⟨_, _, _, _, _, _, _, e, _⟩ => e) ?_ ?_
    · rintro i kk v q σ H3 hi hq ⟨v2, v3, v4, xs, rfl, hL, tL, f3, k3⟩
      obtain ⟨y, hy, rfl, rfl⟩ := mark_key hi
      have hyq : m.q[i]? = some y.1 := by rw [← hC.qe, List.getElem?_map, hy]; rfl
      have hil := (List.getElem?_eq_some_iff.mp hy).1
      have hxl : xs.length ≤ i := by rw [tL.length, List.length_map, List.length_take]; omega
      refine ⟨q, _, rfl, SqT.of hq, rfl, _, _, rfl, _, _, rfl, rfl, ?_⟩
      refine ⟨_, rfl, _, rfl, (by decide : (2 : Nat) ≤ sizeLine), fun t ht => ?_⟩
      have nDt : D ≠ t := ne_of_none hL ht
      have nft : A.fr ≠ t := ne_of_none f3 ht
      have s4 := same_new (Same.refl H3) ht (o := .tup [kV (Sum.inl (((mkOf y.1).1 : Nat) : Int)), kV (Sum.inl (((mkOf y.1).2 : Nat) : Int))])
      have ht4 : upd H3 t (.tup [kV (Sum.inl (((mkOf y.1).1 : Nat) : Int)), kV (Sum.inl (((mkOf y.1).2 : Nat) : Int))]) t = some (.tup ((mkK (mkOf y.1)).map kV)) := upd_same
      have hL4 := s4 _ _ hL
      have f4 := s4 _ _ f3
      have tL4 := tL.mono (TSm.of_same s4)
      have k4 := k3.trans (Keep.of_same s4)
      generalize upd H3 t (.tup [kV (Sum.inl (((mkOf y.1).1 : Nat) : Int)), kV (Sum.inl (((mkOf y.1).2 : Nat) : Int))]) = H4 at *
      refine ⟨_, rfl, A.c, _, A.dx, _, _, rfl, k4 _ _ (by simp [c1, ne_of hC1.o hD1 (by intro e; cases e)]) hC1.o, T.cl_Craft, T.n_Craft_sent, cf_sent, A.se, _, rfl, DGet.t (k := mkK (mkOf y.1)) (k4 _ _ (by simp [hC.d1.symm, ne_of hC1.se hD1 (by intro e; cases e)]) hC1.se) ht4, _, rfl, ?_⟩
      rw [true_in]
      refine ife_skip (fun u H5 => u = .str (if mkOf y.1 ∈ m.sent then "sent" else "fresh") ∧ H5 = H4) (fun u H5 ⟨eu, e5⟩ => ?_) (fun e rest => ?_) (fun e rest => ?_)
      · subst eu e5
        refine ⟨_, rfl, .inl ⟨rfl, _, SqL.of hL4⟩, _, rfl, _, rfl, _, rfl, (by decide : (3 : Nat) ≤ sizeLine), fun t2 ht2 => ?_⟩
        have nDt2 : D ≠ t2 := ne_of_none hL4 ht2
        have nft2 : A.fr ≠ t2 := ne_of_none f4 ht2
        generalize hst : (V.str (if mkOf y.1 ∈ m.sent then "sent" else "fresh")) = sv at *
        have t5 := TSm.of_same (same_new (Same.refl H5) ht2 (o := .tup [.int ((y.1.1 : Nat) : Int), .int ((y.1.2.1 : Nat) : Int), sv]))
        refine ⟨D, xs, _, rfl, rfl, by rw [upd_ne nDt2]; exact hL4, lt_line (by omega), _, _, _, _, rfl, upd_same, ?_, by rw [upd_ne nfD, upd_ne nft2]; exact f4, keep_upd (keep_new' k4 ht2) (by simp)⟩
        have t6 : TSm (upd H5 t2 (.tup [.int ((y.1.1 : Nat) : Int), .int ((y.1.2.1 : Nat) : Int), sv])) (upd (upd H5 t2 (.tup [.int ((y.1.1 : Nat) : Int), .int ((y.1.2.1 : Nat) : Int), sv])) D (.lst (xs ++ [.ref t2]))) := ts_upd (TSm.refl _) (NoT.lst (by rw [upd_ne nDt2]; exact hL4))
        rw [List.take_add_one, hyq, Option.toList_some, List.map_append]
        refine ((tL4.mono t5).mono t6).app (.one (TD.mono t6 (.tup upd_same (.cons (.int _) (.cons (.int _) (.cons ?_ .nil))))))
        rw [← hst]
        exact .str _
      · exact rest _ _ ⟨by rw [if_pos (of_decide_eq_true e)], rfl⟩
      · exact rest _ _ ⟨by rw [if_neg (fun z => e (decide_eq_true z))], rfl⟩
    · rintro σ H3 ⟨v2, v3, v4, xs, rfl, hL, tL, f3, k3⟩
      rw [show (framesD qv).length = qv.length from keysD_len qv, hql, List.take_length] at tL
      refine ⟨f3, ?_⟩
      have s4 : Same H (upd H3 A.fr (.dT (framesD qv))) := fun b o e => by
        by_cases zf : b = A.fr
        · subst zf
          rw [upd_same, ← hC.fr]
          exact e
        · rw [upd_ne zf]
          refine k3 b o ?_ (s1 _ _ e)
          simp only [List.mem_cons, List.not_mem_nil, or_false, not_or]
          exact ⟨zf, ne_of_none e hD0⟩
      have t5 : TSm H3 (upd H3 A.fr (.dT (framesD qv))) := ts_upd (TSm.refl _) (fun ys e => by rw [f3] at e; cases e)
      exact ⟨_, rfl, fin D xs _ (by rw [upd_ne nfD.symm]; exact hL) (tL.mono t5) hD0 s4⟩
end
end K20

namespace K20
open PySem PySem.Spec PyProof.Rows L2 Sky
section
variable {P : Program} {w : World} {K : PySem.W.Frag} {mg : Str → Option Value} {base : Heap}
/-! ### lost -/
def sp_lost (C CL : Addr) : Sp := fun vs H Q _ => ∃ (A : Ca) (ps : List (Addr × Addr × Addr)) (room z : Nat) (ns : List (List Int × List Nat)) (m : Cr) (qv : List KF) (gs : List V), vs = [.ref A.c] ∧ CAt C CL H A ps room z ns m qv gs ∧
  ∀ p H', H' p = some (.lst gs) → TDs H' gs (m.gone.map mD2) → H p = none → Same H H' → Q (.ref p) H'
theorem ok_Craft_lost (T : Tx K mg) : FnOk P w K mg base CX0 1 T.a_Craft_lost T.d_Craft_lost ["self"] (sp_lost T.A_Craft T.A_Laying) := by
  have nd := sc_Craft_lost.nd
  refine T.F_Craft_lost.ok sc_Craft_lost (fun vs H Q E h => ?_) (fun cdv A0 outer s H vs Q E hr h => ?_)
  · obtain ⟨_, _, _, _, _, _, _, _, rfl, _⟩ := h
    rfl
  · obtain ⟨A, ps, room, z, ns, m, qv, gs, rfl, hC, fin⟩ := h
    refine ⟨_, (pss_one (ps_ret (pe_callTy call_list_of (by rfl) T.z_list (by decide +kernel) (pa_cons (pe_fld (pv 0) rfl) pa_nil)))), ?_⟩
    refine ⟨_, rfl, A.c, _, A.dx, _, _, rfl, hC.o, T.cl_Craft, T.n_Craft_gone, cf_gone, A.go, _, rfl, .inl (SqL.of hC.go), fun p hp => ?_⟩
    exact fin p _ upd_same (hC.gt.mono (TSm.of_same (same_new (Same.refl _) hp))) hp (same_new (Same.refl _) hp)
end
end K20

namespace K20
open PySem PySem.Spec PyProof.Rows L2 Sky
section
variable {P : Program} {w : World} {K : PySem.W.Frag} {mg : Str → Option Value} {base : Heap}
def sp_shut (C CL : Addr) : Sp := fun vs H Q _ => ∃ (A : Ca) (ps : List (Addr × Addr × Addr)) (room z : Nat) (ns : List (List Int × List Nat)) (m : Cr) (qv : List KF) (gs : List V), vs = [.ref A.c] ∧ CAt C CL H A ps room z ns m qv gs ∧
  ∀ H', CAt C CL H' A ps room z ns { m with win := false } qv gs → Keep [A.c] H H' → Dom H H' → Q (.bl m.win) H'
theorem ok_Craft_shut (T : Tx K mg) : FnOk P w K mg base CX0 1 T.a_Craft_shut T.d_Craft_shut ["self"] (sp_shut T.A_Craft T.A_Laying) := by
  have nd := sc_Craft_shut.nd
  refine T.F_Craft_shut.ok sc_Craft_shut (fun vs H Q E h => ?_) (fun cdv A0 outer s H vs Q E hr h => ?_)
  · obtain ⟨_, _, _, _, _, _, _, _, rfl, _⟩ := h
    rfl
  · obtain ⟨A, ps, room, z, ns, m, qv, gs, rfl, hC, fin⟩ := h
    refine ⟨_, (pss_cons (ps_set (i := 1) nd rfl (Or.inl rfl) (pe_fld (pv 0) rfl)) (pss_cons (ps_fld (pv 0) pe_bl rfl) (pss_one (ps_ret (pv 1))))), ?_⟩
    refine ⟨_, rfl, A.c, _, A.dx, _, _, rfl, hC.o, T.cl_Craft, T.n_Craft_window, cf_window, ?_⟩
    refine ⟨_, rfl, A.c, _, A.dx, _, rfl, hC.o, T.cl_Craft, T.n_Craft_window, cf_few, ?_⟩
    rw [cf_put]
    exact ⟨_, rfl, fin _ (hC.window false) (keep_upd (Keep.refl _ _) (by simp)) (dom_upd _ _ _)⟩
end
end K20

namespace K20
open PySem PySem.Spec PyProof.Rows L2 Sky
section
variable {P : Program} {w : World} {K : PySem.W.Frag} {mg : Str → Option Value} {base : Heap}
/-! ### again -/
def Cr.again1 (m : Cr) (k : Nat × Nat) : Cr := if k ∈ m.marks then { m with asked := if k ∈ m.asked then m.asked else m.asked ++ [k] } else m
def Cr.agains (m : Cr) (ks : List (Nat × Nat)) : Cr := ks.foldl Cr.again1 m
theorem agains_snoc (m : Cr) (ks : List (Nat × Nat)) (k : Nat × Nat) : m.agains (ks ++ [k]) = (m.agains ks).again1 k := by
  unfold Cr.agains
  rw [List.foldl_append]
  rfl
theorem again1_q (m : Cr) (k : Nat × Nat) : (m.again1 k).q = m.q ∧ (m.again1 k).sent = m.sent ∧ (m.again1 k).gone = m.gone ∧ (m.again1 k).win = m.win := by
  unfold Cr.again1
  split <;> exact ⟨rfl, rfl, rfl, rfl⟩
theorem agains_q (ks : List (Nat × Nat)) (m : Cr) : (m.agains ks).q = m.q ∧ (m.agains ks).sent = m.sent ∧ (m.agains ks).gone = m.gone ∧ (m.agains ks).win = m.win := by
  unfold Cr.agains
  induction ks generalizing m with
  | nil => exact ⟨rfl, rfl, rfl, rfl⟩
  | cons k ks ih =>
    rw [List.foldl_cons]
    obtain ⟨h1, h2, h3, h4⟩ := ih (m.again1 k)
    obtain ⟨g1, g2, g3, g4⟩ := again1_q m k
    exact ⟨h1.trans g1, h2.trans g2, h3.trans g3, h4.trans g4⟩
theorem agains_marks (ks : List (Nat × Nat)) (m : Cr) : (m.agains ks).marks = m.marks := by
  unfold Cr.marks
  rw [(agains_q ks m).1]
theorem Cr.Ok.again1 {room : Nat} {m : Cr} (h : m.Ok room) (k : Nat × Nat) : (m.again1 k).Ok room := by
  unfold Cr.again1
  split
  · rename_i hk
    refine ⟨h.nd, h.few, h.sn, h.ss, ?_, fun j hj => ?_⟩
    · show (if k ∈ m.asked then m.asked else m.asked ++ [k]).Nodup
      split
      · exact h.an
      · rename_i z
        rw [List.nodup_append]
        refine ⟨h.an, by simp, fun a ha b hb => ?_⟩
        rw [List.mem_singleton.mp hb]
        exact fun e => z (by rw [← e]; exact ha)
    · have hj : j ∈ (if k ∈ m.asked then m.asked else m.asked ++ [k]) := hj
      split at hj
      · exact h.as j hj
      · rcases List.mem_append.mp hj with z | z
        · exact h.as j z
        · rw [List.mem_singleton.mp z]; exact hk
  · exact h
theorem Cr.Ok.agains {room : Nat} {m : Cr} (h : m.Ok room) (ks : List (Nat × Nat)) : (m.agains ks).Ok room := by
  unfold Cr.agains
  induction ks generalizing m with
  | nil => exact h
  | cons k ks ih =>
    rw [List.foldl_cons]
    exact ih (h.again1 k)
def sp_again (C CL : Addr) : Sp := fun vs H Q _ => ∃ (A : Ca) (ps : List (Addr × Addr × Addr)) (room z : Nat) (ns : List (List Int × List Nat)) (m : Cr) (qv : List KF) (gs : List V) (lm : Addr) (us : List V) (ks : List (Nat × Nat)), vs = [.ref A.c, .ref lm] ∧ CAt C CL H A ps room z ns m qv gs ∧
  H lm = some (.lst us) ∧ TDs H us (ks.map mD2) ∧ (∀ k ∈ ks, k.1 ≤ 3 ∧ k.2 ≤ 9999) ∧ ks.length ≤ 1000000 ∧
  ∀ r xs H', H' r = some (.lst xs) → TDs H' xs ((ks.filter fun k => !decide (k ∈ m.marks)).map mD2) → CAt C CL H' A ps room z ns (m.agains ks) qv gs → H r = none → Keep [A.ak] H H' → Dom H H' → Q (.ref r) H'
theorem ok_Craft_again (T : Tx K mg) : FnOk P w K mg base CX0 5 T.a_Craft_again T.d_Craft_again ["self", "marks"] (sp_again T.A_Craft T.A_Laying) := by
  have nd := sc_Craft_again.nd
  refine T.F_Craft_again.ok sc_Craft_again (fun vs H Q E h => ?_) (fun cdv A0 outer s H vs Q E hr h => ?_)
  · obtain ⟨_, _, _, _, _, _, _, _, _, _, _, rfl, _⟩ := h
    rfl
  · obtain ⟨A, ps, room, z, ns, m, qv, gs, lm, us, ks, rfl, hC, hl, tu, hok, hkl, fin⟩ := h
    have hul : us.length = ks.length := by rw [tu.length, List.length_map]
    have l3 : lm ≠ A.ak := ne_of hl hC.ak (by intro e; cases e)
    have hr60 := hC.r60.2
    refine ⟨_, (pss_cons (ps_expr (pe_call (ok_check_marks T) (hr.mono (by decide)) (by rfl) T.m_check_marks T.F_check_marks.kp T.b_check_marks .nil pass0 (pa_cons (pv 1) pa_nil))) (pss_cons (ps_set (i := 2) nd rfl (Or.inl rfl) (pe_lst pa_nil)) (pss_cons (ps_for PassesOwn.never rfl (pi_list (pv 1)) (pg_name (i := 3) nd rfl (Or.inl rfl)) (pss_one (ps_if (pt_cmp (pc_din (hu_of hr) (pv 3) (pe_fld (pv 0) rfl))) (pss_one (ps_expr (pe_dsetdT (hu_of hr) (pe_fld (pv 0) rfl) (pv 3) pe_bl ⟨rfl, rfl, rfl, rfl⟩))) (pss_one (ps_expr (pe_bm PySem.F.plainAttrs_list PySem.F.slot_list_append PySem.F.type_list_append mt_append (pv 2) (pa_cons (pv 3) pa_nil))))))) (pss_one (ps_ret (pv 2)))))), ?_⟩
    refine ⟨_, rfl, lm, us, ks, rfl, hl, tu, hok, fun H1 s1 => ?_⟩
    have hC1 := hC.same s1
    have hl1 := s1 _ _ hl
    refine ⟨Nat.zero_le _, fun D hD => ?_⟩
    have s2 := same_new (Same.refl H1) hD (o := .lst [])
    have hD2 : upd H1 D (.lst []) D = some (.lst []) := upd_same
    have hC2 := hC1.same s2
    have hl2 := s2 _ _ hl1
    have nak : A.ak ≠ D := ne_of_none hC1.ak hD
    have nlD : lm ≠ D := ne_of_none hl1 hD
    have hD0 := s1.free hD
    generalize upd H1 D (.lst []) = H2 at *
    have s12 := s1.trans s2
    obtain ⟨c1, c2, c3, c4, c5⟩ := hC2.nec
    refine ⟨_, rfl, lm, rfl, ⟨_, SqL.of hl2⟩, ?_⟩
    refine for_list (K := K) (a := lm) (xs := us) (fun i σ H' => ∃ (v3 : Option V) (xs : List V), σ = [some (.ref A.c), some (.ref lm), some (.ref D), v3] ∧ H' D = some (.lst xs) ∧ TDs H' xs (((ks.take i).filter fun k => !decide (k ∈ m.marks)).map mD2) ∧ xs.length ≤ i ∧ CAt T.A_Craft T.A_Laying H' A ps room z ns (m.agains (ks.take i)) qv gs ∧ Keep [A.ak, D] H2 H' ∧ Dom H2 H') ⟨none, [], rfl, hD2, .nil, Nat.le_refl _, hC2, Keep.refl _ _, Dom.refl _⟩ (fun i σ H' _ ⟨_, _, _, _, _, _, _, k, _⟩ => SqL.of (k _ _ (by simp [l3, nlD]) hl2)) ?_ ?_
    · rintro i y σ H3 hy ⟨v3, xs, rfl, hD3, tx, hxl, hC3, k3, d3⟩
      obtain ⟨d, hd, td⟩ := tu.get hy
      obtain ⟨k, hk, rfl⟩ := map_get hd
      have hil := (List.getElem?_eq_some_iff.mp hy).1
      have ts : TSm H H3 := (TSm.of_same s12).trans (k3.ts fun a ha => by
        rcases List.mem_cons.mp ha with e | e
        · rw [e]; exact NoT.dT hC2.ak
        · rw [List.mem_singleton.mp e]; exact NoT.lst hD2)
      have tk := td.mono ts
      obtain ⟨b, rfl, hb⟩ := key_td tk
      have esn : ks.take (i + 1) = ks.take i ++ [k] := by rw [List.take_add_one, hk]; rfl
      have emk := agains_marks (ks.take i) m
      rw [walked (p := fun k => !decide (k ∈ m.marks)) hk, esn, agains_snoc]
      generalize m.agains (ks.take i) = mi at *
      refine ⟨_, rfl, _, rfl, A.c, _, A.dx, _, _, rfl, hC3.o, T.cl_Craft, T.n_Craft_frames, cf_frames, A.fr, _, rfl, DGet.t (k := mkK k) hC3.fr hb, _, rfl, ?_⟩
      have ein : (valV (framesD qv) (mkK k)).isSome = decide (k ∈ m.marks) := by unfold framesD; rw [val_isSome, hC3.marksq, emk]
      rw [ein]
      by_cases c : k ∈ m.marks
      · rw [decide_eq_true c]
        refine iteT ?_
        have e1 : mi.again1 k = { mi with asked := if k ∈ mi.asked then mi.asked else mi.asked ++ [k] } := if_pos (by rw [emk]; exact c)
        have ok4 := hC3.ok.again1 k
        rw [e1] at ok4 ⊢
        have hal := hC3.ok.lens.2
        refine ⟨_, rfl, A.c, _, A.dx, _, _, rfl, hC3.o, T.cl_Craft, T.n_Craft_asked, cf_asked, A.ak, rfl, .inr ⟨_, Rd.of hC3.ak⟩, _, rfl, trueD mi.asked, mkK k, b, hC3.ak, rfl, hb, lt_line (by rw [trueD_len]; omega), fun v hv => ?_, fun hv => ?_⟩
        · have hin : k ∈ mi.asked := by
            have := true_in (l := mi.asked) (m := k)
            rw [hv] at this
            exact of_decide_eq_true this.symm
          refine ⟨_, xs, rfl, hD3, ?_, Nat.le_succ_of_le hxl, ?_, k3, d3⟩
          · rw [if_neg (by decide), List.append_nil]; exact tx
          · rw [if_pos hin]; exact hC3
        · have hin : k ∉ mi.asked := fun h => by
            have := true_in (l := mi.asked) (m := k)
            rw [hv, decide_eq_true h] at this
            cases this
          have ep : putK (trueD mi.asked) (mkK k) (.bl true) = trueD (mi.asked ++ [k]) := by rw [true_put, if_neg hin]
          rw [ep]
          have t4 : TSm H3 (upd H3 A.ak (.dT (trueD (mi.asked ++ [k])))) := ts_upd (TSm.refl _) (NoT.dT hC3.ak)
          refine ⟨_, xs, rfl, by rw [upd_ne nak.symm]; exact hD3, ?_, Nat.le_succ_of_le hxl, ?_, keep_upd k3 (by simp), d3.upd _ _⟩
          · rw [if_neg (by decide), List.append_nil]; exact tx.mono t4
          · rw [if_neg hin] at ok4 ⊢
            obtain ⟨n1, n2, n3⟩ := hC3.neg
            exact hC3.step (keep_upd (Keep.refl _ _) (by simp)) rfl ok4 hC3.qe (by rw [upd_ne hC3.d2]; exact hC3.fr) (by rw [upd_ne hC3.d3]; exact hC3.se) upd_same (by rw [upd_ne n3]; exact hC3.go) (fun x hx => (hC3.ft x hx).mono t4) (hC3.gt.mono t4)
      · rw [decide_eq_false c]
        have e1 : mi.again1 k = mi := if_neg (by rw [emk]; exact c)
        rw [e1]
        refine iteF ?_
        have t4 : TSm H3 (upd H3 D (.lst (xs ++ [.ref b]))) := ts_upd (TSm.refl _) (NoT.lst hD3)
        refine ⟨_, rfl, .inl ⟨rfl, _, SqL.of hD3⟩, _, rfl, D, xs, _, rfl, rfl, hD3, lt_line (by omega), _, xs ++ [.ref b], rfl, upd_same, ?_, by rw [List.length_append]; exact Nat.succ_le_succ hxl, ?_, keep_upd k3 (by simp), d3.upd _ _⟩
        · rw [if_pos (by decide), List.map_append]
          exact (tx.mono t4).app (.one (tk.mono t4))
        · refine hC3.else (N := [D]) (keep_upd (Keep.refl _ _) (by simp)) t4 fun a ha z => ?_
          have hDn : D ∉ cM A ps := fun zz => by
            have hall : ∃ o, H1 D = some o := by
              unfold cM at zz
              rcases List.mem_append.mp zz with zz | zz
              · rcases List.mem_append.mp zz with zz | zz
                · simp only [List.mem_cons, List.not_mem_nil, or_false] at zz
                  rcases zz with e | e | e | e | e | e
                  · rw [e]; exact ⟨_, hC1.o⟩
                  · rw [e]; exact ⟨_, hC1.la⟩
                  · rw [e]; exact ⟨_, hC1.fr⟩
                  · rw [e]; exact ⟨_, hC1.se⟩
                  · rw [e]; exact ⟨_, hC1.ak⟩
                  · rw [e]; exact ⟨_, hC1.go⟩
                · obtain ⟨p, hp, e⟩ := List.mem_map.mp zz
                  obtain ⟨_, _, _, _, q1, q2⟩ := hC1.lays hp
                  rw [← e]; exact ⟨_, q1⟩
              · obtain ⟨p, hp, e⟩ := List.mem_map.mp zz
                obtain ⟨_, _, _, _, q1, q2⟩ := hC1.lays hp
                rw [← e]; exact ⟨_, q2⟩
            obtain ⟨o, ho⟩ := hall
            rw [hD] at ho; cases ho
          rw [List.mem_singleton.mp z] at ha
          exact hDn ha
    · rintro σ H3 ⟨v3, xs, rfl, hD3, tx, hxl, hC3, k3, d3⟩
      rw [hul, List.take_length] at tx hC3
      refine ⟨_, rfl, ?_⟩
      refine fin D xs H3 hD3 tx hC3 hD0 (fun b o n e => ?_) ((Dom.of_same s12).trans d3)
      refine k3 b o ?_ (s12 _ _ e)
      simp only [List.mem_cons, List.not_mem_nil, or_false, not_or] at n ⊢
      exact ⟨n, ne_of_none e hD0⟩
end
end K20

namespace K20
open PySem PySem.Spec PyProof.Rows L2 Sky
theorem set_same {α : Type} : ∀ {l : List α} {i : Nat} {x : α}, l[i]? = some x → l.set i x = l
  | [], _, _, h => by simp at h
  | y :: l, 0, x, h => by
    have e : y = x := Option.some.inj h
    rw [e]; rfl
  | y :: l, i + 1, x, h => by
    show y :: l.set i x = y :: l
    rw [set_same (by simpa using h)]
theorem nodup_set {l : List Addr} (nd : l.Nodup) {i : Nat} {x : Addr} (h : x ∉ l ∨ l[i]? = some x) : (l.set i x).Nodup := by
  rcases h with h | h
  · refine List.pairwise_iff_getElem.mpr fun j k hj hk hjk => ?_
    rw [List.length_set] at hj hk
    rw [List.getElem_set, List.getElem_set]
    have hjk2 := List.pairwise_iff_getElem.mp nd j k hj hk hjk
    split
    · split
      · omega
      · intro e; exact h (by rw [e]; exact List.getElem_mem hk)
    · split
      · intro e; exact h (by rw [← e]; exact List.getElem_mem hj)
      · exact hjk2
  · rw [set_same h]; exact nd
def tFrames (z : Nat) (n : List Int × List Nat) (t : List Int) : List Frm := (frms z (lay1 n t).1 (lay1 n t).2).drop (n.1.length / z)
def Cr.keeps (room : Nat) (m : Cr) (s : Nat) (fs : List Frm) : Cr := fs.foldl (fun m f => m.keep room (s, f)) m
theorem keeps_snoc (room : Nat) (m : Cr) (s : Nat) (fs : List Frm) (f : Frm) : m.keeps room s (fs ++ [f]) = (m.keeps room s fs).keep room (s, f) := by
  unfold Cr.keeps
  rw [List.foldl_append]
  rfl
theorem makeRoom_q {m : Cr} {x : Nat × Frm} (h : x ∈ m.makeRoom.q) : x ∈ m.q := by
  unfold Cr.makeRoom at h
  split at h
  · exact (List.mem_filter.mp h).1
  · split at h
    · exact (List.mem_filter.mp h).1
    · exact h
theorem keep_q {room : Nat} {m : Cr} {x y : Nat × Frm} (h : x ∈ (m.keep room y).q) : x ∈ m.q ∨ x = y := by
  unfold Cr.keep at h
  split at h
  · rcases List.mem_append.mp h with z | z
    · exact .inl (makeRoom_q z)
    · exact .inr (List.mem_singleton.mp z)
  · rcases List.mem_append.mp h with z | z
    · exact .inl z
    · exact .inr (List.mem_singleton.mp z)
theorem keep_gone (room : Nat) (m : Cr) (y : Nat × Frm) : (m.keep room y).gone.length ≤ m.gone.length + 1 := by
  unfold Cr.keep
  split
  · exact makeRoom_gone_le m
  · exact Nat.le_succ _
/-- what is kept was made -/
def Below (m : Cr) (z : Nat) (ns : List (List Int × List Nat)) : Prop := ∀ x ∈ m.q, ∃ n, ns[x.1]? = some n ∧ x.2.1 < n.1.length / z
theorem tFrames_at {z : Nat} {n : List Int × List Nat} {t : List Int} {i : Nat} {f : Frm} (h : (tFrames z n t)[i]? = some f) : f.1 = n.1.length / z + i ∧ f.1 < (lay1 n t).1.length / z := by
  unfold tFrames frms at h
  rw [List.getElem?_drop] at h
  obtain ⟨c, hc, rfl⟩ := map_get h
  have hl := (List.getElem?_eq_some_iff.mp hc).1
  rw [List.length_range] at hl
  rw [List.getElem?_range hl] at hc
  have e : n.1.length / z + i = c := Option.some.inj hc
  subst e
  exact ⟨rfl, hl⟩
theorem lay1_len (n : List Int × List Nat) (t : List Int) : (lay1 n t).1.length = n.1.length + (t.length + 3) := by
  show (n.1 ++ laidN _ t).length = _
  rw [List.length_append, laidN_length]
theorem div_more {z a b : Nat} (hz : 0 < z) : (a + b) / z ≤ a / z + b := by
  have h1 := div_hi hz a
  have h2 : b ≤ b * z := Nat.le_mul_of_pos_right b hz
  have h3 : (a + b) / z < a / z + b + 1 := by
    rw [Nat.div_lt_iff_lt_mul hz, Nat.add_mul, Nat.add_mul, Nat.one_mul]
    omega
  omega
theorem tFrames_len {z : Nat} {n : List Int × List Nat} {t : List Int} (hz : 0 < z) (ht : t.length ≤ 20) : (tFrames z n t).length ≤ 23 := by
  unfold tFrames
  rw [List.length_drop, frms_length, lay1_len]
  have := div_more (a := n.1.length) (b := t.length + 3) hz
  omega
theorem laid_grow {z : Nat} {n : List Int × List Nat} {t : List Int} : n.1.length / z ≤ (lay1 n t).1.length / z := by
  rw [lay1_len]
  exact Nat.div_le_div_right (by omega)
theorem CAt.relay {C CL : Addr} {H H' : Hp} {A : Ca} {ps : List (Addr × Addr × Addr)} {room z : Nat} {ns : List (List Int × List Nat)} {m : Cr} {qv : List KF} {gs : List V} (h : CAt C CL H A ps room z ns m qv gs) {s : Nat} {p : Addr × Addr × Addr} {n n' : List Int × List Nat} (hp : ps[s]? = some p) (hn : ns[s]? = some n) {l' : Addr}
    (k : Keep [p.1, p.2.2] H H') (hl : LAt CL H' p.1 p.2.1 l' ((s : Nat) : Int) z n'.1 n'.2) (laid : Laid n'.1 n'.2) (fresh : l' = p.2.2 ∨ H l' = none) : CAt C CL H' A (ps.set s (p.1, p.2.1, l')) room z (ns.set s n') m qv gs := by
  have hpm := List.mem_of_getElem? hp
  obtain ⟨⟨hi, hls⟩, _⟩ := h.lay s p n hp hn
  obtain ⟨pc1, pc2, pc3⟩ := h.pc p hpm
  have ts : TSm H H' := k.ts fun a ha => by
    rcases List.mem_cons.mp ha with e | e
    · rw [e]; exact NoT.ins hi
    · rw [List.mem_singleton.mp e]; exact NoT.lst hls
  have g : ∀ a o, H a = some o → a ≠ p.1 → a ≠ p.2.2 → H' a = some o := fun a o e n1 n2 => k a o (by simp [n1, n2]) e
  have e1 : (ps.set s (p.1, p.2.1, l')).map (fun p => p.1) = ps.map fun p => p.1 := by
    rw [List.map_set]
    exact set_same (by rw [List.getElem?_map, hp]; rfl)
  have e1r : (ps.set s (p.1, p.2.1, l')).map (fun p => V.ref p.1) = ps.map fun p => V.ref p.1 := by
    rw [List.map_set]
    exact set_same (by rw [List.getElem?_map, hp]; rfl)
  have hlen := (List.getElem?_eq_some_iff.mp hp).1
  have hlenn := (List.getElem?_eq_some_iff.mp hn).1
  refine ⟨g _ _ h.o pc1.symm (ne_of h.o hls (by intro e; cases e)), by rw [e1r]; exact g _ _ h.la (ne_of h.la hi (by intro e; cases e)) pc2.symm, by rw [List.length_set]; exact h.pl, by rw [List.length_set]; exact h.nl, fun i q r hq hr => ?_, g _ _ h.fr (ne_of h.fr hi (by intro e; cases e)) (ne_of h.fr hls (by intro e; cases e)), h.qe, fun x hx => (h.ft x hx).mono ts, g _ _ h.se (ne_of h.se hi (by intro e; cases e)) (ne_of h.se hls (by intro e; cases e)), g _ _ h.ak (ne_of h.ak hi (by intro e; cases e)) (ne_of h.ak hls (by intro e; cases e)), g _ _ h.go (ne_of h.go hi (by intro e; cases e)) pc3.symm, h.gt.mono ts, h.ok, h.r60, h.d1, h.d2, h.d3, h.d4, fun q hq => ?_, by rw [e1]; exact h.pd, ?_⟩
  · by_cases e : i = s
    · subst e
      rw [List.getElem?_set_self hlen] at hq
      rw [List.getElem?_set_self hlenn] at hr
      rw [← Option.some.inj hq, ← Option.some.inj hr]
      exact ⟨hl, laid⟩
    · rw [List.getElem?_set_ne (fun z => e z.symm)] at hq hr
      obtain ⟨⟨h1, h2⟩, h3⟩ := h.lay i q r hq hr
      have il := (List.getElem?_eq_some_iff.mp hq).1
      have n1 : q.1 ≠ p.1 := fun z => by
        have a1 : (ps.map (·.1))[i]? = some q.1 := by rw [List.getElem?_map, hq]; rfl
        have a2 : (ps.map (·.1))[s]? = some p.1 := by rw [List.getElem?_map, hp]; rfl
        exact e ((List.getElem?_inj (by rw [List.length_map]; exact il) h.pd).mp (by rw [a1, a2, z]))
      have n2 : q.2.2 ≠ p.2.2 := fun z => by
        have a1 : (ps.map (·.2.2))[i]? = some q.2.2 := by rw [List.getElem?_map, hq]; rfl
        have a2 : (ps.map (·.2.2))[s]? = some p.2.2 := by rw [List.getElem?_map, hp]; rfl
        exact e ((List.getElem?_inj (by rw [List.length_map]; exact il) h.ld).mp (by rw [a1, a2, z]))
      exact ⟨⟨g _ _ h1 n1 (ne_of h1 hls (by intro e; cases e)), g _ _ h2 (ne_of h2 hi (by intro e; cases e)) n2⟩, h3⟩
  · rcases List.mem_or_eq_of_mem_set hq with e | e
    · exact h.pc q e
    · rw [e]
      refine ⟨pc1, ?_, ?_⟩
      · rcases fresh with f | f
        · show l' ≠ _; rw [f]; exact pc2
        · exact (ne_of_none h.la f).symm
      · rcases fresh with f | f
        · show l' ≠ _; rw [f]; exact pc3
        · exact (ne_of_none h.go f).symm
  · rw [List.map_set]
    refine nodup_set h.ld ?_
    rcases fresh with f | f
    · right; show _ = some l'; rw [f, List.getElem?_map, hp]; rfl
    · left
      intro hm
      obtain ⟨q, hq, eq⟩ := List.mem_map.mp hm
      obtain ⟨_, _, _, _, _, q2⟩ := h.lays hq
      rw [show q.2.2 = l' from eq, f] at q2
      cases q2
theorem cM_set {A : Ca} {ps : List (Addr × Addr × Addr)} {s : Nat} {p : Addr × Addr × Addr} {l' x : Addr} (hp : ps[s]? = some p) (h : x ∈ cM A (ps.set s (p.1, p.2.1, l'))) : x ∈ cM A ps ∨ x = l' := by
  unfold cM at *
  rcases List.mem_append.mp h with h | h
  · rcases List.mem_append.mp h with h | h
    · exact .inl (List.mem_append_left _ (List.mem_append_left _ h))
    · obtain ⟨q, hq, rfl⟩ := List.mem_map.mp h
      rcases List.mem_or_eq_of_mem_set hq with e | e
      · exact .inl (List.mem_append_left _ (List.mem_append_right _ (List.mem_map.mpr ⟨q, e, rfl⟩)))
      · rw [e]
        exact .inl (List.mem_append_left _ (List.mem_append_right _ (List.mem_map.mpr ⟨p, List.mem_of_getElem? hp, rfl⟩)))
  · obtain ⟨q, hq, rfl⟩ := List.mem_map.mp h
    rcases List.mem_or_eq_of_mem_set hq with e | e
    · exact .inl (List.mem_append_right _ (List.mem_map.mpr ⟨q, e, rfl⟩))
    · rw [e]; exact .inr rfl
section
variable {P : Program} {w : World} {K : PySem.W.Frag} {mg : Str → Option Value} {base : Heap}
theorem cM4 {A : Ca} {ps : List (Addr × Addr × Addr)} : ∀ x ∈ [A.fr, A.se, A.ak, A.go], x ∈ cM A ps := by
  intro x hx
  unfold cM
  refine List.mem_append_left _ (List.mem_append_left _ ?_)
  simp only [List.mem_cons, List.not_mem_nil, or_false] at hx ⊢
  rcases hx with e | e | e | e <;> simp [e]
theorem cMp {A : Ca} {ps : List (Addr × Addr × Addr)} {p : Addr × Addr × Addr} (hp : p ∈ ps) : ∀ x ∈ [p.1, p.2.2], x ∈ cM A ps := by
  intro x hx
  unfold cM
  rcases List.mem_cons.mp hx with e | e
  · rw [e]; exact List.mem_append_left _ (List.mem_append_right _ (List.mem_map.mpr ⟨p, hp, rfl⟩))
  · rw [List.mem_singleton.mp e]; exact List.mem_append_right _ (List.mem_map.mpr ⟨p, hp, rfl⟩)
/-! ### tell -/
def sp_tell (C CL : Addr) : Sp := fun vs H Q _ => ∃ (A : Ca) (ps : List (Addr × Addr × Addr)) (room z : Nat) (ns : List (List Int × List Nat)) (m : Cr) (qv : List KF) (gs : List V) (s : Nat) (n : List Int × List Nat) (a : Addr) (t : List Int), vs = [.ref A.c, .int ((s : Nat) : Int), .ref a] ∧ CAt C CL H A ps room z ns m qv gs ∧ Below m z ns ∧
  ns[s]? = some n ∧ H a = some (.tup (t.map V.int)) ∧ tellOk t ∧ 8 ≤ z ∧ z ≤ 24 ∧ m.gone.length + 30 ≤ 1000000 ∧
  ∀ H' ps' qv' gs', CAt C CL H' A ps' room z (ns.set s (lay1 n t)) (m.keeps room s (tFrames z n t)) qv' gs' → Below (m.keeps room s (tFrames z n t)) z (ns.set s (lay1 n t)) → (m.keeps room s (tFrames z n t)).gone.length ≤ m.gone.length + 23 → (∀ x ∈ cM A ps', x ∈ cM A ps ∨ H x = none) → Keep (cM A ps) H H' → Dom H H' → Q (.int ((n.2.length : Nat) : Int)) H'
theorem ok_Craft_tell (T : Tx K mg) : FnOk P w K mg base CX0 5 T.a_Craft_tell T.d_Craft_tell ["self", "stream", "data"] (sp_tell T.A_Craft T.A_Laying) := by
  have nd := sc_Craft_tell.nd
  refine T.F_Craft_tell.ok sc_Craft_tell (fun vs H Q E h => ?_) (fun cdv A0 outer s0 H vs Q E hr h => ?_)
  · obtain ⟨_, _, _, _, _, _, _, _, _, _, _, _, rfl, _⟩ := h
    rfl
  · obtain ⟨A, ps, room, z, ns, m, qv, gs, s, n, a, t, rfl, hC, hB, hn, ha, ht, hz8, hz24, hgl, fin⟩ := h
    have hs4 : s < 4 := by
      have := (List.getElem?_eq_some_iff.mp hn).1
      rw [hC.nl] at this
      exact this
    obtain ⟨p, hp⟩ : ∃ p, ps[s]? = some p := ⟨_, List.getElem?_eq_getElem (by rw [hC.pl]; exact hs4)⟩
    have hpm := List.mem_of_getElem? hp
    refine ⟨_, (pss_cons (ps_expr (pe_call (ok_check_stream T) (hr.mono (by decide)) (by rfl) T.m_check_stream T.F_check_stream.kp T.b_check_stream .nil pass0 (pa_cons (pv 1) pa_nil))) (pss_cons (ps_expr (pe_call (ok_check_telling T) (hr.mono (by decide)) (by rfl) T.m_check_telling T.F_check_telling.kp T.b_check_telling .nil pass0 (pa_cons (pv 2) pa_nil))) (pss_cons (ps_set (i := 3) nd rfl (Or.inl rfl) (pe_ix ix_list (pe_fld (pv 0) rfl) (pv 1) (fun _ _ => rfl))) (pss_cons (ps_set (i := 4) nd rfl (Or.inl rfl) (pe_fld (pv 3) rfl)) (pss_cons (ps_for PassesOwn.never rfl (pi_list (pe_meth (pv 3) T.cl_Laying T.M_Laying_lay (ok_Laying_lay T) (hr.mono (by decide)) T.b_Laying_lay .nil pass0 (pa_cons (pv 2) pa_nil))) (pg_name (i := 5) nd rfl (Or.inl rfl)) (pss_one (ps_expr (pe_meth (pv 0) T.cl_Craft T.M_Craft_keep (ok_Craft_keep T) (hr.mono (by decide)) T.b_Craft_keep .nil pass0 (pa_cons (pv 5) pa_nil))))) (pss_one (ps_ret (pv 4)))))))), ?_⟩
    refine ⟨_, rfl, ((s : Nat) : Int), rfl, by omega, by omega, ?_⟩
    refine ⟨_, rfl, a, t, rfl, ha, ht, fun H1 s1 => ?_⟩
    have hC1 := hC.same s1
    have hpv : (ps.map fun p => V.ref p.1)[s]? = some (.ref p.1) := by rw [List.getElem?_map, hp]; rfl
    refine ⟨_, rfl, A.c, _, A.dx, _, _, rfl, hC1.o, T.cl_Craft, T.n_Craft_layings, cf_layings, _, rfl, A.la, _, ((s : Nat) : Int), _, rfl, rfl, SqL.of hC1.la, atI_nat hpv, ?_⟩
    obtain ⟨⟨hi, hls⟩, laid⟩ := hC1.lay s p n hp hn
    refine ⟨_, rfl, p.1, _, p.2.1, _, _, rfl, hi, T.cl_Laying, T.n_Laying_many, lf_many, ?_⟩
    refine ⟨_, rfl, p.1, p.2.1, _, rfl, hi, lf_no (by decide), _, rfl, p.1, p.2.1, p.2.2, a, ((s : Nat) : Int), z, n.1, n.2, t, rfl, ⟨hi, hls⟩, by omega, by omega, laid, s1 _ _ ha, by have := ht.2.1; omega, fun r us H2 l' hr2 tu hL2 fr2 nr k2 d2 => ?_⟩
    have hC2 := hC1.relay hp hn k2 hL2 (laid.lay1 t) fr2
    have k02 : Keep (cM A ps) H H2 := (Keep.of_same s1).trans (k2.mono (cMp hpm))
    have d02 : Dom H H2 := (Dom.of_same s1).trans d2
    have hcM : ∀ x ∈ cM A (ps.set s (p.1, p.2.1, l')), x ∈ cM A ps ∨ H x = none := fun x hx => by
      rcases cM_set hp hx with e | e
      · exact .inl e
      · rw [e]
        rcases fr2 with f | f
        · rw [f]; exact .inl (cMp hpm _ (by simp))
        · exact .inr (s1.free f)
    have nfr : A.fr ≠ r := ne_of_none hC1.fr nr
    have nse : A.se ≠ r := ne_of_none hC1.se nr
    have nak : A.ak ≠ r := ne_of_none hC1.ak nr
    have ngo : A.go ≠ r := ne_of_none hC1.go nr
    change TDs H2 us ((tFrames z n t).map (frmD ((s : Nat) : Int))) at tu
    change CAt T.A_Craft T.A_Laying H2 A (ps.set s (p.1, p.2.1, l')) room z (ns.set s (lay1 n t)) m qv gs at hC2
    have hfl := tFrames_len (n := n) (t := t) (show 0 < z by omega) ht.2.1
    have hul : us.length = (tFrames z n t).length := by rw [tu.length, List.length_map]
    have hFs : ∀ i f, (tFrames z n t)[i]? = some f → f.1 = n.1.length / z + i ∧ f.1 < (lay1 n t).1.length / z := fun i f h => tFrames_at h
    have hgrow := laid_grow (z := z) (n := n) (t := t)
    generalize tFrames z n t = fs at *
    generalize ps.set s (p.1, p.2.1, l') = ps2 at *
    refine ⟨r, rfl, ⟨_, SqL.of hr2⟩, ?_⟩
    refine for_list (K := K) (a := r) (xs := us) (fun i σ H' => ∃ (v5 : Option V) (qv' : List KF) (gs' : List V), σ = [some (.ref A.c), some (.int ((s : Nat) : Int)), some (.ref a), some (.ref p.1), some (.int ((n.2.length : Nat) : Int)), v5] ∧ CAt T.A_Craft T.A_Laying H' A ps2 room z (ns.set s (lay1 n t)) (m.keeps room s (fs.take i)) qv' gs' ∧
      (∀ x ∈ (m.keeps room s (fs.take i)).q, x ∈ m.q ∨ (x.1 = s ∧ x.2.1 < n.1.length / z + i ∧ x.2.1 < (lay1 n t).1.length / z)) ∧ (m.keeps room s (fs.take i)).gone.length ≤ m.gone.length + i ∧ Keep [A.fr, A.se, A.ak, A.go] H2 H' ∧ Dom H2 H') ⟨_, qv, gs, rfl, hC2, fun x hx => .inl hx, Nat.le_refl _, Keep.refl _ _, Dom.refl _⟩ (fun i σ H' _ ⟨_, _, _, _, _, _, _, k, _⟩ => SqL.of (k _ _ (by simp [nfr.symm, nse.symm, nak.symm, ngo.symm]) hr2)) ?_ ?_
    · rintro i y σ H3 hy ⟨v5, qv3, gs3, rfl, hC3, hin, hg3, k3, d3⟩
      obtain ⟨d, hd, td⟩ := tu.get hy
      obtain ⟨f, hf, rfl⟩ := map_get hd
      obtain ⟨f1, f2⟩ := hFs i f hf
      have hil := (List.getElem?_eq_some_iff.mp hf).1
      have esn : fs.take (i + 1) = fs.take i ++ [f] := by rw [List.take_add_one, hf]; rfl
      rw [esn, keeps_snoc]
      generalize m.keeps room s (fs.take i) = mi at *
      have hnew : mkOf (s, f) ∉ mi.marks := by
        intro hm
        obtain ⟨x, hx, ex⟩ := List.mem_map.mp hm
        have e1 : x.1 = s := congrArg Prod.fst ex
        have e2 : x.2.1 = f.1 := congrArg Prod.snd ex
        rcases hin x hx with z1 | z1
        · obtain ⟨n2, h1, h2⟩ := hB x z1
          rw [e1, hn] at h1
          rw [← Option.some.inj h1] at h2
          omega
        · omega
      refine ⟨_, rfl, A.c, A.dx, _, rfl, hC3.o, cf_no (by decide), _, rfl, A, ps2, room, z, ns.set s (lay1 n t), mi, qv3, gs3, y, (s, f), rfl, hC3, td.mono (k3.ts hC2.noT4), hnew, by omega, fun H4 qv4 gs4 hC4 k4 d4 => ?_⟩
      refine ⟨_, qv4, gs4, rfl, hC4, fun x hx => ?_, ?_, k3.trans k4, d3.trans d4⟩
      · rcases keep_q hx with e | e
        · rcases hin x e with z1 | z1
          · exact .inl z1
          · exact .inr ⟨z1.1, by omega, z1.2.2⟩
        · right
          rw [e]
          exact ⟨rfl, by show f.1 < _; omega, f2⟩
      · have := keep_gone room mi (s, f)
        omega
    · rintro σ H3 ⟨v5, qv3, gs3, rfl, hC3, hin, hg3, k3, d3⟩
      rw [hul, List.take_length] at hC3 hin hg3
      refine ⟨_, rfl, fin H3 ps2 qv3 gs3 hC3 (fun x hx => ?_) (by omega) hcM (k02.trans (k3.mono cM4)) (d02.trans d3)⟩
      have hlenn := (List.getElem?_eq_some_iff.mp hn).1
      rcases hin x hx with e | e
      · obtain ⟨n2, h1, h2⟩ := hB x e
        by_cases c : x.1 = s
        · rw [c, hn] at h1
          rw [← Option.some.inj h1] at h2
          exact ⟨lay1 n t, by rw [c]; exact List.getElem?_set_self hlenn, by omega⟩
        · exact ⟨n2, by rw [List.getElem?_set_ne (fun z => c z.symm)]; exact h1, h2⟩
      · exact ⟨lay1 n t, by rw [e.1]; exact List.getElem?_set_self hlenn, e.2.2⟩
end
end K20

namespace K20
open PySem PySem.Spec PyProof.Rows L2 Sky
section
variable {P : Program} {w : World} {K : PySem.W.Frag} {mg : Str → Option Value} {base : Heap}
/-! ### __init__ -/
def sp_cinit (C CL : Addr) : Sp := fun vs H Q _ => ∃ (c dx : Addr) (z room : Nat), vs = [.ref c, .int (z : Nat), .int (room : Nat)] ∧ H c = some (.ins C dx []) ∧ 8 ≤ z ∧ z ≤ 24 ∧ 1 ≤ room ∧ room ≤ 60 ∧
  ∀ (A : Ca) ps H', A.c = c → CAt C CL H' A ps room z (List.replicate 4 ([], [])) Cr.new [] [] → (∀ x ∈ cM A ps, x = c ∨ H x = none) → Keep [c] H H' → Dom H H' → Q .non H'
theorem ok_Craft_init (T : Tx K mg) : FnOk P w K mg base CX0 3 T.a_Craft_init T.d_Craft_init ["self", "size", "room"] (sp_cinit T.A_Craft T.A_Laying) := by
  have nd := sc_Craft_init.nd
  refine T.F_Craft_init.ok sc_Craft_init (fun vs H Q E h => ?_) (fun cdv A0 outer s0 H vs Q E hr h => ?_)
  · obtain ⟨_, _, _, _, rfl, _⟩ := h
    rfl
  · obtain ⟨c, dx, z, room, rfl, hc, hz8, hz24, hr1, hr60, fin⟩ := h
    refine ⟨_, (pss_cons (ps_expr (pe_call (ok_check_size T) (hr.mono (by decide)) (by rfl) T.m_check_size T.F_check_size.kp T.b_check_size .nil pass0 (pa_cons (pv 1) pa_nil))) (pss_cons (ps_expr (pe_call (ok_check_room T) (hr.mono (by decide)) (by rfl) T.m_check_room T.F_check_room.kp T.b_check_room .nil pass0 (pa_cons (pv 2) pa_nil))) (pss_cons (ps_fld (pv 0) (pv 2) rfl) (pss_cons (ps_fld (pv 0) (pe_lc (own := [("stream", 3)]) rfl nd (pi_range1 rfl T.z_range (pa_cons (pe_glob (v := .int 4) (by rfl) T.c_STREAMS ⟨_, rfl⟩) pa_nil)) (blkOk_by (own := [("stream", 3)]) (N := N_Craft_init) (sc := defScope s_Craft_init) (by decide +kernel)) (fun _ _ _ _ _ => (pg_name (i := 3) nd rfl (Or.inl rfl))) (fun _ _ _ _ _ => pts_nil) (fun _ _ _ _ _ => (pe_make T.mk_Laying (ok_Laying_init T) (hr.mono (by decide)) (by rfl) T.m_Laying T.b_Laying_init .nil pass0 (pa_cons (pv 3) (pa_cons (pv 1) pa_nil))))) rfl) (pss_cons (ps_fld (pv 0) pe_bl rfl) (pss_cons (ps_fld (pv 0) pe_dnewT rfl) (pss_cons (ps_fld (pv 0) pe_dnewT rfl) (pss_cons (ps_fld (pv 0) pe_dnewT rfl) (pss_one (ps_fld (pv 0) (pe_lst pa_nil) rfl)))))))))), ?_⟩
    refine ⟨_, rfl, ((z : Nat) : Int), rfl, by omega, by omega, ?_⟩
    refine ⟨_, rfl, room, rfl, hr1, hr60, ?_⟩
    refine ⟨_, rfl, _, rfl, c, _, dx, _, rfl, hc, T.cl_Craft, T.n_Craft_room, (by decide), ?_⟩
    rw [show putF "_room" (V.int ((room : Nat) : Int)) [] = (CF.take 1).zip [.int ((room : Nat) : Int)] from rfl]
    have k1 : Keep [c] H (upd H c (.ins T.A_Craft dx ((CF.take 1).zip [.int ((room : Nat) : Int)]))) := keep_upd (Keep.refl _ _) (by simp)
    have d1 : Dom H (upd H c (.ins T.A_Craft dx ((CF.take 1).zip [.int ((room : Nat) : Int)]))) := dom_upd _ _ _
    have hc1 : upd H c (.ins T.A_Craft dx ((CF.take 1).zip [.int ((room : Nat) : Int)])) c = some (.ins T.A_Craft dx ((CF.take 1).zip [.int ((room : Nat) : Int)])) := upd_same
    generalize upd H c (.ins T.A_Craft dx ((CF.take 1).zip [.int ((room : Nat) : Int)])) = H1 at *
    -- the layings
    refine ⟨4, rfl, by decide, by decide, fun D hD => ?_⟩
    have ncD : c ≠ D := ne_of_none hc1 hD
    refine lc_range (lo := 0) (n := 4) (fun i H' => ∃ ps : List (Addr × Addr × Addr), H' D = some (.lst (ps.map fun p => V.ref p.1)) ∧ ps.length = i ∧ (∀ (j : Nat) p, ps[j]? = some p → LAt T.A_Laying H' p.1 p.2.1 p.2.2 ((j : Nat) : Int) z [] [] ∧ H1 p.1 = none ∧ H1 p.2.2 = none ∧ p.2.2 ≠ D) ∧ (ps.map (·.1)).Nodup ∧ (ps.map (·.2.2)).Nodup ∧ Same H1 H') ⟨[], upd_same, rfl, by simp, by simp, by simp, same_new (Same.refl _) hD⟩ ?_ ?_
    · rintro i H2 hi ⟨ps, hL, hl, hall, n1, n2, s2⟩
      refine ⟨rfl, _, rfl, _, rfl, fun x dx2 hx hdx nxd => ?_⟩
      have hx1 : H1 x = none := s2.free hx
      have s3 : Same H2 (upd (upd H2 dx2 (.own x)) x (.ins T.A_Laying dx2 [])) := same_mut (same_new (Same.refl _) hdx) hx
      refine ⟨x, dx2, _, ((z : Nat) : Int), rfl, upd_same, fun H4 l hp4 hl4 nl4 k4 => ⟨rfl, ?_⟩⟩
      have nDx : D ≠ x := ne_of_none hL hx
      have hL3 := s3 _ _ hL
      have hx3 : upd (upd H2 dx2 (.own x)) x (.ins T.A_Laying dx2 []) x = some (.ins T.A_Laying dx2 []) := upd_same
      generalize upd (upd H2 dx2 (.own x)) x (.ins T.A_Laying dx2 []) = H3 at *
      have hl2 : H2 l = none := s3.free nl4
      have s4 : Same H2 H4 := k4.same s3 (by intro m hm; rw [List.mem_singleton.mp hm]; exact hx)
      have hL4 := s4 _ _ hL
      have nDl : D ≠ l := ne_of_none hL3 nl4
      have nxl : x ≠ l := ne_of_none hx3 nl4
      simp only [Int.zero_add] at hp4
      refine ⟨_, hL4, lt_line (by rw [List.length_map]; omega), ps ++ [(x, dx2, l)], by rw [upd_same, List.map_append]; rfl, by rw [List.length_append, hl]; rfl, fun j p hj => ?_, ?_, ?_, same_mut (s2.trans s4) hD⟩
      · by_cases hj2 : j < i
        · rw [List.getElem?_append_left (by omega)] at hj
          obtain ⟨⟨h1, h2⟩, h3, h4, h5⟩ := hall j p hj
          have e1 := s4 _ _ h1
          have e2 := s4 _ _ h2
          exact ⟨⟨by rw [upd_ne (ne_of e1 hL4 (by intro e; cases e))]; exact e1, by rw [upd_ne h5]; exact e2⟩, h3, h4, h5⟩
        · have hjl := (List.getElem?_eq_some_iff.mp hj).1
          rw [List.length_append, List.length_singleton] at hjl
          have ej : j = i := by omega
          subst ej
          rw [List.getElem?_append_right (by omega), hl, Nat.sub_self] at hj
          rw [← Option.some.inj hj]
          refine ⟨⟨?_, ?_⟩, hx1, s2.free hl2, nDl.symm⟩
          · show upd H4 D _ x = _
            rw [upd_ne nDx.symm, hp4]
            show _ = some (HO.ins T.A_Laying dx2 (lf (((0 : Nat) : Nat) : Int) ((j : Nat) : Int) ((z : Nat) : Int) (((0 / z : Nat) : Nat) : Int) (firstOf z (0 / z) []) l))
            rw [Nat.zero_div]
            rfl
          · show upd H4 D _ l = _
            rw [upd_ne nDl.symm, hl4, List.drop_nil]
            rfl
      · rw [List.map_append, List.nodup_append]
        refine ⟨n1, by simp, fun a ha b hb => ?_⟩
        rw [List.mem_singleton.mp hb]
        obtain ⟨q, hq, rfl⟩ := List.mem_map.mp ha
        obtain ⟨j, hj⟩ := List.getElem?_of_mem hq
        exact ne_of_none (hall j q hj).1.1 hx
      · rw [List.map_append, List.nodup_append]
        refine ⟨n2, by simp, fun a ha b hb => ?_⟩
        rw [List.mem_singleton.mp hb]
        obtain ⟨q, hq, rfl⟩ := List.mem_map.mp ha
        obtain ⟨j, hj⟩ := List.getElem?_of_mem hq
        exact ne_of_none (hall j q hj).1.2 hl2
    · rintro H2 ⟨ps, hL, hl, hall, n1, n2, s2⟩
      have hc2 := s2 _ _ hc1
      refine ⟨_, rfl, c, _, dx, _, rfl, hc2, T.cl_Craft, T.n_Craft_layings, (Nat.lt_of_le_of_lt (zip_len _ _) (by decide)), ?_⟩
      rw [putF_take (i := 1) CF_nd rfl rfl]
      refine ⟨_, rfl, c, _, dx, _, rfl, upd_same, T.cl_Craft, T.n_Craft_window, (Nat.lt_of_le_of_lt (zip_len _ _) (by decide)), ?_⟩
      rw [upd_upd, putF_take (i := 2) CF_nd rfl rfl]
      have hc3 : upd H2 c (.ins T.A_Craft dx ((CF.take (2 + 1)).zip ([.int ((room : Nat) : Int)] ++ [.ref D] ++ [.bl false]))) c = some (.ins T.A_Craft dx ((CF.take (2 + 1)).zip ([.int ((room : Nat) : Int)] ++ [.ref D] ++ [.bl false]))) := upd_same
      have k3 : Keep [c] H2 (upd H2 c (.ins T.A_Craft dx ((CF.take (2 + 1)).zip ([.int ((room : Nat) : Int)] ++ [.ref D] ++ [.bl false])))) := keep_upd (Keep.refl _ _) (by simp)
      have d3 : Dom H2 (upd H2 c (.ins T.A_Craft dx ((CF.take (2 + 1)).zip ([.int ((room : Nat) : Int)] ++ [.ref D] ++ [.bl false])))) := dom_upd _ _ _
      generalize upd H2 c (.ins T.A_Craft dx ((CF.take (2 + 1)).zip ([.int ((room : Nat) : Int)] ++ [.ref D] ++ [.bl false]))) = H3 at *
      -- the dicts
      have hDc : D ≠ c := ncD.symm
      have hL3 := k3 _ _ (by simp [hDc]) hL
      have hall3 : ∀ (j : Nat) p, ps[j]? = some p → LAt T.A_Laying H3 p.1 p.2.1 p.2.2 ((j : Nat) : Int) z [] [] ∧ p.1 ≠ c ∧ p.2.2 ≠ c := fun j p hj => by
        obtain ⟨⟨h1, h2⟩, h3, h4, h5⟩ := hall j p hj
        have e1 : p.1 ≠ c := fun z => by rw [z, hc1] at h3; cases h3
        have e2 : p.2.2 ≠ c := ne_of h2 hc2 (by intro e; cases e)
        exact ⟨⟨k3 _ _ (by simp [e1]) h1, k3 _ _ (by simp [e2]) h2⟩, e1, e2⟩
      clear hL
      intro fr hfr
      have ncf : c ≠ fr := ne_of_none hc3 hfr
      refine ⟨_, rfl, c, _, dx, _, rfl, (by rw [upd_ne ncf]; exact hc3), T.cl_Craft, T.n_Craft_frames, (Nat.lt_of_le_of_lt (zip_len _ _) (by decide)), ?_⟩
      rw [putF_take (i := 3) CF_nd rfl rfl]
      generalize hv3 : ([V.int ((room : Nat) : Int)] ++ [V.ref D] ++ [V.bl false] : List V) = v3 at *
      have lv3 : v3.length = 3 := by rw [← hv3]; rfl
      have kf : Keep [c] H3 (upd (upd H3 fr (.dT [])) c (.ins T.A_Craft dx ((CF.take (3 + 1)).zip (v3 ++ [.ref fr])))) := keep_upd (keep_new' (Keep.refl _ _) hfr) (by simp)
      have df : Dom H3 (upd (upd H3 fr (.dT [])) c (.ins T.A_Craft dx ((CF.take (3 + 1)).zip (v3 ++ [.ref fr])))) := ((Dom.refl _).upd _ _).upd _ _
      have hf4 : upd (upd H3 fr (.dT [])) c (.ins T.A_Craft dx ((CF.take (3 + 1)).zip (v3 ++ [.ref fr]))) fr = some (.dT []) := by rw [upd_ne ncf.symm]; exact upd_same
      have hc4 : upd (upd H3 fr (.dT [])) c (.ins T.A_Craft dx ((CF.take (3 + 1)).zip (v3 ++ [.ref fr]))) c = some (.ins T.A_Craft dx ((CF.take (3 + 1)).zip (v3 ++ [.ref fr]))) := upd_same
      generalize upd (upd H3 fr (.dT [])) c (.ins T.A_Craft dx ((CF.take (3 + 1)).zip (v3 ++ [.ref fr]))) = H4 at *
      intro se hse
      have nce : c ≠ se := ne_of_none hc4 hse
      have nfe : fr ≠ se := ne_of_none hf4 hse
      refine ⟨_, rfl, c, _, dx, _, rfl, (by rw [upd_ne nce]; exact hc4), T.cl_Craft, T.n_Craft_sent, (Nat.lt_of_le_of_lt (zip_len _ _) (by decide)), ?_⟩
      rw [putF_take (i := 4) CF_nd rfl (by rw [List.length_append, lv3]; rfl)]
      have ke : Keep [c] H4 (upd (upd H4 se (.dT [])) c (.ins T.A_Craft dx ((CF.take (4 + 1)).zip (v3 ++ [.ref fr] ++ [.ref se])))) := keep_upd (keep_new' (Keep.refl _ _) hse) (by simp)
      have de : Dom H4 (upd (upd H4 se (.dT [])) c (.ins T.A_Craft dx ((CF.take (4 + 1)).zip (v3 ++ [.ref fr] ++ [.ref se])))) := ((Dom.refl _).upd _ _).upd _ _
      have he5 : upd (upd H4 se (.dT [])) c (.ins T.A_Craft dx ((CF.take (4 + 1)).zip (v3 ++ [.ref fr] ++ [.ref se]))) se = some (.dT []) := by rw [upd_ne nce.symm]; exact upd_same
      have hc5 : upd (upd H4 se (.dT [])) c (.ins T.A_Craft dx ((CF.take (4 + 1)).zip (v3 ++ [.ref fr] ++ [.ref se]))) c = some (.ins T.A_Craft dx ((CF.take (4 + 1)).zip (v3 ++ [.ref fr] ++ [.ref se]))) := upd_same
      generalize upd (upd H4 se (.dT [])) c (.ins T.A_Craft dx ((CF.take (4 + 1)).zip (v3 ++ [.ref fr] ++ [.ref se]))) = H5 at *
      have hf5 := ke _ _ (by simp [ncf.symm]) hf4
      intro ak hak
      have nca : c ≠ ak := ne_of_none hc5 hak
      have nfa : fr ≠ ak := ne_of_none hf5 hak
      have nea : se ≠ ak := ne_of_none he5 hak
      refine ⟨_, rfl, c, _, dx, _, rfl, (by rw [upd_ne nca]; exact hc5), T.cl_Craft, T.n_Craft_asked, (Nat.lt_of_le_of_lt (zip_len _ _) (by decide)), ?_⟩
      rw [putF_take (i := 5) CF_nd rfl (by rw [List.length_append, List.length_append, lv3]; rfl)]
      have ka : Keep [c] H5 (upd (upd H5 ak (.dT [])) c (.ins T.A_Craft dx ((CF.take (5 + 1)).zip (v3 ++ [.ref fr] ++ [.ref se] ++ [.ref ak])))) := keep_upd (keep_new' (Keep.refl _ _) hak) (by simp)
      have da : Dom H5 (upd (upd H5 ak (.dT [])) c (.ins T.A_Craft dx ((CF.take (5 + 1)).zip (v3 ++ [.ref fr] ++ [.ref se] ++ [.ref ak])))) := ((Dom.refl _).upd _ _).upd _ _
      have ha6 : upd (upd H5 ak (.dT [])) c (.ins T.A_Craft dx ((CF.take (5 + 1)).zip (v3 ++ [.ref fr] ++ [.ref se] ++ [.ref ak]))) ak = some (.dT []) := by rw [upd_ne nca.symm]; exact upd_same
      have hc6 : upd (upd H5 ak (.dT [])) c (.ins T.A_Craft dx ((CF.take (5 + 1)).zip (v3 ++ [.ref fr] ++ [.ref se] ++ [.ref ak]))) c = some (.ins T.A_Craft dx ((CF.take (5 + 1)).zip (v3 ++ [.ref fr] ++ [.ref se] ++ [.ref ak]))) := upd_same
      generalize upd (upd H5 ak (.dT [])) c (.ins T.A_Craft dx ((CF.take (5 + 1)).zip (v3 ++ [.ref fr] ++ [.ref se] ++ [.ref ak]))) = H6 at *
      have hf6 := ka _ _ (by simp [ncf.symm]) hf5
      have he6 := ka _ _ (by simp [nce.symm]) he5
      refine ⟨Nat.zero_le _, fun go hgo => ?_⟩
      have ncg : c ≠ go := ne_of_none hc6 hgo
      refine ⟨_, rfl, c, _, dx, _, rfl, (by rw [upd_ne ncg]; exact hc6), T.cl_Craft, T.n_Craft_gone, (Nat.lt_of_le_of_lt (zip_len _ _) (by decide)), ?_⟩
      rw [putF_take (i := 6) CF_nd rfl (by rw [List.length_append, List.length_append, List.length_append, lv3]; rfl)]
      have kg : Keep [c] H6 (upd (upd H6 go (.lst [])) c (.ins T.A_Craft dx ((CF.take (6 + 1)).zip (v3 ++ [.ref fr] ++ [.ref se] ++ [.ref ak] ++ [.ref go])))) := keep_upd (keep_new' (Keep.refl _ _) hgo) (by simp)
      have dg : Dom H6 (upd (upd H6 go (.lst [])) c (.ins T.A_Craft dx ((CF.take (6 + 1)).zip (v3 ++ [.ref fr] ++ [.ref se] ++ [.ref ak] ++ [.ref go])))) := ((Dom.refl _).upd _ _).upd _ _
      have hg7 : upd (upd H6 go (.lst [])) c (.ins T.A_Craft dx ((CF.take (6 + 1)).zip (v3 ++ [.ref fr] ++ [.ref se] ++ [.ref ak] ++ [.ref go]))) go = some (.lst []) := by rw [upd_ne ncg.symm]; exact upd_same
      have hc7 : upd (upd H6 go (.lst [])) c (.ins T.A_Craft dx ((CF.take (6 + 1)).zip (v3 ++ [.ref fr] ++ [.ref se] ++ [.ref ak] ++ [.ref go]))) c = some (.ins T.A_Craft dx ((CF.take (6 + 1)).zip (v3 ++ [.ref fr] ++ [.ref se] ++ [.ref ak] ++ [.ref go]))) := upd_same
      generalize upd (upd H6 go (.lst [])) c (.ins T.A_Craft dx ((CF.take (6 + 1)).zip (v3 ++ [.ref fr] ++ [.ref se] ++ [.ref ak] ++ [.ref go]))) = H7 at *
      have hf7 := kg _ _ (by simp [ncf.symm]) hf6
      have he7 := kg _ _ (by simp [nce.symm]) he6
      have ha7 := kg _ _ (by simp [nca.symm]) ha6
      have k37 : Keep [c] H3 H7 := ((kf.trans ke).trans ka).trans kg
      have d37 : Dom H3 H7 := ((df.trans de).trans da).trans dg
      have hL7 := k37 _ _ (by simp [hDc]) hL3
      have k07 : Keep [c] H H7 := ((k1.trans (Keep.of_same s2)).trans k3).trans k37
      have d03 : Dom H H3 := (d1.trans (Dom.of_same s2)).trans d3
      have hgo6 : H3 go = none := ((df.trans de).trans da) _ hgo
      have ngD : D ≠ go := ne_of_none hL3 hgo6
      refine fin ⟨c, dx, D, fr, se, ak, go⟩ ps H7 rfl ⟨by rw [hc7, ← hv3]; rfl, hL7, hl, rfl, fun i p n hp hn => ?_, hf7, rfl, by simp, he7, ha7, hg7, .nil, Cr.Ok.new room, ⟨hr1, hr60⟩, nfe, nfa, nea, ngD, fun p hp => ?_, n1, n2⟩ (fun x hx => ?_) k07 (d03.trans d37)
      · obtain ⟨⟨h1, h2⟩, h3, h4⟩ := hall3 i p hp
        have hi4 : i < 4 := by
          have := (List.getElem?_eq_some_iff.mp hn).1
          rw [List.length_replicate] at this
          exact this
        rw [List.getElem?_replicate, if_pos hi4] at hn
        rw [← Option.some.inj hn]
        exact ⟨⟨k37 _ _ (by simp [h3]) h1, k37 _ _ (by simp [h4]) h2⟩, Laid.nil⟩
      · obtain ⟨j, hj⟩ := List.getElem?_of_mem hp
        obtain ⟨⟨h1, h2⟩, h3, h4⟩ := hall3 j p hj
        exact ⟨h3, (hall j p hj).2.2.2, ne_of_none h2 hgo6⟩
      · unfold cM at hx
        rcases List.mem_append.mp hx with hx | hx
        · rcases List.mem_append.mp hx with hx | hx
          · simp only [List.mem_cons, List.not_mem_nil, or_false] at hx
            rcases hx with e | e | e | e | e | e
            · exact .inl e
            · rw [e]; exact .inr (d1 _ hD)
            · rw [e]; exact .inr (d03 _ hfr)
            · rw [e]; exact .inr (d03 _ (df _ hse))
            · rw [e]; exact .inr (d03 _ ((df.trans de) _ hak))
            · rw [e]; exact .inr (d03 _ hgo6)
          · obtain ⟨p, hp, rfl⟩ := List.mem_map.mp hx
            obtain ⟨j, hj⟩ := List.getElem?_of_mem hp
            exact .inr (d1 _ (hall j p hj).2.1)
        · obtain ⟨p, hp, rfl⟩ := List.mem_map.mp hx
          obtain ⟨j, hj⟩ := List.getElem?_of_mem hp
          exact .inr (d1 _ (hall j p hj).2.2.1)
end
end K20

namespace K20
open PySem PySem.Spec PyProof.Rows L2 Sky
/-- the frame that is filled up -/
def clFrame (z : Nat) (n : List Int × List Nat) : Frm := (n.1.length / z, firstOf z (n.1.length / z) n.2, n.1.drop (n.1.length / z * z) ++ List.replicate (z - n.1.length % z) 0)
theorem laid_pad {z : Nat} {N : List Int} {S : List Nat} (h : Laid N S) : Laid (padN z N) S := by
  unfold padN
  split
  · exact h
  · exact h.more _
theorem pad_len {z : Nat} {N : List Int} (hz : 0 < z) (h : N.length % z ≠ 0) : (padN z N).length = (N.length / z + 1) * z := by
  have h1 := div_mod z N.length
  have h2 := Nat.mod_lt N.length hz
  unfold padN
  rw [if_neg h, List.length_append, List.length_replicate, Nat.add_mul, Nat.one_mul]
  omega
theorem pad_div {z : Nat} {N : List Int} (hz : 0 < z) (h : N.length % z ≠ 0) : (padN z N).length / z = N.length / z + 1 := by
  rw [pad_len hz h, Nat.mul_div_cancel _ hz]
section
variable {P : Program} {w : World} {K : PySem.W.Frag} {mg : Str → Option Value} {base : Heap}
def sp_close (C CL : Addr) : Sp := fun vs H Q _ => ∃ (A : Ca) (ps : List (Addr × Addr × Addr)) (room z : Nat) (ns : List (List Int × List Nat)) (m : Cr) (qv : List KF) (gs : List V) (s : Nat) (n : List Int × List Nat), vs = [.ref A.c, .int ((s : Nat) : Int)] ∧ CAt C CL H A ps room z ns m qv gs ∧ Below m z ns ∧
  ns[s]? = some n ∧ 8 ≤ z ∧ z ≤ 24 ∧ m.gone.length ≤ 1000000 ∧
  (n.1.length % z = 0 → ∀ H', Same H H' → Q (.bl false) H') ∧
  (n.1.length % z ≠ 0 → ∀ H' ps' qv' gs', CAt C CL H' A ps' room z (ns.set s (padN z n.1, n.2)) (m.keep room (s, clFrame z n)) qv' gs' → Below (m.keep room (s, clFrame z n)) z (ns.set s (padN z n.1, n.2)) → (∀ x ∈ cM A ps', x ∈ cM A ps ∨ H x = none) → Keep (cM A ps) H H' → Dom H H' → Q (.bl true) H')
theorem ok_Craft_close (T : Tx K mg) : FnOk P w K mg base CX0 4 T.a_Craft_close T.d_Craft_close ["self", "stream"] (sp_close T.A_Craft T.A_Laying) := by
  have nd := sc_Craft_close.nd
  refine T.F_Craft_close.ok sc_Craft_close (fun vs H Q E h => ?_) (fun cdv A0 outer s0 H vs Q E hr h => ?_)
  · obtain ⟨_, _, _, _, _, _, _, _, _, _, rfl, _⟩ := h
    rfl
  · obtain ⟨A, ps, room, z, ns, m, qv, gs, s, n, rfl, hC, hB, hn, hz8, hz24, hgl, no, yes⟩ := h
    have hs4 : s < 4 := by
      have := (List.getElem?_eq_some_iff.mp hn).1
      rw [hC.nl] at this
      exact this
    obtain ⟨p, hp⟩ : ∃ p, ps[s]? = some p := ⟨_, List.getElem?_eq_getElem (by rw [hC.pl]; exact hs4)⟩
    have hpm := List.mem_of_getElem? hp
    refine ⟨_, (pss_cons (ps_expr (pe_call (ok_check_stream T) (hr.mono (by decide)) (by rfl) T.m_check_stream T.F_check_stream.kp T.b_check_stream .nil pass0 (pa_cons (pv 1) pa_nil))) (pss_cons (ps_set (i := 2) nd rfl (Or.inl rfl) (pe_meth0 (pe_ix ix_list (pe_fld (pv 0) rfl) (pv 1) (fun _ _ => rfl)) T.cl_Laying T.M_Laying_fill (ok_Laying_fill T) (hr.mono (by decide)) T.b_Laying_fill .nil pass0)) (pss_cons (ps_if (pt_cmpR op_isN (pv 2) pe_non (nomark _)) (pss_one (ps_ret pe_bl)) pss_nil) (pss_cons (ps_expr (pe_meth (pv 0) T.cl_Craft T.M_Craft_keep (ok_Craft_keep T) (hr.mono (by decide)) T.b_Craft_keep .nil pass0 (pa_cons (pv 2) pa_nil))) (pss_one (ps_ret pe_bl)))))), ?_⟩
    refine ⟨_, rfl, ((s : Nat) : Int), rfl, by omega, by omega, ?_⟩
    have hpv : (ps.map fun p => V.ref p.1)[s]? = some (.ref p.1) := by rw [List.getElem?_map, hp]; rfl
    obtain ⟨⟨hi, hls⟩, laid⟩ := hC.lay s p n hp hn
    refine ⟨_, rfl, A.c, _, A.dx, _, _, rfl, hC.o, T.cl_Craft, T.n_Craft_layings, cf_layings, _, rfl, A.la, _, ((s : Nat) : Int), _, rfl, rfl, SqL.of hC.la, atI_nat hpv, p.1, p.2.1, _, rfl, hi, lf_no (by decide), ?_⟩
    refine ⟨p.1, p.2.1, p.2.2, ((s : Nat) : Int), z, n.1, n.2, rfl, ⟨hi, hls⟩, by omega, by omega, laid, fun e => ?_, fun e f H2 l' tf hL2 nl2 nf2 k2 d2 => ?_⟩
    · refine ⟨_, rfl, rfl, _, rfl, iteT ?_⟩
      exact no e H (Same.refl _)
    · refine ⟨_, rfl, rfl, _, rfl, iteF ?_⟩
      have hC2 : CAt T.A_Craft T.A_Laying H2 A (ps.set s (p.1, p.2.1, l')) room z (ns.set s (padN z n.1, n.2)) m qv gs := hC.relay (n' := (padN z n.1, n.2)) hp hn k2 hL2 (laid_pad laid) (.inr nl2)
      have hnew : mkOf (s, clFrame z n) ∉ m.marks := by
        intro hm
        obtain ⟨x, hx, ex⟩ := List.mem_map.mp hm
        have e1 : x.1 = s := congrArg Prod.fst ex
        have e2 : x.2.1 = n.1.length / z := congrArg Prod.snd ex
        obtain ⟨n2, h1, h2⟩ := hB x hx
        rw [e1, hn] at h1
        rw [← Option.some.inj h1] at h2
        omega
      refine ⟨_, rfl, A.c, A.dx, _, rfl, hC2.o, cf_no (by decide), _, rfl, A, _, room, z, _, m, qv, gs, .ref f, (s, clFrame z n), rfl, hC2, tf, hnew, hgl, fun H3 qv3 gs3 hC3 k3 d3 => ?_⟩
      refine yes e H3 _ qv3 gs3 hC3 (fun x hx => ?_) (fun x hx => ?_) ((k2.mono (cMp hpm)).trans (k3.mono cM4)) (d2.trans d3)
      · have hlenn := (List.getElem?_eq_some_iff.mp hn).1
        have hd := pad_div (N := n.1) (show 0 < z by omega) e
        rcases keep_q hx with z1 | z1
        · obtain ⟨n2, h1, h2⟩ := hB x z1
          by_cases c : x.1 = s
          · rw [c, hn] at h1
            rw [← Option.some.inj h1] at h2
            exact ⟨(padN z n.1, n.2), by rw [c]; exact List.getElem?_set_self hlenn, by show _ < (padN z n.1).length / z; omega⟩
          · exact ⟨n2, by rw [List.getElem?_set_ne (fun z => c z.symm)]; exact h1, h2⟩
        · rw [z1]
          exact ⟨(padN z n.1, n.2), List.getElem?_set_self hlenn, by show n.1.length / z < (padN z n.1).length / z; omega⟩
      · rcases cM_set hp hx with z1 | z1
        · exact .inl z1
        · rw [z1]; exact .inr nl2
end
end K20

namespace K20
open PySem PySem.Spec PyProof.Rows L2 Sky
section
variable {P : Program} {w : World} {K : PySem.W.Frag} {mg : Str → Option Value} {base : Heap}
theorem HAt.keep {H H' : Hp} {p q : Addr} {M : List Addr} (h : HAt H p q) (k : Keep M H H') (n : p ∉ M) (n' : q ∉ M) : HAt H' p q := by
  obtain ⟨m, k', ns, npq, hp, hq, r⟩ := h
  exact ⟨m, k', ns, npq, k _ _ n hp, k _ _ n' hq, r⟩
theorem HAt.same {H H' : Hp} {p q : Addr} (h : HAt H p q) (k : Same H H') : HAt H' p q := by
  obtain ⟨m, k', ns, npq, hp, hq, r⟩ := h
  exact ⟨m, k', ns, npq, k _ _ hp, k _ _ hq, r⟩
theorem HAt.ins {H : Hp} {p q : Addr} (h : HAt H p q) : (∃ o, H p = some o) ∧ ∃ o, H q = some o := by
  obtain ⟨m, k', ns, npq, hp, hq, r⟩ := h
  exact ⟨⟨_, hp⟩, ⟨_, hq⟩⟩
theorem nb : ∀ k : Nat, k ≤ 1000000 → -(2 ^ 62) ≤ (k : Int) ∧ (k : Int) < 2 ^ 62 := fun k h => ⟨by omega, by omega⟩
theorem lay_frms {z : Nat} {st : Int} {N : List Int} {S : List Nat} {cs : List Nat} : Lay 3 (.list ((cs.map (frm z N S)).map (frmD st))) := Lay.list fun f _ => frmD_lay
theorem cut_lo {xs : List V} {n : Nat} (h : n ≤ xs.length) : cutV xs none (some ((n : Nat) : Int)) = xs.take n := by
  unfold cutV
  rw [HT.sIx_none, HT.sIx_nat, Nat.min_eq_left h, List.drop_zero, Nat.sub_zero]
theorem cut_hi {xs : List V} {n : Nat} (h : n ≤ xs.length) : cutV xs (some ((n : Nat) : Int)) none = xs.drop n := by
  unfold cutV
  rw [HT.sIx_none, HT.sIx_nat, Nat.min_eq_left h]
  exact List.take_of_length_le (by rw [List.length_drop]; exact Nat.le_refl _)
/-- the frames of some tellings -/
theorem cut_facts {z : Nat} {ts : List (List Int)} (hz8 : 8 ≤ z) (hz24 : z ≤ 24) (hok : ∀ t ∈ ts, tellOk t) (hts : ts.length ≤ 300) :
    Lays z (padN z (laysAll ts).1) (laysAll ts).2 ∧ allFrms z ts = (List.range ((padN z (laysAll ts).1).length / z)).map (frm z (padN z (laysAll ts).1) (stOf (laysAll ts).2)) ∧ (padN z (laysAll ts).1).length ≤ 7000 ∧ (padN z (laysAll ts).1).length % z = 0 ∧
    (∀ c ∈ List.range ((padN z (laysAll ts).1).length / z), c ≤ 9999 ∧ c * z + z ≤ (padN z (laysAll ts).1).length) ∧ (padN z (laysAll ts).1).length / z ≤ 7000 ∧
    (laysAll ts).1.length ≤ (padN z (laysAll ts).1).length ∧ (padN z (laysAll ts).1).length < (laysAll ts).1.length + z := by
  have hbig : (layAll ts).1.length ≤ 23 * ts.length := layAll_le _ fun u hu => (hok u hu).2.1
  have eall := laysAll_lay ts
  have hL0 : Lays z (laysAll ts).1 (laysAll ts).2 := laysAll_ok hok (by omega)
  have hLp := hL0.pad (show 0 < z by omega)
  have h1 : (laysAll ts).1.length = (layAll ts).1.length := by rw [eall]
  have h2 := div_lo z (laysAll ts).1.length
  have h3 := div_hi (show 0 < z by omega) (laysAll ts).1.length
  have h4 := div_mod z (laysAll ts).1.length
  have epl := padN_length (show 0 < z by omega) (laysAll ts).1
  have hpl : (padN z (laysAll ts).1).length ≤ 7000 ∧ (laysAll ts).1.length ≤ (padN z (laysAll ts).1).length ∧ (padN z (laysAll ts).1).length < (laysAll ts).1.length + z := by
    rw [epl]
    split
    · omega
    · omega
  refine ⟨hLp, by unfold allFrms; rw [eall]; rfl, hpl.1, pad_full (by omega) _, fun c hc => ?_, Nat.le_trans (Nat.div_le_self _ _) hpl.1, hpl.2.1, hpl.2.2⟩
  have h1 : c + 1 ≤ (padN z (laysAll ts).1).length / z := List.mem_range.mp hc
  have h2 := Nat.mul_le_mul_right z h1
  have h3 := div_lo z (padN z (laysAll ts).1).length
  have h5 := Nat.div_le_self (padN z (laysAll ts).1).length z
  rw [Nat.succ_mul] at h2
  omega
theorem cut_neg {xs : List V} : cutV xs none (some (-1)) = xs.take (xs.length - 1) := by
  unfold cutV
  rw [HT.sIx_none, List.drop_zero, Nat.sub_zero]
  have e : HT.sIx xs.length xs.length (some (-1)) = xs.length - 1 := by
    show (if (-1 : Int) < 0 then ((-1 : Int) + ((xs.length : Nat) : Int)).toNat else min (Int.toNat (-1)) xs.length) = _
    rw [if_pos (by decide)]
    omega
  rw [e]
theorem and_skip {c : Prop} [Decidable c] {u : L2.TT} {σ : L2.St} {H : Hp} {Q : Bool → Hp → Prop} (R : Hp → Prop) (rest : ∀ H1, R H1 → Q false H1) (h1 : c → (∀ H1, R H1 → Q false H1) → u σ H Q) (h2 : ¬ c → R H) : if c then u σ H Q else Q false H := by
  by_cases hc : c
  · rw [if_pos hc]
    exact h1 hc rest
  · rw [if_neg hc]
    exact rest H (h2 hc)
theorem toldL_lt {z : Nat} {L : List (Nat × List Int)} {cs : List Nat} {j : Nat} (h : j ∈ toldL z L cs) : j < L.length := List.mem_range.mp (List.mem_filter.mp h).1
theorem toldL_len (z : Nat) (L : List (Nat × List Int)) (cs : List Nat) : (toldL z L cs).length ≤ L.length := by
  unfold toldL
  have := List.length_filter_le (toldJ z L cs) (List.range L.length)
  rw [List.length_range] at this
  exact this
end
end K20

namespace K20
open PySem PySem.Spec PyProof.Rows L2 Sky
/-! ### what is drawn, in numbers: Tf, the tellings of each stream; a mark is (stream, count) -/
def NO (z : Nat) (ts : List (List Int)) : List Int := padN z (laysAll ts).1
def LO (ts : List (List Int)) : List (Nat × List Int) := (laysAll ts).2
def nfO (z : Nat) (ts : List (List Int)) : Nat := (NO z ts).length / z
def frO (z : Nat) (ts : List (List Int)) (c : Nat) : Frm := frm z (NO z ts) (stOf (LO ts)) c
def fD (z : Nat) (Tf : Nat → List (List Int)) (k : Nat × Nat) : PyData := frmD ((k.1 : Nat) : Int) (frO z (Tf k.1) k.2)
def mD (k : Nat × Nat) : PyData := mkD k.1 k.2
def EL (z : Nat) (Tf : Nat → List (List Int)) (i : Nat) : List (Nat × Nat) := (List.range i).flatMap fun k => (List.range (nfO z (Tf k))).map fun c => (k, c)
def cssOf (Cm : List (Nat × Nat)) (i : Nat) : List Nat := (Cm.filter fun k => decide (k.1 = i)).map (·.2)
def ssOf (Cm : List (Nat × Nat)) (i : Nat) : List Nat := (List.range 10000).filter fun c => decide ((i, c) ∈ Cm)
def HL (Cm : List (Nat × Nat)) : List (Nat × Nat) := (List.range 4).flatMap fun i => (ssOf Cm i).map fun c => (i, c)
theorem mem_EL {z : Nat} {Tf : Nat → List (List Int)} {i : Nat} {k : Nat × Nat} : k ∈ EL z Tf i ↔ k.1 < i ∧ k.2 < nfO z (Tf k.1) := by
  unfold EL
  rw [List.mem_flatMap]
  constructor
  · rintro ⟨a, ha, h⟩
    obtain ⟨c, hc, rfl⟩ := List.mem_map.mp h
    exact ⟨List.mem_range.mp ha, List.mem_range.mp hc⟩
  · rintro ⟨h1, h2⟩
    exact ⟨k.1, List.mem_range.mpr h1, List.mem_map.mpr ⟨k.2, List.mem_range.mpr h2, rfl⟩⟩
theorem EL_succ (z : Nat) (Tf : Nat → List (List Int)) (i : Nat) : EL z Tf (i + 1) = EL z Tf i ++ (List.range (nfO z (Tf i))).map fun c => (i, c) := by
  unfold EL
  rw [List.range_succ, List.flatMap_append]
  simp
theorem EL_congr {z : Nat} {Tf Tg : Nat → List (List Int)} : ∀ {i : Nat}, (∀ k, k < i → Tf k = Tg k) → EL z Tf i = EL z Tg i
  | 0, _ => rfl
  | i + 1, h => by rw [EL_succ, EL_succ, EL_congr fun k hk => h k (by omega), h i (by omega)]
theorem mem_css {Cm : List (Nat × Nat)} {i c : Nat} : c ∈ cssOf Cm i ↔ (i, c) ∈ Cm := by
  unfold cssOf
  rw [List.mem_map]
  constructor
  · rintro ⟨k, hk, rfl⟩
    obtain ⟨h1, h2⟩ := List.mem_filter.mp hk
    have h3 : k.1 = i := of_decide_eq_true h2
    subst h3
    exact h1
  · intro h
    exact ⟨(i, c), List.mem_filter.mpr ⟨h, decide_eq_true rfl⟩, rfl⟩
theorem css_nodup {Cm : List (Nat × Nat)} {i : Nat} (h : Cm.Nodup) : (cssOf Cm i).Nodup := by
  unfold cssOf
  refine List.pairwise_map.mpr (List.Pairwise.imp_of_mem (R := fun a b => a ≠ b) (fun {a b} ha hb hab e => hab ?_) (List.Pairwise.filter _ h))
  have h1 : a.1 = i := of_decide_eq_true (List.mem_filter.mp ha).2
  have h2 : b.1 = i := of_decide_eq_true (List.mem_filter.mp hb).2
  exact Prod.ext (h1.trans h2.symm) e
theorem css_snoc (Cm : List (Nat × Nat)) (k : Nat × Nat) (i : Nat) : cssOf (Cm ++ [k]) i = if k.1 = i then cssOf Cm i ++ [k.2] else cssOf Cm i := by
  unfold cssOf
  rw [List.filter_append, List.map_append]
  by_cases h : k.1 = i
  · rw [if_pos h, List.filter_cons_of_pos (by rw [decide_eq_true h]), List.filter_nil]; rfl
  · rw [if_neg h, List.filter_cons_of_neg (by rw [decide_eq_false h]; decide), List.filter_nil, List.map_nil, List.append_nil]
theorem css_len (Cm : List (Nat × Nat)) (i : Nat) : (cssOf Cm i).length ≤ Cm.length := by
  unfold cssOf
  rw [List.length_map]
  exact List.length_filter_le _ _
def topN : List Nat → Nat
  | [] => 0
  | x :: l => max x (topN l)
theorem top_le : ∀ {l : List Nat} {c : Nat}, c ∈ l → c ≤ topN l
  | x :: l, c, h => by
    rcases List.mem_cons.mp h with e | e
    · rw [e]; exact Nat.le_max_left _ _
    · exact Nat.le_trans (top_le e) (Nat.le_max_right _ _)
theorem top_mem : ∀ {l : List Nat}, l ≠ [] → topN l ∈ l
  | [], h => absurd rfl h
  | [x], _ => by show max x 0 ∈ [x]; rw [Nat.max_eq_left (Nat.zero_le _)]; exact List.mem_singleton.mpr rfl
  | x :: y :: l, _ => by
    show max x (topN (y :: l)) ∈ x :: y :: l
    have h := top_mem (l := y :: l) (by simp)
    rcases Nat.le_total x (topN (y :: l)) with e | e
    · rw [Nat.max_eq_right e]; exact List.mem_cons_of_mem _ h
    · rw [Nat.max_eq_left e]; exact List.mem_cons_self
/-! ### marks in their order -/
def keyI (k : Nat × Nat) : Int := (k.1 : Int) * 1000000 + (k.2 : Int)
theorem rises_same {xs ys : List (Nat × Nat)} (hx : (xs.map keyI).Pairwise (· < ·)) (hy : (ys.map keyI).Pairwise (· < ·)) (sx : ∀ k ∈ xs, k.2 < 1000000) (sy : ∀ k ∈ ys, k.2 < 1000000) (h : ∀ k, k ∈ xs ↔ k ∈ ys) : xs = ys := by
  have e : xs.map keyI = ys.map keyI := rising_same hx hy fun x => by
    rw [List.mem_map, List.mem_map]
    exact ⟨fun ⟨k, h1, h2⟩ => ⟨k, (h k).mp h1, h2⟩, fun ⟨k, h1, h2⟩ => ⟨k, (h k).mpr h1, h2⟩⟩
  have back : ∀ {zs : List (Nat × Nat)}, (∀ k ∈ zs, k.2 < 1000000) → (zs.map keyI).map (fun n : Int => (n.toNat / 1000000, n.toNat % 1000000)) = zs := by
    intro zs hz
    rw [List.map_map]
    refine (List.map_congr_left fun k hk => ?_).trans (List.map_id zs)
    have h1 := hz k hk
    show ((keyI k).toNat / 1000000, (keyI k).toNat % 1000000) = k
    unfold keyI
    refine Prod.ext ?_ ?_
    · show ((k.1 : Int) * 1000000 + (k.2 : Int)).toNat / 1000000 = k.1
      omega
    · show ((k.1 : Int) * 1000000 + (k.2 : Int)).toNat % 1000000 = k.2
      omega
  rw [← back sx, ← back sy, e]
theorem flat_rises {f : Nat → List Nat} (hf : ∀ i, (f i).Pairwise (· < ·)) (hs : ∀ i, ∀ c ∈ f i, c < 1000000) : ∀ n : Nat, ((((List.range n).flatMap fun i => (f i).map fun c => (i, c))).map keyI).Pairwise (· < ·)
  | 0 => List.Pairwise.nil
  | n + 1 => by
    rw [List.range_succ, List.flatMap_append, List.map_append]
    refine List.pairwise_append.mpr ⟨flat_rises hf hs n, ?_, ?_⟩
    · rw [List.flatMap_cons, List.flatMap_nil, List.append_nil, List.map_map]
      refine List.pairwise_map.mpr ((hf n).imp fun {a b} h => ?_)
      show (n : Int) * 1000000 + (a : Int) < (n : Int) * 1000000 + (b : Int)
      omega
    · intro a ha b hb
      obtain ⟨k, hk, rfl⟩ := List.mem_map.mp ha
      obtain ⟨j, hj, rfl⟩ := List.mem_map.mp hb
      obtain ⟨i, hi, hk⟩ := List.mem_flatMap.mp hk
      obtain ⟨c, hc, rfl⟩ := List.mem_map.mp hk
      rw [List.flatMap_cons, List.flatMap_nil, List.append_nil] at hj
      obtain ⟨c', hc', rfl⟩ := List.mem_map.mp hj
      have h1 := List.mem_range.mp hi
      have h2 := hs i c hc
      show (i : Int) * 1000000 + (c : Int) < (n : Int) * 1000000 + (c' : Int)
      omega
theorem ss_rise (Cm : List (Nat × Nat)) (i : Nat) : (ssOf Cm i).Pairwise (· < ·) := List.Pairwise.filter _ List.pairwise_lt_range
theorem ss_small {Cm : List (Nat × Nat)} {i c : Nat} (h : c ∈ ssOf Cm i) : c < 10000 := List.mem_range.mp (List.mem_filter.mp h).1
theorem mem_ss {Cm : List (Nat × Nat)} {i c : Nat} (sm : ∀ k ∈ Cm, k.2 < 10000) : c ∈ ssOf Cm i ↔ (i, c) ∈ Cm := by
  unfold ssOf
  rw [List.mem_filter, List.mem_range]
  exact ⟨fun h => of_decide_eq_true h.2, fun h => ⟨sm _ h, decide_eq_true h⟩⟩
theorem ss_len (Cm : List (Nat × Nat)) (i : Nat) : (ssOf Cm i).length ≤ 10000 := by
  have h := List.length_filter_le (fun c => decide ((i, c) ∈ Cm)) (List.range 10000)
  rw [List.length_range] at h
  exact h
theorem HL_rise (Cm : List (Nat × Nat)) : ((HL Cm).map keyI).Pairwise (· < ·) := flat_rises (fun i => ss_rise Cm i) (fun i c h => by have := ss_small h; omega) 4
theorem mem_HL {Cm : List (Nat × Nat)} (sm : ∀ k ∈ Cm, k.1 < 4 ∧ k.2 < 10000) (k : Nat × Nat) : k ∈ HL Cm ↔ k ∈ Cm := by
  unfold HL
  rw [List.mem_flatMap]
  constructor
  · rintro ⟨i, hi, h⟩
    obtain ⟨c, hc, rfl⟩ := List.mem_map.mp h
    exact (mem_ss fun k hk => (sm k hk).2).mp hc
  · intro h
    exact ⟨k.1, List.mem_range.mpr (sm k h).1, List.mem_map.mpr ⟨k.2, (mem_ss fun k hk => (sm k hk).2).mpr h, rfl⟩⟩
theorem HL_data (Cm : List (Nat × Nat)) : (HL Cm).map mD = (List.range 4).flatMap fun i => (ssOf Cm i).map (mkD i) := by
  unfold HL
  rw [List.map_flatMap]
  congr 1
  funext i
  rw [List.map_map]
  rfl
/-! ### marks as they lie -/
def kOf (H : Hp) : V → Int × Int
  | .ref t => match H t with
    | some (.tup [.int i, .int j]) => (i, j)
    | _ => (0, 0)
  | _ => (0, 0)
theorem kOf_mk {H : Hp} {v : V} {k : Nat × Nat} (h : TD H v (mD k)) : (∃ t, v = .ref t ∧ H t = some (.tup [.int (kOf H v).1, .int (kOf H v).2])) ∧ kOf H v = (((k.1 : Nat) : Int), ((k.2 : Nat) : Int)) := by
  obtain ⟨t, rfl, ht⟩ := td_mk h
  have e : kOf H (.ref t) = (((k.1 : Nat) : Int), ((k.2 : Nat) : Int)) := by
    show (match H t with | some (.tup [.int i, .int j]) => (i, j) | _ => (0, 0)) = _
    rw [ht]
  refine ⟨⟨t, rfl, ?_⟩, e⟩
  rw [e]
  exact ht
theorem tds_all {H : Hp} {vs : List V} {ds : List PyData} (h : TDs H vs ds) : ∀ v ∈ vs, ∃ d ∈ ds, TD H v d := by
  intro v hv
  obtain ⟨i, hi⟩ := List.getElem?_of_mem hv
  obtain ⟨d, hd, t⟩ := h.get hi
  exact ⟨d, List.mem_of_getElem? hd, t⟩
theorem tds_fn {H : Hp} {f : V → PyData} : ∀ {vs : List V}, (∀ v ∈ vs, TD H v (f v)) → TDs H vs (vs.map f)
  | [], _ => .nil
  | v :: vs, h => .cons (h v List.mem_cons_self) (tds_fn fun u hu => h u (List.mem_cons_of_mem _ hu))
theorem kOf_all {H : Hp} : ∀ {vs : List V} {Cm : List (Nat × Nat)}, TDs H vs (Cm.map mD) → vs.map (kOf H) = Cm.map fun k => (((k.1 : Nat) : Int), ((k.2 : Nat) : Int))
  | [], [], _ => rfl
  | [], _ :: _, h => by cases h
  | _ :: _, [], h => by cases h
  | v :: vs, k :: Cm, h => by
    cases h with
    | cons t ts => rw [List.map_cons, List.map_cons, (kOf_mk t).2, kOf_all ts]
/-- sorted marks, as they lie -/
theorem sorted_marks {H : Hp} {xs ys : List V} {Cm : List (Nat × Nat)} (tx : TDs H xs (Cm.map mD)) (nd : Cm.Nodup) (sm : ∀ k ∈ Cm, k.1 < 4 ∧ k.2 < 10000) (hs : SrtO.Srtd (ltP (kOf H)) ys) (hb : SrtO.Stb (ltP (kOf H)) ys xs) : TDs H ys ((HL Cm).map mD) := by
  have hall : ∀ y ∈ ys, ∃ k ∈ Cm, TD H y (mD k) ∧ kOf H y = (((k.1 : Nat) : Int), ((k.2 : Nat) : Int)) := by
    intro y hy
    obtain ⟨d, hd, t⟩ := tds_all tx y (hb.perm.mem_iff.mp hy)
    obtain ⟨k, hk, rfl⟩ := List.mem_map.mp hd
    exact ⟨k, hk, t, (kOf_mk t).2⟩
  let un : V → Nat × Nat := fun y => ((kOf H y).1.toNat, (kOf H y).2.toNat)
  have eun : ∀ y ∈ ys, ∃ k ∈ Cm, TD H y (mD k) ∧ un y = k := by
    intro y hy
    obtain ⟨k, hk, t, e⟩ := hall y hy
    refine ⟨k, hk, t, ?_⟩
    show ((kOf H y).1.toNat, (kOf H y).2.toNat) = k
    rw [e]
    exact Prod.ext (Int.toNat_natCast _) (Int.toNat_natCast _)
  have perm : (ys.map un).Perm Cm := by
    have h1 := hb.perm.map (kOf H)
    rw [kOf_all tx] at h1
    have h2 := h1.map fun p : Int × Int => (p.1.toNat, p.2.toNat)
    rw [List.map_map, List.map_map] at h2
    refine h2.trans (List.Perm.of_eq ?_)
    refine (List.map_congr_left fun k _ => ?_).trans (List.map_id Cm)
    exact Prod.ext (Int.toNat_natCast _) (Int.toNat_natCast _)
  have nd2 : ((ys.map un)).Nodup := perm.nodup_iff.mpr nd
  have e : ys.map un = HL Cm := by
    refine rises_same ?_ (HL_rise Cm) (fun k hk => ?_) (fun k hk => ?_) fun k => by rw [mem_HL sm, perm.mem_iff]
    · rw [List.map_map]
      have h1 : ys.Pairwise fun x y => ltP (kOf H) y x = false := hs
      have h2 : ys.Pairwise fun x y => un x ≠ un y := List.pairwise_map.mp nd2
      refine List.pairwise_map.mpr ((List.pairwise_and_iff.mpr ⟨h1, h2⟩).imp_of_mem fun {a b} ha hb' h => ?_)
      obtain ⟨k, hk, _, ek⟩ := hall a ha
      obtain ⟨j, hj, _, ej⟩ := hall b hb'
      have h3 := SrtO.lexB_no.mp h.1
      have h4 : un a ≠ un b := h.2
      have ek2 : un a = k := by
        show ((kOf H a).1.toNat, (kOf H a).2.toNat) = k
        rw [ek]; exact Prod.ext (Int.toNat_natCast _) (Int.toNat_natCast _)
      have ej2 : un b = j := by
        show ((kOf H b).1.toNat, (kOf H b).2.toNat) = j
        rw [ej]; exact Prod.ext (Int.toNat_natCast _) (Int.toNat_natCast _)
      rw [ek, ej] at h3
      show keyI (un a) < keyI (un b)
      rw [ek2, ej2] at h4 ⊢
      have h5 : ¬ (k.1 = j.1 ∧ k.2 = j.2) := fun ⟨a, b⟩ => h4 (Prod.ext a b)
      have s1 := (sm k hk).2
      have s2 := (sm j hj).2
      simp only at h3
      unfold keyI
      omega
    · have := (sm k (perm.mem_iff.mp hk)).2; omega
    · have := (sm k ((mem_HL sm k).mp hk)).2; omega
  rw [← e, List.map_map]
  refine tds_fn fun y hy => ?_
  obtain ⟨k, _, t, e⟩ := eun y hy
  show TD H y (mD (un y))
  rw [e]
  exact t
theorem eqv_mk (a b : Nat × Nat) : PyData.eqv (mD a) (mD b) = decide (a = b) := by
  unfold mD mkD
  by_cases h : a = b
  · subst h
    simp [PyData.eqv, PyData.eqvAll]
  · rw [decide_eq_false h]
    have : ¬ (a.1 = b.1 ∧ a.2 = b.2) := fun ⟨x, y⟩ => h (Prod.ext x y)
    by_cases h1 : a.1 = b.1
    · have h2 : a.2 ≠ b.2 := fun e => this ⟨h1, e⟩
      simp [PyData.eqv, PyData.eqvAll]
      omega
    · simp [PyData.eqv, PyData.eqvAll]
      omega
theorem lay_mk (k : Nat × Nat) : Lay 1 (mD k) := Lay.tuple (f := PyData.int) (xs := [((k.1 : Nat) : Int), ((k.2 : Nat) : Int)]) fun x _ => Lay.int x
theorem lay_mks (ks : List (Nat × Nat)) : Lay 2 (.list (ks.map mD)) := Lay.list fun k _ => lay_mk k
theorem any_mk (ks : List (Nat × Nat)) (k : Nat × Nat) : ((ks.map mD).any fun w => PyData.eqv w (mD k)) = decide (k ∈ ks) := by
  induction ks with
  | nil => rfl
  | cons x r ih =>
    rw [List.map_cons, List.any_cons, ih, eqv_mk]
    by_cases h : x = k
    · subst h; simp
    · have h' : ¬ k = x := fun e => h e.symm
      simp [h, h', List.mem_cons]
end K20
namespace K20
open PySem PySem.Spec PyProof.Rows L2 Sky
def DU (css : Nat → List Nat) (n : Nat) : List (Nat × Nat) := (List.range n).flatMap fun i => (wantL (css i) (fun _ => false) (topN (css i))).map fun c => (i, c)
theorem DU_succ (css : Nat → List Nat) (n : Nat) : DU css (n + 1) = DU css n ++ (wantL (css n) (fun _ => false) (topN (css n))).map fun c => (n, c) := by
  unfold DU
  rw [List.range_succ, List.flatMap_append]
  simp
theorem want_eq (css : Nat → List Nat) (O : List (Nat × Nat)) : ∀ n : Nat, ((DU css n).filter fun k => !decide (k ∈ O)).map mD = (List.range n).flatMap fun i => (wantL (css i) (fun c => decide ((i, c) ∈ O)) (topN (css i))).map (mkD i)
  | 0 => rfl
  | n + 1 => by
    rw [DU_succ, List.filter_append, List.map_append, want_eq css O n, List.range_succ, List.flatMap_append]
    congr 1
    rw [List.flatMap_cons, List.flatMap_nil, List.append_nil, List.filter_map, List.map_map]
    unfold wantL
    rw [List.filter_filter]
    show List.map (mkD n) _ = List.map (mkD n) _
    congr 1
    refine List.filter_congr fun c _ => ?_
    show (!decide ((n, c) ∈ O) && (!decide (c ∈ css n) && !false)) = (!decide (c ∈ css n) && !decide ((n, c) ∈ O))
    rw [Bool.not_false, Bool.and_true, Bool.and_comm]
theorem want_len (cs : List Nat) (nv : Nat → Bool) (m : Nat) : (wantL cs nv m).length ≤ m := by
  unfold wantL
  have := List.length_filter_le (fun c => !decide (c ∈ cs) && !nv c) (List.range m)
  rw [List.length_range] at this
  exact this
theorem DU_len {css : Nat → List Nat} (h : ∀ i, topN (css i) ≤ 10000) : ∀ n : Nat, (DU css n).length ≤ n * 10000
  | 0 => Nat.zero_le _
  | n + 1 => by
    have h1 := DU_len h n
    have h2 := want_len (css n) (fun _ => false) (topN (css n))
    have h3 := h n
    rw [DU_succ, List.length_append, List.length_map]
    omega
theorem cut2 (a b c d : V) : cutV [a, b, c, d] none (some 2) = [a, b] := rfl
theorem nocut2 (a b c d : V) : ¬ (HT.sIx [a, b, c, d].length 0 none = 0 ∧ HT.sIx [a, b, c, d].length [a, b, c, d].length (some 2) = [a, b, c, d].length) := fun h => absurd h.2 (by show ¬ ((2 : Nat) = 4); decide)
/-- the largest of some counts and -1 -/
theorem max_is {css : List Nat} {m : Int} (h1 : m ∈ (css.map fun c : Nat => (c : Int)) ++ [-1]) (h2 : ∀ y ∈ (css.map fun c : Nat => (c : Int)) ++ [-1], y ≤ m) : m.toNat = topN css ∧ -1 ≤ m ∧ m ≤ (topN css : Int) := by
  have h3 := h2 (-1) (List.mem_append_right _ (List.mem_singleton.mpr rfl))
  by_cases e : css = []
  · subst e
    have : m = -1 := by simpa using h1
    subst this
    exact ⟨rfl, by omega, by decide⟩
  · have h4 := h2 ((topN css : Nat) : Int) (List.mem_append_left _ (List.mem_map.mpr ⟨_, top_mem e, rfl⟩))
    rcases List.mem_append.mp h1 with h5 | h5
    · obtain ⟨c, hc, rfl⟩ := List.mem_map.mp h5
      have h6 := top_le hc
      have h7 : c = topN css := by omega
      subst h7
      exact ⟨Int.toNat_natCast _, h3, Int.le_refl _⟩
    · have : m = -1 := List.mem_singleton.mp h5
      omega
end K20

namespace K20
open PySem PySem.Spec PyProof.Rows L2 Sky
/-! ### a sky, in numbers -/
inductive Ent where
  | tell (s : Nat) (t : List Int)
  | close (s : Nat)
  | sent (x : Nat × Frm)
  | came (x : Nat × Frm)
  | never (ks : List (Nat × Nat))
def xD (x : Nat × Frm) : PyData := frmD ((x.1 : Nat) : Int) x.2
def entD : Ent → PyData
  | .tell s t => .tuple [.str "tell", .int ((s : Nat) : Int), tlD t]
  | .close s => .tuple [.str "close", .int ((s : Nat) : Int)]
  | .sent x => .tuple [.str "sent", xD x]
  | .came x => .tuple [.str "came", xD x]
  | .never ks => .tuple [.str "never", .tuple (ks.map mD2)]
abbrev Strm := List Int × List (Nat × List Int)
def sS (n : Strm) : List Int × List Nat := (n.1, n.2.map (·.1))
structure Sk where
  m : Cr
  sl : List Strm
  cf : List (Nat × Frm)
  nv : List (Nat × Nat)
  dn : List Ent
  up : List (List (Nat × Nat) × List (Nat × Nat))
  lg : List Ent
def Sk.new : Sk := ⟨Cr.new, List.replicate 4 ([], []), [], [], [], [], []⟩
def Sk.ns (k : Sk) : List (List Int × List Nat) := k.sl.map sS
/-- a frame that was made -/
def Made (z : Nat) (sl : List Strm) (x : Nat × Frm) : Prop := ∃ n, sl[x.1]? = some n ∧ x.2.1 * z + z ≤ n.1.length ∧ x.2 = frm z n.1 (n.2.map (·.1)) x.2.1
def MadeK (z : Nat) (sl : List Strm) (j : Nat × Nat) : Prop := ∃ n, sl[j.1]? = some n ∧ j.2 * z + z ≤ n.1.length
theorem Made.k {z : Nat} {sl : List Strm} {x : Nat × Frm} (h : Made z sl x) : MadeK z sl (mkOf x) := by
  obtain ⟨n, h1, h2, _⟩ := h
  exact ⟨n, h1, h2⟩
theorem Made.inj {z : Nat} {sl : List Strm} {x y : Nat × Frm} (h : Made z sl x) (g : Made z sl y) (e : mkOf x = mkOf y) : x = y := by
  obtain ⟨n, h1, h2, h3⟩ := h
  obtain ⟨m, g1, g2, g3⟩ := g
  have e1 : (mkOf x).1 = (mkOf y).1 := congrArg Prod.fst e
  have e2 : (mkOf x).2 = (mkOf y).2 := congrArg Prod.snd e
  change x.1 = y.1 at e1
  change x.2.1 = y.2.1 at e2
  rw [e1, g1] at h1
  cases h1
  rw [e2] at h3
  exact Prod.ext e1 (h3.trans g3.symm)
def EntOk (z : Nat) (sl : List Strm) : Ent → Prop
  | .came x => Made z sl x
  | .never ks => ks ≠ [] ∧ ks.length ≤ 100000 ∧ ∀ j ∈ ks, MadeK z sl j
  | _ => False
/-- what holds all along: B, a bound of all that is laid and written -/
structure Good (z room B : Nat) (k : Sk) : Prop where
  four : k.sl.length = 4
  lay : ∀ n ∈ k.sl, Lays z n.1 (n.2)
  big : ∀ n ∈ k.sl, n.1.length ≤ B ∧ n.2.length ≤ B
  okm : k.m.Ok room
  r60 : 1 ≤ room ∧ room ≤ 60
  q : ∀ x ∈ k.m.q, Made z k.sl x
  cm : ∀ x ∈ k.cf, Made z k.sl x
  cn : (k.cf.map mkOf).Nodup
  nvm : ∀ j ∈ k.nv, MadeK z k.sl j
  dnm : ∀ e ∈ k.dn, EntOk z k.sl e
  upm : ∀ u ∈ k.up, (∀ j ∈ u.1, MadeK z k.sl j) ∧ (∀ j ∈ u.2, MadeK z k.sl j) ∧ u.1.length ≤ 100000 ∧ u.2.length ≤ 100000
  gl : k.m.gone.length ≤ B
  dl : k.dn.length ≤ B
  ul : k.up.length ≤ B
  ll : k.lg.length ≤ B
section
variable {z room B B' : Nat} {k : Sk}
theorem Good.more (h : Good z room B k) (b : B ≤ B') : Good z room B' k :=
  ⟨h.four, h.lay, fun n hn => ⟨Nat.le_trans (h.big n hn).1 b, Nat.le_trans (h.big n hn).2 b⟩, h.okm, h.r60, h.q, h.cm, h.cn, h.nvm, h.dnm, h.upm, Nat.le_trans h.gl b, Nat.le_trans h.dl b, Nat.le_trans h.ul b, Nat.le_trans h.ll b⟩
theorem Good.new (hr : 1 ≤ room ∧ room ≤ 60) : Good z room 0 Sk.new := by
  refine ⟨rfl, fun n hn => ?_, fun n hn => ?_, Cr.Ok.new room, hr, fun x hx => (by cases hx), fun x hx => (by cases hx), List.nodup_nil, fun x hx => (by cases hx), fun x hx => (by cases hx), fun x hx => (by cases hx), Nat.le_refl _, Nat.le_refl _, Nat.le_refl _, Nat.le_refl _⟩
  · rw [(List.mem_replicate.mp hn).2]; exact Lays.nil z
  · rw [(List.mem_replicate.mp hn).2]; exact ⟨Nat.le_refl _, Nat.le_refl _⟩
theorem MadeK.small (hz : 8 ≤ z) (h : Good z room B k) (hB : B ≤ 60000) {j : Nat × Nat} (hj : MadeK z k.sl j) : j.1 < 4 ∧ j.2 ≤ 7499 := by
  obtain ⟨n, h1, h2⟩ := hj
  have hl := (List.getElem?_eq_some_iff.mp h1).1
  rw [h.four] at hl
  have hb := (h.big n (List.mem_of_getElem? h1)).1
  refine ⟨hl, ?_⟩
  have h3 : j.2 * 8 + 8 ≤ j.2 * z + z := Nat.add_le_add (Nat.mul_le_mul_left _ hz) hz
  omega
theorem Made.ok {x : Nat × Frm} (hz : 8 ≤ z) (h : Good z room B k) (hB : B ≤ 60000) (hx : Made z k.sl x) : FOk z ((x.1 : Nat) : Int) x.2 := by
  obtain ⟨h4, h9⟩ := MadeK.small hz h hB hx.k
  obtain ⟨n, h1, h2, h3⟩ := hx
  rw [h3]
  have h4' : x.1 < 4 := h4
  have h9' : x.2.1 ≤ 7499 := h9
  exact frm_ok (h.lay n (List.mem_of_getElem? h1)) (by omega) (by omega) (by omega) h2
end
/-! ### what is laid stays laid -/
theorem Made.step {z : Nat} {sl : List Strm} {s : Nat} {n n' : Strm} (hn : sl[s]? = some n) (hl : n.1.length ≤ n'.1.length) (hf : ∀ c, c * z + z ≤ n.1.length → frm z n'.1 (n'.2.map (·.1)) c = frm z n.1 (n.2.map (·.1)) c) {x : Nat × Frm} (h : Made z sl x) : Made z (sl.set s n') x := by
  obtain ⟨m, h1, h2, h3⟩ := h
  by_cases e : s = x.1
  · subst e
    rw [hn] at h1
    cases h1
    exact ⟨n', List.getElem?_set_self (List.getElem?_eq_some_iff.mp hn).1, Nat.le_trans h2 hl, by rw [hf _ h2]; exact h3⟩
  · exact ⟨m, by rw [List.getElem?_set_ne e]; exact h1, h2, h3⟩
theorem MadeK.step {z : Nat} {sl : List Strm} {s : Nat} {n n' : Strm} (hn : sl[s]? = some n) (hl : n.1.length ≤ n'.1.length) {j : Nat × Nat} (h : MadeK z sl j) : MadeK z (sl.set s n') j := by
  obtain ⟨m, h1, h2⟩ := h
  by_cases e : s = j.1
  · subst e
    rw [hn] at h1
    cases h1
    exact ⟨n', List.getElem?_set_self (List.getElem?_eq_some_iff.mp hn).1, Nat.le_trans h2 hl⟩
  · exact ⟨m, by rw [List.getElem?_set_ne e]; exact h1, h2⟩
def lays1' (n : Strm) (t : List Int) : Strm := (n.1 ++ laidN ((n.2.length : Nat) : Int) t, n.2 ++ [(n.1.length, t)])
theorem sS_lays1 (n : Strm) (t : List Int) : sS (lays1' n t) = lay1 (sS n) t := by
  unfold sS lays1' lay1
  simp
def padS (z : Nat) (n : Strm) : Strm := (padN z n.1, n.2)
theorem sS_pad (z : Nat) (n : Strm) : sS (padS z n) = (padN z (sS n).1, (sS n).2) := rfl
theorem frm_lays1 {z : Nat} {n : Strm} {t : List Int} {c : Nat} (h : c * z + z ≤ n.1.length) : frm z (lays1' n t).1 ((lays1' n t).2.map (·.1)) c = frm z n.1 (n.2.map (·.1)) c := by
  show frm z (n.1 ++ _) ((n.2 ++ [(n.1.length, t)]).map (·.1)) c = _
  rw [frm_more h, List.map_append]
  exact frm_start h
theorem frm_padS {z : Nat} {n : Strm} {c : Nat} (h : c * z + z ≤ n.1.length) : frm z (padS z n).1 ((padS z n).2.map (·.1)) c = frm z n.1 (n.2.map (·.1)) c := by
  show frm z (padN z n.1) _ c = _
  unfold padN
  split
  · rfl
  · exact frm_more h
theorem lays1_len (n : Strm) (t : List Int) : (lays1' n t).1.length = n.1.length + (t.length + 3) := by
  show (n.1 ++ _).length = _
  rw [List.length_append, laidN_length]
theorem pad_grow (z : Nat) (n : Strm) : n.1.length ≤ (padS z n).1.length ∧ (0 < z → (padS z n).1.length ≤ n.1.length + z) := by
  show n.1.length ≤ (padN z n.1).length ∧ _
  unfold padS padN
  by_cases e : n.1.length % z = 0
  · simp only [if_pos e]
    exact ⟨Nat.le_refl _, fun _ => Nat.le_add_right _ _⟩
  · simp only [if_neg e, List.length_append, List.length_replicate]
    exact ⟨Nat.le_add_right _ _, fun _ => by omega⟩
/-- the frames of a telling were made -/
theorem tFrames_made {z : Nat} {sl : List Strm} {s : Nat} {n : Strm} {t : List Int} (hn : sl[s]? = some n) {f : Frm} (hf : f ∈ tFrames z (sS n) t) : Made z (sl.set s (lays1' n t)) (s, f) := by
  obtain ⟨i, hi⟩ := List.getElem?_of_mem hf
  obtain ⟨h1, h2⟩ := tFrames_at hi
  have hm : f ∈ frms z (lay1 (sS n) t).1 (lay1 (sS n) t).2 := List.mem_of_mem_drop hf
  unfold frms at hm
  obtain ⟨c, hc, e⟩ := List.mem_map.mp hm
  have ec : f.1 = c := by rw [← e]; rfl
  have hc2 := List.mem_range.mp hc
  refine ⟨lays1' n t, List.getElem?_set_self (List.getElem?_eq_some_iff.mp hn).1, ?_, ?_⟩
  · show f.1 * z + z ≤ _
    have h3 := Nat.mul_le_mul_right z (show f.1 + 1 ≤ (lay1 (sS n) t).1.length / z from h2)
    have h4 := div_lo z (lay1 (sS n) t).1.length
    rw [Nat.succ_mul] at h3
    have e1 : (lays1' n t).1 = (lay1 (sS n) t).1 := by rw [← sS_lays1]; rfl
    rw [e1]
    omega
  · show f = frm z (lays1' n t).1 ((lays1' n t).2.map (·.1)) f.1
    have e1 : (lays1' n t).1 = (lay1 (sS n) t).1 := by rw [← sS_lays1]; rfl
    have e2 : (lays1' n t).2.map (·.1) = (lay1 (sS n) t).2 := by rw [← sS_lays1]; rfl
    rw [e1, e2, ec]
    exact e.symm
theorem clFrame_made {z : Nat} (hz : 0 < z) {sl : List Strm} {s : Nat} {n : Strm} (hn : sl[s]? = some n) (e : n.1.length % z ≠ 0) : Made z (sl.set s (padS z n)) (s, clFrame z (sS n)) := by
  refine ⟨padS z n, List.getElem?_set_self (List.getElem?_eq_some_iff.mp hn).1, ?_, ?_⟩
  · show n.1.length / z * z + z ≤ (padN z n.1).length
    rw [pad_len hz e, Nat.add_mul, Nat.one_mul]
    exact Nat.le_refl _
  · have h := frms_pad (S := n.2.map (·.1)) hz e
    have hm : clFrame z (sS n) ∈ frms z (padN z n.1) (n.2.map (·.1)) := by
      rw [h]
      exact List.mem_append_right _ (List.mem_singleton.mpr rfl)
    unfold frms at hm
    obtain ⟨c, hc, e2⟩ := List.mem_map.mp hm
    have ec : (clFrame z (sS n)).1 = c := by rw [← e2]; rfl
    show clFrame z (sS n) = frm z (padN z n.1) (n.2.map (·.1)) (clFrame z (sS n)).1
    rw [ec]
    exact e2.symm
end K20

namespace K20
open PySem PySem.Spec PyProof.Rows L2 Sky
section
variable {P : Program} {w : World} {K : PySem.W.Frag} {mg : Str → Option Value} {base : Heap}
/-! ### marks in a tuple -/
theorem fn_no {n : Nat} {a : Addr} {d : FuncData} {ps : List Str} : FnOk P w K mg base CX0 n a d ps (fun _ _ _ _ => False) := ⟨fun _ _ _ _ h => h.elim, fun _ _ _ _ _ _ _ _ _ _ _ _ _ h => h.elim⟩
def sp_check_marksT (K : PySem.W.Frag) : Sp := fun vs H Q _ => ∃ (lm : Addr) (ms : List V) (ks : List (Nat × Nat)), vs = [.ref lm] ∧ H lm = some (.tup ms) ∧ TDs H ms (ks.map fun k => mkD k.1 k.2) ∧ (∀ k ∈ ks, k.1 ≤ 3 ∧ k.2 ≤ 9999) ∧ ∀ H', Same H H' → Q .non H'
theorem ok_check_marksT (T : Tx K mg) : FnOk P w K mg base CX0 4 T.a_check_marks T.d_check_marks ["marks"] (sp_check_marksT K) := by
  have nd := sc_check_marks.nd
  refine T.F_check_marks.ok sc_check_marks (fun vs H Q E h => ?_) (fun cdv A outer s H vs Q E hr h => ?_)
  · obtain ⟨_, _, _, rfl, _⟩ := h
    rfl
  · obtain ⟨lm, ms, ks, rfl, hl, tds, hok, fin⟩ := h
    refine ⟨_, (pss_one (ps_for PassesOwn.never rfl (pi_enumT (by rfl) T.z_enumerate (pa_cons (pv 0) pa_nil)) (pg_tup rfl (pgs_cons (pg_name (i := 1) nd rfl (Or.inl rfl)) (pgs_cons (pg_name (i := 2) nd rfl (Or.inl rfl)) pgs_nil))) (pss_one (ps_if (pt_not (pt_val (pe_call (ok_is_mark T) (hr.mono (by decide)) (by rfl) T.m_is_mark T.F_is_mark.kp T.b_is_mark .nil pass0 (pa_cons (pv 2) pa_nil)))) (pss_one ps_never) pss_nil)))), ?_⟩
    refine ⟨_, rfl, lm, ms, rfl, SqT.of hl, ?_⟩
    refine for_enumT (K := K) (l := lm) (ys := ms) (fun i σ H' => ∃ (v1 v2 : Option V), σ = [some (.ref lm), v1, v2] ∧ Same H H') ⟨none, none, rfl, Same.refl _⟩ (fun i σ H' _ ⟨_, _, _, s'⟩ => SqT.of (s' _ _ hl)) ?_ ?_
    · rintro i y σ H' t hy ⟨v1, v2, rfl, s'⟩ ht
      obtain ⟨d, hd, td⟩ := tds.get hy
      obtain ⟨k, hk, rfl⟩ := map_get hd
      have hkm := hok k (List.mem_of_getElem? hk)
      have s1 := same_new (Same.refl H') ht (o := .tup [.int ((i : Nat) : Int), y])
      obtain ⟨b, rfl, hb⟩ := td_mk ((td.mono (TSm.of_same s')).mono (TSm.of_same s1))
      refine ⟨t, _, rfl, SqT.of upd_same, rfl, _, _, rfl, _, _, rfl, rfl, ?_⟩
      exact ⟨_, rfl, b, _, _, rfl, hb, (by omega), (by omega), (by omega), (by omega), true, rfl, iteF ⟨_, _, rfl, s'.trans s1⟩⟩
    · rintro σ H' ⟨v1, v2, rfl, s'⟩
      exact fin _ s'
theorem put_keys {κ : Type} [DecidableEq κ] {kvs : List (κ × V)} {k : κ} {v : V} (nd : (kvs.map (·.1)).Nodup) : ((putK kvs k v).map (·.1)).Nodup ∧ ∀ j ∈ (putK kvs k v).map (·.1), j ∈ kvs.map (·.1) ∨ j = k := by
  by_cases h : k ∈ kvs.map (·.1)
  · have e : (putK kvs k v).map (·.1) = kvs.map (·.1) := by
      unfold putK
      rw [if_pos (by obtain ⟨x, hx, ex⟩ := List.mem_map.mp h; exact List.any_eq_true.mpr ⟨x, hx, decide_eq_true ex⟩), List.map_map]
      refine List.map_congr_left fun x _ => ?_
      show (if x.1 = k then (x.1, v) else x).1 = x.1
      split <;> rfl
    rw [e]
    exact ⟨nd, fun j hj => .inl hj⟩
  · have e : putK kvs k v = kvs ++ [(k, v)] := by
      unfold putK
      rw [if_neg]
      rw [List.any_eq_true]
      rintro ⟨x, hx, ex⟩
      exact h (List.mem_map.mpr ⟨x, hx, of_decide_eq_true ex⟩)
    rw [e, List.map_append]
    refine ⟨?_, fun j hj => ?_⟩
    · rw [List.nodup_append]
      refine ⟨nd, by simp, fun a ha b hb => ?_⟩
      rw [show b = k by simpa using hb]
      exact fun z => h (by rw [← z]; exact ha)
    · rcases List.mem_append.mp hj with z | z
      · exact .inl z
      · exact .inr (by simpa using z)
def sp_neverT (C : Addr) : Sp := fun vs H Q _ => ∃ (g dx lc nv lm : Addr) (ms : List V) (ds : List Addr) (z : Nat) (ks : List (Nat × Nat)) (cm : List (List (Key × V))) (nev : List (List Key × V)), vs = [.ref g, .ref lm] ∧ GAt C H g dx lc nv ds z cm nev ∧
  H lm = some (.tup ms) ∧ TDs H ms (ks.map fun k => mkD k.1 k.2) ∧ (∀ k ∈ ks, k.1 ≤ 3 ∧ k.2 ≤ 9999) ∧ nev.length + ks.length ≤ 1000000 ∧ (nev.map (·.1)).Nodup ∧
  ∀ nev' H', GAt C H' g dx lc nv ds z cm nev' → (nev'.map (·.1)).Nodup → (∀ j ∈ nev'.map (·.1), j ∈ nev.map (·.1) ∨ ∃ k ∈ ks, j = mkK k) → (∀ s c : Nat, (valV nev' [Sum.inl (s : Int), Sum.inl (c : Int)]).isSome = true ↔ ((valV nev [Sum.inl (s : Int), Sum.inl (c : Int)]).isSome = true ∨ (s, c) ∈ ks)) → Keep [nv] H H' → Dom H H' → Q .non H'
theorem ok_Ground_neverT (T : Tx K mg) : FnOk P w K mg base CX0 5 T.a_Ground_never T.d_Ground_never ["self", "marks"] (sp_neverT T.A_Ground) := by
  have nd := sc_Ground_never.nd
  refine T.F_Ground_never.ok sc_Ground_never (fun vs H Q E h => ?_) (fun cdv A outer s H vs Q E hr h => ?_)
  · obtain ⟨_, _, _, _, _, _, _, _, _, _, _, rfl, _⟩ := h
    rfl
  · obtain ⟨g, dx, lc, nv, lm, ms, ds, z, ks, cm, nev, rfl, hG, hl, tds, hok, hlen, hnd, fin⟩ := h
    refine ⟨_, (pss_cons (ps_expr (pe_call (ok_check_marksT T) (hr.mono (by decide)) (by rfl) T.m_check_marks T.F_check_marks.kp T.b_check_marks .nil pass0 (pa_cons (pv 1) pa_nil))) (pss_one (ps_for PassesOwn.never rfl (pi_tup (pv 1)) (pg_name (i := 2) nd rfl (Or.inl rfl)) (pss_one (ps_dput (hu_of hr) (pe_fld (pv 0) rfl) (pv 2) pe_bl rfl))))), ?_⟩
    refine ⟨_, rfl, lm, ms, ks, rfl, hl, tds, hok, fun H1 s1 => ?_⟩
    have hG1 := hG.same s1
    have hl1 := s1 _ _ hl
    have tds1 := tds.mono (TSm.of_same s1)
    have hml : ms.length = ks.length := by rw [tds.length, List.length_map]
    refine ⟨_, rfl, lm, rfl, ⟨_, SqT.of hl1⟩, ?_⟩
    refine for_tup (K := K) (a := lm) (xs := ms) (fun i σ H' => ∃ (v2 : Option V) (nv' : List (List Key × V)), σ = [some (.ref g), some (.ref lm), v2] ∧ GAt T.A_Ground H' g dx lc nv ds z cm nv' ∧ nv'.length ≤ nev.length + i ∧ (nv'.map (·.1)).Nodup ∧ (∀ j ∈ nv'.map (·.1), j ∈ nev.map (·.1) ∨ ∃ k ∈ ks, j = mkK k) ∧
      (∀ s c : Nat, (valV nv' [Sum.inl (s : Int), Sum.inl (c : Int)]).isSome = true ↔ ((valV nev [Sum.inl (s : Int), Sum.inl (c : Int)]).isSome = true ∨ (s, c) ∈ ks.take i)) ∧ Keep [nv] H1 H' ∧ Dom H1 H') ⟨none, nev, rfl, hG1, Nat.le_refl _, hnd, fun j hj => .inl hj, fun s c => by simp, Keep.refl _ _, Dom.refl _⟩
      (fun i σ H' _ ⟨_, _, _, hG', _, _, _, _, k, _⟩ => SqT.of (k _ _ (by simp [ne_of hl1 hG1.n (by intro e; cases e)]) hl1)) ?_ ?_
    · rintro i y σ H' hy ⟨v2, nv', rfl, hG', hle, hnd', hks', hiff, k', d'⟩
      obtain ⟨d, hd, td⟩ := tds1.get hy
      obtain ⟨k, hk, rfl⟩ := map_get hd
      have hil : i < ms.length := (List.getElem?_eq_some_iff.mp hy).1
      obtain ⟨b, rfl, hb⟩ := td_mk (td.mono (k'.ts (fun m hm => by rw [List.mem_singleton.mp hm]; exact NoT.dT hG1.n)))
      refine ⟨_, rfl, g, _, dx, _, _, rfl, hG'.o, T.cl_Ground, T.n_Ground_never, gf_never, _, rfl, nv, _, rfl, DPut.t (k := [Sum.inl ((k.1 : Nat) : Int), Sum.inl ((k.2 : Nat) : Int)]) hG'.n hb (lt_line (by omega)), ?_⟩
      obtain ⟨q1, q2⟩ := put_keys (k := ([Sum.inl ((k.1 : Nat) : Int), Sum.inl ((k.2 : Nat) : Int)] : List Key)) (v := V.bl true) hnd'
      refine ⟨_, _, rfl, ⟨?_, ?_, hG'.four, hG'.cl, fun i a kvs e1 e2 => ?_, hG'.apart, upd_same⟩, Nat.le_trans (putK_len _ _ _) (by omega), q1, fun j hj => ?_, fun s c => ?_, keep_upd k' (by simp), d'.upd _ _⟩
      · rw [upd_ne (ne_of hG'.o hG'.n (by intro e; cases e))]; exact hG'.o
      · rw [upd_ne (ne_of hG'.l hG'.n (by intro e; cases e))]; exact hG'.l
      · have h1 := hG'.d i a kvs e1 e2
        rw [upd_ne (ne_of h1 hG'.n (by intro e; cases e))]; exact h1
      · rcases q2 j hj with e | e
        · exact hks' j e
        · exact .inr ⟨k, List.mem_of_getElem? hk, e⟩
      · rw [valV_put, List.take_add_one, hk, Option.toList_some, List.mem_append, List.mem_singleton]
        by_cases e : ([Sum.inl ((s : Nat) : Int), Sum.inl ((c : Nat) : Int)] : List Key) = [Sum.inl ((k.1 : Nat) : Int), Sum.inl ((k.2 : Nat) : Int)]
        · rw [if_pos e]
          have e1 : s = k.1 ∧ c = k.2 := by
            injection e with e1 e2
            injection e2 with e2 _
            injection e1 with e1
            injection e2 with e2
            omega
          exact ⟨fun _ => .inr (.inr (Prod.ext e1.1 e1.2)), fun _ => rfl⟩
        · rw [if_neg e, hiff]
          constructor
          · rintro (h | h)
            · exact .inl h
            · exact .inr (.inl h)
          · rintro (h | h | h)
            · exact .inl h
            · exact .inr h
            · exact absurd (by rw [← h]) e
    · rintro σ H' ⟨v2, nv', rfl, hG', hle, hnd', hks', hiff, k', d'⟩
      rw [hml, List.take_length] at hiff
      exact fin nv' H' hG' hnd' hks' hiff ((Keep.of_same s1).trans k') ((Dom.of_same s1).trans d')
end
end K20

namespace K20
open PySem PySem.Spec PyProof.Rows L2 Sky
theorem CAt.noT {C CL : Addr} {H : Hp} {A : Ca} {ps : List (Addr × Addr × Addr)} {room z : Nat} {ns : List (List Int × List Nat)} {m : Cr} {qv : List KF} {gs : List V} (h : CAt C CL H A ps room z ns m qv gs) : ∀ a ∈ cM A ps, NoT H a ∧ ∃ o, H a = some o := by
  intro a ha
  unfold cM at ha
  rcases List.mem_append.mp ha with ha | ha
  · rcases List.mem_append.mp ha with ha | ha
    · simp only [List.mem_cons, List.not_mem_nil, or_false] at ha
      rcases ha with e | e | e | e | e | e
      · rw [e]; exact ⟨NoT.ins h.o, _, h.o⟩
      · rw [e]; exact ⟨NoT.lst h.la, _, h.la⟩
      · rw [e]; exact ⟨NoT.dT h.fr, _, h.fr⟩
      · rw [e]; exact ⟨NoT.dT h.se, _, h.se⟩
      · rw [e]; exact ⟨NoT.dT h.ak, _, h.ak⟩
      · rw [e]; exact ⟨NoT.lst h.go, _, h.go⟩
    · obtain ⟨p, hp, rfl⟩ := List.mem_map.mp ha
      obtain ⟨_, _, _, _, h1, _⟩ := h.lays hp
      exact ⟨NoT.ins h1, _, h1⟩
  · obtain ⟨p, hp, rfl⟩ := List.mem_map.mp ha
    obtain ⟨_, _, _, _, _, h2⟩ := h.lays hp
    exact ⟨NoT.lst h2, _, h2⟩
theorem GAt.else {C : Addr} {H H' : Hp} {g dx lc nv : Addr} {ds : List Addr} {z : Nat} {cm : List (List (Key × V))} {nev : List (List Key × V)} (h : GAt C H g dx lc nv ds z cm nev) {N : List Addr} (k : Keep N H H') (n : ∀ a ∈ [g, lc, nv] ++ ds, a ∉ N) : GAt C H' g dx lc nv ds z cm nev :=
  ⟨k _ _ (n _ (by simp)) h.o, k _ _ (n _ (by simp)) h.l, h.four, h.cl, fun i a kvs e1 e2 => k _ _ (n _ (List.mem_append_right _ (List.mem_of_getElem? e1))) (h.d i a kvs e1 e2), h.apart, k _ _ (n _ (by simp)) h.n⟩
theorem GAt.dks {C : Addr} {H : Hp} {g dx lc nv : Addr} {ds : List Addr} {z : Nat} {cm : List (List (Key × V))} {nev : List (List Key × V)} (h : GAt C H g dx lc nv ds z cm nev) : ∀ a ∈ ds, ∃ kvs, H a = some (.dK kvs) := by
  intro a ha
  obtain ⟨i, hi⟩ := List.getElem?_of_mem ha
  have hl := (List.getElem?_eq_some_iff.mp hi).1
  rw [h.four] at hl
  have hk : cm[i]? = some (cm[i]'(by rw [h.cl]; exact hl)) := List.getElem?_eq_getElem _
  exact ⟨_, h.d i a _ hi hk⟩
/-! ### the sky as an object -/
def SF : List Str := ["_craft", "_ground", "_roads", "_entries"]
theorem SF_nd : SF.Nodup := by decide +kernel
structure So where
  s : Addr
  dx : Addr
  A : Ca
  g : Addr
  gx : Addr
  lc : Addr
  nv : Addr
  ds : List Addr
  rd : Addr
  dn : Addr
  up : Addr
  en : Addr
def sf (o : So) : List (Str × V) := SF.zip [.ref o.A.c, .ref o.g, .ref o.rd, .ref o.en]
section
variable {o : So}
theorem sf_craft : (sf o).lookup ("_craft" : Str) = some (.ref o.A.c) := lookup_zip SF _ 0 _ SF_nd rfl rfl
theorem sf_ground : (sf o).lookup ("_ground" : Str) = some (.ref o.g) := lookup_zip SF _ 1 _ SF_nd rfl rfl
theorem sf_roads : (sf o).lookup ("_roads" : Str) = some (.ref o.rd) := lookup_zip SF _ 2 _ SF_nd rfl rfl
theorem sf_entries : (sf o).lookup ("_entries" : Str) = some (.ref o.en) := lookup_zip SF _ 3 _ SF_nd rfl rfl
theorem sf_no {f : Str} (h : f ∉ SF) : (sf o).lookup f = none := lookup_zip_none SF _ _ h
theorem sf_few : (sf o).length < 1000 := Nat.lt_of_le_of_lt (zip_len SF _) (by decide)
end
/-- the classes -/
structure Cl where
  S : Addr
  C : Addr
  L : Addr
  G : Addr
def rdD (o : So) : List (Key × V) := [(Sum.inr "down", .ref o.dn), (Sum.inr "up", .ref o.up)]
/-- a letter up, as it lies: the tuple, the two lists, what they hold -/
structure Lt where
  t : Addr
  h : Addr
  w : Addr
  hs : List V
  ws : List V
structure UpAt (H : Hp) (l : Lt) (u : List (Nat × Nat) × List (Nat × Nat)) : Prop where
  t : H l.t = some (.tup [.ref l.h, .ref l.w])
  h : H l.h = some (.lst l.hs)
  w : H l.w = some (.lst l.ws)
  th : TDs H l.hs (u.1.map mD2)
  tw : TDs H l.ws (u.2.map mD2)
/-- what may change -/
def sM (o : So) (ps : List (Addr × Addr × Addr)) : List Addr := cM o.A ps ++ (o.ds ++ [o.nv, o.rd, o.dn, o.up, o.en])
/-- what stands -/
def sR (o : So) (ul : List Lt) : List Addr := [o.s, o.g, o.lc] ++ (ul.map (·.h) ++ ul.map (·.w))
/-- the frames that came, as the ground holds them -/
def cfS (cf : List (Nat × Frm)) (i : Nat) : List (Nat × Frm) := cf.filter fun x => decide (x.1 = i)
structure SkAt (c : Cl) (z room B : Nat) (H : Hp) (o : So) (ps : List (Addr × Addr × Addr)) (ul : List Lt) (k : Sk) : Prop where
  ob : H o.s = some (.ins c.S o.dx (sf o))
  cr : ∃ qv gs, CAt c.C c.L H o.A ps room z k.ns k.m qv gs
  be : Below k.m z k.ns
  gr : ∃ cm nev, GAt c.G H o.g o.gx o.lc o.nv o.ds z cm nev ∧ (∀ i kvs, cm[i]? = some kvs → kvs.map (·.1) = ((cfS k.cf i).map fun x : Nat × Frm => (Sum.inl ((x.2.1 : Nat) : Int) : Key)) ∧ TDs H (kvs.map (·.2)) ((cfS k.cf i).map xD)) ∧
    (nev.map (·.1)).Nodup ∧ (∀ j ∈ nev.map (·.1), ∃ x ∈ k.nv, j = mkK x) ∧ ∀ s c : Nat, (valV nev [Sum.inl (s : Int), Sum.inl (c : Int)]).isSome = decide ((s, c) ∈ k.nv)
  rd : H o.rd = some (.dK (rdD o))
  dn : ∃ vs, H o.dn = some (.lst vs) ∧ TDs H vs (k.dn.map entD)
  up : H o.up = some (.lst (ul.map fun l => V.ref l.t))
  ut : ∀ (i : Nat) l u, ul[i]? = some l → k.up[i]? = some u → UpAt H l u
  ull : ul.length = k.up.length
  en : ∃ vs, H o.en = some (.lst vs) ∧ TDs H vs (k.lg.map entD)
  good : Good z room B k
  apart : ∀ a ∈ sR o ul, a ∉ sM o ps
  cg : ∀ a ∈ cM o.A ps, a ∉ o.ds ++ [o.nv, o.rd, o.dn, o.up, o.en]
  gd : ∀ a ∈ o.ds ++ [o.nv], a ∉ [o.rd, o.dn, o.up, o.en]
  rn : [o.rd, o.dn, o.up, o.en].Nodup
  nvd : o.nv ∉ o.ds
section
variable {c : Cl} {z room B : Nat} {H H' : Hp} {o : So} {ps : List (Addr × Addr × Addr)} {ul : List Lt} {k : Sk}
theorem SkAt.here (h : SkAt c z room B H o ps ul k) : ∀ a ∈ sM o ps ++ sR o ul, ∃ u, H a = some u := by
  obtain ⟨qv, gs, hC⟩ := h.cr
  obtain ⟨cm, nev, hG, _⟩ := h.gr
  obtain ⟨dv, hd, _⟩ := h.dn
  obtain ⟨ev, he, _⟩ := h.en
  intro a ha
  rcases List.mem_append.mp ha with ha | ha
  · rcases List.mem_append.mp ha with ha | ha
    · exact (hC.noT a ha).2
    · rcases List.mem_append.mp ha with ha | ha
      · obtain ⟨kvs, e⟩ := hG.dks a ha; exact ⟨_, e⟩
      · simp only [List.mem_cons, List.not_mem_nil, or_false] at ha
        rcases ha with e | e | e | e | e
        · rw [e]; exact ⟨_, hG.n⟩
        · rw [e]; exact ⟨_, h.rd⟩
        · rw [e]; exact ⟨_, hd⟩
        · rw [e]; exact ⟨_, h.up⟩
        · rw [e]; exact ⟨_, he⟩
  · rcases List.mem_append.mp ha with ha | ha
    · simp only [List.mem_cons, List.not_mem_nil, or_false] at ha
      rcases ha with e | e | e
      · rw [e]; exact ⟨_, h.ob⟩
      · rw [e]; exact ⟨_, hG.o⟩
      · rw [e]; exact ⟨_, hG.l⟩
    · have go : ∀ (i : Nat) l, ul[i]? = some l → (∃ u, H l.h = some u) ∧ ∃ u, H l.w = some u := fun i l hl => by
        have hi := (List.getElem?_eq_some_iff.mp hl).1
        have hu := h.ut i l _ hl (List.getElem?_eq_getElem (by rw [← h.ull]; exact hi))
        exact ⟨⟨_, hu.h⟩, ⟨_, hu.w⟩⟩
      rcases List.mem_append.mp ha with ha | ha
      · obtain ⟨l, hl, rfl⟩ := List.mem_map.mp ha
        obtain ⟨i, hi⟩ := List.getElem?_of_mem hl
        exact (go i l hi).1
      · obtain ⟨l, hl, rfl⟩ := List.mem_map.mp ha
        obtain ⟨i, hi⟩ := List.getElem?_of_mem hl
        exact (go i l hi).2
theorem SkAt.fresh (h : SkAt c z room B H o ps ul k) {a : Addr} (n : H a = none) : a ∉ sM o ps ++ sR o ul := fun z => by
  obtain ⟨u, e⟩ := h.here a z
  rw [n] at e; cases e
theorem SkAt.noT (h : SkAt c z room B H o ps ul k) : ∀ a ∈ sM o ps, NoT H a := by
  obtain ⟨qv, gs, hC⟩ := h.cr
  obtain ⟨cm, nev, hG, _⟩ := h.gr
  obtain ⟨dv, hd, _⟩ := h.dn
  obtain ⟨ev, he, _⟩ := h.en
  intro a ha
  rcases List.mem_append.mp ha with ha | ha
  · exact (hC.noT a ha).1
  · rcases List.mem_append.mp ha with ha | ha
    · obtain ⟨kvs, e⟩ := hG.dks a ha; exact NoT.dK e
    · simp only [List.mem_cons, List.not_mem_nil, or_false] at ha
      rcases ha with e | e | e | e | e
      · rw [e]; exact NoT.dT hG.n
      · rw [e]; exact NoT.dK h.rd
      · rw [e]; exact NoT.lst hd
      · rw [e]; exact NoT.lst h.up
      · rw [e]; exact NoT.lst he
theorem UpAt.mono {l : Lt} {u : List (Nat × Nat) × List (Nat × Nat)} (h : UpAt H l u) (t : TSm H H') (k1 : H' l.h = some (.lst l.hs)) (k2 : H' l.w = some (.lst l.ws)) : UpAt H' l u := ⟨t _ _ h.t, k1, k2, h.th.mono t, h.tw.mono t⟩
/-- something else changes -/
theorem SkAt.else (h : SkAt c z room B H o ps ul k) {N : List Addr} (kp : Keep N H H') (t : TSm H H') (n : ∀ a ∈ sM o ps ++ sR o ul, a ∉ N) : SkAt c z room B H' o ps ul k := by
  obtain ⟨qv, gs, hC⟩ := h.cr
  obtain ⟨cm, nev, hG, h1, h2, h3, h4⟩ := h.gr
  obtain ⟨dv, hd, td⟩ := h.dn
  obtain ⟨ev, he, te⟩ := h.en
  have nm : ∀ a ∈ sM o ps, a ∉ N := fun a ha => n a (List.mem_append_left _ ha)
  have nr : ∀ a ∈ sR o ul, a ∉ N := fun a ha => n a (List.mem_append_right _ ha)
  refine ⟨kp _ _ (nr _ (by simp [sR])) h.ob, ⟨qv, gs, hC.else kp t fun a ha => nm a (List.mem_append_left _ ha)⟩, h.be, ⟨cm, nev, hG.else kp (fun a ha => ?_), fun i kvs e => ⟨(h1 i kvs e).1, (h1 i kvs e).2.mono t⟩, h2, h3, h4⟩, kp _ _ (nm _ (by simp [sM])) h.rd, ⟨dv, kp _ _ (nm _ (by simp [sM])) hd, td.mono t⟩, kp _ _ (nm _ (by simp [sM])) h.up, fun i l u e1 e2 => ?_, h.ull, ⟨ev, kp _ _ (nm _ (by simp [sM])) he, te.mono t⟩, h.good, h.apart, h.cg, h.gd, h.rn, h.nvd⟩
  · rcases List.mem_append.mp ha with e | e
    · simp only [List.mem_cons, List.not_mem_nil, or_false] at e
      rcases e with e | e | e
      · rw [e]; exact nr _ (by simp [sR])
      · rw [e]; exact nr _ (by simp [sR])
      · rw [e]; exact nm _ (by simp [sM])
    · exact nm _ (by unfold sM; exact List.mem_append_right _ (List.mem_append_left _ e))
  · have hl := List.mem_of_getElem? e1
    have hu := h.ut i l u e1 e2
    exact hu.mono t (kp _ _ (nr _ (by unfold sR; exact List.mem_append_right _ (List.mem_append_left _ (List.mem_map.mpr ⟨l, hl, rfl⟩)))) hu.h) (kp _ _ (nr _ (by unfold sR; exact List.mem_append_right _ (List.mem_append_right _ (List.mem_map.mpr ⟨l, hl, rfl⟩)))) hu.w)
theorem SkAt.same (h : SkAt c z room B H o ps ul k) (s : Same H H') : SkAt c z room B H' o ps ul k := h.else (N := []) (Keep.of_same s) (TSm.of_same s) (by simp)
theorem SkAt.ts (h : SkAt c z room B H o ps ul k) (kp : Keep (sM o ps) H H') : TSm H H' := kp.ts h.noT
/-- the craft alone changes -/
theorem SkAt.craft (h : SkAt c z room B H o ps ul k) {ps' : List (Addr × Addr × Addr)} {k' : Sk} {qv' : List KF} {gs' : List V} (kp : Keep (cM o.A ps) H H') (hC' : CAt c.C c.L H' o.A ps' room z k'.ns k'.m qv' gs') (b : Below k'.m z k'.ns) (f : ∀ a ∈ cM o.A ps', a ∈ cM o.A ps ∨ H a = none)
    (e1 : k'.cf = k.cf) (e2 : k'.nv = k.nv) (e3 : k'.dn = k.dn) (e4 : k'.up = k.up) (e5 : k'.lg = k.lg) {B' : Nat} (good : Good z room B' k') : SkAt c z room B' H' o ps' ul k' := by
  obtain ⟨cm, nev, hG, h1, h2, h3, h4⟩ := h.gr
  obtain ⟨dv, hd, td⟩ := h.dn
  obtain ⟨ev, he, te⟩ := h.en
  have t : TSm H H' := h.ts (kp.mono fun a ha => List.mem_append_left _ ha)
  have no : ∀ a ∈ o.ds ++ [o.nv, o.rd, o.dn, o.up, o.en], a ∉ cM o.A ps := fun a ha z => h.cg a z ha
  have nr : ∀ a ∈ sR o ul, a ∉ cM o.A ps := fun a ha z => h.apart a ha (List.mem_append_left _ z)
  have new : ∀ a, a ∈ cM o.A ps' → a ∈ sM o ps ++ sR o ul → a ∈ cM o.A ps := fun a ha z => by
    rcases f a ha with e | e
    · exact e
    · exact absurd z (h.fresh e)
  refine ⟨kp _ _ (nr _ (by simp [sR])) h.ob, ⟨qv', gs', hC'⟩, b, ⟨cm, nev, hG.else kp (fun a ha => ?_), fun i kvs e => by rw [e1]; exact ⟨(h1 i kvs e).1, (h1 i kvs e).2.mono t⟩, h2, by rw [e2]; exact h3, by rw [e2]; exact h4⟩, kp _ _ (no _ (by simp)) h.rd, ⟨dv, kp _ _ (no _ (by simp)) hd, by rw [e3]; exact td.mono t⟩, kp _ _ (no _ (by simp)) h.up, fun i l u g1 g2 => ?_, by rw [e4]; exact h.ull, ⟨ev, kp _ _ (no _ (by simp)) he, by rw [e5]; exact te.mono t⟩, good, fun a ha z => ?_, fun a ha z => ?_, h.gd, h.rn, h.nvd⟩
  · rcases List.mem_append.mp ha with e | e
    · simp only [List.mem_cons, List.not_mem_nil, or_false] at e
      rcases e with e | e | e
      · rw [e]; exact nr _ (by simp [sR])
      · rw [e]; exact nr _ (by simp [sR])
      · rw [e]; exact no _ (by simp)
    · exact no _ (List.mem_append_left _ e)
  · rw [e4] at g2
    have hl := List.mem_of_getElem? g1
    have hu := h.ut i l u g1 g2
    exact hu.mono t (kp _ _ (nr _ (by unfold sR; exact List.mem_append_right _ (List.mem_append_left _ (List.mem_map.mpr ⟨l, hl, rfl⟩)))) hu.h) (kp _ _ (nr _ (by unfold sR; exact List.mem_append_right _ (List.mem_append_right _ (List.mem_map.mpr ⟨l, hl, rfl⟩)))) hu.w)
  · rcases List.mem_append.mp z with z | z
    · exact nr a ha (new a z (List.mem_append_right _ ha))
    · exact h.apart a ha (List.mem_append_right _ z)
  · exact h.cg a (new a ha (List.mem_append_left _ (List.mem_append_right _ z))) z
/-- a list of its own is written: the road down -/
theorem SkAt.putDn (h : SkAt c z room B H o ps ul k) {vs' : List V} {dn' : List Ent} (t' : TDs H vs' (dn'.map entD)) {B' : Nat} (good : Good z room B' { k with dn := dn' }) : SkAt c z room B' (upd H o.dn (.lst vs')) o ps ul { k with dn := dn' } := by
  obtain ⟨qv, gs, hC⟩ := h.cr
  obtain ⟨cm, nev, hG, h1, h2, h3, h4⟩ := h.gr
  obtain ⟨dv, hd, td⟩ := h.dn
  obtain ⟨ev, he, te⟩ := h.en
  have rn := h.rn
  simp only [List.nodup_cons, List.mem_cons, List.not_mem_nil, or_false, not_or, List.nodup_nil, and_true] at rn
  obtain ⟨⟨r1, r2, r3⟩, ⟨r4, r5⟩, r6, _⟩ := rn
  have kp : Keep [o.dn] H (upd H o.dn (.lst vs')) := keep_upd (Keep.refl _ _) (by simp)
  have t : TSm H (upd H o.dn (.lst vs')) := ts_upd (TSm.refl _) (NoT.lst hd)
  have nr : ∀ a ∈ sR o ul, a ∉ [o.dn] := fun a ha z => h.apart a ha (by rw [List.mem_singleton.mp z]; simp [sM])
  refine ⟨kp _ _ (nr _ (by simp [sR])) h.ob, ⟨qv, gs, hC.else kp t fun a ha z => h.cg a ha (by rw [List.mem_singleton.mp z]; simp)⟩, h.be, ⟨cm, nev, hG.else kp (fun a ha => ?_), fun i kvs e => ⟨(h1 i kvs e).1, (h1 i kvs e).2.mono t⟩, h2, h3, h4⟩, kp _ _ (by simp [r1]) h.rd, ⟨vs', upd_same, t'.mono t⟩, kp _ _ (by simp [Ne.symm r4]) h.up, fun i l u e1 e2 => ?_, h.ull, ⟨ev, kp _ _ (by simp [Ne.symm r5]) he, te.mono t⟩, good, h.apart, h.cg, h.gd, h.rn, h.nvd⟩
  · rcases List.mem_append.mp ha with e | e
    · simp only [List.mem_cons, List.not_mem_nil, or_false] at e
      rcases e with e | e | e
      · rw [e]; exact nr _ (by simp [sR])
      · rw [e]; exact nr _ (by simp [sR])
      · rw [e]; intro z; exact h.gd o.nv (by simp) (by rw [List.mem_singleton.mp z]; simp)
    · intro z; exact h.gd a (List.mem_append_left _ e) (by rw [List.mem_singleton.mp z]; simp)
  · have hl := List.mem_of_getElem? e1
    have hu := h.ut i l u e1 e2
    exact hu.mono t (kp _ _ (nr _ (by unfold sR; exact List.mem_append_right _ (List.mem_append_left _ (List.mem_map.mpr ⟨l, hl, rfl⟩)))) hu.h) (kp _ _ (nr _ (by unfold sR; exact List.mem_append_right _ (List.mem_append_right _ (List.mem_map.mpr ⟨l, hl, rfl⟩)))) hu.w)
/-- the log -/
theorem SkAt.putEn (h : SkAt c z room B H o ps ul k) {vs' : List V} {lg' : List Ent} (t' : TDs H vs' (lg'.map entD)) {B' : Nat} (good : Good z room B' { k with lg := lg' }) : SkAt c z room B' (upd H o.en (.lst vs')) o ps ul { k with lg := lg' } := by
  obtain ⟨qv, gs, hC⟩ := h.cr
  obtain ⟨cm, nev, hG, h1, h2, h3, h4⟩ := h.gr
  obtain ⟨dv, hd, td⟩ := h.dn
  obtain ⟨ev, he, te⟩ := h.en
  have rn := h.rn
  simp only [List.nodup_cons, List.mem_cons, List.not_mem_nil, or_false, not_or, List.nodup_nil, and_true] at rn
  obtain ⟨⟨r1, r2, r3⟩, ⟨r4, r5⟩, r6, _⟩ := rn
  have kp : Keep [o.en] H (upd H o.en (.lst vs')) := keep_upd (Keep.refl _ _) (by simp)
  have t : TSm H (upd H o.en (.lst vs')) := ts_upd (TSm.refl _) (NoT.lst he)
  have nr : ∀ a ∈ sR o ul, a ∉ [o.en] := fun a ha z => h.apart a ha (by rw [List.mem_singleton.mp z]; simp [sM])
  refine ⟨kp _ _ (nr _ (by simp [sR])) h.ob, ⟨qv, gs, hC.else kp t fun a ha z => h.cg a ha (by rw [List.mem_singleton.mp z]; simp)⟩, h.be, ⟨cm, nev, hG.else kp (fun a ha => ?_), fun i kvs e => ⟨(h1 i kvs e).1, (h1 i kvs e).2.mono t⟩, h2, h3, h4⟩, kp _ _ (by simp [r3]) h.rd, ⟨dv, kp _ _ (by simp [r5]) hd, td.mono t⟩, kp _ _ (by simp [r6]) h.up, fun i l u e1 e2 => ?_, h.ull, ⟨vs', upd_same, t'.mono t⟩, good, h.apart, h.cg, h.gd, h.rn, h.nvd⟩
  · rcases List.mem_append.mp ha with e | e
    · simp only [List.mem_cons, List.not_mem_nil, or_false] at e
      rcases e with e | e | e
      · rw [e]; exact nr _ (by simp [sR])
      · rw [e]; exact nr _ (by simp [sR])
      · rw [e]; intro z; exact h.gd o.nv (by simp) (by rw [List.mem_singleton.mp z]; simp)
    · intro z; exact h.gd a (List.mem_append_left _ e) (by rw [List.mem_singleton.mp z]; simp)
  · have hl := List.mem_of_getElem? e1
    have hu := h.ut i l u e1 e2
    exact hu.mono t (kp _ _ (nr _ (by unfold sR; exact List.mem_append_right _ (List.mem_append_left _ (List.mem_map.mpr ⟨l, hl, rfl⟩)))) hu.h) (kp _ _ (nr _ (by unfold sR; exact List.mem_append_right _ (List.mem_append_right _ (List.mem_map.mpr ⟨l, hl, rfl⟩)))) hu.w)
/-- the road up; its letters among those that stand -/
theorem SkAt.putUp (h : SkAt c z room B H o ps ul k) {ul' : List Lt} {up' : List (List (Nat × Nat) × List (Nat × Nat))} (hl' : ul'.length = up'.length) (hu' : ∀ (i : Nat) l u, ul'[i]? = some l → up'[i]? = some u → UpAt H l u) (na : ∀ l ∈ ul', l.h ∉ sM o ps ∧ l.w ∉ sM o ps)
    {B' : Nat} (good : Good z room B' { k with up := up' }) : SkAt c z room B' (upd H o.up (.lst (ul'.map fun l => V.ref l.t))) o ps ul' { k with up := up' } := by
  obtain ⟨qv, gs, hC⟩ := h.cr
  obtain ⟨cm, nev, hG, h1, h2, h3, h4⟩ := h.gr
  obtain ⟨dv, hd, td⟩ := h.dn
  obtain ⟨ev, he, te⟩ := h.en
  have rn := h.rn
  simp only [List.nodup_cons, List.mem_cons, List.not_mem_nil, or_false, not_or, List.nodup_nil, and_true] at rn
  obtain ⟨⟨r1, r2, r3⟩, ⟨r4, r5⟩, r6, _⟩ := rn
  have kp : Keep [o.up] H (upd H o.up (.lst (ul'.map fun l => V.ref l.t))) := keep_upd (Keep.refl _ _) (by simp)
  have t : TSm H (upd H o.up (.lst (ul'.map fun l => V.ref l.t))) := ts_upd (TSm.refl _) (NoT.lst h.up)
  have nr : ∀ a ∈ sR o ul, a ∉ [o.up] := fun a ha z => h.apart a ha (by rw [List.mem_singleton.mp z]; simp [sM])
  have um : o.up ∈ sM o ps := by simp [sM]
  refine ⟨kp _ _ (nr _ (by simp [sR])) h.ob, ⟨qv, gs, hC.else kp t fun a ha z => h.cg a ha (by rw [List.mem_singleton.mp z]; simp)⟩, h.be, ⟨cm, nev, hG.else kp (fun a ha => ?_), fun i kvs e => ⟨(h1 i kvs e).1, (h1 i kvs e).2.mono t⟩, h2, h3, h4⟩, kp _ _ (by simp [r2]) h.rd, ⟨dv, kp _ _ (by simp [r4]) hd, td.mono t⟩, upd_same, fun i l u e1 e2 => ?_, hl', ⟨ev, kp _ _ (by simp [Ne.symm r6]) he, te.mono t⟩, good, fun a ha z => ?_, h.cg, h.gd, h.rn, h.nvd⟩
  · rcases List.mem_append.mp ha with e | e
    · simp only [List.mem_cons, List.not_mem_nil, or_false] at e
      rcases e with e | e | e
      · rw [e]; exact nr _ (by simp [sR])
      · rw [e]; exact nr _ (by simp [sR])
      · rw [e]; intro z; exact h.gd o.nv (by simp) (by rw [List.mem_singleton.mp z]; simp)
    · intro z; exact h.gd a (List.mem_append_left _ e) (by rw [List.mem_singleton.mp z]; simp)
  · have hm := na l (List.mem_of_getElem? e1)
    have hu := hu' i l u e1 e2
    exact hu.mono t (kp _ _ (fun z => hm.1 (by rw [List.mem_singleton.mp z]; exact um)) hu.h) (kp _ _ (fun z => hm.2 (by rw [List.mem_singleton.mp z]; exact um)) hu.w)
  · rcases List.mem_append.mp ha with e | e
    · exact h.apart a (List.mem_append_left _ e) z
    · rcases List.mem_append.mp e with e | e
      · obtain ⟨l, hl, rfl⟩ := List.mem_map.mp e
        exact (na l hl).1 z
      · obtain ⟨l, hl, rfl⟩ := List.mem_map.mp e
        exact (na l hl).2 z
end
end K20

namespace K20
open PySem PySem.Spec PyProof.Rows L2 Sky
/-! ### the deeds of a sky, in numbers -/
theorem keeps_q {room s : Nat} : ∀ {fs : List Frm} {m : Cr} {x : Nat × Frm}, x ∈ (m.keeps room s fs).q → x ∈ m.q ∨ ∃ f ∈ fs, x = (s, f)
  | [], m, x, h => .inl h
  | f :: fs, m, x, h => by
    rcases keeps_q (fs := fs) (m := m.keep room (s, f)) h with e | ⟨g, hg, e⟩
    · rcases keep_q e with e | e
      · exact .inl e
      · exact .inr ⟨f, List.mem_cons_self, e⟩
    · exact .inr ⟨g, List.mem_cons_of_mem _ hg, e⟩
theorem EntOk.step {z : Nat} {sl : List Strm} {s : Nat} {n n' : Strm} (hn : sl[s]? = some n) (hl : n.1.length ≤ n'.1.length) (hf : ∀ c, c * z + z ≤ n.1.length → frm z n'.1 (n'.2.map (·.1)) c = frm z n.1 (n.2.map (·.1)) c) {e : Ent} (h : EntOk z sl e) : EntOk z (sl.set s n') e := by
  cases e with
  | came x => exact Made.step hn hl hf h
  | never ks => exact ⟨h.1, h.2.1, fun j hj => MadeK.step hn hl (h.2.2 j hj)⟩
  | tell _ _ => exact h
  | close _ => exact h
  | sent _ => exact h
section
variable {z room B : Nat} {k : Sk}
theorem Good.grow (h : Good z room B k) {s : Nat} {n n' : Strm} (hn : k.sl[s]? = some n) (hl : n.1.length ≤ n'.1.length) (hf : ∀ c, c * z + z ≤ n.1.length → frm z n'.1 (n'.2.map (·.1)) c = frm z n.1 (n.2.map (·.1)) c)
    (lay : Lays z n'.1 n'.2) (b : n'.1.length ≤ B + 30 ∧ n'.2.length ≤ B + 30) {m' : Cr} (okm : m'.Ok room) (gl : m'.gone.length ≤ B + 30) (q : ∀ x ∈ m'.q, x ∈ k.m.q ∨ Made z (k.sl.set s n') x) {lg' : List Ent} (ll : lg'.length ≤ B + 30) :
    Good z room (B + 30) { k with m := m', sl := k.sl.set s n', lg := lg' } := by
  refine ⟨by rw [List.length_set]; exact h.four, fun x hx => ?_, fun x hx => ?_, okm, h.r60, fun x hx => ?_, fun x hx => (h.cm x hx).step hn hl hf, h.cn, fun j hj => (h.nvm j hj).step hn hl, fun e he => (h.dnm e he).step hn hl hf, fun u hu => ?_, gl, Nat.le_trans h.dl (by omega), Nat.le_trans h.ul (by omega), ll⟩
  · rcases List.mem_or_eq_of_mem_set hx with e | e
    · exact h.lay x e
    · rw [e]; exact lay
  · rcases List.mem_or_eq_of_mem_set hx with e | e
    · have := h.big x e; omega
    · rw [e]; exact b
  · rcases q x hx with e | e
    · exact (h.q x e).step hn hl hf
    · exact e
  · obtain ⟨a1, a2, a3, a4⟩ := h.upm u hu
    exact ⟨fun j hj => (a1 j hj).step hn hl, fun j hj => (a2 j hj).step hn hl, a3, a4⟩
/-- the craft alone -/
theorem Good.craft (h : Good z room B k) {m' : Cr} (okm : m'.Ok room) (gl : m'.gone.length ≤ B) (q : ∀ x ∈ m'.q, x ∈ k.m.q) : Good z room B { k with m := m' } :=
  ⟨h.four, h.lay, h.big, okm, h.r60, fun x hx => h.q x (q x hx), h.cm, h.cn, h.nvm, h.dnm, h.upm, gl, h.dl, h.ul, h.ll⟩
theorem Good.log (h : Good z room B k) {lg' : List Ent} (ll : lg'.length ≤ B + 30) : Good z room (B + 30) { k with lg := lg' } :=
  ⟨h.four, h.lay, fun n hn => ⟨Nat.le_trans (h.big n hn).1 (by omega), Nat.le_trans (h.big n hn).2 (by omega)⟩, h.okm, h.r60, h.q, h.cm, h.cn, h.nvm, h.dnm, h.upm, Nat.le_trans h.gl (by omega), Nat.le_trans h.dl (by omega), Nat.le_trans h.ul (by omega), ll⟩
theorem Good.down (h : Good z room B k) {dn' : List Ent} (hd : ∀ e ∈ dn', EntOk z k.sl e) (dl : dn'.length ≤ B + 30) : Good z room (B + 30) { k with dn := dn' } :=
  ⟨h.four, h.lay, fun n hn => ⟨Nat.le_trans (h.big n hn).1 (by omega), Nat.le_trans (h.big n hn).2 (by omega)⟩, h.okm, h.r60, h.q, h.cm, h.cn, h.nvm, hd, h.upm, Nat.le_trans h.gl (by omega), dl, Nat.le_trans h.ul (by omega), Nat.le_trans h.ll (by omega)⟩
theorem Good.ups (h : Good z room B k) {up' : List (List (Nat × Nat) × List (Nat × Nat))} (hu : ∀ u ∈ up', (∀ j ∈ u.1, MadeK z k.sl j) ∧ (∀ j ∈ u.2, MadeK z k.sl j) ∧ u.1.length ≤ 100000 ∧ u.2.length ≤ 100000) (ul : up'.length ≤ B + 30) : Good z room (B + 30) { k with up := up' } :=
  ⟨h.four, h.lay, fun n hn => ⟨Nat.le_trans (h.big n hn).1 (by omega), Nat.le_trans (h.big n hn).2 (by omega)⟩, h.okm, h.r60, h.q, h.cm, h.cn, h.nvm, h.dnm, hu, Nat.le_trans h.gl (by omega), Nat.le_trans h.dl (by omega), ul, Nat.le_trans h.ll (by omega)⟩
end
def Sk.tell (z room : Nat) (k : Sk) (s : Nat) (n : Strm) (t : List Int) : Sk := { k with m := k.m.keeps room s (tFrames z (sS n) t), sl := k.sl.set s (lays1' n t), lg := k.lg ++ [.tell s t] }
def Sk.close (z room : Nat) (k : Sk) (s : Nat) (n : Strm) : Sk := { k with m := k.m.keep room (s, clFrame z (sS n)), sl := k.sl.set s (padS z n), lg := k.lg ++ [.close s] }
theorem ns_tell (z room : Nat) (k : Sk) (s : Nat) (n : Strm) (t : List Int) : (k.tell z room s n t).ns = k.ns.set s (lay1 (sS n) t) := by
  show (k.sl.set s (lays1' n t)).map sS = _
  rw [List.map_set, sS_lays1]
  rfl
theorem ns_close (z room : Nat) (k : Sk) (s : Nat) (n : Strm) : (k.close z room s n).ns = k.ns.set s (padN z (sS n).1, (sS n).2) := by
  show (k.sl.set s (padS z n)).map sS = _
  rw [List.map_set, sS_pad]
  rfl
theorem ns_at {k : Sk} {s : Nat} {n : Strm} (h : k.sl[s]? = some n) : k.ns[s]? = some (sS n) := by
  show (k.sl.map sS)[s]? = _
  rw [List.getElem?_map, h]
  rfl
theorem Good.tell {z room B : Nat} {k : Sk} (h : Good z room B k) (hB : B ≤ 50000) {s : Nat} {n : Strm} {t : List Int} (hn : k.sl[s]? = some n) (ht : tellOk t) (okm : (k.m.keeps room s (tFrames z (sS n) t)).Ok room) (gl : (k.m.keeps room s (tFrames z (sS n) t)).gone.length ≤ k.m.gone.length + 23) : Good z room (B + 30) (k.tell z room s n t) := by
  have hm := List.mem_of_getElem? hn
  have hb := h.big n hm
  have hg := h.gl
  have hll := h.ll
  have := ht.2.1
  refine h.grow hn (by rw [lays1_len]; omega) (fun c hc => frm_lays1 hc) (Lays.lay (h.lay n hm) ht (by omega)) ⟨by rw [lays1_len]; omega, ?_⟩ okm (by omega) (fun x hx => ?_) ?_
  · show (n.2 ++ _).length ≤ _
    rw [List.length_append, List.length_singleton]; omega
  · rcases keeps_q hx with e | ⟨f, hf, e⟩
    · exact .inl e
    · rw [e]; exact .inr (tFrames_made hn hf)
  · rw [List.length_append, List.length_singleton]; omega
theorem Good.close {z room B : Nat} {k : Sk} (h : Good z room B k) (hz : 0 < z) (hz24 : z ≤ 24) {s : Nat} {n : Strm} (hn : k.sl[s]? = some n) (e : n.1.length % z ≠ 0) (okm : (k.m.keep room (s, clFrame z (sS n))).Ok room) : Good z room (B + 30) (k.close z room s n) := by
  have hm := List.mem_of_getElem? hn
  have hb := h.big n hm
  have hg := h.gl
  have hll := h.ll
  have hk := keep_gone room k.m (s, clFrame z (sS n))
  have hp := pad_grow z n
  refine h.grow hn hp.1 (fun c hc => frm_padS hc) ((h.lay n hm).pad hz) ⟨by have := hp.2 hz; omega, ?_⟩ okm (by omega) (fun x hx => ?_) ?_
  · show n.2.length ≤ _; omega
  · rcases keep_q hx with e2 | e2
    · exact .inl e2
    · rw [e2]; exact .inr (clFrame_made hz hn e)
  · rw [List.length_append, List.length_singleton]; omega
end K20

namespace K20
open PySem PySem.Spec PyProof.Rows L2 Sky
def Sk.beat (k : Sk) (x : Nat × Frm) : Sk := { k with m := k.m.sends (mkOf x), dn := k.dn ++ [.came x], lg := k.lg ++ [.sent x] }
theorem Good.beat {z room B : Nat} {k : Sk} (h : Good z room B k) {x : Nat × Frm} (hx : x ∈ k.m.q) (okm : (k.m.sends (mkOf x)).Ok room) : Good z room (B + 30) (k.beat x) := by
  have h1 := (h.craft okm h.gl (fun y hy => hy)).log (lg' := k.lg ++ [.sent x]) (by have := h.ll; rw [List.length_append, List.length_singleton]; omega)
  exact ⟨h1.four, h1.lay, h1.big, h1.okm, h1.r60, h1.q, h1.cm, h1.cn, h1.nvm, fun e he => by
    rcases List.mem_append.mp he with z1 | z1
    · exact h.dnm e z1
    · rw [List.mem_singleton.mp z1]; exact h.q x hx, h1.upm, h1.gl, by show (k.dn ++ _).length ≤ _; have := h.dl; rw [List.length_append, List.length_singleton]; omega, h1.ul, h1.ll⟩
/-- what the ground has, wants -/
def Sk.has (k : Sk) : List (Nat × Nat) := HL (k.cf.map mkOf)
def Sk.wants (k : Sk) : List (Nat × Nat) := (List.range 4).flatMap fun i => (wantL (cssOf (k.cf.map mkOf) i) (fun c => decide ((i, c) ∈ k.nv)) (topN (cssOf (k.cf.map mkOf) i))).map fun c => (i, c)
theorem wants_data (k : Sk) : k.wants.map mD2 = (List.range 4).flatMap fun i => (wantL (cssOf (k.cf.map mkOf) i) (fun c => decide ((i, c) ∈ k.nv)) (topN (cssOf (k.cf.map mkOf) i))).map (mkD i) := by
  unfold Sk.wants
  rw [List.map_flatMap]
  congr 1
  funext i
  rw [List.map_map]
  rfl
def Sk.ask (k : Sk) : Sk := { k with up := k.up ++ [(k.has, k.wants)] }
section
variable {z room B : Nat} {k : Sk}
theorem Good.smallC (hz : 8 ≤ z) (h : Good z room B k) (hB : B ≤ 60000) : ∀ j ∈ k.cf.map mkOf, j.1 < 4 ∧ j.2 < 10000 := by
  intro j hj
  obtain ⟨x, hx, rfl⟩ := List.mem_map.mp hj
  have := MadeK.small hz h hB (h.cm x hx).k
  omega
theorem Good.has_made (hz : 8 ≤ z) (h : Good z room B k) (hB : B ≤ 60000) : ∀ j ∈ k.has, MadeK z k.sl j := by
  intro j hj
  have := (mem_HL (h.smallC hz hB) j).mp hj
  obtain ⟨x, hx, rfl⟩ := List.mem_map.mp this
  exact (h.cm x hx).k
theorem Good.top_le (hz : 8 ≤ z) (h : Good z room B k) (hB : B ≤ 60000) (i : Nat) : topN (cssOf (k.cf.map mkOf) i) ≤ 10000 := by
  by_cases e : cssOf (k.cf.map mkOf) i = []
  · rw [e]; exact Nat.zero_le _
  · have := (h.smallC hz hB _ (mem_css.mp (top_mem e))).2
    show topN (cssOf (k.cf.map mkOf) i) ≤ _
    omega
theorem Good.wants_made (h : Good z room B k) : ∀ j ∈ k.wants, MadeK z k.sl j := by
  intro j hj
  unfold Sk.wants at hj
  obtain ⟨i, hi, hj⟩ := List.mem_flatMap.mp hj
  obtain ⟨c, hc, rfl⟩ := List.mem_map.mp hj
  have hlt : c < topN (cssOf (k.cf.map mkOf) i) := List.mem_range.mp (List.mem_filter.mp hc).1
  have hne : cssOf (k.cf.map mkOf) i ≠ [] := fun e => by rw [e] at hlt; exact absurd hlt (Nat.not_lt_zero _)
  obtain ⟨x, hx, e⟩ := List.mem_map.mp (mem_css.mp (top_mem hne))
  obtain ⟨n, h1, h2⟩ := (h.cm x hx).k
  rw [e] at h1 h2
  refine ⟨n, h1, ?_⟩
  have h3 := Nat.mul_le_mul_right z (Nat.le_of_lt hlt)
  show c * z + z ≤ _
  exact Nat.le_trans (Nat.add_le_add_right h3 z) h2
theorem Good.has_len (k : Sk) : k.has.length ≤ 40000 := by
  unfold Sk.has HL
  have : ∀ n : Nat, ((List.range n).flatMap fun i => (ssOf (k.cf.map mkOf) i).map fun c => (i, c)).length ≤ n * 10000 := by
    intro n
    induction n with
    | zero => simp
    | succ n ih =>
      rw [List.range_succ, List.flatMap_append, List.length_append]
      have h2 := ss_len (k.cf.map mkOf) n
      have e : ([n].flatMap fun i => (ssOf (k.cf.map mkOf) i).map fun c => (i, c)).length = (ssOf (k.cf.map mkOf) n).length := by simp
      omega
  exact this 4
theorem Good.wants_len (hz : 8 ≤ z) (h : Good z room B k) (hB : B ≤ 60000) : k.wants.length ≤ 40000 := by
  unfold Sk.wants
  have : ∀ n : Nat, ((List.range n).flatMap fun i => (wantL (cssOf (k.cf.map mkOf) i) (fun c => decide ((i, c) ∈ k.nv)) (topN (cssOf (k.cf.map mkOf) i))).map fun c => (i, c)).length ≤ n * 10000 := by
    intro n
    induction n with
    | zero => simp
    | succ n ih =>
      rw [List.range_succ, List.flatMap_append, List.length_append]
      have h1 := want_len (cssOf (k.cf.map mkOf) n) (fun c => decide ((n, c) ∈ k.nv)) (topN (cssOf (k.cf.map mkOf) n))
      have h2 := h.top_le hz hB n
      have e : ([n].flatMap fun i => (wantL (cssOf (k.cf.map mkOf) i) (fun c => decide ((i, c) ∈ k.nv)) (topN (cssOf (k.cf.map mkOf) i))).map fun c => (i, c)).length = (wantL (cssOf (k.cf.map mkOf) n) (fun c => decide ((n, c) ∈ k.nv)) (topN (cssOf (k.cf.map mkOf) n))).length := by simp
      omega
  exact this 4
theorem Good.ask (hz : 8 ≤ z) (h : Good z room B k) (hB : B ≤ 60000) : Good z room (B + 30) k.ask := by
  refine h.ups (fun u hu => ?_) (by have := h.ul; rw [List.length_append, List.length_singleton]; omega)
  rcases List.mem_append.mp hu with e | e
  · exact h.upm u e
  · rw [List.mem_singleton.mp e]
    exact ⟨h.has_made hz hB, h.wants_made, Nat.le_trans (Good.has_len k) (by decide), Nat.le_trans (h.wants_len hz hB) (by decide)⟩
end
end K20
namespace K20
open PySem PySem.Spec PyProof.Rows L2 Sky
def Sk.lose (k : Sk) (u : Bool) (j : Nat) : Sk := if u then { k with up := k.up.eraseIdx j } else { k with dn := k.dn.eraseIdx j }
def Sk.hearD (k : Sk) : Ent → Sk
  | .came x => { k with cf := if mkOf x ∈ k.cf.map mkOf then k.cf else k.cf ++ [x], lg := k.lg ++ [.came x] }
  | .never ks => { k with nv := k.nv ++ ks, lg := k.lg ++ [.never ks] }
  | _ => k
def Cr.others (m : Cr) (ks : List (Nat × Nat)) : List (Nat × Nat) := ks.filter fun k => !decide (k ∈ m.marks)
def Sk.hearU (k : Sk) (u : List (Nat × Nat) × List (Nat × Nat)) : Sk := { k with m := (k.m.knows u.1).agains u.2, dn := if (k.m.knows u.1).others u.2 = [] then k.dn else k.dn ++ [.never ((k.m.knows u.1).others u.2)] }
def Sk.hear (k : Sk) (u : Bool) (j : Nat) : Sk := if u then (match k.up[j]? with | some x => k.hearU x | none => k) else (match k.dn[j]? with | some e => k.hearD e | none => k)
theorem knows_q (ks : List (Nat × Nat)) (m : Cr) : (∀ x ∈ (m.knows ks).q, x ∈ m.q) ∧ (m.knows ks).gone = m.gone ∧ (m.knows ks).win = m.win := by
  unfold Cr.knows
  induction ks generalizing m with
  | nil => exact ⟨fun x h => h, rfl, rfl⟩
  | cons k ks ih =>
    rw [List.foldl_cons]
    split
    · obtain ⟨h1, h2, h3⟩ := ih (m.letGo k)
      exact ⟨fun x hx => (List.mem_filter.mp (h1 x hx)).1, h2, h3⟩
    · exact ih m
section
variable {z room B : Nat} {k : Sk}
theorem Good.lose (h : Good z room B k) (u : Bool) (j : Nat) : Good z room B (k.lose u j) := by
  unfold Sk.lose
  cases u with
  | true =>
    exact ⟨h.four, h.lay, h.big, h.okm, h.r60, h.q, h.cm, h.cn, h.nvm, h.dnm, fun x hx => h.upm x (List.mem_of_mem_eraseIdx hx), h.gl, h.dl, Nat.le_trans (List.length_eraseIdx_le _ _) h.ul, h.ll⟩
  | false =>
    exact ⟨h.four, h.lay, h.big, h.okm, h.r60, h.q, h.cm, h.cn, h.nvm, fun x hx => h.dnm x (List.mem_of_mem_eraseIdx hx), h.upm, h.gl, Nat.le_trans (List.length_eraseIdx_le _ _) h.dl, h.ul, h.ll⟩
theorem Good.hearD (h : Good z room B k) {e : Ent} (he : EntOk z k.sl e) : Good z room (B + 30) (k.hearD e) := by
  cases e with
  | came x =>
    have h1 := h.log (lg' := k.lg ++ [.came x]) (by have := h.ll; rw [List.length_append, List.length_singleton]; omega)
    refine ⟨h1.four, h1.lay, h1.big, h1.okm, h1.r60, h1.q, fun y hy => ?_, ?_, h1.nvm, h1.dnm, h1.upm, h1.gl, h1.dl, h1.ul, h1.ll⟩
    · have hy : y ∈ (if mkOf x ∈ k.cf.map mkOf then k.cf else k.cf ++ [x]) := hy
      split at hy
      · exact h.cm y hy
      · rcases List.mem_append.mp hy with z1 | z1
        · exact h.cm y z1
        · rw [List.mem_singleton.mp z1]; exact he
    · show ((if mkOf x ∈ k.cf.map mkOf then k.cf else k.cf ++ [x]).map mkOf).Nodup
      split
      · exact h.cn
      · rename_i hn
        rw [List.map_append, List.nodup_append]
        refine ⟨h.cn, by simp, fun a ha b hb => ?_⟩
        rw [show b = mkOf x by simpa using hb]
        exact fun z1 => hn (by rw [← z1]; exact ha)
  | never ks =>
    have h1 := h.log (lg' := k.lg ++ [.never ks]) (by have := h.ll; rw [List.length_append, List.length_singleton]; omega)
    refine ⟨h1.four, h1.lay, h1.big, h1.okm, h1.r60, h1.q, h1.cm, h1.cn, fun j hj => ?_, h1.dnm, h1.upm, h1.gl, h1.dl, h1.ul, h1.ll⟩
    rcases List.mem_append.mp hj with z1 | z1
    · exact h.nvm j z1
    · exact he.2.2 j z1
  | tell _ _ => exact he.elim
  | close _ => exact he.elim
  | sent _ => exact he.elim
theorem Good.hearC (h : Good z room B k) (u : List (Nat × Nat) × List (Nat × Nat)) : Good z room B { k with m := (k.m.knows u.1).agains u.2 } := by
  obtain ⟨h1, h2, h3⟩ := knows_q u.1 k.m
  obtain ⟨g1, g2, g3, g4⟩ := agains_q u.2 (k.m.knows u.1)
  exact h.craft ((h.okm.knows u.1).agains u.2) (by rw [g3, h2]; exact h.gl) (fun x hx => h1 x (by rw [← g1]; exact hx))
theorem Good.hearU (h : Good z room B k) {u : List (Nat × Nat) × List (Nat × Nat)} (hu : (∀ j ∈ u.1, MadeK z k.sl j) ∧ (∀ j ∈ u.2, MadeK z k.sl j) ∧ u.1.length ≤ 100000 ∧ u.2.length ≤ 100000) : Good z room (B + 30) (k.hearU u) := by
  refine (h.hearC u).down (fun e he => ?_) ?_
  · have he : e ∈ (if (k.m.knows u.1).others u.2 = [] then k.dn else k.dn ++ [.never ((k.m.knows u.1).others u.2)]) := he
    split at he
    · exact h.dnm e he
    · rename_i hn
      rcases List.mem_append.mp he with z1 | z1
      · exact h.dnm e z1
      · rw [List.mem_singleton.mp z1]
        exact ⟨hn, Nat.le_trans (List.length_filter_le _ _) hu.2.2.2, fun j hj => hu.2.1 j (List.mem_filter.mp hj).1⟩
  · have := h.dl
    show (if (k.m.knows u.1).others u.2 = [] then k.dn else k.dn ++ [.never ((k.m.knows u.1).others u.2)]).length ≤ _
    split
    · omega
    · rw [List.length_append, List.length_singleton]; omega
end
end K20

namespace K20
open PySem PySem.Spec PyProof.Rows L2 Sky
/-- from one state of a sky to another -/
structure SkTo (M R M' R' : List Addr) (H H' : Hp) : Prop where
  m : ∀ a ∈ M', a ∈ M ∨ H a = none
  r : ∀ a ∈ R', a ∈ R ∨ H a = none
  kp : Keep M H H'
  d : Dom H H'
theorem SkTo.refl (M R : List Addr) (H : Hp) : SkTo M R M R H H := ⟨fun _ h => .inl h, fun _ h => .inl h, Keep.refl _ _, Dom.refl _⟩
theorem SkTo.of_same {M R : List Addr} {H H' : Hp} (s : Same H H') : SkTo M R M R H H' := ⟨fun _ h => .inl h, fun _ h => .inl h, Keep.of_same s, Dom.of_same s⟩
theorem SkTo.trans {M R M1 R1 M2 R2 : List Addr} {H H1 H2 : Hp} (a : SkTo M R M1 R1 H H1) (b : SkTo M1 R1 M2 R2 H1 H2) : SkTo M R M2 R2 H H2 := by
  refine ⟨fun x hx => ?_, fun x hx => ?_, Keep.join a.kp b.kp a.m, a.d.trans b.d⟩
  · rcases b.m x hx with e | e
    · exact a.m x e
    · exact .inr (a.d x e)
  · rcases b.r x hx with e | e
    · exact a.r x e
    · exact .inr (a.d x e)
def SkI (c : Cl) (z room B : Nat) (H : Hp) (o : So) (M R : List Addr) (k : Sk) : Prop := ∃ ps ul, SkAt c z room B H o ps ul k ∧ M = sM o ps ∧ R = sR o ul
theorem SkI.same {c : Cl} {z room B : Nat} {H H' : Hp} {o : So} {M R : List Addr} {k : Sk} (h : SkI c z room B H o M R k) (s : Same H H') : SkI c z room B H' o M R k := by
  obtain ⟨ps, ul, h, e1, e2⟩ := h
  exact ⟨ps, ul, h.same s, e1, e2⟩
theorem SkI.else {c : Cl} {z room B : Nat} {H H' : Hp} {o : So} {M R : List Addr} {k : Sk} (h : SkI c z room B H o M R k) {N : List Addr} (kp : Keep N H H') (t : TSm H H') (n : ∀ a ∈ M ++ R, a ∉ N) : SkI c z room B H' o M R k := by
  obtain ⟨ps, ul, h, e1, e2⟩ := h
  subst e1 e2
  exact ⟨ps, ul, h.else kp t n, rfl, rfl⟩
theorem SkI.fresh {c : Cl} {z room B : Nat} {H : Hp} {o : So} {M R : List Addr} {k : Sk} (h : SkI c z room B H o M R k) {a : Addr} (n : H a = none) : a ∉ M ++ R := by
  obtain ⟨ps, ul, h, e1, e2⟩ := h
  subst e1 e2
  exact h.fresh n
theorem SkI.noT {c : Cl} {z room B : Nat} {H : Hp} {o : So} {M R : List Addr} {k : Sk} (h : SkI c z room B H o M R k) : ∀ a ∈ M, NoT H a := by
  obtain ⟨ps, ul, h, e1, e2⟩ := h
  subst e1 e2
  exact h.noT
theorem SkI.good {c : Cl} {z room B : Nat} {H : Hp} {o : So} {M R : List Addr} {k : Sk} (h : SkI c z room B H o M R k) : Good z room B k := by
  obtain ⟨ps, ul, h, e1, e2⟩ := h
  exact h.good
theorem SkI.obj {c : Cl} {z room B : Nat} {H : Hp} {o : So} {M R : List Addr} {k : Sk} (h : SkI c z room B H o M R k) : H o.s = some (.ins c.S o.dx (sf o)) := by
  obtain ⟨ps, ul, h, e1, e2⟩ := h
  exact h.ob
theorem SkAt.more {c : Cl} {z room B B' : Nat} {H : Hp} {o : So} {ps : List (Addr × Addr × Addr)} {ul : List Lt} {k : Sk} (h : SkAt c z room B H o ps ul k) (b : B ≤ B') : SkAt c z room B' H o ps ul k := ⟨h.ob, h.cr, h.be, h.gr, h.rd, h.dn, h.up, h.ut, h.ull, h.en, h.good.more b, h.apart, h.cg, h.gd, h.rn, h.nvd⟩
theorem SkI.more {c : Cl} {z room B B' : Nat} {H : Hp} {o : So} {M R : List Addr} {k : Sk} (h : SkI c z room B H o M R k) (b : B ≤ B') : SkI c z room B' H o M R k := by
  obtain ⟨ps, ul, h, e1, e2⟩ := h
  exact ⟨ps, ul, h.more b, e1, e2⟩
section
variable {P : Program} {w : World} {K : PySem.W.Frag} {mg : Str → Option Value} {base : Heap}
def clT (T : Tx K mg) : Cl := ⟨T.A_Sky, T.A_Craft, T.A_Laying, T.A_Ground⟩
/-! ### _tell -/
def sk_tell (c : Cl) : Sp := fun vs H Q _ => ∃ (o : So) (z room B : Nat) (M R : List Addr) (k : Sk) (s : Nat) (n : Strm) (a : Addr) (t : List Int), vs = [.ref o.s, .int ((s : Nat) : Int), .ref a] ∧ SkI c z room B H o M R k ∧ k.sl[s]? = some n ∧ H a = some (.tup (t.map V.int)) ∧ tellOk t ∧ 8 ≤ z ∧ z ≤ 24 ∧ B ≤ 50000 ∧
  ∀ H' M' R', SkI c z room (B + 30) H' o M' R' (k.tell z room s n t) → SkTo M R M' R' H H' → Q (.int ((n.2.length : Nat) : Int)) H'
theorem ok_Sky_tell (T : Tx K mg) : FnOk P w K mg base CX0 6 T.a_Sky_tell T.d_Sky_tell ["self", "stream", "telling"] (sk_tell (clT T)) := by
  have nd := sc_Sky_tell.nd
  refine T.F_Sky_tell.ok sc_Sky_tell (fun vs H Q E h => ?_) (fun cdv A0 outer s0 H vs Q E hr h => ?_)
  · obtain ⟨_, _, _, _, _, _, _, _, _, _, _, rfl, _⟩ := h
    rfl
  · obtain ⟨o, z, room, B, M, R, k, s, n, a, t, rfl, ⟨ps, ul, hS, rfl, rfl⟩, hn, ha, ht, hz8, hz24, hB, fin⟩ := h
    obtain ⟨qv, gs, hC⟩ := hS.cr
    have hg := hS.good.gl
    refine ⟨_, (pss_cons (ps_set (i := 3) nd rfl (Or.inl rfl) (pe_meth (pe_fld (pv 0) rfl) T.cl_Craft T.M_Craft_tell (ok_Craft_tell T) (hr.mono (by decide)) T.b_Craft_tell .nil pass0 (pa_cons (pv 1) (pa_cons (pv 2) pa_nil)))) (pss_cons (ps_expr (pe_bm PySem.F.plainAttrs_list PySem.F.slot_list_append PySem.F.type_list_append mt_append (pe_fld (pv 0) rfl) (pa_cons (pe_tup (pa_cons pe_str (pa_cons (pv 1) (pa_cons (pv 2) pa_nil)))) pa_nil))) (pss_one (ps_ret (pv 3))))), ?_⟩
    refine ⟨_, rfl, o.s, _, o.dx, _, _, rfl, hS.ob, T.cl_Sky, T.n_Sky_craft, sf_craft, o.A.c, o.A.dx, _, rfl, hC.o, cf_no (by decide), _, rfl, _, rfl, o.A, ps, room, z, k.ns, k.m, qv, gs, s, sS n, a, t, rfl, hC, hS.be, ns_at hn, ha, ht, hz8, hz24, by omega, fun H1 ps' qv' gs' hC1 hB1 hg1 hcm1 k1 d1 => ?_⟩
    have good1 := hS.good.tell hB hn ht hC1.ok hg1
    have ens : ({ k with m := k.m.keeps room s (tFrames z (sS n) t), sl := k.sl.set s (lays1' n t) } : Sk).ns = k.ns.set s (lay1 (sS n) t) := ns_tell z room k s n t
    have hS1 : SkAt (clT T) z room (B + 30) H1 o ps' ul { k with m := k.m.keeps room s (tFrames z (sS n) t), sl := k.sl.set s (lays1' n t) } := by
      refine hS.craft (k' := { k with m := k.m.keeps room s (tFrames z (sS n) t), sl := k.sl.set s (lays1' n t) }) k1 (by rw [ens]; exact hC1) (by rw [ens]; exact hB1) hcm1 rfl rfl rfl rfl rfl ?_
      exact ⟨good1.four, good1.lay, good1.big, good1.okm, good1.r60, good1.q, good1.cm, good1.cn, good1.nvm, good1.dnm, good1.upm, good1.gl, good1.dl, good1.ul, Nat.le_trans hS.good.ll (by omega)⟩
    have ha1 : H1 a = some (.tup (t.map V.int)) := (k1.ts fun x hx => (hC.noT x hx).1) _ _ ha
    obtain ⟨ev, he, te⟩ := hS1.en
    have hevl : ev.length = k.lg.length := by rw [te.length, List.length_map]
    have hll := hS.good.ll
    refine ⟨_, rfl, o.s, _, o.dx, _, _, rfl, hS1.ob, T.cl_Sky, T.n_Sky_entries, sf_entries, .inl ⟨rfl, _, SqL.of he⟩, _, rfl, _, rfl, (by decide : (3 : Nat) ≤ sizeLine), fun p hp => ?_⟩
    have s2 := same_new (Same.refl H1) hp (o := .tup [.str "tell", .int ((s : Nat) : Int), .ref a])
    have hS2 := hS1.same s2
    have he2 := s2 _ _ he
    have tp : TD (upd H1 p (.tup [.str "tell", .int ((s : Nat) : Int), .ref a])) (.ref p) (entD (.tell s t)) := .tup upd_same (.cons (.str _) (.cons (.int _) (.cons (TD.tl (s2 _ _ ha1)) .nil)))
    have te2 := te.mono (TSm.of_same s2)
    have d2 : Dom H1 (upd H1 p (.tup [.str "tell", .int ((s : Nat) : Int), .ref a])) := Dom.of_same s2
    generalize upd H1 p (.tup [.str "tell", .int ((s : Nat) : Int), .ref a]) = H2 at *
    refine ⟨o.en, ev, _, rfl, rfl, he2, lt_line (by omega), ?_⟩
    have hS3 := hS2.putEn (vs' := ev ++ [.ref p]) (lg' := k.lg ++ [.tell s t]) (by rw [List.map_append]; exact te2.app (.one tp)) good1
    refine ⟨_, rfl, ?_⟩
    rw [show (sS n).2.length = n.2.length from List.length_map _]
    refine fin _ _ _ ⟨ps', ul, hS3, rfl, rfl⟩ ⟨fun x hx => ?_, fun x hx => .inl hx, ?_, (d1.trans d2).upd _ _⟩
    · rcases List.mem_append.mp hx with e | e
      · rcases hcm1 x e with e | e
        · exact .inl (List.mem_append_left _ e)
        · exact .inr e
      · exact .inl (List.mem_append_right _ e)
    · exact keep_upd ((k1.mono fun x hx => List.mem_append_left _ hx).trans (Keep.of_same s2)) (by simp [sM])
/-! ### _close -/
def sk_close (c : Cl) : Sp := fun vs H Q _ => ∃ (o : So) (z room B : Nat) (M R : List Addr) (k : Sk) (s : Nat) (n : Strm), vs = [.ref o.s, .int ((s : Nat) : Int)] ∧ SkI c z room B H o M R k ∧ k.sl[s]? = some n ∧ 8 ≤ z ∧ z ≤ 24 ∧ B ≤ 50000 ∧
  (n.1.length % z = 0 → ∀ H', Same H H' → Q (.bl false) H') ∧
  (n.1.length % z ≠ 0 → ∀ H' M' R', SkI c z room (B + 30) H' o M' R' (k.close z room s n) → SkTo M R M' R' H H' → Q (.bl true) H')
theorem ok_Sky_close (T : Tx K mg) : FnOk P w K mg base CX0 5 T.a_Sky_close T.d_Sky_close ["self", "stream"] (sk_close (clT T)) := by
  have nd := sc_Sky_close.nd
  refine T.F_Sky_close.ok sc_Sky_close (fun vs H Q E h => ?_) (fun cdv A0 outer s0 H vs Q E hr h => ?_)
  · obtain ⟨_, _, _, _, _, _, _, _, _, rfl, _⟩ := h
    rfl
  · obtain ⟨o, z, room, B, M, R, k, s, n, rfl, ⟨ps, ul, hS, rfl, rfl⟩, hn, hz8, hz24, hB, no, yes⟩ := h
    obtain ⟨qv, gs, hC⟩ := hS.cr
    have hg := hS.good.gl
    refine ⟨_, (pss_cons (ps_set (i := 2) nd rfl (Or.inl rfl) (pe_meth (pe_fld (pv 0) rfl) T.cl_Craft T.M_Craft_close (ok_Craft_close T) (hr.mono (by decide)) T.b_Craft_close .nil pass0 (pa_cons (pv 1) pa_nil))) (pss_cons (ps_if (pt_truth (pv 2) (by intro _; rfl)) (pss_one (ps_expr (pe_bm PySem.F.plainAttrs_list PySem.F.slot_list_append PySem.F.type_list_append mt_append (pe_fld (pv 0) rfl) (pa_cons (pe_tup (pa_cons pe_str (pa_cons (pv 1) pa_nil))) pa_nil)))) pss_nil) (pss_one (ps_ret (pv 2))))), ?_⟩
    refine ⟨_, rfl, o.s, _, o.dx, _, _, rfl, hS.ob, T.cl_Sky, T.n_Sky_craft, sf_craft, o.A.c, o.A.dx, _, rfl, hC.o, cf_no (by decide), _, rfl, o.A, ps, room, z, k.ns, k.m, qv, gs, s, sS n, rfl, hC, hS.be, ns_at hn, hz8, hz24, by omega, fun e H1 s1 => ?_, fun e H1 ps' qv' gs' hC1 hB1 hcm1 k1 d1 => ?_⟩
    · refine ⟨_, rfl, false, rfl, iteF ⟨_, rfl, no e H1 s1⟩⟩
    have good1 := hS.good.close (by omega) hz24 hn e hC1.ok
    have ens : ({ k with m := k.m.keep room (s, clFrame z (sS n)), sl := k.sl.set s (padS z n) } : Sk).ns = k.ns.set s (padN z (sS n).1, (sS n).2) := ns_close z room k s n
    have hS1 : SkAt (clT T) z room (B + 30) H1 o ps' ul { k with m := k.m.keep room (s, clFrame z (sS n)), sl := k.sl.set s (padS z n) } := by
      refine hS.craft (k' := { k with m := k.m.keep room (s, clFrame z (sS n)), sl := k.sl.set s (padS z n) }) k1 (by rw [ens]; exact hC1) (by rw [ens]; exact hB1) hcm1 rfl rfl rfl rfl rfl ?_
      exact ⟨good1.four, good1.lay, good1.big, good1.okm, good1.r60, good1.q, good1.cm, good1.cn, good1.nvm, good1.dnm, good1.upm, good1.gl, good1.dl, good1.ul, Nat.le_trans hS.good.ll (by omega)⟩
    obtain ⟨ev, he, te⟩ := hS1.en
    have hevl : ev.length = k.lg.length := by rw [te.length, List.length_map]
    have hll := hS.good.ll
    refine ⟨_, rfl, true, rfl, iteT ?_⟩
    refine ⟨_, rfl, o.s, _, o.dx, _, _, rfl, hS1.ob, T.cl_Sky, T.n_Sky_entries, sf_entries, .inl ⟨rfl, _, SqL.of he⟩, _, rfl, (by decide : (2 : Nat) ≤ sizeLine), fun p hp => ?_⟩
    have s2 := same_new (Same.refl H1) hp (o := .tup [.str "close", .int ((s : Nat) : Int)])
    have hS2 := hS1.same s2
    have he2 := s2 _ _ he
    have tp : TD (upd H1 p (.tup [.str "close", .int ((s : Nat) : Int)])) (.ref p) (entD (.close s)) := .tup upd_same (.cons (.str _) (.cons (.int _) .nil))
    have te2 := te.mono (TSm.of_same s2)
    have d2 : Dom H1 (upd H1 p (.tup [.str "close", .int ((s : Nat) : Int)])) := Dom.of_same s2
    generalize upd H1 p (.tup [.str "close", .int ((s : Nat) : Int)]) = H2 at *
    refine ⟨o.en, ev, _, rfl, rfl, he2, lt_line (by omega), ?_⟩
    have hS3 := hS2.putEn (vs' := ev ++ [.ref p]) (lg' := k.lg ++ [.close s]) (by rw [List.map_append]; exact te2.app (.one tp)) good1
    refine ⟨_, rfl, yes e _ _ _ ⟨ps', ul, hS3, rfl, rfl⟩ ⟨fun x hx => ?_, fun x hx => .inl hx, ?_, (d1.trans d2).upd _ _⟩⟩
    · rcases List.mem_append.mp hx with e | e
      · rcases hcm1 x e with e | e
        · exact .inl (List.mem_append_left _ e)
        · exact .inr e
      · exact .inl (List.mem_append_right _ e)
    · exact keep_upd ((k1.mono fun x hx => List.mem_append_left _ hx).trans (Keep.of_same s2)) (by simp [sM])
end
end K20

namespace K20
open PySem PySem.Spec PyProof.Rows L2 Sky
theorem rd_down (o : So) : valV (rdD o) (Sum.inr "down") = some (.ref o.dn) := valV_pos rfl
theorem down_up : ((Sum.inr "down" : Key)) ≠ (Sum.inr "up" : Key) := by decide
theorem rd_up (o : So) : valV (rdD o) (Sum.inr "up") = some (.ref o.up) := by
  unfold rdD
  rw [valV_neg down_up]
  exact valV_pos rfl
theorem DGet.down {H : Hp} {o : So} (h : H o.rd = some (.dK (rdD o))) : DGet H o.rd (.str "down") (some (.ref o.dn)) := by
  rw [← rd_down o]
  exact DGet.k (k := Sum.inr "down") h
theorem DGet.upw {H : Hp} {o : So} (h : H o.rd = some (.dK (rdD o))) : DGet H o.rd (.str "up") (some (.ref o.up)) := by
  rw [← rd_up o]
  exact DGet.k (k := Sum.inr "up") h
section
variable {P : Program} {w : World} {K : PySem.W.Frag} {mg : Str → Option Value} {base : Heap}
/-! ### _beat -/
def sk_beat (c : Cl) : Sp := fun vs H Q _ => ∃ (o : So) (z room B : Nat) (M R : List Addr) (k : Sk), vs = [.ref o.s] ∧ SkI c z room B H o M R k ∧ 8 ≤ z ∧ B ≤ 50000 ∧
  (k.m.win = false ∨ k.m.next = none → ∀ H', Same H H' → Q .non H') ∧
  (∀ x, k.m.win = true → k.m.next = some (mkOf x) → x ∈ k.m.q → ∀ H' M' R' p, SkI c z room (B + 30) H' o M' R' (k.beat x) → SkTo M R M' R' H H' → H' p = some (.tup [.int ((x.1 : Nat) : Int), .int ((x.2.1 : Nat) : Int)]) → Q (.ref p) H')
theorem ok_Sky_beat (T : Tx K mg) : FnOk P w K mg base CX0 3 T.a_Sky_beat T.d_Sky_beat ["self"] (sk_beat (clT T)) := by
  have nd := sc_Sky_beat.nd
  refine T.F_Sky_beat.ok sc_Sky_beat (fun vs H Q E h => ?_) (fun cdv A0 outer s0 H vs Q E hr h => ?_)
  · obtain ⟨_, _, _, _, _, _, _, rfl, _⟩ := h
    rfl
  · obtain ⟨o, z, room, B, M, R, k, rfl, ⟨ps, ul, hS, rfl, rfl⟩, hz8, hB, no, yes⟩ := h
    obtain ⟨qv, gs, hC⟩ := hS.cr
    refine ⟨_, (pss_cons (ps_set (i := 1) nd rfl (Or.inl rfl) (pe_meth0 (pe_fld (pv 0) rfl) T.cl_Craft T.M_Craft_beat (ok_Craft_beat T) (hr.mono (by decide)) T.b_Craft_beat .nil pass0)) (pss_cons (ps_if (pt_cmpR op_isN (pv 1) pe_non (nomark _)) (pss_one (ps_ret pe_non)) pss_nil) (pss_cons (ps_expr (pe_bm PySem.F.plainAttrs_list PySem.F.slot_list_append PySem.F.type_list_append mt_append (pe_fld (pv 0) rfl) (pa_cons (pe_tup (pa_cons pe_str (pa_cons (pv 1) pa_nil))) pa_nil))) (pss_cons (ps_expr (pe_bm PySem.F.plainAttrs_list PySem.F.slot_list_append PySem.F.type_list_append mt_append (pe_dget (hu_of hr) (pe_fld (pv 0) rfl) pe_str (fun _ _ => rfl)) (pa_cons (pe_tup (pa_cons pe_str (pa_cons (pv 1) pa_nil))) pa_nil))) (pss_one (ps_ret (pe_tup (pa_cons (pe_ix ix_tup (pv 1) pe_int (fun _ _ => rfl)) (pa_cons (pe_ix ix_tup (pv 1) pe_int (fun _ _ => rfl)) pa_nil))))))))), ?_⟩
    refine ⟨_, rfl, o.s, _, o.dx, _, _, rfl, hS.ob, T.cl_Sky, T.n_Sky_craft, sf_craft, o.A.c, o.A.dx, _, rfl, hC.o, cf_no (by decide), o.A, ps, room, z, k.ns, k.m, qv, gs, rfl, hC, fun e H1 s1 => ?_, fun j x ew e hx ej v H1 hC1 tv k1 d1 => ?_⟩
    · exact ⟨_, rfl, rfl, _, rfl, iteT (no e H1 s1)⟩
    obtain ⟨va, vb, rfl, hva, hvb⟩ := td_frm tv
    refine ⟨_, rfl, rfl, _, rfl, iteF ?_⟩
    subst ej
    have good2 := hS.good.beat hx hC1.ok
    have kc : Keep (cM o.A ps) H H1 := k1.mono fun a ha => cM4 a (by simp only [List.mem_cons, List.not_mem_nil, or_false] at ha ⊢; rcases ha with e | e <;> simp [e])
    have goodc := hS.good.craft hC1.ok hS.good.gl (fun y hy => hy)
    have hS1 : SkAt (clT T) z room B H1 o ps ul { k with m := k.m.sends (mkOf x) } := hS.craft (k' := { k with m := k.m.sends (mkOf x) }) kc hC1 (fun y hy => hS.be y hy) (fun a ha => .inl ha) rfl rfl rfl rfl rfl goodc
    -- the log
    obtain ⟨ev, he, te⟩ := hS1.en
    have hevl : ev.length = k.lg.length := by rw [te.length, List.length_map]
    have hll := hS.good.ll
    have hdl := hS.good.dl
    refine ⟨_, rfl, o.s, _, o.dx, _, _, rfl, hS1.ob, T.cl_Sky, T.n_Sky_entries, sf_entries, .inl ⟨rfl, _, SqL.of he⟩, _, rfl, (by decide : (2 : Nat) ≤ sizeLine), fun p hp => ?_⟩
    have s2 := same_new (Same.refl H1) hp (o := .tup [.str "sent", .ref va])
    have hS2 := hS1.same s2
    have he2 := s2 _ _ he
    have tv2 := tv.mono (TSm.of_same s2)
    have tp : TD (upd H1 p (.tup [.str "sent", .ref va])) (.ref p) (entD (.sent x)) := .tup upd_same (.cons (.str _) (.cons tv2 .nil))
    have te2 := te.mono (TSm.of_same s2)
    have d2 : Dom H1 (upd H1 p (.tup [.str "sent", .ref va])) := Dom.of_same s2
    generalize upd H1 p (.tup [.str "sent", .ref va]) = H2 at *
    refine ⟨o.en, ev, _, rfl, rfl, he2, lt_line (by omega), ?_⟩
    have hS3 := hS2.putEn (vs' := ev ++ [.ref p]) (lg' := k.lg ++ [.sent x]) (by rw [List.map_append]; exact te2.app (.one tp)) (goodc.log (by rw [List.length_append, List.length_singleton]; omega))
    have t3 : TSm H2 (upd H2 o.en (.lst (ev ++ [.ref p]))) := ts_upd (TSm.refl _) (NoT.lst he2)
    have tv3 := tv2.mono t3
    have k3 : Keep (sM o ps) H (upd H2 o.en (.lst (ev ++ [.ref p]))) := keep_upd ((kc.mono fun a ha => List.mem_append_left _ ha).trans (Keep.of_same s2)) (by simp [sM])
    have d3 : Dom H (upd H2 o.en (.lst (ev ++ [.ref p]))) := (d1.trans d2).upd _ _
    generalize upd H2 o.en (.lst (ev ++ [.ref p])) = H3 at *
    -- the road
    obtain ⟨dv, hd, td⟩ := hS3.dn
    have hdvl : dv.length = k.dn.length := by rw [td.length, List.length_map]
    refine ⟨_, rfl, o.s, _, o.dx, _, _, rfl, hS3.ob, T.cl_Sky, T.n_Sky_roads, sf_roads, o.rd, .ref o.dn, rfl, DGet.down hS3.rd, .inl ⟨rfl, _, SqL.of hd⟩, _, rfl, (by decide : (2 : Nat) ≤ sizeLine), fun p2 hp2 => ?_⟩
    have s4 := same_new (Same.refl H3) hp2 (o := .tup [.str "came", .ref va])
    have hS4 := hS3.same s4
    have hd4 := s4 _ _ hd
    have tv4 := tv3.mono (TSm.of_same s4)
    have tp2 : TD (upd H3 p2 (.tup [.str "came", .ref va])) (.ref p2) (entD (.came x)) := .tup upd_same (.cons (.str _) (.cons tv4 .nil))
    have td4 := td.mono (TSm.of_same s4)
    have d4 : Dom H3 (upd H3 p2 (.tup [.str "came", .ref va])) := Dom.of_same s4
    generalize upd H3 p2 (.tup [.str "came", .ref va]) = H4 at *
    refine ⟨o.dn, dv, _, rfl, rfl, hd4, lt_line (by omega), ?_⟩
    have hS5 := hS4.putDn (vs' := dv ++ [.ref p2]) (dn' := k.dn ++ [.came x]) (by rw [List.map_append]; exact td4.app (.one tp2)) good2
    have t5 : TSm H4 (upd H4 o.dn (.lst (dv ++ [.ref p2]))) := ts_upd (TSm.refl _) (NoT.lst hd4)
    have tv5 := tv4.mono t5
    have k5 : Keep (sM o ps) H (upd H4 o.dn (.lst (dv ++ [.ref p2]))) := keep_upd (k3.trans (Keep.of_same s4)) (by simp [sM])
    have d5 : Dom H (upd H4 o.dn (.lst (dv ++ [.ref p2]))) := (d3.trans d4).upd _ _
    generalize upd H4 o.dn (.lst (dv ++ [.ref p2])) = H5 at *
    obtain ⟨va', vb', eva, hva5, _⟩ := td_frm tv5
    cases eva
    refine ⟨_, rfl, va, _, 0, _, rfl, rfl, SqT.of hva5, atI_nat (j := 0) rfl, _, rfl, va, _, 1, _, rfl, rfl, SqT.of hva5, atI_nat (j := 1) rfl, (by decide : (2 : Nat) ≤ sizeLine), fun p3 hp3 => ?_⟩
    have s6 := same_new (Same.refl H5) hp3 (o := .tup [.int ((x.1 : Nat) : Int), .int ((x.2.1 : Nat) : Int)])
    exact yes x ew e hx _ _ _ p3 ⟨ps, ul, hS5.same s6, rfl, rfl⟩ ⟨fun a h => .inl h, fun a h => .inl h, k5.trans (Keep.of_same s6), d5.trans (Dom.of_same s6)⟩ upd_same
/-! ### _ask -/
def sk_ask (c : Cl) : Sp := fun vs H Q _ => ∃ (o : So) (z room B : Nat) (M R : List Addr) (k : Sk), vs = [.ref o.s] ∧ SkI c z room B H o M R k ∧ 8 ≤ z ∧ B ≤ 50000 ∧
  ∀ H' M' R', SkI c z room (B + 30) H' o M' R' k.ask → SkTo M R M' R' H H' → Q .non H'
theorem cf_css (cf : List (Nat × Frm)) (i : Nat) : (cfS cf i).map (fun x : Nat × Frm => x.2.1) = cssOf (cf.map mkOf) i := by
  unfold cfS cssOf
  rw [List.filter_map, List.map_map]
  rfl
theorem ok_Sky_ask (T : Tx K mg) : FnOk P w K mg base CX0 2 T.a_Sky_ask T.d_Sky_ask ["self"] (sk_ask (clT T)) := by
  have nd := sc_Sky_ask.nd
  refine T.F_Sky_ask.ok sc_Sky_ask (fun vs H Q E h => ?_) (fun cdv A0 outer s0 H vs Q E hr h => ?_)
  · obtain ⟨_, _, _, _, _, _, _, rfl, _⟩ := h
    rfl
  · obtain ⟨o, z, room, B, M, R, k, rfl, ⟨ps, ul, hS, rfl, rfl⟩, hz8, hB, fin⟩ := h
    have hul := hS.good.ul
    have hull := hS.ull
    have sm := hS.good.smallC hz8 (by omega)
    refine ⟨_, (pss_one (ps_expr (pe_bm PySem.F.plainAttrs_list PySem.F.slot_list_append PySem.F.type_list_append mt_append (pe_dget (hu_of hr) (pe_fld (pv 0) rfl) pe_str (fun _ _ => rfl)) (pa_cons (pe_tup (pa_cons (pe_meth0 (pe_fld (pv 0) rfl) T.cl_Ground T.M_Ground_has (ok_Ground_has T) (hr.mono (by decide)) T.b_Ground_has .nil pass0) (pa_cons (pe_meth0 (pe_fld (pv 0) rfl) T.cl_Ground T.M_Ground_wants (ok_Ground_wants T) (hr.mono (by decide)) T.b_Ground_wants .nil pass0) pa_nil))) pa_nil)))), ?_⟩
    refine ⟨_, rfl, o.s, _, o.dx, _, _, rfl, hS.ob, T.cl_Sky, T.n_Sky_roads, sf_roads, o.rd, .ref o.up, rfl, DGet.upw hS.rd, .inl ⟨rfl, _, SqL.of hS.up⟩, ?_⟩
    obtain ⟨cm, nev, hG, h1, h2, h3, h4⟩ := hS.gr
    have hk : ∀ i kvs, cm[i]? = some kvs → kvs.map (·.1) = ((cssOf (k.cf.map mkOf) i).map fun c : Nat => (c : Int)).map Sum.inl := fun i kvs e => by
      rw [(h1 i kvs e).1, ← cf_css, List.map_map, List.map_map]
      rfl
    have nog : ∀ mn : Str, mn ∉ GF → (gf ((z : Nat) : Int) o.lc o.nv).lookup mn = none := fun mn h => lookup_zip_none GF _ mn h
    refine ⟨_, rfl, o.s, _, o.dx, _, _, rfl, hS.ob, T.cl_Sky, T.n_Sky_ground, sf_ground, o.g, o.gx, _, rfl, hG.o, nog _ (by decide), o.g, o.gx, o.lc, o.nv, o.ds, z, cm, nev, cssOf (k.cf.map mkOf), ssOf (k.cf.map mkOf), rfl, hG, hk, fun i => ⟨css_nodup hS.good.cn, ss_rise _ i, fun c => (mem_ss fun x hx => (sm x hx).2).trans mem_css.symm, by have := ss_len (k.cf.map mkOf) i; omega⟩, fun r xs H1 hr1 tr1 nr1 s1 => ?_⟩
    rw [← HL_data] at tr1
    have hS1 := hS.same s1
    have hG1 := hG.same s1
    refine ⟨_, rfl, o.s, _, o.dx, _, _, rfl, hS1.ob, T.cl_Sky, T.n_Sky_ground, sf_ground, o.g, o.gx, _, rfl, hG1.o, nog _ (by decide), o.g, o.gx, o.lc, o.nv, o.ds, z, cm, nev, cssOf (k.cf.map mkOf), fun i => topN (cssOf (k.cf.map mkOf) i), fun s c => decide ((s, c) ∈ k.nv), rfl, hG1, hk, fun i => ⟨fun e => by show topN (cssOf (k.cf.map mkOf) i) = 0; rw [e]; rfl, fun c hc => top_le hc, fun e => top_mem e, by have := hS.good.top_le hz8 (by omega) i; show topN (cssOf (k.cf.map mkOf) i) ≤ 100000; omega⟩, h4, fun r2 xs2 H2 hr2 tr2 nr2 s2 => ⟨(by decide : (2 : Nat) ≤ sizeLine), fun p hp => ?_⟩⟩
    rw [← wants_data] at tr2
    have hr12 := s2 _ _ hr1
    have s3 := same_new (Same.refl H2) hp (o := .tup [.ref r, .ref r2])
    have s13 := (s1.trans s2).trans s3
    have hS3 := hS.same s13
    have hu3 : UpAt (upd H2 p (.tup [.ref r, .ref r2])) ⟨p, r, r2, xs, xs2⟩ (k.has, k.wants) := ⟨upd_same, s3 _ _ hr12, s3 _ _ hr2, tr1.mono (TSm.of_same (s2.trans s3)), tr2.mono (TSm.of_same s3)⟩
    have d3 : Dom H (upd H2 p (.tup [.ref r, .ref r2])) := Dom.of_same s13
    generalize upd H2 p (.tup [.ref r, .ref r2]) = H3 at *
    have eul : (ul.map fun l => V.ref l.t).length = ul.length := List.length_map _
    refine ⟨o.up, _, _, rfl, rfl, hS3.up, lt_line (by omega), ?_⟩
    have fr1 := hS.fresh nr1
    have fr2 := hS.fresh (s1.free nr2)
    have eM : (ul.map fun l => V.ref l.t) ++ [.ref p] = (ul ++ [(⟨p, r, r2, xs, xs2⟩ : Lt)]).map fun l => V.ref l.t := by rw [List.map_append]; rfl
    rw [eM]
    have hS4 := hS3.putUp (ul' := ul ++ [⟨p, r, r2, xs, xs2⟩]) (up' := k.up ++ [(k.has, k.wants)]) (by rw [List.length_append, List.length_append, hull]; rfl) (fun i l u e1 e2 => ?_) (fun l hl => ?_) (hS.good.ask hz8 (by omega))
    · refine fin _ _ _ ⟨ps, _, hS4, rfl, rfl⟩ ⟨fun a h => .inl h, fun a ha => ?_, keep_upd (Keep.of_same s13) (by simp [sM]), d3.upd _ _⟩
      unfold sR at ha ⊢
      rw [List.map_append, List.map_append] at ha
      simp only [List.mem_append, List.map_cons, List.map_nil, List.mem_singleton] at ha ⊢
      rcases ha with e | (e | e) | (e | e)
      · exact .inl (.inl e)
      · exact .inl (.inr (.inl e))
      · rw [e]; exact .inr nr1
      · exact .inl (.inr (.inr e))
      · rw [e]; exact .inr (s1.free nr2)
    · by_cases hi : i < ul.length
      · rw [List.getElem?_append_left hi] at e1
        rw [List.getElem?_append_left (by rw [← hull]; exact hi)] at e2
        exact hS3.ut i l u e1 e2
      · have hi2 : i = ul.length := by
          have := (List.getElem?_eq_some_iff.mp e1).1
          rw [List.length_append, List.length_singleton] at this
          omega
        subst hi2
        rw [List.getElem?_append_right (Nat.le_refl _), Nat.sub_self] at e1
        rw [hull, List.getElem?_append_right (Nat.le_refl _), Nat.sub_self] at e2
        have e1' := Option.some.inj e1
        have e2' := Option.some.inj e2
        rw [← e1', ← e2']
        exact hu3
    · rcases List.mem_append.mp hl with e | e
      · have hm : l.h ∈ sR o ul ∧ l.w ∈ sR o ul := by
          unfold sR
          exact ⟨List.mem_append_right _ (List.mem_append_left _ (List.mem_map.mpr ⟨l, e, rfl⟩)), List.mem_append_right _ (List.mem_append_right _ (List.mem_map.mpr ⟨l, e, rfl⟩))⟩
        exact ⟨hS.apart _ hm.1, hS.apart _ hm.2⟩
      · rw [List.mem_singleton.mp e]
        exact ⟨fun z => fr1 (List.mem_append_left _ z), fun z => fr2 (List.mem_append_left _ z)⟩
end
end K20

namespace K20
open PySem PySem.Spec PyProof.Rows L2 Sky
def wayS (u : Bool) : Str := if u then "up" else "down"
def rdA (o : So) (u : Bool) : Addr := if u then o.up else o.dn
theorem DGet.way {H : Hp} {o : So} (u : Bool) (h : H o.rd = some (.dK (rdD o))) : DGet H o.rd (.str (wayS u)) (some (.ref (rdA o u))) := by
  cases u with
  | true => exact DGet.upw h
  | false => exact DGet.down h
/-- a road, as it lies -/
theorem SkAt.road {c : Cl} {z room B : Nat} {H : Hp} {o : So} {ps : List (Addr × Addr × Addr)} {ul : List Lt} {k : Sk} (h : SkAt c z room B H o ps ul k) (u : Bool) : ∃ vs, H (rdA o u) = some (.lst vs) ∧ vs.length = (if u then k.up.length else k.dn.length) ∧ vs.length ≤ B := by
  cases u with
  | true => exact ⟨_, h.up, by rw [List.length_map, h.ull]; rfl, by rw [List.length_map, h.ull]; exact h.good.ul⟩
  | false =>
    obtain ⟨dv, hd, td⟩ := h.dn
    exact ⟨dv, hd, by rw [td.length, List.length_map]; rfl, by rw [td.length, List.length_map]; exact h.good.dl⟩
section
variable {P : Program} {w : World} {K : PySem.W.Frag} {mg : Str → Option Value} {base : Heap}
/-! ### _letter -/
def sk_letter (c : Cl) : Sp := fun vs H Q _ => ∃ (o : So) (u : Bool) (j : Nat) (xs : List V), vs = [.ref o.s, .str (wayS u), .int ((j : Nat) : Int)] ∧ H o.s = some (.ins c.S o.dx (sf o)) ∧ H o.rd = some (.dK (rdD o)) ∧ H (rdA o u) = some (.lst xs) ∧
  (xs.length ≤ j → ∀ H', Same H H' → Q .non H') ∧ (∀ v, xs[j]? = some v → ∀ H', Same H H' → Q v H')
theorem ok_Sky_letter (T : Tx K mg) : FnOk P w K mg base CX0 1 T.a_Sky_letter T.d_Sky_letter ["self", "way", "k"] (sk_letter (clT T)) := by
  have nd := sc_Sky_letter.nd
  refine T.F_Sky_letter.ok sc_Sky_letter (fun vs H Q E h => ?_) (fun cdv A0 outer s0 H vs Q E hr h => ?_)
  · obtain ⟨_, _, _, _, rfl, _⟩ := h
    rfl
  · obtain ⟨o, u, j, xs, rfl, ho, hrd, hx, no, yes⟩ := h
    refine ⟨_, (pss_cons (ps_set (i := 3) nd rfl (Or.inl rfl) (pe_dget2 (hu_of hr) (pe_fld (pv 0) rfl) (pv 1) (pe_lst pa_nil) ⟨rfl, rfl, rfl, rfl⟩)) (pss_one (ps_ret (pe_ifExp (pt_chain op_le op_lt pe_int (pv 2) (pe_callB call_len_seq (by rfl) T.z_len PySem.boot_len (pa_cons (pv 3) pa_nil))) (pe_ix ix_list (pv 3) (pv 2) (fun _ _ => rfl)) pe_non)))), ?_⟩
    refine ⟨_, rfl, o.s, _, o.dx, _, _, rfl, ho, T.cl_Sky, T.n_Sky_roads, sf_roads, o.rd, rfl, .inl ⟨_, Rd.of hrd⟩, _, rfl, Nat.zero_le _, fun e he => ?_⟩
    have s1 := same_new (Same.refl H) he (o := .lst [])
    refine ⟨_, DGet.way u (s1 _ _ hrd), ?_⟩
    have hx1 := s1 _ _ hx
    generalize upd H e (.lst []) = H1 at *
    refine ⟨_, rfl, _, _, rfl, rfl, true, ?_, ?_⟩
    · show V.bl (decide _) = _
      rw [decide_eq_true (by omega)]
    refine iteT ?_
    refine ⟨_, rfl, rdA o u, xs, rfl, .inl (SqL.of hx1), _, _, rfl, rfl, _, rfl, ?_⟩
    by_cases hj : j < xs.length
    · refine ite2 (fun _ => ?_) (fun z => absurd (decide_eq_true (by omega)) z)
      exact ⟨_, rfl, _, rfl, rdA o u, xs, _, _, rfl, rfl, SqL.of hx1, atI_nat (List.getElem?_eq_getElem hj), yes _ (List.getElem?_eq_getElem hj) _ s1⟩
    · refine ite2 (fun z => absurd (of_decide_eq_true z) (by omega)) (fun _ => ?_)
      exact no (by omega) _ s1
end
end K20

namespace K20
open PySem PySem.Spec PyProof.Rows L2 Sky
theorem TDs.eraseIt {H : Hp} {vs : List V} {es : List Ent} (j : Nat) (h : TDs H vs (es.map entD)) : TDs H (vs.eraseIdx j) ((es.eraseIdx j).map entD) := by
  rw [← erase_map]
  exact h.erase j
theorem lose_none {k : Sk} {u : Bool} {j : Nat} (h : (if u then k.up.length else k.dn.length) ≤ j) : k.lose u j = k := by
  unfold Sk.lose
  cases u with
  | true =>
    show { k with up := k.up.eraseIdx j } = k
    rw [List.eraseIdx_of_length_le h]
  | false =>
    show { k with dn := k.dn.eraseIdx j } = k
    rw [List.eraseIdx_of_length_le h]
theorem get_erase {α : Type} {xs : List α} {j i : Nat} : (xs.eraseIdx j)[i]? = xs[if i < j then i else i + 1]? := by
  rw [List.getElem?_eraseIdx]
  split <;> rfl
/-- a letter is gone -/
theorem SkAt.lose {c : Cl} {z room B : Nat} {H : Hp} {o : So} {ps : List (Addr × Addr × Addr)} {ul : List Lt} {k : Sk} (h : SkAt c z room B H o ps ul k) (u : Bool) (j : Nat) {vs : List V} (hv : H (rdA o u) = some (.lst vs)) :
    ∃ ul', SkAt c z room B (upd H (rdA o u) (.lst (vs.eraseIdx j))) o ps ul' (k.lose u j) ∧ ∀ a ∈ sR o ul', a ∈ sR o ul := by
  cases u with
  | true =>
    have ev : vs = ul.map fun l => V.ref l.t := by
      have := h.up
      rw [show rdA o true = o.up from rfl, this] at hv
      cases hv; rfl
    subst ev
    refine ⟨ul.eraseIdx j, ?_, fun a ha => ?_⟩
    · rw [erase_map]
      refine h.putUp (up' := k.up.eraseIdx j) ?_ (fun i l x e1 e2 => ?_) (fun l hl => ?_) (h.good.lose true j)
      · rw [List.length_eraseIdx, List.length_eraseIdx, h.ull]
      · rw [get_erase] at e1 e2
        exact h.ut _ l x e1 e2
      · have e := List.mem_of_mem_eraseIdx hl
        have hm : l.h ∈ sR o ul ∧ l.w ∈ sR o ul := by
          unfold sR
          exact ⟨List.mem_append_right _ (List.mem_append_left _ (List.mem_map.mpr ⟨l, e, rfl⟩)), List.mem_append_right _ (List.mem_append_right _ (List.mem_map.mpr ⟨l, e, rfl⟩))⟩
        exact ⟨h.apart _ hm.1, h.apart _ hm.2⟩
    · unfold sR at ha ⊢
      rcases List.mem_append.mp ha with e | e
      · exact List.mem_append_left _ e
      · refine List.mem_append_right _ ?_
        rcases List.mem_append.mp e with e | e
        · obtain ⟨l, hl, rfl⟩ := List.mem_map.mp e
          exact List.mem_append_left _ (List.mem_map.mpr ⟨l, List.mem_of_mem_eraseIdx hl, rfl⟩)
        · obtain ⟨l, hl, rfl⟩ := List.mem_map.mp e
          exact List.mem_append_right _ (List.mem_map.mpr ⟨l, List.mem_of_mem_eraseIdx hl, rfl⟩)
  | false =>
    obtain ⟨dv, hd, td⟩ := h.dn
    have ev : vs = dv := by
      rw [show rdA o false = o.dn from rfl, hd] at hv
      cases hv; rfl
    subst ev
    exact ⟨ul, h.putDn (TDs.eraseIt j td) (h.good.lose false j), fun a ha => ha⟩
section
variable {P : Program} {w : World} {K : PySem.W.Frag} {mg : Str → Option Value} {base : Heap}
/-! ### _lose -/
def sk_lose (c : Cl) : Sp := fun vs H Q _ => ∃ (o : So) (z room B : Nat) (M R : List Addr) (k : Sk) (u : Bool) (j : Nat), vs = [.ref o.s, .str (wayS u), .int ((j : Nat) : Int)] ∧ SkI c z room B H o M R k ∧ j ≤ 1000000 ∧ B ≤ 60000 ∧
  ∀ H' M' R', SkI c z room B H' o M' R' (k.lose u j) → SkTo M R M' R' H H' → Q .non H'
theorem ok_Sky_lose (T : Tx K mg) : FnOk P w K mg base CX0 2 T.a_Sky_lose T.d_Sky_lose ["self", "way", "k"] (sk_lose (clT T)) := by
  have nd := sc_Sky_lose.nd
  refine T.F_Sky_lose.ok sc_Sky_lose (fun vs H Q E h => ?_) (fun cdv A0 outer s0 H vs Q E hr h => ?_)
  · obtain ⟨_, _, _, _, _, _, _, _, _, rfl, _⟩ := h
    rfl
  · obtain ⟨o, z, room, B, M, R, k, u, j, rfl, ⟨ps, ul, hS, rfl, rfl⟩, hj, hB, fin⟩ := h
    obtain ⟨xs, hx, hxl, hxB⟩ := hS.road u
    refine ⟨_, (pss_one (ps_if (pt_cmpR op_notN (pe_meth (pv 0) T.cl_Sky T.M_Sky_letter (ok_Sky_letter T) (hr.mono (by decide)) T.b_Sky_letter .nil pass0 (pa_cons (pv 1) (pa_cons (pv 2) pa_nil))) pe_non (nomark _)) (pss_one (ps_delL (pe_dget (hu_of hr) (pe_fld (pv 0) rfl) (pv 1) (fun _ _ => rfl)) (pv 2))) pss_nil)), ?_⟩
    refine ⟨_, rfl, o.s, o.dx, _, rfl, hS.ob, sf_no (by decide), _, rfl, _, rfl, o, u, j, xs, rfl, hS.ob, hS.rd, hx, fun e H1 s1 => ?_, fun v ev H1 s1 => ?_⟩
    · refine ⟨rfl, _, rfl, iteF ?_⟩
      refine fin H1 _ _ ⟨ps, ul, ?_, rfl, rfl⟩ (SkTo.of_same s1)
      rw [lose_none (by rw [← hxl]; exact e)]
      exact hS.same s1
    · have hjl := (List.getElem?_eq_some_iff.mp ev).1
      have hS1 := hS.same s1
      have hx1 := s1 _ _ hx
      have nn : v ≠ V.non := by
        cases u with
        | true =>
          have := hS.up
          rw [show rdA o true = o.up from rfl, this] at hx
          cases hx
          obtain ⟨l, _, e⟩ := map_get ev
          rw [e]; intro z; cases z
        | false =>
          obtain ⟨dv, hd, td⟩ := hS.dn
          rw [show rdA o false = o.dn from rfl, hd] at hx
          cases hx
          obtain ⟨d, hd2, t2⟩ := td.get ev
          obtain ⟨e, _, rfl⟩ := map_get hd2
          intro z
          rw [z] at t2
          cases e <;> cases t2
      refine ⟨rfl, _, rfl, ite2 (fun _ => ?_) (fun z => absurd ?_ z)⟩
      · have hsq : seqIndex? ((j : Nat) : Int) xs.length = some j := (ixN_seq (by unfold ixN; rw [if_pos (by omega), if_pos (by omega)]; simp)).1
        refine ⟨_, rfl, o.s, _, o.dx, _, _, rfl, hS1.ob, T.cl_Sky, T.n_Sky_roads, sf_roads, _, rfl, o.rd, .ref (rdA o u), rfl, DGet.way u hS1.rd, _, rfl, rdA o u, xs, _, j, rfl, rfl, hx1, by omega, by omega, hsq, ?_⟩
        obtain ⟨ul', hS2, hR⟩ := hS1.lose u j hx1
        refine fin _ _ _ ⟨ps, ul', hS2, rfl, rfl⟩ ⟨fun a h => .inl h, fun a h => .inl (hR a h), keep_upd (Keep.of_same s1) ?_, (Dom.of_same s1).upd _ _⟩
        cases u <;> simp [sM, rdA]
      · cases v <;> first | rfl | exact absurd rfl nn
/-! ### _hear_down -/
theorem cfS_app (cf : List (Nat × Frm)) (x : Nat × Frm) (i : Nat) : cfS (cf ++ [x]) i = cfS cf i ++ if x.1 = i then [x] else [] := by
  unfold cfS
  rw [List.filter_append]
  congr 1
  by_cases h : x.1 = i
  · rw [if_pos h, List.filter_cons_of_pos (by rw [decide_eq_true h]), List.filter_nil]
  · rw [if_neg h, List.filter_cons_of_neg (by rw [decide_eq_false h]; decide), List.filter_nil]
/-- the ground alone changes -/
theorem SkAt.ground {c : Cl} {z room B : Nat} {H H' : Hp} {o : So} {ps : List (Addr × Addr × Addr)} {ul : List Lt} {k : Sk} (h : SkAt c z room B H o ps ul k) {N : List Addr} (kp : Keep N H H') (hN : ∀ a ∈ N, a ∈ o.ds ++ [o.nv]) {cf' : List (Nat × Frm)} {nv' : List (Nat × Nat)} {cm : List (List (Key × V))} {nev : List (List Key × V)} (hG : GAt c.G H' o.g o.gx o.lc o.nv o.ds z cm nev)
    (h1 : ∀ i kvs, cm[i]? = some kvs → kvs.map (·.1) = ((cfS cf' i).map fun x : Nat × Frm => (Sum.inl ((x.2.1 : Nat) : Int) : Key)) ∧ TDs H' (kvs.map (·.2)) ((cfS cf' i).map xD)) (h2 : (nev.map (·.1)).Nodup) (h3 : ∀ j ∈ nev.map (·.1), ∃ x ∈ nv', j = mkK x) (h4 : ∀ s c : Nat, (valV nev [Sum.inl (s : Int), Sum.inl (c : Int)]).isSome = decide ((s, c) ∈ nv'))
    {B' : Nat} (good : Good z room B' { k with cf := cf', nv := nv' }) : SkAt c z room B' H' o ps ul { k with cf := cf', nv := nv' } := by
  obtain ⟨qv, gs, hC⟩ := h.cr
  obtain ⟨dv, hd, td⟩ := h.dn
  obtain ⟨ev, he, te⟩ := h.en
  have t : TSm H H' := h.ts (kp.mono fun a ha => List.mem_append_right _ (by
    rcases List.mem_append.mp (hN a ha) with e | e
    · exact List.mem_append_left _ e
    · rw [List.mem_singleton.mp e]; simp))
  have inM : ∀ a ∈ N, a ∈ sM o ps := fun a ha => List.mem_append_right _ (by
    rcases List.mem_append.mp (hN a ha) with e | e
    · exact List.mem_append_left _ e
    · rw [List.mem_singleton.mp e]; simp)
  have nr : ∀ a ∈ sR o ul, a ∉ N := fun a ha z => h.apart a ha (inM a z)
  have nc : ∀ a ∈ cM o.A ps, a ∉ N := fun a ha z => h.cg a ha (by
    rcases List.mem_append.mp (hN a z) with e | e
    · exact List.mem_append_left _ e
    · rw [List.mem_singleton.mp e]; simp)
  have no : ∀ a ∈ [o.rd, o.dn, o.up, o.en], a ∉ N := fun a ha z => h.gd a (hN a z) ha
  refine ⟨kp _ _ (nr _ (by simp [sR])) h.ob, ⟨qv, gs, hC.else kp t nc⟩, h.be, ⟨cm, nev, hG, h1, h2, h3, h4⟩, kp _ _ (no _ (by simp)) h.rd, ⟨dv, kp _ _ (no _ (by simp)) hd, td.mono t⟩, kp _ _ (no _ (by simp)) h.up, fun i l u e1 e2 => ?_, h.ull, ⟨ev, kp _ _ (no _ (by simp)) he, te.mono t⟩, good, h.apart, h.cg, h.gd, h.rn, h.nvd⟩
  have hl := List.mem_of_getElem? e1
  have hu := h.ut i l u e1 e2
  exact hu.mono t (kp _ _ (nr _ (by unfold sR; exact List.mem_append_right _ (List.mem_append_left _ (List.mem_map.mpr ⟨l, hl, rfl⟩)))) hu.h) (kp _ _ (nr _ (by unfold sR; exact List.mem_append_right _ (List.mem_append_right _ (List.mem_map.mpr ⟨l, hl, rfl⟩)))) hu.w)
theorem flat_len {α : Type} {f : Nat → List α} {m : Nat} (h : ∀ i, (f i).length = m) : ∀ n : Nat, ((List.range n).flatMap f).length = n * m
  | 0 => by simp
  | n + 1 => by
    rw [List.range_succ, List.flatMap_append, List.length_append, flat_len h n, List.flatMap_cons, List.flatMap_nil, List.append_nil, h, Nat.succ_mul]
theorem mark_len {z room B : Nat} {k : Sk} (hz : 8 ≤ z) (h : Good z room B k) (hB : B ≤ 60000) {ks : List (List Key)} (nd : ks.Nodup) (hk : ∀ j ∈ ks, ∃ x, MadeK z k.sl x ∧ j = mkK x) : ks.length ≤ 40000 := by
  have h1 := len_of_sub (l := ((List.range 4).flatMap fun i => (List.range 7500).map fun c => mkK (i, c))) nd fun j hj => by
    obtain ⟨x, hx, rfl⟩ := hk j hj
    obtain ⟨a, b⟩ := MadeK.small hz h hB hx
    exact List.mem_flatMap.mpr ⟨x.1, List.mem_range.mpr a, List.mem_map.mpr ⟨x.2, List.mem_range.mpr (by omega), rfl⟩⟩
  have h2 := flat_len (f := fun i => (List.range 7500).map fun c => mkK (i, c)) (m := 7500) (fun i => by rw [List.length_map, List.length_range]) 4
  rw [h2] at h1
  omega
def sk_hear_down (c : Cl) : Sp := fun vs H Q _ => ∃ (o : So) (z room B : Nat) (M R : List Addr) (k : Sk) (v : V) (e : Ent), vs = [.ref o.s, v] ∧ SkI c z room B H o M R k ∧ TD H v (entD e) ∧ EntOk z k.sl e ∧ 8 ≤ z ∧ z ≤ 24 ∧ B ≤ 60000 ∧
  ∀ H' M' R', SkI c z room (B + 30) H' o M' R' (k.hearD e) → SkTo M R M' R' H H' → Q .non H'
theorem ok_Sky_hear_down (T : Tx K mg) : FnOk P w K mg base CX0 6 T.a_Sky_hear_down T.d_Sky_hear_down ["self", "letter"] (sk_hear_down (clT T)) := by
  have nd := sc_Sky_hear_down.nd
  refine T.F_Sky_hear_down.ok sc_Sky_hear_down (fun vs H Q E h => ?_) (fun cdv A0 outer s0 H vs Q E hr h => ?_)
  · obtain ⟨_, _, _, _, _, _, _, _, _, rfl, _⟩ := h
    rfl
  · obtain ⟨o, z, room, B, M, R, k, v, e, rfl, ⟨ps, ul, hS, rfl, rfl⟩, tv, hok, hz8, hz24, hB, fin⟩ := h
    obtain ⟨cm, nev, hG, h1, h2, h3, h4⟩ := hS.gr
    have good2 := hS.good.hearD hok
    have nog : ∀ mn : Str, mn ∉ GF → (gf ((z : Nat) : Int) o.lc o.nv).lookup mn = none := fun mn h => lookup_zip_none GF _ mn h
    have hll := hS.good.ll
    -- the log, behind what the ground did
    have rest : ∀ (H1 : Hp) (cf' : List (Nat × Frm)) (nv' : List (Nat × Nat)) (σ : L2.St), SkAt (clT T) z room B H1 o ps ul { k with cf := cf', nv := nv' } → Good z room (B + 30) { k with cf := cf', nv := nv', lg := k.lg ++ [e] } → Keep (sM o ps) H H1 → Dom H H1 → k.hearD e = { k with cf := cf', nv := nv', lg := k.lg ++ [e] } → TD H1 v (entD e) →
        ∃ ev, H1 o.s = some (.ins T.A_Sky o.dx (sf o)) ∧ H1 o.en = some (.lst ev) ∧ ev.length < 16000000 ∧ Q .non (upd H1 o.en (.lst (ev ++ [v]))) := by
      intro H1 cf' nv' σ hS1 g k1 d1 ek tv1
      obtain ⟨ev, he, te⟩ := hS1.en
      have hevl : ev.length = k.lg.length := by rw [te.length, List.length_map]
      refine ⟨ev, hS1.ob, he, by omega, ?_⟩
      have hS2 := hS1.putEn (vs' := ev ++ [v]) (lg' := k.lg ++ [e]) (by rw [List.map_append]; exact te.app (.one tv1)) g
      refine fin _ _ _ ⟨ps, ul, by rw [ek]; exact hS2, rfl, rfl⟩ ⟨fun a h => .inl h, fun a h => .inl h, keep_upd k1 (by simp [sM]), d1.upd _ _⟩
    refine ⟨_, (pss_cons (ps_asg (pv 1) (pg_tup rfl (pgs_cons (pg_name (i := 2) nd rfl (Or.inl rfl)) (pgs_cons (pg_name (i := 3) nd rfl (Or.inl rfl)) pgs_nil)))) (pss_cons (ps_if (pt_cmpR op_eq (pv 2) pe_str (nomark _)) (pss_one (ps_expr (pe_meth (pe_fld (pv 0) rfl) T.cl_Ground T.M_Ground_hear (ok_Ground_hear T) (hr.mono (by decide)) T.b_Ground_hear .nil pass0 (pa_cons (pv 3) pa_nil)))) (pss_one (ps_expr (pe_meth (pe_fld (pv 0) rfl) T.cl_Ground T.M_Ground_never (ok_Ground_neverT T) (hr.mono (by decide)) T.b_Ground_never .nil pass0 (pa_cons (pv 3) pa_nil))))) (pss_one (ps_expr (pe_bm PySem.F.plainAttrs_list PySem.F.slot_list_append PySem.F.type_list_append mt_append (pe_fld (pv 0) rfl) (pa_cons (pv 1) pa_nil)))))), ?_⟩
    cases e with
    | tell _ _ => exact hok.elim
    | close _ => exact hok.elim
    | sent _ => exact hok.elim
    | came x =>
      have tv0 := tv
      cases tv with
      | tup ht tt =>
        cases tt with
        | cons t1 tt =>
          cases t1
          cases tt with
          | cons tx tt =>
            cases tt
            rename_i a u
            refine ⟨_, rfl, a, _, rfl, SqT.of ht, rfl, _, _, rfl, _, _, rfl, rfl, ?_⟩
            refine ⟨_, rfl, rfl, _, rfl, ite2 (fun _ => ?_) (fun z => absurd (by decide) z)⟩
            have hx := hok
            obtain ⟨h4x, h9x⟩ := MadeK.small hz8 hS.good (by omega) hx.k
            have h4x' : x.1 < 4 := h4x
            obtain ⟨da, hda⟩ : ∃ da, o.ds[x.1]? = some da := ⟨o.ds[x.1]'(by rw [hG.four]; exact h4x'), List.getElem?_eq_getElem _⟩
            obtain ⟨kvs, hkv⟩ : ∃ kvs, cm[x.1]? = some kvs := ⟨cm[x.1]'(by rw [hG.cl]; exact h4x'), List.getElem?_eq_getElem _⟩
            have hkey : (Sum.inl ((x.2.1 : Nat) : Int) : Key) ∈ kvs.map (·.1) ↔ mkOf x ∈ k.cf.map mkOf := by
              rw [(h1 _ _ hkv).1, List.mem_map, List.mem_map]
              constructor
              · rintro ⟨y, hy, e⟩
                obtain ⟨hy1, hy2⟩ := List.mem_filter.mp hy
                have hy3 : y.1 = x.1 := of_decide_eq_true hy2
                injection e with e
                have e2 : y.2.1 = x.2.1 := by omega
                exact ⟨y, hy1, Prod.ext hy3 e2⟩
              · rintro ⟨y, hy, e⟩
                have e1 : (mkOf y).1 = (mkOf x).1 := congrArg Prod.fst e
                have e2 : (mkOf y).2 = (mkOf x).2 := congrArg Prod.snd e
                change y.1 = x.1 at e1
                change y.2.1 = x.2.1 at e2
                exact ⟨y, List.mem_filter.mpr ⟨hy, decide_eq_true e1⟩, by rw [e2]⟩
            have hkl : kvs.length ≤ 1000000 := by
              have e1 : kvs.length = (cfS k.cf x.1).length := by
                have := congrArg List.length (h1 _ _ hkv).1
                simpa using this
              have e2 : (cfS k.cf x.1).length ≤ k.cf.length := List.length_filter_le _ _
              have e3 : (k.cf.map mkOf).length ≤ ((List.range 4).flatMap fun i => (List.range 10000).map fun c => (i, c)).length := len_of_sub hS.good.cn fun j hj => by
                obtain ⟨a, b⟩ := hS.good.smallC hz8 (by omega) j hj
                exact List.mem_flatMap.mpr ⟨j.1, List.mem_range.mpr a, List.mem_map.mpr ⟨j.2, List.mem_range.mpr b, rfl⟩⟩
              have e4 := flat_len (f := fun i => (List.range 10000).map fun c => (i, c)) (m := 10000) (fun i => by rw [List.length_map, List.length_range]) 4
              rw [List.length_map, e4] at e3
              omega
            refine ⟨_, rfl, o.s, _, o.dx, _, _, rfl, hS.ob, T.cl_Sky, T.n_Sky_ground, sf_ground, o.g, o.gx, _, rfl, hG.o, nog _ (by decide), _, rfl, o.g, o.gx, o.lc, o.nv, da, u, o.ds, z, x.1, x.2, cm, nev, kvs, rfl, hG, tx, hx.ok hz8 hS.good (by omega), by omega, hda, hkv, hkl, fun hin H1 s1 => ?_, fun hn H1 hG1 k1 d1 => ?_⟩
            · have hin2 := hkey.mp hin
              have ek : k.hearD (.came x) = { k with cf := k.cf, nv := k.nv, lg := k.lg ++ [.came x] } := by
                show ({ k with cf := if mkOf x ∈ k.cf.map mkOf then k.cf else k.cf ++ [x], lg := k.lg ++ [.came x] } : Sk) = _
                rw [if_pos hin2]
              rw [ek] at good2
              obtain ⟨ev, q1, q2, q3, q4⟩ := rest H1 k.cf k.nv [] (hS.same s1) good2 (Keep.of_same s1) (Dom.of_same s1) ek (tv0.mono (TSm.of_same s1))
              exact ⟨_, rfl, o.s, _, o.dx, _, _, rfl, q1, T.cl_Sky, T.n_Sky_entries, sf_entries, .inl ⟨rfl, _, SqL.of q2⟩, _, rfl, o.en, ev, _, rfl, rfl, q2, lt_line (by omega), q4⟩
            · have hn2 : mkOf x ∉ k.cf.map mkOf := fun z => hn (hkey.mpr z)
              have ek : k.hearD (.came x) = { k with cf := k.cf ++ [x], nv := k.nv, lg := k.lg ++ [.came x] } := by
                show ({ k with cf := if mkOf x ∈ k.cf.map mkOf then k.cf else k.cf ++ [x], lg := k.lg ++ [.came x] } : Sk) = _
                rw [if_neg hn2]
              rw [ek] at good2
              have hdk := hG.d _ _ _ hda hkv
              have t1 : TSm H H1 := k1.ts fun y hy => by rw [List.mem_singleton.mp hy]; exact NoT.dK hdk
              have hS1 : SkAt (clT T) z room B H1 o ps ul { k with cf := k.cf ++ [x], nv := k.nv } := by
                refine hS.ground k1 (fun a ha => by rw [List.mem_singleton.mp ha]; exact List.mem_append_left _ (List.mem_of_getElem? hda)) hG1 (fun i kvs' e => ?_) h2 h3 h4 ?_
                · rw [cfS_app]
                  by_cases hi : x.1 = i
                  · subst hi
                    rw [List.getElem?_set_self (List.getElem?_eq_some_iff.mp hkv).1] at e
                    rw [if_pos rfl, ← Option.some.inj e]
                    obtain ⟨e1, e2⟩ := h1 _ _ hkv
                    refine ⟨?_, ?_⟩
                    · rw [List.map_append, e1, List.map_append]; rfl
                    · rw [List.map_append, List.map_append]
                      exact (e2.mono t1).app (.one (tx.mono t1))
                  · rw [List.getElem?_set_ne hi] at e
                    rw [if_neg hi, List.append_nil]
                    exact ⟨(h1 _ _ e).1, (h1 _ _ e).2.mono t1⟩
                · exact ⟨good2.four, good2.lay, fun n hn => hS.good.big n hn, hS.good.okm, good2.r60, hS.good.q, good2.cm, good2.cn, hS.good.nvm, hS.good.dnm, hS.good.upm, hS.good.gl, hS.good.dl, hS.good.ul, hS.good.ll⟩
              obtain ⟨ev, q1, q2, q3, q4⟩ := rest H1 (k.cf ++ [x]) k.nv [] hS1 good2 (k1.mono fun a ha => by rw [List.mem_singleton.mp ha]; exact List.mem_append_right _ (List.mem_append_left _ (List.mem_of_getElem? hda))) d1 ek (tv0.mono t1)
              exact ⟨_, rfl, o.s, _, o.dx, _, _, rfl, q1, T.cl_Sky, T.n_Sky_entries, sf_entries, .inl ⟨rfl, _, SqL.of q2⟩, _, rfl, o.en, ev, _, rfl, rfl, q2, lt_line (by omega), q4⟩
    | never ks =>
      have tv0 := tv
      cases tv with
      | tup ht tt =>
        cases tt with
        | cons t1 tt =>
          cases t1
          cases tt with
          | cons tx tt =>
            cases tt
            rename_i a u
            cases tx with
            | tup hu tu =>
              rename_i ua us
              refine ⟨_, rfl, a, _, rfl, SqT.of ht, rfl, _, _, rfl, _, _, rfl, rfl, ?_⟩
              refine ⟨_, rfl, rfl, _, rfl, ite2 (fun z => absurd z (by decide)) (fun _ => ?_)⟩
              have hnl : nev.length ≤ 40000 := by
                have := mark_len hz8 hS.good (by omega) h2 fun j hj => by
                  obtain ⟨x, hx, e⟩ := h3 j hj
                  exact ⟨x, hS.good.nvm x hx, e⟩
                rw [List.length_map] at this
                exact this
              refine ⟨_, rfl, o.s, _, o.dx, _, _, rfl, hS.ob, T.cl_Sky, T.n_Sky_ground, sf_ground, o.g, o.gx, _, rfl, hG.o, nog _ (by decide), _, rfl, o.g, o.gx, o.lc, o.nv, ua, us, o.ds, z, ks, cm, nev, rfl, hG, hu, tu, fun j hj => ?_, by have := hok.2.1; omega, h2, fun nev' H1 hG1 hnd hks hiff k1 d1 => ?_⟩
              · obtain ⟨a, b⟩ := MadeK.small hz8 hS.good (by omega) (hok.2.2 j hj)
                omega
              have ek : k.hearD (.never ks) = { k with cf := k.cf, nv := k.nv ++ ks, lg := k.lg ++ [.never ks] } := rfl
              rw [ek] at good2
              have t1 : TSm H H1 := k1.ts fun y hy => by rw [List.mem_singleton.mp hy]; exact NoT.dT hG.n
              have hS1 : SkAt (clT T) z room B H1 o ps ul { k with cf := k.cf, nv := k.nv ++ ks } := by
                refine hS.ground k1 (fun a ha => by rw [List.mem_singleton.mp ha]; simp) hG1 (fun i kvs' e => ⟨(h1 _ _ e).1, (h1 _ _ e).2.mono t1⟩) hnd (fun j hj => ?_) (fun s c => ?_) ?_
                · rcases hks j hj with e | ⟨x, hx, e⟩
                  · obtain ⟨x, hx, e⟩ := h3 j e
                    exact ⟨x, List.mem_append_left _ hx, e⟩
                  · exact ⟨x, List.mem_append_right _ hx, e⟩
                · have e1 := hiff s c
                  rw [h4] at e1
                  by_cases hx : (s, c) ∈ k.nv ++ ks
                  · rw [decide_eq_true hx]
                    refine e1.mpr ?_
                    rcases List.mem_append.mp hx with e | e
                    · exact .inl (decide_eq_true e)
                    · exact .inr e
                  · rw [decide_eq_false hx, Bool.eq_false_iff]
                    intro e
                    rcases e1.mp e with e | e
                    · exact hx (List.mem_append_left _ (of_decide_eq_true e))
                    · exact hx (List.mem_append_right _ e)
                · exact ⟨good2.four, good2.lay, fun n hn => hS.good.big n hn, hS.good.okm, good2.r60, hS.good.q, good2.cm, good2.cn, good2.nvm, hS.good.dnm, hS.good.upm, hS.good.gl, hS.good.dl, hS.good.ul, hS.good.ll⟩
              obtain ⟨ev, q1, q2, q3, q4⟩ := rest H1 k.cf (k.nv ++ ks) [] hS1 good2 (k1.mono fun a ha => by rw [List.mem_singleton.mp ha]; simp [sM]) d1 ek (tv0.mono t1)
              exact ⟨_, rfl, o.s, _, o.dx, _, _, rfl, q1, T.cl_Sky, T.n_Sky_entries, sf_entries, .inl ⟨rfl, _, SqL.of q2⟩, _, rfl, o.en, ev, _, rfl, rfl, q2, lt_line (by omega), q4⟩
end
end K20

namespace K20
open PySem PySem.Spec PyProof.Rows L2 Sky
/-- the craft's part alone, with its dicts and lists -/
theorem SkAt.mem3 {c : Cl} {z room B : Nat} {H : Hp} {o : So} {ps : List (Addr × Addr × Addr)} {ul : List Lt} {k : Sk} (h : SkAt c z room B H o ps ul k) {a : Addr} (ha : a ∈ [o.A.fr, o.A.se, o.A.ak, o.A.go]) : a ∈ sM o ps := List.mem_append_left _ (cM4 a ha)
section
variable {P : Program} {w : World} {K : PySem.W.Frag} {mg : Str → Option Value} {base : Heap}
/-! ### _hear_up -/
def sk_hear_up (c : Cl) : Sp := fun vs H Q _ => ∃ (o : So) (z room B : Nat) (M R : List Addr) (k : Sk) (l : Lt) (u : List (Nat × Nat) × List (Nat × Nat)), vs = [.ref o.s, .ref l.t] ∧ SkI c z room B H o M R k ∧ UpAt H l u ∧ l.h ∉ M ∧ l.w ∉ M ∧ ((∀ j ∈ u.1, MadeK z k.sl j) ∧ (∀ j ∈ u.2, MadeK z k.sl j) ∧ u.1.length ≤ 100000 ∧ u.2.length ≤ 100000) ∧ 8 ≤ z ∧ B ≤ 60000 ∧
  ∀ H' M' R', SkI c z room (B + 30) H' o M' R' (k.hearU u) → SkTo M R M' R' H H' → Q .non H'
theorem ok_Sky_hear_up (T : Tx K mg) : FnOk P w K mg base CX0 6 T.a_Sky_hear_up T.d_Sky_hear_up ["self", "letter"] (sk_hear_up (clT T)) := by
  have nd := sc_Sky_hear_up.nd
  refine T.F_Sky_hear_up.ok sc_Sky_hear_up (fun vs H Q E h => ?_) (fun cdv A0 outer s0 H vs Q E hr h => ?_)
  · obtain ⟨_, _, _, _, _, _, _, _, _, rfl, _⟩ := h
    rfl
  · obtain ⟨o, z, room, B, M, R, k, l, u, rfl, ⟨ps, ul, hS, rfl, rfl⟩, hU, nh, nw, hu, hz8, hB, fin⟩ := h
    obtain ⟨qv, gs, hC⟩ := hS.cr
    have good2 := hS.good.hearU hu
    have goodc := hS.good.hearC u
    have sm1 : ∀ j ∈ u.1, j.1 ≤ 3 ∧ j.2 ≤ 9999 := fun j hj => by have := MadeK.small hz8 hS.good (by omega) (hu.1 j hj); omega
    have sm2 : ∀ j ∈ u.2, j.1 ≤ 3 ∧ j.2 ≤ 9999 := fun j hj => by have := MadeK.small hz8 hS.good (by omega) (hu.2.1 j hj); omega
    have nhg : l.h ≠ o.A.go := fun e => nh (by rw [e]; exact hS.mem3 (by simp))
    refine ⟨_, (pss_cons (ps_asg (pv 1) (pg_tup rfl (pgs_cons (pg_name (i := 2) nd rfl (Or.inl rfl)) (pgs_cons (pg_name (i := 3) nd rfl (Or.inl rfl)) pgs_nil)))) (pss_cons (ps_expr (pe_meth (pe_fld (pv 0) rfl) T.cl_Craft T.M_Craft_known (ok_Craft_known T) (hr.mono (by decide)) T.b_Craft_known .nil pass0 (pa_cons (pv 2) pa_nil))) (pss_cons (ps_set (i := 4) nd rfl (Or.inl rfl) (pe_meth (pe_fld (pv 0) rfl) T.cl_Craft T.M_Craft_again (ok_Craft_again T) (hr.mono (by decide)) T.b_Craft_again .nil pass0 (pa_cons (pv 3) pa_nil))) (pss_one (ps_if (pt_truth (pv 4) (by intro _; rfl)) (pss_one (ps_expr (pe_bm PySem.F.plainAttrs_list PySem.F.slot_list_append PySem.F.type_list_append mt_append (pe_dget (hu_of hr) (pe_fld (pv 0) rfl) pe_str (fun _ _ => rfl)) (pa_cons (pe_tup (pa_cons pe_str (pa_cons (pe_tupleOf (by rfl) T.z_tuple (pv 4)) pa_nil))) pa_nil)))) pss_nil))))), ?_⟩
    refine ⟨_, rfl, l.t, _, rfl, SqT.of hU.t, rfl, _, _, rfl, _, _, rfl, rfl, ?_⟩
    -- known
    refine ⟨_, rfl, o.s, _, o.dx, _, _, rfl, hS.ob, T.cl_Sky, T.n_Sky_craft, sf_craft, o.A.c, o.A.dx, _, rfl, hC.o, cf_no (by decide), _, rfl, o.A, ps, room, z, k.ns, k.m, qv, gs, l.h, l.hs, u.1, rfl, hC, hU.h, hU.th, sm1, nhg, fun H1 qv1 hC1 k1 d1 => ?_⟩
    have k1M : Keep (sM o ps) H H1 := k1.mono fun a ha => hS.mem3 (List.mem_append_left [o.A.go] ha)
    have t1 := hS.ts k1M
    have hw1 := k1M _ _ nw hU.w
    have tw1 := hU.tw.mono t1
    have ho1 : H1 o.s = some (.ins T.A_Sky o.dx (sf o)) := k1M _ _ (fun z => hS.apart o.s (by simp [sR]) z) hS.ob
    -- again
    refine ⟨_, rfl, o.s, _, o.dx, _, _, rfl, ho1, T.cl_Sky, T.n_Sky_craft, sf_craft, o.A.c, o.A.dx, _, rfl, hC1.o, cf_no (by decide), _, rfl, o.A, ps, room, z, k.ns, k.m.knows u.1, qv1, gs, l.w, l.ws, u.2, rfl, hC1, hw1, tw1, sm2, by omega, fun r xs H2 hr2 tr2 hC2 nr2 k2 d2 => ?_⟩
    have k2M : Keep (sM o ps) H1 H2 := k2.mono fun a ha => by rw [List.mem_singleton.mp ha]; exact hS.mem3 (by simp)
    have k12 : Keep (cM o.A ps) H H2 := (k1.mono fun a ha => cM4 a (List.mem_append_left [o.A.go] ha)).trans (k2.mono fun a ha => cM4 a (by rw [List.mem_singleton.mp ha]; simp))
    have k12M := k1M.trans k2M
    have d12 := d1.trans d2
    have hq : ∀ x ∈ ((k.m.knows u.1).agains u.2).q, x ∈ k.m.q := fun x hx => (knows_q u.1 k.m).1 x (by rw [← (agains_q u.2 (k.m.knows u.1)).1]; exact hx)
    have hS2 : SkAt (clT T) z room B H2 o ps ul { k with m := (k.m.knows u.1).agains u.2 } := hS.craft (k' := { k with m := (k.m.knows u.1).agains u.2 }) k12 hC2 (fun x hx => hS.be x (hq x hx)) (fun a ha => .inl ha) rfl rfl rfl rfl rfl goodc
    change TDs H2 xs (((k.m.knows u.1).others u.2).map mD2) at tr2
    have hxl : xs.length ≤ 100000 := by
      rw [tr2.length, List.length_map]
      exact Nat.le_trans (List.length_filter_le _ _) hu.2.2.2
    refine ⟨_, rfl, _, .inl ⟨_, SqL.of hr2, rfl⟩, ?_⟩
    cases hxs : xs with
    | nil =>
      have e0 : (k.m.knows u.1).others u.2 = [] := by
        have := tr2.length
        rw [hxs, List.length_map] at this
        exact List.eq_nil_of_length_eq_zero this.symm
      have ek : k.hearU u = { k with m := (k.m.knows u.1).agains u.2 } := by
        unfold Sk.hearU
        rw [if_pos e0]
      refine iteF ?_
      exact fin H2 _ _ ⟨ps, ul, by rw [ek]; exact hS2.more (by omega), rfl, rfl⟩ ⟨fun a h => .inl h, fun a h => .inl h, k12M, d12⟩
    | cons x0 xr =>
      have e0 : ¬ (k.m.knows u.1).others u.2 = [] := fun e => by
        have := tr2.length
        rw [hxs, e] at this
        cases this
      have ek : k.hearU u = { k with m := (k.m.knows u.1).agains u.2, dn := k.dn ++ [.never ((k.m.knows u.1).others u.2)] } := by
        unfold Sk.hearU
        rw [if_neg e0]
      rw [← hxs]
      refine ite2 (fun _ => ?_) (fun z => absurd (show (!xs.isEmpty) = true by rw [hxs]; rfl) z)
      obtain ⟨dv, hd, td⟩ := hS2.dn
      have hdvl : dv.length = k.dn.length := by rw [td.length, List.length_map]
      have hdl := hS.good.dl
      refine ⟨_, rfl, o.s, _, o.dx, _, _, rfl, hS2.ob, T.cl_Sky, T.n_Sky_roads, sf_roads, o.rd, .ref o.dn, rfl, DGet.down hS2.rd, .inl ⟨rfl, _, SqL.of hd⟩, _, rfl, .inl ⟨r, xs, rfl, SqL.of hr2, fun q hq2 => ⟨(by decide : (2 : Nat) ≤ sizeLine), fun p hp => ?_⟩⟩⟩
      have s3 := same_new (Same.refl H2) hq2 (o := .tup xs)
      have hq3 : upd H2 q (.tup xs) q = some (.tup xs) := upd_same
      have tr3 := tr2.mono (TSm.of_same s3)
      have s4 := same_new (Same.refl (upd H2 q (.tup xs))) hp (o := .tup [.str "never", .ref q])
      have s34 := s3.trans s4
      have hS4 := hS2.same s34
      have hd4 := s34 _ _ hd
      have tp : TD (upd (upd H2 q (.tup xs)) p (.tup [.str "never", .ref q])) (.ref p) (entD (.never ((k.m.knows u.1).others u.2))) := .tup upd_same (.cons (.str _) (.cons (.tup (s4 _ _ hq3) (tr3.mono (TSm.of_same s4))) .nil))
      have td4 := td.mono (TSm.of_same s34)
      have d4 : Dom H2 (upd (upd H2 q (.tup xs)) p (.tup [.str "never", .ref q])) := Dom.of_same s34
      generalize upd (upd H2 q (.tup xs)) p (.tup [.str "never", .ref q]) = H4 at *
      refine ⟨o.dn, dv, _, rfl, rfl, hd4, lt_line (by omega), ?_⟩
      rw [ek] at good2
      have hS5 := hS4.putDn (vs' := dv ++ [.ref p]) (dn' := k.dn ++ [.never ((k.m.knows u.1).others u.2)]) (by rw [List.map_append]; exact td4.app (.one tp)) good2
      exact fin _ _ _ ⟨ps, ul, by rw [ek]; exact hS5, rfl, rfl⟩ ⟨fun a h => .inl h, fun a h => .inl h, keep_upd (k12M.trans (Keep.of_same s34)) (by simp [sM]), (d12.trans d4).upd _ _⟩
/-! ### _hear -/
def sk_hear (c : Cl) : Sp := fun vs H Q _ => ∃ (o : So) (z room B : Nat) (M R : List Addr) (k : Sk) (u : Bool) (j : Nat), vs = [.ref o.s, .str (wayS u), .int ((j : Nat) : Int)] ∧ SkI c z room B H o M R k ∧ 8 ≤ z ∧ z ≤ 24 ∧ B ≤ 60000 ∧
  ∀ H' M' R', SkI c z room (B + 30) H' o M' R' (k.hear u j) → SkTo M R M' R' H H' → Q .non H'
theorem ok_Sky_hear (T : Tx K mg) : FnOk P w K mg base CX0 7 T.a_Sky_hear T.d_Sky_hear ["self", "way", "k"] (sk_hear (clT T)) := by
  have nd := sc_Sky_hear.nd
  refine T.F_Sky_hear.ok sc_Sky_hear (fun vs H Q E h => ?_) (fun cdv A0 outer s0 H vs Q E hr h => ?_)
  · obtain ⟨_, _, _, _, _, _, _, _, _, rfl, _⟩ := h
    rfl
  · obtain ⟨o, z, room, B, M, R, k, u, j, rfl, ⟨ps, ul, hS, rfl, rfl⟩, hz8, hz24, hB, fin⟩ := h
    obtain ⟨xs, hx, hxl, hxB⟩ := hS.road u
    refine ⟨_, (pss_cons (ps_set (i := 3) nd rfl (Or.inl rfl) (pe_meth (pv 0) T.cl_Sky T.M_Sky_letter (ok_Sky_letter T) (hr.mono (by decide)) T.b_Sky_letter .nil pass0 (pa_cons (pv 1) (pa_cons (pv 2) pa_nil)))) (pss_cons (ps_if (pt_cmpR op_isN (pv 3) pe_non (nomark _)) (pss_one ps_retN) pss_nil) (pss_one (ps_if (pt_cmpR op_eq (pv 1) pe_str (nomark _)) (pss_one (ps_expr (pe_meth (pv 0) T.cl_Sky T.M_Sky_hear_down (ok_Sky_hear_down T) (hr.mono (by decide)) T.b_Sky_hear_down .nil pass0 (pa_cons (pv 3) pa_nil)))) (pss_one (ps_expr (pe_meth (pv 0) T.cl_Sky T.M_Sky_hear_up (ok_Sky_hear_up T) (hr.mono (by decide)) T.b_Sky_hear_up .nil pass0 (pa_cons (pv 3) pa_nil)))))))), ?_⟩
    refine ⟨_, rfl, o.s, o.dx, _, rfl, hS.ob, sf_no (by decide), _, rfl, _, rfl, o, u, j, xs, rfl, hS.ob, hS.rd, hx, fun e H1 s1 => ?_, fun v ev H1 s1 => ?_⟩
    · have ek : k.hear u j = k := by
        unfold Sk.hear
        cases u with
        | true => rw [if_pos rfl, List.getElem?_eq_none (by rw [← show xs.length = k.up.length from hxl]; exact e)]
        | false => rw [if_neg (by decide), List.getElem?_eq_none (by rw [← show xs.length = k.dn.length from hxl]; exact e)]
      refine ⟨_, rfl, rfl, _, rfl, iteT ?_⟩
      exact fin H1 _ _ ⟨ps, ul, by rw [ek]; exact (hS.same s1).more (by omega), rfl, rfl⟩ (SkTo.of_same s1)
    · have hjl := (List.getElem?_eq_some_iff.mp ev).1
      have hS1 := hS.same s1
      have hx1 := s1 _ _ hx
      cases u with
      | true =>
        have := hS.up
        rw [show rdA o true = o.up from rfl, this] at hx
        cases hx
        obtain ⟨l, hl, e⟩ := map_get ev
        subst e
        have hil := (List.getElem?_eq_some_iff.mp hl).1
        obtain ⟨x, hxu⟩ : ∃ x, k.up[j]? = some x := ⟨_, List.getElem?_eq_getElem (by rw [← hS.ull]; exact hil)⟩
        have hm : l.h ∈ sR o ul ∧ l.w ∈ sR o ul := by
          have e := List.mem_of_getElem? hl
          unfold sR
          exact ⟨List.mem_append_right _ (List.mem_append_left _ (List.mem_map.mpr ⟨l, e, rfl⟩)), List.mem_append_right _ (List.mem_append_right _ (List.mem_map.mpr ⟨l, e, rfl⟩))⟩
        have ek : k.hear true j = k.hearU x := by
          unfold Sk.hear
          rw [if_pos rfl, hxu]
        refine ⟨_, rfl, rfl, _, rfl, iteF ?_⟩
        refine ⟨_, rfl, rfl, _, rfl, ite2 (fun z => absurd z (by decide)) (fun _ => ?_)⟩
        refine ⟨_, rfl, o.s, o.dx, _, rfl, hS1.ob, sf_no (by decide), _, rfl, o, z, room, B, sM o ps, sR o ul, k, l, x, rfl, ⟨ps, ul, hS1, rfl, rfl⟩, hS1.ut j l x hl hxu, hS.apart _ hm.1, hS.apart _ hm.2, hS.good.upm x (List.mem_of_getElem? hxu), hz8, hB, fun H2 M2 R2 hI to => ?_⟩
        rw [← ek] at hI
        exact fin H2 M2 R2 hI ((SkTo.of_same s1).trans to)
      | false =>
        obtain ⟨dv, hd, td⟩ := hS1.dn
        have evd : xs = dv := by
          rw [show rdA o false = o.dn from rfl, hd] at hx1
          cases hx1; rfl
        subst evd
        obtain ⟨d, hd2, tv⟩ := td.get ev
        obtain ⟨e, he, rfl⟩ := map_get hd2
        have ek : k.hear false j = k.hearD e := by
          unfold Sk.hear
          rw [if_neg (by decide), he]
        have nn : ∃ a, v = V.ref a := by cases e <;> (cases tv; exact ⟨_, rfl⟩)
        obtain ⟨va, rfl⟩ := nn
        refine ⟨_, rfl, rfl, _, rfl, iteF ?_⟩
        refine ⟨_, rfl, rfl, _, rfl, ite2 (fun _ => ?_) (fun z => absurd (by decide) z)⟩
        refine ⟨_, rfl, o.s, o.dx, _, rfl, hS1.ob, sf_no (by decide), _, rfl, o, z, room, B, sM o ps, sR o ul, k, .ref va, e, rfl, ⟨ps, ul, hS1, rfl, rfl⟩, tv, hS.good.dnm e (List.mem_of_getElem? he), hz8, hz24, hB, fun H2 M2 R2 hI to => ?_⟩
        rw [← ek] at hI
        exact fin H2 M2 R2 hI ((SkTo.of_same s1).trans to)
end
end K20

namespace K20
open PySem PySem.Spec PyProof.Rows L2 Sky
/-! ### cases, shortly -/
section
variable {K : PySem.W.Frag} {w w' : Str} {n i j : Nat} {is : List Nat} {u : List V → L2.St → Hp → (Option (List V) → Hp → Prop) → Prop} {σ : L2.St} {H : Hp} {a : Addr} {xs : List V} {x y : V} {b : L2.TS} {r : V → L2.TS} {D : Ends}
theorem cs_miss (h : SqT K H a (.str w' :: xs)) (ok : PyData.strOk w' = true) (e : xs.length + 1 ≠ n ∨ w' ≠ w) (q : r (.ref a) D σ H) : tCsCons is (ptSeq K n (ptCons (ptWord K w) u)) b r (.ref a) D σ H := case_miss h e ok q
theorem cs_hit0 (h : SqT K H a [.str w]) (ok : PyData.strOk w = true) (q : b D σ H) : tCsCons is (ptSeq K 1 (ptCons (ptWord K w) ptNil)) b r (.ref a) D σ H := case_hit h rfl ok (show b D (setN is [] σ) H by cases is <;> exact q)
theorem cs_hit1 (h : SqT K H a [.str w, x]) (ok : PyData.strOk w = true) (q : b D (σ.set i (some x)) H) : tCsCons [i] (ptSeq K 2 (ptCons (ptWord K w) (ptCons ptName ptNil))) b r (.ref a) D σ H := case_hit h rfl ok ⟨x, [], rfl, q⟩
theorem cs_hit2 (h : SqT K H a [.str w, x, y]) (ok : PyData.strOk w = true) (q : b D ((σ.set i (some x)).set j (some y)) H) : tCsCons [i, j] (ptSeq K 3 (ptCons (ptWord K w) (ptCons ptName (ptCons ptName ptNil)))) b r (.ref a) D σ H := case_hit h rfl ok ⟨x, [y], rfl, y, [], rfl, q⟩
end
/-! ### steps -/
inductive Stp where
  | tell (s : Nat) (t : List Int)
  | close (s : Nat)
  | begin
  | shut
  | beat
  | ask
  | hear (u : Bool) (j : Nat)
  | lose (u : Bool) (j : Nat)
  | twice (u : Bool) (j : Nat)
def stpD : Stp → PyData
  | .tell s t => .tuple [.str "tell", .int ((s : Nat) : Int), tlD t]
  | .close s => .tuple [.str "close", .int ((s : Nat) : Int)]
  | .begin => .tuple [.str "begin"]
  | .shut => .tuple [.str "shut"]
  | .beat => .tuple [.str "beat"]
  | .ask => .tuple [.str "ask"]
  | .hear u j => .tuple [.str "hear", .str (wayS u), .int ((j : Nat) : Int)]
  | .lose u j => .tuple [.str "lose", .str (wayS u), .int ((j : Nat) : Int)]
  | .twice u j => .tuple [.str "twice", .str (wayS u), .int ((j : Nat) : Int)]
def StpOk : Stp → Prop
  | .tell s t => s < 4 ∧ tellOk t
  | .close s => s < 4
  | .hear _ j => j ≤ 1000000
  | .lose _ j => j ≤ 1000000
  | .twice _ j => j ≤ 1000000
  | _ => True
def Sk.doS (z room : Nat) (k : Sk) : Stp → Sk × PyData
  | .tell s t => match k.sl[s]? with | some n => (k.tell z room s n t, .int ((n.2.length : Nat) : Int)) | none => (k, .none)
  | .close s => match k.sl[s]? with | some n => if n.1.length % z = 0 then (k, .bool false) else (k.close z room s n, .bool true) | none => (k, .none)
  | .begin => ({ k with m := { k.m with win := true } }, .bool (!k.m.win))
  | .shut => ({ k with m := { k.m with win := false } }, .bool k.m.win)
  | .beat => if k.m.win = true then (match k.m.next with | none => (k, .none) | some i => match k.m.q.find? (fun x => decide (mkOf x = i)) with | some x => (k.beat x, mD2 i) | none => (k, .none)) else (k, .none)
  | .ask => (k.ask, .none)
  | .hear u j => ((k.hear u j).lose u j, .none)
  | .lose u j => (k.lose u j, .none)
  | .twice u j => (k.hear u j, .none)
theorem find_mark {l : List (Nat × Frm)} (nd : (l.map mkOf).Nodup) {x : Nat × Frm} (h : x ∈ l) : l.find? (fun y => decide (mkOf y = mkOf x)) = some x := by
  induction l with
  | nil => cases h
  | cons y l ih =>
    rw [List.map_cons, List.nodup_cons] at nd
    by_cases e : mkOf y = mkOf x
    · rw [List.find?_cons_of_pos (by exact decide_eq_true e)]
      rcases List.mem_cons.mp h with z | z
      · rw [z]
      · exact absurd (List.mem_map.mpr ⟨x, z, e.symm⟩) nd.1
    · rw [List.find?_cons_of_neg (by rw [decide_eq_false e]; decide)]
      rcases List.mem_cons.mp h with z | z
      · exact absurd (by rw [z]) e
      · exact ih nd.2 z
section
variable {P : Program} {w : World} {K : PySem.W.Frag} {mg : Str → Option Value} {base : Heap}
/-! ### do, but settle -/
def sk_do (c : Cl) : Sp := fun vs H Q _ => ∃ (o : So) (z room B : Nat) (M R : List Addr) (k : Sk) (a : Addr) (st : Stp), vs = [.ref o.s, .ref a] ∧ SkI c z room B H o M R k ∧ TD H (.ref a) (stpD st) ∧ StpOk st ∧ 8 ≤ z ∧ z ≤ 24 ∧ B ≤ 50000 ∧
  ∀ v H' M' R', SkI c z room (B + 30) H' o M' R' (k.doS z room st).1 → SkTo M R M' R' H H' → TD H' v (k.doS z room st).2 → Q v H'
theorem ok_Sky_settle0 (T : Tx K mg) : FnOk P w K mg base CX0 1 T.a_Sky_settle T.d_Sky_settle ["self"] (fun _ _ _ _ => False) := fn_no
theorem td_tup {H : Hp} {a : Addr} {ds : List PyData} (h : TD H (.ref a) (.tuple ds)) : ∃ xs, H a = some (.tup xs) ∧ TDs H xs ds := by
  cases h with
  | tup h t => exact ⟨_, h, t⟩
theorem ok_Sky_do0 (T : Tx K mg) : FnOk P w K mg base CX0 8 T.a_Sky_do T.d_Sky_do ["self", "step"] (sk_do (clT T)) := by
  have nd := sc_Sky_do.nd
  refine T.F_Sky_do.ok sc_Sky_do (fun vs H Q E h => ?_) (fun cdv A0 outer s0 H vs Q E hr h => ?_)
  · obtain ⟨_, _, _, _, _, _, _, _, _, rfl, _⟩ := h
    rfl
  · obtain ⟨o, z, room, B, M, R, k, a, st, rfl, hI, tst, hst, hz8, hz24, hB, fin⟩ := h
    refine ⟨_, (pss_cons (ps_match (pv 1) (pcs_cons nd (pm_seq rfl (pms_cons (pm_word hr.units (by decide +kernel)) (pms_cons pm_name (pms_cons pm_name pms_nil)))) (.cons (i := 2) rfl (Or.inl rfl) (by first | exact .inl rfl | exact .inr rfl) (.cons (i := 3) rfl (Or.inl rfl) (by first | exact .inl rfl | exact .inr rfl) .nil)) (pss_one (ps_ret (pe_meth (pv 0) T.cl_Sky T.M_Sky_tell (ok_Sky_tell T) (hr.mono (by decide)) T.b_Sky_tell .nil pass0 (pa_cons (pv 2) (pa_cons (pv 3) pa_nil))))) (pcs_cons nd (pm_seq rfl (pms_cons (pm_word hr.units (by decide +kernel)) (pms_cons pm_name pms_nil))) (.cons (i := 2) rfl (Or.inl rfl) (by first | exact .inl rfl | exact .inr rfl) .nil) (pss_one (ps_ret (pe_meth (pv 0) T.cl_Sky T.M_Sky_close (ok_Sky_close T) (hr.mono (by decide)) T.b_Sky_close .nil pass0 (pa_cons (pv 2) pa_nil)))) (pcs_cons nd (pm_seq rfl (pms_cons (pm_word hr.units (by decide +kernel)) pms_nil)) .nil (pss_one (ps_ret (pe_meth0 (pe_fld (pv 0) rfl) T.cl_Craft T.M_Craft_begin (ok_Craft_begin T) (hr.mono (by decide)) T.b_Craft_begin .nil pass0))) (pcs_cons nd (pm_seq rfl (pms_cons (pm_word hr.units (by decide +kernel)) pms_nil)) .nil (pss_one (ps_ret (pe_meth0 (pe_fld (pv 0) rfl) T.cl_Craft T.M_Craft_shut (ok_Craft_shut T) (hr.mono (by decide)) T.b_Craft_shut .nil pass0))) (pcs_cons nd (pm_seq rfl (pms_cons (pm_word hr.units (by decide +kernel)) pms_nil)) .nil (pss_one (ps_ret (pe_meth0 (pv 0) T.cl_Sky T.M_Sky_beat (ok_Sky_beat T) (hr.mono (by decide)) T.b_Sky_beat .nil pass0))) (pcs_cons nd (pm_seq rfl (pms_cons (pm_word hr.units (by decide +kernel)) pms_nil)) .nil (pss_one (ps_expr (pe_meth0 (pv 0) T.cl_Sky T.M_Sky_ask (ok_Sky_ask T) (hr.mono (by decide)) T.b_Sky_ask .nil pass0))) (pcs_cons nd (pm_seq rfl (pms_cons (pm_word hr.units (by decide +kernel)) pms_nil)) .nil (pss_one (ps_expr (pe_meth0 (pv 0) T.cl_Sky T.M_Sky_settle (ok_Sky_settle0 T) (hr.mono (by decide)) T.b_Sky_settle .nil pass0))) (pcs_cons nd (pm_seq rfl (pms_cons (pm_word hr.units (by decide +kernel)) (pms_cons pm_name (pms_cons pm_name pms_nil)))) (.cons (i := 4) rfl (Or.inl rfl) (by first | exact .inl rfl | exact .inr rfl) (.cons (i := 5) rfl (Or.inl rfl) (by first | exact .inl rfl | exact .inr rfl) .nil)) (pss_cons (ps_expr (pe_meth (pv 0) T.cl_Sky T.M_Sky_hear (ok_Sky_hear T) (hr.mono (by decide)) T.b_Sky_hear .nil pass0 (pa_cons (pv 4) (pa_cons (pv 5) pa_nil)))) (pss_one (ps_expr (pe_meth (pv 0) T.cl_Sky T.M_Sky_lose (ok_Sky_lose T) (hr.mono (by decide)) T.b_Sky_lose .nil pass0 (pa_cons (pv 4) (pa_cons (pv 5) pa_nil)))))) (pcs_cons nd (pm_seq rfl (pms_cons (pm_word hr.units (by decide +kernel)) (pms_cons pm_name (pms_cons pm_name pms_nil)))) (.cons (i := 4) rfl (Or.inl rfl) (by first | exact .inl rfl | exact .inr rfl) (.cons (i := 5) rfl (Or.inl rfl) (by first | exact .inl rfl | exact .inr rfl) .nil)) (pss_one (ps_expr (pe_meth (pv 0) T.cl_Sky T.M_Sky_lose (ok_Sky_lose T) (hr.mono (by decide)) T.b_Sky_lose .nil pass0 (pa_cons (pv 4) (pa_cons (pv 5) pa_nil))))) (pcs_cons nd (pm_seq rfl (pms_cons (pm_word hr.units (by decide +kernel)) (pms_cons pm_name (pms_cons pm_name pms_nil)))) (.cons (i := 4) rfl (Or.inl rfl) (by first | exact .inl rfl | exact .inr rfl) (.cons (i := 5) rfl (Or.inl rfl) (by first | exact .inl rfl | exact .inr rfl) .nil)) (pss_one (ps_expr (pe_meth (pv 0) T.cl_Sky T.M_Sky_hear (ok_Sky_hear T) (hr.mono (by decide)) T.b_Sky_hear .nil pass0 (pa_cons (pv 4) (pa_cons (pv 5) pa_nil))))) pcs_nil))))))))))) (pss_one (ps_ret pe_non))), ?_⟩
    refine ⟨_, rfl, ?_⟩
    have ho := hI.obj
    cases st with
    | tell s t =>
      obtain ⟨xs, ha, tx⟩ := td_tup tst
      cases tx with
      | cons t1 tx =>
        cases t1
        cases tx with
        | cons t2 tx =>
          cases t2
          cases tx with
          | cons t3 tx =>
            cases tx
            obtain ⟨b, rfl, hb⟩ := TD.of_tl t3
            obtain ⟨n, hn⟩ : ∃ n, k.sl[s]? = some n := ⟨_, List.getElem?_eq_getElem (by rw [hI.good.four]; exact hst.1)⟩
            refine cs_hit2 (SqT.of ha) (by decide +kernel) ?_
            refine ⟨_, rfl, o.s, o.dx, _, rfl, ho, sf_no (by decide), _, rfl, _, rfl, o, z, room, B, M, R, k, s, n, b, t, rfl, hI, hn, hb, hst.2, hz8, hz24, hB, fun H' M' R' h1 h2 => ?_⟩
            refine fin _ H' M' R' ?_ h2 ?_
            · show SkI _ _ _ _ _ _ _ _ (match k.sl[s]? with | some n => (k.tell z room s n t, PyData.int ((n.2.length : Nat) : Int)) | none => (k, .none)).1
              rw [hn]; exact h1
            · show TD _ _ (match k.sl[s]? with | some n => (k.tell z room s n t, PyData.int ((n.2.length : Nat) : Int)) | none => (k, .none)).2
              rw [hn]; exact .int _
    | close s =>
      obtain ⟨xs, ha, tx⟩ := td_tup tst
      cases tx with
      | cons t1 tx =>
        cases t1
        cases tx with
        | cons t2 tx =>
          cases t2
          cases tx
          obtain ⟨n, hn⟩ : ∃ n, k.sl[s]? = some n := ⟨_, List.getElem?_eq_getElem (by rw [hI.good.four]; exact hst)⟩
          refine cs_miss (SqT.of ha) (by decide +kernel) (.inl (by simp)) ?_
          refine cs_hit1 (SqT.of ha) (by decide +kernel) ?_
          have ed : k.doS z room (.close s) = if n.1.length % z = 0 then (k, .bool false) else (k.close z room s n, .bool true) := by
            show (match k.sl[s]? with | some n => if n.1.length % z = 0 then (k, PyData.bool false) else (k.close z room s n, .bool true) | none => (k, .none)) = _
            rw [hn]
          refine ⟨_, rfl, o.s, o.dx, _, rfl, ho, sf_no (by decide), _, rfl, o, z, room, B, M, R, k, s, n, rfl, hI, hn, hz8, hz24, hB, fun e H' s1 => ?_, fun e H' M' R' h1 h2 => ?_⟩
          · refine fin _ H' M R ?_ (SkTo.of_same s1) ?_
            · rw [ed, if_pos e]; exact (hI.same s1).more (by omega)
            · rw [ed, if_pos e]; exact .bl _
          · refine fin _ H' M' R' ?_ h2 ?_
            · rw [ed, if_neg e]; exact h1
            · rw [ed, if_neg e]; exact .bl _
    | begin =>
      obtain ⟨xs, ha, tx⟩ := td_tup tst
      cases tx with
      | cons t1 tx =>
        cases t1
        cases tx
        refine cs_miss (SqT.of ha) (by decide +kernel) (.inl (by simp)) ?_
        refine cs_miss (SqT.of ha) (by decide +kernel) (.inl (by simp)) ?_
        refine cs_hit0 (SqT.of ha) (by decide +kernel) ?_
        obtain ⟨ps, ul, hS, rfl, rfl⟩ := hI
        obtain ⟨qv, gs, hC⟩ := hS.cr
        refine ⟨_, rfl, o.s, _, o.dx, _, _, rfl, hS.ob, T.cl_Sky, T.n_Sky_craft, sf_craft, o.A.c, o.A.dx, _, rfl, hC.o, cf_no (by decide), o.A, ps, room, z, k.ns, k.m, qv, gs, rfl, hC, fun H1 hC1 k1 d1 => ?_⟩
        have kc : Keep (cM o.A ps) H H1 := k1.mono fun a ha => by rw [List.mem_singleton.mp ha]; simp [cM]
        have g1 := hS.good.craft hC1.ok hS.good.gl (fun y hy => hy)
        have hS1 : SkAt (clT T) z room B H1 o ps ul { k with m := { k.m with win := true } } := hS.craft (k' := { k with m := { k.m with win := true } }) kc hC1 (fun y hy => hS.be y hy) (fun a ha => .inl ha) rfl rfl rfl rfl rfl g1
        exact fin _ _ _ _ ⟨ps, ul, hS1.more (by omega), rfl, rfl⟩ ⟨fun a h => .inl h, fun a h => .inl h, kc.mono fun a h => List.mem_append_left _ h, d1⟩ (.bl _)
    | shut =>
      obtain ⟨xs, ha, tx⟩ := td_tup tst
      cases tx with
      | cons t1 tx =>
        cases t1
        cases tx
        refine cs_miss (SqT.of ha) (by decide +kernel) (.inl (by simp)) ?_
        refine cs_miss (SqT.of ha) (by decide +kernel) (.inl (by simp)) ?_
        refine cs_miss (SqT.of ha) (by decide +kernel) (.inr (by decide)) ?_
        refine cs_hit0 (SqT.of ha) (by decide +kernel) ?_
        obtain ⟨ps, ul, hS, rfl, rfl⟩ := hI
        obtain ⟨qv, gs, hC⟩ := hS.cr
        refine ⟨_, rfl, o.s, _, o.dx, _, _, rfl, hS.ob, T.cl_Sky, T.n_Sky_craft, sf_craft, o.A.c, o.A.dx, _, rfl, hC.o, cf_no (by decide), o.A, ps, room, z, k.ns, k.m, qv, gs, rfl, hC, fun H1 hC1 k1 d1 => ?_⟩
        have kc : Keep (cM o.A ps) H H1 := k1.mono fun a ha => by rw [List.mem_singleton.mp ha]; simp [cM]
        have g1 := hS.good.craft hC1.ok hS.good.gl (fun y hy => hy)
        have hS1 : SkAt (clT T) z room B H1 o ps ul { k with m := { k.m with win := false } } := hS.craft (k' := { k with m := { k.m with win := false } }) kc hC1 (fun y hy => hS.be y hy) (fun a ha => .inl ha) rfl rfl rfl rfl rfl g1
        exact fin _ _ _ _ ⟨ps, ul, hS1.more (by omega), rfl, rfl⟩ ⟨fun a h => .inl h, fun a h => .inl h, kc.mono fun a h => List.mem_append_left _ h, d1⟩ (.bl _)
    | beat =>
      obtain ⟨xs, ha, tx⟩ := td_tup tst
      cases tx with
      | cons t1 tx =>
        cases t1
        cases tx
        refine cs_miss (SqT.of ha) (by decide +kernel) (.inl (by simp)) ?_
        refine cs_miss (SqT.of ha) (by decide +kernel) (.inl (by simp)) ?_
        refine cs_miss (SqT.of ha) (by decide +kernel) (.inr (by decide)) ?_
        refine cs_miss (SqT.of ha) (by decide +kernel) (.inr (by decide)) ?_
        refine cs_hit0 (SqT.of ha) (by decide +kernel) ?_
        have ed : k.doS z room .beat = if k.m.win = true then (match k.m.next with | none => (k, .none) | some i => match k.m.q.find? (fun x => decide (mkOf x = i)) with | some x => (k.beat x, mD2 i) | none => (k, .none)) else (k, .none) := rfl
        refine ⟨_, rfl, o.s, o.dx, _, rfl, ho, sf_no (by decide), o, z, room, B, M, R, k, rfl, hI, hz8, hB, fun e H' s1 => ?_, fun x ew e hx H' M' R' p h1 h2 hp => ?_⟩
        · have e2 : k.doS z room .beat = (k, .none) := by
            rw [ed]
            rcases e with e | e
            · rw [if_neg (by rw [e]; decide)]
            · split
              · rw [e]
              · rfl
          refine fin _ H' M R ?_ (SkTo.of_same s1) ?_
          · rw [e2]; exact (hI.same s1).more (by omega)
          · rw [e2]; exact .non
        · have e2 : k.doS z room .beat = (k.beat x, mD2 (mkOf x)) := by
            rw [ed, if_pos ew, e]
            show (match k.m.q.find? (fun y => decide (mkOf y = mkOf x)) with | some x' => (k.beat x', mD2 (mkOf x)) | none => (k, .none)) = _
            rw [find_mark hI.good.okm.nd hx]
          refine fin _ H' M' R' ?_ h2 ?_
          · rw [e2]; exact h1
          · rw [e2]; exact .tup hp (.cons (.int _) (.cons (.int _) .nil))
    | ask =>
      obtain ⟨xs, ha, tx⟩ := td_tup tst
      cases tx with
      | cons t1 tx =>
        cases t1
        cases tx
        refine cs_miss (SqT.of ha) (by decide +kernel) (.inl (by simp)) ?_
        refine cs_miss (SqT.of ha) (by decide +kernel) (.inl (by simp)) ?_
        refine cs_miss (SqT.of ha) (by decide +kernel) (.inr (by decide)) ?_
        refine cs_miss (SqT.of ha) (by decide +kernel) (.inr (by decide)) ?_
        refine cs_miss (SqT.of ha) (by decide +kernel) (.inr (by decide)) ?_
        refine cs_hit0 (SqT.of ha) (by decide +kernel) ?_
        refine ⟨_, rfl, o.s, o.dx, _, rfl, ho, sf_no (by decide), o, z, room, B, M, R, k, rfl, hI, hz8, hB, fun H' M' R' h1 h2 => ?_⟩
        exact fin _ H' M' R' h1 h2 .non
    | hear u j =>
      obtain ⟨xs, ha, tx⟩ := td_tup tst
      cases tx with
      | cons t1 tx =>
        cases t1
        cases tx with
        | cons t2 tx =>
          cases t2
          cases tx with
          | cons t3 tx =>
            cases t3
            cases tx
            refine cs_miss (SqT.of ha) (by decide +kernel) (.inr (by decide)) ?_
            refine cs_miss (SqT.of ha) (by decide +kernel) (.inl (by simp)) ?_
            refine cs_miss (SqT.of ha) (by decide +kernel) (.inl (by simp)) ?_
            refine cs_miss (SqT.of ha) (by decide +kernel) (.inl (by simp)) ?_
            refine cs_miss (SqT.of ha) (by decide +kernel) (.inl (by simp)) ?_
            refine cs_miss (SqT.of ha) (by decide +kernel) (.inl (by simp)) ?_
            refine cs_miss (SqT.of ha) (by decide +kernel) (.inl (by simp)) ?_
            refine cs_hit2 (SqT.of ha) (by decide +kernel) ?_
            refine ⟨_, rfl, o.s, o.dx, _, rfl, ho, sf_no (by decide), _, rfl, _, rfl, o, z, room, B, M, R, k, u, j, rfl, hI, hz8, hz24, by omega, fun H1 M1 R1 h1 to1 => ?_⟩
            refine ⟨_, rfl, o.s, o.dx, _, rfl, h1.obj, sf_no (by decide), _, rfl, _, rfl, o, z, room, B + 30, M1, R1, k.hear u j, u, j, rfl, h1, hst, by omega, fun H2 M2 R2 h2 to2 => ?_⟩
            exact fin _ H2 M2 R2 h2 (to1.trans to2) .non
    | lose u j =>
      obtain ⟨xs, ha, tx⟩ := td_tup tst
      cases tx with
      | cons t1 tx =>
        cases t1
        cases tx with
        | cons t2 tx =>
          cases t2
          cases tx with
          | cons t3 tx =>
            cases t3
            cases tx
            refine cs_miss (SqT.of ha) (by decide +kernel) (.inr (by decide)) ?_
            refine cs_miss (SqT.of ha) (by decide +kernel) (.inl (by simp)) ?_
            refine cs_miss (SqT.of ha) (by decide +kernel) (.inl (by simp)) ?_
            refine cs_miss (SqT.of ha) (by decide +kernel) (.inl (by simp)) ?_
            refine cs_miss (SqT.of ha) (by decide +kernel) (.inl (by simp)) ?_
            refine cs_miss (SqT.of ha) (by decide +kernel) (.inl (by simp)) ?_
            refine cs_miss (SqT.of ha) (by decide +kernel) (.inl (by simp)) ?_
            refine cs_miss (SqT.of ha) (by decide +kernel) (.inr (by decide)) ?_
            refine cs_hit2 (SqT.of ha) (by decide +kernel) ?_
            refine ⟨_, rfl, o.s, o.dx, _, rfl, ho, sf_no (by decide), _, rfl, _, rfl, o, z, room, B, M, R, k, u, j, rfl, hI, hst, by omega, fun H2 M2 R2 h2 to2 => ?_⟩
            exact fin _ H2 M2 R2 (h2.more (by omega)) to2 .non
    | twice u j =>
      obtain ⟨xs, ha, tx⟩ := td_tup tst
      cases tx with
      | cons t1 tx =>
        cases t1
        cases tx with
        | cons t2 tx =>
          cases t2
          cases tx with
          | cons t3 tx =>
            cases t3
            cases tx
            refine cs_miss (SqT.of ha) (by decide +kernel) (.inr (by decide)) ?_
            refine cs_miss (SqT.of ha) (by decide +kernel) (.inl (by simp)) ?_
            refine cs_miss (SqT.of ha) (by decide +kernel) (.inl (by simp)) ?_
            refine cs_miss (SqT.of ha) (by decide +kernel) (.inl (by simp)) ?_
            refine cs_miss (SqT.of ha) (by decide +kernel) (.inl (by simp)) ?_
            refine cs_miss (SqT.of ha) (by decide +kernel) (.inl (by simp)) ?_
            refine cs_miss (SqT.of ha) (by decide +kernel) (.inl (by simp)) ?_
            refine cs_miss (SqT.of ha) (by decide +kernel) (.inr (by decide)) ?_
            refine cs_miss (SqT.of ha) (by decide +kernel) (.inr (by decide)) ?_
            refine cs_hit2 (SqT.of ha) (by decide +kernel) ?_
            refine ⟨_, rfl, o.s, o.dx, _, rfl, ho, sf_no (by decide), _, rfl, _, rfl, o, z, room, B, M, R, k, u, j, rfl, hI, hz8, hz24, by omega, fun H1 M1 R1 h1 to1 => ?_⟩
            exact fin _ H1 M1 R1 h1 to1 .non
/-! ### log -/
def sk_log (c : Cl) : Sp := fun vs H Q _ => ∃ (o : So) (z room B : Nat) (M R : List Addr) (k : Sk), vs = [.ref o.s] ∧ SkI c z room B H o M R k ∧
  ∀ r xs H', H' r = some (.lst xs) → TDs H' xs (k.lg.map entD) → H r = none → Same H H' → Q (.ref r) H'
theorem ok_Sky_log (T : Tx K mg) : FnOk P w K mg base CX0 1 T.a_Sky_log T.d_Sky_log ["self"] (sk_log (clT T)) := by
  have nd := sc_Sky_log.nd
  refine T.F_Sky_log.ok sc_Sky_log (fun vs H Q E h => ?_) (fun cdv A0 outer s0 H vs Q E hr h => ?_)
  · obtain ⟨_, _, _, _, _, _, _, rfl, _⟩ := h
    rfl
  · obtain ⟨o, z, room, B, M, R, k, rfl, ⟨ps, ul, hS, rfl, rfl⟩, fin⟩ := h
    obtain ⟨ev, he, te⟩ := hS.en
    refine ⟨_, (pss_one (ps_ret (pe_callTy call_list_of (by rfl) T.z_list (by decide +kernel) (pa_cons (pe_fld (pv 0) rfl) pa_nil)))), ?_⟩
    refine ⟨_, rfl, o.s, _, o.dx, _, _, rfl, hS.ob, T.cl_Sky, T.n_Sky_entries, sf_entries, o.en, ev, rfl, .inl (SqL.of he), fun p hp => ?_⟩
    have s1 := same_new (Same.refl H) hp (o := .lst ev)
    exact fin p ev _ upd_same (te.mono (TSm.of_same s1)) hp s1
end
end K20

namespace K20
open PySem PySem.Spec PyProof.Rows L2 Sky
def Sk.rows (z : Nat) (k : Sk) (i : Nat) : List PyData := match k.sl[i]? with
  | some n => rowsD n.2 0 (toldL z n.2 (cssOf (k.cf.map mkOf) i))
  | none => []
def shownD (z : Nat) (k : Sk) : PyData := .tuple [.list (k.m.q.map (keptD k.m)), .list (k.m.gone.map mD2), .list ((List.range 4).map fun i => .list (k.rows z i)), .int ((k.dn.length : Nat) : Int), .int ((k.up.length : Nat) : Int)]
structure ShAt (z : Nat) (k : Sk) (H0 H : Hp) (r a1 a2 a3 : Addr) (x1 x2 : List V) (bs : List Addr) : Prop where
  r : H r = some (.tup [.ref a1, .ref a2, .ref a3, .int ((k.dn.length : Nat) : Int), .int ((k.up.length : Nat) : Int)])
  h1 : H a1 = some (.lst x1)
  t1 : TDs H x1 (k.m.q.map (keptD k.m))
  h2 : H a2 = some (.lst x2)
  t2 : TDs H x2 (k.m.gone.map mD2)
  h3 : H a3 = some (.lst (bs.map V.ref))
  l3 : bs.length = 4
  t3 : ∀ (i : Nat) b, bs[i]? = some b → ∃ ys, H b = some (.lst ys) ∧ TDs H ys (k.rows z i)
  new : H0 a1 = none ∧ H0 a2 = none ∧ H0 a3 = none ∧ ∀ b ∈ bs, H0 b = none
  same : Same H0 H
theorem dps_of {K : PySem.W.Frag} {H : Hp} {f : Nat → List PyData} : ∀ {bs : List Addr} {n : Nat}, (∀ (i : Nat) b, bs[i]? = some b → ∃ ys, H b = some (.lst ys) ∧ TDs H ys (f (n + i))) → DpAll K H (bs.map V.ref) ((List.range' n bs.length).map fun i => PyData.list (f i))
  | [], n, _ => .nil
  | b :: bs, n, h => by
    obtain ⟨ys, h1, h2⟩ := h 0 b rfl
    rw [List.length_cons, List.range'_succ]
    refine .cons (.lst (SqL.of h1) h2.dp) (dps_of fun i c hc => ?_)
    have := h (i + 1) c (by simpa using hc)
    rw [show n + (i + 1) = n + 1 + i by omega] at this
    exact this
theorem ShAt.dp {K : PySem.W.Frag} {z : Nat} {k : Sk} {H0 H : Hp} {r a1 a2 a3 : Addr} {x1 x2 : List V} {bs : List Addr} (h : ShAt z k H0 H r a1 a2 a3 x1 x2 bs) : Dp K H (.ref r) (shownD z k) := by
  refine .tup (SqT.of h.r) (.cons (.lst (SqL.of h.h1) h.t1.dp) (.cons (.lst (SqL.of h.h2) h.t2.dp) (.cons (.lst (SqL.of h.h3) ?_) (.cons (.int _) (.cons (.int _) .nil)))))
  have := dps_of (K := K) (f := fun i => k.rows z i) (bs := bs) (n := 0) fun i b hb => by rw [Nat.zero_add]; exact h.t3 i b hb
  rw [h.l3, ← List.range_eq_range'] at this
  exact this
section
variable {P : Program} {w : World} {K : PySem.W.Frag} {mg : Str → Option Value} {base : Heap}
/-! ### shown -/
def sk_shown (c : Cl) : Sp := fun vs H Q _ => ∃ (o : So) (z room B : Nat) (M R : List Addr) (k : Sk), vs = [.ref o.s] ∧ SkI c z room B H o M R k ∧ 8 ≤ z ∧ z ≤ 24 ∧ B ≤ 60000 ∧
  ∀ r a1 a2 a3 x1 x2 bs H', ShAt z k H H' r a1 a2 a3 x1 x2 bs → Q (.ref r) H'
theorem cf_len {z room B : Nat} {k : Sk} (hz : 8 ≤ z) (h : Good z room B k) (hB : B ≤ 60000) : k.cf.length ≤ 40000 := by
  have e3 : (k.cf.map mkOf).length ≤ ((List.range 4).flatMap fun i => (List.range 10000).map fun c => (i, c)).length := len_of_sub h.cn fun j hj => by
    obtain ⟨a, b⟩ := h.smallC hz hB j hj
    exact List.mem_flatMap.mpr ⟨j.1, List.mem_range.mpr a, List.mem_map.mpr ⟨j.2, List.mem_range.mpr b, rfl⟩⟩
  have e4 := flat_len (f := fun i => (List.range 10000).map fun c => (i, c)) (m := 10000) (fun i => by rw [List.length_map, List.length_range]) 4
  rw [List.length_map, e4] at e3
  exact e3
theorem ok_Sky_shown (T : Tx K mg) : FnOk P w K mg base CX0 8 T.a_Sky_shown T.d_Sky_shown ["self"] (sk_shown (clT T)) := by
  have nd := sc_Sky_shown.nd
  refine T.F_Sky_shown.ok sc_Sky_shown (fun vs H Q E h => ?_) (fun cdv A0 outer s0 H vs Q E hr h => ?_)
  · obtain ⟨_, _, _, _, _, _, _, rfl, _⟩ := h
    rfl
  · obtain ⟨o, z, room, B, M, R, k, rfl, ⟨ps, ul, hS, rfl, rfl⟩, hz8, hz24, hB, fin⟩ := h
    have hcl := cf_len hz8 hS.good hB
    have nog : ∀ mn : Str, mn ∉ GF → (gf ((z : Nat) : Int) o.lc o.nv).lookup mn = none := fun mn h => lookup_zip_none GF _ mn h
    refine ⟨_, (pss_cons (ps_setLc (i := 1) (own := [("stream", 2)]) rfl nd rfl rfl (sw_true rfl rfl rfl (by decide +kernel)) (pi_range1 rfl T.z_range (pa_cons (pe_glob (v := .int 4) (by rfl) T.c_STREAMS ⟨_, rfl⟩) pa_nil)) (blkOk_by (own := [("stream", 2)]) (N := N_Sky_shown) (sc := defScope s_Sky_shown) (by decide +kernel)) (fun _ _ _ _ _ => (pg_name (i := 2) nd rfl (Or.inl rfl))) (fun _ _ _ _ _ => pts_nil) (fun _ _ _ _ _ => (pe_meth (pe_fldK (K := K) rfl (pv 0) rfl) T.cl_Ground T.M_Ground_rows (ok_Ground_rows T) (hr.mono (by decide)) T.b_Ground_rows .nil pass0 (pa_cons (pv 2) pa_nil)))) (pss_one (ps_ret (pe_tup (pa_cons (pe_meth0 (pe_fld (pv 0) rfl) T.cl_Craft T.M_Craft_kept (ok_Craft_kept T) (hr.mono (by decide)) T.b_Craft_kept .nil pass0) (pa_cons (pe_meth0 (pe_fld (pv 0) rfl) T.cl_Craft T.M_Craft_lost (ok_Craft_lost T) (hr.mono (by decide)) T.b_Craft_lost .nil pass0) (pa_cons (pv 1) (pa_cons (pe_callB call_len_seq (by rfl) T.z_len PySem.boot_len (pa_cons (pe_dget (hu_of hr) (pe_fld (pv 0) rfl) pe_str (fun _ _ => rfl)) pa_nil)) (pa_cons (pe_callB call_len_seq (by rfl) T.z_len PySem.boot_len (pa_cons (pe_dget (hu_of hr) (pe_fld (pv 0) rfl) pe_str (fun _ _ => rfl)) pa_nil)) pa_nil))))))))), ?_⟩
    refine ⟨4, rfl, by decide, by decide, fun D hD => ?_⟩
    refine lc_range (lo := 0) (n := 4) (fun i H' => ∃ bs : List Addr, H' D = some (.lst (bs.map V.ref)) ∧ bs.length = i ∧ (∀ (j : Nat) b, bs[j]? = some b → ∃ ys, H' b = some (.lst ys) ∧ TDs H' ys (k.rows z j)) ∧ (∀ b ∈ bs, H b = none ∧ b ≠ D) ∧ Same H H') ⟨[], upd_same, rfl, fun j b e => (by simp at e), fun b hb => (by cases hb), same_new (Same.refl _) hD⟩ ?_ ?_
    · rintro i H1 hi ⟨bs, hbs, hbl, hall, hfr, s1⟩
      rw [show (0 : Int) + ((i : Nat) : Int) = ((i : Nat) : Int) from Int.zero_add _]
      have hS1 := hS.same s1
      obtain ⟨cm, nev, hG, h1, h2, h3, h4⟩ := hS1.gr
      obtain ⟨da, hda⟩ : ∃ da, o.ds[i]? = some da := ⟨o.ds[i]'(by rw [hG.four]; exact hi), List.getElem?_eq_getElem _⟩
      obtain ⟨kvs, hkv⟩ : ∃ kvs, cm[i]? = some kvs := ⟨cm[i]'(by rw [hG.cl]; exact hi), List.getElem?_eq_getElem _⟩
      obtain ⟨n, hn⟩ : ∃ n, k.sl[i]? = some n := ⟨_, List.getElem?_eq_getElem (by rw [hS.good.four]; exact hi)⟩
      have hm := List.mem_of_getElem? hn
      have hb := hS.good.big n hm
      have ed : (cfS k.cf i).map xD = ((cssOf (k.cf.map mkOf) i).map (frm z n.1 (n.2.map (·.1)))).map (frmD ((i : Nat) : Int)) := by
        rw [← cf_css, List.map_map, List.map_map]
        refine List.map_congr_left fun x hx => ?_
        obtain ⟨hx1, hx2⟩ := List.mem_filter.mp hx
        have hx3 : x.1 = i := of_decide_eq_true hx2
        obtain ⟨n', g1, g2, g3⟩ := hS.good.cm x hx1
        rw [hx3, hn] at g1
        cases g1
        show frmD ((x.1 : Nat) : Int) x.2 = frmD ((i : Nat) : Int) (frm z n.1 (n.2.map (·.1)) x.2.1)
        rw [hx3, ← g3]
      have td := (h1 i kvs hkv).2
      rw [ed] at td
      have hcs : (cssOf (k.cf.map mkOf) i).length ≤ 40000 := by
        have := css_len (k.cf.map mkOf) i
        rw [List.length_map] at this
        omega
      refine ⟨rfl, _, rfl, o.s, _, o.dx, _, _, rfl, hS1.ob, T.cl_Sky, T.n_Sky_ground, sf_ground, o.g, o.gx, _, rfl, hG.o, nog _ (by decide), _, rfl, o.g, o.gx, o.lc, o.nv, da, o.ds, z, i, n.1, n.2, cssOf (k.cf.map mkOf) i, cm, nev, kvs, rfl, hG, hda, hkv, td, hS.good.lay n hm, hz8, hz24, fun c hc => ?_, by omega, by omega, by omega, fun r xs H2 hr2 tr2 nr2 s2 => ?_⟩
      · obtain ⟨x, hx, e⟩ := List.mem_map.mp (mem_css.mp hc)
        have g := (hS.good.cm x hx).k
        rw [e] at g
        have := MadeK.small hz8 hS.good (by omega) g
        obtain ⟨n', g1, g2⟩ := g
        change k.sl[i]? = some n' at g1
        rw [hn] at g1
        cases g1
        exact ⟨by have h9 : c ≤ 7499 := this.2; omega, g2⟩
      · have hD2 := s2 _ _ hbs
        have nrD : r ≠ D := fun e => by rw [e, hbs] at nr2; cases nr2
        have erow : k.rows z i = rowsD n.2 0 (toldL z n.2 (cssOf (k.cf.map mkOf) i)) := by
          show (match k.sl[i]? with | some n => _ | none => _) = _
          rw [hn]
        have t3 : TSm H2 (upd H2 D (.lst (bs.map V.ref ++ [.ref r]))) := ts_upd (TSm.refl _) (NoT.lst hD2)
        refine ⟨_, hD2, lt_line (by rw [List.length_map]; omega), bs ++ [r], by rw [upd_same, List.map_append]; rfl, by rw [List.length_append, hbl]; rfl, fun j b hj => ?_, fun b hb => ?_, same_mut (s1.trans s2) hD⟩
        · by_cases hjl : j < bs.length
          · rw [List.getElem?_append_left hjl] at hj
            obtain ⟨ys, y1, y2⟩ := hall j b hj
            refine ⟨ys, ?_, (y2.mono (TSm.of_same s2)).mono t3⟩
            rw [upd_ne (hfr b (List.mem_of_getElem? hj)).2]
            exact s2 _ _ y1
          · have hj2 : j = bs.length := by
              have := (List.getElem?_eq_some_iff.mp hj).1
              rw [List.length_append, List.length_singleton] at this
              omega
            subst hj2
            rw [List.getElem?_append_right (Nat.le_refl _), Nat.sub_self] at hj
            have ej := Option.some.inj hj
            subst ej
            refine ⟨xs, by rw [upd_ne nrD]; exact hr2, ?_⟩
            rw [hbl, erow]
            exact tr2.mono t3
        · rcases List.mem_append.mp hb with e | e
          · exact hfr b e
          · rw [List.mem_singleton.mp e]
            exact ⟨s1.free nr2, nrD⟩
    · rintro H1 ⟨bs, hbs, hbl, hall, hfr, s1⟩
      have hS1 := hS.same s1
      obtain ⟨qv, gs, hC⟩ := hS1.cr
      refine ⟨_, rfl, o.s, _, o.dx, _, _, rfl, hS1.ob, T.cl_Sky, T.n_Sky_craft, sf_craft, o.A.c, o.A.dx, _, rfl, hC.o, cf_no (by decide), o.A, ps, room, z, k.ns, k.m, qv, gs, rfl, hC, fun p1 us1 H2 hp1 tp1 np1 s2 => ?_⟩
      have hS2 := hS1.same s2
      have hC2 := hC.same s2
      refine ⟨_, rfl, o.s, _, o.dx, _, _, rfl, hS2.ob, T.cl_Sky, T.n_Sky_craft, sf_craft, o.A.c, o.A.dx, _, rfl, hC2.o, cf_no (by decide), o.A, ps, room, z, k.ns, k.m, qv, gs, rfl, hC2, fun p2 H3 hp2 tp2 np2 s3 => ?_⟩
      have hS3 := hS2.same s3
      obtain ⟨dv, hd, td⟩ := hS3.dn
      refine ⟨_, rfl, _, rfl, o.s, _, o.dx, _, _, rfl, hS3.ob, T.cl_Sky, T.n_Sky_roads, sf_roads, o.rd, .ref o.dn, rfl, DGet.down hS3.rd, o.dn, dv, rfl, .inl (SqL.of hd), ?_⟩
      refine ⟨_, rfl, o.s, _, o.dx, _, _, rfl, hS3.ob, T.cl_Sky, T.n_Sky_roads, sf_roads, o.rd, .ref o.up, rfl, DGet.upw hS3.rd, o.up, _, rfl, .inl (SqL.of hS3.up), (by decide : (5 : Nat) ≤ sizeLine), fun r hr2 => ?_⟩
      have edl : dv.length = k.dn.length := by rw [td.length, List.length_map]
      have eul : (ul.map fun l => V.ref l.t).length = k.up.length := by rw [List.length_map, hS.ull]
      rw [edl, eul]
      have s4 := same_new (Same.refl H3) hr2 (o := .tup [.ref p1, .ref p2, .ref D, .int ((k.dn.length : Nat) : Int), .int ((k.up.length : Nat) : Int)])
      have s14 := (s2.trans s3).trans s4
      refine fin r p1 p2 D us1 gs bs _ ⟨upd_same, (s3.trans s4) _ _ hp1, tp1.mono (TSm.of_same (s3.trans s4)), s4 _ _ hp2, tp2.mono (TSm.of_same s4), s14 _ _ hbs, hbl, fun i b hb => ?_, ⟨s1.free np1, (s1.trans s2).free np2, hD, fun b hb => (hfr b hb).1⟩, s1.trans s14⟩
      obtain ⟨ys, y1, y2⟩ := hall i b hb
      exact ⟨ys, s14 _ _ y1, y2.mono (TSm.of_same s14)⟩
end
end K20

namespace K20
open PySem PySem.Spec PyProof.Rows L2 Sky
theorem merge_rd (o : So) : mergeK [] (rdD o) = rdD o := rfl
section
variable {P : Program} {w : World} {K : PySem.W.Frag} {mg : Str → Option Value} {base : Heap}
/-! ### __init__ -/
def sk_init (c : Cl) : Sp := fun vs H Q _ => ∃ (s dx : Addr) (z room : Nat), vs = [.ref s, .int (z : Nat), .int (room : Nat)] ∧ H s = some (.ins c.S dx []) ∧ 8 ≤ z ∧ z ≤ 24 ∧ 1 ≤ room ∧ room ≤ 60 ∧
  ∀ o M R H', o.s = s → SkI c z room 0 H' o M R Sk.new → (∀ a ∈ M ++ R, a = s ∨ H a = none) → Keep [s] H H' → Dom H H' → Q .non H'
theorem ok_Sky_init (T : Tx K mg) : FnOk P w K mg base CX0 5 T.a_Sky_init T.d_Sky_init ["self", "size", "room"] (sk_init (clT T)) := by
  have nd := sc_Sky_init.nd
  refine T.F_Sky_init.ok sc_Sky_init (fun vs H Q E h => ?_) (fun cdv A0 outer s0 H vs Q E hr h => ?_)
  · obtain ⟨_, _, _, _, rfl, _⟩ := h
    rfl
  · obtain ⟨s, dx, z, room, rfl, hs, hz8, hz24, hr1, hr60, fin⟩ := h
    change H s = some (.ins T.A_Sky dx []) at hs
    refine ⟨_, (pss_cons (ps_fld (pv 0) (pe_make T.mk_Craft (ok_Craft_init T) (hr.mono (by decide)) (by rfl) T.m_Craft T.b_Craft_init .nil pass0 (pa_cons (pv 1) (pa_cons (pv 2) pa_nil))) rfl) (pss_cons (ps_fld (pv 0) (pe_make T.mk_Ground (ok_Ground_init T) (hr.mono (by decide)) (by rfl) T.m_Ground T.b_Ground_init .nil pass0 (pa_cons (pv 1) pa_nil)) rfl) (pss_cons (ps_fld (pv 0) (pe_disp (pps_cons pe_str (pe_lst pa_nil) (pps_cons pe_str (pe_lst pa_nil) pps_nil)) (by rfl) (by rfl) (fun z => by cases z) (by decide)) rfl) (pss_one (ps_fld (pv 0) (pe_lst pa_nil) rfl))))), ?_⟩
    -- the craft
    refine ⟨_, rfl, _, rfl, fun cr cx hc hcx ncx => ⟨cr, cx, z, room, rfl, upd_same, hz8, hz24, hr1, hr60, fun A ps H1 eA hC hcM k1 d1 => ⟨rfl, ?_⟩⟩⟩
    have sa : Same H (upd (upd H cx (.own cr)) cr (.ins T.A_Craft cx [])) := same_mut (same_new (Same.refl _) hcx) hc
    have s1 : Same H H1 := k1.same sa (by intro x hx; rw [List.mem_singleton.mp hx]; exact hc)
    have fr1 : ∀ x ∈ cM A ps, H x = none := fun x hx => by
      rcases hcM x hx with e | e
      · rw [e]; exact hc
      · exact sa.free e
    have hs1 := s1 _ _ hs
    subst eA
    clear k1 d1 hcM hc hcx ncx sa
    refine ⟨_, rfl, s, _, dx, _, rfl, hs1, T.cl_Sky, T.n_Sky_craft, (by decide), ?_⟩
    have e2 : putF "_craft" (V.ref A.c) [] = (SF.take 1).zip [.ref A.c] := rfl
    rw [e2]
    have hs2 : upd H1 s (.ins T.A_Sky dx ((SF.take 1).zip [.ref A.c])) s = some (.ins T.A_Sky dx ((SF.take 1).zip [.ref A.c])) := upd_same
    have k2 : Keep [s] H1 (upd H1 s (.ins T.A_Sky dx ((SF.take 1).zip [.ref A.c]))) := keep_upd (Keep.refl _ _) (by simp)
    have d2 : Dom H1 (upd H1 s (.ins T.A_Sky dx ((SF.take 1).zip [.ref A.c]))) := dom_upd _ _ _
    generalize upd H1 s (.ins T.A_Sky dx ((SF.take 1).zip [.ref A.c])) = H2 at *
    -- the ground
    refine ⟨_, rfl, fun g gx hg hgx ngx => ⟨g, gx, z, rfl, upd_same, hz8, hz24, fun lc nv ds H3 hG hlc hnv hds k3 d3 => ⟨rfl, ?_⟩⟩⟩
    have sa3 : Same H2 (upd (upd H2 gx (.own g)) g (.ins T.A_Ground gx [])) := same_mut (same_new (Same.refl _) hgx) hg
    have s3 : Same H2 H3 := k3.same sa3 (by intro x hx; rw [List.mem_singleton.mp hx]; exact hg)
    have hlc2 := sa3.free hlc
    have hnv2 := sa3.free hnv
    have hds2 : ∀ d ∈ ds, H2 d = none := fun d hd => sa3.free (hds d hd)
    have hs3 := s3 _ _ hs2
    clear k3 d3 hgx ngx sa3 hlc hnv hds
    refine ⟨_, rfl, s, _, dx, _, rfl, hs3, T.cl_Sky, T.n_Sky_ground, (Nat.lt_of_le_of_lt (zip_len _ _) (by decide)), ?_⟩
    have e4 : putF "_ground" (V.ref g) ((SF.take 1).zip [.ref A.c]) = (SF.take 2).zip [.ref A.c, .ref g] := rfl
    rw [e4]
    have hs4 : upd H3 s (.ins T.A_Sky dx ((SF.take 2).zip [.ref A.c, .ref g])) s = some (.ins T.A_Sky dx ((SF.take 2).zip [.ref A.c, .ref g])) := upd_same
    have k4 : Keep [s] H3 (upd H3 s (.ins T.A_Sky dx ((SF.take 2).zip [.ref A.c, .ref g]))) := keep_upd (Keep.refl _ _) (by simp)
    have d4 : Dom H3 (upd H3 s (.ins T.A_Sky dx ((SF.take 2).zip [.ref A.c, .ref g]))) := dom_upd _ _ _
    generalize upd H3 s (.ins T.A_Sky dx ((SF.take 2).zip [.ref A.c, .ref g])) = H4 at *
    -- the roads
    intro rd hrd
    refine ⟨Nat.zero_le _, fun dn hdn => ⟨Nat.zero_le _, fun up hup => ?_⟩⟩
    have nrd : rd ≠ dn := ne_of_none upd_same hdn
    have s5 : Same (upd H4 rd (.dK [])) (upd (upd H4 rd (.dK [])) dn (.lst [])) := same_new (Same.refl _) hdn
    have hup5 : upd (upd H4 rd (.dK [])) dn (.lst []) up = none := hup
    have nru : rd ≠ up := ne_of_none (s5 _ _ upd_same) hup5
    have ndu : dn ≠ up := ne_of_none upd_same hup5
    have hup4 : H4 up = none := by
      rw [upd_ne ndu.symm, upd_ne nru.symm] at hup5
      exact hup5
    have hdn4 : H4 dn = none := by rw [upd_ne nrd.symm] at hdn; exact hdn
    refine ⟨by rw [upd_ne nru, upd_ne nrd]; exact upd_same, rdD ⟨s, dx, A, g, gx, lc, nv, ds, rd, dn, up, 0⟩, rfl, (show (2 : Nat) ≤ 15 by decide), ?_⟩
    rw [merge_rd]
    have k5 : Same H4 (upd (upd (upd (upd H4 rd (.dK [])) dn (.lst [])) up (.lst [])) rd (.dK (rdD ⟨s, dx, A, g, gx, lc, nv, ds, rd, dn, up, 0⟩))) := same_mut (same_new (same_new (same_new (Same.refl _) hrd) hdn) hup5) hrd
    have f1 : upd (upd (upd (upd H4 rd (.dK [])) dn (.lst [])) up (.lst [])) rd (.dK (rdD ⟨s, dx, A, g, gx, lc, nv, ds, rd, dn, up, 0⟩)) rd = some (.dK (rdD ⟨s, dx, A, g, gx, lc, nv, ds, rd, dn, up, 0⟩)) := upd_same
    have f2 : upd (upd (upd (upd H4 rd (.dK [])) dn (.lst [])) up (.lst [])) rd (.dK (rdD ⟨s, dx, A, g, gx, lc, nv, ds, rd, dn, up, 0⟩)) dn = some (.lst []) := by rw [upd_ne nrd.symm, upd_ne ndu]; exact upd_same
    have f3 : upd (upd (upd (upd H4 rd (.dK [])) dn (.lst [])) up (.lst [])) rd (.dK (rdD ⟨s, dx, A, g, gx, lc, nv, ds, rd, dn, up, 0⟩)) up = some (.lst []) := by rw [upd_ne nru.symm]; exact upd_same
    generalize upd (upd (upd (upd H4 rd (.dK [])) dn (.lst [])) up (.lst [])) rd (.dK (rdD ⟨s, dx, A, g, gx, lc, nv, ds, rd, dn, up, 0⟩)) = H5 at *
    have hs5 := k5 _ _ hs4
    refine ⟨_, rfl, s, _, dx, _, rfl, hs5, T.cl_Sky, T.n_Sky_roads, (Nat.lt_of_le_of_lt (zip_len _ _) (by decide)), ?_⟩
    have e6 : putF "_roads" (V.ref rd) ((SF.take 2).zip [.ref A.c, .ref g]) = (SF.take 3).zip [.ref A.c, .ref g, .ref rd] := rfl
    rw [e6]
    have hs6 : upd H5 s (.ins T.A_Sky dx ((SF.take 3).zip [.ref A.c, .ref g, .ref rd])) s = some (.ins T.A_Sky dx ((SF.take 3).zip [.ref A.c, .ref g, .ref rd])) := upd_same
    have k6 : Keep [s] H5 (upd H5 s (.ins T.A_Sky dx ((SF.take 3).zip [.ref A.c, .ref g, .ref rd]))) := keep_upd (Keep.refl _ _) (by simp)
    have d6 : Dom H5 (upd H5 s (.ins T.A_Sky dx ((SF.take 3).zip [.ref A.c, .ref g, .ref rd]))) := dom_upd _ _ _
    generalize upd H5 s (.ins T.A_Sky dx ((SF.take 3).zip [.ref A.c, .ref g, .ref rd])) = H6 at *
    -- the log
    refine ⟨Nat.zero_le _, fun en hen => ?_⟩
    have nse : s ≠ en := ne_of_none hs6 hen
    refine ⟨_, rfl, s, _, dx, _, rfl, (by rw [upd_ne nse]; exact hs6), T.cl_Sky, T.n_Sky_entries, (Nat.lt_of_le_of_lt (zip_len _ _) (by decide)), ?_⟩
    have e7 : putF "_entries" (V.ref en) ((SF.take 3).zip [.ref A.c, .ref g, .ref rd]) = sf ⟨s, dx, A, g, gx, lc, nv, ds, rd, dn, up, en⟩ := rfl
    rw [e7]
    generalize ho : (⟨s, dx, A, g, gx, lc, nv, ds, rd, dn, up, en⟩ : So) = o at *
    have hs7 : upd (upd H6 en (.lst [])) s (.ins T.A_Sky dx (sf o)) s = some (.ins T.A_Sky dx (sf o)) := upd_same
    have he7 : upd (upd H6 en (.lst [])) s (.ins T.A_Sky dx (sf o)) en = some (.lst []) := by rw [upd_ne nse.symm]; exact upd_same
    have k7 : Keep [s] H6 (upd (upd H6 en (.lst [])) s (.ins T.A_Sky dx (sf o))) := keep_upd (keep_new' (Keep.refl _ _) hen) (by simp)
    have d7 : Dom H6 (upd (upd H6 en (.lst [])) s (.ins T.A_Sky dx (sf o))) := ((Dom.refl _).upd _ _).upd _ _
    generalize upd (upd H6 en (.lst [])) s (.ins T.A_Sky dx (sf o)) = H7 at *
    -- all together
    have k57 : Keep [s] H5 H7 := k6.trans k7
    have k47 : Keep [s] H4 H7 := (Keep.of_same k5).trans k57
    have k37 : Keep [s] H3 H7 := k4.trans k47
    have k17 : Keep [s] H1 H7 := (k2.trans (Keep.of_same s3)).trans k37
    have hsC : ∀ a ∈ cM A ps, a ∉ [s] := fun a ha z => by
      have := fr1 a ha
      rw [List.mem_singleton.mp z, hs] at this
      cases this
    have ns1 : NoT H1 s := NoT.ins hs1
    have t17 : TSm H1 H7 := k17.ts fun a ha => by rw [List.mem_singleton.mp ha]; exact ns1
    have hC7 := hC.else k17 t17 hsC
    have hsG : ∀ a ∈ [g, lc, nv] ++ ds, a ∉ [s] := fun a ha z => by
      have ea := List.mem_singleton.mp z
      subst ea
      rcases List.mem_append.mp ha with e | e
      · simp only [List.mem_cons, List.not_mem_nil, or_false] at e
        rcases e with e | e | e
        · rw [← e, hs2] at hg; cases hg
        · rw [← e, hs2] at hlc2; cases hlc2
        · rw [← e, hs2] at hnv2; cases hnv2
      · have := hds2 _ e
        rw [hs2] at this; cases this
    have hG7 : GAt T.A_Ground H7 g gx lc nv ds z (List.replicate 4 []) [] := hG.else k37 hsG
    have rd7 := k57 _ _ (fun z => by rw [List.mem_singleton.mp z, hs5] at f1; cases f1) f1
    have dn7 := k57 _ _ (fun z => by rw [List.mem_singleton.mp z, hs5] at f2; cases f2) f2
    have up7 := k57 _ _ (fun z => by rw [List.mem_singleton.mp z, hs5] at f3; cases f3) f3
    -- who is new to whom
    have d12 : Dom H1 H2 := d2
    have d24 : Dom H2 H4 := (Dom.of_same s3).trans d4
    have d46 : Dom H4 H6 := (Dom.of_same k5).trans d6
    have inC : ∀ a ∈ cM A ps, ∃ u, H1 a = some u := fun a ha => (hC.noT a ha).2
    have newC : ∀ a ∈ cM A ps, ∀ b, H2 b = none → a ≠ b := fun a ha b hb e => by
      obtain ⟨u, hu⟩ := inC a ha
      rw [e, d12 _ hb] at hu; cases hu
    have inG : ∀ a ∈ [g, lc, nv] ++ ds, ∃ u, H3 a = some u := fun a ha => by
      rcases List.mem_append.mp ha with e | e
      · simp only [List.mem_cons, List.not_mem_nil, or_false] at e
        rcases e with e | e | e
        · rw [e]; exact ⟨_, hG.o⟩
        · rw [e]; exact ⟨_, hG.l⟩
        · rw [e]; exact ⟨_, hG.n⟩
      · obtain ⟨kvs, e2⟩ := hG.dks a e
        exact ⟨_, e2⟩
    have newG : ∀ a ∈ [g, lc, nv] ++ ds, ∀ b, H4 b = none → a ≠ b := fun a ha b hb e => by
      obtain ⟨u, hu⟩ := inG a ha
      rw [e, d4 _ hb] at hu; cases hu
    have hen4 : H4 en = none := d46 _ hen
    have new4 : ∀ b ∈ [rd, dn, up, en], H4 b = none := fun b hb => by
      simp only [List.mem_cons, List.not_mem_nil, or_false] at hb
      rcases hb with e | e | e | e
      · rw [e]; exact hrd
      · rw [e]; exact hdn4
      · rw [e]; exact hup4
      · rw [e]; exact hen4
    have newS : ∀ b, H4 b = none → s ≠ b := fun b hb e => by rw [← e, hs4] at hb; cases hb
    have hen5 : ∀ b ∈ [rd, dn, up], b ≠ en := fun b hb e => by
      have hn := d6 _ hen
      simp only [List.mem_cons, List.not_mem_nil, or_false] at hb
      rcases hb with x | x | x
      · rw [← e, x, f1] at hn; cases hn
      · rw [← e, x, f2] at hn; cases hn
      · rw [← e, x, f3] at hn; cases hn
    have hns : (Sk.new).ns = List.replicate 4 ([], []) := rfl
    have hS : SkAt (clT T) z room 0 H7 o ps [] Sk.new := by
      subst ho
      refine ⟨hs7, ⟨[], [], by rw [hns]; exact hC7⟩, fun x hx => (by cases hx), ⟨_, _, hG7, fun i kvs e => ?_, List.nodup_nil, fun j hj => (by cases hj), fun s c => rfl⟩, rd7, ⟨[], dn7, .nil⟩, up7, fun i l u e => (by simp at e), rfl, ⟨[], he7, .nil⟩, Good.new ⟨hr1, hr60⟩, fun a ha z => ?_, fun a ha z => ?_, fun a ha z => ?_, ?_, fun z => ?_⟩
      · obtain ⟨_, e2⟩ := List.mem_replicate.mp (List.mem_of_getElem? e)
        subst e2
        exact ⟨rfl, .nil⟩
      · -- apart
        have ha : a ∈ [s, g, lc] := by simpa [sR] using ha
        rcases List.mem_append.mp z with z | z
        · simp only [List.mem_cons, List.not_mem_nil, or_false] at ha
          rcases ha with e | e | e
          · exact hsC a z (by rw [e]; simp)
          · exact newC a z g hg e
          · exact newC a z lc hlc2 e
        · rcases List.mem_append.mp z with z | z
          · simp only [List.mem_cons, List.not_mem_nil, or_false] at ha
            obtain ⟨kvs, hk⟩ := hG7.dks a z
            rcases ha with e | e | e
            · rw [e, hs7] at hk; cases hk
            · rw [e, hG7.o] at hk; cases hk
            · rw [e, hG7.l] at hk; cases hk
          · rcases List.mem_cons.mp z with z | z
            · change a = nv at z
              simp only [List.mem_cons, List.not_mem_nil, or_false] at ha
              have hk := hG7.n
              rw [← z] at hk
              rcases ha with e | e | e
              · rw [e, hs7] at hk; cases hk
              · rw [e, hG7.o] at hk; cases hk
              · rw [e, hG7.l] at hk; cases hk
            · have hb := new4 a z
              simp only [List.mem_cons, List.not_mem_nil, or_false] at ha
              rcases ha with e | e | e
              · exact newS a hb e.symm
              · exact newG g (by simp) a hb e.symm
              · exact newG lc (by simp) a hb e.symm
      · -- cg
        rcases List.mem_append.mp z with z | z
        · exact newC a ha a (hds2 a z) rfl
        · rcases List.mem_cons.mp z with z | z
          · change a = nv at z
            exact newC a ha nv hnv2 z
          · have hb := new4 a z
            exact newC a ha a (d24 _ hb) rfl
      · -- gd
        have hb := new4 a z
        rcases List.mem_append.mp ha with e | e
        · exact newG a (List.mem_append_right _ e) a hb rfl
        · have e := List.mem_singleton.mp e
          change a = nv at e
          exact newG nv (by simp) a hb e.symm
      · show [rd, dn, up, en].Nodup
        simp only [List.nodup_cons, List.mem_cons, List.not_mem_nil, or_false, not_or, not_false_eq_true, List.nodup_nil, and_true]
        exact ⟨⟨nrd, nru, hen5 rd (by simp)⟩, ⟨ndu, hen5 dn (by simp)⟩, hen5 up (by simp)⟩
      · obtain ⟨kvs, hk⟩ := hG7.dks nv z
        rw [hG7.n] at hk; cases hk
    have k0 : Keep [s] H H7 := (Keep.of_same s1).trans k17
    have d0 : Dom H H7 := (Dom.of_same s1).trans (((d12.trans d24).trans d46).trans d7)
    refine fin o _ _ H7 (by rw [← ho]) ⟨ps, [], hS, rfl, rfl⟩ (fun a ha => ?_) k0 d0
    have h02 : ∀ b, H2 b = none → H b = none := fun b hb => s1.free (d12 _ hb)
    have h04 : ∀ b, H4 b = none → H b = none := fun b hb => h02 b (d24 _ hb)
    subst ho
    rcases List.mem_append.mp ha with z | z
    · rcases List.mem_append.mp z with z | z
      · exact .inr (fr1 a z)
      · rcases List.mem_append.mp z with z | z
        · exact .inr (h02 a (hds2 a z))
        · rcases List.mem_cons.mp z with z | z
          · change a = nv at z
            rw [z]; exact .inr (h02 nv hnv2)
          · exact .inr (h04 a (new4 a z))
    · have z : a ∈ [s, g, lc] := by simpa [sR] using z
      simp only [List.mem_cons, List.not_mem_nil, or_false] at z
      rcases z with e | e | e
      · exact .inl e
      · rw [e]; exact .inr (h02 g hg)
      · rw [e]; exact .inr (h02 lc hlc2)
end
end K20

namespace K20
open PySem PySem.Spec PyProof.Rows L2 Sky
section
variable {P : Program} {w : World} {K : PySem.W.Frag} {mg : Str → Option Value} {base : Heap}
def spx_check_stream (C : Addr) : Sp := fun vs H _ E => ∃ n : Int, vs = [.int n] ∧ (n < 0 ∨ 3 < n) ∧ E (.ref C) none H
theorem okx_check_stream (T : Tx K mg) {C : Addr} (e : ExC K mg "BadStream" C) : FnOk P w K mg base (L2.CX P w) 3 T.a_check_stream T.d_check_stream ["stream"] (spx_check_stream C) := by
  have nd := sc_check_stream.nd
  refine T.F_check_stream.okX sc_check_stream (fun vs H Q E h => ?_) (fun cdv A0 outer s0 H vs Q E hr h => ?_)
  · obtain ⟨_, rfl, _⟩ := h
    rfl
  · obtain ⟨n, rfl, hn, fin⟩ := h
    have tk : Takes (cxOf (L2.CX P w) P w K mg base N_check_stream "check_stream" (defScope s_check_stream) T.a_check_stream cdv A0 outer s0 H E) (fun cls d _ H => E cls d H) := takes_of rfl rfl rfl rfl
    refine ⟨_, (pss_one (ps_if (pt_not (pt_val (pe_call (ok_is_stream T) (hr.mono (by decide)) (by rfl) T.m_is_stream T.F_is_stream.kp T.b_is_stream .nil pass0 (pa_cons (pv 0) pa_nil)))) (pss_one (ps_raise rfl tk (pmk_own PySem.F.excBase_ValueError e.q e.g e.k (raises_own e.b e.t) rfl))) pss_nil)), ?_⟩
    refine ⟨_, rfl, n, rfl, ?_⟩
    have en : (decide (0 ≤ n) && decide (n ≤ 3)) = false := by
      rcases hn with h | h
      · rw [decide_eq_false (by omega)]; rfl
      · rw [decide_eq_false (show ¬ n ≤ 3 by omega), Bool.and_false]
    rw [en]
    exact ⟨false, rfl, iteT fin⟩
end
end K20

namespace K20
open PySem PySem.Spec PyProof.Rows L2 Sky
def numOk (x : Int) : Bool := decide (0 ≤ x) && decide (x ≤ 255)
section
variable {P : Program} {w : World} {K : PySem.W.Frag} {mg : Str → Option Value} {base : Heap}
def spG_holds_numbers : Sp := fun vs H Q _ => ∃ (a : Addr) (xs : List Int), vs = [.ref a] ∧ H a = some (.tup (xs.map V.int)) ∧ xs.length ≤ 100000 ∧ ∀ H', Same H H' → Q (.bl (xs.all numOk)) H'
theorem okG_holds_numbers (T : Tx K mg) : FnOk P w K mg base CX0 2 T.a_holds_numbers T.d_holds_numbers ["value"] spG_holds_numbers := by
  have nd := sc_holds_numbers.nd
  refine T.F_holds_numbers.ok sc_holds_numbers (fun vs H Q E h => ?_) (fun cdv A outer s H vs Q E hr h => ?_)
  · obtain ⟨n, _, rfl, _⟩ := h
    rfl
  · obtain ⟨a, xs, rfl, ha, hl, q⟩ := h
    refine ⟨_, (pss_one (ps_ret (pe_and (pe_callB call_isi (by rfl) T.z_isinstance (by decide +kernel) (pa_cons (pv 0) (pa_cons (pe_bltn (v := .ty "tuple") (u := .type "tuple") (by rfl) T.z_tuple (by decide +kernel) rfl) pa_nil))) (pe_one (pe_callB (cr_all rfl) (by rfl) T.z_all (by decide +kernel) (pa_cons (pe_lc (own := [("number", 1)]) rfl nd (pi_tup (pv 0)) (blkOk_by (own := [("number", 1)]) (N := N_holds_numbers) (sc := defScope s_holds_numbers) (by decide +kernel)) (fun _ _ _ _ _ => (pg_name (i := 1) nd rfl (Or.inl rfl))) (fun _ _ _ _ _ => pts_nil) (fun _ _ _ _ _ => (pe_call (ok_is_number T) (hr.mono (by decide)) (by rfl) T.m_is_number T.F_is_number.kp T.b_is_number .nil pass0 (pa_cons (pv 1) (pa_cons pe_int (pa_cons pe_int pa_nil)))))) pa_nil)))))), ?_⟩
    refine ⟨_, rfl, _, _, _, _, true, rfl, .ty "tuple", .base (.tup ha), kit_ty (by decide +kernel), true, rfl, iteT ?_⟩
    refine ⟨_, rfl, a, rfl, ⟨_, SqT.of ha⟩, fun D hD => ?_⟩
    refine lc_tup (K := K) (a := a) (xs := xs.map V.int) (fun i H' => Same H H' ∧ H' D = some (.lst (((xs.take i).map numOk).map V.bl))) ⟨same_new (Same.refl H) hD, upd_same⟩ (fun i H' _ p => SqT.of (p.1 _ _ ha)) ?_ ?_
    · intro i x H' hi p
      obtain ⟨n, hn, rfl⟩ := map_get hi
      have hlt : i < xs.length := (List.getElem?_eq_some_iff.mp hn).1
      refine ⟨rfl, _, rfl, n, 0, 255, rfl, ?_⟩
      refine ⟨_, p.2, ?_, same_mut p.1 hD, ?_⟩
      · rw [List.length_map, List.length_map, List.length_take]
        exact lt_line (by omega)
      · rw [upd_same, List.take_add_one, hn, Option.toList_some, List.map_append, List.map_append]
        rfl
    · intro H' p
      have hp := p.2
      rw [List.length_map, List.take_length] at hp
      refine ⟨D, xs.map numOk, rfl, SqL.of hp, ?_⟩
      have e : (xs.map numOk).all id = xs.all numOk := by rw [List.all_map]; rfl
      rw [e]
      exact q _ p.1
def spG_is_telling : Sp := fun vs H Q _ => ∃ (a : Addr) (xs : List Int), vs = [.ref a] ∧ H a = some (.tup (xs.map V.int)) ∧ xs.length ≤ 100000 ∧ ¬ tellOk xs ∧ ∀ H', Same H H' → Q (.bl false) H'
theorem okG_is_telling (T : Tx K mg) : FnOk P w K mg base CX0 3 T.a_is_telling T.d_is_telling ["value"] spG_is_telling := by
  have nd := sc_is_telling.nd
  refine T.F_is_telling.ok sc_is_telling (fun vs H Q E h => ?_) (fun cdv A outer s H vs Q E hr h => ?_)
  · obtain ⟨n, _, rfl, _⟩ := h
    rfl
  · obtain ⟨a, xs, rfl, ha, hl, hn, q⟩ := h
    refine ⟨_, (pss_one (ps_ret (pe_and (pe_call (okG_holds_numbers T) (hr.mono (by decide)) (by rfl) T.m_holds_numbers T.F_holds_numbers.kp T.b_holds_numbers .nil pass0 (pa_cons (pv 0) pa_nil)) (pe_one (pe_chain op_le op_le pe_int (pe_callB call_len_seq (by rfl) T.z_len PySem.boot_len (pa_cons (pv 0) pa_nil)) (pe_glob (v := .int 20) (by rfl) T.c_MOST_NUMBERS ⟨_, rfl⟩)))))), ?_⟩
    refine ⟨_, rfl, a, xs, rfl, ha, hl, fun H1 s1 => ⟨_, rfl, ?_⟩⟩
    cases hb : xs.all numOk with
    | false => exact iteF (q _ s1)
    | true =>
      refine iteT ⟨_, rfl, _, _, rfl, .inr (SqT.of (s1 _ _ ha)), _, _, rfl, rfl, _, rfl, ?_⟩
      have h255 : ∀ x ∈ xs, 0 ≤ x ∧ x ≤ 255 := fun x hx => by
        have := List.all_eq_true.mp hb x hx
        unfold numOk at this
        rw [Bool.and_eq_true] at this
        exact ⟨of_decide_eq_true this.1, of_decide_eq_true this.2⟩
      have elen : (((xs.map V.int).length : Nat) : Int) = (xs.length : Int) := by rw [List.length_map]
      refine ite2 (fun h1 => ?_) (fun _ => q _ s1)
      refine ⟨_, 20, rfl, rfl, ?_⟩
      have hle : decide (((xs.map V.int).length : Int) ≤ 20) = false := decide_eq_false fun h2 => hn ⟨by have := of_decide_eq_true h1; omega, by omega, h255⟩
      show Q (.bl (decide (((xs.map V.int).length : Int) ≤ 20))) H1
      rw [hle]
      exact q _ s1
def spx_check_telling (C : Addr) : Sp := fun vs H _ E => ∃ (a : Addr) (xs : List Int), vs = [.ref a] ∧ H a = some (.tup (xs.map V.int)) ∧ xs.length ≤ 100000 ∧ ¬ tellOk xs ∧ ∀ H', Same H H' → E (.ref C) none H'
theorem okx_check_telling (T : Tx K mg) {C : Addr} (e : ExC K mg "BadData" C) : FnOk P w K mg base (L2.CX P w) 4 T.a_check_telling T.d_check_telling ["telling"] (spx_check_telling C) := by
  have nd := sc_check_telling.nd
  refine T.F_check_telling.okX sc_check_telling (fun vs H Q E h => ?_) (fun cdv A0 outer s0 H vs Q E hr h => ?_)
  · obtain ⟨_, _, rfl, _⟩ := h
    rfl
  · obtain ⟨a, xs, rfl, ha, hl, hn, fin⟩ := h
    have tk : Takes (cxOf (L2.CX P w) P w K mg base N_check_telling "check_telling" (defScope s_check_telling) T.a_check_telling cdv A0 outer s0 H E) (fun cls d _ H => E cls d H) := takes_of rfl rfl rfl rfl
    refine ⟨_, (pss_one (ps_if (pt_not (pt_val (pe_call (okG_is_telling T) (hr.mono (by decide)) (by rfl) T.m_is_telling T.F_is_telling.kp T.b_is_telling .nil pass0 (pa_cons (pv 0) pa_nil)))) (pss_one (ps_raise rfl tk (pmk_own PySem.F.excBase_ValueError e.q e.g e.k (raises_own e.b e.t) rfl))) pss_nil)), ?_⟩
    exact ⟨_, rfl, a, xs, rfl, ha, hl, hn, fun H1 s1 => ⟨false, rfl, iteT (fin _ s1)⟩⟩
end
end K20

namespace K20
open PySem PySem.Spec PyProof.Rows L2 Sky
section
variable {P : Program} {w : World} {K : PySem.W.Frag} {mg : Str → Option Value} {base : Heap}
/-- a stream that is none, or a telling that is none -/
def badTell (Cs Cd : Addr) (n : Int) (t : Addr) (H : Hp) (E : XK) : Prop := ((n < 0 ∨ 3 < n) ∧ E (.ref Cs) none H) ∨ ((0 ≤ n ∧ n ≤ 3) ∧ ∃ xs : List Int, H t = some (.tup (xs.map V.int)) ∧ xs.length ≤ 100000 ∧ ¬ tellOk xs ∧ ∀ H', Same H H' → E (.ref Cd) none H')
def spx_tell (Cs Cd : Addr) : Sp := fun vs H _ E => ∃ (s : V) (n : Int) (t : Addr), vs = [s, .int n, .ref t] ∧ badTell Cs Cd n t H E
theorem okx_Craft_tell (T : Tx K mg) {Cs Cd : Addr} (eS : ExC K mg "BadStream" Cs) (eD : ExC K mg "BadData" Cd) : FnOk P w K mg base (L2.CX P w) 5 T.a_Craft_tell T.d_Craft_tell ["self", "stream", "data"] (spx_tell Cs Cd) := by
  have nd := sc_Craft_tell.nd
  refine T.F_Craft_tell.okX sc_Craft_tell (fun vs H Q E h => ?_) (fun cdv A0 outer s0 H vs Q E hr h => ?_)
  · obtain ⟨_, _, _, rfl, _⟩ := h
    rfl
  · obtain ⟨s, n, t, rfl, bad⟩ := h
    have tk : Takes (cxOf (L2.CX P w) P w K mg base N_Craft_tell "Craft.tell" (defScope s_Craft_tell) T.a_Craft_tell cdv A0 outer s0 H E) (fun cls d _ H => E cls d H) := takes_of rfl rfl rfl rfl
    refine ⟨_, (pss_cons (ps_expr (pe_call (fn_or (ok_check_stream T) (okx_check_stream T eS)) (hr.mono (by decide)) (by rfl) T.m_check_stream T.F_check_stream.kp T.b_check_stream .nil (passes_call tk (fun _ _ _ _ h => h)) (pa_cons (pv 1) pa_nil))) (pss_cons (ps_expr (pe_call (fn_or (ok_check_telling T) (okx_check_telling T eD)) (hr.mono (by decide)) (by rfl) T.m_check_telling T.F_check_telling.kp T.b_check_telling .nil (passes_call tk (fun _ _ _ _ h => h)) (pa_cons (pv 2) pa_nil))) (pss_cons (ps_set (i := 3) nd rfl (Or.inl rfl) (pe_ix ix_list (pe_fld (pv 0) rfl) (pv 1) (fun _ _ => rfl))) (pss_cons (ps_set (i := 4) nd rfl (Or.inl rfl) (pe_fld (pv 3) rfl)) (pss_cons (ps_for (passes_of rfl) rfl (pi_list (pe_meth (pv 3) T.cl_Laying T.M_Laying_lay (ok_Laying_lay T) (hr.mono (by decide)) T.b_Laying_lay .nil pass0 (pa_cons (pv 2) pa_nil))) (pg_name (i := 5) nd rfl (Or.inl rfl)) (pss_one (ps_expr (pe_meth (pv 0) T.cl_Craft T.M_Craft_keep (ok_Craft_keep T) (hr.mono (by decide)) T.b_Craft_keep .nil pass0 (pa_cons (pv 5) pa_nil))))) (pss_one (ps_ret (pv 4)))))))), ?_⟩
    rcases bad with ⟨hn, hE⟩ | ⟨⟨n0, n3⟩, xs, ht, hl, hx, hE⟩
    · exact ⟨_, rfl, .inr ⟨n, rfl, hn, hE⟩⟩
    · exact ⟨_, rfl, .inl ⟨n, rfl, n0, n3, _, rfl, .inr ⟨t, xs, rfl, ht, hl, hx, hE⟩⟩⟩
def spx_close (Cs : Addr) : Sp := fun vs H _ E => ∃ (s : V) (n : Int), vs = [s, .int n] ∧ (n < 0 ∨ 3 < n) ∧ E (.ref Cs) none H
theorem okx_Craft_close (T : Tx K mg) {Cs : Addr} (eS : ExC K mg "BadStream" Cs) : FnOk P w K mg base (L2.CX P w) 4 T.a_Craft_close T.d_Craft_close ["self", "stream"] (spx_close Cs) := by
  have nd := sc_Craft_close.nd
  refine T.F_Craft_close.okX sc_Craft_close (fun vs H Q E h => ?_) (fun cdv A0 outer s0 H vs Q E hr h => ?_)
  · obtain ⟨_, _, rfl, _⟩ := h
    rfl
  · obtain ⟨s, n, rfl, hn, hE⟩ := h
    have tk : Takes (cxOf (L2.CX P w) P w K mg base N_Craft_close "Craft.close" (defScope s_Craft_close) T.a_Craft_close cdv A0 outer s0 H E) (fun cls d _ H => E cls d H) := takes_of rfl rfl rfl rfl
    refine ⟨_, (pss_cons (ps_expr (pe_call (fn_or (ok_check_stream T) (okx_check_stream T eS)) (hr.mono (by decide)) (by rfl) T.m_check_stream T.F_check_stream.kp T.b_check_stream .nil (passes_call tk (fun _ _ _ _ h => h)) (pa_cons (pv 1) pa_nil))) (pss_cons (ps_set (i := 2) nd rfl (Or.inl rfl) (pe_meth0 (pe_ix ix_list (pe_fld (pv 0) rfl) (pv 1) (fun _ _ => rfl)) T.cl_Laying T.M_Laying_fill (ok_Laying_fill T) (hr.mono (by decide)) T.b_Laying_fill .nil pass0)) (pss_cons (ps_if (pt_cmpR op_isN (pv 2) pe_non (nomark _)) (pss_one (ps_ret pe_bl)) pss_nil) (pss_cons (ps_expr (pe_meth (pv 0) T.cl_Craft T.M_Craft_keep (ok_Craft_keep T) (hr.mono (by decide)) T.b_Craft_keep .nil pass0 (pa_cons (pv 2) pa_nil))) (pss_one (ps_ret pe_bl)))))), ?_⟩
    exact ⟨_, rfl, .inr ⟨n, rfl, hn, hE⟩⟩
end
end K20

namespace K20
open PySem PySem.Spec PyProof.Rows L2 Sky
section
variable {P : Program} {w : World} {K : PySem.W.Frag} {mg : Str → Option Value} {base : Heap}
def spx_sky_tell (Cs Cd : Addr) (c : Cl) : Sp := fun vs H _ E => ∃ (o : So) (z room B : Nat) (M R : List Addr) (k : Sk) (n : Int) (t : Addr), vs = [.ref o.s, .int n, .ref t] ∧ SkI c z room B H o M R k ∧ badTell Cs Cd n t H E
theorem okx_Sky_tell (T : Tx K mg) {Cs Cd : Addr} (eS : ExC K mg "BadStream" Cs) (eD : ExC K mg "BadData" Cd) : FnOk P w K mg base (L2.CX P w) 6 T.a_Sky_tell T.d_Sky_tell ["self", "stream", "telling"] (spx_sky_tell Cs Cd (clT T)) := by
  have nd := sc_Sky_tell.nd
  refine T.F_Sky_tell.okX sc_Sky_tell (fun vs H Q E h => ?_) (fun cdv A0 outer s0 H vs Q E hr h => ?_)
  · obtain ⟨_, _, _, _, _, _, _, _, _, rfl, _⟩ := h
    rfl
  · obtain ⟨o, z, room, B, M, R, k, n, t, rfl, ⟨ps, ul, hS, rfl, rfl⟩, bad⟩ := h
    obtain ⟨qv, gs, hC⟩ := hS.cr
    have tk : Takes (cxOf (L2.CX P w) P w K mg base N_Sky_tell "Sky._tell" (defScope s_Sky_tell) T.a_Sky_tell cdv A0 outer s0 H E) (fun cls d _ H => E cls d H) := takes_of rfl rfl rfl rfl
    refine ⟨_, (pss_cons (ps_set (i := 3) nd rfl (Or.inl rfl) (pe_meth (pe_fld (pv 0) rfl) T.cl_Craft T.M_Craft_tell (okx_Craft_tell T eS eD) (hr.mono (by decide)) T.b_Craft_tell .nil (passes_call tk (fun _ _ _ _ h => h)) (pa_cons (pv 1) (pa_cons (pv 2) pa_nil)))) (pss_cons (ps_expr (pe_bm PySem.F.plainAttrs_list PySem.F.slot_list_append PySem.F.type_list_append mt_append (pe_fld (pv 0) rfl) (pa_cons (pe_tup (pa_cons pe_str (pa_cons (pv 1) (pa_cons (pv 2) pa_nil)))) pa_nil))) (pss_one (ps_ret (pv 3))))), ?_⟩
    exact ⟨_, rfl, o.s, _, o.dx, _, _, rfl, hS.ob, T.cl_Sky, T.n_Sky_craft, sf_craft, o.A.c, o.A.dx, _, rfl, hC.o, cf_no (by decide), _, rfl, _, rfl, .ref o.A.c, n, t, rfl, bad⟩
def spx_sky_close (Cs : Addr) (c : Cl) : Sp := fun vs H _ E => ∃ (o : So) (z room B : Nat) (M R : List Addr) (k : Sk) (n : Int), vs = [.ref o.s, .int n] ∧ SkI c z room B H o M R k ∧ (n < 0 ∨ 3 < n) ∧ E (.ref Cs) none H
theorem okx_Sky_close (T : Tx K mg) {Cs : Addr} (eS : ExC K mg "BadStream" Cs) : FnOk P w K mg base (L2.CX P w) 5 T.a_Sky_close T.d_Sky_close ["self", "stream"] (spx_sky_close Cs (clT T)) := by
  have nd := sc_Sky_close.nd
  refine T.F_Sky_close.okX sc_Sky_close (fun vs H Q E h => ?_) (fun cdv A0 outer s0 H vs Q E hr h => ?_)
  · obtain ⟨_, _, _, _, _, _, _, _, rfl, _⟩ := h
    rfl
  · obtain ⟨o, z, room, B, M, R, k, n, rfl, ⟨ps, ul, hS, rfl, rfl⟩, hn, hE⟩ := h
    obtain ⟨qv, gs, hC⟩ := hS.cr
    have tk : Takes (cxOf (L2.CX P w) P w K mg base N_Sky_close "Sky._close" (defScope s_Sky_close) T.a_Sky_close cdv A0 outer s0 H E) (fun cls d _ H => E cls d H) := takes_of rfl rfl rfl rfl
    refine ⟨_, (pss_cons (ps_set (i := 2) nd rfl (Or.inl rfl) (pe_meth (pe_fld (pv 0) rfl) T.cl_Craft T.M_Craft_close (okx_Craft_close T eS) (hr.mono (by decide)) T.b_Craft_close .nil (passes_call tk (fun _ _ _ _ h => h)) (pa_cons (pv 1) pa_nil))) (pss_cons (ps_if (pt_truth (pv 2) (by intro _; rfl)) (pss_one (ps_expr (pe_bm PySem.F.plainAttrs_list PySem.F.slot_list_append PySem.F.type_list_append mt_append (pe_fld (pv 0) rfl) (pa_cons (pe_tup (pa_cons pe_str (pa_cons (pv 1) pa_nil))) pa_nil)))) pss_nil) (pss_one (ps_ret (pv 2))))), ?_⟩
    exact ⟨_, rfl, o.s, _, o.dx, _, _, rfl, hS.ob, T.cl_Sky, T.n_Sky_craft, sf_craft, o.A.c, o.A.dx, _, rfl, hC.o, cf_no (by decide), _, rfl, .ref o.A.c, n, rfl, hn, hE⟩
/-- a step that is refused -/
def badStep (Cs Cd : Addr) (K : PySem.W.Frag) (a : Addr) (H : Hp) (E : XK) : Prop := (∃ (n : Int) (t : Addr), SqT K H a [.str "tell", .int n, .ref t] ∧ badTell Cs Cd n t H E) ∨ ∃ n : Int, SqT K H a [.str "close", .int n] ∧ (n < 0 ∨ 3 < n) ∧ E (.ref Cs) none H
def spx_sky_do (K : PySem.W.Frag) (Cs Cd : Addr) (c : Cl) : Sp := fun vs H _ E => ∃ (o : So) (z room B : Nat) (M R : List Addr) (k : Sk) (a : Addr), vs = [.ref o.s, .ref a] ∧ SkI c z room B H o M R k ∧ badStep Cs Cd K a H E
theorem okx_Sky_do0 (T : Tx K mg) {Cs Cd : Addr} (eS : ExC K mg "BadStream" Cs) (eD : ExC K mg "BadData" Cd) : FnOk P w K mg base (L2.CX P w) 8 T.a_Sky_do T.d_Sky_do ["self", "step"] (spx_sky_do K Cs Cd (clT T)) := by
  have nd := sc_Sky_do.nd
  refine T.F_Sky_do.okX sc_Sky_do (fun vs H Q E h => ?_) (fun cdv A0 outer s0 H vs Q E hr h => ?_)
  · obtain ⟨_, _, _, _, _, _, _, _, rfl, _⟩ := h
    rfl
  · obtain ⟨o, z, room, B, M, R, k, a, rfl, hI, bad⟩ := h
    have tk : Takes (cxOf (L2.CX P w) P w K mg base N_Sky_do "Sky.do" (defScope s_Sky_do) T.a_Sky_do cdv A0 outer s0 H E) (fun cls d _ H => E cls d H) := takes_of rfl rfl rfl rfl
    refine ⟨_, (pss_cons (ps_match (pv 1) (pcs_cons nd (pm_seq rfl (pms_cons (pm_word hr.units (by decide +kernel)) (pms_cons pm_name (pms_cons pm_name pms_nil)))) (.cons (i := 2) rfl (Or.inl rfl) (by first | exact .inl rfl | exact .inr rfl) (.cons (i := 3) rfl (Or.inl rfl) (by first | exact .inl rfl | exact .inr rfl) .nil)) (pss_one (ps_ret (pe_meth (pv 0) T.cl_Sky T.M_Sky_tell (okx_Sky_tell T eS eD) (hr.mono (by decide)) T.b_Sky_tell .nil (passes_call tk (fun _ _ _ _ h => h)) (pa_cons (pv 2) (pa_cons (pv 3) pa_nil))))) (pcs_cons nd (pm_seq rfl (pms_cons (pm_word hr.units (by decide +kernel)) (pms_cons pm_name pms_nil))) (.cons (i := 2) rfl (Or.inl rfl) (by first | exact .inl rfl | exact .inr rfl) .nil) (pss_one (ps_ret (pe_meth (pv 0) T.cl_Sky T.M_Sky_close (okx_Sky_close T eS) (hr.mono (by decide)) T.b_Sky_close .nil (passes_call tk (fun _ _ _ _ h => h)) (pa_cons (pv 2) pa_nil)))) (pcs_cons nd (pm_seq rfl (pms_cons (pm_word hr.units (by decide +kernel)) pms_nil)) .nil (pss_one (ps_ret (pe_meth0 (pe_fld (pv 0) rfl) T.cl_Craft T.M_Craft_begin (ok_Craft_begin T) (hr.mono (by decide)) T.b_Craft_begin .nil pass0))) (pcs_cons nd (pm_seq rfl (pms_cons (pm_word hr.units (by decide +kernel)) pms_nil)) .nil (pss_one (ps_ret (pe_meth0 (pe_fld (pv 0) rfl) T.cl_Craft T.M_Craft_shut (ok_Craft_shut T) (hr.mono (by decide)) T.b_Craft_shut .nil pass0))) (pcs_cons nd (pm_seq rfl (pms_cons (pm_word hr.units (by decide +kernel)) pms_nil)) .nil (pss_one (ps_ret (pe_meth0 (pv 0) T.cl_Sky T.M_Sky_beat (ok_Sky_beat T) (hr.mono (by decide)) T.b_Sky_beat .nil pass0))) (pcs_cons nd (pm_seq rfl (pms_cons (pm_word hr.units (by decide +kernel)) pms_nil)) .nil (pss_one (ps_expr (pe_meth0 (pv 0) T.cl_Sky T.M_Sky_ask (ok_Sky_ask T) (hr.mono (by decide)) T.b_Sky_ask .nil pass0))) (pcs_cons nd (pm_seq rfl (pms_cons (pm_word hr.units (by decide +kernel)) pms_nil)) .nil (pss_one (ps_expr (pe_meth0 (pv 0) T.cl_Sky T.M_Sky_settle (ok_Sky_settle0 T) (hr.mono (by decide)) T.b_Sky_settle .nil pass0))) (pcs_cons nd (pm_seq rfl (pms_cons (pm_word hr.units (by decide +kernel)) (pms_cons pm_name (pms_cons pm_name pms_nil)))) (.cons (i := 4) rfl (Or.inl rfl) (by first | exact .inl rfl | exact .inr rfl) (.cons (i := 5) rfl (Or.inl rfl) (by first | exact .inl rfl | exact .inr rfl) .nil)) (pss_cons (ps_expr (pe_meth (pv 0) T.cl_Sky T.M_Sky_hear (ok_Sky_hear T) (hr.mono (by decide)) T.b_Sky_hear .nil pass0 (pa_cons (pv 4) (pa_cons (pv 5) pa_nil)))) (pss_one (ps_expr (pe_meth (pv 0) T.cl_Sky T.M_Sky_lose (ok_Sky_lose T) (hr.mono (by decide)) T.b_Sky_lose .nil pass0 (pa_cons (pv 4) (pa_cons (pv 5) pa_nil)))))) (pcs_cons nd (pm_seq rfl (pms_cons (pm_word hr.units (by decide +kernel)) (pms_cons pm_name (pms_cons pm_name pms_nil)))) (.cons (i := 4) rfl (Or.inl rfl) (by first | exact .inl rfl | exact .inr rfl) (.cons (i := 5) rfl (Or.inl rfl) (by first | exact .inl rfl | exact .inr rfl) .nil)) (pss_one (ps_expr (pe_meth (pv 0) T.cl_Sky T.M_Sky_lose (ok_Sky_lose T) (hr.mono (by decide)) T.b_Sky_lose .nil pass0 (pa_cons (pv 4) (pa_cons (pv 5) pa_nil))))) (pcs_cons nd (pm_seq rfl (pms_cons (pm_word hr.units (by decide +kernel)) (pms_cons pm_name (pms_cons pm_name pms_nil)))) (.cons (i := 4) rfl (Or.inl rfl) (by first | exact .inl rfl | exact .inr rfl) (.cons (i := 5) rfl (Or.inl rfl) (by first | exact .inl rfl | exact .inr rfl) .nil)) (pss_one (ps_expr (pe_meth (pv 0) T.cl_Sky T.M_Sky_hear (ok_Sky_hear T) (hr.mono (by decide)) T.b_Sky_hear .nil pass0 (pa_cons (pv 4) (pa_cons (pv 5) pa_nil))))) pcs_nil))))))))))) (pss_one (ps_ret pe_non))), ?_⟩
    refine ⟨_, rfl, ?_⟩
    have ho := hI.obj
    rcases bad with ⟨n, t, ha, bad⟩ | ⟨n, ha, hn, hE⟩
    · refine cs_hit2 ha (by decide +kernel) ?_
      exact ⟨_, rfl, o.s, o.dx, _, rfl, ho, sf_no (by decide), _, rfl, _, rfl, o, z, room, B, M, R, k, n, t, rfl, hI, bad⟩
    · refine cs_miss ha (by decide +kernel) (.inl (by simp)) ?_
      refine cs_hit1 ha (by decide +kernel) ?_
      exact ⟨_, rfl, o.s, o.dx, _, rfl, ho, sf_no (by decide), _, rfl, o, z, room, B, M, R, k, n, rfl, hI, hn, hE⟩
end
end K20

namespace K20
open PySem PySem.Spec PyProof.Rows L2 Sky
/-- a step as the laws draw it: one that is done, or one that is refused -/
inductive Ask where
  | good (st : Stp)
  | tell (n : Int) (t : List Int)
  | shut (n : Int)
def askD : Ask → PyData
  | .good st => stpD st
  | .tell n t => .tuple [.str "tell", .int n, tlD t]
  | .shut n => .tuple [.str "close", .int n]
def AskOk : Ask → Prop
  | .good st => StpOk st
  | .tell n t => t.length ≤ 100000 ∧ ((n < 0 ∨ 3 < n) ∨ ((0 ≤ n ∧ n ≤ 3) ∧ ¬ tellOk t))
  | .shut n => n < 0 ∨ 3 < n
def Sk.doA (z room : Nat) (k : Sk) : Ask → Sk × PyData
  | .good st => k.doS z room st
  | .tell _ _ => (k, .str "no")
  | .shut _ => (k, .str "no")
def kA (z room : Nat) (k : Sk) (as : List Ask) : Sk := as.foldl (fun k a => (k.doA z room a).1) k
def rA (z room : Nat) : Sk → List Ask → List PyData
  | _, [] => []
  | k, a :: as => (k.doA z room a).2 :: rA z room (k.doA z room a).1 as
theorem kA_snoc (z room : Nat) (k : Sk) (as : List Ask) (a : Ask) : kA z room k (as ++ [a]) = ((kA z room k as).doA z room a).1 := by
  unfold kA
  rw [List.foldl_append]
  rfl
theorem rA_snoc (z room : Nat) : ∀ (as : List Ask) (k : Sk) (a : Ask), rA z room k (as ++ [a]) = rA z room k as ++ [((kA z room k as).doA z room a).2]
  | [], _, _ => rfl
  | b :: as, k, a => by
    show _ :: rA z room (k.doA z room b).1 (as ++ [a]) = _
    rw [rA_snoc z room as]
    rfl
end K20

namespace K20
open PySem PySem.Spec PyProof.Rows L2 Sky
section
variable {P : Program} {w : World} {K : PySem.W.Frag} {mg : Str → Option Value} {base : Heap}
def sp_played (c : Cl) : Sp := fun vs H Q _ => ∃ (z room : Nat) (lf : Addr) (us : List V) (as : List Ask), vs = [.int (z : Nat), .int (room : Nat), .ref lf] ∧ H lf = some (.lst us) ∧ TDs H us (as.map askD) ∧ (∀ a ∈ as, AskOk a) ∧ as.length ≤ 1000 ∧ 8 ≤ z ∧ z ≤ 24 ∧ 1 ≤ room ∧ room ≤ 60 ∧
  ∀ (o : So) (M R : List Addr) (r tp : Addr) (xs : List V) (H' : Hp), SkI c z room (30 * as.length) H' o M R (kA z room Sk.new as) → H' r = some (.lst xs) → TDs H' xs (rA z room Sk.new as) → H' tp = some (.tup [.ref r, .ref o.s]) → (∀ a ∈ M ++ R, H a = none) → H r = none → r ∉ M ++ R → Same H H' → Q (.ref tp) H'
theorem ok_played (T : Tx K mg) {Cs Cd CB : Addr} (eS : ExC K mg "BadStream" Cs) (eD : ExC K mg "BadData" Cd) (gB : mg "SkyError" = some (.ref CB)) (mS : PySem.W.exmOne K (.ref Cs) (.ref CB) = some true) (mD : PySem.W.exmOne K (.ref Cd) (.ref CB) = some true) : FnOk P w K mg base CX0 10 T.a_played T.d_played ["size", "room", "steps"] (sp_played (clT T)) := by
  have nd := sc_played.nd
  refine T.F_played.ok sc_played (fun vs H Q E h => ?_) (fun cdv A0 outer s0 H vs Q E hr h => ?_)
  · obtain ⟨_, _, _, _, _, rfl, _⟩ := h
    rfl
  · obtain ⟨z, room, lf, us, as, rfl, hlf, tus, hok, hal, hz8, hz24, hr1, hr60, fin⟩ := h
    refine ⟨_, (pss_cons (ps_set (i := 3) nd rfl (Or.inl rfl) (pe_make T.mk_Sky (ok_Sky_init T) (hr.mono (by decide)) (by rfl) T.m_Sky T.b_Sky_init .nil pass0 (pa_cons (pv 0) (pa_cons (pv 1) pa_nil)))) (pss_cons (ps_set (i := 4) nd rfl (Or.inl rfl) (pe_lst pa_nil)) (pss_cons (ps_for PassesOwn.never rfl (pi_list (pv 2)) (pg_name (i := 5) nd rfl (Or.inl rfl)) (pss_one (ps_try1 (tb := fun W => tDrop (tBM K "list" rAppend (tVar 4) (tCons (fun σ => tMeth T.A_Sky "do" (fun vs H Q E => sk_do (clT T) vs H Q E ∨ spx_sky_do K Cs Cd (clT T) vs H Q E) [] (fun cls d H => W cls d σ H) (tVar 3) (tCons (tVar 5) tNil) σ) tNil))) (ts := fun _ _ _ => tDrop (tBM K "list" rAppend (tVar 4) (tCons (tC (.str "no")) tNil))) rfl rfl ⟨by rfl, by decide +kernel, .inl gB⟩ takes0 (fun W pn xe tkW psW => by exact (pss_one (ps_expr (pe_bm PySem.F.plainAttrs_list PySem.F.slot_list_append PySem.F.type_list_append mt_append (pv 4) (pa_cons (pe_methS (W := fun σ cls d H => W cls d σ H) (pv 3) T.cl_Sky T.M_Sky_do (fn_or (ok_Sky_do0 T) (okx_Sky_do0 T eS eD)) (hr.mono (by decide)) T.b_Sky_do .nil (passes_slots tkW) (pa_cons (pv 5) pa_nil)) pa_nil))))) (fun exA exO exC exD pn hz hv => by exact (pss_one (ps_expr (pe_bm PySem.F.plainAttrs_list PySem.F.slot_list_append PySem.F.type_list_append mt_append (pv 4) (pa_cons pe_str pa_nil)))))))) (pss_one (ps_ret (pe_tup (pa_cons (pv 4) (pa_cons (pv 3) pa_nil)))))))), ?_⟩
    refine ⟨_, rfl, _, rfl, fun s dx hs hdx nsd => ⟨s, dx, z, room, rfl, upd_same, hz8, hz24, hr1, hr60, fun o M R H1 es hI fr k1 d1 => ⟨rfl, Nat.zero_le _, fun r nr => ?_⟩⟩⟩
    have sa : Same H (upd (upd H dx (.own s)) s (.ins T.A_Sky dx [])) := same_mut (same_new (Same.refl _) hdx) hs
    have s1 : Same H H1 := k1.same sa (by intro x hx; rw [List.mem_singleton.mp hx]; exact hs)
    have frM : ∀ x ∈ M ++ R, H x = none := fun x hx => by
      rcases fr x hx with e | e
      · rw [e]; exact hs
      · exact sa.free e
    subst es
    have nrM := hI.fresh nr
    have hI2 := hI.same (same_new (Same.refl H1) nr (o := .lst []))
    have s2 : Same H (upd H1 r (.lst [])) := s1.trans (same_new (Same.refl _) nr)
    have hr2 : upd H1 r (.lst []) r = some (.lst []) := upd_same
    have nrH := s1.free nr
    generalize upd H1 r (.lst []) = H2 at *
    have hul : us.length = as.length := by rw [tus.length, List.length_map]
    refine ⟨_, rfl, lf, rfl, ⟨_, SqL.of (s2 _ _ hlf)⟩, ?_⟩
    refine for_list (K := K) (a := lf) (xs := us) (fun i σ H' => ∃ (w5 : Option V) (M' R' : List Addr) (ys : List V), σ = [some (.int (z : Nat)), some (.int (room : Nat)), some (.ref lf), some (.ref o.s), some (.ref r), w5] ∧ SkI (clT T) z room (30 * i) H' o M' R' (kA z room Sk.new (as.take i)) ∧ H' r = some (.lst ys) ∧ TDs H' ys (rA z room Sk.new (as.take i)) ∧ ys.length = i ∧ (∀ a ∈ M' ++ R', H a = none) ∧ r ∉ M' ++ R' ∧ Same H H') ⟨_, M, R, [], rfl, hI2, hr2, .nil, rfl, frM, nrM, s2⟩ (fun i σ H' _ ⟨_, _, _, _, _, _, _, _, _, _, _, s⟩ => SqL.of (s _ _ hlf)) ?_ ?_
    · rintro i y σ H3 hy ⟨w5, M', R', ys, rfl, hI3, hr3, tys, hyl, frM', nr', s3⟩
      obtain ⟨d, hd, td⟩ := tus.get hy
      obtain ⟨a, ha, rfl⟩ := map_get hd
      have hil : i < us.length := (List.getElem?_eq_some_iff.mp hy).1
      have ok := hok a (List.mem_of_getElem? ha)
      have td3 := td.mono (TSm.of_same s3)
      have ek : as.take (i + 1) = as.take i ++ [a] := by rw [List.take_add_one, ha]; rfl
      rw [ek, kA_snoc, rA_snoc]
      have e30 : 30 * (i + 1) = 30 * i + 30 := Nat.mul_succ 30 i
      rw [e30]
      generalize kA z room Sk.new (as.take i) = k at *
      have done : ∀ (v : V) (H4 : Hp) (M4 R4 : List Addr) (k' : Sk) (d : PyData), SkI (clT T) z room (30 * i + 30) H4 o M4 R4 k' → SkTo M' R' M4 R4 H3 H4 → TD H4 v d → H4 r = some (.lst ys) ∧ ∃ (ys' : List V), SkI (clT T) z room (30 * i + 30) (upd H4 r (.lst (ys ++ [v]))) o M4 R4 k' ∧ upd H4 r (.lst (ys ++ [v])) r = some (.lst ys') ∧ TDs (upd H4 r (.lst (ys ++ [v]))) ys' (rA z room Sk.new (as.take i) ++ [d]) ∧ ys'.length = i + 1 ∧ (∀ a ∈ M4 ++ R4, H a = none) ∧ r ∉ M4 ++ R4 ∧ Same H (upd H4 r (.lst (ys ++ [v]))) := by
        intro v H4 M4 R4 k' d hI4 to4 tv
        have hr4 : H4 r = some (.lst ys) := to4.kp _ _ (fun z => nr' (List.mem_append_left _ z)) hr3
        have t5 : TSm H4 (upd H4 r (.lst (ys ++ [v]))) := ts_upd (TSm.refl _) (NoT.lst hr4)
        have k5 : Keep [r] H4 (upd H4 r (.lst (ys ++ [v]))) := keep_upd (Keep.refl _ _) (by simp)
        have nr4 : r ∉ M4 ++ R4 := fun z => by
          rcases List.mem_append.mp z with z | z
          · rcases to4.m r z with e | e
            · exact nr' (List.mem_append_left _ e)
            · rw [hr3] at e; cases e
          · rcases to4.r r z with e | e
            · exact nr' (List.mem_append_right _ e)
            · rw [hr3] at e; cases e
        have s4 : Same H H4 := Keep.same to4.kp s3 (fun x hx => frM' x (List.mem_append_left _ hx))
        refine ⟨hr4, ys ++ [v], hI4.else k5 t5 (fun x hx z => nr4 (by rw [← List.mem_singleton.mp z]; exact hx)), upd_same, ((tys.mono (to4.kp.ts hI3.noT)).mono t5).app (.one (tv.mono t5)), by rw [List.length_append, hyl]; rfl, fun x hx => ?_, nr4, same_mut s4 nrH⟩
        rcases List.mem_append.mp hx with z | z
        · rcases to4.m x z with e | e
          · exact frM' x (List.mem_append_left _ e)
          · exact s3.free e
        · rcases to4.r x z with e | e
          · exact frM' x (List.mem_append_right _ e)
          · exact s3.free e
      have ofd : ∃ pa, y = .ref pa := by
        cases a with
        | good st => cases st <;> (cases td3; exact ⟨_, rfl⟩)
        | tell n t => cases td3; exact ⟨_, rfl⟩
        | shut n => cases td3; exact ⟨_, rfl⟩
      obtain ⟨pa, rfl⟩ := ofd
      refine ⟨_, rfl, .inl ⟨rfl, _, SqL.of hr3⟩, _, rfl, o.s, o.dx, _, rfl, hI3.obj, sf_no (by decide), _, rfl, ?_⟩
      cases a with
      | good st =>
        refine nilA (.inl ⟨o, z, room, 30 * i, M', R', k, pa, st, rfl, hI3, td3, ok, hz8, hz24, by omega, fun v H4 M4 R4 hI4 to4 tv4 => ?_⟩)
        obtain ⟨hr4, ys', b1, b2, b3, b4, b5, b6, b7⟩ := done v H4 M4 R4 _ _ hI4 to4 tv4
        exact ⟨r, ys, _, rfl, rfl, hr4, lt_line (by omega), _, M4, R4, ys', rfl, b1, b2, b3, b4, b5, b6, b7⟩
      | tell n t =>
        cases td3 with
        | tup hpa tx => cases tx with
          | cons a1 tx => cases a1; cases tx with
            | cons a2 tx => cases a2; cases tx with
              | cons a3 tx =>
                cases tx
                obtain ⟨tt, rfl, htt⟩ := TD.of_tl a3
                refine nilA (.inr ⟨o, z, room, 30 * i, M', R', k, pa, rfl, hI3, .inl ⟨n, tt, SqT.of hpa, ?_⟩⟩)
                rcases ok.2 with hn | ⟨hn, hbad⟩
                · refine .inl ⟨hn, true, mS, fun _ a0 ha0 => ?_, fun e => by cases e⟩
                  obtain ⟨hr4, ys', b1, b2, b3, b4, b5, b6, b7⟩ := done (.str "no") H3 M' R' _ _ (hI3.more (by omega)) (SkTo.refl _ _ _) (.str _)
                  exact ⟨_, rfl, .inl ⟨rfl, _, SqL.of hr4⟩, r, ys, _, rfl, rfl, hr4, lt_line (by omega), _, M', R', ys', rfl, b1, b2, b3, b4, b5, b6, b7⟩
                · refine .inr ⟨hn, t, htt, ok.1, hbad, fun H4 s4 => ⟨true, mD, fun _ a0 ha0 => ?_, fun e => by cases e⟩⟩
                  obtain ⟨hr4, ys', b1, b2, b3, b4, b5, b6, b7⟩ := done (.str "no") H4 M' R' _ _ ((hI3.same s4).more (by omega)) (SkTo.of_same s4) (.str _)
                  exact ⟨_, rfl, .inl ⟨rfl, _, SqL.of hr4⟩, r, ys, _, rfl, rfl, hr4, lt_line (by omega), _, M', R', ys', rfl, b1, b2, b3, b4, b5, b6, b7⟩
      | shut n =>
        cases td3 with
        | tup hpa tx => cases tx with
          | cons a1 tx => cases a1; cases tx with
            | cons a2 tx =>
              cases a2
              cases tx
              refine nilA (.inr ⟨o, z, room, 30 * i, M', R', k, pa, rfl, hI3, .inr ⟨n, SqT.of hpa, ok, true, mS, fun _ a0 ha0 => ?_, fun e => by cases e⟩⟩)
              obtain ⟨hr4, ys', b1, b2, b3, b4, b5, b6, b7⟩ := done (.str "no") H3 M' R' _ _ (hI3.more (by omega)) (SkTo.refl _ _ _) (.str _)
              exact ⟨_, rfl, .inl ⟨rfl, _, SqL.of hr4⟩, r, ys, _, rfl, rfl, hr4, lt_line (by omega), _, M', R', ys', rfl, b1, b2, b3, b4, b5, b6, b7⟩
    rintro σ H3 ⟨w5, M', R', ys, rfl, hI3, hr3, tys, hyl, frM', nr', s3⟩
    rw [hul, List.take_length] at hI3 tys
    refine ⟨_, rfl, _, rfl, (by decide : (2 : Nat) ≤ sizeLine), fun tp ntp => ?_⟩
    have s4 := same_new (Same.refl H3) ntp (o := .tup [.ref r, .ref o.s])
    exact fin o M' R' r tp ys _ (hI3.same s4) (s4 _ _ hr3) (tys.mono (TSm.of_same s4)) upd_same frM' nrH nr' (s3.trans s4)
end
end K20

namespace K20
open PySem PySem.Spec PyProof.Rows L2 Sky
theorem SkTo.ts {c : Cl} {z room B : Nat} {H H' : Hp} {o : So} {M R M' R' : List Addr} {k : Sk} (h : SkI c z room B H o M R k) (t : SkTo M R M' R' H H') : TSm H H' := t.kp.ts h.noT
theorem SkTo.keep {M R M' R' : List Addr} {H H' : Hp} {a : Addr} {u : HO} (t : SkTo M R M' R' H H') (n : a ∉ M ++ R) (e : H a = some u) : H' a = some u := t.kp a u (fun z => n (List.mem_append_left _ z)) e
theorem SkTo.out {M R M' R' : List Addr} {H H' : Hp} {a : Addr} {u : HO} (t : SkTo M R M' R' H H') (n : a ∉ M ++ R) (e : H a = some u) : a ∉ M' ++ R' := fun z => by
  rcases List.mem_append.mp z with z | z
  · rcases t.m a z with h | h
    · exact n (List.mem_append_left _ h)
    · rw [e] at h; cases h
  · rcases t.r a z with h | h
    · exact n (List.mem_append_right _ h)
    · rw [e] at h; cases h
/-! ### how deep entries and steps are -/
theorem Lay.of_tup {k : Nat} {ds : List PyData} (h : ∀ d ∈ ds, Lay k d) : Lay (k + 1) (.tuple ds) := by
  have := Lay.tuple (f := id) h
  rw [List.map_id] at this
  exact this
theorem Lay.word {k : Nat} {w : Str} (ok : PyData.strOk w = true) : Lay k (.str w) := ⟨by simp [PyData.canLay0, ok], by simp [PyData.depth]⟩
theorem lay_mks2 (ks : List (Nat × Nat)) : Lay 2 (.tuple (ks.map mD2)) := Lay.tuple fun k _ => Lay.tuple (f := fun i : Int => PyData.int i) (xs := [((k.1 : Nat) : Int), ((k.2 : Nat) : Int)]) fun x _ => Lay.int x
theorem lay_ent (e : Ent) : Lay 3 (entD e) := by
  cases e with
  | tell s t =>
    refine Lay.of_tup fun d hd => ?_
    simp only [List.mem_cons, List.not_mem_nil, or_false] at hd
    rcases hd with e | e | e <;> rw [e]
    · exact Lay.word (by decide +kernel)
    · exact (Lay.int _).mono (by decide)
    · exact (Lay.tl t).mono (by decide)
  | close s =>
    refine Lay.of_tup fun d hd => ?_
    simp only [List.mem_cons, List.not_mem_nil, or_false] at hd
    rcases hd with e | e <;> rw [e]
    · exact Lay.word (by decide +kernel)
    · exact (Lay.int _).mono (by decide)
  | sent x =>
    refine Lay.of_tup fun d hd => ?_
    simp only [List.mem_cons, List.not_mem_nil, or_false] at hd
    rcases hd with e | e <;> rw [e]
    · exact Lay.word (by decide +kernel)
    · exact frmD_lay
  | came x =>
    refine Lay.of_tup fun d hd => ?_
    simp only [List.mem_cons, List.not_mem_nil, or_false] at hd
    rcases hd with e | e <;> rw [e]
    · exact Lay.word (by decide +kernel)
    · exact frmD_lay
  | never ks =>
    refine Lay.of_tup fun d hd => ?_
    simp only [List.mem_cons, List.not_mem_nil, or_false] at hd
    rcases hd with e | e <;> rw [e]
    · exact Lay.word (by decide +kernel)
    · exact lay_mks2 ks
theorem lay_lg (es : List Ent) : Lay 4 (.list (es.map entD)) := Lay.list fun e _ => lay_ent e
/-- the word of a step -/
def stpW : Stp → Str
  | .tell _ _ => "tell"
  | .close _ => "close"
  | .begin => "begin"
  | .shut => "shut"
  | .beat => "beat"
  | .ask => "ask"
  | .hear _ _ => "hear"
  | .lose _ _ => "lose"
  | .twice _ _ => "twice"
theorem way_ok (u : Bool) : PyData.strOk (wayS u) = true := by cases u <;> decide +kernel
theorem lay_stp (st : Stp) : Lay 2 (stpD st) := by
  have go : ∀ {ds : List PyData}, (∀ d ∈ ds, Lay 1 d) → Lay 2 (.tuple ds) := fun h => Lay.of_tup h
  cases st <;> refine go fun d hd => ?_ <;> simp only [List.mem_cons, List.not_mem_nil, or_false] at hd
  · rcases hd with e | e | e <;> rw [e]
    · exact Lay.word (by decide +kernel)
    · exact (Lay.int _).mono (by decide)
    · exact Lay.tl _
  · rcases hd with e | e <;> rw [e]
    · exact Lay.word (by decide +kernel)
    · exact (Lay.int _).mono (by decide)
  · rw [hd]; exact Lay.word (by decide +kernel)
  · rw [hd]; exact Lay.word (by decide +kernel)
  · rw [hd]; exact Lay.word (by decide +kernel)
  · rw [hd]; exact Lay.word (by decide +kernel)
  · rcases hd with e | e | e <;> rw [e]
    · exact Lay.word (by decide +kernel)
    · exact Lay.word (way_ok _)
    · exact (Lay.int _).mono (by decide)
  · rcases hd with e | e | e <;> rw [e]
    · exact Lay.word (by decide +kernel)
    · exact Lay.word (way_ok _)
    · exact (Lay.int _).mono (by decide)
  · rcases hd with e | e | e <;> rw [e]
    · exact Lay.word (by decide +kernel)
    · exact Lay.word (way_ok _)
    · exact (Lay.int _).mono (by decide)
theorem plain_stp (st : Stp) : plainD (stpD st) = true := by
  cases st <;> first | rfl | exact (by simp only [stpD, plainD, plainDs, Bool.true_and, Bool.and_true]; exact plain_tl _)
theorem stp_no4 {st : Stp} (ok : StpOk st) : PyData.eqv (stpD st) (.tuple [.str "close", .int 4]) = false := by
  cases h : PyData.eqv (stpD st) (.tuple [.str "close", .int 4]) with
  | false => rfl
  | true =>
    have e := (eqv_plain _ _ (plain_stp st) (by decide)).mp h
    cases st with
    | close s =>
      have ok : s < 4 := ok
      injection e with e
      injection e with _ e
      injection e with e _
      injection e with e
      omega
    | tell s t => injection e with e; injection e with _ e; injection e with _ e; cases e
    | begin => injection e with e; injection e with _ e; cases e
    | shut => injection e with e; injection e with _ e; cases e
    | beat => injection e with e; injection e with _ e; cases e
    | ask => injection e with e; injection e with _ e; cases e
    | hear u j => injection e with e; injection e with _ e; injection e with _ e; cases e
    | lose u j => injection e with e; injection e with _ e; injection e with _ e; cases e
    | twice u j => injection e with e; injection e with _ e; injection e with _ e; cases e
theorem lay_c4 : Lay 1 (.tuple [.str "close", .int 4]) := Lay.of_tup fun d hd => by
  simp only [List.mem_cons, List.not_mem_nil, or_false] at hd
  rcases hd with e | e <;> rw [e]
  · exact Lay.word (by decide +kernel)
  · exact Lay.int _
theorem w_tell {st : Stp} (h : stpW st = "tell") : ∃ s t, st = .tell s t := by
  cases st <;> first | exact ⟨_, _, rfl⟩ | (dsimp only [stpW] at h; exact absurd h (by decide))
theorem w_close {st : Stp} (h : stpW st = "close") : ∃ s, st = .close s := by
  cases st <;> first | exact ⟨_, rfl⟩ | (dsimp only [stpW] at h; exact absurd h (by decide))
theorem w_beat {st : Stp} (h : stpW st = "beat") : st = .beat := by
  cases st <;> first | rfl | (dsimp only [stpW] at h; exact absurd h (by decide))
theorem dec_str (a b : Str) : decide (V.str a = V.str b) = decide (a = b) := by
  by_cases e : a = b
  · rw [e, decide_eq_true rfl, decide_eq_true rfl]
  · rw [decide_eq_false e, decide_eq_false (fun h => e (by injection h))]
def entW' : Ent → Str
  | .tell _ _ => "tell"
  | .close _ => "close"
  | .sent _ => "sent"
  | .came _ => "came"
  | .never _ => "never"
/-- an entry as it lies -/
theorem td_ent' {H : Hp} {v : V} {e : Ent} (h : TD H v (entD e)) : ∃ a xs, v = .ref a ∧ H a = some (.tup (.str (entW' e) :: xs)) := by
  cases e <;> cases h with
  | tup h t => cases t with
    | cons h1 t => cases h1; exact ⟨_, _, rfl, h⟩
/-- a step as it lies -/
theorem td_stp {H : Hp} {v : V} {st : Stp} (h : TD H v (stpD st)) : ∃ a xs, v = .ref a ∧ H a = some (.tup (.str (stpW st) :: xs)) := by
  cases st <;> cases h with
  | tup h t => cases t with
    | cons h1 t => cases h1; exact ⟨_, _, rfl, h⟩
end K20

namespace K20
open PySem PySem.Spec PyProof.Rows L2 Sky
/-! ### a play's results, its parts -/
def isG (as : List Ask) (i : Nat) : Bool := match as[i]? with
  | some (.good _) => true
  | _ => false
def stAt (as : List Ask) (i : Nat) : Stp := match as[i]? with
  | some (.good st) => st
  | _ => .ask
theorem isG_at {as : List Ask} {i : Nat} (h : isG as i = true) : as[i]? = some (.good (stAt as i)) := by
  unfold isG at h
  unfold stAt
  cases e : as[i]? with
  | none => rw [e] at h; cases h
  | some a =>
    rw [e] at h
    cases a with
    | good st => rfl
    | tell n t => cases h
    | shut n => cases h
theorem bad_at {as : List Ask} {i : Nat} {a : Ask} (h : isG as i = false) (ha : as[i]? = some a) (z room : Nat) (k : Sk) : k.doA z room a = (k, .str "no") := by
  unfold isG at h
  rw [ha] at h
  cases a with
  | good st => cases h
  | tell n t => rfl
  | shut n => rfl
theorem rA_len (z room : Nat) : ∀ (as : List Ask) (k : Sk), (rA z room k as).length = as.length
  | [], _ => rfl
  | a :: as, k => congrArg (· + 1) (rA_len z room as _)
theorem rA_take (z room : Nat) : ∀ (as : List Ask) (k : Sk) (i : Nat), rA z room k (as.take i) = (rA z room k as).take i
  | [], _, i => by rw [List.take_nil]; exact List.take_nil.symm
  | a :: as, k, 0 => rfl
  | a :: as, k, i + 1 => congrArg (_ :: ·) (rA_take z room as _ i)
theorem rA_at (z room : Nat) : ∀ {as : List Ask} {k : Sk} {i : Nat} {a : Ask}, as[i]? = some a → (rA z room k as)[i]? = some ((kA z room k (as.take i)).doA z room a).2
  | b :: as, k, 0, a, h => by
    cases h
    rfl
  | b :: as, k, i + 1, a, h => by
    have h : as[i]? = some a := h
    show (rA z room (k.doA z room b).1 as)[i]? = _
    rw [rA_at z room h]
    rfl
theorem kA_app (z room : Nat) (k : Sk) (as bs : List Ask) : kA z room k (as ++ bs) = kA z room (kA z room k as) bs := by
  unfold kA
  rw [List.foldl_append]
theorem kA_next {z room : Nat} {k : Sk} {as : List Ask} {i : Nat} {a : Ask} (h : as[i]? = some a) : kA z room k (as.take (i + 1)) = ((kA z room k (as.take i)).doA z room a).1 := by
  rw [List.take_add_one, h, Option.toList_some, kA_snoc]
/-! what is done grows the log -/
theorem hear_lg (k : Sk) (u : Bool) (j : Nat) : ∃ es, (k.hear u j).lg = k.lg ++ es := by
  unfold Sk.hear
  cases u with
  | true =>
    show ∃ es, (match k.up[j]? with | some x => k.hearU x | none => k).lg = k.lg ++ es
    cases k.up[j]? with
    | none => exact ⟨[], (List.append_nil _).symm⟩
    | some x => exact ⟨[], (List.append_nil _).symm⟩
  | false =>
    show ∃ es, (match k.dn[j]? with | some e => k.hearD e | none => k).lg = k.lg ++ es
    cases k.dn[j]? with
    | none => exact ⟨[], (List.append_nil _).symm⟩
    | some x =>
      cases x with
      | came x => exact ⟨[.came x], rfl⟩
      | never ks => exact ⟨[.never ks], rfl⟩
      | tell _ _ => exact ⟨[], (List.append_nil _).symm⟩
      | close _ => exact ⟨[], (List.append_nil _).symm⟩
      | sent _ => exact ⟨[], (List.append_nil _).symm⟩
theorem lose_lg' (k : Sk) (u : Bool) (j : Nat) : (k.lose u j).lg = k.lg := by
  unfold Sk.lose
  split <;> rfl
/-- what a step tells -/
def ResK (d : PyData) : Prop := (∃ n : Int, d = .int n) ∨ (∃ b, d = .bool b) ∨ d = .none ∨ ∃ j, d = mD2 j
theorem do_res (z room : Nat) (k : Sk) (st : Stp) : ResK (k.doS z room st).2 ∧ ∃ es, (k.doS z room st).1.lg = k.lg ++ es := by
  have same : ∃ es, k.lg = k.lg ++ es := ⟨[], (List.append_nil _).symm⟩
  cases st with
  | tell s t =>
    show ResK (match k.sl[s]? with | some n => (k.tell z room s n t, PyData.int ((n.2.length : Nat) : Int)) | none => (k, .none)).2 ∧ ∃ es, (match k.sl[s]? with | some n => (k.tell z room s n t, PyData.int ((n.2.length : Nat) : Int)) | none => (k, .none)).1.lg = _
    cases k.sl[s]? with
    | none => exact ⟨.inr (.inr (.inl rfl)), same⟩
    | some n => exact ⟨.inl ⟨_, rfl⟩, _, rfl⟩
  | close s =>
    show ResK (match k.sl[s]? with | some n => if n.1.length % z = 0 then (k, PyData.bool false) else (k.close z room s n, .bool true) | none => (k, .none)).2 ∧ ∃ es, (match k.sl[s]? with | some n => if n.1.length % z = 0 then (k, PyData.bool false) else (k.close z room s n, .bool true) | none => (k, .none)).1.lg = _
    cases k.sl[s]? with
    | none => exact ⟨.inr (.inr (.inl rfl)), same⟩
    | some n =>
      show ResK (if n.1.length % z = 0 then (k, PyData.bool false) else (k.close z room s n, .bool true)).2 ∧ ∃ es, (if n.1.length % z = 0 then (k, PyData.bool false) else (k.close z room s n, .bool true)).1.lg = _
      split
      · exact ⟨.inr (.inl ⟨_, rfl⟩), same⟩
      · exact ⟨.inr (.inl ⟨_, rfl⟩), _, rfl⟩
  | begin => exact ⟨.inr (.inl ⟨_, rfl⟩), same⟩
  | shut => exact ⟨.inr (.inl ⟨_, rfl⟩), same⟩
  | ask => exact ⟨.inr (.inr (.inl rfl)), same⟩
  | lose u j => exact ⟨.inr (.inr (.inl rfl)), [], by rw [List.append_nil]; exact lose_lg' k u j⟩
  | hear u j =>
    obtain ⟨es, h⟩ := hear_lg k u j
    exact ⟨.inr (.inr (.inl rfl)), es, by rw [← h]; exact lose_lg' (k.hear u j) u j⟩
  | twice u j => exact ⟨.inr (.inr (.inl rfl)), hear_lg k u j⟩
  | beat =>
    have e0 : k.doS z room .beat = (if k.m.win = true then (match k.m.next with | none => (k, PyData.none) | some i => match k.m.q.find? (fun x => decide (mkOf x = i)) with | some x => (k.beat x, mD2 i) | none => (k, .none)) else (k, .none)) := rfl
    rw [e0]
    split
    · cases k.m.next with
      | none => exact ⟨.inr (.inr (.inl rfl)), same⟩
      | some i =>
        show ResK (match k.m.q.find? (fun x => decide (mkOf x = i)) with | some x => (k.beat x, mD2 i) | none => (k, PyData.none)).2 ∧ ∃ es, (match k.m.q.find? (fun x => decide (mkOf x = i)) with | some x => (k.beat x, mD2 i) | none => (k, PyData.none)).1.lg = _
        cases k.m.q.find? (fun x => decide (mkOf x = i)) with
        | none => exact ⟨.inr (.inr (.inl rfl)), same⟩
        | some x => exact ⟨.inr (.inr (.inr ⟨i, rfl⟩)), _, rfl⟩
    · exact ⟨.inr (.inr (.inl rfl)), same⟩
theorem doA_lg (z room : Nat) (k : Sk) (a : Ask) : ∃ es, (k.doA z room a).1.lg = k.lg ++ es := by
  cases a with
  | good st => exact (do_res z room k st).2
  | tell n t => exact ⟨[], (List.append_nil _).symm⟩
  | shut n => exact ⟨[], (List.append_nil _).symm⟩
theorem kA_lg (z room : Nat) : ∀ (as : List Ask) (k : Sk), ∃ es, (kA z room k as).lg = k.lg ++ es
  | [], k => ⟨[], (List.append_nil _).symm⟩
  | a :: as, k => by
    obtain ⟨e1, h1⟩ := doA_lg z room k a
    obtain ⟨e2, h2⟩ := kA_lg z room as (k.doA z room a).1
    exact ⟨e1 ++ e2, by rw [← List.append_assoc, ← h1, ← h2]; rfl⟩
theorem lg_take (z room : Nat) (as : List Ask) (i : Nat) : (kA z room Sk.new as).lg.take (kA z room Sk.new (as.take i)).lg.length = (kA z room Sk.new (as.take i)).lg := by
  have e : kA z room Sk.new as = kA z room (kA z room Sk.new (as.take i)) (as.drop i) := by rw [← kA_app, List.take_append_drop]
  obtain ⟨es, h⟩ := kA_lg z room (as.drop i) (kA z room Sk.new (as.take i))
  rw [e, h, List.take_left']
  rfl
/-! what is told, as data -/
theorem res_lay {d : PyData} (h : ResK d) : Lay 1 d := by
  rcases h with ⟨n, rfl⟩ | ⟨b, rfl⟩ | rfl | ⟨j, rfl⟩
  · exact (Lay.int n).mono (by decide)
  · exact (Lay.bool b).mono (by decide)
  · exact Lay.none.mono (by decide)
  · exact Lay.tuple (f := PyData.int) (xs := [((j.1 : Nat) : Int), ((j.2 : Nat) : Int)]) fun x _ => Lay.int x
theorem lay_no : Lay 1 (.str "no") := Lay.word (by decide +kernel)
theorem res_no {d : PyData} (h : ResK d) : PyData.eqv d (.str "no") = false := by
  rcases h with ⟨n, rfl⟩ | ⟨b, rfl⟩ | rfl | ⟨j, rfl⟩ <;> rfl
theorem doA_res (z room : Nat) (k : Sk) (a : Ask) : ResK (k.doA z room a).2 ∨ (k.doA z room a).2 = .str "no" := by
  cases a with
  | good st => exact .inl (do_res z room k st).1
  | tell n t => exact .inr rfl
  | shut n => exact .inr rfl
theorem rA_lay1 (z room : Nat) : ∀ (as : List Ask) (k : Sk), ∀ d ∈ rA z room k as, Lay 1 d
  | [], _, d, h => by cases h
  | a :: as, k, d, h => by
    rcases List.mem_cons.mp h with g | g
    · rw [g]
      rcases doA_res z room k a with r | r
      · exact res_lay r
      · rw [r]; exact lay_no
    · exact rA_lay1 z room as _ d g
theorem rA_lay (z room : Nat) (as : List Ask) (k : Sk) : Lay 2 (.list (rA z room k as)) := Lay.of_list (rA_lay1 z room as k)
theorem res_no_iff {z room : Nat} {as : List Ask} {i : Nat} (hi : i < as.length) : ∃ d, (rA z room Sk.new as)[i]? = some d ∧ Lay 1 d ∧ PyData.eqv d (.str "no") = !isG as i := by
  obtain ⟨a, ha⟩ : ∃ a, as[i]? = some a := ⟨_, List.getElem?_eq_getElem hi⟩
  refine ⟨_, rA_at z room ha, rA_lay1 z room as Sk.new _ (List.mem_of_getElem? (rA_at z room ha)), ?_⟩
  cases hg : isG as i with
  | true =>
    have := isG_at hg
    rw [ha] at this
    cases this
    exact res_no (do_res z room _ _).1
  | false =>
    rw [bad_at hg ha]
    exact lay_no.refl
/-! those that were done, alone -/
def gis (as : List Ask) (i : Nat) : List Nat := (List.range i).filter (isG as)
theorem gis_lt {as : List Ask} {i n : Nat} (h : n ∈ gis as i) : n < i ∧ isG as n = true := by
  obtain ⟨h1, h2⟩ := List.mem_filter.mp h
  exact ⟨List.mem_range.mp h1, h2⟩
theorem gis_succ (as : List Ask) (i : Nat) : gis as (i + 1) = gis as i ++ (if isG as i = true then [i] else []) := by
  unfold gis
  rw [List.range_succ, List.filter_append]
  cases h : isG as i with
  | true => rw [List.filter_cons_of_pos h]; rfl
  | false => rw [List.filter_cons_of_neg (by rw [h]; decide)]; rfl
def goods (as : List Ask) (i : Nat) : List Ask := (gis as i).map fun n => Ask.good (stAt as n)
theorem goods_play {z room : Nat} {as : List Ask} : ∀ i, i ≤ as.length → kA z room Sk.new (goods as i) = kA z room Sk.new (as.take i) ∧ rA z room Sk.new (goods as i) = (gis as i).map fun n => (rA z room Sk.new as).getD n .none
  | 0, _ => ⟨rfl, rfl⟩
  | i + 1, hi => by
    obtain ⟨h1, h2⟩ := goods_play (z := z) (room := room) (as := as) i (by omega)
    obtain ⟨a, ha⟩ : ∃ a, as[i]? = some a := ⟨_, List.getElem?_eq_getElem (by omega)⟩
    have er := rA_at (k := Sk.new) z room ha
    unfold goods at h1 h2 ⊢
    rw [gis_succ, List.map_append, List.map_append, kA_next ha]
    cases hg : isG as i with
    | true =>
      have h3 := isG_at hg
      rw [ha] at h3
      cases h3
      rw [if_pos rfl]
      show kA z room Sk.new (_ ++ [Ask.good (stAt as i)]) = _ ∧ rA z room Sk.new (_ ++ [Ask.good (stAt as i)]) = _ ++ [(rA z room Sk.new as).getD i .none]
      rw [kA_snoc, rA_snoc, h1, h2, List.getD_eq_getElem?_getD, er]
      exact ⟨rfl, rfl⟩
    | false =>
      rw [if_neg (by decide), bad_at hg ha]
      show kA z room Sk.new (_ ++ []) = _ ∧ rA z room Sk.new (_ ++ []) = _ ++ []
      rw [List.append_nil, List.append_nil]
      exact ⟨h1, h2⟩
theorem stp_lays (sts : List Stp) : Lay 3 (.list (sts.map stpD)) := Lay.list fun st _ => lay_stp st
/-! shown -/
theorem lay_kept (m : Cr) (x : Nat × Frm) : Lay 1 (keptD m x) := by
  refine Lay.of_tup fun d hd => ?_
  simp only [List.mem_cons, List.not_mem_nil, or_false] at hd
  rcases hd with e | e | e <;> rw [e]
  · exact Lay.int _
  · exact Lay.int _
  · split
    · exact Lay.word (by decide +kernel)
    · exact Lay.word (by decide +kernel)
theorem lay_m2 (j : Nat × Nat) : Lay 1 (mD2 j) := Lay.tuple (f := PyData.int) (xs := [((j.1 : Nat) : Int), ((j.2 : Nat) : Int)]) fun x _ => Lay.int x
theorem lay_shown (z : Nat) (k : Sk) : Lay 5 (shownD z k) := by
  refine Lay.of_tup fun d hd => ?_
  simp only [List.mem_cons, List.not_mem_nil, or_false] at hd
  rcases hd with e | e | e | e | e <;> rw [e]
  · exact (Lay.list fun x _ => lay_kept k.m x).mono (by decide)
  · exact (Lay.list fun x _ => lay_m2 x).mono (by decide)
  · refine Lay.list fun i _ => ?_
    unfold Sk.rows
    cases k.sl[i]? with
    | none => exact Lay.nil.mono (by decide)
    | some n => exact lay_rows _ _ _
  · exact (Lay.int _).mono (by decide)
  · exact (Lay.int _).mono (by decide)
theorem dok_res {d : PyData} (h : ResK d ∨ d = .str "no") : DOk 1 d := by
  rcases h with (⟨n, rfl⟩ | ⟨b, rfl⟩ | rfl | ⟨j, rfl⟩) | rfl
  · exact .inl (.inr (.inl ⟨_, rfl⟩))
  · exact .inl (.inr (.inr (.inl ⟨_, rfl⟩)))
  · exact .inl (.inl rfl)
  · refine .inr ⟨_, .inr rfl, (by decide : 2 ≤ 10000000), fun e he => ?_⟩
    have he : e ∈ [PyData.int ((j.1 : Nat) : Int), .int ((j.2 : Nat) : Int)] := he
    simp only [List.mem_cons, List.not_mem_nil, or_false] at he
    rcases he with g | g <;> rw [g] <;> exact .inr (.inl ⟨_, rfl⟩)
  · exact .inl (.inr (.inr (.inr ⟨_, rfl⟩)))
theorem rA_res (z room : Nat) : ∀ (as : List Ask) (k : Sk), ∀ d ∈ rA z room k as, ResK d ∨ d = .str "no"
  | [], _, d, h => by cases h
  | a :: as, k, d, h => by
    rcases List.mem_cons.mp h with g | g
    · rw [g]; exact doA_res z room k a
    · exact rA_res z room as _ d g
theorem dok_rA (z room : Nat) {as : List Ask} (h : as.length ≤ 1000) (k : Sk) : DOk 2 (.list (rA z room k as)) := .inr ⟨_, .inl rfl, by rw [rA_len]; omega, fun d hd => dok_res (rA_res z room as k d hd)⟩
end K20

namespace K20
open PySem PySem.Spec PyProof.Rows L2 Sky
section
variable {P : Program} {w : World} {K : PySem.W.Frag} {mg : Str → Option Value} {base : Heap}
theorem HAt.new {H : Hp} {p q a : Addr} {o : HO} (h : HAt H p q) (n : H a = none) : HAt (upd H a o) p q := by
  obtain ⟨m, k, ns, npq, hp, hq, r⟩ := h
  exact ⟨m, k, ns, npq, by rw [upd_ne (ne_of_none hp n)]; exact hp, by rw [upd_ne (ne_of_none hq n)]; exact hq, r⟩
theorem HAt.ne {H : Hp} {p q a : Addr} {o : HO} (h : HAt H p q) (n : a ≠ p) (n' : a ≠ q) : HAt (upd H a o) p q := by
  obtain ⟨m, k, ns, npq, hp, hq, r⟩ := h
  exact ⟨m, k, ns, npq, by rw [upd_ne n.symm]; exact hp, by rw [upd_ne n'.symm]; exact hq, r⟩
theorem HAt.there {H : Hp} {p q : Addr} (h : HAt H p q) : ∀ m ∈ [p, q], ∃ o, H m = some o := by
  obtain ⟨m, k, ns, npq, hp, hq, r⟩ := h
  intro x hx
  rcases List.mem_cons.mp hx with e | e
  · rw [e]; exact ⟨_, hp⟩
  · rw [List.mem_singleton.mp e]; exact ⟨_, hq⟩
theorem HAt.noT {H : Hp} {p q : Addr} (h : HAt H p q) : ∀ m ∈ [p, q], NoT H m := by
  obtain ⟨m, k, ns, npq, hp, hq, r⟩ := h
  intro x hx
  rcases List.mem_cons.mp hx with e | e
  · rw [e]; exact NoT.lst hp
  · rw [List.mem_singleton.mp e]; exact NoT.lst hq
theorem HAt.fresh {H : Hp} {p q a : Addr} (h : HAt H p q) (n : H a = none) : a ≠ p ∧ a ≠ q := by
  obtain ⟨m, k, ns, npq, hp, hq, r⟩ := h
  exact ⟨(ne_of_none hp n).symm, (ne_of_none hq n).symm⟩
/-- an item of a written list at a drawn place -/
theorem at_of {xs : List V} {r : Int} {R : V → Prop} (h0 : 0 ≤ r) (h1 : r < (xs.length : Int)) (h : ∀ v ∈ xs, R v) : ∃ v, atI xs r = some v ∧ R v := by
  obtain ⟨n, rfl⟩ : ∃ n : Nat, r = (n : Int) := ⟨r.toNat, (Int.toNat_of_nonneg h0).symm⟩
  have hl : n < xs.length := by omega
  exact ⟨xs[n], atI_nat (List.getElem?_eq_getElem hl), h _ (List.getElem_mem hl)⟩
def sp_data : Sp := fun vs H Q _ => ∃ (p q : Addr), vs = [.ref p] ∧ HAt H p q ∧ ∀ t xs H', tellOk xs → H' t = some (.tup (xs.map V.int)) → H t = none → HAt H' p q → Keep [p, q] H H' → Dom H H' → Q (.ref t) H'
theorem ok_law_data (T : Tx K mg) : FnOk P w K mg base CX0 2 T.a_law_data T.d_law_data ["_law_h"] sp_data := by
  have nd := sc_law_data.nd
  refine T.F_law_data.ok sc_law_data (fun vs H Q E h => ?_) (fun cdv A outer s H vs Q E hr h => ?_)
  · obtain ⟨_, _, rfl, _⟩ := h
    rfl
  · obtain ⟨p, q, rfl, hA, fin⟩ := h
    refine ⟨_, (pss_cons (ps_set (i := 1) nd rfl (Or.inl rfl) (pe_ix ix_list (pe_lst (pa_cons pe_int (pa_cons (pe_op op_add pe_int (pe_call (ok_law_next T) (hr.mono (by decide)) (by rfl) T.m_law_next T.F_law_next.kp T.b_law_next .nil pass0 (pa_cons (pv 0) (pa_cons pe_int pa_nil)))) (pa_cons (pe_op op_add pe_int (pe_call (ok_law_next T) (hr.mono (by decide)) (by rfl) T.m_law_next T.F_law_next.kp T.b_law_next .nil pass0 (pa_cons (pv 0) (pa_cons pe_int pa_nil)))) (pa_cons pe_int pa_nil))))) (pe_call (ok_law_next T) (hr.mono (by decide)) (by rfl) T.m_law_next T.F_law_next.kp T.b_law_next .nil pass0 (pa_cons (pv 0) (pa_cons pe_int pa_nil))) (fun _ _ => rfl))) (pss_one (ps_ret (pe_tupleOf (by rfl) T.z_tuple (pe_lc (own := [("_law_k", 2)]) rfl nd (pi_range1 rfl T.z_range (pa_cons (pv 1) pa_nil)) (blkOk_by (own := [("_law_k", 2)]) (N := N_law_data) (sc := defScope s_law_data) (by decide +kernel)) (fun _ _ _ _ _ => (pg_name (i := 2) nd rfl (Or.inl rfl))) (fun _ _ _ _ _ => pts_nil) (fun _ _ _ _ _ => (pe_call (ok_law_next T) (hr.mono (by decide)) (by rfl) T.m_law_next T.F_law_next.kp T.b_law_next .nil pass0 (pa_cons (pv 0) (pa_cons (pe_ix (ix_listK (K := K) rfl) (pe_lst (pa_cons pe_int (pa_cons pe_int pa_nil))) (pe_call (ok_law_next T) (hr.mono (by decide)) (by rfl) T.m_law_next T.F_law_next.kp T.b_law_next .nil pass0 (pa_cons (pv 0) (pa_cons pe_int pa_nil))) (fun _ _ => rfl)) pa_nil))))))))), ?_⟩
    refine ⟨_, rfl, p, q, 5, rfl, hA, by decide, by decide, fun r1 H1 r10 r11 hA1 k1 d1 => ⟨1, r1, rfl, rfl, ?_⟩⟩
    refine ⟨_, rfl, p, q, 20, rfl, hA1, by decide, by decide, fun r2 H2 r20 r21 hA2 k2 d2 => ⟨1, r2, rfl, rfl, ?_⟩⟩
    refine ⟨(by decide : (4 : Nat) ≤ sizeLine), fun a ha => ?_⟩
    have k3 : Keep [p, q] H (upd H2 a (.lst [.int 1, .int (1 + r1), .int (1 + r2), .int 20])) := keep_new (k1.trans k2) (d1 _ (d2 _ ha))
    have d3 : Dom H (upd H2 a (.lst [.int 1, .int (1 + r1), .int (1 + r2), .int 20])) := (d1.trans d2).upd _ _
    have hA3 : HAt (upd H2 a (.lst [.int 1, .int (1 + r1), .int (1 + r2), .int 20])) p q := hA2.new ha
    have ha3 : upd H2 a (.lst [.int 1, .int (1 + r1), .int (1 + r2), .int 20]) a = some (.lst [.int 1, .int (1 + r1), .int (1 + r2), .int 20]) := upd_same
    have naf := hA2.fresh ha
    generalize upd H2 a (.lst [.int 1, .int (1 + r1), .int (1 + r2), .int 20]) = H3 at *
    refine ⟨_, rfl, p, q, 4, rfl, hA3, by decide, by decide, fun r4 H4 r40 r41 hA4 k4 d4 => ?_⟩
    have ha4 := k4 _ _ (by simp [naf.1, naf.2]) ha3
    obtain ⟨v, hv, n, rfl, n1, n20⟩ := at_of (R := fun v => ∃ n : Int, v = .int n ∧ 1 ≤ n ∧ n ≤ 20) r40 (xs := [.int 1, .int (1 + r1), .int (1 + r2), .int 20]) r41 (by
      intro v hv
      simp only [List.mem_cons, List.not_mem_nil, or_false] at hv
      rcases hv with rfl | rfl | rfl | rfl
      · exact ⟨_, rfl, by omega, by omega⟩
      · exact ⟨_, rfl, by omega, by omega⟩
      · exact ⟨_, rfl, by omega, by omega⟩
      · exact ⟨_, rfl, by omega, by omega⟩)
    refine ⟨a, _, _, _, rfl, rfl, SqL.of ha4, hv, ?_⟩
    have k5 : Keep [p, q] H H4 := k3.trans k4
    have d5 : Dom H H4 := d3.trans d4
    obtain ⟨N, rfl⟩ : ∃ N : Nat, n = (N : Int) := ⟨n.toNat, (Int.toNat_of_nonneg (by omega)).symm⟩
    -- return tuple([..])
    refine ⟨_, rfl, _, rfl, (by omega), (by omega), fun D hD => ?_⟩
    have hD0 : H D = none := d5 _ hD
    refine lc_range (lo := 0) (n := ((N : Nat) : Int).toNat) (fun i H' => ∃ xs : List Int, H' D = some (.lst (xs.map V.int)) ∧ xs.length = i ∧ (∀ x ∈ xs, 0 ≤ x ∧ x ≤ 255) ∧ HAt H' p q ∧ Keep [p, q] H H' ∧ Dom H H') ?_ ?_ ?_
    · exact ⟨[], upd_same, rfl, by simp, hA4.new hD, keep_new k5 hD0, d5.upd _ _⟩
    · rintro i H' hi ⟨xs, hx, hl, hb, hA', k', d'⟩
      refine ⟨rfl, _, rfl, (by decide : (2 : Nat) ≤ sizeLine), fun b hb' => ?_⟩
      have nb : b ≠ D := (ne_of_none hx hb').symm
      have nbf := hA'.fresh hb'
      refine ⟨_, rfl, p, q, 2, rfl, hA'.new hb', by decide, by decide, fun r H1 r0 r1 hA1 k1 d1 => ?_⟩
      obtain ⟨v, hv, m, rfl, m0, m1⟩ := at_of (R := fun v => ∃ n : Int, v = .int n ∧ 0 < n ∧ n ≤ 256) r0 (xs := [.int 2, .int 256]) r1 (by
        intro v hv
        simp only [List.mem_cons, List.not_mem_nil, or_false] at hv
        rcases hv with rfl | rfl
        · exact ⟨_, rfl, by omega, by omega⟩
        · exact ⟨_, rfl, by omega, by omega⟩)
      refine ⟨b, _, _, _, rfl, rfl, SqL.of (k1 _ _ (by simp [nbf.1, nbf.2]) upd_same), hv, ?_⟩
      refine ⟨p, q, m, rfl, hA1, m0, by omega, fun r' H2 r0' r1' hA2 k2 d2 => ?_⟩
      have nDf : D ≠ p ∧ D ≠ q := by
        obtain ⟨_, _, _, _, hp, hq, _⟩ := hA
        exact ⟨(ne_of_none hp hD0).symm, (ne_of_none hq hD0).symm⟩
      have hx2 : H2 D = some (.lst (xs.map V.int)) := k2 _ _ (by simp [nDf.1, nDf.2]) (k1 _ _ (by simp [nDf.1, nDf.2]) (by rw [upd_ne nb.symm]; exact hx))
      refine ⟨_, hx2, lt_line (by rw [List.length_map]; omega), xs ++ [r'], by rw [upd_same, List.map_append]; rfl, by rw [List.length_append, hl]; rfl, ?_, hA2.ne nDf.1 nDf.2, keep_new (((keep_new' k' hb').trans k1).trans k2) hD0, (((d'.upd _ _).trans d1).trans d2).upd _ _⟩
      intro x hx
      rcases List.mem_append.mp hx with e | e
      · exact hb x e
      · rw [List.mem_singleton.mp e]
        exact ⟨r0', by omega⟩
    · rintro H' ⟨xs, hx, hl, hb, hA', k', d'⟩
      refine .inl ⟨D, _, rfl, SqL.of hx, fun t ht => ?_⟩
      have ht0 := d' _ ht
      exact fin t xs _ ⟨by omega, by omega, hb⟩ upd_same ht0 (hA'.new ht) (keep_new k' ht0) (d'.upd _ _)
end
end K20

namespace K20
open PySem PySem.Spec PyProof.Rows L2 Sky
/-- the drawn steps: how they may be -/
def stpJ : Stp → Nat
  | .hear _ j => j
  | .lose _ j => j
  | .twice _ j => j
  | _ => 0
def AskL : Ask → Prop
  | .good st => StpOk st ∧ stpJ st ≤ 5
  | .tell n t => (n = 4 ∧ t = [1]) ∨ (n = 0 ∧ (t = [256] ∨ t = List.replicate 21 1))
  | .shut n => n = 4
theorem AskL.ok {a : Ask} (h : AskL a) : AskOk a := by
  cases a with
  | good st => exact h.1
  | shut n => exact .inr (by have h : n = 4 := h; omega)
  | tell n t =>
    rcases h with ⟨h1, h2⟩ | ⟨h1, h2 | h2⟩
    · subst h1 h2; exact ⟨by decide, .inl (.inr (by decide))⟩
    · subst h1 h2; exact ⟨by decide, .inr ⟨by decide, fun h => by have := h.2.2 256 (by simp); omega⟩⟩
    · subst h1 h2; exact ⟨by decide, .inr ⟨by decide, fun h => by have := h.2.1; revert this; decide⟩⟩
/-- drawn, and what stands of it -/
def Stands (H : Hp) (v : V) : Prop := ∃ t a, v = V.ref t ∧ AskL a ∧ TD H v (askD a)
structure DrawS (p q : Addr) (H0 H : Hp) (vs : List V) : Prop where
  at' : HAt H p q
  kp : Keep [p, q] H0 H
  dm : Dom H0 H
  all : ∀ v ∈ vs, Stands H v
theorem Stands.mono {H H' : Hp} {v : V} (h : Stands H v) (t : TSm H H') : Stands H' v := by
  obtain ⟨x, a, h1, h2, h3⟩ := h
  exact ⟨x, a, h1, h2, h3.mono t⟩
section
variable {p q : Addr} {H0 H : Hp} {vs : List V} {t : Addr} {o : HO}
theorem DrawS.skip (h : DrawS p q H0 H vs) (n : H t = none) (o : HO) : DrawS p q H0 (upd H t o) vs :=
  ⟨h.at'.new n, keep_new' h.kp n, h.dm.upd _ _, fun v hv => (h.all v hv).mono (TSm.of_same (same_new (Same.refl _) n))⟩
theorem DrawS.add (h : DrawS p q H0 H vs) (n : H t = none) (o : HO) (a : Ask) (ok : AskL a) (td : TD (upd H t o) (.ref t) (askD a)) : DrawS p q H0 (upd H t o) (vs ++ [.ref t]) :=
  ⟨h.at'.new n, keep_new' h.kp n, h.dm.upd _ _, fun v hv => by
    rcases List.mem_append.mp hv with g | g
    · exact (h.all v g).mono (TSm.of_same (same_new (Same.refl _) n))
    · rw [List.mem_singleton.mp g]; exact ⟨t, a, rfl, ok, td⟩⟩
end
section
variable {P : Program} {w : World} {K : PySem.W.Frag} {mg : Str → Option Value} {base : Heap}
def sp_step : Sp := fun vs H Q _ => ∃ (p q : Addr), vs = [.ref p] ∧ HAt H p q ∧ ∀ t a H', AskL a → TD H' (.ref t) (askD a) → HAt H' p q → Keep [p, q] H H' → Dom H H' → Q (.ref t) H'
theorem ok_law_step (T : Tx K mg) : FnOk P w K mg base CX0 3 T.a_law_step T.d_law_step ["_law_h"] sp_step := by
  have nd := sc_law_step.nd
  refine T.F_law_step.ok sc_law_step (fun vs H Q E h => ?_) (fun cdv A outer s H vs Q E hr h => ?_)
  · obtain ⟨_, _, rfl, _⟩ := h
    rfl
  · obtain ⟨p, q, rfl, hA, fin⟩ := h
    refine ⟨_, (pss_cons (ps_par (i := 1) (j := 2) rfl nd rfl rfl (by decide) rfl rfl (pa_cons (pe_call (ok_law_next T) (hr.mono (by decide)) (by rfl) T.m_law_next T.F_law_next.kp T.b_law_next .nil pass0 (pa_cons (pv 0) (pa_cons pe_int pa_nil))) (pa_cons (pe_call (ok_law_next T) (hr.mono (by decide)) (by rfl) T.m_law_next T.F_law_next.kp T.b_law_next .nil pass0 (pa_cons (pv 0) (pa_cons pe_int pa_nil))) pa_nil)) (by rfl)) (pss_cons (ps_par (i := 3) (j := 4) rfl nd rfl rfl (by decide) rfl rfl (pa_cons (pe_ix ix_list (pe_lst (pa_cons pe_str (pa_cons pe_str pa_nil))) (pe_callTy call_int1 (by rfl) T.z_int (by decide +kernel) (pa_cons (pe_cmpR op_eq (pe_call (ok_law_next T) (hr.mono (by decide)) (by rfl) T.m_law_next T.F_law_next.kp T.b_law_next .nil pass0 (pa_cons (pv 0) (pa_cons pe_int pa_nil))) pe_int (nomark _)) pa_nil)) (fun _ _ => rfl)) (pa_cons (pe_call (ok_law_next T) (hr.mono (by decide)) (by rfl) T.m_law_next T.F_law_next.kp T.b_law_next .nil pass0 (pa_cons (pv 0) (pa_cons (pe_ix ix_list (pe_lst (pa_cons pe_int (pa_cons pe_int pa_nil))) (pe_call (ok_law_next T) (hr.mono (by decide)) (by rfl) T.m_law_next T.F_law_next.kp T.b_law_next .nil pass0 (pa_cons (pv 0) (pa_cons pe_int pa_nil))) (fun _ _ => rfl)) pa_nil))) pa_nil)) (by rfl)) (pss_cons (ps_if (pt_cmpR op_lt (pv 1) pe_int (nomark _)) (pss_one (ps_ret (pe_tup (pa_cons pe_str (pa_cons (pv 2) (pa_cons (pe_call (ok_law_data T) (hr.mono (by decide)) (by rfl) T.m_law_data T.F_law_data.kp T.b_law_data .nil pass0 (pa_cons (pv 0) pa_nil)) pa_nil)))))) pss_nil) (pss_cons (ps_if (pt_cmpR op_eq (pv 1) pe_int (nomark _)) (pss_one (ps_ret (pe_ix ix_list (pe_lst (pa_cons (pe_tup (pa_cons pe_str (pa_cons pe_int (pa_cons (pe_tup (pa_cons pe_int pa_nil)) pa_nil)))) (pa_cons (pe_tup (pa_cons pe_str (pa_cons pe_int (pa_cons (pe_tup (pa_cons pe_int pa_nil)) pa_nil)))) (pa_cons (pe_tup (pa_cons pe_str (pa_cons pe_int pa_nil))) (pa_cons (pe_tup (pa_cons pe_str (pa_cons pe_int (pa_cons (pe_op op_repT (pe_tup (pa_cons pe_int pa_nil)) pe_int) pa_nil)))) pa_nil))))) (pe_call (ok_law_next T) (hr.mono (by decide)) (by rfl) T.m_law_next T.F_law_next.kp T.b_law_next .nil pass0 (pa_cons (pv 0) (pa_cons pe_int pa_nil))) (fun _ _ => rfl)))) pss_nil) (pss_cons (ps_set (i := 5) nd rfl (Or.inl rfl) (pe_lst (pa_cons (pe_tup (pa_cons pe_str (pa_cons (pv 2) pa_nil))) (pa_cons (pe_tup (pa_cons pe_str pa_nil)) (pa_cons (pe_tup (pa_cons pe_str pa_nil)) (pa_cons (pe_tup (pa_cons pe_str pa_nil)) (pa_cons (pe_tup (pa_cons pe_str pa_nil)) (pa_cons (pe_tup (pa_cons pe_str pa_nil)) (pa_cons (pe_tup (pa_cons pe_str pa_nil)) (pa_cons (pe_tup (pa_cons pe_str pa_nil)) (pa_cons (pe_tup (pa_cons pe_str pa_nil)) pa_nil))))))))))) (pss_cons (ps_set (i := 5) nd rfl (Or.inl rfl) (pe_op op_cat (pv 5) (pe_lst (pa_cons (pe_tup (pa_cons pe_str (pa_cons (pv 3) (pa_cons (pv 4) pa_nil)))) (pa_cons (pe_tup (pa_cons pe_str (pa_cons (pv 3) (pa_cons pe_int pa_nil)))) (pa_cons (pe_tup (pa_cons pe_str (pa_cons (pv 3) (pa_cons (pv 4) pa_nil)))) (pa_cons (pe_tup (pa_cons pe_str (pa_cons (pv 3) (pa_cons (pv 4) pa_nil)))) pa_nil))))))) (pss_one (ps_ret (pe_ix ix_list (pv 5) (pe_op op_sub (pv 1) pe_int) (fun _ _ => rfl)))))))))), ?_⟩
    refine ⟨_, rfl, p, q, 20, rfl, hA, by decide, by decide, fun way H1 w0 w1 hA1 k1 d1 => ?_⟩
    refine ⟨_, rfl, p, q, 4, rfl, hA1, by decide, by decide, fun st H2 s0 s1 hA2 k2 d2 => ⟨_, _, rfl, ?_⟩⟩
    refine ⟨(by decide : (2 : Nat) ≤ sizeLine), fun a na => ?_⟩
    have hA3 := hA2.new na (o := .lst [.str "down", .str "up"])
    have ha3 : upd H2 a (.lst [.str "down", .str "up"]) a = some (.lst [.str "down", .str "up"]) := upd_same
    have k3 : Keep [p, q] H (upd H2 a (.lst [.str "down", .str "up"])) := keep_new' (k1.trans k2) na
    have d3 : Dom H (upd H2 a (.lst [.str "down", .str "up"])) := (d1.trans d2).upd _ _
    have naf := hA2.fresh na
    generalize upd H2 a (.lst [.str "down", .str "up"]) = H3 at *
    refine ⟨_, rfl, p, q, 4, rfl, hA3, by decide, by decide, fun r H4 r0 r1 hA4 k4 d4 => ?_⟩
    have ha4 := k4 _ _ (by simp [naf.1, naf.2]) ha3
    obtain ⟨u, hu⟩ : ∃ u : Bool, atI [V.str "down", .str "up"] (if decide (V.int r = V.int 0) = true then 1 else 0) = some (.str (wayS u)) := by
      by_cases h : V.int r = V.int 0
      · rw [if_pos (decide_eq_true h)]; exact ⟨true, rfl⟩
      · rw [if_neg (by rw [decide_eq_false h]; decide)]; exact ⟨false, rfl⟩
    refine ⟨rfl, .inr ⟨_, rfl, a, _, _, _, rfl, rfl, SqL.of ha4, hu, ?_⟩⟩
    refine ⟨_, rfl, (by decide : (2 : Nat) ≤ sizeLine), fun c nc => ?_⟩
    have hA5 := hA4.new nc (o := .lst [.int 2, .int 6])
    have hc5 : upd H4 c (.lst [.int 2, .int 6]) c = some (.lst [.int 2, .int 6]) := upd_same
    have k5 : Keep [p, q] H (upd H4 c (.lst [.int 2, .int 6])) := keep_new' (k3.trans k4) nc
    have d5 : Dom H (upd H4 c (.lst [.int 2, .int 6])) := (d3.trans d4).upd _ _
    have ncf := hA4.fresh nc
    generalize upd H4 c (.lst [.int 2, .int 6]) = H5 at *
    refine ⟨_, rfl, p, q, 2, rfl, hA5, by decide, by decide, fun r2 H6 r20 r21 hA6 k6 d6 => ?_⟩
    have hc6 := k6 _ _ (by simp [ncf.1, ncf.2]) hc5
    obtain ⟨v, hv, n, rfl, n1, n20⟩ := at_of (R := fun v => ∃ n : Int, v = .int n ∧ 1 ≤ n ∧ n ≤ 6) r20 (xs := [.int 2, .int 6]) r21 (by
      intro v hv
      simp only [List.mem_cons, List.not_mem_nil, or_false] at hv
      rcases hv with rfl | rfl
      · exact ⟨_, rfl, by omega, by omega⟩
      · exact ⟨_, rfl, by omega, by omega⟩)
    refine ⟨c, _, _, _, rfl, rfl, SqL.of hc6, hv, p, q, n, rfl, hA6, by omega, by omega, fun k H7 j0 j1 hA7 k7 d7 => ⟨_, _, rfl, ?_⟩⟩
    have D7 : DrawS p q H H7 [] := ⟨hA7, (k5.trans k6).trans k7, (d5.trans d6).trans d7, fun v hv => nomatch hv⟩
    clear k1 d1 k2 d2 k3 d3 k4 d4 k5 d5 k6 d6 k7 d7 hA hA1 hA2 hA3 hA4 hA5 hA6 hA7 ha3 ha4 hc5 hc6 na nc naf ncf hu hv
    obtain ⟨sn, rfl⟩ := Int.eq_ofNat_of_zero_le s0
    obtain ⟨jn, rfl⟩ := Int.eq_ofNat_of_zero_le j0
    have sn4 : sn < 4 := by omega
    have jn5 : jn ≤ 5 := by omega
    refine ⟨_, rfl, _, 6, rfl, rfl, _, rfl, ite2 (fun h => ?_) (fun h => ?_)⟩
    · refine ⟨_, rfl, _, rfl, p, q, rfl, D7.at', fun t xs H8 hx ht nt hA8 k8 d8 => ⟨(by decide : (3 : Nat) ≤ sizeLine), fun f nf => ?_⟩⟩
      refine fin f (.good (.tell sn xs)) _ ⟨⟨sn4, hx⟩, Nat.zero_le _⟩ (.tup upd_same (.cons (.str _) (.cons (.int _) (.cons (TD.tl ?_) .nil)))) (hA8.new nf) (keep_new' (D7.kp.trans k8) nf) ((D7.dm.trans d8).upd _ _)
      rw [upd_ne (ne_of_none ht nf)]
      exact ht
    refine ⟨_, rfl, rfl, _, rfl, ite2 (fun h6 => ?_) (fun h6 => ?_)⟩
    · refine ⟨(by decide : (1 : Nat) ≤ sizeLine), fun a1 n1 => ⟨(by decide : (3 : Nat) ≤ sizeLine), fun f1 m1 => ⟨(by decide : (1 : Nat) ≤ sizeLine), fun a2 n2 => ⟨(by decide : (3 : Nat) ≤ sizeLine), fun f2 m2 => ⟨(by decide : (2 : Nat) ≤ sizeLine), fun f3 m3 =>
        ⟨(by decide : (1 : Nat) ≤ sizeLine), fun a4 n4 => ⟨a4, 21, [.int 1], rfl, rfl, SqT.of upd_same, by simp, by decide, by decide, (show (1 : Nat) ≤ 1000 by decide), fun r4 nr4 => ⟨(by decide : (3 : Nat) ≤ sizeLine), fun f4 m4 => ⟨(by decide : (4 : Nat) ≤ sizeLine), fun L nL => ?_⟩⟩⟩⟩⟩⟩⟩⟩⟩
      have E1 := (D7.skip n1 (.tup [.int 1])).add m1 (.tup [.str "tell", .int 4, .ref a1]) (.tell 4 [1]) (.inl ⟨rfl, rfl⟩) (.tup upd_same (.cons (.str _) (.cons (.int _) (.cons (TD.tl (t := [1]) (by rw [upd_ne (ne_of_none upd_same m1)]; exact upd_same)) .nil))))
      have E2 := (E1.skip n2 (.tup [.int 256])).add m2 (.tup [.str "tell", .int 0, .ref a2]) (.tell 0 [256]) (.inr ⟨rfl, .inl rfl⟩) (.tup upd_same (.cons (.str _) (.cons (.int _) (.cons (TD.tl (t := [256]) (by rw [upd_ne (ne_of_none upd_same m2)]; exact upd_same)) .nil))))
      have E3 := E2.add m3 (.tup [.str "close", .int 4]) (.shut 4) rfl (.tup upd_same (.cons (.str _) (.cons (.int _) .nil)))
      have E4 := ((E3.skip n4 (.tup [.int 1])).skip nr4 (.tup ((List.replicate 21 (1 : Int)).map V.int))).add m4 (.tup [.str "tell", .int 0, .ref r4]) (.tell 0 (List.replicate 21 1)) (.inr ⟨rfl, .inr rfl⟩) (.tup upd_same (.cons (.str _) (.cons (.int _) (.cons (TD.tl (t := List.replicate 21 1) (by rw [upd_ne (ne_of_none upd_same m4)]; exact upd_same)) .nil))))
      have E5 := E4.skip nL (.lst [.ref f1, .ref f2, .ref f3, .ref f4])
      refine ⟨_, rfl, p, q, 4, rfl, E5.at', by decide, by decide, fun r9 H9 r90 r91 hA9 k9 d9 => ?_⟩
      have nLf := E4.at'.fresh nL
      have hL9 := k9 _ _ (by simp [nLf.1, nLf.2]) (upd_same (a := L) (o := .lst [.ref f1, .ref f2, .ref f3, .ref f4]))
      obtain ⟨v, hv, x, ask, rfl, ok, td⟩ := at_of (R := Stands H9) r90 (xs := [.ref f1, .ref f2, .ref f3, .ref f4]) r91 (fun v hv => (E5.all v hv).mono (k9.ts E5.at'.noT))
      exact ⟨L, _, _, _, rfl, rfl, SqL.of hL9, hv, fin x ask H9 ok td hA9 (E5.kp.trans k9) (E5.dm.trans d9)⟩
    · refine ⟨_, rfl, (by decide : (2 : Nat) ≤ sizeLine), fun t1 n1 => ⟨(by decide : (1 : Nat) ≤ sizeLine), fun t2 n2 => ⟨(by decide : (1 : Nat) ≤ sizeLine), fun t3 n3 => ⟨(by decide : (1 : Nat) ≤ sizeLine), fun t4 n4 => ⟨(by decide : (1 : Nat) ≤ sizeLine), fun t5 n5 => ⟨(by decide : (1 : Nat) ≤ sizeLine), fun t6 n6 => ⟨(by decide : (1 : Nat) ≤ sizeLine), fun t7 n7 => ⟨(by decide : (1 : Nat) ≤ sizeLine), fun t8 n8 => ⟨(by decide : (1 : Nat) ≤ sizeLine), fun t9 n9 => ⟨(by decide : (9 : Nat) ≤ sizeLine), fun L nL => ?_⟩⟩⟩⟩⟩⟩⟩⟩⟩⟩
      have E1 := D7.add n1 (.tup [.str "close", .int ((sn : Nat) : Int)]) (.good (.close sn)) ⟨sn4, Nat.zero_le _⟩ (.tup upd_same (.cons (.str _) (.cons (.int _) .nil)))
      have E2 := E1.add n2 (.tup [.str "begin"]) (.good .begin) ⟨True.intro, Nat.zero_le _⟩ (.tup upd_same (.cons (.str _) .nil))
      have E3 := E2.add n3 (.tup [.str "begin"]) (.good .begin) ⟨True.intro, Nat.zero_le _⟩ (.tup upd_same (.cons (.str _) .nil))
      have E4 := E3.add n4 (.tup [.str "shut"]) (.good .shut) ⟨True.intro, Nat.zero_le _⟩ (.tup upd_same (.cons (.str _) .nil))
      have E5 := E4.add n5 (.tup [.str "beat"]) (.good .beat) ⟨True.intro, Nat.zero_le _⟩ (.tup upd_same (.cons (.str _) .nil))
      have E6 := E5.add n6 (.tup [.str "beat"]) (.good .beat) ⟨True.intro, Nat.zero_le _⟩ (.tup upd_same (.cons (.str _) .nil))
      have E7 := E6.add n7 (.tup [.str "beat"]) (.good .beat) ⟨True.intro, Nat.zero_le _⟩ (.tup upd_same (.cons (.str _) .nil))
      have E8 := E7.add n8 (.tup [.str "beat"]) (.good .beat) ⟨True.intro, Nat.zero_le _⟩ (.tup upd_same (.cons (.str _) .nil))
      have E9 := E8.add n9 (.tup [.str "ask"]) (.good .ask) ⟨True.intro, Nat.zero_le _⟩ (.tup upd_same (.cons (.str _) .nil))
      have EL := E9.skip nL (.lst [.ref t1, .ref t2, .ref t3, .ref t4, .ref t5, .ref t6, .ref t7, .ref t8, .ref t9])
      have hL := upd_same (H := (upd (upd (upd (upd (upd (upd (upd (upd (upd H7 t1 (.tup [.str "close", .int ((sn : Nat) : Int)])) t2 (.tup [.str "begin"])) t3 (.tup [.str "begin"])) t4 (.tup [.str "shut"])) t5 (.tup [.str "beat"])) t6 (.tup [.str "beat"])) t7 (.tup [.str "beat"])) t8 (.tup [.str "beat"])) t9 (.tup [.str "ask"]))) (a := L) (o := .lst [.ref t1, .ref t2, .ref t3, .ref t4, .ref t5, .ref t6, .ref t7, .ref t8, .ref t9])
      clear n1 n2 n3 n4 n5 n6 n7 n8 n9 nL E1 E2 E3 E4 E5 E6 E7 E8 E9 D7
      change DrawS p q H _ [.ref t1, .ref t2, .ref t3, .ref t4, .ref t5, .ref t6, .ref t7, .ref t8, .ref t9] at EL
      generalize upd (upd (upd (upd (upd (upd (upd (upd (upd (upd H7 t1 (.tup [.str "close", .int ((sn : Nat) : Int)])) t2 (.tup [.str "begin"])) t3 (.tup [.str "begin"])) t4 (.tup [.str "shut"])) t5 (.tup [.str "beat"])) t6 (.tup [.str "beat"])) t7 (.tup [.str "beat"])) t8 (.tup [.str "beat"])) t9 (.tup [.str "ask"])) L (.lst [.ref t1, .ref t2, .ref t3, .ref t4, .ref t5, .ref t6, .ref t7, .ref t8, .ref t9]) = H8 at *
      refine ⟨_, rfl, _, rfl, _, rfl, (by decide : (3 : Nat) ≤ sizeLine), fun u1 m1 => ⟨_, rfl, (by decide : (3 : Nat) ≤ sizeLine), fun u2 m2 => ⟨_, rfl, _, rfl, (by decide : (3 : Nat) ≤ sizeLine), fun u3 m3 => ⟨_, rfl, _, rfl, (by decide : (3 : Nat) ≤ sizeLine), fun u4 m4 => ⟨(by decide : (4 : Nat) ≤ sizeLine), fun M nM => ?_⟩⟩⟩⟩⟩
      have F1 := EL.add m1 (.tup [.str "hear", .str (wayS u), .int ((jn : Nat) : Int)]) (.good (.hear u jn)) ⟨show jn ≤ 1000000 by omega, jn5⟩ (.tup upd_same (.cons (.str _) (.cons (.str _) (.cons (.int _) .nil))))
      have F2 := F1.add m2 (.tup [.str "hear", .str (wayS u), .int 0]) (.good (.hear u 0)) ⟨show 0 ≤ 1000000 by omega, Nat.zero_le _⟩ (.tup upd_same (.cons (.str _) (.cons (.str _) (.cons (.int _) .nil))))
      have F3 := F2.add m3 (.tup [.str "lose", .str (wayS u), .int ((jn : Nat) : Int)]) (.good (.lose u jn)) ⟨show jn ≤ 1000000 by omega, jn5⟩ (.tup upd_same (.cons (.str _) (.cons (.str _) (.cons (.int _) .nil))))
      have F4 := F3.add m4 (.tup [.str "twice", .str (wayS u), .int ((jn : Nat) : Int)]) (.good (.twice u jn)) ⟨show jn ≤ 1000000 by omega, jn5⟩ (.tup upd_same (.cons (.str _) (.cons (.str _) (.cons (.int _) .nil))))
      have F5 := F4.skip nM (.lst [.ref u1, .ref u2, .ref u3, .ref u4])
      have sL := ((((same_new (Same.refl H8) m1 (o := .tup [.str "hear", .str (wayS u), .int ((jn : Nat) : Int)])).trans (same_new (Same.refl _) m2 (o := .tup [.str "hear", .str (wayS u), .int 0]))).trans (same_new (Same.refl _) m3 (o := .tup [.str "lose", .str (wayS u), .int ((jn : Nat) : Int)]))).trans (same_new (Same.refl _) m4 (o := .tup [.str "twice", .str (wayS u), .int ((jn : Nat) : Int)]))).trans (same_new (Same.refl _) nM (o := .lst [.ref u1, .ref u2, .ref u3, .ref u4]))
      refine ⟨L, M, _, _, rfl, rfl, sL _ _ hL, upd_same, (by decide : (13 : Nat) ≤ sizeLine), fun N nN => ?_⟩
      have F6 := F5.skip nN (.lst ([.ref t1, .ref t2, .ref t3, .ref t4, .ref t5, .ref t6, .ref t7, .ref t8, .ref t9] ++ [.ref u1, .ref u2, .ref u3, .ref u4]))
      have way7 : 7 ≤ way := by
        have h1 : ¬ way < 6 := fun z => h (decide_eq_true z)
        have h2 : ¬ way = 6 := fun z => h6 (decide_eq_true (by rw [z]))
        omega
      obtain ⟨v, hv, x, ask, rfl, ok, td⟩ := at_of (R := Stands _) (show 0 ≤ way - 7 by omega) (xs := [.ref t1, .ref t2, .ref t3, .ref t4, .ref t5, .ref t6, .ref t7, .ref t8, .ref t9] ++ [.ref u1, .ref u2, .ref u3, .ref u4]) (by show way - 7 < ((13 : Nat) : Int); omega) (fun v hv => F6.all v (by simpa using hv))
      exact ⟨_, rfl, _, rfl, way, 7, rfl, rfl, N, _, _, _, rfl, rfl, SqL.of upd_same, hv, fin x ask _ ok td F6.at' F6.kp F6.dm⟩
end
end K20

namespace K20
open PySem PySem.Spec PyProof.Rows L2 Sky
/-! ### a log, judged, in numbers -/
/-- an entry by its parts -/
def EntryOk (z : Nat) : Ent → Prop
  | .tell s t => s < 4 ∧ tellOk t
  | .close s => s < 4
  | .sent x => FOk z ((x.1 : Nat) : Int) x.2
  | .came x => FOk z ((x.1 : Nat) : Int) x.2
  | .never ks => ks.length ≤ 100000 ∧ ∀ j ∈ ks, j.1 < 4 ∧ j.2 ≤ 9999
structure Sy where
  sl : List Strm
  se : List (Nat × Frm)
def Sy.new : Sy := ⟨List.replicate 4 ([], []), []⟩
def NevOk (z : Nat) (sl : List Strm) (ks : List (Nat × Nat)) : Prop := ks ≠ [] ∧ ∀ j ∈ ks, MadeK z sl j
noncomputable instance (z : Nat) (sl : List Strm) (x : Nat × Frm) : Decidable (Made z sl x) := Classical.propDecidable _
noncomputable instance (z : Nat) (sl : List Strm) (ks : List (Nat × Nat)) : Decidable (NevOk z sl ks) := Classical.propDecidable _
noncomputable def Sy.go (z : Nat) (y : Sy) : Ent → Sy × Bool
  | .tell s t => match y.sl[s]? with | some n => (⟨y.sl.set s (lays1' n t), y.se⟩, true) | none => (y, true)
  | .close s => match y.sl[s]? with | some n => if n.1.length % z = 0 then (y, false) else (⟨y.sl.set s (padS z n), y.se⟩, true) | none => (y, false)
  | .sent x => if Made z y.sl x then (⟨y.sl, y.se ++ [x]⟩, true) else (y, false)
  | .came x => (y, decide (x ∈ y.se))
  | .never ks => (y, decide (NevOk z y.sl ks))
/-- the first that can't be, counted from i -/
noncomputable def Sy.run (z : Nat) : Sy → List Ent → Nat → Option Nat
  | _, [], _ => none
  | y, e :: es, i => if (y.go z e).2 = true then Sy.run z (y.go z e).1 es (i + 1) else some i
noncomputable def Sy.all (z : Nat) : Sy → List Ent → Option Sy
  | y, [] => some y
  | y, e :: es => if (y.go z e).2 = true then Sy.all z (y.go z e).1 es else none
theorem run_all {z : Nat} : ∀ {es : List Ent} {y y' : Sy} {i : Nat}, Sy.all z y es = some y' → Sy.run z y es i = none
  | [], _, _, _, _ => rfl
  | e :: es, y, y', i, h => by
    unfold Sy.all at h
    unfold Sy.run
    split at h
    · rename_i g
      rw [if_pos g]
      exact run_all h
    · cases h
theorem all_snoc {z : Nat} : ∀ {es : List Ent} {y y' : Sy} {e : Ent}, Sy.all z y es = some y' → (y'.go z e).2 = true → Sy.all z y (es ++ [e]) = some (y'.go z e).1
  | [], y, y', e, h, g => by
    cases h
    show (if (y.go z e).2 = true then some (y.go z e).1 else none) = _
    rw [if_pos g]
  | x :: es, y, y', e, h, g => by
    unfold Sy.all at h
    rw [List.cons_append]
    unfold Sy.all
    split at h
    · rename_i g2
      rw [if_pos g2]
      exact all_snoc h g
    · cases h
theorem run_snoc {z : Nat} : ∀ {es : List Ent} {y y' : Sy} {e : Ent} {i : Nat}, Sy.all z y es = some y' → (y'.go z e).2 = false → Sy.run z y (es ++ [e]) i = some (i + es.length)
  | [], y, y', e, i, h, g => by
    cases h
    show (if (y.go z e).2 = true then _ else some i) = _
    rw [if_neg (by rw [g]; decide)]
    rfl
  | x :: es, y, y', e, i, h, g => by
    unfold Sy.all at h
    rw [List.cons_append]
    unfold Sy.run
    split at h
    · rename_i g2
      rw [if_pos g2, run_snoc h g, List.length_cons]
      congr 1
      omega
    · cases h
/-- how a sky's log stands to it -/
def Jd (z : Nat) (k : Sk) : Prop := ∃ y, Sy.all z Sy.new k.lg = some y ∧ y.sl = k.sl ∧ (∀ x, Ent.came x ∈ k.dn → x ∈ y.se) ∧ ∀ e ∈ k.lg, EntryOk z e
theorem Jd.new (z : Nat) : Jd z Sk.new := ⟨Sy.new, rfl, rfl, (fun x h => nomatch h), (fun e h => nomatch h)⟩
section
variable {z room B : Nat} {k : Sk}
theorem Jd.tell (h : Jd z k) {s : Nat} {n : Strm} {t : List Int} (hn : k.sl[s]? = some n) (hs : s < 4) (ht : tellOk t) : Jd z (k.tell z room s n t) := by
  obtain ⟨y, h1, h2, h3, h4⟩ := h
  have e : y.go z (.tell s t) = (⟨y.sl.set s (lays1' n t), y.se⟩, true) := by
    show (match y.sl[s]? with | some n => ((⟨y.sl.set s (lays1' n t), y.se⟩ : Sy), true) | none => (y, true)) = _
    rw [h2, hn]
  refine ⟨_, all_snoc h1 (by rw [e]), ?_, ?_, fun x hx => ?_⟩
  · rw [e, h2]; rfl
  · rw [e]; exact h3
  · rcases List.mem_append.mp hx with g | g
    · exact h4 x g
    · rw [List.mem_singleton.mp g]; exact ⟨hs, ht⟩
theorem Jd.close (h : Jd z k) {s : Nat} {n : Strm} (hn : k.sl[s]? = some n) (hs : s < 4) (hp : n.1.length % z ≠ 0) : Jd z (k.close z room s n) := by
  obtain ⟨y, h1, h2, h3, h4⟩ := h
  have e : y.go z (.close s) = (⟨y.sl.set s (padS z n), y.se⟩, true) := by
    show (match y.sl[s]? with | some n => if n.1.length % z = 0 then (y, false) else ((⟨y.sl.set s (padS z n), y.se⟩ : Sy), true) | none => (y, false)) = _
    rw [h2, hn]
    show (if n.1.length % z = 0 then (y, false) else _) = _
    rw [if_neg hp]
  refine ⟨_, all_snoc h1 (by rw [e]), ?_, ?_, fun x hx => ?_⟩
  · rw [e, h2]; rfl
  · rw [e]; exact h3
  · rcases List.mem_append.mp hx with g | g
    · exact h4 x g
    · rw [List.mem_singleton.mp g]; exact hs
theorem Jd.beat (h : Jd z k) {x : Nat × Frm} (hx : Made z k.sl x) (ok : FOk z ((x.1 : Nat) : Int) x.2) : Jd z (k.beat x) := by
  obtain ⟨y, h1, h2, h3, h4⟩ := h
  have e : y.go z (.sent x) = (⟨y.sl, y.se ++ [x]⟩, true) := by
    show (if Made z y.sl x then ((⟨y.sl, y.se ++ [x]⟩ : Sy), true) else (y, false)) = _
    rw [if_pos (by rw [h2]; exact hx)]
  refine ⟨_, all_snoc h1 (by rw [e]), ?_, ?_, fun x hx => ?_⟩
  · rw [e]; exact h2
  · rw [e]
    intro u hu
    rcases List.mem_append.mp hu with g | g
    · exact List.mem_append_left _ (h3 u g)
    · have := List.mem_singleton.mp g
      cases this
      exact List.mem_append_right _ (List.mem_singleton.mpr rfl)
  · rcases List.mem_append.mp hx with g | g
    · exact h4 x g
    · rw [List.mem_singleton.mp g]; exact ok
theorem Jd.craft (h : Jd z k) (m' : Cr) : Jd z { k with m := m' } := h
theorem Jd.up (h : Jd z k) (u' : List (List (Nat × Nat) × List (Nat × Nat))) : Jd z { k with up := u' } := h
theorem Jd.down (h : Jd z k) {dn' : List Ent} (hd : ∀ x, Ent.came x ∈ dn' → Ent.came x ∈ k.dn) : Jd z { k with dn := dn' } := by
  obtain ⟨y, h1, h2, h3, h4⟩ := h
  exact ⟨y, h1, h2, fun x hx => h3 x (hd x hx), h4⟩
theorem Jd.lose (h : Jd z k) (u : Bool) (j : Nat) : Jd z (k.lose u j) := by
  unfold Sk.lose
  cases u with
  | true => exact h.up _
  | false => exact h.down fun x hx => List.mem_of_mem_eraseIdx hx
theorem Jd.hearD (h : Jd z k) {e : Ent} (he : EntOk z k.sl e) (hm : e ∈ k.dn) (ok : EntryOk z e) : Jd z (k.hearD e) := by
  obtain ⟨y, h1, h2, h3, h4⟩ := h
  have last : ∀ x ∈ k.lg ++ [e], EntryOk z x := fun x hx => by
    rcases List.mem_append.mp hx with g | g
    · exact h4 x g
    · rw [List.mem_singleton.mp g]; exact ok
  cases e with
  | came x =>
    have e2 : (y.go z (.came x)).2 = true := decide_eq_true (h3 x hm)
    exact ⟨_, all_snoc h1 e2, h2, h3, last⟩
  | never ks =>
    have e2 : (y.go z (.never ks)).2 = true := by
      refine decide_eq_true ⟨he.1, fun j hj => ?_⟩
      rw [h2]
      exact he.2.2 j hj
    exact ⟨_, all_snoc h1 e2, h2, h3, last⟩
  | tell _ _ => exact he.elim
  | close _ => exact he.elim
  | sent _ => exact he.elim
theorem Jd.hearU (h : Jd z k) (u : List (Nat × Nat) × List (Nat × Nat)) : Jd z (k.hearU u) := by
  refine Jd.down (k := { k with m := (k.m.knows u.1).agains u.2 }) (h.craft _) fun x hx => ?_
  split at hx
  · exact hx
  · rcases List.mem_append.mp hx with g | g
    · exact g
    · have := List.mem_singleton.mp g
      cases this
theorem Ent.entry (hz : 8 ≤ z) (g : Good z room B k) (hB : B ≤ 60000) {e : Ent} (he : EntOk z k.sl e) : EntryOk z e := by
  cases e with
  | came x => exact Made.ok hz g hB he
  | never ks => exact ⟨he.2.1, fun j hj => by have := MadeK.small hz g hB (he.2.2 j hj); omega⟩
  | tell _ _ => exact he.elim
  | close _ => exact he.elim
  | sent _ => exact he.elim
theorem Jd.hear (hz : 8 ≤ z) (g : Good z room B k) (hB : B ≤ 60000) (h : Jd z k) (u : Bool) (j : Nat) : Jd z (k.hear u j) := by
  unfold Sk.hear
  cases u with
  | true =>
    show Jd z (match k.up[j]? with | some x => k.hearU x | none => k)
    cases k.up[j]? with
    | none => exact h
    | some x => exact h.hearU x
  | false =>
    show Jd z (match k.dn[j]? with | some e => k.hearD e | none => k)
    cases e : k.dn[j]? with
    | none => exact h
    | some x =>
      have hm := List.mem_of_getElem? e
      exact h.hearD (g.dnm x hm) hm (Ent.entry hz g hB (g.dnm x hm))
theorem Jd.step (hz : 8 ≤ z) (g : Good z room B k) (hB : B ≤ 60000) (h : Jd z k) {st : Stp} (ok : StpOk st) : Jd z (k.doS z room st).1 := by
  cases st with
  | tell s t =>
    obtain ⟨n, hn⟩ : ∃ n, k.sl[s]? = some n := ⟨_, List.getElem?_eq_getElem (by rw [g.four]; exact ok.1)⟩
    show Jd z (match k.sl[s]? with | some n => (k.tell z room s n t, PyData.int ((n.2.length : Nat) : Int)) | none => (k, .none)).1
    rw [hn]
    exact h.tell hn ok.1 ok.2
  | close s =>
    obtain ⟨n, hn⟩ : ∃ n, k.sl[s]? = some n := ⟨_, List.getElem?_eq_getElem (by rw [g.four]; exact ok)⟩
    show Jd z (match k.sl[s]? with | some n => if n.1.length % z = 0 then (k, PyData.bool false) else (k.close z room s n, .bool true) | none => (k, .none)).1
    rw [hn]
    show Jd z (if n.1.length % z = 0 then (k, PyData.bool false) else (k.close z room s n, .bool true)).1
    split
    · exact h
    · rename_i e
      exact h.close hn ok e
  | begin => exact h
  | shut => exact h
  | beat =>
    show Jd z (if k.m.win = true then (match k.m.next with | none => (k, PyData.none) | some i => match k.m.q.find? (fun x => decide (mkOf x = i)) with | some x => (k.beat x, mD2 i) | none => (k, .none)) else (k, .none)).1
    split
    · cases k.m.next with
      | none => exact h
      | some i =>
        show Jd z (match k.m.q.find? (fun x => decide (mkOf x = i)) with | some x => (k.beat x, mD2 i) | none => (k, .none)).1
        cases e : k.m.q.find? (fun x => decide (mkOf x = i)) with
        | none => exact h
        | some x =>
          have hx := g.q x (List.mem_of_find?_eq_some e)
          exact h.beat hx (Made.ok hz g hB hx)
    · exact h
  | ask => exact h
  | hear u j => exact (Jd.hear hz g hB h u j).lose u j
  | lose u j => exact h.lose u j
  | twice u j => exact Jd.hear hz g hB h u j
end
/-- another frame than was made -/
theorem Sy.sent_no {z : Nat} {y : Sy} {x : Nat × Frm} (h : ¬ Made z y.sl x) : (y.go z (.sent x)).2 = false := by
  show (if Made z y.sl x then ((⟨y.sl, y.se ++ [x]⟩ : Sy), true) else (y, false)).2 = false
  rw [if_neg h]
theorem Sy.close_no {z : Nat} {s : Nat} (hs : s < 4) : (Sy.new.go z (.close s)).2 = false := by
  have e : Sy.new.sl[s]? = some ([], []) := by
    show (List.replicate 4 (([], []) : Strm))[s]? = _
    rw [List.getElem?_replicate, if_pos hs]
  show (match Sy.new.sl[s]? with | some n => if n.1.length % z = 0 then (Sy.new, false) else ((⟨Sy.new.sl.set s (padS z n), Sy.new.se⟩ : Sy), true) | none => (Sy.new, false)).2 = false
  rw [e]
  show (if 0 % z = 0 then (Sy.new, false) else _).2 = false
  rw [Nat.zero_mod, if_pos rfl]
theorem Sy.never_no {z : Nat} {j : Nat × Nat} (hz : 0 < z) : (Sy.new.go z (.never [j])).2 = false := by
  refine decide_eq_false fun ⟨_, h⟩ => ?_
  obtain ⟨n, h1, h2⟩ := h j (List.mem_singleton.mpr rfl)
  have := List.mem_of_getElem? h1
  rw [(List.mem_replicate.mp this).2] at h2
  simp at h2
  omega
end K20

namespace K20
open PySem PySem.Spec PyProof.Rows L2 Sky TL
/-! ### steps as words -/
def wordsOf : Stp → List Str
  | .tell s t => "tell" :: numW s :: t.map fun x => numW x.toNat
  | .close s => ["close", numW s]
  | .begin => ["begin"]
  | .shut => ["shut"]
  | .beat => ["beat"]
  | .ask => ["ask"]
  | .hear u j => ["hear", wayS u, numW j]
  | .lose u j => ["lose", wayS u, numW j]
  | .twice u j => ["twice", wayS u, numW j]
def rowW (st : Stp) : Str := Txt.join " " (wordsOf st)
def textW (sts : List Stp) : Str := Txt.join "\n" (sts.map rowW)
def StpW : Stp → Prop
  | .tell s t => s < 4 ∧ tellOk t
  | .close s => s < 4
  | .hear _ j => j ≤ 5
  | .lose _ j => j ≤ 5
  | .twice _ j => j ≤ 5
  | _ => True
/-- what a word may hold -/
theorem tl_lit_free (w : Str) (h : (w.cps.all fun c => decide (97 ≤ c)) = true) {s : Nat} (hs : s < 97) : s ∉ tl w := fun hm => by
  have h2 : ∀ c ∈ w.cps.toList, decide (97 ≤ c) = true := by
    have := h
    rw [Array.all_eq_true_iff_forall_mem] at this
    intro c hc
    exact this c (Array.mem_def.mpr hc)
  have := of_decide_eq_true (h2 s hm)
  omega
theorem words_free {st : Stp} (s : Nat) (hs : s < 48) : ∀ w ∈ wordsOf st, s ∉ tl w := by
  have lit : ∀ w : Str, (w.cps.all fun c => decide (97 ≤ c)) = true → s ∉ tl w := fun w h => tl_lit_free w h (by omega)
  have num : ∀ n, s ∉ tl (numW n) := fun n => numW_free (.inl hs)
  have way : ∀ u, s ∉ tl (wayS u) := fun u => lit _ (by cases u <;> decide +kernel)
  intro w hw
  cases st with
  | tell a t =>
    rcases List.mem_cons.mp hw with g | g
    · rw [g]; exact lit _ (by decide +kernel)
    · rcases List.mem_cons.mp g with g | g
      · rw [g]; exact num _
      · obtain ⟨x, _, rfl⟩ := List.mem_map.mp g
        exact num _
  | close a =>
    rcases List.mem_cons.mp hw with g | g
    · rw [g]; exact lit _ (by decide +kernel)
    · rw [List.mem_singleton.mp g]; exact num _
  | begin => rw [List.mem_singleton.mp hw]; exact lit _ (by decide +kernel)
  | shut => rw [List.mem_singleton.mp hw]; exact lit _ (by decide +kernel)
  | beat => rw [List.mem_singleton.mp hw]; exact lit _ (by decide +kernel)
  | ask => rw [List.mem_singleton.mp hw]; exact lit _ (by decide +kernel)
  | hear u j =>
    rcases List.mem_cons.mp hw with g | g
    · rw [g]; exact lit _ (by decide +kernel)
    · rcases List.mem_cons.mp g with g | g
      · rw [g]; exact way _
      · rw [List.mem_singleton.mp g]; exact num _
  | lose u j =>
    rcases List.mem_cons.mp hw with g | g
    · rw [g]; exact lit _ (by decide +kernel)
    · rcases List.mem_cons.mp g with g | g
      · rw [g]; exact way _
      · rw [List.mem_singleton.mp g]; exact num _
  | twice u j =>
    rcases List.mem_cons.mp hw with g | g
    · rw [g]; exact lit _ (by decide +kernel)
    · rcases List.mem_cons.mp g with g | g
      · rw [g]; exact way _
      · rw [List.mem_singleton.mp g]; exact num _
theorem words_ne (st : Stp) : wordsOf st ≠ [] := by cases st <;> exact fun h => by cases h
theorem split_row (st : Stp) : Txt.split (rowW st) " " = wordsOf st := split_join (s := 32) (S := []) rfl (by decide +kernel) (words_ne st) (words_free 32 (by decide))
theorem row_free (st : Stp) : 10 ∉ tl (rowW st) := join_free (by decide +kernel) (words_free 10 (by decide))
theorem split_text {sts : List Stp} (h : sts ≠ []) : Txt.split (textW sts) "\n" = sts.map rowW := by
  refine split_join (s := 10) (S := []) rfl (by decide +kernel) (fun e => h (List.map_eq_nil_iff.mp e)) fun p hp => ?_
  obtain ⟨st, _, rfl⟩ := List.mem_map.mp hp
  exact row_free st
/-! ### how long -/
theorem words_short {st : Stp} (ok : StpW st) : (∀ w ∈ wordsOf st, w.length ≤ 6) ∧ (wordsOf st).length ≤ 22 := by
  have way : ∀ u, (wayS u).length ≤ 6 := fun u => by cases u <;> decide +kernel
  have lit : ∀ w : Str, decide (w.length ≤ 6) = true → w.length ≤ 6 := fun w h => of_decide_eq_true h
  have num : ∀ n, n < 256 → (numW n).length ≤ 6 := fun n h => Nat.le_trans (numW_len h) (by decide)
  cases st with
  | tell a t =>
    refine ⟨fun w hw => ?_, by have := ok.2.2.1; show (t.map _).length + 2 ≤ 22; rw [List.length_map]; omega⟩
    rcases List.mem_cons.mp hw with g | g
    · rw [g]; exact lit _ (by decide +kernel)
    · rcases List.mem_cons.mp g with g | g
      · rw [g]; exact num _ (by have := ok.1; omega)
      · obtain ⟨x, hx, rfl⟩ := List.mem_map.mp g
        have := ok.2.2.2 x hx
        exact num _ (by omega)
  | close a =>
    refine ⟨fun w hw => ?_, by show 2 ≤ 22; decide⟩
    rcases List.mem_cons.mp hw with g | g
    · rw [g]; exact lit _ (by decide +kernel)
    · rw [List.mem_singleton.mp g]; exact num _ (by have : a < 4 := ok; omega)
  | begin => exact ⟨fun w hw => by rw [List.mem_singleton.mp hw]; exact lit _ (by decide +kernel), by show 1 ≤ 22; decide⟩
  | shut => exact ⟨fun w hw => by rw [List.mem_singleton.mp hw]; exact lit _ (by decide +kernel), by show 1 ≤ 22; decide⟩
  | beat => exact ⟨fun w hw => by rw [List.mem_singleton.mp hw]; exact lit _ (by decide +kernel), by show 1 ≤ 22; decide⟩
  | ask => exact ⟨fun w hw => by rw [List.mem_singleton.mp hw]; exact lit _ (by decide +kernel), by show 1 ≤ 22; decide⟩
  | hear u j =>
    refine ⟨fun w hw => ?_, by show 3 ≤ 22; decide⟩
    rcases List.mem_cons.mp hw with g | g
    · rw [g]; exact lit _ (by decide +kernel)
    · rcases List.mem_cons.mp g with g | g
      · rw [g]; exact way _
      · rw [List.mem_singleton.mp g]; exact num _ (by have : j ≤ 5 := ok; omega)
  | lose u j =>
    refine ⟨fun w hw => ?_, by show 3 ≤ 22; decide⟩
    rcases List.mem_cons.mp hw with g | g
    · rw [g]; exact lit _ (by decide +kernel)
    · rcases List.mem_cons.mp g with g | g
      · rw [g]; exact way _
      · rw [List.mem_singleton.mp g]; exact num _ (by have : j ≤ 5 := ok; omega)
  | twice u j =>
    refine ⟨fun w hw => ?_, by show 3 ≤ 22; decide⟩
    rcases List.mem_cons.mp hw with g | g
    · rw [g]; exact lit _ (by decide +kernel)
    · rcases List.mem_cons.mp g with g | g
      · rw [g]; exact way _
      · rw [List.mem_singleton.mp g]; exact num _ (by have : j ≤ 5 := ok; omega)
theorem row_len {st : Stp} (ok : StpW st) : (rowW st).length ≤ 154 := by
  have h1 := join_len " " (wordsOf st)
  have h2 := sum_le (fun w : Str => w.length) 6 (wordsOf st) (words_short ok).1
  have h3 := (words_short ok).2
  have h4 : (" " : Str).length = 1 := rfl
  rw [h4] at h1
  unfold rowW
  omega
theorem text_len {sts : List Stp} (ok : ∀ st ∈ sts, StpW st) : (textW sts).length ≤ 155 * sts.length := by
  have h1 := join_len "\n" (sts.map rowW)
  have h2 := sum_le (fun w : Str => w.length) 154 (sts.map rowW) (fun w hw => by obtain ⟨st, hs, rfl⟩ := List.mem_map.mp hw; exact row_len (ok st hs))
  have h4 : ("\n" : Str).length = 1 := rfl
  rw [h4] at h1
  rw [List.length_map] at h1 h2
  unfold textW
  omega
theorem text_ne {sts : List Stp} (h : sts ≠ []) : textW sts ≠ "" := fun e => by
  have h1 := split_text h
  rw [e] at h1
  cases sts with
  | nil => exact h rfl
  | cons st r =>
    have h2 : Txt.split "" "\n" = [("" : Str)] := by decide +kernel
    rw [h2, List.map_cons] at h1
    injection h1 with h1 _
    have h3 := split_row st
    rw [← h1] at h3
    have h4 : Txt.split "" " " = [("" : Str)] := by decide +kernel
    rw [h4] at h3
    cases st <;> simp [wordsOf] at h3 <;> exact absurd h3 (by decide +kernel)
/-! ### the parts of a step -/
def partW : PyData → List Str
  | .str a => [a]
  | .int n => [numW n.toNat]
  | .tuple ds => ds.map fun d => match d with | .int n => numW n.toNat | _ => ""
  | _ => []
def PartOk (d : PyData) : Prop := (∃ a, d = .str a) ∨ (∃ n : Nat, d = .int (n : Int) ∧ n < 256) ∨ ∃ t : List Int, d = tlD t ∧ tellOk t
def partsOf : Stp → List PyData
  | .tell s t => [.str "tell", .int ((s : Nat) : Int), tlD t]
  | .close s => [.str "close", .int ((s : Nat) : Int)]
  | .begin => [.str "begin"]
  | .shut => [.str "shut"]
  | .beat => [.str "beat"]
  | .ask => [.str "ask"]
  | .hear u j => [.str "hear", .str (wayS u), .int ((j : Nat) : Int)]
  | .lose u j => [.str "lose", .str (wayS u), .int ((j : Nat) : Int)]
  | .twice u j => [.str "twice", .str (wayS u), .int ((j : Nat) : Int)]
theorem stp_parts (st : Stp) : stpD st = .tuple (partsOf st) := by cases st <;> rfl
theorem partW_tl (t : List Int) : partW (tlD t) = t.map fun x => numW x.toNat := by
  show (t.map PyData.int).map _ = _
  rw [List.map_map]
  rfl
theorem words_parts (st : Stp) : wordsOf st = (partsOf st).flatMap partW := by
  cases st with
  | tell s t =>
    show _ = partW _ ++ (partW _ ++ (partW (tlD t) ++ []))
    rw [partW_tl, List.append_nil]
    rfl
  | _ => rfl
theorem parts_ok {st : Stp} (ok : StpW st) : ∀ d ∈ partsOf st, PartOk d := by
  have str : ∀ a, PartOk (.str a) := fun a => .inl ⟨a, rfl⟩
  have int : ∀ n : Nat, n < 256 → PartOk (.int (n : Int)) := fun n h => .inr (.inl ⟨n, rfl, h⟩)
  intro d hd
  cases st with
  | tell s t =>
    rcases List.mem_cons.mp hd with g | g
    · rw [g]; exact str _
    · rcases List.mem_cons.mp g with g | g
      · rw [g]; exact int _ (by have := ok.1; omega)
      · rw [List.mem_singleton.mp g]; exact .inr (.inr ⟨t, rfl, ok.2⟩)
  | close s =>
    rcases List.mem_cons.mp hd with g | g
    · rw [g]; exact str _
    · rw [List.mem_singleton.mp g]; exact int _ (by have : s < 4 := ok; omega)
  | begin => rw [List.mem_singleton.mp hd]; exact str _
  | shut => rw [List.mem_singleton.mp hd]; exact str _
  | beat => rw [List.mem_singleton.mp hd]; exact str _
  | ask => rw [List.mem_singleton.mp hd]; exact str _
  | hear u j =>
    rcases List.mem_cons.mp hd with g | g
    · rw [g]; exact str _
    · rcases List.mem_cons.mp g with g | g
      · rw [g]; exact str _
      · rw [List.mem_singleton.mp g]; exact int _ (by have : j ≤ 5 := ok; omega)
  | lose u j =>
    rcases List.mem_cons.mp hd with g | g
    · rw [g]; exact str _
    · rcases List.mem_cons.mp g with g | g
      · rw [g]; exact str _
      · rw [List.mem_singleton.mp g]; exact int _ (by have : j ≤ 5 := ok; omega)
  | twice u j =>
    rcases List.mem_cons.mp hd with g | g
    · rw [g]; exact str _
    · rcases List.mem_cons.mp g with g | g
      · rw [g]; exact str _
      · rw [List.mem_singleton.mp g]; exact int _ (by have : j ≤ 5 := ok; omega)
theorem parts_few (st : Stp) : (partsOf st).length ≤ 3 := by cases st <;> exact of_decide_eq_true rfl
theorem partW_few {d : PyData} (h : PartOk d) : (partW d).length ≤ 20 := by
  rcases h with ⟨a, rfl⟩ | ⟨n, rfl, _⟩ | ⟨t, rfl, ht⟩
  · exact (by decide : 1 ≤ 20)
  · exact (by decide : 1 ≤ 20)
  · rw [partW_tl, List.length_map]; exact ht.2.1
section
variable {P : Program} {w : World} {K : PySem.W.Frag} {mg : Str → Option Value} {base : Heap}
def sp_isw : Sp := fun vs H Q _ => ∃ n : Nat, vs = [.str (numW n)] ∧ n < 256 ∧ Q (.bl true) H
theorem ok_is_written_number (T : Tx K mg) : FnOk P w K mg base CX0 1 T.a_is_written_number T.d_is_written_number ["figures"] sp_isw := by
  have nd := sc_is_written_number.nd
  refine T.F_is_written_number.ok sc_is_written_number (fun vs H Q E h => ?_) (fun cdv A0 outer s0 H vs Q E hr h => ?_)
  · obtain ⟨_, rfl, _⟩ := h
    rfl
  · obtain ⟨n, rfl, hn, fin⟩ := h
    refine ⟨_, (pss_cons (ps_if (PW.pt (pw_or (pt_not (pt_val (pe_m0 PySem.F.slot_str_isascii PySem.F.type_str_isascii mt_isascii (pv 0)))) (pw_or (pt_not (pt_val (pe_m0 PySem.F.slot_str_isdigit PySem.F.type_str_isdigit mt_isdigit (pv 0)))) (pw_or1 (pt_cmpR op_gt (pe_callB call_len_str (by rfl) T.z_len PySem.boot_len (pa_cons (pv 0) pa_nil)) (pe_glob (v := .int 3) (by rfl) T.c_MOST_FIGURES ⟨_, rfl⟩) (nomark _)))))) (pss_one (ps_ret pe_bl)) pss_nil) (pss_one (ps_ret (pe_or (pe_cmpR op_eq (pv 0) pe_str (nomark _)) (pe_one (pe_cmpR op_ne (pe_ix ix_str (pv 0) pe_int (fun _ _ => rfl)) pe_str (nomark _))))))), ?_⟩
    have ok := wr_ok n hn
    unfold wrOk at ok
    simp only [Bool.and_eq_true, Bool.or_eq_true, decide_eq_true_eq] at ok
    obtain ⟨⟨⟨⟨a1, a2⟩, a3⟩, a4⟩, a5⟩ := ok
    refine ⟨_, rfl, ⟨_, rfl⟩, _, rfl, rfl, trivial, true, congrArg V.bl a1, iteF ?_⟩
    refine ⟨_, rfl, ⟨_, rfl⟩, _, rfl, rfl, trivial, true, congrArg V.bl a2, iteF ?_⟩
    refine ⟨_, rfl, _, rfl, le_line (by omega), _, _, rfl, rfl, false, congrArg V.bl (decide_eq_false (by omega)), iteF ?_⟩
    refine ⟨_, rfl, rfl, ?_⟩
    by_cases e0 : numW n = "0"
    · exact ⟨true, congrArg V.bl (decide_eq_true (congrArg V.str e0)), iteT fin⟩
    · have a6 : (numW n).cps.toList[0]? ≠ some 48 := a5.resolve_left e0
      have hl : (numW n).cps.toList.length = (numW n).length := Array.length_toList
      obtain ⟨c, hc⟩ : ∃ c, (numW n).cps.toList[0]? = some c := ⟨_, List.getElem?_eq_getElem (by omega)⟩
      refine ⟨false, congrArg V.bl (decide_eq_false fun h => e0 (V.str.inj h)), iteF ⟨_, rfl, _, _, c, rfl, rfl, le_line (by omega), atI_nat (j := 0) hc, rfl, ?_⟩⟩
      have hne : (V.str ⟨#[c]⟩ : V) ≠ V.str (Str.ofString "0") := fun h => a6 (by
        have h1 := congrArg (fun s : Str => s.cps.toList[0]?) (V.str.inj h)
        have h2 : (some c : Option Nat) = some 48 := h1
        rw [hc]; exact h2)
      have e := decide_eq_false hne
      show Q (V.bl (!decide (V.str ⟨#[c]⟩ = V.str (Str.ofString "0")))) H
      rw [e]
      exact fin
/-! ### _row_of -/
def sp_row_of : Sp := fun vs H Q _ => ∃ (a : Addr) (st : Stp), vs = [.ref a] ∧ TD H (.ref a) (stpD st) ∧ StpW st ∧ ∀ H', Same H H' → Q (.str (rowW st)) H'
theorem ok_row_of (T : Tx K mg) : FnOk P w K mg base CX0 1 T.a_row_of T.d_row_of ["step"] sp_row_of := by
  have nd := sc_row_of.nd
  refine T.F_row_of.ok sc_row_of (fun vs H Q E h => ?_) (fun cdv A0 outer s0 H vs Q E hr h => ?_)
  · obtain ⟨_, _, rfl, _⟩ := h
    rfl
  · obtain ⟨a, st, rfl, td, ok, fin⟩ := h
    refine ⟨_, (pss_cons (ps_set (i := 1) nd rfl (Or.inl rfl) (pe_lst pa_nil)) (pss_cons (ps_for PassesOwn.never rfl (pi_tup (pv 0)) (pg_name (i := 2) nd rfl (Or.inl rfl)) (pss_one (ps_if (pt_val (pe_callB call_isi (by rfl) T.z_isinstance (by decide +kernel) (pa_cons (pv 2) (pa_cons (pe_bltn (v := .ty "tuple") (u := .type "tuple") (by rfl) T.z_tuple (by decide +kernel) rfl) pa_nil)))) (pss_one (ps_expr (pe_bm PySem.F.plainAttrs_list PySem.F.slot_list_extend PySem.F.type_list_extend mt_extend (pv 1) (pa_cons (pe_lc (own := [("number", 3)]) rfl nd (pi_tup (pv 2)) (blkOk_by (own := [("number", 3)]) (N := N_row_of) (sc := defScope s_row_of) (by decide +kernel)) (fun _ _ _ _ _ => (pg_name (i := 3) nd rfl (Or.inl rfl))) (fun _ _ _ _ _ => pts_nil) (fun _ _ _ _ _ => (pe_callTy call_str_int (by rfl) T.z_str (by decide +kernel) (pa_cons (pv 3) pa_nil)))) pa_nil)))) (pss_one (ps_expr (pe_bm PySem.F.plainAttrs_list PySem.F.slot_list_append PySem.F.type_list_append mt_append (pv 1) (pa_cons (pe_callTy call_str_si (by rfl) T.z_str (by decide +kernel) (pa_cons (pv 2) pa_nil)) pa_nil))))))) (pss_one (ps_ret (pe_join pe_str (pv 1)))))), ?_⟩
    rw [stp_parts] at td
    obtain ⟨xs, hxs, txs⟩ : ∃ xs, H a = some (.tup xs) ∧ TDs H xs (partsOf st) := by
      cases td with
      | tup h t => exact ⟨_, h, t⟩
    have hxl : xs.length = (partsOf st).length := txs.length
    have h3 := parts_few st
    have pok := parts_ok ok
    refine ⟨Nat.zero_le _, fun r nr => ⟨_, rfl, a, rfl, ⟨_, SqT.of (same_new (Same.refl H) nr _ _ hxs)⟩, ?_⟩⟩
    refine for_tup (K := K) (a := a) (xs := xs) (fun i σ H' => ∃ v2 v3 : Option V, σ = [some (.ref a), some (.ref r), v2, v3] ∧ Same H H' ∧ H' r = some (.lst ((((partsOf st).take i).flatMap partW).map V.str)) ∧ (((partsOf st).take i).flatMap partW).length ≤ 20 * i) ⟨_, _, rfl, same_new (Same.refl H) nr, upd_same, Nat.zero_le _⟩ (fun i σ H' _ ⟨_, _, _, s, _⟩ => SqT.of (s _ _ hxs)) ?_ ?_
    · rintro i x σ H1 hx ⟨v2, v3, rfl, s1, hr1, hl1⟩
      obtain ⟨d, hd, tx⟩ := txs.get hx
      have tx1 := tx.mono (TSm.of_same s1)
      have dok := pok d (List.mem_of_getElem? hd)
      have hi : i < xs.length := (List.getElem?_eq_some_iff.mp hx).1
      have et : (partsOf st).take (i + 1) = (partsOf st).take i ++ [d] := by rw [List.take_add_one, hd]; rfl
      have hpf := partW_few dok
      have e1 : ((partsOf st).take (i + 1)).flatMap partW = ((partsOf st).take i).flatMap partW ++ partW d := by rw [et, List.flatMap_append]; simp
      have hl2 : (((partsOf st).take i).flatMap partW).length + (partW d).length ≤ 20 * (i + 1) := by omega
      rcases dok with ⟨w, rfl⟩ | ⟨n, rfl, hn⟩ | ⟨t, rfl, ht⟩
      · cases tx1
        refine ⟨_, rfl, _, _, _, _, false, rfl, .ty "tuple", .base (.str _), kit_ty (by decide +kernel), false, rfl, iteF ?_⟩
        refine ⟨_, rfl, .inl ⟨rfl, _, SqL.of hr1⟩, _, rfl, .inl ⟨_, rfl, r, _, _, rfl, rfl, hr1, lt_line (by rw [List.length_map]; omega), _, _, rfl, same_mut s1 nr, ?_, ?_⟩⟩
        · rw [upd_same, e1, List.map_append]; rfl
        · rw [e1, List.length_append]; exact hl2
      · cases tx1
        refine ⟨_, rfl, _, _, _, _, false, rfl, .ty "tuple", .base (.int _), kit_ty (by decide +kernel), false, rfl, iteF ?_⟩
        refine ⟨_, rfl, .inl ⟨rfl, _, SqL.of hr1⟩, _, rfl, .inr ⟨_, rfl, ?_, r, _, _, rfl, rfl, hr1, lt_line (by rw [List.length_map]; omega), _, _, rfl, same_mut s1 nr, ?_, ?_⟩⟩
        · have := Nat.log2_le_self n; show n.log2 < 1920; omega
        · rw [upd_same, e1, List.map_append]; rfl
        · rw [e1, List.length_append]; exact hl2
      · obtain ⟨ta, rfl, hta⟩ := TD.of_tl tx1
        refine ⟨_, rfl, _, _, _, _, true, rfl, .ty "tuple", .base (.tup hta), kit_ty (by decide +kernel), true, rfl, iteT ?_⟩
        refine ⟨_, rfl, .inl ⟨rfl, _, SqL.of hr1⟩, _, rfl, ta, rfl, ⟨_, SqT.of hta⟩, fun D hD => ?_⟩
        refine lc_tup (K := K) (a := ta) (xs := t.map V.int) (fun i H' => Same H1 H' ∧ H' D = some (.lst ((t.take i).map fun x => V.str (numW x.toNat)))) ⟨same_new (Same.refl H1) hD, upd_same⟩ (fun i H' _ p => SqT.of (p.1 _ _ hta)) ?_ ?_
        · rintro j y H2 hy ⟨s2, hD2⟩
          obtain ⟨n, hn, rfl⟩ := map_get hy
          have hjl := (List.getElem?_eq_some_iff.mp hn).1
          have hn2 := ht.2.2 n (List.mem_of_getElem? hn)
          have := ht.2.1
          have en : ((n.toNat : Nat) : Int) = n := Int.toNat_of_nonneg hn2.1
          refine ⟨rfl, _, rfl, n, rfl, ?_, _, hD2, lt_line (by rw [List.length_map, List.length_take]; omega), same_mut s2 hD, ?_⟩
          · have := Nat.log2_le_self n.natAbs; omega
          · rw [upd_same, List.take_add_one, hn, Option.toList_some, List.map_append]
            show some (HO.lst (_ ++ [V.str (Str.ofString (toString n))])) = some (HO.lst (_ ++ [V.str (Str.ofString (toString ((n.toNat : Nat) : Int)))]))
            rw [en]
        · rintro H2 ⟨s2, hD2⟩
          rw [List.length_map, List.take_length] at hD2
          refine ⟨r, D, _, _, rfl, rfl, s2 _ _ hr1, hD2, le_line (by rw [List.length_map, List.length_map]; rw [partW_tl, List.length_map] at hl2; omega), _, _, rfl, same_mut (s1.trans s2) nr, ?_, ?_⟩
          · rw [upd_same, e1, partW_tl, List.map_append, List.map_map]; rfl
          · rw [e1, List.length_append]; exact hl2
    · rintro σ H1 ⟨v2, v3, rfl, s1, hr1, hl1⟩
      rw [hxl, List.take_length, ← words_parts] at hr1
      have h4 := sum_le (fun w : Str => w.length) 6 (wordsOf st) (words_short ok).1
      have h5 := (words_short ok).2
      have h6 : (" " : Str).length = 1 := rfl
      exact ⟨⟨_, rfl⟩, _, rfl, _, r, wordsOf st, rfl, rfl, .inl (SqL.of hr1), by rw [h6]; omega, fin H1 s1⟩
/-! ### _step_of -/
def sp_step_of (A B C : Addr) : Sp := fun vs H Q _ => ∃ (a : Addr) (st : Stp), vs = [.ref a] ∧ H a = some (.lst ((wordsOf st).map V.str)) ∧ StpW st ∧ ∀ v H', Same H H' → TD H' (.ref v) (stpD st) → Q (.ref v) H'
theorem ok_step_of (T : Tx K mg) : FnOk P w K mg base CX0 2 T.a_step_of T.d_step_of ["words"] (sp_step_of T.A_BARE T.A_LETTERS T.A_WAYS) := by
  have nd := sc_step_of.nd
  refine T.F_step_of.ok sc_step_of (fun vs H Q E h => ?_) (fun cdv A0 outer s0 H vs Q E hr h => ?_)
  · obtain ⟨_, _, rfl, _⟩ := h
    rfl
  · obtain ⟨a, st, rfl, ha, ok, fin⟩ := h
    refine ⟨_, (pss_cons (ps_asg (pv 0) (pg_star rfl (pg_name (i := 1) nd rfl (Or.inl rfl)) (pg_name (i := 2) nd rfl (Or.inl rfl)))) (pss_cons (ps_if (PW.pt (pw_and (pt_cmpR op_in_seq (pv 1) (pe_glob (v := .ref T.A_BARE) (by rfl) T.c_BARE rfl) rfl) (pw_and1 (pt_not (pt_truth (pv 2) (by intro _; rfl)))))) (pss_one (ps_ret (pe_tup (pa_cons (pv 1) pa_nil)))) pss_nil) (pss_cons (ps_if (PW.pt (pw_and (pt_cmpR op_in_seq (pv 1) (pe_glob (v := .ref T.A_LETTERS) (by rfl) T.c_LETTERS rfl) rfl) (pw_and (pt_cmpR op_eq (pe_callB call_len_seq (by rfl) T.z_len PySem.boot_len (pa_cons (pv 2) pa_nil)) pe_int (nomark _)) (pw_and (pt_cmpR op_in_seq (pe_ix ix_list (pv 2) pe_int (fun _ _ => rfl)) (pe_glob (v := .ref T.A_WAYS) (by rfl) T.c_WAYS rfl) rfl) (pw_and1 (pt_val (pe_call (ok_is_written_number T) (hr.mono (by decide)) (by rfl) T.m_is_written_number T.F_is_written_number.kp T.b_is_written_number .nil pass0 (pa_cons (pe_ix ix_list (pv 2) pe_int (fun _ _ => rfl)) pa_nil)))))))) (pss_one (ps_ret (pe_tup (pa_cons (pv 1) (pa_cons (pe_ix ix_list (pv 2) pe_int (fun _ _ => rfl)) (pa_cons (pe_callTy call_int_str (by rfl) T.z_int (by decide +kernel) (pa_cons (pe_ix ix_list (pv 2) pe_int (fun _ _ => rfl)) pa_nil)) pa_nil)))))) pss_nil) (pss_cons (ps_if (pt_not (pt_val (pe_callB (cr_all rfl) (by rfl) T.z_all (by decide +kernel) (pa_cons (pe_lc (own := [("figures", 4)]) rfl nd (pi_list (pv 2)) (blkOk_by (own := [("figures", 4)]) (N := N_step_of) (sc := defScope s_step_of) (by decide +kernel)) (fun _ _ _ _ _ => (pg_name (i := 4) nd rfl (Or.inl rfl))) (fun _ _ _ _ _ => pts_nil) (fun _ _ _ _ _ => (pe_call (ok_is_written_number T) (hr.mono (by decide)) (by rfl) T.m_is_written_number T.F_is_written_number.kp T.b_is_written_number .nil pass0 (pa_cons (pv 4) pa_nil)))) pa_nil)))) (pss_one (ps_ret pe_non)) pss_nil) (pss_cons (ps_setLc (i := 3) (own := [("figures", 4)]) rfl nd rfl rfl (sw_true rfl rfl rfl (by decide +kernel)) (pi_list (pv 2)) (blkOk_by (own := [("figures", 4)]) (N := N_step_of) (sc := defScope s_step_of) (by decide +kernel)) (fun _ _ _ _ _ => (pg_name (i := 4) nd rfl (Or.inl rfl))) (fun _ _ _ _ _ => pts_nil) (fun _ _ _ _ _ => (pe_callTy call_int_str (by rfl) T.z_int (by decide +kernel) (pa_cons (pv 4) pa_nil)))) (pss_cons (ps_if (PW.pt (pw_and (pt_cmpR op_eq (pv 1) pe_str (nomark _)) (pw_and1 (pt_cmpR op_eq (pe_callB call_len_seq (by rfl) T.z_len PySem.boot_len (pa_cons (pv 3) pa_nil)) pe_int (nomark _))))) (pss_one (ps_ret (pe_tup (pa_cons (pv 1) (pa_cons (pe_ix ix_list (pv 3) pe_int (fun _ _ => rfl)) pa_nil))))) pss_nil) (pss_cons (ps_if (PW.pt (pw_and (pt_cmpR op_eq (pv 1) pe_str (nomark _)) (pw_and1 (pt_cmpR op_ge (pe_callB call_len_seq (by rfl) T.z_len PySem.boot_len (pa_cons (pv 3) pa_nil)) pe_int (nomark _))))) (pss_one (ps_ret (pe_tup (pa_cons (pv 1) (pa_cons (pe_ix ix_list (pv 3) pe_int (fun _ _ => rfl)) (pa_cons (pe_tupleOf (by rfl) T.z_tuple (pe_slice sl_list (pv 3) (po_some pe_int) po_none)) pa_nil)))))) pss_nil) (pss_one (ps_ret pe_non))))))))), ?_⟩
    obtain ⟨x, xs, ew⟩ : ∃ x xs, wordsOf st = x :: xs := by cases st <;> exact ⟨_, _, rfl⟩
    have hxl : xs.length ≤ 21 := by have := (words_short ok).2; rw [ew] at this; simpa using this
    rw [ew] at ha
    refine ⟨_, rfl, a, _, _, rfl, SqL.of ha, by rw [List.length_map]; omega, fun r nr => ?_⟩
    have s1 := same_new (Same.refl H) nr (o := .lst (xs.map V.str))
    have hr1 : upd H r (.lst (xs.map V.str)) r = some (.lst (xs.map V.str)) := upd_same
    generalize upd H r (.lst (xs.map V.str)) = H1 at *
    have nrr : r ≠ a := fun e => by rw [e, ha] at nr; cases nr
    have kinds : (xs = [] ∧ inV (.str x) [.str "begin", .str "shut", .str "beat", .str "ask", .str "settle"] = true ∧ stpD st = .tuple [.str x]) ∨
        (∃ (u : Bool) (j : Nat), xs = [wayS u, numW j] ∧ inV (.str x) [.str "begin", .str "shut", .str "beat", .str "ask", .str "settle"] = false ∧ inV (.str x) [.str "hear", .str "lose", .str "twice"] = true ∧ stpD st = .tuple [.str x, .str (wayS u), .int ((j : Nat) : Int)] ∧ j ≤ 5) ∨
        ∃ ns : List Nat, xs = ns.map numW ∧ (∀ n ∈ ns, n < 256) ∧ ns.length ≤ 21 ∧ ((x = "close" ∧ ∃ s : Nat, ns = [s] ∧ stpD st = .tuple [.str "close", .int ((s : Nat) : Int)]) ∨ (x = "tell" ∧ ∃ (s : Nat) (t : List Int), ns = s :: t.map Int.toNat ∧ tellOk t ∧ stpD st = .tuple [.str "tell", .int ((s : Nat) : Int), tlD t])) := by
      cases st with
      | tell s t =>
        injection ew with e1 e2; subst e1 e2
        refine .inr (.inr ⟨s :: t.map Int.toNat, by simp, fun n hn => ?_, by have := ok.2.2.1; rw [List.length_cons, List.length_map]; omega, .inr ⟨rfl, s, t, rfl, ok.2, rfl⟩⟩)
        rcases List.mem_cons.mp hn with g | g
        · have := ok.1; omega
        · obtain ⟨x, hx, rfl⟩ := List.mem_map.mp g
          have := ok.2.2.2 x hx
          omega
      | close s => injection ew with e1 e2; subst e1 e2; exact .inr (.inr ⟨[s], rfl, fun n hn => by (have := List.mem_singleton.mp hn; have : s < 4 := ok; omega), by show 1 ≤ 21; decide, .inl ⟨rfl, s, rfl, rfl⟩⟩)
      | begin => injection ew with e1 e2; subst e1 e2; exact .inl ⟨rfl, by decide +kernel, rfl⟩
      | shut => injection ew with e1 e2; subst e1 e2; exact .inl ⟨rfl, by decide +kernel, rfl⟩
      | beat => injection ew with e1 e2; subst e1 e2; exact .inl ⟨rfl, by decide +kernel, rfl⟩
      | ask => injection ew with e1 e2; subst e1 e2; exact .inl ⟨rfl, by decide +kernel, rfl⟩
      | hear u j => injection ew with e1 e2; subst e1 e2; exact .inr (.inl ⟨u, j, rfl, by decide +kernel, by decide +kernel, rfl, ok⟩)
      | lose u j => injection ew with e1 e2; subst e1 e2; exact .inr (.inl ⟨u, j, rfl, by decide +kernel, by decide +kernel, rfl, ok⟩)
      | twice u j => injection ew with e1 e2; subst e1 e2; exact .inr (.inl ⟨u, j, rfl, by decide +kernel, by decide +kernel, rfl, ok⟩)
    rcases kinds with ⟨rfl, inB, ed⟩ | ⟨u, j, rfl, inB, inL, ed, hj⟩ | ⟨ns, rfl, hnb, hnl, last⟩
    · rw [ed] at fin
      refine ⟨_, rfl, T.A_BARE, _, rfl, .inr (T.q_BARE H1), rfl, by decide, true, congrArg V.bl inB, iteT ?_⟩
      refine ⟨_, rfl, false, .inl ⟨_, SqL.of hr1, rfl⟩, iteT ?_⟩
      refine ⟨_, rfl, (by decide : (1 : Nat) ≤ sizeLine), fun v nv => fin v _ (s1.trans (same_new (Same.refl _) nv)) (.tup upd_same (.cons (.str _) .nil))⟩
    · rw [ed] at fin
      refine ⟨_, rfl, T.A_BARE, _, rfl, .inr (T.q_BARE H1), rfl, by decide, false, congrArg V.bl inB, iteF (iteF ?_)⟩
      refine ⟨_, rfl, T.A_LETTERS, _, rfl, .inr (T.q_LETTERS H1), rfl, by decide, true, congrArg V.bl inL, iteT ?_⟩
      refine ⟨_, rfl, r, _, rfl, .inl (SqL.of hr1), rfl, true, rfl, iteT ?_⟩
      refine ⟨_, rfl, r, _, 0, _, rfl, rfl, SqL.of hr1, atI_nat (j := 0) rfl, T.A_WAYS, _, rfl, .inr (T.q_WAYS H1), rfl, by decide, true, congrArg V.bl (by cases u <;> decide +kernel), iteT ?_⟩
      refine ⟨_, rfl, r, _, 1, _, rfl, rfl, SqL.of hr1, atI_nat (j := 1) rfl, j, rfl, by omega, ?_⟩
      refine ⟨true, rfl, iteT ?_⟩
      refine ⟨_, rfl, _, rfl, r, _, 0, _, rfl, rfl, SqL.of hr1, atI_nat (j := 0) rfl, _, rfl, r, _, 1, _, rfl, rfl, SqL.of hr1, atI_nat (j := 1) rfl, numW j, _, rfl, numW_int (by omega), by have := numW_len (n := j) (by omega); omega, (by decide : (3 : Nat) ≤ sizeLine), fun v nv => ?_⟩
      exact fin v _ (s1.trans (same_new (Same.refl _) nv)) (.tup upd_same (.cons (.str _) (.cons (.str _) (.cons (.int _) .nil))))
    · have inB : inV (.str x) [.str "begin", .str "shut", .str "beat", .str "ask", .str "settle"] = false := by
        rcases last with ⟨rfl, _⟩ | ⟨rfl, _⟩ <;> decide +kernel
      have inL : inV (.str x) [.str "hear", .str "lose", .str "twice"] = false := by
        rcases last with ⟨rfl, _⟩ | ⟨rfl, _⟩ <;> decide +kernel
      refine ⟨_, rfl, T.A_BARE, _, rfl, .inr (T.q_BARE H1), rfl, by decide, false, congrArg V.bl inB, iteF (iteF ?_)⟩
      refine ⟨_, rfl, T.A_LETTERS, _, rfl, .inr (T.q_LETTERS H1), rfl, by decide, false, congrArg V.bl inL, iteF (iteF ?_)⟩
      refine ⟨_, rfl, r, rfl, ⟨_, SqL.of hr1⟩, fun D1 nD1 => ?_⟩
      refine lc_list (K := K) (a := r) (xs := (ns.map numW).map V.str) (fun i H' => Same H1 H' ∧ H' D1 = some (.lst ((List.replicate i true).map V.bl))) ⟨same_new (Same.refl H1) nD1, upd_same⟩ (fun i H' _ p => SqL.of (p.1 _ _ hr1)) ?_ ?_
      · rintro i y H2 hy ⟨s2, hD2⟩
        obtain ⟨w, hw, rfl⟩ := map_get hy
        obtain ⟨n, hn, rfl⟩ := map_get hw
        have hi := (List.getElem?_eq_some_iff.mp hn).1
        refine ⟨rfl, _, rfl, n, rfl, hnb n (List.mem_of_getElem? hn), _, hD2, lt_line (by rw [List.length_map, List.length_replicate]; omega), same_mut s2 nD1, ?_⟩
        rw [upd_same, List.replicate_succ', List.map_append]
        rfl
      rintro H2 ⟨s2, hD2⟩
      refine ⟨D1, _, rfl, SqL.of hD2, true, congrArg V.bl ?_, iteF ?_⟩
      · rw [List.all_replicate]; simp
      have hr2 := s2 _ _ hr1
      have s12 := s1.trans s2
      clear hD2 nD1 s2 hr1
      refine ⟨_, rfl, r, rfl, ⟨_, SqL.of hr2⟩, fun D1 nD1 => ?_⟩
      refine lc_list (K := K) (a := r) (xs := (ns.map numW).map V.str) (fun i H' => Same H2 H' ∧ H' D1 = some (.lst ((ns.take i).map fun n : Nat => V.int (n : Int)))) ⟨same_new (Same.refl H2) nD1, upd_same⟩ (fun i H' _ p => SqL.of (p.1 _ _ hr2)) ?_ ?_
      · rintro i y H3 hy ⟨s3, hD3⟩
        obtain ⟨w, hw, rfl⟩ := map_get hy
        obtain ⟨n, hn, rfl⟩ := map_get hw
        have hi := (List.getElem?_eq_some_iff.mp hn).1
        have hn2 := hnb n (List.mem_of_getElem? hn)
        refine ⟨rfl, _, rfl, numW n, _, rfl, numW_int hn2, (by have := numW_len hn2; omega), _, hD3, lt_line (by rw [List.length_map, List.length_take]; omega), same_mut s3 nD1, ?_⟩
        rw [upd_same, List.take_add_one, hn, Option.toList_some, List.map_append]
        rfl
      rintro H3 ⟨s3, hD3⟩
      rw [List.length_map, List.length_map, List.take_length] at hD3
      have s13 := s12.trans s3
      rcases last with ⟨rfl, s, rfl, ed⟩ | ⟨rfl, s, t, rfl, ht, ed⟩
      · rw [ed] at fin
        refine ⟨_, rfl, rfl, true, rfl, iteT ?_⟩
        refine ⟨_, rfl, D1, _, rfl, .inl (SqL.of hD3), rfl, true, rfl, iteT ?_⟩
        refine ⟨_, rfl, _, rfl, D1, _, 0, _, rfl, rfl, SqL.of hD3, atI_nat (j := 0) rfl, (by decide : (2 : Nat) ≤ sizeLine), fun v nv => ?_⟩
        exact fin v _ (s13.trans (same_new (Same.refl _) nv)) (.tup upd_same (.cons (.str _) (.cons (.int _) .nil)))
      · rw [ed] at fin
        have e1 : ((s :: t.map Int.toNat).map fun n : Nat => V.int (n : Int)) = V.int (s : Int) :: t.map V.int := by
          rw [List.map_cons, List.map_map]
          congr 1
          refine List.map_congr_left fun x hx => ?_
          have := ht.2.2 x hx
          show V.int ((x.toNat : Nat) : Int) = V.int x
          rw [Int.toNat_of_nonneg this.1]
        rw [e1] at hD3
        have tl1 := ht.1
        have hc : cutV (V.int (s : Int) :: t.map V.int) (some (1 : Int)) none = t.map V.int := by
          have := cut_hi (xs := V.int (s : Int) :: t.map V.int) (n := 1) (by rw [List.length_cons]; omega)
          exact this
        refine ⟨_, rfl, rfl, false, congrArg V.bl (by decide +kernel), iteF (iteF ?_)⟩
        refine ⟨_, rfl, rfl, true, rfl, iteT ?_⟩
        refine ⟨_, rfl, D1, _, rfl, .inl (SqL.of hD3), _, _, rfl, rfl, true, congrArg V.bl (decide_eq_true (by rw [List.length_cons, List.length_map]; omega)), iteT ?_⟩
        refine ⟨_, rfl, _, rfl, D1, _, 0, _, rfl, rfl, SqL.of hD3, atI_nat (j := 0) rfl, _, rfl, (1 : Int), rfl, D1, _, rfl, SqL.of hD3, fun g1 n1 => .inl ⟨g1, _, rfl, SqL.of upd_same, fun q nq => ⟨(by decide : (3 : Nat) ≤ sizeLine), fun v nv => ?_⟩⟩⟩
        rw [hc] at *
        have q1 := same_new (Same.refl H3) n1 (o := .lst (t.map V.int))
        have q2 := same_new (Same.refl _) nq (o := .tup (t.map V.int))
        have q3 := same_new (Same.refl _) nv (o := .tup [.str "tell", .int (s : Int), .ref q])
        exact fin v _ (s13.trans ((q1.trans q2).trans q3)) (.tup upd_same (.cons (.str _) (.cons (.int _) (.cons (TD.tl (q3 _ _ upd_same)) .nil))))
/-! ### written -/
def sp_written : Sp := fun vs H Q _ => ∃ (l : Addr) (us : List V) (sts : List Stp), vs = [.ref l] ∧ H l = some (.lst us) ∧ TDs H us (sts.map stpD) ∧ (∀ st ∈ sts, StpW st) ∧ sts.length ≤ 1000 ∧ ∀ H', Same H H' → Q (.str (textW sts)) H'
theorem ok_written (T : Tx K mg) : FnOk P w K mg base CX0 2 T.a_written T.d_written ["steps"] sp_written := by
  have nd := sc_written.nd
  refine T.F_written.ok sc_written (fun vs H Q E h => ?_) (fun cdv A0 outer s0 H vs Q E hr h => ?_)
  · obtain ⟨_, _, _, rfl, _⟩ := h
    rfl
  · obtain ⟨l, us, sts, rfl, hl, tus, ok, hsl, fin⟩ := h
    refine ⟨_, (pss_one (ps_ret (pe_join pe_str (pe_lc (own := [("step", 1)]) rfl nd (pi_list (pv 0)) (blkOk_by (own := [("step", 1)]) (N := N_written) (sc := defScope s_written) (by decide +kernel)) (fun _ _ _ _ _ => (pg_name (i := 1) nd rfl (Or.inl rfl))) (fun _ _ _ _ _ => pts_nil) (fun _ _ _ _ _ => (pe_call (ok_row_of T) (hr.mono (by decide)) (by rfl) T.m_row_of T.F_row_of.kp T.b_row_of .nil pass0 (pa_cons (pv 1) pa_nil))))))), ?_⟩
    have hul : us.length = sts.length := by rw [tus.length, List.length_map]
    refine ⟨⟨_, rfl⟩, _, rfl, l, rfl, ⟨_, SqL.of hl⟩, fun D hD => ?_⟩
    refine lc_list (K := K) (a := l) (xs := us) (fun i H' => Same H H' ∧ H' D = some (.lst (((sts.take i).map rowW).map V.str))) ⟨same_new (Same.refl H) hD, upd_same⟩ (fun i H' _ p => SqL.of (p.1 _ _ hl)) ?_ ?_
    · rintro i y H1 hy ⟨s1, hD1⟩
      obtain ⟨d, hd, ty⟩ := tus.get hy
      obtain ⟨st, hst, rfl⟩ := map_get hd
      have hi := (List.getElem?_eq_some_iff.mp hst).1
      have ty1 := ty.mono (TSm.of_same s1)
      obtain ⟨pa, rfl⟩ : ∃ pa, y = .ref pa := by cases st <;> (cases ty1; exact ⟨_, rfl⟩)
      refine ⟨rfl, _, rfl, pa, st, rfl, ty1, ok st (List.mem_of_getElem? hst), fun H2 s2 => ?_⟩
      refine ⟨_, s2 _ _ hD1, lt_line (by rw [List.length_map, List.length_map, List.length_take]; omega), same_mut (s1.trans s2) hD, ?_⟩
      rw [upd_same, List.take_add_one, hst, Option.toList_some, List.map_append, List.map_append]
      rfl
    · rintro H1 ⟨s1, hD1⟩
      rw [hul, List.take_length] at hD1
      have h2 := sum_le (fun w : Str => w.length) 154 (sts.map rowW) (fun w hw => by obtain ⟨st, hs, rfl⟩ := List.mem_map.mp hw; exact row_len (ok st hs))
      rw [List.length_map] at h2
      have h6 : ("\n" : Str).length = 1 := rfl
      exact ⟨_, D, sts.map rowW, rfl, rfl, .inl (SqL.of hD1), by rw [h6, List.length_map]; omega, fin H1 s1⟩
/-! ### read -/
def sp_read : Sp := fun vs H Q _ => ∃ (sts : List Stp), vs = [.str (textW sts)] ∧ (∀ st ∈ sts, StpW st) ∧ sts.length ≤ 1000 ∧ ∀ r ys H', Same H H' → H r = none → H' r = some (.lst ys) → TDs H' ys (sts.map stpD) → Q (.ref r) H'
theorem ok_read (T : Tx K mg) : FnOk P w K mg base CX0 3 T.a_read T.d_read ["text"] sp_read := by
  have nd := sc_read.nd
  refine T.F_read.ok sc_read (fun vs H Q E h => ?_) (fun cdv A0 outer s0 H vs Q E hr h => ?_)
  · obtain ⟨_, rfl, _⟩ := h
    rfl
  · obtain ⟨sts, rfl, ok, hsl, fin⟩ := h
    refine ⟨_, (pss_cons (ps_if (pt_cmpR op_eq (pv 0) pe_str (nomark _)) (pss_one (ps_ret (pe_lst pa_nil))) pss_nil) (pss_cons (ps_set (i := 1) nd rfl (Or.inl rfl) (pe_lst pa_nil)) (pss_cons (ps_for PassesOwn.never rfl (pi_enum (by rfl) T.z_enumerate (pa_cons (pe_split (pv 0) pe_str) pa_nil)) (pg_tup rfl (pgs_cons (pg_name (i := 2) nd rfl (Or.inl rfl)) (pgs_cons (pg_name (i := 3) nd rfl (Or.inl rfl)) pgs_nil))) (pss_cons (ps_set (i := 4) nd rfl (Or.inl rfl) (pe_call (ok_step_of T) (hr.mono (by decide)) (by rfl) T.m_step_of T.F_step_of.kp T.b_step_of .nil pass0 (pa_cons (pe_split (pv 3) pe_str) pa_nil))) (pss_cons (ps_if (pt_cmpR op_isN (pv 4) pe_non (nomark _)) (pss_one ps_never) pss_nil) (pss_one (ps_expr (pe_bm PySem.F.plainAttrs_list PySem.F.slot_list_append PySem.F.type_list_append mt_append (pv 1) (pa_cons (pv 4) pa_nil))))))) (pss_one (ps_ret (pv 1)))))), ?_⟩
    by_cases hn : sts = []
    · subst hn
      refine ⟨_, rfl, rfl, true, congrArg V.bl (decide_eq_true rfl), iteT ⟨Nat.zero_le _, fun r nr => fin r [] _ (same_new (Same.refl H) nr) nr upd_same .nil⟩⟩
    refine ⟨_, rfl, rfl, false, congrArg V.bl (decide_eq_false fun h => text_ne hn (V.str.inj h)), iteF ?_⟩
    have htl := text_len ok
    refine ⟨Nat.zero_le _, fun r nr => ?_⟩
    have s1 := same_new (Same.refl H) nr (o := .lst [])
    have hr1 : upd H r (.lst []) r = some (.lst []) := upd_same
    generalize upd H r (.lst []) = H1 at *
    refine ⟨_, rfl, ⟨_, rfl⟩, _, _, rfl, rfl, by decide, le_line (by omega), fun p np => ?_⟩
    rw [split_text hn]
    have s2 := same_new (Same.refl H1) np (o := .lst ((sts.map rowW).map V.str))
    have hp : upd H1 p (.lst ((sts.map rowW).map V.str)) p = some (.lst ((sts.map rowW).map V.str)) := upd_same
    have npr : p ≠ r := fun e => by rw [e, hr1] at np; cases np
    have hr2 := s2 _ _ hr1
    generalize upd H1 p (.lst ((sts.map rowW).map V.str)) = H2 at *
    refine ⟨p, _, rfl, SqL.of hp, ?_⟩
    refine for_enum (K := K) (l := p) (ys := (sts.map rowW).map V.str) (fun i σ H' => ∃ (v2 v3 v4 : Option V) (ys : List V), σ = [some (.str (textW sts)), some (.ref r), v2, v3, v4] ∧ Same H H' ∧ H' p = some (.lst ((sts.map rowW).map V.str)) ∧ H' r = some (.lst ys) ∧ TDs H' ys ((sts.take i).map stpD)) ⟨_, _, _, [], rfl, s1.trans s2, hp, hr2, .nil⟩ (fun i σ H' _ ⟨_, _, _, _, _, _, h, _⟩ => SqL.of h) ?_ ?_
    · rintro i y σ H3 t hy ⟨v2, v3, v4, ys, rfl, s3, hp3, hr3, tys⟩ nt
      obtain ⟨w, hw, rfl⟩ := map_get hy
      obtain ⟨st, hst, rfl⟩ := map_get hw
      have hi := (List.getElem?_eq_some_iff.mp hst).1
      have okst := ok st (List.mem_of_getElem? hst)
      have q1 := same_new (Same.refl H3) nt (o := .tup [.int ((i : Nat) : Int), .str (rowW st)])
      refine ⟨t, _, rfl, SqT.of upd_same, rfl, _, _, rfl, _, _, rfl, rfl, ?_⟩
      have hrl := row_len okst
      refine ⟨_, rfl, ⟨_, rfl⟩, _, _, rfl, rfl, by decide, le_line (by omega), fun q nq => ?_⟩
      have q2 := same_new (Same.refl _) nq (o := .lst ((Txt.split (rowW st) " ").map V.str))
      refine ⟨q, st, rfl, by rw [split_row]; exact upd_same, okst, fun v H4 s4 tv => ?_⟩
      have q4 := (q1.trans q2).trans s4
      have hr4 := q4 _ _ hr3
      have tys4 := tys.mono (TSm.of_same q4)
      have hyl : ys.length ≤ 1000 := by rw [tys.length, List.length_map, List.length_take]; omega
      refine ⟨_, rfl, rfl, false, rfl, iteF ?_⟩
      have t5 : TSm H4 (upd H4 r (.lst (ys ++ [.ref v]))) := ts_upd (TSm.refl _) (NoT.lst hr4)
      refine ⟨_, rfl, .inl ⟨rfl, _, SqL.of hr4⟩, _, rfl, r, ys, _, rfl, rfl, hr4, lt_line (by omega), _, _, _, ys ++ [.ref v], rfl, same_mut (s3.trans q4) nr, ?_, upd_same, ?_⟩
      · show upd H4 r _ p = _
        rw [upd_ne npr]
        exact q4 _ _ hp3
      · rw [List.take_add_one, hst, Option.toList_some, List.map_append]
        exact (tys4.mono t5).app (.one (tv.mono t5))
    · rintro σ H3 ⟨v2, v3, v4, ys, rfl, s3, hp3, hr3, tys⟩
      rw [List.length_map, List.length_map, List.take_length] at tys
      exact ⟨_, rfl, fin r ys H3 s3 nr hr3 tys⟩
end
end K20

namespace K20
open PySem PySem.Spec PyProof.Rows L2 Sky
section
variable {P : Program} {w : World} {K : PySem.W.Frag} {mg : Str → Option Value} {base : Heap}
/-! ### what is alike -/
def sp_alike (K : PySem.W.Frag) : Nat → Sp
  | 0 => fun _ _ _ _ => False
  | n + 1 => fun vs H Q _ => ∃ (v u : V) (d : PyData), vs = [v, u] ∧ Dp K H v d ∧ Dp K H u d ∧ DOk n d ∧ ∀ H', Same H H' → Q (.bl true) H'
theorem isi {x : V} {n m : String} {b : Bool} {H : Hp} {Q : VK} (ty : TyX K H x (.type n)) (k : kitB n m = some b) (q : Q (.bl b) H) : rIsi K [x, .ty m] H Q := ⟨x, _, _, _, b, rfl, .ty m, ty, kit_ty k, q⟩
theorem isi2 {x : V} {n m m' : String} {b : Bool} {tp : Addr} {H : Hp} {Q : VK} (ht : H tp = some (.tup [.ty m, .ty m'])) (ty : TyX K H x (.type n)) (k : PySem.W.kitAny K (.type n) [.type m, .type m'] = some b) (q : Q (.bl b) H) : rIsiT K [x, .ref tp] H Q :=
  ⟨x, tp, _, _, _, b, rfl, ht, .cons (.ty _) (.cons (.ty _) .nil), ty, k, q⟩
theorem ok_law_alike (T : Tx K mg) : ∀ n, FnOk P w K mg base CX0 n T.a_law_alike T.d_law_alike ["_law_found", "_law_due"] (sp_alike K n)
  | 0 => ⟨fun vs H Q E h => False.elim h, by intros; rename_i h; first | exact False.elim h | (rename_i h _; exact False.elim h) | (rename_i h _ _; exact False.elim h)⟩
  | n + 1 => by
    have ih := ok_law_alike T n
    have nd := sc_law_alike.nd
    refine T.F_law_alike.ok sc_law_alike (fun vs H Q E h => ?_) (fun cdv A outer s H vs Q E hr h => ?_)
    · obtain ⟨_, _, _, rfl, _⟩ := h
      rfl
    · obtain ⟨v, u, d, rfl, h1, h2, hd, q⟩ := h
      refine ⟨_, (pss_cons (ps_if (pt_val (pe_callB call_isiT (by rfl) T.z_isinstance (by decide +kernel) (pa_cons (pv 1) (pa_cons (pe_tup (pa_cons (pe_bltn (v := .ty "tuple") (u := .type "tuple") (by rfl) T.z_tuple (by decide +kernel) rfl) (pa_cons (pe_bltn (v := .ty "list") (u := .type "list") (by rfl) T.z_list (by decide +kernel) rfl) pa_nil))) pa_nil)))) (pss_cons (ps_if (PW.pt (pw_or (pt_not (pt_val (pe_callB call_isiT (by rfl) T.z_isinstance (by decide +kernel) (pa_cons (pv 0) (pa_cons (pe_tup (pa_cons (pe_bltn (v := .ty "tuple") (u := .type "tuple") (by rfl) T.z_tuple (by decide +kernel) rfl) (pa_cons (pe_bltn (v := .ty "list") (u := .type "list") (by rfl) T.z_list (by decide +kernel) rfl) pa_nil))) pa_nil))))) (pw_or1 (pt_cmpR op_ne (pe_callB call_isi (by rfl) T.z_isinstance (by decide +kernel) (pa_cons (pv 0) (pa_cons (pe_bltn (v := .ty "list") (u := .type "list") (by rfl) T.z_list (by decide +kernel) rfl) pa_nil))) (pe_callB call_isi (by rfl) T.z_isinstance (by decide +kernel) (pa_cons (pv 1) (pa_cons (pe_bltn (v := .ty "list") (u := .type "list") (by rfl) T.z_list (by decide +kernel) rfl) pa_nil))) (nomark _))))) (pss_one (ps_ret pe_bl)) pss_nil) (pss_cons (ps_if (pt_cmpR op_ne (pe_callB call_len_seq (by rfl) T.z_len PySem.boot_len (pa_cons (pv 0) pa_nil)) (pe_callB call_len_seq (by rfl) T.z_len PySem.boot_len (pa_cons (pv 1) pa_nil)) (nomark _)) (pss_one (ps_ret pe_bl)) pss_nil) (pss_one (ps_ret (pe_cmpR (op_eqD hr.units) (pe_lc (own := [("_law_k", 2)]) rfl nd (pi_range1 rfl T.z_range (pa_cons (pe_callB call_len_seq (by rfl) T.z_len PySem.boot_len (pa_cons (pv 1) pa_nil)) pa_nil)) (blkOk_by (own := [("_law_k", 2)]) (N := N_law_alike) (sc := defScope s_law_alike) (by decide +kernel)) (fun _ _ _ _ _ => (pg_name (i := 2) nd rfl (Or.inl rfl))) (fun _ _ _ _ _ => (pts_one (pt_not (pt_val (pe_call ih hr (by rfl) T.m_law_alike T.F_law_alike.kp T.b_law_alike .nil pass0 (pa_cons (pe_ix (ix_seqK (K := K) rfl) (pv 0) (pv 2) (fun _ _ => rfl)) (pa_cons (pe_ix (ix_seqK (K := K) rfl) (pv 1) (pv 2) (fun _ _ => rfl)) pa_nil))))))) (fun _ _ _ _ _ => (pv 2))) (pe_lst pa_nil) (nomark _)))))) pss_nil) (pss_cons (ps_if (pt_cmpR op_isN (pv 1) pe_non (nomark _)) (pss_one (ps_ret (pe_cmpR op_isN (pv 0) pe_non (nomark _)))) pss_nil) (pss_cons (ps_if (pt_val (pe_callB call_isi (by rfl) T.z_isinstance (by decide +kernel) (pa_cons (pv 1) (pa_cons (pe_bltn (v := .ty "str") (u := .type "str") (by rfl) T.z_str (by decide +kernel) rfl) pa_nil)))) (pss_one (ps_ret (pe_and (pe_callB call_isi (by rfl) T.z_isinstance (by decide +kernel) (pa_cons (pv 0) (pa_cons (pe_bltn (v := .ty "str") (u := .type "str") (by rfl) T.z_str (by decide +kernel) rfl) pa_nil))) (pe_one (pe_cmpR op_eq (pv 0) (pv 1) (nomark _)))))) pss_nil) (pss_cons (ps_if (PW.pt (pw_or (pt_val (pe_callB call_isi (by rfl) T.z_isinstance (by decide +kernel) (pa_cons (pv 1) (pa_cons (pe_bltn (v := .ty "bool") (u := .type "bool") (by rfl) T.z_bool (by decide +kernel) rfl) pa_nil)))) (pw_or1 (pt_val (pe_callB call_isi (by rfl) T.z_isinstance (by decide +kernel) (pa_cons (pv 0) (pa_cons (pe_bltn (v := .ty "bool") (u := .type "bool") (by rfl) T.z_bool (by decide +kernel) rfl) pa_nil))))))) (pss_one (ps_ret (pe_and (pe_callB call_isi (by rfl) T.z_isinstance (by decide +kernel) (pa_cons (pv 1) (pa_cons (pe_bltn (v := .ty "bool") (u := .type "bool") (by rfl) T.z_bool (by decide +kernel) rfl) pa_nil))) (pe_and (pe_callB call_isi (by rfl) T.z_isinstance (by decide +kernel) (pa_cons (pv 0) (pa_cons (pe_bltn (v := .ty "bool") (u := .type "bool") (by rfl) T.z_bool (by decide +kernel) rfl) pa_nil))) (pe_one (pe_cmpR op_eq (pv 0) (pv 1) (nomark _))))))) pss_nil) (pss_one (ps_ret (pe_and (pe_callB call_isi (by rfl) T.z_isinstance (by decide +kernel) (pa_cons (pv 0) (pa_cons (pe_bltn (v := .ty "int") (u := .type "int") (by rfl) T.z_int (by decide +kernel) rfl) pa_nil))) (pe_one (pe_cmpR op_eq (pv 0) (pv 1) (nomark _)))))))))), ?_⟩
      -- if isinstance(due, (tuple, list))
      refine ⟨_, rfl, (by decide : (2 : Nat) ≤ sizeLine), fun tp htp => ?_⟩
      have s1 : Same H (upd H tp (.tup [.ty "tuple", .ty "list"])) := same_new (Same.refl _) htp
      have t1 : upd H tp (.tup [.ty "tuple", .ty "list"]) tp = some (.tup [.ty "tuple", .ty "list"]) := upd_same
      have a1 := dp_same s1 h1
      have a2 := dp_same s1 h2
      generalize upd H tp (.tup [.ty "tuple", .ty "list"]) = H1 at *
      have y1 := dp_ty a1
      have y2 := dp_ty a2
      have seq : (∃ ds : List PyData, (d = .list ds ∨ d = .tuple ds) ∧ ds.length ≤ 10000000 ∧ ∃ m, n = m + 1 ∧ ∀ e ∈ ds, DOk m e) ∨ (d = .none ∨ (∃ i, d = .int i) ∨ (∃ b, d = .bool b) ∨ ∃ x, d = .str x) := by
        cases n with
        | zero => exact .inr hd
        | succ m =>
          rcases hd with hd | ⟨ds, e, l, h⟩
          · exact .inr hd
          · exact .inl ⟨ds, e, l, m, rfl, h⟩
      rcases seq with ⟨ds, ed, hl, m, rfl, hds⟩ | rfl | ⟨i, rfl⟩ | ⟨b, rfl⟩ | ⟨x, rfl⟩
      · -- a list, a tuple
        have k2 : PySem.W.kitAny K (.type (tyN d)) [.type "tuple", .type "list"] = some true := by
          rcases ed with rfl | rfl
          · exact kit2T' (by decide +kernel : kitB "list" "tuple" = some false) (by decide +kernel : kitB "list" "list" = some true)
          · exact kit2T (by decide +kernel : kitB "tuple" "tuple" = some true)
        obtain ⟨b, kl⟩ : ∃ b, kitB (tyN d) "list" = some b := by
          rcases ed with rfl | rfl
          · exact ⟨true, (by decide +kernel : kitB "list" "list" = some true)⟩
          · exact ⟨false, (by decide +kernel : kitB "tuple" "list" = some false)⟩
        refine ⟨_, _, _, _, _, _, rfl, t1, .cons (.ty _) (.cons (.ty _) .nil), y2, k2, ?_⟩
        refine ⟨true, rfl, iteT ?_⟩
        refine ⟨_, rfl, (by decide : (2 : Nat) ≤ sizeLine), fun tp2 htp2 => ?_⟩
        have s2 : Same H1 (upd H1 tp2 (.tup [.ty "tuple", .ty "list"])) := same_new (Same.refl _) htp2
        have t2 : upd H1 tp2 (.tup [.ty "tuple", .ty "list"]) tp2 = some (.tup [.ty "tuple", .ty "list"]) := upd_same
        have b1 := dp_same s2 a1
        have b2 := dp_same s2 a2
        generalize upd H1 tp2 (.tup [.ty "tuple", .ty "list"]) = H2 at *
        have sH := s1.trans s2
        have z1 := dp_ty b1
        have z2 := dp_ty b2
        refine ⟨_, _, _, _, _, _, rfl, t2, .cons (.ty _) (.cons (.ty _) .nil), z1, k2, ?_⟩
        refine ⟨true, rfl, iteF ?_⟩
        refine ⟨_, rfl, _, _, _, _, b, rfl, .ty _, z1, kit_ty kl, ?_⟩
        refine ⟨_, rfl, _, _, _, _, b, rfl, .ty _, z2, kit_ty kl, ?_⟩
        refine ⟨rfl, false, ndF rfl, iteF ?_⟩
        -- the two as sequences
        obtain ⟨p, xs, ev, hp, hxs⟩ : ∃ p xs, v = .ref p ∧ (∀ H', Same H2 H' → (SqL K H' p xs ∧ d = .list ds) ∨ (SqT K H' p xs ∧ d = .tuple ds)) ∧ DpAll K H2 xs ds := by
          rcases ed with rfl | rfl
          · cases b1 with
            | lst h t => exact ⟨_, _, rfl, fun H' s' => .inl ⟨s'.seq h, rfl⟩, t⟩
          · cases b1 with
            | tup h t => exact ⟨_, _, rfl, fun H' s' => .inr ⟨by
                cases dp_same (K := K) s' (Dp.tup h t) with
                | tup h' t' =>
                  rcases h with (h | ⟨o, h⟩) | h
                  · exact .inl (.inl (s' _ _ h))
                  · exact .inl (.inr ⟨o, s' _ _ h⟩)
                  · exact .inr h, rfl⟩, t⟩
        obtain ⟨p', xs', eu, hp', hxs'⟩ : ∃ p xs, u = .ref p ∧ (∀ H', Same H2 H' → (SqL K H' p xs ∧ d = .list ds) ∨ (SqT K H' p xs ∧ d = .tuple ds)) ∧ DpAll K H2 xs ds := by
          rcases ed with rfl | rfl
          · cases b2 with
            | lst h t => exact ⟨_, _, rfl, fun H' s' => .inl ⟨s'.seq h, rfl⟩, t⟩
          · cases b2 with
            | tup h t => exact ⟨_, _, rfl, fun H' s' => .inr ⟨by
                rcases h with (h | ⟨o, h⟩) | h
                · exact .inl (.inl (s' _ _ h))
                · exact .inl (.inr ⟨o, s' _ _ h⟩)
                · exact .inr h, rfl⟩, t⟩
        subst ev eu
        have w1 : SqL K H2 p xs ∨ SqT K H2 p xs := by rcases hp H2 (Same.refl _) with h | h; exact .inl h.1; exact .inr h.1
        have w2 : SqL K H2 p' xs' ∨ SqT K H2 p' xs' := by rcases hp' H2 (Same.refl _) with h | h; exact .inl h.1; exact .inr h.1
        have l1 : xs.length = ds.length := DpAll.len hxs
        have l2 : xs'.length = ds.length := DpAll.len hxs'
        -- if len(found) != len(due)
        refine ⟨_, rfl, p, xs, rfl, w1, _, rfl, p', xs', rfl, w2, rfl, false, ndF (by rw [l1, l2]), iteF ?_⟩
        -- return [..] == []
        refine ⟨_, rfl, p', xs', rfl, w2, _, rfl, (by omega), (by omega), fun D hD => ?_⟩
        refine lc_range (lo := 0) (n := ((xs'.length : Nat) : Int).toNat) (fun i H' => Same H2 H' ∧ H' D = some (.lst [])) ⟨same_new (Same.refl _) hD, upd_same⟩ ?_ ?_
        · rintro i H' hi ⟨s', hD'⟩
          rw [Int.zero_add]
          have hi' : i < ds.length := by omega
          obtain ⟨y, hy, dy⟩ := DpAll.at hxs (List.getElem?_eq_getElem hi')
          obtain ⟨y', hy', dy'⟩ := DpAll.at hxs' (List.getElem?_eq_getElem hi')
          have fin : ∀ H3, Same H' H3 → Same H2 H3 ∧ H3 D = some (.lst []) := fun H3 s3 => ⟨s'.trans s3, s3 _ _ hD'⟩
          refine ⟨rfl, ?_⟩
          rcases hp H' s' with ⟨g1, ge⟩ | ⟨g1, ge⟩
          · rcases hp' H' s' with ⟨g2, _⟩ | ⟨_, ge'⟩
            · exact ⟨_, rfl, _, rfl, .inl ⟨p, xs, _, y, rfl, rfl, g1, atI_nat hy, _, rfl, _, rfl, .inl ⟨p', xs', _, y', rfl, rfl, g2, atI_nat hy', _, _, _, rfl, dp_same s' dy, dp_same s' dy', hds _ (List.getElem_mem hi'), fun H3 s3 => ⟨true, rfl, iteF (fin H3 s3)⟩⟩⟩⟩
            · rw [ge] at ge'; cases ge'
          · rcases hp' H' s' with ⟨_, ge'⟩ | ⟨g2, _⟩
            · rw [ge] at ge'; cases ge'
            · exact ⟨_, rfl, _, rfl, .inr (.inl ⟨p, xs, _, y, rfl, rfl, g1, atI_nat hy, _, rfl, _, rfl, .inr (.inl ⟨p', xs', _, y', rfl, rfl, g2, atI_nat hy', _, _, _, rfl, dp_same s' dy, dp_same s' dy', hds _ (List.getElem_mem hi'), fun H3 s3 => ⟨true, rfl, iteF (fin H3 s3)⟩⟩)⟩)⟩
        · rintro H' ⟨s', hD'⟩
          refine ⟨Nat.zero_le _, fun e he => ?_⟩
          have se := same_new (Same.refl _) he (o := .lst [])
          refine ⟨.list [], .list [], .lst (SqL.of (se _ _ hD')) .nil, .lst (SqL.of upd_same) .nil, Lay.nil.shaped (by decide), Lay.nil.shaped (by decide), ?_⟩
          rw [eqv_nil]
          exact q _ ((sH.trans s').trans se)
      · -- None
        cases a1
        cases a2
        refine ⟨_, _, _, _, _, _, rfl, t1, .cons (.ty _) (.cons (.ty _) .nil), y2, (kit2F (by decide +kernel : kitB "NoneType" "tuple" = some false) (by decide +kernel : kitB "NoneType" "list" = some false)), ?_⟩
        refine ⟨false, rfl, iteF ?_⟩
        refine ⟨_, rfl, rfl, true, dT rfl, iteT ⟨_, rfl, rfl, ?_⟩⟩
        exact q _ s1
      · -- an int
        cases a1
        cases a2
        refine ⟨_, _, _, _, _, _, rfl, t1, .cons (.ty _) (.cons (.ty _) .nil), y2, (kit2F (by decide +kernel : kitB "int" "tuple" = some false) (by decide +kernel : kitB "int" "list" = some false)), ?_⟩
        refine ⟨false, rfl, iteF ?_⟩
        refine ⟨_, rfl, rfl, false, dF (fun z => nomatch z), iteF ?_⟩
        refine ⟨_, rfl, _, _, _, _, false, rfl, .ty _, y2, kit_ty (by decide +kernel : kitB "int" "str" = some false), ?_⟩
        refine ⟨_, rfl, iteF ?_⟩
        refine ⟨_, rfl, _, _, _, _, false, rfl, .ty _, y2, kit_ty (by decide +kernel : kitB "int" "bool" = some false), ?_⟩
        refine ⟨_, rfl, iteF ?_⟩
        refine ⟨_, rfl, _, _, _, _, false, rfl, .ty _, y1, kit_ty (by decide +kernel : kitB "int" "bool" = some false), ?_⟩
        refine ⟨_, rfl, iteF ?_⟩
        refine ⟨_, rfl, _, _, _, _, true, rfl, .ty _, y1, kit_ty (by decide +kernel : kitB "int" "int" = some true), ?_⟩
        refine ⟨_, rfl, iteT ?_⟩
        exact ⟨_, rfl, _, rfl, rfl, bl_of rfl (q _ s1)⟩
      · -- True, False
        cases a1
        cases a2
        refine ⟨_, _, _, _, _, _, rfl, t1, .cons (.ty _) (.cons (.ty _) .nil), y2, (kit2F (by decide +kernel : kitB "bool" "tuple" = some false) (by decide +kernel : kitB "bool" "list" = some false)), ?_⟩
        refine ⟨false, rfl, iteF ?_⟩
        refine ⟨_, rfl, rfl, false, dF (fun z => nomatch z), iteF ?_⟩
        refine ⟨_, rfl, _, _, _, _, false, rfl, .ty _, y2, kit_ty (by decide +kernel : kitB "bool" "str" = some false), ?_⟩
        refine ⟨_, rfl, iteF ?_⟩
        refine ⟨_, rfl, _, _, _, _, true, rfl, .ty _, y2, kit_ty (by decide +kernel : kitB "bool" "bool" = some true), ?_⟩
        refine ⟨_, rfl, iteT ?_⟩
        refine ⟨_, rfl, _, _, _, _, true, rfl, .ty _, y2, kit_ty (by decide +kernel : kitB "bool" "bool" = some true), ?_⟩
        refine ⟨_, rfl, iteT ?_⟩
        refine ⟨_, rfl, _, _, _, _, true, rfl, .ty _, y1, kit_ty (by decide +kernel : kitB "bool" "bool" = some true), ?_⟩
        refine ⟨_, rfl, iteT ?_⟩
        exact ⟨_, rfl, _, rfl, rfl, bl_of rfl (q _ s1)⟩
      · -- a text
        cases a1
        cases a2
        refine ⟨_, _, _, _, _, _, rfl, t1, .cons (.ty _) (.cons (.ty _) .nil), y2, (kit2F (by decide +kernel : kitB "str" "tuple" = some false) (by decide +kernel : kitB "str" "list" = some false)), ?_⟩
        refine ⟨false, rfl, iteF ?_⟩
        refine ⟨_, rfl, rfl, false, dF (fun z => nomatch z), iteF ?_⟩
        refine ⟨_, rfl, _, _, _, _, true, rfl, .ty _, y2, kit_ty (by decide +kernel : kitB "str" "str" = some true), ?_⟩
        refine ⟨_, rfl, iteT ?_⟩
        refine ⟨_, rfl, _, _, _, _, true, rfl, .ty _, y1, kit_ty (by decide +kernel : kitB "str" "str" = some true), ?_⟩
        refine ⟨_, rfl, iteT ?_⟩
        exact ⟨_, rfl, _, rfl, rfl, bl_of rfl (q _ s1)⟩
end
end K20

namespace K20
open PySem PySem.Spec PyProof.Rows L2 Sky
theorem normT {β : Type} {t : L2.St → Hp → β → Prop} {σ σ' : L2.St} {H : Hp} {Q : β} (e : σ = σ') (h : t σ' H Q) : t σ H Q := e ▸ h
theorem normS {t : L2.TS} {D : Ends} {σ σ' : L2.St} {H : Hp} (e : σ = σ') (h : t D σ' H) : t D σ H := e ▸ h
theorem slL_take' {K : PySem.W.Frag} {a : Addr} {xs : List V} {n : Nat} {H : Hp} {Q : VK} (ha : H a = some (.lst xs)) (h : ∀ g H', Same H H' → H g = none → H' g = some (.lst (xs.take n)) → Q (.ref g) H') : rSlL K (.ref a) none (some ((n : Nat) : Int)) H Q :=
  ⟨a, xs, rfl, SqL.of ha, fun g ng => h g _ (same_new (Same.refl _) ng) ng (by
    rw [upd_same]
    unfold cutV
    rw [HT.sIx_none, HT.sIx_nat, List.drop_zero, Nat.sub_zero]
    by_cases h : n ≤ xs.length
    · rw [Nat.min_eq_left h]
    · rw [Nat.min_eq_right (by omega), List.take_length, List.take_of_length_le (by omega)])⟩
theorem stpW_of {st : Stp} (h : StpOk st ∧ stpJ st ≤ 5) : StpW st := by
  cases st with
  | tell s t => exact h.1
  | close s => exact h.1
  | begin => trivial
  | shut => trivial
  | beat => trivial
  | ask => trivial
  | hear u j => exact h.2
  | lose u j => exact h.2
  | twice u j => exact h.2
theorem slL_take {K : PySem.W.Frag} {a : Addr} {xs : List V} {n : Nat} {H : Hp} {Q : VK} (ha : H a = some (.lst xs)) (hn : n ≤ xs.length) (h : ∀ g H', Same H H' → H g = none → H' g = some (.lst (xs.take n)) → Q (.ref g) H') : rSlL K (.ref a) none (some ((n : Nat) : Int)) H Q :=
  ⟨a, xs, rfl, SqL.of ha, fun g ng => h g _ (same_new (Same.refl _) ng) ng (by rw [upd_same, cut_lo hn])⟩
section
variable {P : Program} {w : World} {K : PySem.W.Frag} {mg : Str → Option Value} {base : Heap}
def sp_law (K : PySem.W.Frag) : Sp := fun vs H Q _ => ∃ (a : Addr) (ns : List Int), vs = [.ref a] ∧ SqL K H a (ns.map V.int) ∧ ns.length ≤ 63 ∧ ∀ H', Q (.bl true) H'
theorem ok_law (T : Tx K mg) : FnOk P w K mg base CX0 12 T.a_law T.d_law ["_law_script"] (sp_law K) := by
  have nd := sc_law.nd
  refine T.F_law.ok sc_law (fun vs H Q E h => ?_) (fun cdv A outer s H vs Q E hr h => ?_)
  · obtain ⟨_, _, rfl, _⟩ := h
    rfl
  · obtain ⟨sa, ns, rfl, hS, hlen, fin⟩ := h
    refine ⟨_, (pss_cons (ps_set (i := 1) nd rfl (Or.inr rfl) (pe_call (ok_law_mix T) (hr.mono (by decide)) (by rfl) T.m_law_mix T.F_law_mix.kp T.b_law_mix .nil pass0 (pa_cons (pv 0) (pa_cons pe_int pa_nil)))) (pss_cons (ps_par (i := 2) (j := 3) rfl nd rfl rfl (by decide) rfl rfl (pa_cons (pe_op op_add pe_int (pe_call (ok_law_next T) (hr.mono (by decide)) (by rfl) T.m_law_next T.F_law_next.kp T.b_law_next .nil pass0 (pa_cons (pv 1) (pa_cons pe_int pa_nil)))) (pa_cons (pe_op op_add pe_int (pe_call (ok_law_next T) (hr.mono (by decide)) (by rfl) T.m_law_next T.F_law_next.kp T.b_law_next .nil pass0 (pa_cons (pv 1) (pa_cons (pe_ix ix_list (pe_lst (pa_cons pe_int (pa_cons pe_int pa_nil))) (pe_call (ok_law_next T) (hr.mono (by decide)) (by rfl) T.m_law_next T.F_law_next.kp T.b_law_next .nil pass0 (pa_cons (pv 1) (pa_cons pe_int pa_nil))) (fun _ _ => rfl)) pa_nil)))) pa_nil)) (by rfl)) (pss_cons (ps_set (i := 5) nd rfl (Or.inr rfl) (pe_lc (own := [("_law_k", 4)]) rfl nd (pi_range1 rfl T.z_range (pa_cons (pe_call (ok_law_next T) (hr.mono (by decide)) (by rfl) T.m_law_next T.F_law_next.kp T.b_law_next .nil pass0 (pa_cons (pv 1) (pa_cons pe_int pa_nil))) pa_nil)) (blkOk_by (own := [("_law_k", 4)]) (N := N_law) (sc := defScope s_law) (by decide +kernel)) (fun _ _ _ _ _ => (pg_name (i := 4) nd rfl (Or.inl rfl))) (fun _ _ _ _ _ => pts_nil) (fun _ _ _ _ _ => (pe_call (ok_law_step T) (hr.mono (by decide)) (by rfl) T.m_law_step T.F_law_step.kp T.b_law_step .nil pass0 (pa_cons (pv 1) pa_nil))))) (pss_cons (ps_asg (pe_call (ok_played T T.e_BadStream T.e_BadData T.g_SkyError T.x_BadStream T.x_BadData) (hr.mono (by decide)) (by rfl) T.m_played T.F_played.kp T.b_played .nil pass0 (pa_cons (pv 2) (pa_cons (pv 3) (pa_cons (pv 5) pa_nil)))) (pg_tup rfl (pgs_cons (pg_name (i := 6) nd rfl (Or.inr rfl)) (pgs_cons (pg_name (i := 7) nd rfl (Or.inl rfl)) pgs_nil)))) (pss_cons (ps_set (i := 8) nd rfl (Or.inl rfl) (pe_call (ok_law_next T) (hr.mono (by decide)) (by rfl) T.m_law_next T.F_law_next.kp T.b_law_next .nil pass0 (pa_cons (pv 1) (pa_cons (pe_op op_add (pe_callB call_len_seq (by rfl) T.z_len PySem.boot_len (pa_cons (pv 5) pa_nil)) pe_int) pa_nil)))) (pss_cons (ps_asg (pe_call (ok_played T T.e_BadStream T.e_BadData T.g_SkyError T.x_BadStream T.x_BadData) (hr.mono (by decide)) (by rfl) T.m_played T.F_played.kp T.b_played .nil pass0 (pa_cons (pv 2) (pa_cons (pv 3) (pa_cons (pe_slice sl_list (pv 5) po_none (po_some (pv 8))) pa_nil)))) (pg_tup rfl (pgs_cons (pg_name (i := 9) nd rfl (Or.inl rfl)) (pgs_cons (pg_name (i := 10) nd rfl (Or.inl rfl)) pgs_nil)))) (pss_cons (ps_if (PW.pt (pw_or (pt_not (pt_val (pe_call (ok_law_alike T 3) (hr.mono (by decide)) (by rfl) T.m_law_alike T.F_law_alike.kp T.b_law_alike .nil pass0 (pa_cons (pv 9) (pa_cons (pe_slice sl_list (pv 6) po_none (po_some (pv 8))) pa_nil))))) (pw_or1 (pt_cmpR (op_neD hr.units) (pe_meth0 (pv 10) T.cl_Sky T.M_Sky_log (ok_Sky_log T) (hr.mono (by decide)) T.b_Sky_log .nil pass0) (pe_slice sl_list (pe_meth0 (pv 7) T.cl_Sky T.M_Sky_log (ok_Sky_log T) (hr.mono (by decide)) T.b_Sky_log .nil pass0) po_none (po_some (pe_callB call_len_seq (by rfl) T.z_len PySem.boot_len (pa_cons (pe_meth0 (pv 10) T.cl_Sky T.M_Sky_log (ok_Sky_log T) (hr.mono (by decide)) T.b_Sky_log .nil pass0) pa_nil)))) (nomark _))))) (pss_one (ps_ret pe_bl)) pss_nil) (pss_cons (ps_set (i := 11) nd rfl (Or.inl rfl) (pe_ix ix_tup (pe_call (ok_played T T.e_BadStream T.e_BadData T.g_SkyError T.x_BadStream T.x_BadData) (hr.mono (by decide)) (by rfl) T.m_played T.F_played.kp T.b_played .nil pass0 (pa_cons (pv 2) (pa_cons (pv 3) (pa_cons (pe_slice sl_list (pv 5) po_none (po_some (pv 8))) pa_nil)))) pe_int (fun _ _ => rfl))) (pss_cons (ps_if (PW.pt (pw_or (pt_cmpR (op_neD hr.units) (pe_meth0 (pv 11) T.cl_Sky T.M_Sky_shown (ok_Sky_shown T) (hr.mono (by decide)) T.b_Sky_shown .nil pass0) (pe_meth0 (pv 10) T.cl_Sky T.M_Sky_shown (ok_Sky_shown T) (hr.mono (by decide)) T.b_Sky_shown .nil pass0) (nomark _)) (pw_or1 (pt_cmpR (op_neD hr.units) (pe_meth0 (pv 11) T.cl_Sky T.M_Sky_log (ok_Sky_log T) (hr.mono (by decide)) T.b_Sky_log .nil pass0) (pe_meth0 (pv 10) T.cl_Sky T.M_Sky_log (ok_Sky_log T) (hr.mono (by decide)) T.b_Sky_log .nil pass0) (nomark _))))) (pss_one (ps_ret pe_bl)) pss_nil) (pss_cons (ps_setLc (i := 12) (own := [("_law_k", 4)]) rfl nd rfl rfl (sw_true rfl rfl rfl (by decide +kernel)) (pi_range1 rfl T.z_range (pa_cons (pe_callB call_len_seq (by rfl) T.z_len PySem.boot_len (pa_cons (pv 5) pa_nil)) pa_nil)) (blkOk_by (own := [("_law_k", 4)]) (N := N_law) (sc := defScope s_law) (by decide +kernel)) (fun _ _ _ _ _ => (pg_name (i := 4) nd rfl (Or.inl rfl))) (fun _ _ _ _ _ => (pts_one (pt_cmpR (op_neDK (K := K) rfl hr.units) (pe_ix (ix_listK (K := K) rfl) (pv 6) (pv 4) (fun _ _ => rfl)) pe_str (nomark _)))) (fun _ _ _ _ _ => (pv 4))) (pss_cons (ps_setLc (i := 13) (own := [("_law_k", 4)]) rfl nd rfl rfl (sw_true rfl rfl rfl (by decide +kernel)) (pi_list (pv 12)) (blkOk_by (own := [("_law_k", 4)]) (N := N_law) (sc := defScope s_law) (by decide +kernel)) (fun _ _ _ _ _ => (pg_name (i := 4) nd rfl (Or.inl rfl))) (fun _ _ _ _ _ => pts_nil) (fun _ _ _ _ _ => (pe_ix (ix_listK (K := K) rfl) (pv 5) (pv 4) (fun _ _ => rfl)))) (pss_cons (ps_if (pt_cmpR (op_neD hr.units) (pe_ix ix_tup (pe_call (ok_played T T.e_BadStream T.e_BadData T.g_SkyError T.x_BadStream T.x_BadData) (hr.mono (by decide)) (by rfl) T.m_played T.F_played.kp T.b_played .nil pass0 (pa_cons (pv 2) (pa_cons (pv 3) (pa_cons (pv 13) pa_nil)))) pe_int (fun _ _ => rfl)) (pe_lc (own := [("_law_k", 4)]) rfl nd (pi_list (pv 12)) (blkOk_by (own := [("_law_k", 4)]) (N := N_law) (sc := defScope s_law) (by decide +kernel)) (fun _ _ _ _ _ => (pg_name (i := 4) nd rfl (Or.inl rfl))) (fun _ _ _ _ _ => pts_nil) (fun _ _ _ _ _ => (pe_ix (ix_listK (K := K) rfl) (pv 6) (pv 4) (fun _ _ => rfl)))) (nomark _)) (pss_one (ps_ret pe_bl)) pss_nil) (pss_cons (ps_for PassesOwn.never rfl (pi_range2 rfl T.z_range (pa_cons (pv 8) (pa_cons (pe_callB call_len_seq (by rfl) T.z_len PySem.boot_len (pa_cons (pv 5) pa_nil)) pa_nil))) (pg_name (i := 4) nd rfl (Or.inl rfl)) (pss_one (ps_if (PW.pt (pw_and (pt_cmpR (op_neD hr.units) (pe_ix ix_list (pv 6) (pv 4) (fun _ _ => rfl)) pe_str (nomark _)) (pw_and1 (pt_cmpR (op_neD hr.units) (pe_meth (pv 10) T.cl_Sky T.M_Sky_do (ok_Sky_do0 T) (hr.mono (by decide)) T.b_Sky_do .nil pass0 (pa_cons (pe_ix ix_list (pv 5) (pv 4) (fun _ _ => rfl)) pa_nil)) (pe_ix ix_list (pv 6) (pv 4) (fun _ _ => rfl)) (nomark _))))) (pss_one (ps_ret pe_bl)) pss_nil))) (pss_cons (ps_if (PW.pt (pw_or (pt_cmpR (op_neD hr.units) (pe_meth0 (pv 10) T.cl_Sky T.M_Sky_shown (ok_Sky_shown T) (hr.mono (by decide)) T.b_Sky_shown .nil pass0) (pe_meth0 (pv 7) T.cl_Sky T.M_Sky_shown (ok_Sky_shown T) (hr.mono (by decide)) T.b_Sky_shown .nil pass0) (nomark _)) (pw_or1 (pt_cmpR (op_neD hr.units) (pe_meth0 (pv 10) T.cl_Sky T.M_Sky_log (ok_Sky_log T) (hr.mono (by decide)) T.b_Sky_log .nil pass0) (pe_meth0 (pv 7) T.cl_Sky T.M_Sky_log (ok_Sky_log T) (hr.mono (by decide)) T.b_Sky_log .nil pass0) (nomark _))))) (pss_one (ps_ret pe_bl)) pss_nil) (pss_cons (ps_set (i := 14) nd rfl (Or.inl rfl) (pe_slice sl_list (pv 13) po_none (po_some pe_int))) (pss_cons (ps_set (i := 15) nd rfl (Or.inl rfl) (pe_call (ok_written T) (hr.mono (by decide)) (by rfl) T.m_written T.F_written.kp T.b_written .nil pass0 (pa_cons (pv 14) pa_nil))) (pss_cons (ps_if (PW.pt (pw_or (pt_cmpR (op_neD hr.units) (pe_call (ok_read T) (hr.mono (by decide)) (by rfl) T.m_read T.F_read.kp T.b_read .nil pass0 (pa_cons (pv 15) pa_nil)) (pv 14) (nomark _)) (pw_or1 (pt_cmpR op_ne (pe_call (ok_written T) (hr.mono (by decide)) (by rfl) T.m_written T.F_written.kp T.b_written .nil pass0 (pa_cons (pe_call (ok_read T) (hr.mono (by decide)) (by rfl) T.m_read T.F_read.kp T.b_read .nil pass0 (pa_cons (pv 15) pa_nil)) pa_nil)) (pv 15) (nomark _))))) (pss_one (ps_ret pe_bl)) pss_nil) (pss_one (ps_ret (pe_cmpR (op_eqD hr.units) (pe_ix ix_tup (pe_call (ok_played T T.e_BadStream T.e_BadData T.g_SkyError T.x_BadStream T.x_BadData) (hr.mono (by decide)) (by rfl) T.m_played T.F_played.kp T.b_played .nil pass0 (pa_cons (pv 2) (pa_cons (pv 3) (pa_cons (pe_call (ok_read T) (hr.mono (by decide)) (by rfl) T.m_read T.F_read.kp T.b_read .nil pass0 (pa_cons (pv 15) pa_nil)) pa_nil)))) pe_int (fun _ _ => rfl)) (pe_lc (own := [("_law_k", 4)]) rfl nd (pi_list (pe_slice sl_list (pv 12) po_none (po_some pe_int))) (blkOk_by (own := [("_law_k", 4)]) (N := N_law) (sc := defScope s_law) (by decide +kernel)) (fun _ _ _ _ _ => (pg_name (i := 4) nd rfl (Or.inl rfl))) (fun _ _ _ _ _ => pts_nil) (fun _ _ _ _ _ => (pe_ix (ix_listK (K := K) rfl) (pv 6) (pv 4) (fun _ _ => rfl)))) (nomark _))))))))))))))))))))), ?_⟩
    refine ⟨_, rfl, sa, ns, 107, rfl, hS, by decide, by decide, hlen, fun p q H1 hA1 _ _ _ => ?_⟩
    refine ⟨_, rfl, p, q, 17, rfl, hA1, by decide, by decide, fun z0 H2 z00 z01 hA2 k2 d2 => ⟨8, z0, rfl, rfl, ?_⟩⟩
    refine ⟨_, rfl, (by decide : (2 : Nat) ≤ sizeLine), fun c nc => ?_⟩
    have hA3 := hA2.new nc (o := .lst [.int 6, .int 60])
    have hc3 : upd H2 c (.lst [.int 6, .int 60]) c = some (.lst [.int 6, .int 60]) := upd_same
    have ncf := hA2.fresh nc
    generalize upd H2 c (.lst [.int 6, .int 60]) = H3 at *
    refine ⟨_, rfl, p, q, 2, rfl, hA3, by decide, by decide, fun r3 H4 r30 r31 hA4 k4 d4 => ?_⟩
    have hc4 := k4 _ _ (by simp [ncf.1, ncf.2]) hc3
    obtain ⟨v, hv, n, rfl, n1, n60⟩ := at_of (R := fun v => ∃ n : Int, v = .int n ∧ 1 ≤ n ∧ n ≤ 60) r30 (xs := [.int 6, .int 60]) r31 (by
      intro v hv
      simp only [List.mem_cons, List.not_mem_nil, or_false] at hv
      rcases hv with rfl | rfl
      · exact ⟨_, rfl, by omega, by omega⟩
      · exact ⟨_, rfl, by omega, by omega⟩)
    refine ⟨c, _, _, _, rfl, rfl, SqL.of hc4, hv, p, q, n, rfl, hA4, by omega, by omega, fun r0 H5 r00 r01 hA5 k5 d5 => ⟨1, r0, rfl, rfl, .int (8 + z0), .int (1 + r0), rfl, ?_⟩⟩
    obtain ⟨z, ez⟩ : ∃ z : Nat, 8 + z0 = ((z : Nat) : Int) := ⟨(8 + z0).toNat, by omega⟩
    obtain ⟨room, er⟩ : ∃ room : Nat, 1 + r0 = ((room : Nat) : Int) := ⟨(1 + r0).toNat, by omega⟩
    have hz8 : 8 ≤ z := by omega
    have hz24 : z ≤ 24 := by omega
    have hr1 : 1 ≤ room := by omega
    have hr60 : room ≤ 60 := by omega
    rw [ez, er]
    clear hA2 hA3 hA4 hc3 hc4 k2 d2 k4 d4 k5 d5 nc ncf hv ez er hA1 hS hlen
    -- the steps
    refine ⟨_, rfl, p, q, 61, rfl, hA5, by decide, by decide, fun many H6 m0 m1 hA6 k6 d6 => ?_⟩
    obtain ⟨m, rfl⟩ := Int.eq_ofNat_of_zero_le m0
    refine ⟨_, rfl, by omega, by omega, fun D hD => ?_⟩
    have nDf := hA6.fresh hD
    refine lc_range (lo := 0) (n := m) (fun i H' => HAt H' p q ∧ ∃ (xs : List V) (as : List Ask), H' D = some (.lst xs) ∧ TDs H' xs (as.map askD) ∧ (∀ a ∈ as, AskL a) ∧ as.length = i) ⟨hA6.new hD, [], [], upd_same, .nil, (fun a h => nomatch h), rfl⟩ ?_ ?_
    · rintro i H7 hi ⟨hA7, xs, as, hxs, txs, oks, hl⟩
      refine ⟨rfl, _, rfl, p, q, rfl, hA7, fun t a H8 oka td hA8 k8 d8 => ?_⟩
      have hxs8 := k8 _ _ (by simp [nDf.1, nDf.2]) hxs
      have ts8 : TSm H7 H8 := k8.ts hA7.noT
      have ts9 : TSm H8 (upd H8 D (.lst (xs ++ [.ref t]))) := ts_upd (TSm.refl _) (NoT.lst hxs8)
      have hxl : xs.length = i := by rw [txs.length, List.length_map, hl]
      refine ⟨xs, hxs8, lt_line (by omega), hA8.ne nDf.1 nDf.2, xs ++ [.ref t], as ++ [a], upd_same, ?_, fun b hb => ?_, by rw [List.length_append, hl]; rfl⟩
      · rw [List.map_append]
        exact (txs.mono (ts8.trans ts9)).app (.one (td.mono ts9))
      · rcases List.mem_append.mp hb with g | g
        · exact oks b g
        · rw [List.mem_singleton.mp g]; exact oka
    · rintro H7 ⟨hA7, us, as, hus, tus, okas, hal⟩
      have hul : us.length = as.length := by rw [tus.length, List.length_map]
      have hal60 : as.length ≤ 60 := by omega
      have okA : ∀ a ∈ as, AskOk a := fun a ha => (okas a ha).ok
      refine ⟨_, rfl, _, rfl, _, rfl, z, room, D, us, as, rfl, hus, tus, okA, by omega, hz8, hz24, hr1, hr60, fun o M R r tp ws H8 hI hr8 tw8 htp frM nr nrM s8 => ?_⟩
      have hA8 := hA7.same s8
      have hus8 := s8 _ _ hus
      have tus8 := tus.mono (TSm.of_same s8)
      have nrp : r ≠ p ∧ r ≠ q := hA7.fresh nr
      have nMp : ∀ x ∈ M ++ R, x ∉ [p, q] := fun x hx => by
        have := hA7.fresh (frM x hx)
        simp [this.1, this.2]
      refine ⟨tp, _, rfl, SqT.of htp, rfl, _, _, rfl, _, _, rfl, rfl, ?_⟩
      refine ⟨_, rfl, _, rfl, D, us, rfl, .inl (SqL.of hus8), _, 1, rfl, rfl, p, q, _, rfl, hA8, by omega, by omega, fun c0 H9 c00 c01 hA9 k9 d9 => ?_⟩
      obtain ⟨cut, rfl⟩ := Int.eq_ofNat_of_zero_le c00
      have hcut : cut ≤ as.length := by omega
      have hct : (as.take cut).length ≤ 60 := by rw [List.length_take]; omega
      have ts9 := k9.ts hA8.noT
      have hI9 := hI.else k9 ts9 nMp
      have hr9 := k9 _ _ (by simp [nrp.1, nrp.2]) hr8
      have hus9 := k9 _ _ (by simp [nDf.1, nDf.2]) hus8
      have tus9 := tus8.mono ts9
      have tw9 := tw8.mono ts9
      have hwl : ws.length = as.length := by rw [tw9.length, rA_len]
      clear hA8 hus8 tus8 hI hr8 tw8 htp frM hA9 k9 d9 ts9 nMp nrp c00 c01 s8 hus tus hA7 hA6 hA5 k6 d6 hD nDf m0
      -- a first part, played
      refine normT (σ' := [some (.ref sa), some (.ref p), some (.int (z : Nat)), some (.int (room : Nat)), none, some (.ref D), some (.ref r), some (.ref o.s), none, none, none, none, none, none, none, none]) rfl ?_
      refine ⟨_, rfl, _, rfl, _, rfl, _, rfl, _, rfl, slL_take hus9 (by omega) fun l1 H10 s10 nl1 hl1 => ?_⟩
      have tl1 : TDs H10 (us.take cut) ((as.take cut).map askD) := by rw [List.map_take]; exact (tus9.mono (TSm.of_same s10)).take cut
      refine ⟨z, room, l1, us.take cut, as.take cut, rfl, hl1, tl1, (fun a ha => okA a (List.mem_of_mem_take ha)), by rw [List.length_take]; omega, hz8, hz24, hr1, hr60, fun o2 M2 R2 r2 tp2 ws2 H11 hI2 hr2 tw2 htp2 frM2 _ nrM2 s11 => ?_⟩
      refine ⟨tp2, _, rfl, SqT.of htp2, rfl, _, _, rfl, _, _, rfl, rfl, ?_⟩
      have s9 := s10.trans s11
      have hI11 := hI9.same s9
      have hr11 := s9 _ _ hr9
      have hus11 := s9 _ _ hus9
      have tus11 := tus9.mono (TSm.of_same s9)
      have tw11 := tw9.mono (TSm.of_same s9)
      have dis : ∀ x ∈ M ++ R, x ∉ M2 ++ R2 := fun x hx h2 => (hI9.same s10).fresh (frM2 x h2) hx
      have nr2' : r ∉ M2 ++ R2 := fun h => by have := frM2 r h; rw [s10 _ _ hr9] at this; cases this
      have nD2 : D ∉ M2 ++ R2 := fun h => by have := frM2 D h; rw [s10 _ _ hus9] at this; cases this
      clear hI9 hr9 hus9 tus9 tw9 s10 s11 s9 htp2 frM2 hl1 tl1 nl1
      -- told alike
      refine ⟨_, rfl, _, rfl, _, rfl, _, rfl, slL_take hr11 (by omega) fun g1 H12 s12 ng1 hg1 => ?_⟩
      have tg1 : TDs H12 (ws.take cut) ((rA z room Sk.new as).take cut) := (tw11.mono (TSm.of_same s12)).take cut
      rw [← rA_take] at tg1
      refine ⟨.ref r2, .ref g1, .list (rA z room Sk.new (as.take cut)), rfl, .lst (SqL.of (s12 _ _ hr2)) (TDs.dp (tw2.mono (TSm.of_same s12))), .lst (SqL.of hg1) (TDs.dp tg1), dok_rA z room (by rw [List.length_take]; omega) Sk.new, fun H13 s13 => ⟨true, rfl, iteF ?_⟩⟩
      have s3 := s12.trans s13
      have hI13 := hI11.same s3
      have hI213 := hI2.same s3
      have hr13 := s3 _ _ hr11
      have hus13 := s3 _ _ hus11
      have tus13 := tus11.mono (TSm.of_same s3)
      have tw13 := tw11.mono (TSm.of_same s3)
      clear hI11 hI2 hr11 hus11 tus11 tw11 hr2 tw2 s12 s13 s3 tg1 hg1 ng1
      -- logs
      have hlgt := lg_take z room as cut
      have hle : (kA z room Sk.new (as.take cut)).lg.length ≤ (kA z room Sk.new as).lg.length := by
        have := congrArg List.length hlgt
        rw [List.length_take] at this
        omega
      refine ⟨_, rfl, o2.s, o2.dx, _, rfl, hI213.obj, sf_no (by decide), nilA ⟨o2, z, room, _, M2, R2, _, rfl, hI213, fun e1 y1 H14 he1 ty1 _ s14 => ?_⟩⟩
      refine ⟨_, rfl, o.s, o.dx, _, rfl, (hI13.same s14).obj, sf_no (by decide), nilA ⟨o, z, room, _, M, R, _, rfl, hI13.same s14, fun e2 y2 H15 he2 ty2 _ s15 => ?_⟩⟩
      have s145 := s14.trans s15
      refine ⟨_, rfl, o2.s, o2.dx, _, rfl, (hI213.same s145).obj, sf_no (by decide), nilA ⟨o2, z, room, _, M2, R2, _, rfl, hI213.same s145, fun e3 y3 H16 he3 ty3 _ s16 => ?_⟩⟩
      have l2 : y2.length = (kA z room Sk.new as).lg.length := by rw [ty2.length, List.length_map]
      have l3 : y3.length = (kA z room Sk.new (as.take cut)).lg.length := by rw [ty3.length, List.length_map]
      refine ⟨e3, y3, rfl, .inl (SqL.of he3), _, rfl, slL_take (s16 _ _ he2) (by omega) fun g1 H17 s17 ng1 hg1 => ?_⟩
      have s567 := (s15.trans s16).trans s17
      have tg1 : TDs H17 (y2.take y3.length) ((kA z room Sk.new (as.take cut)).lg.map entD) := by
        rw [← hlgt, List.map_take, l3]
        exact (ty2.mono (TSm.of_same (s16.trans s17))).take _
      refine ⟨.list _, .list _, .lst (SqL.of (s567 _ _ he1)) (TDs.dp (ty1.mono (TSm.of_same s567))), .lst (SqL.of hg1) (TDs.dp tg1), (lay_lg _).shaped (by decide), (lay_lg _).shaped (by decide), false, by rw [(lay_lg _).refl]; rfl, iteF ?_⟩
      have s3 := s145.trans (s16.trans s17)
      have hI17 := hI13.same s3
      have hI217 := hI213.same s3
      have hr17 := s3 _ _ hr13
      have hus17 := s3 _ _ hus13
      have tus17 := tus13.mono (TSm.of_same s3)
      have tw17 := tw13.mono (TSm.of_same s3)
      clear hI13 hI213 hr13 hus13 tus13 tw13 he1 ty1 he2 ty2 he3 ty3 tg1 hg1 ng1 s14 s15 s145 s16 s17 s567 s3 l2 l3 hle hlgt
      -- played once more
      refine normS (σ' := [some (.ref sa), some (.ref p), some (.int (z : Nat)), some (.int (room : Nat)), none, some (.ref D), some (.ref r), some (.ref o.s), some (.int (cut : Nat)), some (.ref r2), some (.ref o2.s), none, none, none, none, none]) rfl ?_
      refine ⟨_, rfl, _, rfl, _, rfl, _, rfl, _, rfl, slL_take hus17 (by omega) fun l1 H18 s18 nl1 hl1 => ?_⟩
      have tl1 : TDs H18 (us.take cut) ((as.take cut).map askD) := by rw [List.map_take]; exact (tus17.mono (TSm.of_same s18)).take cut
      refine ⟨z, room, l1, us.take cut, as.take cut, rfl, hl1, tl1, (fun a ha => okA a (List.mem_of_mem_take ha)), by rw [List.length_take]; omega, hz8, hz24, hr1, hr60, fun o3 M3 R3 r3 tp3 ws3 H19 hI3 _ _ htp3 frM3 _ _ s19 => ?_⟩
      have s9 := s18.trans s19
      have hI19 := hI17.same s9
      have hI219 := hI217.same s9
      have hr19 := s9 _ _ hr17
      have hus19 := s9 _ _ hus17
      have tus19 := tus17.mono (TSm.of_same s9)
      have tw19 := tw17.mono (TSm.of_same s9)
      clear hI17 hI217 hr17 hus17 tus17 tw17 s18 s19 s9 hl1 tl1 nl1 frM3
      refine ⟨tp3, _, 1, _, rfl, rfl, SqT.of htp3, atI_nat (j := 1) rfl, ?_⟩
      -- shown
      refine ⟨_, rfl, o3.s, o3.dx, _, rfl, hI3.obj, sf_no (by decide), nilA ⟨o3, z, room, _, M3, R3, _, rfl, hI3, hz8, hz24, by omega, fun v1 a1 a2 a3 x1 x2 bs H20 sh1 => ?_⟩⟩
      refine ⟨_, rfl, o2.s, o2.dx, _, rfl, (hI219.same sh1.same).obj, sf_no (by decide), nilA ⟨o2, z, room, _, M2, R2, _, rfl, hI219.same sh1.same, hz8, hz24, by omega, fun v2 b1 b2 b3 x3 x4 bs2 H21 sh2 => ?_⟩⟩
      refine ⟨shownD z _, shownD z _, dp_same sh2.same sh1.dp, sh2.dp, (lay_shown z _).shaped (by decide), (lay_shown z _).shaped (by decide), false, by rw [(lay_shown z _).refl]; rfl, iteF ?_⟩
      have s3 := sh1.same.trans sh2.same
      have hI21 := hI19.same s3
      have hI221 := hI219.same s3
      have hI321 := hI3.same s3
      have hr21 := s3 _ _ hr19
      have hus21 := s3 _ _ hus19
      have tus21 := tus19.mono (TSm.of_same s3)
      have tw21 := tw19.mono (TSm.of_same s3)
      clear hI19 hI219 hI3 hr19 hus19 tus19 tw19 s3 sh1 sh2
      refine ⟨_, rfl, o3.s, o3.dx, _, rfl, hI321.obj, sf_no (by decide), nilA ⟨o3, z, room, _, M3, R3, _, rfl, hI321, fun e1 y1 H22 he1 ty1 _ s22 => ?_⟩⟩
      refine ⟨_, rfl, o2.s, o2.dx, _, rfl, (hI221.same s22).obj, sf_no (by decide), nilA ⟨o2, z, room, _, M2, R2, _, rfl, hI221.same s22, fun e2 y2 H23 he2 ty2 _ s23 => ?_⟩⟩
      refine ⟨.list _, .list _, .lst (SqL.of (s23 _ _ he1)) (TDs.dp (ty1.mono (TSm.of_same s23))), .lst (SqL.of he2) (TDs.dp ty2), (lay_lg _).shaped (by decide), (lay_lg _).shaped (by decide), false, by rw [(lay_lg _).refl]; rfl, iteF ?_⟩
      have s3 := s22.trans s23
      have hI23 := hI21.same s3
      have hI223 := hI221.same s3
      have hr23 := s3 _ _ hr21
      have hus23 := s3 _ _ hus21
      have tus23 := tus21.mono (TSm.of_same s3)
      have tw23 := tw21.mono (TSm.of_same s3)
      clear hI21 hI221 hI321 hr21 hus21 tus21 tw21 he1 ty1 he2 ty2 s22 s23 s3 htp3
      -- those that were done
      refine normS (σ' := [some (.ref sa), some (.ref p), some (.int (z : Nat)), some (.int (room : Nat)), none, some (.ref D), some (.ref r), some (.ref o.s), some (.int (cut : Nat)), some (.ref r2), some (.ref o2.s), some (.ref o3.s), none, none, none, none]) rfl ?_
      refine ⟨_, rfl, D, us, rfl, .inl (SqL.of hus23), _, rfl, by omega, by omega, fun D2 hD2 => ?_⟩
      refine lc_range (lo := 0) (n := us.length) (fun i H' => Same H23 H' ∧ H' D2 = some (.lst ((gis as i).map fun n : Nat => V.int (n : Int)))) ⟨same_new (Same.refl _) hD2, upd_same⟩ ?_ ?_
      · rintro i H24 hi ⟨q1, hg⟩
        rw [show (0 : Int) + ((i : Nat) : Int) = ((i : Nat) : Int) from Int.zero_add _]
        obtain ⟨d, hd, ld, hno⟩ := res_no_iff (z := z) (room := room) (as := as) (i := i) (by omega)
        obtain ⟨v, hv, tv⟩ := (tw23.mono (TSm.of_same q1)).getD hd
        refine ⟨rfl, _, rfl, _, rfl, r, ws, _, _, rfl, rfl, SqL.of (q1 _ _ hr23), atI_nat hv, d, .str "no", tv.dp, .str _, ld.shaped (by decide), lay_no.shaped (by decide), isG as i, congrArg V.bl (by rw [hno, Bool.not_not]), ?_⟩
        have hgl : (gis as i).length ≤ i := by
          have := List.length_filter_le (isG as) (List.range i)
          rw [List.length_range] at this
          exact this
        cases hb : isG as i with
        | true =>
          refine iteT ⟨_, rfl, _, hg, lt_line (by rw [List.length_map]; omega), same_mut q1 hD2, ?_⟩
          rw [upd_same, gis_succ, hb, if_pos rfl, List.map_append]
          rfl
        | false =>
          refine iteF ⟨q1, ?_⟩
          rw [hg, gis_succ, hb, if_neg (by decide), List.append_nil]
      rintro H24 ⟨q1, hg⟩
      have nD22 : D2 ∉ M2 ++ R2 := hI223.fresh hD2
      have hI24 := hI23.same q1
      have hI224 := hI223.same q1
      have hr24 := q1 _ _ hr23
      have hus24 := q1 _ _ hus23
      have tus24 := tus23.mono (TSm.of_same q1)
      have tw24 := tw23.mono (TSm.of_same q1)
      clear hI23 hI223 hr23 hus23 tus23 tw23 hD2 q1
      rw [hul] at hg
      have hgl : (gis as as.length).length ≤ 60 := by
        have := List.length_filter_le (isG as) (List.range as.length)
        rw [List.length_range] at this
        exact Nat.le_trans this hal60
      -- their steps
      refine normT (σ' := [some (.ref sa), some (.ref p), some (.int (z : Nat)), some (.int (room : Nat)), none, some (.ref D), some (.ref r), some (.ref o.s), some (.int (cut : Nat)), some (.ref r2), some (.ref o2.s), some (.ref o3.s), none, none, none, none]) rfl ?_
      refine ⟨_, rfl, D2, rfl, ⟨_, SqL.of hg⟩, fun D3 hD3 => ?_⟩
      refine lc_list (K := K) (a := D2) (xs := (gis as as.length).map fun n : Nat => V.int (n : Int)) (fun i H' => Same H24 H' ∧ ∃ xs, H' D3 = some (.lst xs) ∧ TDs H' xs (((gis as as.length).take i).map fun n => stpD (stAt as n)) ∧ xs.length ≤ i) ⟨same_new (Same.refl H24) hD3, [], upd_same, .nil, Nat.le_refl _⟩ (fun i H' _ p => SqL.of (p.1 _ _ hg)) ?_ ?_
      · rintro i y H25 hy ⟨q1, xs, hxs, txs, hxl⟩
        obtain ⟨n, hn, rfl⟩ := map_get hy
        have hil := (List.getElem?_eq_some_iff.mp hn).1
        obtain ⟨hn1, hn2⟩ := gis_lt (List.mem_of_getElem? hn)
        obtain ⟨v, hv, tv⟩ := (tus24.mono (TSm.of_same q1)).getD (i := n) (d := stpD (stAt as n)) (by rw [List.getElem?_map, isG_at hn2]; rfl)
        have t5 : TSm H25 (upd H25 D3 (.lst (xs ++ [v]))) := ts_upd (TSm.refl _) (NoT.lst hxs)
        refine ⟨rfl, _, rfl, _, rfl, D, us, _, _, rfl, rfl, SqL.of (q1 _ _ hus24), atI_nat hv, xs, hxs, lt_line (by omega), same_mut q1 hD3, xs ++ [v], upd_same, ?_, by rw [List.length_append, List.length_singleton]; omega⟩
        rw [List.take_add_one, hn, Option.toList_some, List.map_append]
        exact (txs.mono t5).app (.one (tv.mono t5))
      rintro H25 ⟨q1, xs, hxs, txs, hxl⟩
      have nD32 : D3 ∉ M2 ++ R2 := hI224.fresh hD3
      rw [List.length_map] at hxl
      rw [List.length_map, List.take_length] at txs
      have hI25 := hI24.same q1
      have hI225 := hI224.same q1
      have hr25 := q1 _ _ hr24
      have hus25 := q1 _ _ hus24
      have tus25 := tus24.mono (TSm.of_same q1)
      have tw25 := tw24.mono (TSm.of_same q1)
      have hg25 := q1 _ _ hg
      clear hI24 hI224 hr24 hus24 tus24 tw24 hg q1 hD3
      obtain ⟨gk, gr⟩ := goods_play (z := z) (room := room) (as := as) as.length (Nat.le_refl _)
      have gok : ∀ a ∈ goods as as.length, AskOk a := fun a ha => by
        obtain ⟨n, hn, rfl⟩ := List.mem_map.mp ha
        exact okA _ (List.mem_of_getElem? (isG_at (gis_lt hn).2))
      have gl : (goods as as.length).length ≤ 60 := by unfold goods; rw [List.length_map]; exact hgl
      have tgo : TDs H25 xs ((goods as as.length).map askD) := by unfold goods; rw [List.map_map]; exact txs
      -- played alone
      refine normT (σ' := [some (.ref sa), some (.ref p), some (.int (z : Nat)), some (.int (room : Nat)), none, some (.ref D), some (.ref r), some (.ref o.s), some (.int (cut : Nat)), some (.ref r2), some (.ref o2.s), some (.ref o3.s), some (.ref D2), none, none, none]) rfl ?_
      refine ⟨_, rfl, _, rfl, _, rfl, z, room, D3, xs, goods as as.length, rfl, hxs, tgo, gok, by omega, hz8, hz24, hr1, hr60, fun o4 M4 R4 r4 tp4 ws4 H26 _ hr4 tw4 htp4 _ _ _ q1 => ?_⟩
      refine ⟨tp4, _, 0, _, rfl, rfl, SqT.of htp4, atI_nat (j := 0) rfl, ?_⟩
      have hI26 := hI25.same q1
      have hI226 := hI225.same q1
      have hr26 := q1 _ _ hr25
      have hus26 := q1 _ _ hus25
      have tus26 := tus25.mono (TSm.of_same q1)
      have tw26 := tw25.mono (TSm.of_same q1)
      have hg26 := q1 _ _ hg25
      have hxs26 := q1 _ _ hxs
      have txs26 := txs.mono (TSm.of_same q1)
      clear hI25 hI225 hr25 hus25 tus25 tw25 hg25 hxs txs q1 tgo htp4
      refine ⟨_, rfl, D2, rfl, ⟨_, SqL.of hg26⟩, fun D4 hD4 => ?_⟩
      refine lc_list (K := K) (a := D2) (xs := (gis as as.length).map fun n : Nat => V.int (n : Int)) (fun i H' => Same H26 H' ∧ ∃ xs, H' D4 = some (.lst xs) ∧ TDs H' xs (((gis as as.length).take i).map fun n => (rA z room Sk.new as).getD n .none) ∧ xs.length ≤ i) ⟨same_new (Same.refl H26) hD4, [], upd_same, .nil, Nat.le_refl _⟩ (fun i H' _ p => SqL.of (p.1 _ _ hg26)) ?_ ?_
      · rintro i y H27 hy ⟨q1, xs5, hxs5, txs5, hxl5⟩
        obtain ⟨n, hn, rfl⟩ := map_get hy
        have hil := (List.getElem?_eq_some_iff.mp hn).1
        obtain ⟨hn1, hn2⟩ := gis_lt (List.mem_of_getElem? hn)
        obtain ⟨d, hd, _, _⟩ := res_no_iff (z := z) (room := room) (as := as) (i := n) hn1
        obtain ⟨v, hv, tv⟩ := (tw26.mono (TSm.of_same q1)).getD hd
        have t5 : TSm H27 (upd H27 D4 (.lst (xs5 ++ [v]))) := ts_upd (TSm.refl _) (NoT.lst hxs5)
        refine ⟨rfl, _, rfl, _, rfl, r, ws, _, _, rfl, rfl, SqL.of (q1 _ _ hr26), atI_nat hv, xs5, hxs5, lt_line (by omega), same_mut q1 hD4, xs5 ++ [v], upd_same, ?_, by rw [List.length_append, List.length_singleton]; omega⟩
        rw [List.take_add_one, hn, Option.toList_some, List.map_append]
        have ed : (rA z room Sk.new as).getD n .none = d := by rw [List.getD_eq_getElem?_getD, hd]; rfl
        refine (txs5.mono t5).app (.one ?_)
        show TD _ v ((rA z room Sk.new as).getD n .none)
        rw [ed]
        exact tv.mono t5
      rintro H27 ⟨q1, xs5, hxs5, txs5, _⟩
      rw [List.length_map, List.take_length, ← gr] at txs5
      refine ⟨.list _, .list _, .lst (SqL.of (q1 _ _ hr4)) (TDs.dp (tw4.mono (TSm.of_same q1))), .lst (SqL.of hxs5) (TDs.dp txs5), (rA_lay _ _ _ _).shaped (by decide), (rA_lay _ _ _ _).shaped (by decide), false, by rw [(rA_lay _ _ _ _).refl]; rfl, iteF ?_⟩
      have hI27 := hI26.same q1
      have hI227 := hI226.same q1
      have hr27 := q1 _ _ hr26
      have hus27 := q1 _ _ hus26
      have tus27 := tus26.mono (TSm.of_same q1)
      have tw27 := tw26.mono (TSm.of_same q1)
      have hg27 := q1 _ _ hg26
      have hxs27 := q1 _ _ hxs26
      have txs27 := txs26.mono (TSm.of_same q1)
      clear hI26 hI226 hr26 hus26 tus26 tw26 hg26 hxs26 txs26 q1 hr4 tw4 hxs5 txs5 hD4
      -- the rest, one by one
      refine normS (σ' := [some (.ref sa), some (.ref p), some (.int (z : Nat)), some (.int (room : Nat)), none, some (.ref D), some (.ref r), some (.ref o.s), some (.int (cut : Nat)), some (.ref r2), some (.ref o2.s), some (.ref o3.s), some (.ref D2), some (.ref D3), none, none]) rfl ?_
      refine ⟨_, rfl, _, rfl, D, us, rfl, .inl (SqL.of hus27), ?_⟩
      refine ⟨_, _, rfl, by omega, ?_⟩
      have en : (((us.length : Nat) : Int) - ((cut : Nat) : Int)).toNat = as.length - cut := by omega
      refine for_range (lo := ((cut : Nat) : Int)) (n := (((us.length : Nat) : Int) - ((cut : Nat) : Int)).toNat) (fun i σ H' => ∃ (v4 : Option V) (M2 R2 : List Addr), σ = [some (.ref sa), some (.ref p), some (.int (z : Nat)), some (.int (room : Nat)), v4, some (.ref D), some (.ref r), some (.ref o.s), some (.int (cut : Nat)), some (.ref r2), some (.ref o2.s), some (.ref o3.s), some (.ref D2), some (.ref D3), none, none] ∧ SkI (clT T) z room (1800 + 30 * i) H' o2 M2 R2 (kA z room Sk.new (as.take (cut + i))) ∧ SkI (clT T) z room (30 * as.length) H' o M R (kA z room Sk.new as) ∧ (∀ x ∈ M ++ R, x ∉ M2 ++ R2) ∧ (H' r = some (.lst ws) ∧ r ∉ M2 ++ R2) ∧ (H' D = some (.lst us) ∧ D ∉ M2 ++ R2) ∧ TDs H' us (as.map askD) ∧ TDs H' ws (rA z room Sk.new as) ∧ (H' D2 = some (.lst ((gis as as.length).map fun n : Nat => V.int (n : Int))) ∧ D2 ∉ M2 ++ R2) ∧ (H' D3 = some (.lst xs) ∧ D3 ∉ M2 ++ R2) ∧ TDs H' xs ((gis as as.length).map fun n => stpD (stAt as n))) ⟨none, M2, R2, rfl, hI227.more (by omega), hI27, dis, ⟨hr27, nr2'⟩, ⟨hus27, nD2⟩, tus27, tw27, ⟨hg27, nD22⟩, ⟨hxs27, nD32⟩, txs27⟩ ?_ ?_
      · clear hI227 hI27 dis hr27 nr2' hus27 nD2 tus27 tw27 hg27 nD22 hxs27 nD32 txs27
        rintro i σ H1 hi ⟨v4, M2, R2, rfl, hI2, hI, dis, ⟨hr, nr2⟩, ⟨hus, nD⟩, tus, tw, ⟨hg, ng⟩, ⟨hxs, nx⟩, txs⟩
        have ei : ((cut : Nat) : Int) + ((i : Nat) : Int) = ((cut + i : Nat) : Int) := by omega
        rw [ei]
        have hcl : cut + i < as.length := by omega
        obtain ⟨d, hd, ld, hno⟩ := res_no_iff (z := z) (room := room) (as := as) (i := cut + i) hcl
        obtain ⟨v, hv, tv⟩ := tw.getD hd
        refine ⟨_, rfl, _, rfl, r, ws, _, _, rfl, rfl, SqL.of hr, atI_nat hv, d, .str "no", tv.dp, .str _, ld.shaped (by decide), lay_no.shaped (by decide), isG as (cut + i), congrArg V.bl (by rw [hno, Bool.not_not]), ?_⟩
        have e30 : 1800 + 30 * (i + 1) = 1800 + 30 * i + 30 := by omega
        cases hb : isG as (cut + i) with
        | false =>
          refine iteF (iteF ⟨_, M2, R2, rfl, ?_, hI, dis, ⟨hr, nr2⟩, ⟨hus, nD⟩, tus, tw, ⟨hg, ng⟩, ⟨hxs, nx⟩, txs⟩)
          obtain ⟨a, ha⟩ : ∃ a, as[cut + i]? = some a := ⟨_, List.getElem?_eq_getElem hcl⟩
          have ek : kA z room Sk.new (as.take (cut + (i + 1))) = kA z room Sk.new (as.take (cut + i)) := by
            rw [show cut + (i + 1) = (cut + i) + 1 from rfl, kA_next ha, bad_at hb ha]
          rw [ek]
          exact hI2.more (by omega)
        | true =>
          have hst := isG_at hb
          have okst : StpOk (stAt as (cut + i)) := okA _ (List.mem_of_getElem? hst)
          obtain ⟨v5, hv5, tv5⟩ := tus.getD (i := cut + i) (d := stpD (stAt as (cut + i))) (by rw [List.getElem?_map, hst]; rfl)
          obtain ⟨pa, ps, rfl, hpa⟩ := td_stp tv5
          have ek : kA z room Sk.new (as.take (cut + (i + 1))) = ((kA z room Sk.new (as.take (cut + i))).doS z room (stAt as (cut + i))).1 := by
            rw [show cut + (i + 1) = (cut + i) + 1 from rfl, kA_next hst]; rfl
          have ed : d = ((kA z room Sk.new (as.take (cut + i))).doS z room (stAt as (cut + i))).2 := by
            have := rA_at (k := Sk.new) z room hst
            rw [hd] at this
            exact Option.some.inj this
          subst ed
          refine iteT ⟨_, rfl, o2.s, o2.dx, _, rfl, hI2.obj, sf_no (by decide), _, rfl, _, rfl, D, us, _, _, rfl, rfl, SqL.of hus, atI_nat hv5, nilA ⟨o2, z, room, _, M2, R2, _, pa, _, rfl, hI2, tv5, okst, hz8, hz24, by omega, fun v' H4 M4 R4 hI4 to4 tv4 => ?_⟩⟩
          have ts4 := SkTo.ts hI2 to4
          have hr4 := to4.keep nr2 hr
          refine ⟨_, rfl, _, rfl, r, ws, _, _, rfl, rfl, SqL.of hr4, atI_nat hv, _, _, tv4.dp, (tv.mono ts4).dp, ld.shaped (by decide), ld.shaped (by decide), false, by rw [ld.refl]; rfl, iteF ?_⟩
          refine ⟨_, M4, R4, rfl, ?_, hI.else to4.kp ts4 (fun x hx h2 => dis x hx (List.mem_append_left _ h2)), fun x hx h2 => ?_, ⟨hr4, to4.out nr2 hr⟩, ⟨to4.keep nD hus, to4.out nD hus⟩, tus.mono ts4, tw.mono ts4, ⟨to4.keep ng hg, to4.out ng hg⟩, ⟨to4.keep nx hxs, to4.out nx hxs⟩, txs.mono ts4⟩
          · rw [ek]; exact hI4
          · obtain ⟨u, hu⟩ : ∃ u, H1 x = some u := by
              cases e : H1 x with
              | some u => exact ⟨u, rfl⟩
              | none => exact absurd hx (hI.fresh e)
            exact to4.out (dis x hx) hu h2
      clear hI227 hI27 dis hr27 nr2' hus27 nD2 tus27 tw27 hg27 nD22 hxs27 nD32 txs27
      rintro σ H28 ⟨v4, M2, R2, rfl, hI2, hI, dis, ⟨hr, _⟩, _, _, tw, ⟨hg, _⟩, ⟨hxs, _⟩, txs⟩
      rw [en, show cut + (as.length - cut) = as.length from by omega, List.take_length] at hI2
      have hB : 1800 + 30 * (as.length - cut) ≤ 60000 := by omega
      refine ⟨_, rfl, o2.s, o2.dx, _, rfl, hI2.obj, sf_no (by decide), nilA ⟨o2, z, room, _, M2, R2, _, rfl, hI2, hz8, hz24, hB, fun v1 a1 a2 a3 x1 x2 bs H29 sh1 => ?_⟩⟩
      refine ⟨_, rfl, o.s, o.dx, _, rfl, (hI.same sh1.same).obj, sf_no (by decide), nilA ⟨o, z, room, _, M, R, _, rfl, hI.same sh1.same, hz8, hz24, by omega, fun v2 b1 b2 b3 x3 x4 bs2 H30 sh2 => ?_⟩⟩
      refine ⟨shownD z _, shownD z _, dp_same sh2.same sh1.dp, sh2.dp, (lay_shown z _).shaped (by decide), (lay_shown z _).shaped (by decide), false, by rw [(lay_shown z _).refl]; rfl, iteF ?_⟩
      have s3 := sh1.same.trans sh2.same
      refine ⟨_, rfl, o2.s, o2.dx, _, rfl, (hI2.same s3).obj, sf_no (by decide), nilA ⟨o2, z, room, _, M2, R2, _, rfl, hI2.same s3, fun e1 y1 H31 he1 ty1 _ s31 => ?_⟩⟩
      have s4 := s3.trans s31
      refine ⟨_, rfl, o.s, o.dx, _, rfl, (hI.same s4).obj, sf_no (by decide), nilA ⟨o, z, room, _, M, R, _, rfl, hI.same s4, fun e2 y2 H32 he2 ty2 _ s32 => ?_⟩⟩
      refine ⟨.list _, .list _, .lst (SqL.of (s32 _ _ he1)) (TDs.dp (ty1.mono (TSm.of_same s32))), .lst (SqL.of he2) (TDs.dp ty2), (lay_lg _).shaped (by decide), (lay_lg _).shaped (by decide), false, by rw [(lay_lg _).refl]; rfl, iteF ?_⟩
      have s5 := s4.trans s32
      have hr32 := s5 _ _ hr
      have tw32 := tw.mono (TSm.of_same s5)
      have hg32 := s5 _ _ hg
      have hxs32 := s5 _ _ hxs
      have txs32 := txs.mono (TSm.of_same s5)
      clear hI2 hI hr tw hg hxs txs s3 s31 s32 s4 s5 he1 ty1 he2 ty2 sh1 sh2 dis
      -- written, read
      refine normS (σ' := [some (.ref sa), some (.ref p), some (.int (z : Nat)), some (.int (room : Nat)), v4, some (.ref D), some (.ref r), some (.ref o.s), some (.int (cut : Nat)), some (.ref r2), some (.ref o2.s), some (.ref o3.s), some (.ref D2), some (.ref D3), none, none]) rfl ?_
      refine ⟨_, rfl, 40, rfl, slL_take' (n := 40) hxs32 fun l1 H33 s33 nl1 hl1 => ?_⟩
      obtain ⟨sts, hsts⟩ : ∃ sts : List Stp, sts = ((gis as as.length).take 40).map (stAt as) := ⟨_, rfl⟩
      have tl1 : TDs H33 (xs.take 40) (sts.map stpD) := by
        have := (txs32.mono (TSm.of_same s33)).take 40
        rw [← List.map_take] at this
        rw [hsts, List.map_map]
        exact this
      have sok : ∀ st ∈ sts, StpW st := fun st hs => by
        rw [hsts] at hs
        obtain ⟨n, hn, rfl⟩ := List.mem_map.mp hs
        have := okas _ (List.mem_of_getElem? (isG_at (gis_lt (List.mem_of_mem_take hn)).2))
        exact stpW_of this
      have sl : sts.length ≤ 60 := by rw [hsts, List.length_map, List.length_take]; omega
      refine ⟨_, rfl, l1, _, sts, rfl, hl1, tl1, sok, by omega, fun H34 s34 => ?_⟩
      have s4 := s33.trans s34
      have hl134 := s34 _ _ hl1
      have tl134 := tl1.mono (TSm.of_same s34)
      have hg34 := s4 _ _ hg32
      have hr34 := s4 _ _ hr32
      have tw34 := tw32.mono (TSm.of_same s4)
      clear hl1 tl1 hg32 hr32 tw32 hxs32 txs32 s33 s34 s4
      refine ⟨_, rfl, sts, rfl, sok, by omega, fun r5 y5 H35 s35 _ hr5 ty5 => ?_⟩
      refine ⟨_, rfl, .list (sts.map stpD), .list (sts.map stpD), .lst (SqL.of hr5) (TDs.dp ty5), .lst (SqL.of (s35 _ _ hl134)) (TDs.dp (tl134.mono (TSm.of_same s35))), (stp_lays sts).shaped (by decide), (stp_lays sts).shaped (by decide), false, by rw [(stp_lays sts).refl]; rfl, iteF ?_⟩
      refine ⟨_, rfl, sts, rfl, sok, by omega, fun r6 y6 H36 s36 _ hr6 ty6 => ⟨r6, y6, sts, rfl, hr6, ty6, sok, by omega, fun H37 s37 => ?_⟩⟩
      refine ⟨_, rfl, rfl, false, congrArg V.bl (by rw [decide_eq_true rfl]; rfl), iteF ?_⟩
      have s4 := (s35.trans s36).trans s37
      have hg37 := s4 _ _ hg34
      have hr37 := s4 _ _ hr34
      have tw37 := tw34.mono (TSm.of_same s4)
      clear hg34 hr34 tw34 s35 s36 s37 s4 hr5 ty5 hr6 ty6 hl134 tl134
      -- what was read, played
      have eg : sts.map Ask.good = (goods as as.length).take 40 := by rw [hsts]; unfold goods; rw [List.map_map, List.map_take]; rfl
      have er : rA z room Sk.new (sts.map Ask.good) = ((gis as as.length).take 40).map fun n => (rA z room Sk.new as).getD n .none := by rw [eg, rA_take, gr, List.map_take]
      refine ⟨_, rfl, _, rfl, _, rfl, sts, rfl, sok, by omega, fun r7 y7 H38 s38 _ hr7 ty7 => ⟨z, room, r7, y7, sts.map Ask.good, rfl, hr7, by rw [List.map_map]; exact ty7, fun a ha => ?_, by rw [List.length_map]; omega, hz8, hz24, hr1, hr60, fun o5 M5 R5 r8 tp5 ws5 H39 _ hr8 tw8 htp5 _ _ _ s39 => ⟨tp5, _, 0, _, rfl, rfl, SqT.of htp5, atI_nat (j := 0) rfl, ?_⟩⟩⟩
      · rw [eg] at ha
        exact gok a (List.mem_of_mem_take ha)
      have s4 := s38.trans s39
      have hg39 := s4 _ _ hg37
      have hr39 := s4 _ _ hr37
      have tw39 := tw37.mono (TSm.of_same s4)
      clear hg37 hr37 tw37 s38 s39 s4 hr7 ty7 htp5
      rw [er] at tw8
      refine ⟨_, rfl, 40, rfl, slL_take' (n := 40) hg39 fun g1 H40 s40 ng1 hg1 => ⟨g1, rfl, ⟨_, SqL.of hg1⟩, fun D5 hD5 => ?_⟩⟩
      have hr40 := s40 _ _ hr39
      have tw40 := tw39.mono (TSm.of_same s40)
      have hr840 := s40 _ _ hr8
      have tw840 := tw8.mono (TSm.of_same s40)
      rw [← List.map_take] at hg1
      refine lc_list (K := K) (a := g1) (xs := ((gis as as.length).take 40).map fun n : Nat => V.int (n : Int)) (fun i H' => Same H40 H' ∧ ∃ xs, H' D5 = some (.lst xs) ∧ TDs H' xs ((((gis as as.length).take 40).take i).map fun n => (rA z room Sk.new as).getD n .none) ∧ xs.length ≤ i) ⟨same_new (Same.refl H40) hD5, [], upd_same, .nil, Nat.le_refl _⟩ (fun i H' _ p => SqL.of (p.1 _ _ hg1)) ?_ ?_
      · rintro i y H41 hy ⟨q1, xs5, hxs5, txs5, hxl5⟩
        obtain ⟨n, hn, rfl⟩ := map_get hy
        have hil := (List.getElem?_eq_some_iff.mp hn).1
        rw [List.length_take] at hil
        obtain ⟨hn1, hn2⟩ := gis_lt (List.mem_of_mem_take (List.mem_of_getElem? hn))
        obtain ⟨d, hd, _, _⟩ := res_no_iff (z := z) (room := room) (as := as) (i := n) hn1
        obtain ⟨v, hv, tv⟩ := (tw40.mono (TSm.of_same q1)).getD hd
        have t5 : TSm H41 (upd H41 D5 (.lst (xs5 ++ [v]))) := ts_upd (TSm.refl _) (NoT.lst hxs5)
        refine ⟨rfl, _, rfl, _, rfl, r, ws, _, _, rfl, rfl, SqL.of (q1 _ _ hr40), atI_nat hv, xs5, hxs5, lt_line (by omega), same_mut q1 hD5, xs5 ++ [v], upd_same, ?_, by rw [List.length_append, List.length_singleton]; omega⟩
        rw [List.take_add_one, hn, Option.toList_some, List.map_append]
        have ed : (rA z room Sk.new as).getD n .none = d := by rw [List.getD_eq_getElem?_getD, hd]; rfl
        refine (txs5.mono t5).app (.one ?_)
        show TD _ v ((rA z room Sk.new as).getD n .none)
        rw [ed]
        exact tv.mono t5
      rintro H41 ⟨q1, xs5, hxs5, txs5, _⟩
      rw [List.length_map, List.take_length] at txs5
      rw [← er] at txs5 tw840
      refine ⟨.list _, .list _, .lst (SqL.of (q1 _ _ hr840)) (TDs.dp (tw840.mono (TSm.of_same q1))), .lst (SqL.of hxs5) (TDs.dp txs5), (rA_lay _ _ _ _).shaped (by decide), (rA_lay _ _ _ _).shaped (by decide), ?_⟩
      rw [(rA_lay _ _ _ _).refl]
      exact fin _
end
end K20

namespace K20
open PySem PySem.Spec PyProof.Rows L2 Sky
/-- the facts of the top, put together -/
def mkTx {K : PySem.W.Frag} {h : Heap} {mg : Str → Option Value} (X : K.In h) (G : h.Ns mainGlobals mg)
    {A_Laying A_Craft A_Ground A_Sky A_BARE A_LETTERS A_WAYS f_is_number f_is_stream f_holds_numbers f_is_telling f_is_mark f_is_frame f_check_stream f_check_telling f_check_size f_check_room f_check_marks f_Laying_init f_Laying_lay f_Laying_fill f_Laying_done f_Craft_init f_Craft_tell f_Craft_close f_Craft_begin f_Craft_shut f_Craft_beat f_Craft_known f_Craft_again f_Craft_kept f_Craft_lost f_Craft_next_mark f_Craft_keep f_Craft_make_room f_Craft_let_go f_rows_of f_check_frames f_told_in f_beginnings f_laid_at f_Ground_init f_Ground_hear f_Ground_never f_Ground_rows f_Ground_has f_Ground_wants f_Sky_init f_Sky_do f_Sky_shown f_Sky_log f_Sky_tell f_Sky_close f_Sky_beat f_Sky_ask f_Sky_letter f_Sky_lose f_Sky_hear f_Sky_hear_down f_Sky_hear_up f_Sky_settle f_Sky_hear_all f_Sky_go_round f_played f_written f_read f_row_of f_step_of f_is_written_number f_law_mix f_law_next f_law_alike f_law_data f_law_step f_law A_BadStream A_BadData A_SkyError : Addr} {od_is_number an_is_number od_is_stream an_is_stream od_holds_numbers an_holds_numbers od_is_telling an_is_telling od_is_mark an_is_mark od_is_frame an_is_frame od_check_stream an_check_stream od_check_telling an_check_telling od_check_size an_check_size od_check_room an_check_room od_check_marks an_check_marks od_Laying_init an_Laying_init od_Laying_lay an_Laying_lay od_Laying_fill an_Laying_fill od_Laying_done an_Laying_done od_Craft_init an_Craft_init od_Craft_tell an_Craft_tell od_Craft_close an_Craft_close od_Craft_begin an_Craft_begin od_Craft_shut an_Craft_shut od_Craft_beat an_Craft_beat od_Craft_known an_Craft_known od_Craft_again an_Craft_again od_Craft_kept an_Craft_kept od_Craft_lost an_Craft_lost od_Craft_next_mark an_Craft_next_mark od_Craft_keep an_Craft_keep od_Craft_make_room an_Craft_make_room od_Craft_let_go an_Craft_let_go od_rows_of an_rows_of od_check_frames an_check_frames od_told_in an_told_in od_beginnings an_beginnings od_laid_at an_laid_at od_Ground_init an_Ground_init od_Ground_hear an_Ground_hear od_Ground_never an_Ground_never od_Ground_rows an_Ground_rows od_Ground_has an_Ground_has od_Ground_wants an_Ground_wants od_Sky_init an_Sky_init od_Sky_do an_Sky_do od_Sky_shown an_Sky_shown od_Sky_log an_Sky_log od_Sky_tell an_Sky_tell od_Sky_close an_Sky_close od_Sky_beat an_Sky_beat od_Sky_ask an_Sky_ask od_Sky_letter an_Sky_letter od_Sky_lose an_Sky_lose od_Sky_hear an_Sky_hear od_Sky_hear_down an_Sky_hear_down od_Sky_hear_up an_Sky_hear_up od_Sky_settle an_Sky_settle od_Sky_hear_all an_Sky_hear_all od_Sky_go_round an_Sky_go_round od_played an_played od_written an_written od_read an_read od_row_of an_row_of od_step_of an_step_of od_is_written_number an_is_written_number od_law_mix an_law_mix od_law_next an_law_next od_law_alike an_law_alike od_law_data an_law_data od_law_step an_law_step od_law an_law : Option Addr} {sl_is_number sl_is_stream sl_holds_numbers sl_is_telling sl_is_mark sl_is_frame sl_check_stream sl_check_telling sl_check_size sl_check_room sl_check_marks sl_Laying_init sl_Laying_lay sl_Laying_fill sl_Laying_done sl_Craft_init sl_Craft_tell sl_Craft_close sl_Craft_begin sl_Craft_shut sl_Craft_beat sl_Craft_known sl_Craft_again sl_Craft_kept sl_Craft_lost sl_Craft_next_mark sl_Craft_keep sl_Craft_make_room sl_Craft_let_go sl_rows_of sl_check_frames sl_told_in sl_beginnings sl_laid_at sl_Ground_init sl_Ground_hear sl_Ground_never sl_Ground_rows sl_Ground_has sl_Ground_wants sl_Sky_init sl_Sky_do sl_Sky_shown sl_Sky_log sl_Sky_tell sl_Sky_close sl_Sky_beat sl_Sky_ask sl_Sky_letter sl_Sky_lose sl_Sky_hear sl_Sky_hear_down sl_Sky_hear_up sl_Sky_settle sl_Sky_hear_all sl_Sky_go_round sl_played sl_written sl_read sl_row_of sl_step_of sl_is_written_number sl_law_mix sl_law_next sl_law_alike sl_law_data sl_law_step sl_law : Array (Option Value)}
    {oc_is_number kV_is_number dc_is_number pm_is_number cd_is_number ct_is_number oc_is_stream kV_is_stream dc_is_stream pm_is_stream cd_is_stream ct_is_stream oc_holds_numbers kV_holds_numbers dc_holds_numbers pm_holds_numbers cd_holds_numbers ct_holds_numbers oc_is_telling kV_is_telling dc_is_telling pm_is_telling cd_is_telling ct_is_telling oc_is_mark kV_is_mark dc_is_mark pm_is_mark cd_is_mark ct_is_mark oc_is_frame kV_is_frame dc_is_frame pm_is_frame cd_is_frame ct_is_frame oc_check_stream kV_check_stream dc_check_stream pm_check_stream cd_check_stream ct_check_stream oc_check_telling kV_check_telling dc_check_telling pm_check_telling cd_check_telling ct_check_telling oc_check_size kV_check_size dc_check_size pm_check_size cd_check_size ct_check_size oc_check_room kV_check_room dc_check_room pm_check_room cd_check_room ct_check_room oc_check_marks kV_check_marks dc_check_marks pm_check_marks cd_check_marks ct_check_marks oc_Laying_init kV_Laying_init dc_Laying_init pm_Laying_init cd_Laying_init ct_Laying_init oc_Laying_lay kV_Laying_lay dc_Laying_lay pm_Laying_lay cd_Laying_lay ct_Laying_lay oc_Laying_fill kV_Laying_fill dc_Laying_fill pm_Laying_fill cd_Laying_fill ct_Laying_fill oc_Laying_done kV_Laying_done dc_Laying_done pm_Laying_done cd_Laying_done ct_Laying_done oc_Craft_init kV_Craft_init dc_Craft_init pm_Craft_init cd_Craft_init ct_Craft_init oc_Craft_tell kV_Craft_tell dc_Craft_tell pm_Craft_tell cd_Craft_tell ct_Craft_tell oc_Craft_close kV_Craft_close dc_Craft_close pm_Craft_close cd_Craft_close ct_Craft_close oc_Craft_begin kV_Craft_begin dc_Craft_begin pm_Craft_begin cd_Craft_begin ct_Craft_begin oc_Craft_shut kV_Craft_shut dc_Craft_shut pm_Craft_shut cd_Craft_shut ct_Craft_shut oc_Craft_beat kV_Craft_beat dc_Craft_beat pm_Craft_beat cd_Craft_beat ct_Craft_beat oc_Craft_known kV_Craft_known dc_Craft_known pm_Craft_known cd_Craft_known ct_Craft_known oc_Craft_again kV_Craft_again dc_Craft_again pm_Craft_again cd_Craft_again ct_Craft_again oc_Craft_kept kV_Craft_kept dc_Craft_kept pm_Craft_kept cd_Craft_kept ct_Craft_kept oc_Craft_lost kV_Craft_lost dc_Craft_lost pm_Craft_lost cd_Craft_lost ct_Craft_lost oc_Craft_next_mark kV_Craft_next_mark dc_Craft_next_mark pm_Craft_next_mark cd_Craft_next_mark ct_Craft_next_mark oc_Craft_keep kV_Craft_keep dc_Craft_keep pm_Craft_keep cd_Craft_keep ct_Craft_keep oc_Craft_make_room kV_Craft_make_room dc_Craft_make_room pm_Craft_make_room cd_Craft_make_room ct_Craft_make_room oc_Craft_let_go kV_Craft_let_go dc_Craft_let_go pm_Craft_let_go cd_Craft_let_go ct_Craft_let_go oc_rows_of kV_rows_of dc_rows_of pm_rows_of cd_rows_of ct_rows_of oc_check_frames kV_check_frames dc_check_frames pm_check_frames cd_check_frames ct_check_frames oc_told_in kV_told_in dc_told_in pm_told_in cd_told_in ct_told_in oc_beginnings kV_beginnings dc_beginnings pm_beginnings cd_beginnings ct_beginnings oc_laid_at kV_laid_at dc_laid_at pm_laid_at cd_laid_at ct_laid_at oc_Ground_init kV_Ground_init dc_Ground_init pm_Ground_init cd_Ground_init ct_Ground_init oc_Ground_hear kV_Ground_hear dc_Ground_hear pm_Ground_hear cd_Ground_hear ct_Ground_hear oc_Ground_never kV_Ground_never dc_Ground_never pm_Ground_never cd_Ground_never ct_Ground_never oc_Ground_rows kV_Ground_rows dc_Ground_rows pm_Ground_rows cd_Ground_rows ct_Ground_rows oc_Ground_has kV_Ground_has dc_Ground_has pm_Ground_has cd_Ground_has ct_Ground_has oc_Ground_wants kV_Ground_wants dc_Ground_wants pm_Ground_wants cd_Ground_wants ct_Ground_wants oc_Sky_init kV_Sky_init dc_Sky_init pm_Sky_init cd_Sky_init ct_Sky_init oc_Sky_do kV_Sky_do dc_Sky_do pm_Sky_do cd_Sky_do ct_Sky_do oc_Sky_shown kV_Sky_shown dc_Sky_shown pm_Sky_shown cd_Sky_shown ct_Sky_shown oc_Sky_log kV_Sky_log dc_Sky_log pm_Sky_log cd_Sky_log ct_Sky_log oc_Sky_tell kV_Sky_tell dc_Sky_tell pm_Sky_tell cd_Sky_tell ct_Sky_tell oc_Sky_close kV_Sky_close dc_Sky_close pm_Sky_close cd_Sky_close ct_Sky_close oc_Sky_beat kV_Sky_beat dc_Sky_beat pm_Sky_beat cd_Sky_beat ct_Sky_beat oc_Sky_ask kV_Sky_ask dc_Sky_ask pm_Sky_ask cd_Sky_ask ct_Sky_ask oc_Sky_letter kV_Sky_letter dc_Sky_letter pm_Sky_letter cd_Sky_letter ct_Sky_letter oc_Sky_lose kV_Sky_lose dc_Sky_lose pm_Sky_lose cd_Sky_lose ct_Sky_lose oc_Sky_hear kV_Sky_hear dc_Sky_hear pm_Sky_hear cd_Sky_hear ct_Sky_hear oc_Sky_hear_down kV_Sky_hear_down dc_Sky_hear_down pm_Sky_hear_down cd_Sky_hear_down ct_Sky_hear_down oc_Sky_hear_up kV_Sky_hear_up dc_Sky_hear_up pm_Sky_hear_up cd_Sky_hear_up ct_Sky_hear_up oc_Sky_settle kV_Sky_settle dc_Sky_settle pm_Sky_settle cd_Sky_settle ct_Sky_settle oc_Sky_hear_all kV_Sky_hear_all dc_Sky_hear_all pm_Sky_hear_all cd_Sky_hear_all ct_Sky_hear_all oc_Sky_go_round kV_Sky_go_round dc_Sky_go_round pm_Sky_go_round cd_Sky_go_round ct_Sky_go_round oc_played kV_played dc_played pm_played cd_played ct_played oc_written kV_written dc_written pm_written cd_written ct_written oc_read kV_read dc_read pm_read cd_read ct_read oc_row_of kV_row_of dc_row_of pm_row_of cd_row_of ct_row_of oc_step_of kV_step_of dc_step_of pm_step_of cd_step_of ct_step_of oc_is_written_number kV_is_written_number dc_is_written_number pm_is_written_number cd_is_written_number ct_is_written_number oc_law_mix kV_law_mix dc_law_mix pm_law_mix cd_law_mix ct_law_mix oc_law_next kV_law_next dc_law_next pm_law_next cd_law_next ct_law_next oc_law_alike kV_law_alike dc_law_alike pm_law_alike cd_law_alike ct_law_alike oc_law_data kV_law_data dc_law_data pm_law_data cd_law_data ct_law_data oc_law_step kV_law_step dc_law_step pm_law_step cd_law_step ct_law_step oc_law kV_law dc_law pm_law cd_law ct_law : Value} {t_STREAMS t_MOST_NUMBERS t_LEAST_SIZE t_MOST_SIZE t_MOST_ROOM t_MOST_COUNT t_HEAD t_HUNDRED t_MOST_FIGURES t_BARE_0  t_BARE_1  t_BARE_2  t_BARE_3  t_BARE_4  t_LETTERS_0  t_LETTERS_1  t_LETTERS_2  t_WAYS_0  t_WAYS_1 : Tok} {td_BARE : Option Addr} {tn_BARE : Nat} {ts_BARE : Array (Option Value)} {td_LETTERS : Option Addr} {tn_LETTERS : Nat} {ts_LETTERS : Array (Option Value)} {td_WAYS : Option Addr} {tn_WAYS : Nat} {ts_WAYS : Array (Option Value)}
    (hA_Laying : PySem.W.nsIn K mainGlobals "Laying" = some (some (.ref A_Laying)))
    (hA_Craft : PySem.W.nsIn K mainGlobals "Craft" = some (some (.ref A_Craft)))
    (hA_Ground : PySem.W.nsIn K mainGlobals "Ground" = some (some (.ref A_Ground)))
    (hA_Sky : PySem.W.nsIn K mainGlobals "Sky" = some (some (.ref A_Sky)))
    (h_is_number : PySem.W.nsIn K mainGlobals "is_number" = some (some (.ref f_is_number)))
    (l_is_number : K.lookup f_is_number = some ⟨oc_is_number, od_is_number, .func (PySem.W.fnOf "is_number" "is_number" (defArgs s_is_number) (defBody s_is_number) (defScope s_is_number) .none kV_is_number dc_is_number pm_is_number an_is_number cd_is_number ct_is_number), sl_is_number⟩)
    (c_is_number : PySem.W.codeIn K cd_is_number "is_number" = true)
    (k_is_number : PySem.W.keepIn K (.ref f_is_number) = true)
    (h_is_stream : PySem.W.nsIn K mainGlobals "is_stream" = some (some (.ref f_is_stream)))
    (l_is_stream : K.lookup f_is_stream = some ⟨oc_is_stream, od_is_stream, .func (PySem.W.fnOf "is_stream" "is_stream" (defArgs s_is_stream) (defBody s_is_stream) (defScope s_is_stream) .none kV_is_stream dc_is_stream pm_is_stream an_is_stream cd_is_stream ct_is_stream), sl_is_stream⟩)
    (c_is_stream : PySem.W.codeIn K cd_is_stream "is_stream" = true)
    (k_is_stream : PySem.W.keepIn K (.ref f_is_stream) = true)
    (h_holds_numbers : PySem.W.nsIn K mainGlobals "holds_numbers" = some (some (.ref f_holds_numbers)))
    (l_holds_numbers : K.lookup f_holds_numbers = some ⟨oc_holds_numbers, od_holds_numbers, .func (PySem.W.fnOf "holds_numbers" "holds_numbers" (defArgs s_holds_numbers) (defBody s_holds_numbers) (defScope s_holds_numbers) .none kV_holds_numbers dc_holds_numbers pm_holds_numbers an_holds_numbers cd_holds_numbers ct_holds_numbers), sl_holds_numbers⟩)
    (c_holds_numbers : PySem.W.codeIn K cd_holds_numbers "holds_numbers" = true)
    (k_holds_numbers : PySem.W.keepIn K (.ref f_holds_numbers) = true)
    (h_is_telling : PySem.W.nsIn K mainGlobals "is_telling" = some (some (.ref f_is_telling)))
    (l_is_telling : K.lookup f_is_telling = some ⟨oc_is_telling, od_is_telling, .func (PySem.W.fnOf "is_telling" "is_telling" (defArgs s_is_telling) (defBody s_is_telling) (defScope s_is_telling) .none kV_is_telling dc_is_telling pm_is_telling an_is_telling cd_is_telling ct_is_telling), sl_is_telling⟩)
    (c_is_telling : PySem.W.codeIn K cd_is_telling "is_telling" = true)
    (k_is_telling : PySem.W.keepIn K (.ref f_is_telling) = true)
    (h_is_mark : PySem.W.nsIn K mainGlobals "is_mark" = some (some (.ref f_is_mark)))
    (l_is_mark : K.lookup f_is_mark = some ⟨oc_is_mark, od_is_mark, .func (PySem.W.fnOf "is_mark" "is_mark" (defArgs s_is_mark) (defBody s_is_mark) (defScope s_is_mark) .none kV_is_mark dc_is_mark pm_is_mark an_is_mark cd_is_mark ct_is_mark), sl_is_mark⟩)
    (c_is_mark : PySem.W.codeIn K cd_is_mark "is_mark" = true)
    (k_is_mark : PySem.W.keepIn K (.ref f_is_mark) = true)
    (h_is_frame : PySem.W.nsIn K mainGlobals "is_frame" = some (some (.ref f_is_frame)))
    (l_is_frame : K.lookup f_is_frame = some ⟨oc_is_frame, od_is_frame, .func (PySem.W.fnOf "is_frame" "is_frame" (defArgs s_is_frame) (defBody s_is_frame) (defScope s_is_frame) .none kV_is_frame dc_is_frame pm_is_frame an_is_frame cd_is_frame ct_is_frame), sl_is_frame⟩)
    (c_is_frame : PySem.W.codeIn K cd_is_frame "is_frame" = true)
    (k_is_frame : PySem.W.keepIn K (.ref f_is_frame) = true)
    (h_check_stream : PySem.W.nsIn K mainGlobals "check_stream" = some (some (.ref f_check_stream)))
    (l_check_stream : K.lookup f_check_stream = some ⟨oc_check_stream, od_check_stream, .func (PySem.W.fnOf "check_stream" "check_stream" (defArgs s_check_stream) (defBody s_check_stream) (defScope s_check_stream) .none kV_check_stream dc_check_stream pm_check_stream an_check_stream cd_check_stream ct_check_stream), sl_check_stream⟩)
    (c_check_stream : PySem.W.codeIn K cd_check_stream "check_stream" = true)
    (k_check_stream : PySem.W.keepIn K (.ref f_check_stream) = true)
    (h_check_telling : PySem.W.nsIn K mainGlobals "check_telling" = some (some (.ref f_check_telling)))
    (l_check_telling : K.lookup f_check_telling = some ⟨oc_check_telling, od_check_telling, .func (PySem.W.fnOf "check_telling" "check_telling" (defArgs s_check_telling) (defBody s_check_telling) (defScope s_check_telling) .none kV_check_telling dc_check_telling pm_check_telling an_check_telling cd_check_telling ct_check_telling), sl_check_telling⟩)
    (c_check_telling : PySem.W.codeIn K cd_check_telling "check_telling" = true)
    (k_check_telling : PySem.W.keepIn K (.ref f_check_telling) = true)
    (h_check_size : PySem.W.nsIn K mainGlobals "check_size" = some (some (.ref f_check_size)))
    (l_check_size : K.lookup f_check_size = some ⟨oc_check_size, od_check_size, .func (PySem.W.fnOf "check_size" "check_size" (defArgs s_check_size) (defBody s_check_size) (defScope s_check_size) .none kV_check_size dc_check_size pm_check_size an_check_size cd_check_size ct_check_size), sl_check_size⟩)
    (c_check_size : PySem.W.codeIn K cd_check_size "check_size" = true)
    (k_check_size : PySem.W.keepIn K (.ref f_check_size) = true)
    (h_check_room : PySem.W.nsIn K mainGlobals "check_room" = some (some (.ref f_check_room)))
    (l_check_room : K.lookup f_check_room = some ⟨oc_check_room, od_check_room, .func (PySem.W.fnOf "check_room" "check_room" (defArgs s_check_room) (defBody s_check_room) (defScope s_check_room) .none kV_check_room dc_check_room pm_check_room an_check_room cd_check_room ct_check_room), sl_check_room⟩)
    (c_check_room : PySem.W.codeIn K cd_check_room "check_room" = true)
    (k_check_room : PySem.W.keepIn K (.ref f_check_room) = true)
    (h_check_marks : PySem.W.nsIn K mainGlobals "check_marks" = some (some (.ref f_check_marks)))
    (l_check_marks : K.lookup f_check_marks = some ⟨oc_check_marks, od_check_marks, .func (PySem.W.fnOf "check_marks" "check_marks" (defArgs s_check_marks) (defBody s_check_marks) (defScope s_check_marks) .none kV_check_marks dc_check_marks pm_check_marks an_check_marks cd_check_marks ct_check_marks), sl_check_marks⟩)
    (c_check_marks : PySem.W.codeIn K cd_check_marks "check_marks" = true)
    (k_check_marks : PySem.W.keepIn K (.ref f_check_marks) = true)
    (h_Laying_init : PySem.W.findIn K (.ref A_Laying) "__init__" = some (some (.ref f_Laying_init)))
    (i_Laying_init : PySem.W.isFn K (.ref f_Laying_init) = true)
    (l_Laying_init : K.lookup f_Laying_init = some ⟨oc_Laying_init, od_Laying_init, .func (PySem.W.fnOf "__init__" "Laying.__init__" (defArgs s_Laying_init) (defBody s_Laying_init) (defScope s_Laying_init) .none kV_Laying_init dc_Laying_init pm_Laying_init an_Laying_init cd_Laying_init ct_Laying_init), sl_Laying_init⟩)
    (c_Laying_init : PySem.W.codeIn K cd_Laying_init "Laying.__init__" = true)
    (k_Laying_init : PySem.W.keepIn K (.ref f_Laying_init) = true)
    (h_Laying_lay : PySem.W.findIn K (.ref A_Laying) "lay" = some (some (.ref f_Laying_lay)))
    (i_Laying_lay : PySem.W.isFn K (.ref f_Laying_lay) = true)
    (l_Laying_lay : K.lookup f_Laying_lay = some ⟨oc_Laying_lay, od_Laying_lay, .func (PySem.W.fnOf "lay" "Laying.lay" (defArgs s_Laying_lay) (defBody s_Laying_lay) (defScope s_Laying_lay) .none kV_Laying_lay dc_Laying_lay pm_Laying_lay an_Laying_lay cd_Laying_lay ct_Laying_lay), sl_Laying_lay⟩)
    (c_Laying_lay : PySem.W.codeIn K cd_Laying_lay "Laying.lay" = true)
    (k_Laying_lay : PySem.W.keepIn K (.ref f_Laying_lay) = true)
    (h_Laying_fill : PySem.W.findIn K (.ref A_Laying) "fill" = some (some (.ref f_Laying_fill)))
    (i_Laying_fill : PySem.W.isFn K (.ref f_Laying_fill) = true)
    (l_Laying_fill : K.lookup f_Laying_fill = some ⟨oc_Laying_fill, od_Laying_fill, .func (PySem.W.fnOf "fill" "Laying.fill" (defArgs s_Laying_fill) (defBody s_Laying_fill) (defScope s_Laying_fill) .none kV_Laying_fill dc_Laying_fill pm_Laying_fill an_Laying_fill cd_Laying_fill ct_Laying_fill), sl_Laying_fill⟩)
    (c_Laying_fill : PySem.W.codeIn K cd_Laying_fill "Laying.fill" = true)
    (k_Laying_fill : PySem.W.keepIn K (.ref f_Laying_fill) = true)
    (h_Laying_done : PySem.W.findIn K (.ref A_Laying) "_done" = some (some (.ref f_Laying_done)))
    (i_Laying_done : PySem.W.isFn K (.ref f_Laying_done) = true)
    (l_Laying_done : K.lookup f_Laying_done = some ⟨oc_Laying_done, od_Laying_done, .func (PySem.W.fnOf "_done" "Laying._done" (defArgs s_Laying_done) (defBody s_Laying_done) (defScope s_Laying_done) .none kV_Laying_done dc_Laying_done pm_Laying_done an_Laying_done cd_Laying_done ct_Laying_done), sl_Laying_done⟩)
    (c_Laying_done : PySem.W.codeIn K cd_Laying_done "Laying._done" = true)
    (k_Laying_done : PySem.W.keepIn K (.ref f_Laying_done) = true)
    (h_Craft_init : PySem.W.findIn K (.ref A_Craft) "__init__" = some (some (.ref f_Craft_init)))
    (i_Craft_init : PySem.W.isFn K (.ref f_Craft_init) = true)
    (l_Craft_init : K.lookup f_Craft_init = some ⟨oc_Craft_init, od_Craft_init, .func (PySem.W.fnOf "__init__" "Craft.__init__" (defArgs s_Craft_init) (defBody s_Craft_init) (defScope s_Craft_init) .none kV_Craft_init dc_Craft_init pm_Craft_init an_Craft_init cd_Craft_init ct_Craft_init), sl_Craft_init⟩)
    (c_Craft_init : PySem.W.codeIn K cd_Craft_init "Craft.__init__" = true)
    (k_Craft_init : PySem.W.keepIn K (.ref f_Craft_init) = true)
    (h_Craft_tell : PySem.W.findIn K (.ref A_Craft) "tell" = some (some (.ref f_Craft_tell)))
    (i_Craft_tell : PySem.W.isFn K (.ref f_Craft_tell) = true)
    (l_Craft_tell : K.lookup f_Craft_tell = some ⟨oc_Craft_tell, od_Craft_tell, .func (PySem.W.fnOf "tell" "Craft.tell" (defArgs s_Craft_tell) (defBody s_Craft_tell) (defScope s_Craft_tell) .none kV_Craft_tell dc_Craft_tell pm_Craft_tell an_Craft_tell cd_Craft_tell ct_Craft_tell), sl_Craft_tell⟩)
    (c_Craft_tell : PySem.W.codeIn K cd_Craft_tell "Craft.tell" = true)
    (k_Craft_tell : PySem.W.keepIn K (.ref f_Craft_tell) = true)
    (h_Craft_close : PySem.W.findIn K (.ref A_Craft) "close" = some (some (.ref f_Craft_close)))
    (i_Craft_close : PySem.W.isFn K (.ref f_Craft_close) = true)
    (l_Craft_close : K.lookup f_Craft_close = some ⟨oc_Craft_close, od_Craft_close, .func (PySem.W.fnOf "close" "Craft.close" (defArgs s_Craft_close) (defBody s_Craft_close) (defScope s_Craft_close) .none kV_Craft_close dc_Craft_close pm_Craft_close an_Craft_close cd_Craft_close ct_Craft_close), sl_Craft_close⟩)
    (c_Craft_close : PySem.W.codeIn K cd_Craft_close "Craft.close" = true)
    (k_Craft_close : PySem.W.keepIn K (.ref f_Craft_close) = true)
    (h_Craft_begin : PySem.W.findIn K (.ref A_Craft) "begin" = some (some (.ref f_Craft_begin)))
    (i_Craft_begin : PySem.W.isFn K (.ref f_Craft_begin) = true)
    (l_Craft_begin : K.lookup f_Craft_begin = some ⟨oc_Craft_begin, od_Craft_begin, .func (PySem.W.fnOf "begin" "Craft.begin" (defArgs s_Craft_begin) (defBody s_Craft_begin) (defScope s_Craft_begin) .none kV_Craft_begin dc_Craft_begin pm_Craft_begin an_Craft_begin cd_Craft_begin ct_Craft_begin), sl_Craft_begin⟩)
    (c_Craft_begin : PySem.W.codeIn K cd_Craft_begin "Craft.begin" = true)
    (k_Craft_begin : PySem.W.keepIn K (.ref f_Craft_begin) = true)
    (h_Craft_shut : PySem.W.findIn K (.ref A_Craft) "shut" = some (some (.ref f_Craft_shut)))
    (i_Craft_shut : PySem.W.isFn K (.ref f_Craft_shut) = true)
    (l_Craft_shut : K.lookup f_Craft_shut = some ⟨oc_Craft_shut, od_Craft_shut, .func (PySem.W.fnOf "shut" "Craft.shut" (defArgs s_Craft_shut) (defBody s_Craft_shut) (defScope s_Craft_shut) .none kV_Craft_shut dc_Craft_shut pm_Craft_shut an_Craft_shut cd_Craft_shut ct_Craft_shut), sl_Craft_shut⟩)
    (c_Craft_shut : PySem.W.codeIn K cd_Craft_shut "Craft.shut" = true)
    (k_Craft_shut : PySem.W.keepIn K (.ref f_Craft_shut) = true)
    (h_Craft_beat : PySem.W.findIn K (.ref A_Craft) "beat" = some (some (.ref f_Craft_beat)))
    (i_Craft_beat : PySem.W.isFn K (.ref f_Craft_beat) = true)
    (l_Craft_beat : K.lookup f_Craft_beat = some ⟨oc_Craft_beat, od_Craft_beat, .func (PySem.W.fnOf "beat" "Craft.beat" (defArgs s_Craft_beat) (defBody s_Craft_beat) (defScope s_Craft_beat) .none kV_Craft_beat dc_Craft_beat pm_Craft_beat an_Craft_beat cd_Craft_beat ct_Craft_beat), sl_Craft_beat⟩)
    (c_Craft_beat : PySem.W.codeIn K cd_Craft_beat "Craft.beat" = true)
    (k_Craft_beat : PySem.W.keepIn K (.ref f_Craft_beat) = true)
    (h_Craft_known : PySem.W.findIn K (.ref A_Craft) "known" = some (some (.ref f_Craft_known)))
    (i_Craft_known : PySem.W.isFn K (.ref f_Craft_known) = true)
    (l_Craft_known : K.lookup f_Craft_known = some ⟨oc_Craft_known, od_Craft_known, .func (PySem.W.fnOf "known" "Craft.known" (defArgs s_Craft_known) (defBody s_Craft_known) (defScope s_Craft_known) .none kV_Craft_known dc_Craft_known pm_Craft_known an_Craft_known cd_Craft_known ct_Craft_known), sl_Craft_known⟩)
    (c_Craft_known : PySem.W.codeIn K cd_Craft_known "Craft.known" = true)
    (k_Craft_known : PySem.W.keepIn K (.ref f_Craft_known) = true)
    (h_Craft_again : PySem.W.findIn K (.ref A_Craft) "again" = some (some (.ref f_Craft_again)))
    (i_Craft_again : PySem.W.isFn K (.ref f_Craft_again) = true)
    (l_Craft_again : K.lookup f_Craft_again = some ⟨oc_Craft_again, od_Craft_again, .func (PySem.W.fnOf "again" "Craft.again" (defArgs s_Craft_again) (defBody s_Craft_again) (defScope s_Craft_again) .none kV_Craft_again dc_Craft_again pm_Craft_again an_Craft_again cd_Craft_again ct_Craft_again), sl_Craft_again⟩)
    (c_Craft_again : PySem.W.codeIn K cd_Craft_again "Craft.again" = true)
    (k_Craft_again : PySem.W.keepIn K (.ref f_Craft_again) = true)
    (h_Craft_kept : PySem.W.findIn K (.ref A_Craft) "kept" = some (some (.ref f_Craft_kept)))
    (i_Craft_kept : PySem.W.isFn K (.ref f_Craft_kept) = true)
    (l_Craft_kept : K.lookup f_Craft_kept = some ⟨oc_Craft_kept, od_Craft_kept, .func (PySem.W.fnOf "kept" "Craft.kept" (defArgs s_Craft_kept) (defBody s_Craft_kept) (defScope s_Craft_kept) .none kV_Craft_kept dc_Craft_kept pm_Craft_kept an_Craft_kept cd_Craft_kept ct_Craft_kept), sl_Craft_kept⟩)
    (c_Craft_kept : PySem.W.codeIn K cd_Craft_kept "Craft.kept" = true)
    (k_Craft_kept : PySem.W.keepIn K (.ref f_Craft_kept) = true)
    (h_Craft_lost : PySem.W.findIn K (.ref A_Craft) "lost" = some (some (.ref f_Craft_lost)))
    (i_Craft_lost : PySem.W.isFn K (.ref f_Craft_lost) = true)
    (l_Craft_lost : K.lookup f_Craft_lost = some ⟨oc_Craft_lost, od_Craft_lost, .func (PySem.W.fnOf "lost" "Craft.lost" (defArgs s_Craft_lost) (defBody s_Craft_lost) (defScope s_Craft_lost) .none kV_Craft_lost dc_Craft_lost pm_Craft_lost an_Craft_lost cd_Craft_lost ct_Craft_lost), sl_Craft_lost⟩)
    (c_Craft_lost : PySem.W.codeIn K cd_Craft_lost "Craft.lost" = true)
    (k_Craft_lost : PySem.W.keepIn K (.ref f_Craft_lost) = true)
    (h_Craft_next_mark : PySem.W.findIn K (.ref A_Craft) "_next_mark" = some (some (.ref f_Craft_next_mark)))
    (i_Craft_next_mark : PySem.W.isFn K (.ref f_Craft_next_mark) = true)
    (l_Craft_next_mark : K.lookup f_Craft_next_mark = some ⟨oc_Craft_next_mark, od_Craft_next_mark, .func (PySem.W.fnOf "_next_mark" "Craft._next_mark" (defArgs s_Craft_next_mark) (defBody s_Craft_next_mark) (defScope s_Craft_next_mark) .none kV_Craft_next_mark dc_Craft_next_mark pm_Craft_next_mark an_Craft_next_mark cd_Craft_next_mark ct_Craft_next_mark), sl_Craft_next_mark⟩)
    (c_Craft_next_mark : PySem.W.codeIn K cd_Craft_next_mark "Craft._next_mark" = true)
    (k_Craft_next_mark : PySem.W.keepIn K (.ref f_Craft_next_mark) = true)
    (h_Craft_keep : PySem.W.findIn K (.ref A_Craft) "_keep" = some (some (.ref f_Craft_keep)))
    (i_Craft_keep : PySem.W.isFn K (.ref f_Craft_keep) = true)
    (l_Craft_keep : K.lookup f_Craft_keep = some ⟨oc_Craft_keep, od_Craft_keep, .func (PySem.W.fnOf "_keep" "Craft._keep" (defArgs s_Craft_keep) (defBody s_Craft_keep) (defScope s_Craft_keep) .none kV_Craft_keep dc_Craft_keep pm_Craft_keep an_Craft_keep cd_Craft_keep ct_Craft_keep), sl_Craft_keep⟩)
    (c_Craft_keep : PySem.W.codeIn K cd_Craft_keep "Craft._keep" = true)
    (k_Craft_keep : PySem.W.keepIn K (.ref f_Craft_keep) = true)
    (h_Craft_make_room : PySem.W.findIn K (.ref A_Craft) "_make_room" = some (some (.ref f_Craft_make_room)))
    (i_Craft_make_room : PySem.W.isFn K (.ref f_Craft_make_room) = true)
    (l_Craft_make_room : K.lookup f_Craft_make_room = some ⟨oc_Craft_make_room, od_Craft_make_room, .func (PySem.W.fnOf "_make_room" "Craft._make_room" (defArgs s_Craft_make_room) (defBody s_Craft_make_room) (defScope s_Craft_make_room) .none kV_Craft_make_room dc_Craft_make_room pm_Craft_make_room an_Craft_make_room cd_Craft_make_room ct_Craft_make_room), sl_Craft_make_room⟩)
    (c_Craft_make_room : PySem.W.codeIn K cd_Craft_make_room "Craft._make_room" = true)
    (k_Craft_make_room : PySem.W.keepIn K (.ref f_Craft_make_room) = true)
    (h_Craft_let_go : PySem.W.findIn K (.ref A_Craft) "_let_go" = some (some (.ref f_Craft_let_go)))
    (i_Craft_let_go : PySem.W.isFn K (.ref f_Craft_let_go) = true)
    (l_Craft_let_go : K.lookup f_Craft_let_go = some ⟨oc_Craft_let_go, od_Craft_let_go, .func (PySem.W.fnOf "_let_go" "Craft._let_go" (defArgs s_Craft_let_go) (defBody s_Craft_let_go) (defScope s_Craft_let_go) .none kV_Craft_let_go dc_Craft_let_go pm_Craft_let_go an_Craft_let_go cd_Craft_let_go ct_Craft_let_go), sl_Craft_let_go⟩)
    (c_Craft_let_go : PySem.W.codeIn K cd_Craft_let_go "Craft._let_go" = true)
    (k_Craft_let_go : PySem.W.keepIn K (.ref f_Craft_let_go) = true)
    (h_rows_of : PySem.W.nsIn K mainGlobals "rows_of" = some (some (.ref f_rows_of)))
    (l_rows_of : K.lookup f_rows_of = some ⟨oc_rows_of, od_rows_of, .func (PySem.W.fnOf "rows_of" "rows_of" (defArgs s_rows_of) (defBody s_rows_of) (defScope s_rows_of) .none kV_rows_of dc_rows_of pm_rows_of an_rows_of cd_rows_of ct_rows_of), sl_rows_of⟩)
    (c_rows_of : PySem.W.codeIn K cd_rows_of "rows_of" = true)
    (k_rows_of : PySem.W.keepIn K (.ref f_rows_of) = true)
    (h_check_frames : PySem.W.nsIn K mainGlobals "_check_frames" = some (some (.ref f_check_frames)))
    (l_check_frames : K.lookup f_check_frames = some ⟨oc_check_frames, od_check_frames, .func (PySem.W.fnOf "_check_frames" "_check_frames" (defArgs s_check_frames) (defBody s_check_frames) (defScope s_check_frames) .none kV_check_frames dc_check_frames pm_check_frames an_check_frames cd_check_frames ct_check_frames), sl_check_frames⟩)
    (c_check_frames : PySem.W.codeIn K cd_check_frames "_check_frames" = true)
    (k_check_frames : PySem.W.keepIn K (.ref f_check_frames) = true)
    (h_told_in : PySem.W.nsIn K mainGlobals "_told_in" = some (some (.ref f_told_in)))
    (l_told_in : K.lookup f_told_in = some ⟨oc_told_in, od_told_in, .func (PySem.W.fnOf "_told_in" "_told_in" (defArgs s_told_in) (defBody s_told_in) (defScope s_told_in) .none kV_told_in dc_told_in pm_told_in an_told_in cd_told_in ct_told_in), sl_told_in⟩)
    (c_told_in : PySem.W.codeIn K cd_told_in "_told_in" = true)
    (k_told_in : PySem.W.keepIn K (.ref f_told_in) = true)
    (h_beginnings : PySem.W.nsIn K mainGlobals "_beginnings" = some (some (.ref f_beginnings)))
    (l_beginnings : K.lookup f_beginnings = some ⟨oc_beginnings, od_beginnings, .func (PySem.W.fnOf "_beginnings" "_beginnings" (defArgs s_beginnings) (defBody s_beginnings) (defScope s_beginnings) .none kV_beginnings dc_beginnings pm_beginnings an_beginnings cd_beginnings ct_beginnings), sl_beginnings⟩)
    (c_beginnings : PySem.W.codeIn K cd_beginnings "_beginnings" = true)
    (k_beginnings : PySem.W.keepIn K (.ref f_beginnings) = true)
    (h_laid_at : PySem.W.nsIn K mainGlobals "_laid_at" = some (some (.ref f_laid_at)))
    (l_laid_at : K.lookup f_laid_at = some ⟨oc_laid_at, od_laid_at, .func (PySem.W.fnOf "_laid_at" "_laid_at" (defArgs s_laid_at) (defBody s_laid_at) (defScope s_laid_at) .none kV_laid_at dc_laid_at pm_laid_at an_laid_at cd_laid_at ct_laid_at), sl_laid_at⟩)
    (c_laid_at : PySem.W.codeIn K cd_laid_at "_laid_at" = true)
    (k_laid_at : PySem.W.keepIn K (.ref f_laid_at) = true)
    (h_Ground_init : PySem.W.findIn K (.ref A_Ground) "__init__" = some (some (.ref f_Ground_init)))
    (i_Ground_init : PySem.W.isFn K (.ref f_Ground_init) = true)
    (l_Ground_init : K.lookup f_Ground_init = some ⟨oc_Ground_init, od_Ground_init, .func (PySem.W.fnOf "__init__" "Ground.__init__" (defArgs s_Ground_init) (defBody s_Ground_init) (defScope s_Ground_init) .none kV_Ground_init dc_Ground_init pm_Ground_init an_Ground_init cd_Ground_init ct_Ground_init), sl_Ground_init⟩)
    (c_Ground_init : PySem.W.codeIn K cd_Ground_init "Ground.__init__" = true)
    (k_Ground_init : PySem.W.keepIn K (.ref f_Ground_init) = true)
    (h_Ground_hear : PySem.W.findIn K (.ref A_Ground) "hear" = some (some (.ref f_Ground_hear)))
    (i_Ground_hear : PySem.W.isFn K (.ref f_Ground_hear) = true)
    (l_Ground_hear : K.lookup f_Ground_hear = some ⟨oc_Ground_hear, od_Ground_hear, .func (PySem.W.fnOf "hear" "Ground.hear" (defArgs s_Ground_hear) (defBody s_Ground_hear) (defScope s_Ground_hear) .none kV_Ground_hear dc_Ground_hear pm_Ground_hear an_Ground_hear cd_Ground_hear ct_Ground_hear), sl_Ground_hear⟩)
    (c_Ground_hear : PySem.W.codeIn K cd_Ground_hear "Ground.hear" = true)
    (k_Ground_hear : PySem.W.keepIn K (.ref f_Ground_hear) = true)
    (h_Ground_never : PySem.W.findIn K (.ref A_Ground) "never" = some (some (.ref f_Ground_never)))
    (i_Ground_never : PySem.W.isFn K (.ref f_Ground_never) = true)
    (l_Ground_never : K.lookup f_Ground_never = some ⟨oc_Ground_never, od_Ground_never, .func (PySem.W.fnOf "never" "Ground.never" (defArgs s_Ground_never) (defBody s_Ground_never) (defScope s_Ground_never) .none kV_Ground_never dc_Ground_never pm_Ground_never an_Ground_never cd_Ground_never ct_Ground_never), sl_Ground_never⟩)
    (c_Ground_never : PySem.W.codeIn K cd_Ground_never "Ground.never" = true)
    (k_Ground_never : PySem.W.keepIn K (.ref f_Ground_never) = true)
    (h_Ground_rows : PySem.W.findIn K (.ref A_Ground) "rows" = some (some (.ref f_Ground_rows)))
    (i_Ground_rows : PySem.W.isFn K (.ref f_Ground_rows) = true)
    (l_Ground_rows : K.lookup f_Ground_rows = some ⟨oc_Ground_rows, od_Ground_rows, .func (PySem.W.fnOf "rows" "Ground.rows" (defArgs s_Ground_rows) (defBody s_Ground_rows) (defScope s_Ground_rows) .none kV_Ground_rows dc_Ground_rows pm_Ground_rows an_Ground_rows cd_Ground_rows ct_Ground_rows), sl_Ground_rows⟩)
    (c_Ground_rows : PySem.W.codeIn K cd_Ground_rows "Ground.rows" = true)
    (k_Ground_rows : PySem.W.keepIn K (.ref f_Ground_rows) = true)
    (h_Ground_has : PySem.W.findIn K (.ref A_Ground) "has" = some (some (.ref f_Ground_has)))
    (i_Ground_has : PySem.W.isFn K (.ref f_Ground_has) = true)
    (l_Ground_has : K.lookup f_Ground_has = some ⟨oc_Ground_has, od_Ground_has, .func (PySem.W.fnOf "has" "Ground.has" (defArgs s_Ground_has) (defBody s_Ground_has) (defScope s_Ground_has) .none kV_Ground_has dc_Ground_has pm_Ground_has an_Ground_has cd_Ground_has ct_Ground_has), sl_Ground_has⟩)
    (c_Ground_has : PySem.W.codeIn K cd_Ground_has "Ground.has" = true)
    (k_Ground_has : PySem.W.keepIn K (.ref f_Ground_has) = true)
    (h_Ground_wants : PySem.W.findIn K (.ref A_Ground) "wants" = some (some (.ref f_Ground_wants)))
    (i_Ground_wants : PySem.W.isFn K (.ref f_Ground_wants) = true)
    (l_Ground_wants : K.lookup f_Ground_wants = some ⟨oc_Ground_wants, od_Ground_wants, .func (PySem.W.fnOf "wants" "Ground.wants" (defArgs s_Ground_wants) (defBody s_Ground_wants) (defScope s_Ground_wants) .none kV_Ground_wants dc_Ground_wants pm_Ground_wants an_Ground_wants cd_Ground_wants ct_Ground_wants), sl_Ground_wants⟩)
    (c_Ground_wants : PySem.W.codeIn K cd_Ground_wants "Ground.wants" = true)
    (k_Ground_wants : PySem.W.keepIn K (.ref f_Ground_wants) = true)
    (h_Sky_init : PySem.W.findIn K (.ref A_Sky) "__init__" = some (some (.ref f_Sky_init)))
    (i_Sky_init : PySem.W.isFn K (.ref f_Sky_init) = true)
    (l_Sky_init : K.lookup f_Sky_init = some ⟨oc_Sky_init, od_Sky_init, .func (PySem.W.fnOf "__init__" "Sky.__init__" (defArgs s_Sky_init) (defBody s_Sky_init) (defScope s_Sky_init) .none kV_Sky_init dc_Sky_init pm_Sky_init an_Sky_init cd_Sky_init ct_Sky_init), sl_Sky_init⟩)
    (c_Sky_init : PySem.W.codeIn K cd_Sky_init "Sky.__init__" = true)
    (k_Sky_init : PySem.W.keepIn K (.ref f_Sky_init) = true)
    (h_Sky_do : PySem.W.findIn K (.ref A_Sky) "do" = some (some (.ref f_Sky_do)))
    (i_Sky_do : PySem.W.isFn K (.ref f_Sky_do) = true)
    (l_Sky_do : K.lookup f_Sky_do = some ⟨oc_Sky_do, od_Sky_do, .func (PySem.W.fnOf "do" "Sky.do" (defArgs s_Sky_do) (defBody s_Sky_do) (defScope s_Sky_do) .none kV_Sky_do dc_Sky_do pm_Sky_do an_Sky_do cd_Sky_do ct_Sky_do), sl_Sky_do⟩)
    (c_Sky_do : PySem.W.codeIn K cd_Sky_do "Sky.do" = true)
    (k_Sky_do : PySem.W.keepIn K (.ref f_Sky_do) = true)
    (h_Sky_shown : PySem.W.findIn K (.ref A_Sky) "shown" = some (some (.ref f_Sky_shown)))
    (i_Sky_shown : PySem.W.isFn K (.ref f_Sky_shown) = true)
    (l_Sky_shown : K.lookup f_Sky_shown = some ⟨oc_Sky_shown, od_Sky_shown, .func (PySem.W.fnOf "shown" "Sky.shown" (defArgs s_Sky_shown) (defBody s_Sky_shown) (defScope s_Sky_shown) .none kV_Sky_shown dc_Sky_shown pm_Sky_shown an_Sky_shown cd_Sky_shown ct_Sky_shown), sl_Sky_shown⟩)
    (c_Sky_shown : PySem.W.codeIn K cd_Sky_shown "Sky.shown" = true)
    (k_Sky_shown : PySem.W.keepIn K (.ref f_Sky_shown) = true)
    (h_Sky_log : PySem.W.findIn K (.ref A_Sky) "log" = some (some (.ref f_Sky_log)))
    (i_Sky_log : PySem.W.isFn K (.ref f_Sky_log) = true)
    (l_Sky_log : K.lookup f_Sky_log = some ⟨oc_Sky_log, od_Sky_log, .func (PySem.W.fnOf "log" "Sky.log" (defArgs s_Sky_log) (defBody s_Sky_log) (defScope s_Sky_log) .none kV_Sky_log dc_Sky_log pm_Sky_log an_Sky_log cd_Sky_log ct_Sky_log), sl_Sky_log⟩)
    (c_Sky_log : PySem.W.codeIn K cd_Sky_log "Sky.log" = true)
    (k_Sky_log : PySem.W.keepIn K (.ref f_Sky_log) = true)
    (h_Sky_tell : PySem.W.findIn K (.ref A_Sky) "_tell" = some (some (.ref f_Sky_tell)))
    (i_Sky_tell : PySem.W.isFn K (.ref f_Sky_tell) = true)
    (l_Sky_tell : K.lookup f_Sky_tell = some ⟨oc_Sky_tell, od_Sky_tell, .func (PySem.W.fnOf "_tell" "Sky._tell" (defArgs s_Sky_tell) (defBody s_Sky_tell) (defScope s_Sky_tell) .none kV_Sky_tell dc_Sky_tell pm_Sky_tell an_Sky_tell cd_Sky_tell ct_Sky_tell), sl_Sky_tell⟩)
    (c_Sky_tell : PySem.W.codeIn K cd_Sky_tell "Sky._tell" = true)
    (k_Sky_tell : PySem.W.keepIn K (.ref f_Sky_tell) = true)
    (h_Sky_close : PySem.W.findIn K (.ref A_Sky) "_close" = some (some (.ref f_Sky_close)))
    (i_Sky_close : PySem.W.isFn K (.ref f_Sky_close) = true)
    (l_Sky_close : K.lookup f_Sky_close = some ⟨oc_Sky_close, od_Sky_close, .func (PySem.W.fnOf "_close" "Sky._close" (defArgs s_Sky_close) (defBody s_Sky_close) (defScope s_Sky_close) .none kV_Sky_close dc_Sky_close pm_Sky_close an_Sky_close cd_Sky_close ct_Sky_close), sl_Sky_close⟩)
    (c_Sky_close : PySem.W.codeIn K cd_Sky_close "Sky._close" = true)
    (k_Sky_close : PySem.W.keepIn K (.ref f_Sky_close) = true)
    (h_Sky_beat : PySem.W.findIn K (.ref A_Sky) "_beat" = some (some (.ref f_Sky_beat)))
    (i_Sky_beat : PySem.W.isFn K (.ref f_Sky_beat) = true)
    (l_Sky_beat : K.lookup f_Sky_beat = some ⟨oc_Sky_beat, od_Sky_beat, .func (PySem.W.fnOf "_beat" "Sky._beat" (defArgs s_Sky_beat) (defBody s_Sky_beat) (defScope s_Sky_beat) .none kV_Sky_beat dc_Sky_beat pm_Sky_beat an_Sky_beat cd_Sky_beat ct_Sky_beat), sl_Sky_beat⟩)
    (c_Sky_beat : PySem.W.codeIn K cd_Sky_beat "Sky._beat" = true)
    (k_Sky_beat : PySem.W.keepIn K (.ref f_Sky_beat) = true)
    (h_Sky_ask : PySem.W.findIn K (.ref A_Sky) "_ask" = some (some (.ref f_Sky_ask)))
    (i_Sky_ask : PySem.W.isFn K (.ref f_Sky_ask) = true)
    (l_Sky_ask : K.lookup f_Sky_ask = some ⟨oc_Sky_ask, od_Sky_ask, .func (PySem.W.fnOf "_ask" "Sky._ask" (defArgs s_Sky_ask) (defBody s_Sky_ask) (defScope s_Sky_ask) .none kV_Sky_ask dc_Sky_ask pm_Sky_ask an_Sky_ask cd_Sky_ask ct_Sky_ask), sl_Sky_ask⟩)
    (c_Sky_ask : PySem.W.codeIn K cd_Sky_ask "Sky._ask" = true)
    (k_Sky_ask : PySem.W.keepIn K (.ref f_Sky_ask) = true)
    (h_Sky_letter : PySem.W.findIn K (.ref A_Sky) "_letter" = some (some (.ref f_Sky_letter)))
    (i_Sky_letter : PySem.W.isFn K (.ref f_Sky_letter) = true)
    (l_Sky_letter : K.lookup f_Sky_letter = some ⟨oc_Sky_letter, od_Sky_letter, .func (PySem.W.fnOf "_letter" "Sky._letter" (defArgs s_Sky_letter) (defBody s_Sky_letter) (defScope s_Sky_letter) .none kV_Sky_letter dc_Sky_letter pm_Sky_letter an_Sky_letter cd_Sky_letter ct_Sky_letter), sl_Sky_letter⟩)
    (c_Sky_letter : PySem.W.codeIn K cd_Sky_letter "Sky._letter" = true)
    (k_Sky_letter : PySem.W.keepIn K (.ref f_Sky_letter) = true)
    (h_Sky_lose : PySem.W.findIn K (.ref A_Sky) "_lose" = some (some (.ref f_Sky_lose)))
    (i_Sky_lose : PySem.W.isFn K (.ref f_Sky_lose) = true)
    (l_Sky_lose : K.lookup f_Sky_lose = some ⟨oc_Sky_lose, od_Sky_lose, .func (PySem.W.fnOf "_lose" "Sky._lose" (defArgs s_Sky_lose) (defBody s_Sky_lose) (defScope s_Sky_lose) .none kV_Sky_lose dc_Sky_lose pm_Sky_lose an_Sky_lose cd_Sky_lose ct_Sky_lose), sl_Sky_lose⟩)
    (c_Sky_lose : PySem.W.codeIn K cd_Sky_lose "Sky._lose" = true)
    (k_Sky_lose : PySem.W.keepIn K (.ref f_Sky_lose) = true)
    (h_Sky_hear : PySem.W.findIn K (.ref A_Sky) "_hear" = some (some (.ref f_Sky_hear)))
    (i_Sky_hear : PySem.W.isFn K (.ref f_Sky_hear) = true)
    (l_Sky_hear : K.lookup f_Sky_hear = some ⟨oc_Sky_hear, od_Sky_hear, .func (PySem.W.fnOf "_hear" "Sky._hear" (defArgs s_Sky_hear) (defBody s_Sky_hear) (defScope s_Sky_hear) .none kV_Sky_hear dc_Sky_hear pm_Sky_hear an_Sky_hear cd_Sky_hear ct_Sky_hear), sl_Sky_hear⟩)
    (c_Sky_hear : PySem.W.codeIn K cd_Sky_hear "Sky._hear" = true)
    (k_Sky_hear : PySem.W.keepIn K (.ref f_Sky_hear) = true)
    (h_Sky_hear_down : PySem.W.findIn K (.ref A_Sky) "_hear_down" = some (some (.ref f_Sky_hear_down)))
    (i_Sky_hear_down : PySem.W.isFn K (.ref f_Sky_hear_down) = true)
    (l_Sky_hear_down : K.lookup f_Sky_hear_down = some ⟨oc_Sky_hear_down, od_Sky_hear_down, .func (PySem.W.fnOf "_hear_down" "Sky._hear_down" (defArgs s_Sky_hear_down) (defBody s_Sky_hear_down) (defScope s_Sky_hear_down) .none kV_Sky_hear_down dc_Sky_hear_down pm_Sky_hear_down an_Sky_hear_down cd_Sky_hear_down ct_Sky_hear_down), sl_Sky_hear_down⟩)
    (c_Sky_hear_down : PySem.W.codeIn K cd_Sky_hear_down "Sky._hear_down" = true)
    (k_Sky_hear_down : PySem.W.keepIn K (.ref f_Sky_hear_down) = true)
    (h_Sky_hear_up : PySem.W.findIn K (.ref A_Sky) "_hear_up" = some (some (.ref f_Sky_hear_up)))
    (i_Sky_hear_up : PySem.W.isFn K (.ref f_Sky_hear_up) = true)
    (l_Sky_hear_up : K.lookup f_Sky_hear_up = some ⟨oc_Sky_hear_up, od_Sky_hear_up, .func (PySem.W.fnOf "_hear_up" "Sky._hear_up" (defArgs s_Sky_hear_up) (defBody s_Sky_hear_up) (defScope s_Sky_hear_up) .none kV_Sky_hear_up dc_Sky_hear_up pm_Sky_hear_up an_Sky_hear_up cd_Sky_hear_up ct_Sky_hear_up), sl_Sky_hear_up⟩)
    (c_Sky_hear_up : PySem.W.codeIn K cd_Sky_hear_up "Sky._hear_up" = true)
    (k_Sky_hear_up : PySem.W.keepIn K (.ref f_Sky_hear_up) = true)
    (h_Sky_settle : PySem.W.findIn K (.ref A_Sky) "_settle" = some (some (.ref f_Sky_settle)))
    (i_Sky_settle : PySem.W.isFn K (.ref f_Sky_settle) = true)
    (l_Sky_settle : K.lookup f_Sky_settle = some ⟨oc_Sky_settle, od_Sky_settle, .func (PySem.W.fnOf "_settle" "Sky._settle" (defArgs s_Sky_settle) (defBody s_Sky_settle) (defScope s_Sky_settle) .none kV_Sky_settle dc_Sky_settle pm_Sky_settle an_Sky_settle cd_Sky_settle ct_Sky_settle), sl_Sky_settle⟩)
    (c_Sky_settle : PySem.W.codeIn K cd_Sky_settle "Sky._settle" = true)
    (k_Sky_settle : PySem.W.keepIn K (.ref f_Sky_settle) = true)
    (h_Sky_hear_all : PySem.W.findIn K (.ref A_Sky) "_hear_all" = some (some (.ref f_Sky_hear_all)))
    (i_Sky_hear_all : PySem.W.isFn K (.ref f_Sky_hear_all) = true)
    (l_Sky_hear_all : K.lookup f_Sky_hear_all = some ⟨oc_Sky_hear_all, od_Sky_hear_all, .func (PySem.W.fnOf "_hear_all" "Sky._hear_all" (defArgs s_Sky_hear_all) (defBody s_Sky_hear_all) (defScope s_Sky_hear_all) .none kV_Sky_hear_all dc_Sky_hear_all pm_Sky_hear_all an_Sky_hear_all cd_Sky_hear_all ct_Sky_hear_all), sl_Sky_hear_all⟩)
    (c_Sky_hear_all : PySem.W.codeIn K cd_Sky_hear_all "Sky._hear_all" = true)
    (k_Sky_hear_all : PySem.W.keepIn K (.ref f_Sky_hear_all) = true)
    (h_Sky_go_round : PySem.W.findIn K (.ref A_Sky) "_go_round" = some (some (.ref f_Sky_go_round)))
    (i_Sky_go_round : PySem.W.isFn K (.ref f_Sky_go_round) = true)
    (l_Sky_go_round : K.lookup f_Sky_go_round = some ⟨oc_Sky_go_round, od_Sky_go_round, .func (PySem.W.fnOf "_go_round" "Sky._go_round" (defArgs s_Sky_go_round) (defBody s_Sky_go_round) (defScope s_Sky_go_round) .none kV_Sky_go_round dc_Sky_go_round pm_Sky_go_round an_Sky_go_round cd_Sky_go_round ct_Sky_go_round), sl_Sky_go_round⟩)
    (c_Sky_go_round : PySem.W.codeIn K cd_Sky_go_round "Sky._go_round" = true)
    (k_Sky_go_round : PySem.W.keepIn K (.ref f_Sky_go_round) = true)
    (h_played : PySem.W.nsIn K mainGlobals "played" = some (some (.ref f_played)))
    (l_played : K.lookup f_played = some ⟨oc_played, od_played, .func (PySem.W.fnOf "played" "played" (defArgs s_played) (defBody s_played) (defScope s_played) .none kV_played dc_played pm_played an_played cd_played ct_played), sl_played⟩)
    (c_played : PySem.W.codeIn K cd_played "played" = true)
    (k_played : PySem.W.keepIn K (.ref f_played) = true)
    (h_written : PySem.W.nsIn K mainGlobals "written" = some (some (.ref f_written)))
    (l_written : K.lookup f_written = some ⟨oc_written, od_written, .func (PySem.W.fnOf "written" "written" (defArgs s_written) (defBody s_written) (defScope s_written) .none kV_written dc_written pm_written an_written cd_written ct_written), sl_written⟩)
    (c_written : PySem.W.codeIn K cd_written "written" = true)
    (k_written : PySem.W.keepIn K (.ref f_written) = true)
    (h_read : PySem.W.nsIn K mainGlobals "read" = some (some (.ref f_read)))
    (l_read : K.lookup f_read = some ⟨oc_read, od_read, .func (PySem.W.fnOf "read" "read" (defArgs s_read) (defBody s_read) (defScope s_read) .none kV_read dc_read pm_read an_read cd_read ct_read), sl_read⟩)
    (c_read : PySem.W.codeIn K cd_read "read" = true)
    (k_read : PySem.W.keepIn K (.ref f_read) = true)
    (h_row_of : PySem.W.nsIn K mainGlobals "_row_of" = some (some (.ref f_row_of)))
    (l_row_of : K.lookup f_row_of = some ⟨oc_row_of, od_row_of, .func (PySem.W.fnOf "_row_of" "_row_of" (defArgs s_row_of) (defBody s_row_of) (defScope s_row_of) .none kV_row_of dc_row_of pm_row_of an_row_of cd_row_of ct_row_of), sl_row_of⟩)
    (c_row_of : PySem.W.codeIn K cd_row_of "_row_of" = true)
    (k_row_of : PySem.W.keepIn K (.ref f_row_of) = true)
    (h_step_of : PySem.W.nsIn K mainGlobals "_step_of" = some (some (.ref f_step_of)))
    (l_step_of : K.lookup f_step_of = some ⟨oc_step_of, od_step_of, .func (PySem.W.fnOf "_step_of" "_step_of" (defArgs s_step_of) (defBody s_step_of) (defScope s_step_of) .none kV_step_of dc_step_of pm_step_of an_step_of cd_step_of ct_step_of), sl_step_of⟩)
    (c_step_of : PySem.W.codeIn K cd_step_of "_step_of" = true)
    (k_step_of : PySem.W.keepIn K (.ref f_step_of) = true)
    (h_is_written_number : PySem.W.nsIn K mainGlobals "_is_written_number" = some (some (.ref f_is_written_number)))
    (l_is_written_number : K.lookup f_is_written_number = some ⟨oc_is_written_number, od_is_written_number, .func (PySem.W.fnOf "_is_written_number" "_is_written_number" (defArgs s_is_written_number) (defBody s_is_written_number) (defScope s_is_written_number) .none kV_is_written_number dc_is_written_number pm_is_written_number an_is_written_number cd_is_written_number ct_is_written_number), sl_is_written_number⟩)
    (c_is_written_number : PySem.W.codeIn K cd_is_written_number "_is_written_number" = true)
    (k_is_written_number : PySem.W.keepIn K (.ref f_is_written_number) = true)
    (h_law_mix : PySem.W.nsIn K mainGlobals "_law_mix" = some (some (.ref f_law_mix)))
    (l_law_mix : K.lookup f_law_mix = some ⟨oc_law_mix, od_law_mix, .func (PySem.W.fnOf "_law_mix" "_law_mix" (defArgs s_law_mix) (defBody s_law_mix) (defScope s_law_mix) .none kV_law_mix dc_law_mix pm_law_mix an_law_mix cd_law_mix ct_law_mix), sl_law_mix⟩)
    (c_law_mix : PySem.W.codeIn K cd_law_mix "_law_mix" = true)
    (k_law_mix : PySem.W.keepIn K (.ref f_law_mix) = true)
    (h_law_next : PySem.W.nsIn K mainGlobals "_law_next" = some (some (.ref f_law_next)))
    (l_law_next : K.lookup f_law_next = some ⟨oc_law_next, od_law_next, .func (PySem.W.fnOf "_law_next" "_law_next" (defArgs s_law_next) (defBody s_law_next) (defScope s_law_next) .none kV_law_next dc_law_next pm_law_next an_law_next cd_law_next ct_law_next), sl_law_next⟩)
    (c_law_next : PySem.W.codeIn K cd_law_next "_law_next" = true)
    (k_law_next : PySem.W.keepIn K (.ref f_law_next) = true)
    (h_law_alike : PySem.W.nsIn K mainGlobals "_law_alike" = some (some (.ref f_law_alike)))
    (l_law_alike : K.lookup f_law_alike = some ⟨oc_law_alike, od_law_alike, .func (PySem.W.fnOf "_law_alike" "_law_alike" (defArgs s_law_alike) (defBody s_law_alike) (defScope s_law_alike) .none kV_law_alike dc_law_alike pm_law_alike an_law_alike cd_law_alike ct_law_alike), sl_law_alike⟩)
    (c_law_alike : PySem.W.codeIn K cd_law_alike "_law_alike" = true)
    (k_law_alike : PySem.W.keepIn K (.ref f_law_alike) = true)
    (h_law_data : PySem.W.nsIn K mainGlobals "_law_data" = some (some (.ref f_law_data)))
    (l_law_data : K.lookup f_law_data = some ⟨oc_law_data, od_law_data, .func (PySem.W.fnOf "_law_data" "_law_data" (defArgs s_law_data) (defBody s_law_data) (defScope s_law_data) .none kV_law_data dc_law_data pm_law_data an_law_data cd_law_data ct_law_data), sl_law_data⟩)
    (c_law_data : PySem.W.codeIn K cd_law_data "_law_data" = true)
    (k_law_data : PySem.W.keepIn K (.ref f_law_data) = true)
    (h_law_step : PySem.W.nsIn K mainGlobals "_law_step" = some (some (.ref f_law_step)))
    (l_law_step : K.lookup f_law_step = some ⟨oc_law_step, od_law_step, .func (PySem.W.fnOf "_law_step" "_law_step" (defArgs s_law_step) (defBody s_law_step) (defScope s_law_step) .none kV_law_step dc_law_step pm_law_step an_law_step cd_law_step ct_law_step), sl_law_step⟩)
    (c_law_step : PySem.W.codeIn K cd_law_step "_law_step" = true)
    (k_law_step : PySem.W.keepIn K (.ref f_law_step) = true)
    (h_law : PySem.W.nsIn K mainGlobals "law" = some (some (.ref f_law)))
    (l_law : K.lookup f_law = some ⟨oc_law, od_law, .func (PySem.W.fnOf "law" "law" (defArgs s_law) (defBody s_law) (defScope s_law) .none kV_law dc_law pm_law an_law cd_law ct_law), sl_law⟩)
    (c_law : PySem.W.codeIn K cd_law "law" = true)
    (k_law : PySem.W.keepIn K (.ref f_law) = true)
    (pg_Laying : PySem.W.plainGet K A_Laying Str.empty = true)
    (hd_Laying : PySem.W.hasDictIn K A_Laying = true)
    (po_Laying : PySem.W.plainOver K A_Laying = true)
    (sa_Laying : PySem.W.findIn K (.ref A_Laying) "__setattr__" = some (some (.builtin "object.__setattr__")))
    (mk_Laying : PySem.W.makesIn K A_Laying = true)
    (kc_Laying : PySem.W.keepIn K (.ref A_Laying) = true)
    (n_Laying_body : PySem.W.findIn K (.ref A_Laying) "_body" = some none)
    (n_Laying_count : PySem.W.findIn K (.ref A_Laying) "_count" = some none)
    (n_Laying_first : PySem.W.findIn K (.ref A_Laying) "_first" = some none)
    (n_Laying_size : PySem.W.findIn K (.ref A_Laying) "_size" = some none)
    (n_Laying_stream : PySem.W.findIn K (.ref A_Laying) "_stream" = some none)
    (n_Laying_many : PySem.W.findIn K (.ref A_Laying) "many" = some none)
    (pg_Craft : PySem.W.plainGet K A_Craft Str.empty = true)
    (hd_Craft : PySem.W.hasDictIn K A_Craft = true)
    (po_Craft : PySem.W.plainOver K A_Craft = true)
    (sa_Craft : PySem.W.findIn K (.ref A_Craft) "__setattr__" = some (some (.builtin "object.__setattr__")))
    (mk_Craft : PySem.W.makesIn K A_Craft = true)
    (kc_Craft : PySem.W.keepIn K (.ref A_Craft) = true)
    (n_Craft_asked : PySem.W.findIn K (.ref A_Craft) "_asked" = some none)
    (n_Craft_frames : PySem.W.findIn K (.ref A_Craft) "_frames" = some none)
    (n_Craft_gone : PySem.W.findIn K (.ref A_Craft) "_gone" = some none)
    (n_Craft_layings : PySem.W.findIn K (.ref A_Craft) "_layings" = some none)
    (n_Craft_room : PySem.W.findIn K (.ref A_Craft) "_room" = some none)
    (n_Craft_sent : PySem.W.findIn K (.ref A_Craft) "_sent" = some none)
    (n_Craft_window : PySem.W.findIn K (.ref A_Craft) "_window" = some none)
    (pg_Ground : PySem.W.plainGet K A_Ground Str.empty = true)
    (hd_Ground : PySem.W.hasDictIn K A_Ground = true)
    (po_Ground : PySem.W.plainOver K A_Ground = true)
    (sa_Ground : PySem.W.findIn K (.ref A_Ground) "__setattr__" = some (some (.builtin "object.__setattr__")))
    (mk_Ground : PySem.W.makesIn K A_Ground = true)
    (kc_Ground : PySem.W.keepIn K (.ref A_Ground) = true)
    (n_Ground_came : PySem.W.findIn K (.ref A_Ground) "_came" = some none)
    (n_Ground_never : PySem.W.findIn K (.ref A_Ground) "_never" = some none)
    (n_Ground_size : PySem.W.findIn K (.ref A_Ground) "_size" = some none)
    (pg_Sky : PySem.W.plainGet K A_Sky Str.empty = true)
    (hd_Sky : PySem.W.hasDictIn K A_Sky = true)
    (po_Sky : PySem.W.plainOver K A_Sky = true)
    (sa_Sky : PySem.W.findIn K (.ref A_Sky) "__setattr__" = some (some (.builtin "object.__setattr__")))
    (mk_Sky : PySem.W.makesIn K A_Sky = true)
    (kc_Sky : PySem.W.keepIn K (.ref A_Sky) = true)
    (n_Sky_craft : PySem.W.findIn K (.ref A_Sky) "_craft" = some none)
    (n_Sky_entries : PySem.W.findIn K (.ref A_Sky) "_entries" = some none)
    (n_Sky_ground : PySem.W.findIn K (.ref A_Sky) "_ground" = some none)
    (n_Sky_roads : PySem.W.findIn K (.ref A_Sky) "_roads" = some none)
    (z_all : PySem.W.nsIn K mainGlobals "all" = some none)
    (z_bool : PySem.W.nsIn K mainGlobals "bool" = some none)
    (z_enumerate : PySem.W.nsIn K mainGlobals "enumerate" = some none)
    (z_int : PySem.W.nsIn K mainGlobals "int" = some none)
    (z_isinstance : PySem.W.nsIn K mainGlobals "isinstance" = some none)
    (z_len : PySem.W.nsIn K mainGlobals "len" = some none)
    (z_list : PySem.W.nsIn K mainGlobals "list" = some none)
    (z_max : PySem.W.nsIn K mainGlobals "max" = some none)
    (z_range : PySem.W.nsIn K mainGlobals "range" = some none)
    (z_sorted : PySem.W.nsIn K mainGlobals "sorted" = some none)
    (z_str : PySem.W.nsIn K mainGlobals "str" = some none)
    (z_tuple : PySem.W.nsIn K mainGlobals "tuple" = some none)
    (c_STREAMS : PySem.W.nsIn K mainGlobals "STREAMS" = some (some (.int 4 t_STREAMS)))
    (c_MOST_NUMBERS : PySem.W.nsIn K mainGlobals "MOST_NUMBERS" = some (some (.int 20 t_MOST_NUMBERS)))
    (c_LEAST_SIZE : PySem.W.nsIn K mainGlobals "LEAST_SIZE" = some (some (.int 8 t_LEAST_SIZE)))
    (c_MOST_SIZE : PySem.W.nsIn K mainGlobals "MOST_SIZE" = some (some (.int 24 t_MOST_SIZE)))
    (c_MOST_ROOM : PySem.W.nsIn K mainGlobals "MOST_ROOM" = some (some (.int 60 t_MOST_ROOM)))
    (c_MOST_COUNT : PySem.W.nsIn K mainGlobals "MOST_COUNT" = some (some (.int 9999 t_MOST_COUNT)))
    (c_HEAD : PySem.W.nsIn K mainGlobals "HEAD" = some (some (.int 3 t_HEAD)))
    (c_HUNDRED : PySem.W.nsIn K mainGlobals "HUNDRED" = some (some (.int 256 t_HUNDRED)))
    (c_BARE : PySem.W.nsIn K mainGlobals "BARE" = some (some (.ref A_BARE)))
    (q_BARE : K.lookup A_BARE = some ⟨.type "tuple", td_BARE, .seq #[.str "begin" t_BARE_0, .str "shut" t_BARE_1, .str "beat" t_BARE_2, .str "ask" t_BARE_3, .str "settle" t_BARE_4] tn_BARE, ts_BARE⟩)
    (c_LETTERS : PySem.W.nsIn K mainGlobals "LETTERS" = some (some (.ref A_LETTERS)))
    (q_LETTERS : K.lookup A_LETTERS = some ⟨.type "tuple", td_LETTERS, .seq #[.str "hear" t_LETTERS_0, .str "lose" t_LETTERS_1, .str "twice" t_LETTERS_2] tn_LETTERS, ts_LETTERS⟩)
    (c_WAYS : PySem.W.nsIn K mainGlobals "WAYS" = some (some (.ref A_WAYS)))
    (q_WAYS : K.lookup A_WAYS = some ⟨.type "tuple", td_WAYS, .seq #[.str "down" t_WAYS_0, .str "up" t_WAYS_1] tn_WAYS, ts_WAYS⟩)
    (c_MOST_FIGURES : PySem.W.nsIn K mainGlobals "MOST_FIGURES" = some (some (.int 3 t_MOST_FIGURES)))
    (hA_BadStream : PySem.W.nsIn K mainGlobals "BadStream" = some (some (.ref A_BadStream)))
    (qx_BadStream : PySem.W.excIn K A_BadStream [.type "ValueError", .type "Exception", .type "BaseException", .type "object"] "ValueError.__new__" = true)
    (kx_BadStream : PySem.W.keepIn K (.ref A_BadStream) = true)
    (sx_BadStream : PySem.W.subIn K (.ref A_BadStream) (.type "BaseException") = some true)
    (tx_BadStream : PySem.W.typeIn K (.ref A_BadStream) = some (.type "type"))
    (hA_BadData : PySem.W.nsIn K mainGlobals "BadData" = some (some (.ref A_BadData)))
    (qx_BadData : PySem.W.excIn K A_BadData [.type "ValueError", .type "Exception", .type "BaseException", .type "object"] "ValueError.__new__" = true)
    (kx_BadData : PySem.W.keepIn K (.ref A_BadData) = true)
    (sx_BadData : PySem.W.subIn K (.ref A_BadData) (.type "BaseException") = some true)
    (tx_BadData : PySem.W.typeIn K (.ref A_BadData) = some (.type "type"))
    (hA_SkyError : PySem.W.nsIn K mainGlobals "SkyError" = some (some (.ref A_SkyError)))
    (sx_SkyError : PySem.W.subIn K (.ref A_SkyError) (.type "BaseException") = some true)
    (hx_SkyError : PySem.W.hasDictIn K A_SkyError = true)
    (tx_SkyError : PySem.W.typeIn K (.ref A_SkyError) = some (.type "type"))
    (xx_BadStream : PySem.W.subIn K (.ref A_BadStream) (.ref A_SkyError) = some true)
    (xx_BadData : PySem.W.subIn K (.ref A_BadData) (.ref A_SkyError) = some true)
    : Tx K mg where
  A_Laying := A_Laying
  A_Craft := A_Craft
  A_Ground := A_Ground
  A_Sky := A_Sky
  a_is_number := f_is_number
  d_is_number := PySem.W.fnOf "is_number" "is_number" (defArgs s_is_number) (defBody s_is_number) (defScope s_is_number) .none kV_is_number dc_is_number pm_is_number an_is_number cd_is_number ct_is_number
  F_is_number := fun_mk (st := s_is_number) l_is_number c_is_number k_is_number
  b_is_number := (fun_mk (st := s_is_number) l_is_number c_is_number k_is_number).binds (ps := ["value", "low", "high"]) fun _ _ _ _ _ _ us hl => match us, hl with | [_, _, _], _ => rfl
  m_is_number := PySem.W.mg_of X G h_is_number
  a_is_stream := f_is_stream
  d_is_stream := PySem.W.fnOf "is_stream" "is_stream" (defArgs s_is_stream) (defBody s_is_stream) (defScope s_is_stream) .none kV_is_stream dc_is_stream pm_is_stream an_is_stream cd_is_stream ct_is_stream
  F_is_stream := fun_mk (st := s_is_stream) l_is_stream c_is_stream k_is_stream
  b_is_stream := (fun_mk (st := s_is_stream) l_is_stream c_is_stream k_is_stream).binds (ps := ["value"]) fun _ _ _ _ _ _ us hl => match us, hl with | [_], _ => rfl
  m_is_stream := PySem.W.mg_of X G h_is_stream
  a_holds_numbers := f_holds_numbers
  d_holds_numbers := PySem.W.fnOf "holds_numbers" "holds_numbers" (defArgs s_holds_numbers) (defBody s_holds_numbers) (defScope s_holds_numbers) .none kV_holds_numbers dc_holds_numbers pm_holds_numbers an_holds_numbers cd_holds_numbers ct_holds_numbers
  F_holds_numbers := fun_mk (st := s_holds_numbers) l_holds_numbers c_holds_numbers k_holds_numbers
  b_holds_numbers := (fun_mk (st := s_holds_numbers) l_holds_numbers c_holds_numbers k_holds_numbers).binds (ps := ["value"]) fun _ _ _ _ _ _ us hl => match us, hl with | [_], _ => rfl
  m_holds_numbers := PySem.W.mg_of X G h_holds_numbers
  a_is_telling := f_is_telling
  d_is_telling := PySem.W.fnOf "is_telling" "is_telling" (defArgs s_is_telling) (defBody s_is_telling) (defScope s_is_telling) .none kV_is_telling dc_is_telling pm_is_telling an_is_telling cd_is_telling ct_is_telling
  F_is_telling := fun_mk (st := s_is_telling) l_is_telling c_is_telling k_is_telling
  b_is_telling := (fun_mk (st := s_is_telling) l_is_telling c_is_telling k_is_telling).binds (ps := ["value"]) fun _ _ _ _ _ _ us hl => match us, hl with | [_], _ => rfl
  m_is_telling := PySem.W.mg_of X G h_is_telling
  a_is_mark := f_is_mark
  d_is_mark := PySem.W.fnOf "is_mark" "is_mark" (defArgs s_is_mark) (defBody s_is_mark) (defScope s_is_mark) .none kV_is_mark dc_is_mark pm_is_mark an_is_mark cd_is_mark ct_is_mark
  F_is_mark := fun_mk (st := s_is_mark) l_is_mark c_is_mark k_is_mark
  b_is_mark := (fun_mk (st := s_is_mark) l_is_mark c_is_mark k_is_mark).binds (ps := ["value"]) fun _ _ _ _ _ _ us hl => match us, hl with | [_], _ => rfl
  m_is_mark := PySem.W.mg_of X G h_is_mark
  a_is_frame := f_is_frame
  d_is_frame := PySem.W.fnOf "is_frame" "is_frame" (defArgs s_is_frame) (defBody s_is_frame) (defScope s_is_frame) .none kV_is_frame dc_is_frame pm_is_frame an_is_frame cd_is_frame ct_is_frame
  F_is_frame := fun_mk (st := s_is_frame) l_is_frame c_is_frame k_is_frame
  b_is_frame := (fun_mk (st := s_is_frame) l_is_frame c_is_frame k_is_frame).binds (ps := ["value", "size"]) fun _ _ _ _ _ _ us hl => match us, hl with | [_, _], _ => rfl
  m_is_frame := PySem.W.mg_of X G h_is_frame
  a_check_stream := f_check_stream
  d_check_stream := PySem.W.fnOf "check_stream" "check_stream" (defArgs s_check_stream) (defBody s_check_stream) (defScope s_check_stream) .none kV_check_stream dc_check_stream pm_check_stream an_check_stream cd_check_stream ct_check_stream
  F_check_stream := fun_mk (st := s_check_stream) l_check_stream c_check_stream k_check_stream
  b_check_stream := (fun_mk (st := s_check_stream) l_check_stream c_check_stream k_check_stream).binds (ps := ["stream"]) fun _ _ _ _ _ _ us hl => match us, hl with | [_], _ => rfl
  m_check_stream := PySem.W.mg_of X G h_check_stream
  a_check_telling := f_check_telling
  d_check_telling := PySem.W.fnOf "check_telling" "check_telling" (defArgs s_check_telling) (defBody s_check_telling) (defScope s_check_telling) .none kV_check_telling dc_check_telling pm_check_telling an_check_telling cd_check_telling ct_check_telling
  F_check_telling := fun_mk (st := s_check_telling) l_check_telling c_check_telling k_check_telling
  b_check_telling := (fun_mk (st := s_check_telling) l_check_telling c_check_telling k_check_telling).binds (ps := ["telling"]) fun _ _ _ _ _ _ us hl => match us, hl with | [_], _ => rfl
  m_check_telling := PySem.W.mg_of X G h_check_telling
  a_check_size := f_check_size
  d_check_size := PySem.W.fnOf "check_size" "check_size" (defArgs s_check_size) (defBody s_check_size) (defScope s_check_size) .none kV_check_size dc_check_size pm_check_size an_check_size cd_check_size ct_check_size
  F_check_size := fun_mk (st := s_check_size) l_check_size c_check_size k_check_size
  b_check_size := (fun_mk (st := s_check_size) l_check_size c_check_size k_check_size).binds (ps := ["size"]) fun _ _ _ _ _ _ us hl => match us, hl with | [_], _ => rfl
  m_check_size := PySem.W.mg_of X G h_check_size
  a_check_room := f_check_room
  d_check_room := PySem.W.fnOf "check_room" "check_room" (defArgs s_check_room) (defBody s_check_room) (defScope s_check_room) .none kV_check_room dc_check_room pm_check_room an_check_room cd_check_room ct_check_room
  F_check_room := fun_mk (st := s_check_room) l_check_room c_check_room k_check_room
  b_check_room := (fun_mk (st := s_check_room) l_check_room c_check_room k_check_room).binds (ps := ["room"]) fun _ _ _ _ _ _ us hl => match us, hl with | [_], _ => rfl
  m_check_room := PySem.W.mg_of X G h_check_room
  a_check_marks := f_check_marks
  d_check_marks := PySem.W.fnOf "check_marks" "check_marks" (defArgs s_check_marks) (defBody s_check_marks) (defScope s_check_marks) .none kV_check_marks dc_check_marks pm_check_marks an_check_marks cd_check_marks ct_check_marks
  F_check_marks := fun_mk (st := s_check_marks) l_check_marks c_check_marks k_check_marks
  b_check_marks := (fun_mk (st := s_check_marks) l_check_marks c_check_marks k_check_marks).binds (ps := ["marks"]) fun _ _ _ _ _ _ us hl => match us, hl with | [_], _ => rfl
  m_check_marks := PySem.W.mg_of X G h_check_marks
  a_Laying_init := f_Laying_init
  d_Laying_init := PySem.W.fnOf "__init__" "Laying.__init__" (defArgs s_Laying_init) (defBody s_Laying_init) (defScope s_Laying_init) .none kV_Laying_init dc_Laying_init pm_Laying_init an_Laying_init cd_Laying_init ct_Laying_init
  F_Laying_init := fun_mk (st := s_Laying_init) l_Laying_init c_Laying_init k_Laying_init
  b_Laying_init := (fun_mk (st := s_Laying_init) l_Laying_init c_Laying_init k_Laying_init).binds (ps := ["self", "stream", "size"]) fun _ _ _ _ _ _ us hl => match us, hl with | [_, _, _], _ => rfl
  a_Laying_lay := f_Laying_lay
  d_Laying_lay := PySem.W.fnOf "lay" "Laying.lay" (defArgs s_Laying_lay) (defBody s_Laying_lay) (defScope s_Laying_lay) .none kV_Laying_lay dc_Laying_lay pm_Laying_lay an_Laying_lay cd_Laying_lay ct_Laying_lay
  F_Laying_lay := fun_mk (st := s_Laying_lay) l_Laying_lay c_Laying_lay k_Laying_lay
  b_Laying_lay := (fun_mk (st := s_Laying_lay) l_Laying_lay c_Laying_lay k_Laying_lay).binds (ps := ["self", "telling"]) fun _ _ _ _ _ _ us hl => match us, hl with | [_, _], _ => rfl
  M_Laying_lay := ⟨h_Laying_lay, i_Laying_lay, k_Laying_lay⟩
  a_Laying_fill := f_Laying_fill
  d_Laying_fill := PySem.W.fnOf "fill" "Laying.fill" (defArgs s_Laying_fill) (defBody s_Laying_fill) (defScope s_Laying_fill) .none kV_Laying_fill dc_Laying_fill pm_Laying_fill an_Laying_fill cd_Laying_fill ct_Laying_fill
  F_Laying_fill := fun_mk (st := s_Laying_fill) l_Laying_fill c_Laying_fill k_Laying_fill
  b_Laying_fill := (fun_mk (st := s_Laying_fill) l_Laying_fill c_Laying_fill k_Laying_fill).binds (ps := ["self"]) fun _ _ _ _ _ _ us hl => match us, hl with | [_], _ => rfl
  M_Laying_fill := ⟨h_Laying_fill, i_Laying_fill, k_Laying_fill⟩
  a_Laying_done := f_Laying_done
  d_Laying_done := PySem.W.fnOf "_done" "Laying._done" (defArgs s_Laying_done) (defBody s_Laying_done) (defScope s_Laying_done) .none kV_Laying_done dc_Laying_done pm_Laying_done an_Laying_done cd_Laying_done ct_Laying_done
  F_Laying_done := fun_mk (st := s_Laying_done) l_Laying_done c_Laying_done k_Laying_done
  b_Laying_done := (fun_mk (st := s_Laying_done) l_Laying_done c_Laying_done k_Laying_done).binds (ps := ["self"]) fun _ _ _ _ _ _ us hl => match us, hl with | [_], _ => rfl
  M_Laying_done := ⟨h_Laying_done, i_Laying_done, k_Laying_done⟩
  a_Craft_init := f_Craft_init
  d_Craft_init := PySem.W.fnOf "__init__" "Craft.__init__" (defArgs s_Craft_init) (defBody s_Craft_init) (defScope s_Craft_init) .none kV_Craft_init dc_Craft_init pm_Craft_init an_Craft_init cd_Craft_init ct_Craft_init
  F_Craft_init := fun_mk (st := s_Craft_init) l_Craft_init c_Craft_init k_Craft_init
  b_Craft_init := (fun_mk (st := s_Craft_init) l_Craft_init c_Craft_init k_Craft_init).binds (ps := ["self", "size", "room"]) fun _ _ _ _ _ _ us hl => match us, hl with | [_, _, _], _ => rfl
  a_Craft_tell := f_Craft_tell
  d_Craft_tell := PySem.W.fnOf "tell" "Craft.tell" (defArgs s_Craft_tell) (defBody s_Craft_tell) (defScope s_Craft_tell) .none kV_Craft_tell dc_Craft_tell pm_Craft_tell an_Craft_tell cd_Craft_tell ct_Craft_tell
  F_Craft_tell := fun_mk (st := s_Craft_tell) l_Craft_tell c_Craft_tell k_Craft_tell
  b_Craft_tell := (fun_mk (st := s_Craft_tell) l_Craft_tell c_Craft_tell k_Craft_tell).binds (ps := ["self", "stream", "data"]) fun _ _ _ _ _ _ us hl => match us, hl with | [_, _, _], _ => rfl
  M_Craft_tell := ⟨h_Craft_tell, i_Craft_tell, k_Craft_tell⟩
  a_Craft_close := f_Craft_close
  d_Craft_close := PySem.W.fnOf "close" "Craft.close" (defArgs s_Craft_close) (defBody s_Craft_close) (defScope s_Craft_close) .none kV_Craft_close dc_Craft_close pm_Craft_close an_Craft_close cd_Craft_close ct_Craft_close
  F_Craft_close := fun_mk (st := s_Craft_close) l_Craft_close c_Craft_close k_Craft_close
  b_Craft_close := (fun_mk (st := s_Craft_close) l_Craft_close c_Craft_close k_Craft_close).binds (ps := ["self", "stream"]) fun _ _ _ _ _ _ us hl => match us, hl with | [_, _], _ => rfl
  M_Craft_close := ⟨h_Craft_close, i_Craft_close, k_Craft_close⟩
  a_Craft_begin := f_Craft_begin
  d_Craft_begin := PySem.W.fnOf "begin" "Craft.begin" (defArgs s_Craft_begin) (defBody s_Craft_begin) (defScope s_Craft_begin) .none kV_Craft_begin dc_Craft_begin pm_Craft_begin an_Craft_begin cd_Craft_begin ct_Craft_begin
  F_Craft_begin := fun_mk (st := s_Craft_begin) l_Craft_begin c_Craft_begin k_Craft_begin
  b_Craft_begin := (fun_mk (st := s_Craft_begin) l_Craft_begin c_Craft_begin k_Craft_begin).binds (ps := ["self"]) fun _ _ _ _ _ _ us hl => match us, hl with | [_], _ => rfl
  M_Craft_begin := ⟨h_Craft_begin, i_Craft_begin, k_Craft_begin⟩
  a_Craft_shut := f_Craft_shut
  d_Craft_shut := PySem.W.fnOf "shut" "Craft.shut" (defArgs s_Craft_shut) (defBody s_Craft_shut) (defScope s_Craft_shut) .none kV_Craft_shut dc_Craft_shut pm_Craft_shut an_Craft_shut cd_Craft_shut ct_Craft_shut
  F_Craft_shut := fun_mk (st := s_Craft_shut) l_Craft_shut c_Craft_shut k_Craft_shut
  b_Craft_shut := (fun_mk (st := s_Craft_shut) l_Craft_shut c_Craft_shut k_Craft_shut).binds (ps := ["self"]) fun _ _ _ _ _ _ us hl => match us, hl with | [_], _ => rfl
  M_Craft_shut := ⟨h_Craft_shut, i_Craft_shut, k_Craft_shut⟩
  a_Craft_beat := f_Craft_beat
  d_Craft_beat := PySem.W.fnOf "beat" "Craft.beat" (defArgs s_Craft_beat) (defBody s_Craft_beat) (defScope s_Craft_beat) .none kV_Craft_beat dc_Craft_beat pm_Craft_beat an_Craft_beat cd_Craft_beat ct_Craft_beat
  F_Craft_beat := fun_mk (st := s_Craft_beat) l_Craft_beat c_Craft_beat k_Craft_beat
  b_Craft_beat := (fun_mk (st := s_Craft_beat) l_Craft_beat c_Craft_beat k_Craft_beat).binds (ps := ["self"]) fun _ _ _ _ _ _ us hl => match us, hl with | [_], _ => rfl
  M_Craft_beat := ⟨h_Craft_beat, i_Craft_beat, k_Craft_beat⟩
  a_Craft_known := f_Craft_known
  d_Craft_known := PySem.W.fnOf "known" "Craft.known" (defArgs s_Craft_known) (defBody s_Craft_known) (defScope s_Craft_known) .none kV_Craft_known dc_Craft_known pm_Craft_known an_Craft_known cd_Craft_known ct_Craft_known
  F_Craft_known := fun_mk (st := s_Craft_known) l_Craft_known c_Craft_known k_Craft_known
  b_Craft_known := (fun_mk (st := s_Craft_known) l_Craft_known c_Craft_known k_Craft_known).binds (ps := ["self", "marks"]) fun _ _ _ _ _ _ us hl => match us, hl with | [_, _], _ => rfl
  M_Craft_known := ⟨h_Craft_known, i_Craft_known, k_Craft_known⟩
  a_Craft_again := f_Craft_again
  d_Craft_again := PySem.W.fnOf "again" "Craft.again" (defArgs s_Craft_again) (defBody s_Craft_again) (defScope s_Craft_again) .none kV_Craft_again dc_Craft_again pm_Craft_again an_Craft_again cd_Craft_again ct_Craft_again
  F_Craft_again := fun_mk (st := s_Craft_again) l_Craft_again c_Craft_again k_Craft_again
  b_Craft_again := (fun_mk (st := s_Craft_again) l_Craft_again c_Craft_again k_Craft_again).binds (ps := ["self", "marks"]) fun _ _ _ _ _ _ us hl => match us, hl with | [_, _], _ => rfl
  M_Craft_again := ⟨h_Craft_again, i_Craft_again, k_Craft_again⟩
  a_Craft_kept := f_Craft_kept
  d_Craft_kept := PySem.W.fnOf "kept" "Craft.kept" (defArgs s_Craft_kept) (defBody s_Craft_kept) (defScope s_Craft_kept) .none kV_Craft_kept dc_Craft_kept pm_Craft_kept an_Craft_kept cd_Craft_kept ct_Craft_kept
  F_Craft_kept := fun_mk (st := s_Craft_kept) l_Craft_kept c_Craft_kept k_Craft_kept
  b_Craft_kept := (fun_mk (st := s_Craft_kept) l_Craft_kept c_Craft_kept k_Craft_kept).binds (ps := ["self"]) fun _ _ _ _ _ _ us hl => match us, hl with | [_], _ => rfl
  M_Craft_kept := ⟨h_Craft_kept, i_Craft_kept, k_Craft_kept⟩
  a_Craft_lost := f_Craft_lost
  d_Craft_lost := PySem.W.fnOf "lost" "Craft.lost" (defArgs s_Craft_lost) (defBody s_Craft_lost) (defScope s_Craft_lost) .none kV_Craft_lost dc_Craft_lost pm_Craft_lost an_Craft_lost cd_Craft_lost ct_Craft_lost
  F_Craft_lost := fun_mk (st := s_Craft_lost) l_Craft_lost c_Craft_lost k_Craft_lost
  b_Craft_lost := (fun_mk (st := s_Craft_lost) l_Craft_lost c_Craft_lost k_Craft_lost).binds (ps := ["self"]) fun _ _ _ _ _ _ us hl => match us, hl with | [_], _ => rfl
  M_Craft_lost := ⟨h_Craft_lost, i_Craft_lost, k_Craft_lost⟩
  a_Craft_next_mark := f_Craft_next_mark
  d_Craft_next_mark := PySem.W.fnOf "_next_mark" "Craft._next_mark" (defArgs s_Craft_next_mark) (defBody s_Craft_next_mark) (defScope s_Craft_next_mark) .none kV_Craft_next_mark dc_Craft_next_mark pm_Craft_next_mark an_Craft_next_mark cd_Craft_next_mark ct_Craft_next_mark
  F_Craft_next_mark := fun_mk (st := s_Craft_next_mark) l_Craft_next_mark c_Craft_next_mark k_Craft_next_mark
  b_Craft_next_mark := (fun_mk (st := s_Craft_next_mark) l_Craft_next_mark c_Craft_next_mark k_Craft_next_mark).binds (ps := ["self"]) fun _ _ _ _ _ _ us hl => match us, hl with | [_], _ => rfl
  M_Craft_next_mark := ⟨h_Craft_next_mark, i_Craft_next_mark, k_Craft_next_mark⟩
  a_Craft_keep := f_Craft_keep
  d_Craft_keep := PySem.W.fnOf "_keep" "Craft._keep" (defArgs s_Craft_keep) (defBody s_Craft_keep) (defScope s_Craft_keep) .none kV_Craft_keep dc_Craft_keep pm_Craft_keep an_Craft_keep cd_Craft_keep ct_Craft_keep
  F_Craft_keep := fun_mk (st := s_Craft_keep) l_Craft_keep c_Craft_keep k_Craft_keep
  b_Craft_keep := (fun_mk (st := s_Craft_keep) l_Craft_keep c_Craft_keep k_Craft_keep).binds (ps := ["self", "frame"]) fun _ _ _ _ _ _ us hl => match us, hl with | [_, _], _ => rfl
  M_Craft_keep := ⟨h_Craft_keep, i_Craft_keep, k_Craft_keep⟩
  a_Craft_make_room := f_Craft_make_room
  d_Craft_make_room := PySem.W.fnOf "_make_room" "Craft._make_room" (defArgs s_Craft_make_room) (defBody s_Craft_make_room) (defScope s_Craft_make_room) .none kV_Craft_make_room dc_Craft_make_room pm_Craft_make_room an_Craft_make_room cd_Craft_make_room ct_Craft_make_room
  F_Craft_make_room := fun_mk (st := s_Craft_make_room) l_Craft_make_room c_Craft_make_room k_Craft_make_room
  b_Craft_make_room := (fun_mk (st := s_Craft_make_room) l_Craft_make_room c_Craft_make_room k_Craft_make_room).binds (ps := ["self"]) fun _ _ _ _ _ _ us hl => match us, hl with | [_], _ => rfl
  M_Craft_make_room := ⟨h_Craft_make_room, i_Craft_make_room, k_Craft_make_room⟩
  a_Craft_let_go := f_Craft_let_go
  d_Craft_let_go := PySem.W.fnOf "_let_go" "Craft._let_go" (defArgs s_Craft_let_go) (defBody s_Craft_let_go) (defScope s_Craft_let_go) .none kV_Craft_let_go dc_Craft_let_go pm_Craft_let_go an_Craft_let_go cd_Craft_let_go ct_Craft_let_go
  F_Craft_let_go := fun_mk (st := s_Craft_let_go) l_Craft_let_go c_Craft_let_go k_Craft_let_go
  b_Craft_let_go := (fun_mk (st := s_Craft_let_go) l_Craft_let_go c_Craft_let_go k_Craft_let_go).binds (ps := ["self", "mark"]) fun _ _ _ _ _ _ us hl => match us, hl with | [_, _], _ => rfl
  M_Craft_let_go := ⟨h_Craft_let_go, i_Craft_let_go, k_Craft_let_go⟩
  a_rows_of := f_rows_of
  d_rows_of := PySem.W.fnOf "rows_of" "rows_of" (defArgs s_rows_of) (defBody s_rows_of) (defScope s_rows_of) .none kV_rows_of dc_rows_of pm_rows_of an_rows_of cd_rows_of ct_rows_of
  F_rows_of := fun_mk (st := s_rows_of) l_rows_of c_rows_of k_rows_of
  b_rows_of := (fun_mk (st := s_rows_of) l_rows_of c_rows_of k_rows_of).binds (ps := ["frames", "size"]) fun _ _ _ _ _ _ us hl => match us, hl with | [_, _], _ => rfl
  m_rows_of := PySem.W.mg_of X G h_rows_of
  a_check_frames := f_check_frames
  d_check_frames := PySem.W.fnOf "_check_frames" "_check_frames" (defArgs s_check_frames) (defBody s_check_frames) (defScope s_check_frames) .none kV_check_frames dc_check_frames pm_check_frames an_check_frames cd_check_frames ct_check_frames
  F_check_frames := fun_mk (st := s_check_frames) l_check_frames c_check_frames k_check_frames
  b_check_frames := (fun_mk (st := s_check_frames) l_check_frames c_check_frames k_check_frames).binds (ps := ["frames", "size"]) fun _ _ _ _ _ _ us hl => match us, hl with | [_, _], _ => rfl
  m_check_frames := PySem.W.mg_of X G h_check_frames
  a_told_in := f_told_in
  d_told_in := PySem.W.fnOf "_told_in" "_told_in" (defArgs s_told_in) (defBody s_told_in) (defScope s_told_in) .none kV_told_in dc_told_in pm_told_in an_told_in cd_told_in ct_told_in
  F_told_in := fun_mk (st := s_told_in) l_told_in c_told_in k_told_in
  b_told_in := (fun_mk (st := s_told_in) l_told_in c_told_in k_told_in).binds (ps := ["frames", "size"]) fun _ _ _ _ _ _ us hl => match us, hl with | [_, _], _ => rfl
  m_told_in := PySem.W.mg_of X G h_told_in
  a_beginnings := f_beginnings
  d_beginnings := PySem.W.fnOf "_beginnings" "_beginnings" (defArgs s_beginnings) (defBody s_beginnings) (defScope s_beginnings) .none kV_beginnings dc_beginnings pm_beginnings an_beginnings cd_beginnings ct_beginnings
  F_beginnings := fun_mk (st := s_beginnings) l_beginnings c_beginnings k_beginnings
  b_beginnings := (fun_mk (st := s_beginnings) l_beginnings c_beginnings k_beginnings).binds (ps := ["frame", "size"]) fun _ _ _ _ _ _ us hl => match us, hl with | [_, _], _ => rfl
  m_beginnings := PySem.W.mg_of X G h_beginnings
  a_laid_at := f_laid_at
  d_laid_at := PySem.W.fnOf "_laid_at" "_laid_at" (defArgs s_laid_at) (defBody s_laid_at) (defScope s_laid_at) .none kV_laid_at dc_laid_at pm_laid_at an_laid_at cd_laid_at ct_laid_at
  F_laid_at := fun_mk (st := s_laid_at) l_laid_at c_laid_at k_laid_at
  b_laid_at := (fun_mk (st := s_laid_at) l_laid_at c_laid_at k_laid_at).binds (ps := ["bodies", "place", "size"]) fun _ _ _ _ _ _ us hl => match us, hl with | [_, _, _], _ => rfl
  m_laid_at := PySem.W.mg_of X G h_laid_at
  a_Ground_init := f_Ground_init
  d_Ground_init := PySem.W.fnOf "__init__" "Ground.__init__" (defArgs s_Ground_init) (defBody s_Ground_init) (defScope s_Ground_init) .none kV_Ground_init dc_Ground_init pm_Ground_init an_Ground_init cd_Ground_init ct_Ground_init
  F_Ground_init := fun_mk (st := s_Ground_init) l_Ground_init c_Ground_init k_Ground_init
  b_Ground_init := (fun_mk (st := s_Ground_init) l_Ground_init c_Ground_init k_Ground_init).binds (ps := ["self", "size"]) fun _ _ _ _ _ _ us hl => match us, hl with | [_, _], _ => rfl
  a_Ground_hear := f_Ground_hear
  d_Ground_hear := PySem.W.fnOf "hear" "Ground.hear" (defArgs s_Ground_hear) (defBody s_Ground_hear) (defScope s_Ground_hear) .none kV_Ground_hear dc_Ground_hear pm_Ground_hear an_Ground_hear cd_Ground_hear ct_Ground_hear
  F_Ground_hear := fun_mk (st := s_Ground_hear) l_Ground_hear c_Ground_hear k_Ground_hear
  b_Ground_hear := (fun_mk (st := s_Ground_hear) l_Ground_hear c_Ground_hear k_Ground_hear).binds (ps := ["self", "frame"]) fun _ _ _ _ _ _ us hl => match us, hl with | [_, _], _ => rfl
  M_Ground_hear := ⟨h_Ground_hear, i_Ground_hear, k_Ground_hear⟩
  a_Ground_never := f_Ground_never
  d_Ground_never := PySem.W.fnOf "never" "Ground.never" (defArgs s_Ground_never) (defBody s_Ground_never) (defScope s_Ground_never) .none kV_Ground_never dc_Ground_never pm_Ground_never an_Ground_never cd_Ground_never ct_Ground_never
  F_Ground_never := fun_mk (st := s_Ground_never) l_Ground_never c_Ground_never k_Ground_never
  b_Ground_never := (fun_mk (st := s_Ground_never) l_Ground_never c_Ground_never k_Ground_never).binds (ps := ["self", "marks"]) fun _ _ _ _ _ _ us hl => match us, hl with | [_, _], _ => rfl
  M_Ground_never := ⟨h_Ground_never, i_Ground_never, k_Ground_never⟩
  a_Ground_rows := f_Ground_rows
  d_Ground_rows := PySem.W.fnOf "rows" "Ground.rows" (defArgs s_Ground_rows) (defBody s_Ground_rows) (defScope s_Ground_rows) .none kV_Ground_rows dc_Ground_rows pm_Ground_rows an_Ground_rows cd_Ground_rows ct_Ground_rows
  F_Ground_rows := fun_mk (st := s_Ground_rows) l_Ground_rows c_Ground_rows k_Ground_rows
  b_Ground_rows := (fun_mk (st := s_Ground_rows) l_Ground_rows c_Ground_rows k_Ground_rows).binds (ps := ["self", "stream"]) fun _ _ _ _ _ _ us hl => match us, hl with | [_, _], _ => rfl
  M_Ground_rows := ⟨h_Ground_rows, i_Ground_rows, k_Ground_rows⟩
  a_Ground_has := f_Ground_has
  d_Ground_has := PySem.W.fnOf "has" "Ground.has" (defArgs s_Ground_has) (defBody s_Ground_has) (defScope s_Ground_has) .none kV_Ground_has dc_Ground_has pm_Ground_has an_Ground_has cd_Ground_has ct_Ground_has
  F_Ground_has := fun_mk (st := s_Ground_has) l_Ground_has c_Ground_has k_Ground_has
  b_Ground_has := (fun_mk (st := s_Ground_has) l_Ground_has c_Ground_has k_Ground_has).binds (ps := ["self"]) fun _ _ _ _ _ _ us hl => match us, hl with | [_], _ => rfl
  M_Ground_has := ⟨h_Ground_has, i_Ground_has, k_Ground_has⟩
  a_Ground_wants := f_Ground_wants
  d_Ground_wants := PySem.W.fnOf "wants" "Ground.wants" (defArgs s_Ground_wants) (defBody s_Ground_wants) (defScope s_Ground_wants) .none kV_Ground_wants dc_Ground_wants pm_Ground_wants an_Ground_wants cd_Ground_wants ct_Ground_wants
  F_Ground_wants := fun_mk (st := s_Ground_wants) l_Ground_wants c_Ground_wants k_Ground_wants
  b_Ground_wants := (fun_mk (st := s_Ground_wants) l_Ground_wants c_Ground_wants k_Ground_wants).binds (ps := ["self"]) fun _ _ _ _ _ _ us hl => match us, hl with | [_], _ => rfl
  M_Ground_wants := ⟨h_Ground_wants, i_Ground_wants, k_Ground_wants⟩
  a_Sky_init := f_Sky_init
  d_Sky_init := PySem.W.fnOf "__init__" "Sky.__init__" (defArgs s_Sky_init) (defBody s_Sky_init) (defScope s_Sky_init) .none kV_Sky_init dc_Sky_init pm_Sky_init an_Sky_init cd_Sky_init ct_Sky_init
  F_Sky_init := fun_mk (st := s_Sky_init) l_Sky_init c_Sky_init k_Sky_init
  b_Sky_init := (fun_mk (st := s_Sky_init) l_Sky_init c_Sky_init k_Sky_init).binds (ps := ["self", "size", "room"]) fun _ _ _ _ _ _ us hl => match us, hl with | [_, _, _], _ => rfl
  a_Sky_do := f_Sky_do
  d_Sky_do := PySem.W.fnOf "do" "Sky.do" (defArgs s_Sky_do) (defBody s_Sky_do) (defScope s_Sky_do) .none kV_Sky_do dc_Sky_do pm_Sky_do an_Sky_do cd_Sky_do ct_Sky_do
  F_Sky_do := fun_mk (st := s_Sky_do) l_Sky_do c_Sky_do k_Sky_do
  b_Sky_do := (fun_mk (st := s_Sky_do) l_Sky_do c_Sky_do k_Sky_do).binds (ps := ["self", "step"]) fun _ _ _ _ _ _ us hl => match us, hl with | [_, _], _ => rfl
  M_Sky_do := ⟨h_Sky_do, i_Sky_do, k_Sky_do⟩
  a_Sky_shown := f_Sky_shown
  d_Sky_shown := PySem.W.fnOf "shown" "Sky.shown" (defArgs s_Sky_shown) (defBody s_Sky_shown) (defScope s_Sky_shown) .none kV_Sky_shown dc_Sky_shown pm_Sky_shown an_Sky_shown cd_Sky_shown ct_Sky_shown
  F_Sky_shown := fun_mk (st := s_Sky_shown) l_Sky_shown c_Sky_shown k_Sky_shown
  b_Sky_shown := (fun_mk (st := s_Sky_shown) l_Sky_shown c_Sky_shown k_Sky_shown).binds (ps := ["self"]) fun _ _ _ _ _ _ us hl => match us, hl with | [_], _ => rfl
  M_Sky_shown := ⟨h_Sky_shown, i_Sky_shown, k_Sky_shown⟩
  a_Sky_log := f_Sky_log
  d_Sky_log := PySem.W.fnOf "log" "Sky.log" (defArgs s_Sky_log) (defBody s_Sky_log) (defScope s_Sky_log) .none kV_Sky_log dc_Sky_log pm_Sky_log an_Sky_log cd_Sky_log ct_Sky_log
  F_Sky_log := fun_mk (st := s_Sky_log) l_Sky_log c_Sky_log k_Sky_log
  b_Sky_log := (fun_mk (st := s_Sky_log) l_Sky_log c_Sky_log k_Sky_log).binds (ps := ["self"]) fun _ _ _ _ _ _ us hl => match us, hl with | [_], _ => rfl
  M_Sky_log := ⟨h_Sky_log, i_Sky_log, k_Sky_log⟩
  a_Sky_tell := f_Sky_tell
  d_Sky_tell := PySem.W.fnOf "_tell" "Sky._tell" (defArgs s_Sky_tell) (defBody s_Sky_tell) (defScope s_Sky_tell) .none kV_Sky_tell dc_Sky_tell pm_Sky_tell an_Sky_tell cd_Sky_tell ct_Sky_tell
  F_Sky_tell := fun_mk (st := s_Sky_tell) l_Sky_tell c_Sky_tell k_Sky_tell
  b_Sky_tell := (fun_mk (st := s_Sky_tell) l_Sky_tell c_Sky_tell k_Sky_tell).binds (ps := ["self", "stream", "telling"]) fun _ _ _ _ _ _ us hl => match us, hl with | [_, _, _], _ => rfl
  M_Sky_tell := ⟨h_Sky_tell, i_Sky_tell, k_Sky_tell⟩
  a_Sky_close := f_Sky_close
  d_Sky_close := PySem.W.fnOf "_close" "Sky._close" (defArgs s_Sky_close) (defBody s_Sky_close) (defScope s_Sky_close) .none kV_Sky_close dc_Sky_close pm_Sky_close an_Sky_close cd_Sky_close ct_Sky_close
  F_Sky_close := fun_mk (st := s_Sky_close) l_Sky_close c_Sky_close k_Sky_close
  b_Sky_close := (fun_mk (st := s_Sky_close) l_Sky_close c_Sky_close k_Sky_close).binds (ps := ["self", "stream"]) fun _ _ _ _ _ _ us hl => match us, hl with | [_, _], _ => rfl
  M_Sky_close := ⟨h_Sky_close, i_Sky_close, k_Sky_close⟩
  a_Sky_beat := f_Sky_beat
  d_Sky_beat := PySem.W.fnOf "_beat" "Sky._beat" (defArgs s_Sky_beat) (defBody s_Sky_beat) (defScope s_Sky_beat) .none kV_Sky_beat dc_Sky_beat pm_Sky_beat an_Sky_beat cd_Sky_beat ct_Sky_beat
  F_Sky_beat := fun_mk (st := s_Sky_beat) l_Sky_beat c_Sky_beat k_Sky_beat
  b_Sky_beat := (fun_mk (st := s_Sky_beat) l_Sky_beat c_Sky_beat k_Sky_beat).binds (ps := ["self"]) fun _ _ _ _ _ _ us hl => match us, hl with | [_], _ => rfl
  M_Sky_beat := ⟨h_Sky_beat, i_Sky_beat, k_Sky_beat⟩
  a_Sky_ask := f_Sky_ask
  d_Sky_ask := PySem.W.fnOf "_ask" "Sky._ask" (defArgs s_Sky_ask) (defBody s_Sky_ask) (defScope s_Sky_ask) .none kV_Sky_ask dc_Sky_ask pm_Sky_ask an_Sky_ask cd_Sky_ask ct_Sky_ask
  F_Sky_ask := fun_mk (st := s_Sky_ask) l_Sky_ask c_Sky_ask k_Sky_ask
  b_Sky_ask := (fun_mk (st := s_Sky_ask) l_Sky_ask c_Sky_ask k_Sky_ask).binds (ps := ["self"]) fun _ _ _ _ _ _ us hl => match us, hl with | [_], _ => rfl
  M_Sky_ask := ⟨h_Sky_ask, i_Sky_ask, k_Sky_ask⟩
  a_Sky_letter := f_Sky_letter
  d_Sky_letter := PySem.W.fnOf "_letter" "Sky._letter" (defArgs s_Sky_letter) (defBody s_Sky_letter) (defScope s_Sky_letter) .none kV_Sky_letter dc_Sky_letter pm_Sky_letter an_Sky_letter cd_Sky_letter ct_Sky_letter
  F_Sky_letter := fun_mk (st := s_Sky_letter) l_Sky_letter c_Sky_letter k_Sky_letter
  b_Sky_letter := (fun_mk (st := s_Sky_letter) l_Sky_letter c_Sky_letter k_Sky_letter).binds (ps := ["self", "way", "k"]) fun _ _ _ _ _ _ us hl => match us, hl with | [_, _, _], _ => rfl
  M_Sky_letter := ⟨h_Sky_letter, i_Sky_letter, k_Sky_letter⟩
  a_Sky_lose := f_Sky_lose
  d_Sky_lose := PySem.W.fnOf "_lose" "Sky._lose" (defArgs s_Sky_lose) (defBody s_Sky_lose) (defScope s_Sky_lose) .none kV_Sky_lose dc_Sky_lose pm_Sky_lose an_Sky_lose cd_Sky_lose ct_Sky_lose
  F_Sky_lose := fun_mk (st := s_Sky_lose) l_Sky_lose c_Sky_lose k_Sky_lose
  b_Sky_lose := (fun_mk (st := s_Sky_lose) l_Sky_lose c_Sky_lose k_Sky_lose).binds (ps := ["self", "way", "k"]) fun _ _ _ _ _ _ us hl => match us, hl with | [_, _, _], _ => rfl
  M_Sky_lose := ⟨h_Sky_lose, i_Sky_lose, k_Sky_lose⟩
  a_Sky_hear := f_Sky_hear
  d_Sky_hear := PySem.W.fnOf "_hear" "Sky._hear" (defArgs s_Sky_hear) (defBody s_Sky_hear) (defScope s_Sky_hear) .none kV_Sky_hear dc_Sky_hear pm_Sky_hear an_Sky_hear cd_Sky_hear ct_Sky_hear
  F_Sky_hear := fun_mk (st := s_Sky_hear) l_Sky_hear c_Sky_hear k_Sky_hear
  b_Sky_hear := (fun_mk (st := s_Sky_hear) l_Sky_hear c_Sky_hear k_Sky_hear).binds (ps := ["self", "way", "k"]) fun _ _ _ _ _ _ us hl => match us, hl with | [_, _, _], _ => rfl
  M_Sky_hear := ⟨h_Sky_hear, i_Sky_hear, k_Sky_hear⟩
  a_Sky_hear_down := f_Sky_hear_down
  d_Sky_hear_down := PySem.W.fnOf "_hear_down" "Sky._hear_down" (defArgs s_Sky_hear_down) (defBody s_Sky_hear_down) (defScope s_Sky_hear_down) .none kV_Sky_hear_down dc_Sky_hear_down pm_Sky_hear_down an_Sky_hear_down cd_Sky_hear_down ct_Sky_hear_down
  F_Sky_hear_down := fun_mk (st := s_Sky_hear_down) l_Sky_hear_down c_Sky_hear_down k_Sky_hear_down
  b_Sky_hear_down := (fun_mk (st := s_Sky_hear_down) l_Sky_hear_down c_Sky_hear_down k_Sky_hear_down).binds (ps := ["self", "letter"]) fun _ _ _ _ _ _ us hl => match us, hl with | [_, _], _ => rfl
  M_Sky_hear_down := ⟨h_Sky_hear_down, i_Sky_hear_down, k_Sky_hear_down⟩
  a_Sky_hear_up := f_Sky_hear_up
  d_Sky_hear_up := PySem.W.fnOf "_hear_up" "Sky._hear_up" (defArgs s_Sky_hear_up) (defBody s_Sky_hear_up) (defScope s_Sky_hear_up) .none kV_Sky_hear_up dc_Sky_hear_up pm_Sky_hear_up an_Sky_hear_up cd_Sky_hear_up ct_Sky_hear_up
  F_Sky_hear_up := fun_mk (st := s_Sky_hear_up) l_Sky_hear_up c_Sky_hear_up k_Sky_hear_up
  b_Sky_hear_up := (fun_mk (st := s_Sky_hear_up) l_Sky_hear_up c_Sky_hear_up k_Sky_hear_up).binds (ps := ["self", "letter"]) fun _ _ _ _ _ _ us hl => match us, hl with | [_, _], _ => rfl
  M_Sky_hear_up := ⟨h_Sky_hear_up, i_Sky_hear_up, k_Sky_hear_up⟩
  a_Sky_settle := f_Sky_settle
  d_Sky_settle := PySem.W.fnOf "_settle" "Sky._settle" (defArgs s_Sky_settle) (defBody s_Sky_settle) (defScope s_Sky_settle) .none kV_Sky_settle dc_Sky_settle pm_Sky_settle an_Sky_settle cd_Sky_settle ct_Sky_settle
  F_Sky_settle := fun_mk (st := s_Sky_settle) l_Sky_settle c_Sky_settle k_Sky_settle
  b_Sky_settle := (fun_mk (st := s_Sky_settle) l_Sky_settle c_Sky_settle k_Sky_settle).binds (ps := ["self"]) fun _ _ _ _ _ _ us hl => match us, hl with | [_], _ => rfl
  M_Sky_settle := ⟨h_Sky_settle, i_Sky_settle, k_Sky_settle⟩
  a_Sky_hear_all := f_Sky_hear_all
  d_Sky_hear_all := PySem.W.fnOf "_hear_all" "Sky._hear_all" (defArgs s_Sky_hear_all) (defBody s_Sky_hear_all) (defScope s_Sky_hear_all) .none kV_Sky_hear_all dc_Sky_hear_all pm_Sky_hear_all an_Sky_hear_all cd_Sky_hear_all ct_Sky_hear_all
  F_Sky_hear_all := fun_mk (st := s_Sky_hear_all) l_Sky_hear_all c_Sky_hear_all k_Sky_hear_all
  b_Sky_hear_all := (fun_mk (st := s_Sky_hear_all) l_Sky_hear_all c_Sky_hear_all k_Sky_hear_all).binds (ps := ["self"]) fun _ _ _ _ _ _ us hl => match us, hl with | [_], _ => rfl
  M_Sky_hear_all := ⟨h_Sky_hear_all, i_Sky_hear_all, k_Sky_hear_all⟩
  a_Sky_go_round := f_Sky_go_round
  d_Sky_go_round := PySem.W.fnOf "_go_round" "Sky._go_round" (defArgs s_Sky_go_round) (defBody s_Sky_go_round) (defScope s_Sky_go_round) .none kV_Sky_go_round dc_Sky_go_round pm_Sky_go_round an_Sky_go_round cd_Sky_go_round ct_Sky_go_round
  F_Sky_go_round := fun_mk (st := s_Sky_go_round) l_Sky_go_round c_Sky_go_round k_Sky_go_round
  b_Sky_go_round := (fun_mk (st := s_Sky_go_round) l_Sky_go_round c_Sky_go_round k_Sky_go_round).binds (ps := ["self"]) fun _ _ _ _ _ _ us hl => match us, hl with | [_], _ => rfl
  M_Sky_go_round := ⟨h_Sky_go_round, i_Sky_go_round, k_Sky_go_round⟩
  a_played := f_played
  d_played := PySem.W.fnOf "played" "played" (defArgs s_played) (defBody s_played) (defScope s_played) .none kV_played dc_played pm_played an_played cd_played ct_played
  F_played := fun_mk (st := s_played) l_played c_played k_played
  b_played := (fun_mk (st := s_played) l_played c_played k_played).binds (ps := ["size", "room", "steps"]) fun _ _ _ _ _ _ us hl => match us, hl with | [_, _, _], _ => rfl
  m_played := PySem.W.mg_of X G h_played
  a_written := f_written
  d_written := PySem.W.fnOf "written" "written" (defArgs s_written) (defBody s_written) (defScope s_written) .none kV_written dc_written pm_written an_written cd_written ct_written
  F_written := fun_mk (st := s_written) l_written c_written k_written
  b_written := (fun_mk (st := s_written) l_written c_written k_written).binds (ps := ["steps"]) fun _ _ _ _ _ _ us hl => match us, hl with | [_], _ => rfl
  m_written := PySem.W.mg_of X G h_written
  a_read := f_read
  d_read := PySem.W.fnOf "read" "read" (defArgs s_read) (defBody s_read) (defScope s_read) .none kV_read dc_read pm_read an_read cd_read ct_read
  F_read := fun_mk (st := s_read) l_read c_read k_read
  b_read := (fun_mk (st := s_read) l_read c_read k_read).binds (ps := ["text"]) fun _ _ _ _ _ _ us hl => match us, hl with | [_], _ => rfl
  m_read := PySem.W.mg_of X G h_read
  a_row_of := f_row_of
  d_row_of := PySem.W.fnOf "_row_of" "_row_of" (defArgs s_row_of) (defBody s_row_of) (defScope s_row_of) .none kV_row_of dc_row_of pm_row_of an_row_of cd_row_of ct_row_of
  F_row_of := fun_mk (st := s_row_of) l_row_of c_row_of k_row_of
  b_row_of := (fun_mk (st := s_row_of) l_row_of c_row_of k_row_of).binds (ps := ["step"]) fun _ _ _ _ _ _ us hl => match us, hl with | [_], _ => rfl
  m_row_of := PySem.W.mg_of X G h_row_of
  a_step_of := f_step_of
  d_step_of := PySem.W.fnOf "_step_of" "_step_of" (defArgs s_step_of) (defBody s_step_of) (defScope s_step_of) .none kV_step_of dc_step_of pm_step_of an_step_of cd_step_of ct_step_of
  F_step_of := fun_mk (st := s_step_of) l_step_of c_step_of k_step_of
  b_step_of := (fun_mk (st := s_step_of) l_step_of c_step_of k_step_of).binds (ps := ["words"]) fun _ _ _ _ _ _ us hl => match us, hl with | [_], _ => rfl
  m_step_of := PySem.W.mg_of X G h_step_of
  a_is_written_number := f_is_written_number
  d_is_written_number := PySem.W.fnOf "_is_written_number" "_is_written_number" (defArgs s_is_written_number) (defBody s_is_written_number) (defScope s_is_written_number) .none kV_is_written_number dc_is_written_number pm_is_written_number an_is_written_number cd_is_written_number ct_is_written_number
  F_is_written_number := fun_mk (st := s_is_written_number) l_is_written_number c_is_written_number k_is_written_number
  b_is_written_number := (fun_mk (st := s_is_written_number) l_is_written_number c_is_written_number k_is_written_number).binds (ps := ["figures"]) fun _ _ _ _ _ _ us hl => match us, hl with | [_], _ => rfl
  m_is_written_number := PySem.W.mg_of X G h_is_written_number
  a_law_mix := f_law_mix
  d_law_mix := PySem.W.fnOf "_law_mix" "_law_mix" (defArgs s_law_mix) (defBody s_law_mix) (defScope s_law_mix) .none kV_law_mix dc_law_mix pm_law_mix an_law_mix cd_law_mix ct_law_mix
  F_law_mix := fun_mk (st := s_law_mix) l_law_mix c_law_mix k_law_mix
  b_law_mix := (fun_mk (st := s_law_mix) l_law_mix c_law_mix k_law_mix).binds (ps := ["_law_script", "_law_seed"]) fun _ _ _ _ _ _ us hl => match us, hl with | [_, _], _ => rfl
  m_law_mix := PySem.W.mg_of X G h_law_mix
  a_law_next := f_law_next
  d_law_next := PySem.W.fnOf "_law_next" "_law_next" (defArgs s_law_next) (defBody s_law_next) (defScope s_law_next) .none kV_law_next dc_law_next pm_law_next an_law_next cd_law_next ct_law_next
  F_law_next := fun_mk (st := s_law_next) l_law_next c_law_next k_law_next
  b_law_next := (fun_mk (st := s_law_next) l_law_next c_law_next k_law_next).binds (ps := ["_law_h", "_law_many"]) fun _ _ _ _ _ _ us hl => match us, hl with | [_, _], _ => rfl
  m_law_next := PySem.W.mg_of X G h_law_next
  a_law_alike := f_law_alike
  d_law_alike := PySem.W.fnOf "_law_alike" "_law_alike" (defArgs s_law_alike) (defBody s_law_alike) (defScope s_law_alike) .none kV_law_alike dc_law_alike pm_law_alike an_law_alike cd_law_alike ct_law_alike
  F_law_alike := fun_mk (st := s_law_alike) l_law_alike c_law_alike k_law_alike
  b_law_alike := (fun_mk (st := s_law_alike) l_law_alike c_law_alike k_law_alike).binds (ps := ["_law_found", "_law_due"]) fun _ _ _ _ _ _ us hl => match us, hl with | [_, _], _ => rfl
  m_law_alike := PySem.W.mg_of X G h_law_alike
  a_law_data := f_law_data
  d_law_data := PySem.W.fnOf "_law_data" "_law_data" (defArgs s_law_data) (defBody s_law_data) (defScope s_law_data) .none kV_law_data dc_law_data pm_law_data an_law_data cd_law_data ct_law_data
  F_law_data := fun_mk (st := s_law_data) l_law_data c_law_data k_law_data
  b_law_data := (fun_mk (st := s_law_data) l_law_data c_law_data k_law_data).binds (ps := ["_law_h"]) fun _ _ _ _ _ _ us hl => match us, hl with | [_], _ => rfl
  m_law_data := PySem.W.mg_of X G h_law_data
  a_law_step := f_law_step
  d_law_step := PySem.W.fnOf "_law_step" "_law_step" (defArgs s_law_step) (defBody s_law_step) (defScope s_law_step) .none kV_law_step dc_law_step pm_law_step an_law_step cd_law_step ct_law_step
  F_law_step := fun_mk (st := s_law_step) l_law_step c_law_step k_law_step
  b_law_step := (fun_mk (st := s_law_step) l_law_step c_law_step k_law_step).binds (ps := ["_law_h"]) fun _ _ _ _ _ _ us hl => match us, hl with | [_], _ => rfl
  m_law_step := PySem.W.mg_of X G h_law_step
  a_law := f_law
  d_law := PySem.W.fnOf "law" "law" (defArgs s_law) (defBody s_law) (defScope s_law) .none kV_law dc_law pm_law an_law cd_law ct_law
  F_law := fun_mk (st := s_law) l_law c_law k_law
  b_law := (fun_mk (st := s_law) l_law c_law k_law).binds (ps := ["_law_script"]) fun _ _ _ _ _ _ us hl => match us, hl with | [_], _ => rfl
  m_law := PySem.W.mg_of X G h_law
  cl_Laying := ⟨pg_Laying, hd_Laying, po_Laying, sa_Laying⟩
  m_Laying := PySem.W.mg_of X G hA_Laying
  mk_Laying := ⟨mk_Laying, h_Laying_init, i_Laying_init, kc_Laying⟩
  n_Laying_body := n_Laying_body
  n_Laying_count := n_Laying_count
  n_Laying_first := n_Laying_first
  n_Laying_size := n_Laying_size
  n_Laying_stream := n_Laying_stream
  n_Laying_many := n_Laying_many
  cl_Craft := ⟨pg_Craft, hd_Craft, po_Craft, sa_Craft⟩
  m_Craft := PySem.W.mg_of X G hA_Craft
  mk_Craft := ⟨mk_Craft, h_Craft_init, i_Craft_init, kc_Craft⟩
  n_Craft_asked := n_Craft_asked
  n_Craft_frames := n_Craft_frames
  n_Craft_gone := n_Craft_gone
  n_Craft_layings := n_Craft_layings
  n_Craft_room := n_Craft_room
  n_Craft_sent := n_Craft_sent
  n_Craft_window := n_Craft_window
  cl_Ground := ⟨pg_Ground, hd_Ground, po_Ground, sa_Ground⟩
  m_Ground := PySem.W.mg_of X G hA_Ground
  mk_Ground := ⟨mk_Ground, h_Ground_init, i_Ground_init, kc_Ground⟩
  n_Ground_came := n_Ground_came
  n_Ground_never := n_Ground_never
  n_Ground_size := n_Ground_size
  cl_Sky := ⟨pg_Sky, hd_Sky, po_Sky, sa_Sky⟩
  m_Sky := PySem.W.mg_of X G hA_Sky
  mk_Sky := ⟨mk_Sky, h_Sky_init, i_Sky_init, kc_Sky⟩
  n_Sky_craft := n_Sky_craft
  n_Sky_entries := n_Sky_entries
  n_Sky_ground := n_Sky_ground
  n_Sky_roads := n_Sky_roads
  z_all := PySem.W.mg_none_of X G z_all
  z_bool := PySem.W.mg_none_of X G z_bool
  z_enumerate := PySem.W.mg_none_of X G z_enumerate
  z_int := PySem.W.mg_none_of X G z_int
  z_isinstance := PySem.W.mg_none_of X G z_isinstance
  z_len := PySem.W.mg_none_of X G z_len
  z_list := PySem.W.mg_none_of X G z_list
  z_max := PySem.W.mg_none_of X G z_max
  z_range := PySem.W.mg_none_of X G z_range
  z_sorted := PySem.W.mg_none_of X G z_sorted
  z_str := PySem.W.mg_none_of X G z_str
  z_tuple := PySem.W.mg_none_of X G z_tuple
  A_BARE := A_BARE
  c_BARE := PySem.W.mg_of X G c_BARE
  q_BARE := fun H => .inr ⟨_, _, _, q_BARE, rfl, rfl, by (show 5 ≤ sizeLine; decide), (.cons ⟨_, rfl⟩ (.cons ⟨_, rfl⟩ (.cons ⟨_, rfl⟩ (.cons ⟨_, rfl⟩ (.cons ⟨_, rfl⟩ .nil)))))⟩
  A_LETTERS := A_LETTERS
  c_LETTERS := PySem.W.mg_of X G c_LETTERS
  q_LETTERS := fun H => .inr ⟨_, _, _, q_LETTERS, rfl, rfl, by (show 3 ≤ sizeLine; decide), (.cons ⟨_, rfl⟩ (.cons ⟨_, rfl⟩ (.cons ⟨_, rfl⟩ .nil)))⟩
  A_WAYS := A_WAYS
  c_WAYS := PySem.W.mg_of X G c_WAYS
  q_WAYS := fun H => .inr ⟨_, _, _, q_WAYS, rfl, rfl, by (show 2 ≤ sizeLine; decide), (.cons ⟨_, rfl⟩ (.cons ⟨_, rfl⟩ .nil))⟩
  t_STREAMS := t_STREAMS
  c_STREAMS := PySem.W.mg_of X G c_STREAMS
  t_MOST_NUMBERS := t_MOST_NUMBERS
  c_MOST_NUMBERS := PySem.W.mg_of X G c_MOST_NUMBERS
  t_LEAST_SIZE := t_LEAST_SIZE
  c_LEAST_SIZE := PySem.W.mg_of X G c_LEAST_SIZE
  t_MOST_SIZE := t_MOST_SIZE
  c_MOST_SIZE := PySem.W.mg_of X G c_MOST_SIZE
  t_MOST_ROOM := t_MOST_ROOM
  c_MOST_ROOM := PySem.W.mg_of X G c_MOST_ROOM
  t_MOST_COUNT := t_MOST_COUNT
  c_MOST_COUNT := PySem.W.mg_of X G c_MOST_COUNT
  t_HEAD := t_HEAD
  c_HEAD := PySem.W.mg_of X G c_HEAD
  t_HUNDRED := t_HUNDRED
  c_HUNDRED := PySem.W.mg_of X G c_HUNDRED
  t_MOST_FIGURES := t_MOST_FIGURES
  c_MOST_FIGURES := PySem.W.mg_of X G c_MOST_FIGURES
  A_BadStream := A_BadStream
  e_BadStream := ⟨PySem.W.mg_of X G hA_BadStream, qx_BadStream, kx_BadStream, sx_BadStream, tx_BadStream⟩
  A_BadData := A_BadData
  e_BadData := ⟨PySem.W.mg_of X G hA_BadData, qx_BadData, kx_BadData, sx_BadData, tx_BadData⟩
  A_SkyError := A_SkyError
  g_SkyError := PySem.W.mg_of X G hA_SkyError
  x_BadStream := PySem.W.exm_ref sx_SkyError hx_SkyError tx_SkyError xx_BadStream
  x_BadData := PySem.W.exm_ref sx_SkyError hx_SkyError tx_SkyError xx_BadData
theorem all_mk {l : PySem.W.OpenLaw} {w : World} {K : PySem.W.Frag} {h : Heap} {mg : Str → Option Value} {fa : Addr} (X : K.In h) (G : h.Ns mainGlobals mg) (hfa : mg "law" = some (.ref fa)) (T : Tx K mg) :
    ∃ fd : FuncData, (∀ (s : Shared) (v : Value), BindsTo s fd ⟨[v], []⟩ [("_law_script", v)]) ∧ ∀ base : Heap, K.In base → base.Ns mainGlobals mg → FnOk l.prog w K mg base CX0 12 fa fd ["_law_script"] (sp_law K) := by
  have e := hfa.symm.trans T.m_law
  cases e
  obtain ⟨oc, od, kV, doc, pm, an, cdv, ct, osl, efd, lk, hcd⟩ := T.F_law.ex
  exact ⟨T.d_law, fun s v => by rw [efd]; exact .of_eq rfl, fun base _ _ => ok_law T⟩
end K20
open PySem PySem.W PyProof.Rows in
set_option maxRecDepth 100000 in
set_option maxHeartbeats 0 in
theorem PySem.Challenge.cw_skyframes_k20_whole_plays_cut_holds : PySem.Challenge.rw_skyframes_k20_whole_plays_cut.Holds := by
  w_on; o_law; k_head; (case hw => w_witness2)
  k_fill
  refine L2.walk_of (l := PySem.Challenge.rw_skyframes_k20_whole_plays_cut) (n := 63) (k := 12) (x := "_law_script") (CX := fun _ => L2.CX0) (sp := fun w => K20.sp_law _) rfl (by decide) rfl ⟨rfl, by decide, by decide⟩ (fun w h Y => PySem.W.kIn_of Y) ?F (fun _ _ a ns hl _ hS => ⟨a, ns, rfl, hS, hl, fun _ => rfl⟩) (fun _ _ _ _ _ h => h)
  case F =>
    intro w mg fa h KX G hmg
    refine' K20.all_mk KX G hmg (K20.mkTx KX G ?hA_Laying ?hA_Craft ?hA_Ground ?hA_Sky ?h_is_number ?l_is_number ?c_is_number ?k_is_number ?h_is_stream ?l_is_stream ?c_is_stream ?k_is_stream ?h_holds_numbers ?l_holds_numbers ?c_holds_numbers ?k_holds_numbers ?h_is_telling ?l_is_telling ?c_is_telling ?k_is_telling ?h_is_mark ?l_is_mark ?c_is_mark ?k_is_mark ?h_is_frame ?l_is_frame ?c_is_frame ?k_is_frame ?h_check_stream ?l_check_stream ?c_check_stream ?k_check_stream ?h_check_telling ?l_check_telling ?c_check_telling ?k_check_telling ?h_check_size ?l_check_size ?c_check_size ?k_check_size ?h_check_room ?l_check_room ?c_check_room ?k_check_room ?h_check_marks ?l_check_marks ?c_check_marks ?k_check_marks ?h_Laying_init ?i_Laying_init ?l_Laying_init ?c_Laying_init ?k_Laying_init ?h_Laying_lay ?i_Laying_lay ?l_Laying_lay ?c_Laying_lay ?k_Laying_lay ?h_Laying_fill ?i_Laying_fill ?l_Laying_fill ?c_Laying_fill ?k_Laying_fill ?h_Laying_done ?i_Laying_done ?l_Laying_done ?c_Laying_done ?k_Laying_done ?h_Craft_init ?i_Craft_init ?l_Craft_init ?c_Craft_init ?k_Craft_init ?h_Craft_tell ?i_Craft_tell ?l_Craft_tell ?c_Craft_tell ?k_Craft_tell ?h_Craft_close ?i_Craft_close ?l_Craft_close ?c_Craft_close ?k_Craft_close ?h_Craft_begin ?i_Craft_begin ?l_Craft_begin ?c_Craft_begin ?k_Craft_begin ?h_Craft_shut ?i_Craft_shut ?l_Craft_shut ?c_Craft_shut ?k_Craft_shut ?h_Craft_beat ?i_Craft_beat ?l_Craft_beat ?c_Craft_beat ?k_Craft_beat ?h_Craft_known ?i_Craft_known ?l_Craft_known ?c_Craft_known ?k_Craft_known ?h_Craft_again ?i_Craft_again ?l_Craft_again ?c_Craft_again ?k_Craft_again ?h_Craft_kept ?i_Craft_kept ?l_Craft_kept ?c_Craft_kept ?k_Craft_kept ?h_Craft_lost ?i_Craft_lost ?l_Craft_lost ?c_Craft_lost ?k_Craft_lost ?h_Craft_next_mark ?i_Craft_next_mark ?l_Craft_next_mark ?c_Craft_next_mark ?k_Craft_next_mark ?h_Craft_keep ?i_Craft_keep ?l_Craft_keep ?c_Craft_keep ?k_Craft_keep ?h_Craft_make_room ?i_Craft_make_room ?l_Craft_make_room ?c_Craft_make_room ?k_Craft_make_room ?h_Craft_let_go ?i_Craft_let_go ?l_Craft_let_go ?c_Craft_let_go ?k_Craft_let_go ?h_rows_of ?l_rows_of ?c_rows_of ?k_rows_of ?h_check_frames ?l_check_frames ?c_check_frames ?k_check_frames ?h_told_in ?l_told_in ?c_told_in ?k_told_in ?h_beginnings ?l_beginnings ?c_beginnings ?k_beginnings ?h_laid_at ?l_laid_at ?c_laid_at ?k_laid_at ?h_Ground_init ?i_Ground_init ?l_Ground_init ?c_Ground_init ?k_Ground_init ?h_Ground_hear ?i_Ground_hear ?l_Ground_hear ?c_Ground_hear ?k_Ground_hear ?h_Ground_never ?i_Ground_never ?l_Ground_never ?c_Ground_never ?k_Ground_never ?h_Ground_rows ?i_Ground_rows ?l_Ground_rows ?c_Ground_rows ?k_Ground_rows ?h_Ground_has ?i_Ground_has ?l_Ground_has ?c_Ground_has ?k_Ground_has ?h_Ground_wants ?i_Ground_wants ?l_Ground_wants ?c_Ground_wants ?k_Ground_wants ?h_Sky_init ?i_Sky_init ?l_Sky_init ?c_Sky_init ?k_Sky_init ?h_Sky_do ?i_Sky_do ?l_Sky_do ?c_Sky_do ?k_Sky_do ?h_Sky_shown ?i_Sky_shown ?l_Sky_shown ?c_Sky_shown ?k_Sky_shown ?h_Sky_log ?i_Sky_log ?l_Sky_log ?c_Sky_log ?k_Sky_log ?h_Sky_tell ?i_Sky_tell ?l_Sky_tell ?c_Sky_tell ?k_Sky_tell ?h_Sky_close ?i_Sky_close ?l_Sky_close ?c_Sky_close ?k_Sky_close ?h_Sky_beat ?i_Sky_beat ?l_Sky_beat ?c_Sky_beat ?k_Sky_beat ?h_Sky_ask ?i_Sky_ask ?l_Sky_ask ?c_Sky_ask ?k_Sky_ask ?h_Sky_letter ?i_Sky_letter ?l_Sky_letter ?c_Sky_letter ?k_Sky_letter ?h_Sky_lose ?i_Sky_lose ?l_Sky_lose ?c_Sky_lose ?k_Sky_lose ?h_Sky_hear ?i_Sky_hear ?l_Sky_hear ?c_Sky_hear ?k_Sky_hear ?h_Sky_hear_down ?i_Sky_hear_down ?l_Sky_hear_down ?c_Sky_hear_down ?k_Sky_hear_down ?h_Sky_hear_up ?i_Sky_hear_up ?l_Sky_hear_up ?c_Sky_hear_up ?k_Sky_hear_up ?h_Sky_settle ?i_Sky_settle ?l_Sky_settle ?c_Sky_settle ?k_Sky_settle ?h_Sky_hear_all ?i_Sky_hear_all ?l_Sky_hear_all ?c_Sky_hear_all ?k_Sky_hear_all ?h_Sky_go_round ?i_Sky_go_round ?l_Sky_go_round ?c_Sky_go_round ?k_Sky_go_round ?h_played ?l_played ?c_played ?k_played ?h_written ?l_written ?c_written ?k_written ?h_read ?l_read ?c_read ?k_read ?h_row_of ?l_row_of ?c_row_of ?k_row_of ?h_step_of ?l_step_of ?c_step_of ?k_step_of ?h_is_written_number ?l_is_written_number ?c_is_written_number ?k_is_written_number ?h_law_mix ?l_law_mix ?c_law_mix ?k_law_mix ?h_law_next ?l_law_next ?c_law_next ?k_law_next ?h_law_alike ?l_law_alike ?c_law_alike ?k_law_alike ?h_law_data ?l_law_data ?c_law_data ?k_law_data ?h_law_step ?l_law_step ?c_law_step ?k_law_step ?h_law ?l_law ?c_law ?k_law ?pg_Laying ?hd_Laying ?po_Laying ?sa_Laying ?mk_Laying ?kc_Laying ?n_Laying_body ?n_Laying_count ?n_Laying_first ?n_Laying_size ?n_Laying_stream ?n_Laying_many ?pg_Craft ?hd_Craft ?po_Craft ?sa_Craft ?mk_Craft ?kc_Craft ?n_Craft_asked ?n_Craft_frames ?n_Craft_gone ?n_Craft_layings ?n_Craft_room ?n_Craft_sent ?n_Craft_window ?pg_Ground ?hd_Ground ?po_Ground ?sa_Ground ?mk_Ground ?kc_Ground ?n_Ground_came ?n_Ground_never ?n_Ground_size ?pg_Sky ?hd_Sky ?po_Sky ?sa_Sky ?mk_Sky ?kc_Sky ?n_Sky_craft ?n_Sky_entries ?n_Sky_ground ?n_Sky_roads ?z_all ?z_bool ?z_enumerate ?z_int ?z_isinstance ?z_len ?z_list ?z_max ?z_range ?z_sorted ?z_str ?z_tuple ?c_STREAMS ?c_MOST_NUMBERS ?c_LEAST_SIZE ?c_MOST_SIZE ?c_MOST_ROOM ?c_MOST_COUNT ?c_HEAD ?c_HUNDRED ?c_BARE ?q_BARE ?c_LETTERS ?q_LETTERS ?c_WAYS ?q_WAYS ?c_MOST_FIGURES ?hA_BadStream ?qx_BadStream ?kx_BadStream ?sx_BadStream ?tx_BadStream ?hA_BadData ?qx_BadData ?kx_BadData ?sx_BadData ?tx_BadData ?hA_SkyError ?sx_SkyError ?hx_SkyError ?tx_SkyError ?xx_BadStream ?xx_BadData)
    (case hA_Laying => k_is)
    (case hA_Craft => k_is)
    (case hA_Ground => k_is)
    (case hA_Sky => k_is)
    (case h_is_number => k_is)
    (case l_is_number => k_is)
    (case c_is_number => k_is)
    (case k_is_number => k_is)
    (case h_is_stream => k_is)
    (case l_is_stream => k_is)
    (case c_is_stream => k_is)
    (case k_is_stream => k_is)
    (case h_holds_numbers => k_is)
    (case l_holds_numbers => k_is)
    (case c_holds_numbers => k_is)
    (case k_holds_numbers => k_is)
    (case h_is_telling => k_is)
    (case l_is_telling => k_is)
    (case c_is_telling => k_is)
    (case k_is_telling => k_is)
    (case h_is_mark => k_is)
    (case l_is_mark => k_is)
    (case c_is_mark => k_is)
    (case k_is_mark => k_is)
    (case h_is_frame => k_is)
    (case l_is_frame => k_is)
    (case c_is_frame => k_is)
    (case k_is_frame => k_is)
    (case h_check_stream => k_is)
    (case l_check_stream => k_is)
    (case c_check_stream => k_is)
    (case k_check_stream => k_is)
    (case h_check_telling => k_is)
    (case l_check_telling => k_is)
    (case c_check_telling => k_is)
    (case k_check_telling => k_is)
    (case h_check_size => k_is)
    (case l_check_size => k_is)
    (case c_check_size => k_is)
    (case k_check_size => k_is)
    (case h_check_room => k_is)
    (case l_check_room => k_is)
    (case c_check_room => k_is)
    (case k_check_room => k_is)
    (case h_check_marks => k_is)
    (case l_check_marks => k_is)
    (case c_check_marks => k_is)
    (case k_check_marks => k_is)
    (case h_Laying_init => k_is)
    (case i_Laying_init => k_is)
    (case l_Laying_init => k_is)
    (case c_Laying_init => k_is)
    (case k_Laying_init => k_is)
    (case h_Laying_lay => k_is)
    (case i_Laying_lay => k_is)
    (case l_Laying_lay => k_is)
    (case c_Laying_lay => k_is)
    (case k_Laying_lay => k_is)
    (case h_Laying_fill => k_is)
    (case i_Laying_fill => k_is)
    (case l_Laying_fill => k_is)
    (case c_Laying_fill => k_is)
    (case k_Laying_fill => k_is)
    (case h_Laying_done => k_is)
    (case i_Laying_done => k_is)
    (case l_Laying_done => k_is)
    (case c_Laying_done => k_is)
    (case k_Laying_done => k_is)
    (case h_Craft_init => k_is)
    (case i_Craft_init => k_is)
    (case l_Craft_init => k_is)
    (case c_Craft_init => k_is)
    (case k_Craft_init => k_is)
    (case h_Craft_tell => k_is)
    (case i_Craft_tell => k_is)
    (case l_Craft_tell => k_is)
    (case c_Craft_tell => k_is)
    (case k_Craft_tell => k_is)
    (case h_Craft_close => k_is)
    (case i_Craft_close => k_is)
    (case l_Craft_close => k_is)
    (case c_Craft_close => k_is)
    (case k_Craft_close => k_is)
    (case h_Craft_begin => k_is)
    (case i_Craft_begin => k_is)
    (case l_Craft_begin => k_is)
    (case c_Craft_begin => k_is)
    (case k_Craft_begin => k_is)
    (case h_Craft_shut => k_is)
    (case i_Craft_shut => k_is)
    (case l_Craft_shut => k_is)
    (case c_Craft_shut => k_is)
    (case k_Craft_shut => k_is)
    (case h_Craft_beat => k_is)
    (case i_Craft_beat => k_is)
    (case l_Craft_beat => k_is)
    (case c_Craft_beat => k_is)
    (case k_Craft_beat => k_is)
    (case h_Craft_known => k_is)
    (case i_Craft_known => k_is)
    (case l_Craft_known => k_is)
    (case c_Craft_known => k_is)
    (case k_Craft_known => k_is)
    (case h_Craft_again => k_is)
    (case i_Craft_again => k_is)
    (case l_Craft_again => k_is)
    (case c_Craft_again => k_is)
    (case k_Craft_again => k_is)
    (case h_Craft_kept => k_is)
    (case i_Craft_kept => k_is)
    (case l_Craft_kept => k_is)
    (case c_Craft_kept => k_is)
    (case k_Craft_kept => k_is)
    (case h_Craft_lost => k_is)
    (case i_Craft_lost => k_is)
    (case l_Craft_lost => k_is)
    (case c_Craft_lost => k_is)
    (case k_Craft_lost => k_is)
    (case h_Craft_next_mark => k_is)
    (case i_Craft_next_mark => k_is)
    (case l_Craft_next_mark => k_is)
    (case c_Craft_next_mark => k_is)
    (case k_Craft_next_mark => k_is)
    (case h_Craft_keep => k_is)
    (case i_Craft_keep => k_is)
    (case l_Craft_keep => k_is)
    (case c_Craft_keep => k_is)
    (case k_Craft_keep => k_is)
    (case h_Craft_make_room => k_is)
    (case i_Craft_make_room => k_is)
    (case l_Craft_make_room => k_is)
    (case c_Craft_make_room => k_is)
    (case k_Craft_make_room => k_is)
    (case h_Craft_let_go => k_is)
    (case i_Craft_let_go => k_is)
    (case l_Craft_let_go => k_is)
    (case c_Craft_let_go => k_is)
    (case k_Craft_let_go => k_is)
    (case h_rows_of => k_is)
    (case l_rows_of => k_is)
    (case c_rows_of => k_is)
    (case k_rows_of => k_is)
    (case h_check_frames => k_is)
    (case l_check_frames => k_is)
    (case c_check_frames => k_is)
    (case k_check_frames => k_is)
    (case h_told_in => k_is)
    (case l_told_in => k_is)
    (case c_told_in => k_is)
    (case k_told_in => k_is)
    (case h_beginnings => k_is)
    (case l_beginnings => k_is)
    (case c_beginnings => k_is)
    (case k_beginnings => k_is)
    (case h_laid_at => k_is)
    (case l_laid_at => k_is)
    (case c_laid_at => k_is)
    (case k_laid_at => k_is)
    (case h_Ground_init => k_is)
    (case i_Ground_init => k_is)
    (case l_Ground_init => k_is)
    (case c_Ground_init => k_is)
    (case k_Ground_init => k_is)
    (case h_Ground_hear => k_is)
    (case i_Ground_hear => k_is)
    (case l_Ground_hear => k_is)
    (case c_Ground_hear => k_is)
    (case k_Ground_hear => k_is)
    (case h_Ground_never => k_is)
    (case i_Ground_never => k_is)
    (case l_Ground_never => k_is)
    (case c_Ground_never => k_is)
    (case k_Ground_never => k_is)
    (case h_Ground_rows => k_is)
    (case i_Ground_rows => k_is)
    (case l_Ground_rows => k_is)
    (case c_Ground_rows => k_is)
    (case k_Ground_rows => k_is)
    (case h_Ground_has => k_is)
    (case i_Ground_has => k_is)
    (case l_Ground_has => k_is)
    (case c_Ground_has => k_is)
    (case k_Ground_has => k_is)
    (case h_Ground_wants => k_is)
    (case i_Ground_wants => k_is)
    (case l_Ground_wants => k_is)
    (case c_Ground_wants => k_is)
    (case k_Ground_wants => k_is)
    (case h_Sky_init => k_is)
    (case i_Sky_init => k_is)
    (case l_Sky_init => k_is)
    (case c_Sky_init => k_is)
    (case k_Sky_init => k_is)
    (case h_Sky_do => k_is)
    (case i_Sky_do => k_is)
    (case l_Sky_do => k_is)
    (case c_Sky_do => k_is)
    (case k_Sky_do => k_is)
    (case h_Sky_shown => k_is)
    (case i_Sky_shown => k_is)
    (case l_Sky_shown => k_is)
    (case c_Sky_shown => k_is)
    (case k_Sky_shown => k_is)
    (case h_Sky_log => k_is)
    (case i_Sky_log => k_is)
    (case l_Sky_log => k_is)
    (case c_Sky_log => k_is)
    (case k_Sky_log => k_is)
    (case h_Sky_tell => k_is)
    (case i_Sky_tell => k_is)
    (case l_Sky_tell => k_is)
    (case c_Sky_tell => k_is)
    (case k_Sky_tell => k_is)
    (case h_Sky_close => k_is)
    (case i_Sky_close => k_is)
    (case l_Sky_close => k_is)
    (case c_Sky_close => k_is)
    (case k_Sky_close => k_is)
    (case h_Sky_beat => k_is)
    (case i_Sky_beat => k_is)
    (case l_Sky_beat => k_is)
    (case c_Sky_beat => k_is)
    (case k_Sky_beat => k_is)
    (case h_Sky_ask => k_is)
    (case i_Sky_ask => k_is)
    (case l_Sky_ask => k_is)
    (case c_Sky_ask => k_is)
    (case k_Sky_ask => k_is)
    (case h_Sky_letter => k_is)
    (case i_Sky_letter => k_is)
    (case l_Sky_letter => k_is)
    (case c_Sky_letter => k_is)
    (case k_Sky_letter => k_is)
    (case h_Sky_lose => k_is)
    (case i_Sky_lose => k_is)
    (case l_Sky_lose => k_is)
    (case c_Sky_lose => k_is)
    (case k_Sky_lose => k_is)
    (case h_Sky_hear => k_is)
    (case i_Sky_hear => k_is)
    (case l_Sky_hear => k_is)
    (case c_Sky_hear => k_is)
    (case k_Sky_hear => k_is)
    (case h_Sky_hear_down => k_is)
    (case i_Sky_hear_down => k_is)
    (case l_Sky_hear_down => k_is)
    (case c_Sky_hear_down => k_is)
    (case k_Sky_hear_down => k_is)
    (case h_Sky_hear_up => k_is)
    (case i_Sky_hear_up => k_is)
    (case l_Sky_hear_up => k_is)
    (case c_Sky_hear_up => k_is)
    (case k_Sky_hear_up => k_is)
    (case h_Sky_settle => k_is)
    (case i_Sky_settle => k_is)
    (case l_Sky_settle => k_is)
    (case c_Sky_settle => k_is)
    (case k_Sky_settle => k_is)
    (case h_Sky_hear_all => k_is)
    (case i_Sky_hear_all => k_is)
    (case l_Sky_hear_all => k_is)
    (case c_Sky_hear_all => k_is)
    (case k_Sky_hear_all => k_is)
    (case h_Sky_go_round => k_is)
    (case i_Sky_go_round => k_is)
    (case l_Sky_go_round => k_is)
    (case c_Sky_go_round => k_is)
    (case k_Sky_go_round => k_is)
    (case h_played => k_is)
    (case l_played => k_is)
    (case c_played => k_is)
    (case k_played => k_is)
    (case h_written => k_is)
    (case l_written => k_is)
    (case c_written => k_is)
    (case k_written => k_is)
    (case h_read => k_is)
    (case l_read => k_is)
    (case c_read => k_is)
    (case k_read => k_is)
    (case h_row_of => k_is)
    (case l_row_of => k_is)
    (case c_row_of => k_is)
    (case k_row_of => k_is)
    (case h_step_of => k_is)
    (case l_step_of => k_is)
    (case c_step_of => k_is)
    (case k_step_of => k_is)
    (case h_is_written_number => k_is)
    (case l_is_written_number => k_is)
    (case c_is_written_number => k_is)
    (case k_is_written_number => k_is)
    (case h_law_mix => k_is)
    (case l_law_mix => k_is)
    (case c_law_mix => k_is)
    (case k_law_mix => k_is)
    (case h_law_next => k_is)
    (case l_law_next => k_is)
    (case c_law_next => k_is)
    (case k_law_next => k_is)
    (case h_law_alike => k_is)
    (case l_law_alike => k_is)
    (case c_law_alike => k_is)
    (case k_law_alike => k_is)
    (case h_law_data => k_is)
    (case l_law_data => k_is)
    (case c_law_data => k_is)
    (case k_law_data => k_is)
    (case h_law_step => k_is)
    (case l_law_step => k_is)
    (case c_law_step => k_is)
    (case k_law_step => k_is)
    (case h_law => k_is)
    (case l_law => k_is)
    (case c_law => k_is)
    (case k_law => k_is)
    (case pg_Laying => k_is)
    (case hd_Laying => k_is)
    (case po_Laying => k_is)
    (case sa_Laying => k_is)
    (case mk_Laying => k_is)
    (case kc_Laying => k_is)
    (case n_Laying_body => k_is)
    (case n_Laying_count => k_is)
    (case n_Laying_first => k_is)
    (case n_Laying_size => k_is)
    (case n_Laying_stream => k_is)
    (case n_Laying_many => k_is)
    (case pg_Craft => k_is)
    (case hd_Craft => k_is)
    (case po_Craft => k_is)
    (case sa_Craft => k_is)
    (case mk_Craft => k_is)
    (case kc_Craft => k_is)
    (case n_Craft_asked => k_is)
    (case n_Craft_frames => k_is)
    (case n_Craft_gone => k_is)
    (case n_Craft_layings => k_is)
    (case n_Craft_room => k_is)
    (case n_Craft_sent => k_is)
    (case n_Craft_window => k_is)
    (case pg_Ground => k_is)
    (case hd_Ground => k_is)
    (case po_Ground => k_is)
    (case sa_Ground => k_is)
    (case mk_Ground => k_is)
    (case kc_Ground => k_is)
    (case n_Ground_came => k_is)
    (case n_Ground_never => k_is)
    (case n_Ground_size => k_is)
    (case pg_Sky => k_is)
    (case hd_Sky => k_is)
    (case po_Sky => k_is)
    (case sa_Sky => k_is)
    (case mk_Sky => k_is)
    (case kc_Sky => k_is)
    (case n_Sky_craft => k_is)
    (case n_Sky_entries => k_is)
    (case n_Sky_ground => k_is)
    (case n_Sky_roads => k_is)
    (case z_all => k_is)
    (case z_bool => k_is)
    (case z_enumerate => k_is)
    (case z_int => k_is)
    (case z_isinstance => k_is)
    (case z_len => k_is)
    (case z_list => k_is)
    (case z_max => k_is)
    (case z_range => k_is)
    (case z_sorted => k_is)
    (case z_str => k_is)
    (case z_tuple => k_is)
    (case c_STREAMS => k_is)
    (case c_MOST_NUMBERS => k_is)
    (case c_LEAST_SIZE => k_is)
    (case c_MOST_SIZE => k_is)
    (case c_MOST_ROOM => k_is)
    (case c_MOST_COUNT => k_is)
    (case c_HEAD => k_is)
    (case c_HUNDRED => k_is)
    (case c_BARE => k_is)
    (case q_BARE => k_is)
    (case c_LETTERS => k_is)
    (case q_LETTERS => k_is)
    (case c_WAYS => k_is)
    (case q_WAYS => k_is)
    (case c_MOST_FIGURES => k_is)
    (case hA_BadStream => k_is)
    (case qx_BadStream => k_exc)
    (case kx_BadStream => k_is)
    (case sx_BadStream => k_is)
    (case tx_BadStream => k_is)
    (case hA_BadData => k_is)
    (case qx_BadData => k_exc)
    (case kx_BadData => k_is)
    (case sx_BadData => k_is)
    (case tx_BadData => k_is)
    (case hA_SkyError => k_is)
    (case sx_SkyError => k_is)
    (case hx_SkyError => k_is)
    (case tx_SkyError => k_is)
    (case xx_BadStream => k_is)
    (case xx_BadData => k_is)
