import PyProof.Rows.All
import Wide.All
import OpenK.AllK
import Wide.FinOn
import HandS.ForMost
import HandS.IsInst
import HandS.Conv
import HandS.Star
import HandS.Flow
import HandS.Style
import HandS.DictComp
import HandS.SortInts
import HandS.SetKeys
import HandS.Deep
import KE.DataMinMax
import HandS.SortKw
import HandS.SortRule
import KE.GoesEnum
import HandS.TupAny
import HandS.Rev
import KE.KTupSum
import HandS.DictTup
import HandS.TupLen
import HandS.Walk
import PyProof.DictMoreH
import HandS.TupMul
import PyProof.Rows.MatchSeqLen
import HandS.Small
import HandS.Exc
import HandS.WordsExc
import HandS.ExcOwn
import HandS.TryOnly
import HandS.ExcIs
import PyProof.RulesMatch
import HandS.Text
import HandS.StrMore
import HandS.RaiseMore
import KE.KUnpackStar
import KE.KExcIs
import HandS.ExcField
import HandS.Lambda
import HandS.SetFor
import HandS.HeadHook4
import HandS.HeadEnd
import HandS.Head2
import HandS.HeadWalk
import HandS.ExcInit
import KE.KExcSuper
import KE.KSuperObj
import KE.KSuper
import HandS.FStr
import PySem.Challenge.RW_skyframes_k16_texts_refused
set_option Elab.async false
set_option linter.all false
set_option maxRecDepth 100000
set_option maxHeartbeats 4000000
/-! Heaps: tuples stay, what is not named stays; data made of tuples; fields by their places. -/
namespace Sky
open PySem PySem.Spec PyProof.Rows L2

/-- all but what stands at M is as it was -/
def Keep (M : List Addr) (H H' : Hp) : Prop := ∀ b o, b ∉ M → H b = some o → H' b = some o
/-- tuples stay -/
def TSm (H H' : Hp) : Prop := ∀ a xs, H a = some (.tup xs) → H' a = some (.tup xs)
theorem Keep.refl (M : List Addr) (H : Hp) : Keep M H H := fun _ _ _ h => h
theorem Keep.trans {M : List Addr} {H H1 H2 : Hp} (a : Keep M H H1) (b : Keep M H1 H2) : Keep M H H2 := fun c o n h => b c o n (a c o n h)
theorem Keep.of_same {M : List Addr} {H H' : Hp} (a : Same H H') : Keep M H H' := fun c o _ h => a c o h
theorem Keep.mono {M N : List Addr} {H H' : Hp} (a : Keep M H H') (h : ∀ m, m ∈ M → m ∈ N) : Keep N H H' := fun c o n q => a c o (fun z => n (h c z)) q
theorem Keep.same {M : List Addr} {S H H' : Hp} (k : Keep M H H') (s : Same S H) (h : ∀ m ∈ M, S m = none) : Same S H' := fun b o e => by
  refine k b o (fun hb => ?_) (s b o e)
  rw [h b hb] at e
  cases e
theorem Keep.nil {H H' : Hp} (k : Keep [] H H') : Same H H' := fun b o e => k b o (by simp) e
theorem keep_upd {M : List Addr} {H H' : Hp} {a : Addr} {o : HO} (k : Keep M H H') (h : a ∈ M) : Keep M H (upd H' a o) := fun b u n e => by
  rw [upd_ne (show b ≠ a from fun z => n (by rw [z]; exact h))]
  exact k b u n e
theorem keep_new {M : List Addr} {H H' : Hp} {a : Addr} {o : HO} (k : Keep M H H') (h : H a = none) : Keep M H (upd H' a o) := fun b u n e => by
  rw [upd_ne (ne_of_none e h)]
  exact k b u n e
/-- a new object, fresh in the heap just ahead of it -/
theorem keep_new' {M : List Addr} {H H' : Hp} {a : Addr} {o : HO} (k : Keep M H H') (h : H' a = none) : Keep M H (upd H' a o) := fun b u n e => by
  rw [upd_ne (ne_of_none (k b u n e) h)]
  exact k b u n e
/-- a changed object that was fresh at the start -/
theorem keep_mut {M : List Addr} {H H' : Hp} {a : Addr} {o : HO} (k : Keep M H H') (h : H a = none) : Keep M H (upd H' a o) := keep_new k h
theorem same_new {H H' : Hp} {a : Addr} {o : HO} (k : Same H H') (h : H' a = none) : Same H (upd H' a o) := fun b u e => by
  rw [upd_ne (ne_of_none (k b u e) h)]
  exact k b u e
theorem same_mut {H H' : Hp} {a : Addr} {o : HO} (k : Same H H') (h : H a = none) : Same H (upd H' a o) := fun b u e => by
  rw [upd_ne (ne_of_none e h)]
  exact k b u e
theorem TSm.refl (H : Hp) : TSm H H := fun _ _ h => h
theorem TSm.trans {H H1 H2 : Hp} (a : TSm H H1) (b : TSm H1 H2) : TSm H H2 := fun c o h => b c o (a c o h)
theorem TSm.of_same {H H' : Hp} (a : Same H H') : TSm H H' := fun c o h => a c _ h
/-- no tuple -/
def NoT (H : Hp) (a : Addr) : Prop := ∀ xs, H a ≠ some (.tup xs)
theorem NoT.none {H : Hp} {a : Addr} (h : H a = none) : NoT H a := fun xs e => by
  rw [h] at e
  cases e
theorem NoT.lst {H : Hp} {a : Addr} {xs : List V} (h : H a = some (.lst xs)) : NoT H a := fun ys e => by
  rw [h] at e
  cases e
theorem NoT.dK {H : Hp} {a : Addr} {xs : List (Key × V)} (h : H a = some (.dK xs)) : NoT H a := fun ys e => by
  rw [h] at e
  cases e
theorem NoT.dT {H : Hp} {a : Addr} {xs : List (List Key × V)} (h : H a = some (.dT xs)) : NoT H a := fun ys e => by
  rw [h] at e
  cases e
theorem NoT.ins {H : Hp} {a C dx : Addr} {fs : List (Str × V)} (h : H a = some (.ins C dx fs)) : NoT H a := fun ys e => by
  rw [h] at e
  cases e
theorem ts_upd {H H' : Hp} {a : Addr} {o : HO} (k : TSm H H') (h : NoT H' a) : TSm H (upd H' a o) := fun b u e => by
  have q := k b u e
  rw [upd_ne (show b ≠ a from fun z => h u (by rw [← z]; exact q))]
  exact q
theorem Keep.ts {M : List Addr} {H H' : Hp} (k : Keep M H H') (h : ∀ m ∈ M, NoT H m) : TSm H H' := fun a xs e => k a _ (fun z => h a z xs e) e
/-- an address that is there is not a new one -/
theorem ne_new {H : Hp} {a b : Addr} {o : HO} (h : H a = some o) (h' : H b = none) : a ≠ b := ne_of_none h h'

/-! ### data made of tuples -/
mutual
inductive TD (H : Hp) : V → PyData → Prop
  | non : TD H .non .none
  | bl (b : Bool) : TD H (.bl b) (.bool b)
  | int (i : Int) : TD H (.int i) (.int i)
  | str (x : Str) : TD H (.str x) (.str x)
  | tup {a : Addr} {xs : List V} {ds : List PyData} : H a = some (.tup xs) → TDs H xs ds → TD H (.ref a) (.tuple ds)
inductive TDs (H : Hp) : List V → List PyData → Prop
  | nil : TDs H [] []
  | cons {v : V} {vs : List V} {d : PyData} {ds : List PyData} : TD H v d → TDs H vs ds → TDs H (v :: vs) (d :: ds)
end
mutual
theorem TD.mono {H H' : Hp} (k : TSm H H') : ∀ {d : PyData} {v : V}, TD H v d → TD H' v d
  | _, _, .non => .non
  | _, _, .bl b => .bl b
  | _, _, .int i => .int i
  | _, _, .str x => .str x
  | _, _, .tup h t => .tup (k _ _ h) (TDs.mono k t)
theorem TDs.mono {H H' : Hp} (k : TSm H H') : ∀ {ds : List PyData} {vs : List V}, TDs H vs ds → TDs H' vs ds
  | _, _, .nil => .nil
  | _, _, .cons h t => .cons (TD.mono k h) (TDs.mono k t)
end
mutual
theorem TD.dp {K : PySem.W.Frag} {H : Hp} : ∀ {d : PyData} {v : V}, TD H v d → Dp K H v d
  | _, _, .non => .non
  | _, _, .bl b => .bl b
  | _, _, .int i => .int i
  | _, _, .str x => .str x
  | _, _, .tup h t => .tup (SqT.of h) (TDs.dp t)
theorem TDs.dp {K : PySem.W.Frag} {H : Hp} : ∀ {ds : List PyData} {vs : List V}, TDs H vs ds → DpAll K H vs ds
  | _, _, .nil => .nil
  | _, _, .cons h t => .cons (TD.dp h) (TDs.dp t)
end
theorem TDs.length {H : Hp} : ∀ {vs : List V} {ds : List PyData}, TDs H vs ds → vs.length = ds.length
  | _, _, .nil => rfl
  | _, _, .cons _ t => by simp [TDs.length t]
theorem TDs.app {H : Hp} : ∀ {vs us : List V} {ds es : List PyData}, TDs H vs ds → TDs H us es → TDs H (vs ++ us) (ds ++ es)
  | _, _, _, _, .nil, s => s
  | _, _, _, _, .cons h t, s => .cons h (TDs.app t s)
theorem TDs.get {H : Hp} : ∀ {vs : List V} {ds : List PyData} {i : Nat} {v : V}, TDs H vs ds → vs[i]? = some v → ∃ d, ds[i]? = some d ∧ TD H v d
  | _, _, _, _, .nil, e => by simp at e
  | _, _, 0, _, .cons h _, e => by simp at e; subst e; exact ⟨_, rfl, h⟩
  | _, _, i + 1, _, .cons _ t, e => by
    obtain ⟨d, h1, h2⟩ := TDs.get (i := i) t (by simpa using e)
    exact ⟨d, by simpa using h1, h2⟩
theorem TDs.getD {H : Hp} : ∀ {vs : List V} {ds : List PyData} {i : Nat} {d : PyData}, TDs H vs ds → ds[i]? = some d → ∃ v, vs[i]? = some v ∧ TD H v d
  | _, _, _, _, .nil, e => by simp at e
  | _, _, 0, _, .cons h _, e => by simp at e; subst e; exact ⟨_, rfl, h⟩
  | _, _, i + 1, _, .cons _ t, e => by
    obtain ⟨d, h1, h2⟩ := TDs.getD (i := i) t (by simpa using e)
    exact ⟨d, by simpa using h1, h2⟩
theorem TDs.ints {H : Hp} : ∀ (ns : List Int), TDs H (ns.map V.int) (ns.map PyData.int)
  | [] => .nil
  | n :: r => .cons (.int n) (TDs.ints r)
theorem TDs.one {H : Hp} {v : V} {d : PyData} (h : TD H v d) : TDs H [v] [d] := .cons h .nil
theorem TDs.of_ints {H : Hp} : ∀ {ns : List Int} {vs : List V}, TDs H vs (ns.map PyData.int) → vs = ns.map V.int
  | [], _, .nil => rfl
  | n :: r, _, .cons h t => by
    cases h
    rw [TDs.of_ints t]
    rfl
/-- an int's | None's data -/
def optD : Option Nat → PyData
  | none => .none
  | some n => .int n
def optV : Option Nat → V
  | none => .non
  | some n => .int n
theorem TD.opt {H : Hp} : ∀ o : Option Nat, TD H (optV o) (optD o)
  | none => .non
  | some n => .int n
/-- a telling's data -/
abbrev tlD (t : List Int) : PyData := .tuple (t.map PyData.int)
theorem TD.tl {H : Hp} {a : Addr} {t : List Int} (h : H a = some (.tup (t.map V.int))) : TD H (.ref a) (tlD t) := .tup h (TDs.ints t)
theorem TD.of_tl {H : Hp} {v : V} {t : List Int} (h : TD H v (tlD t)) : ∃ a, v = .ref a ∧ H a = some (.tup (t.map V.int)) := by
  cases h with
  | tup h t =>
    have e := TDs.of_ints t
    subst e
    exact ⟨_, rfl, h⟩

mutual
theorem dp_same {K : PySem.W.Frag} {H H' : Hp} (k : Same H H') : ∀ {d : PyData} {v : V}, Dp K H v d → Dp K H' v d
  | _, _, .non => .non
  | _, _, .bl b => .bl b
  | _, _, .int i => .int i
  | _, _, .str x => .str x
  | _, _, .lst h t => .lst (k.seq h) (dps_same k t)
  | _, _, .tup h t => .tup (by
      rcases h with (h | ⟨o, h⟩) | h
      · exact .inl (.inl (k _ _ h))
      · exact .inl (.inr ⟨o, k _ _ h⟩)
      · exact .inr h) (dps_same k t)
theorem dps_same {K : PySem.W.Frag} {H H' : Hp} (k : Same H H') : ∀ {ds : List PyData} {vs : List V}, DpAll K H vs ds → DpAll K H' vs ds
  | _, _, .nil => .nil
  | _, _, .cons h t => .cons (dp_same k h) (dps_same k t)
end
theorem DpAll.len {K : PySem.W.Frag} {H : Hp} : ∀ {vs : List V} {ds : List PyData}, DpAll K H vs ds → vs.length = ds.length
  | _, _, .nil => rfl
  | _, _, .cons _ t => by simp [DpAll.len t]
theorem DpAll.at {K : PySem.W.Frag} {H : Hp} : ∀ {vs : List V} {ds : List PyData} {i : Nat} {d : PyData}, DpAll K H vs ds → ds[i]? = some d → ∃ v, vs[i]? = some v ∧ Dp K H v d
  | _, _, _, _, .nil, e => by simp at e
  | _, _, 0, _, .cons h _, e => by simp at e; subst e; exact ⟨_, rfl, h⟩
  | _, _, i + 1, _, .cons _ t, e => by
    obtain ⟨v, h1, h2⟩ := DpAll.at (i := i) t (by simpa using e)
    exact ⟨v, by simpa using h1, h2⟩
/-- a value's type by its data -/
def tyN : PyData → String
  | .none => "NoneType"
  | .bool _ => "bool"
  | .int _ => "int"
  | .str _ => "str"
  | .list _ => "list"
  | .tuple _ => "tuple"
  | .dict _ => "dict"
theorem dp_ty {K : PySem.W.Frag} {H : Hp} {v : V} {d : PyData} (h : Dp K H v d) : TyX K H v (.type (tyN d)) := by
  cases h with
  | non => exact .base .non
  | bl b => exact .base (.bl b)
  | int i => exact .base (.int i)
  | str x => exact .base (.str x)
  | lst h t =>
    rcases h with (h | ⟨o, h⟩) | ⟨o, its, n, hk, hc, _⟩
    · exact .base (.lst h)
    · exact .base (.frz h)
    · exact .kList hk hc
  | tup h t =>
    rcases h with (h | ⟨o, h⟩) | ⟨o, its, n, hk, hc, _⟩
    · exact .base (.tup h)
    · exact .fTuple h
    · exact .kTuple hk hc
/-- data of so many levels, no level too long -/
def DOk : Nat → PyData → Prop
  | 0, d => (d = .none ∨ (∃ i, d = .int i) ∨ (∃ b, d = .bool b) ∨ ∃ x, d = .str x)
  | n + 1, d => (d = .none ∨ (∃ i, d = .int i) ∨ (∃ b, d = .bool b) ∨ ∃ x, d = .str x) ∨ ∃ ds : List PyData, (d = .list ds ∨ d = .tuple ds) ∧ ds.length ≤ 10000000 ∧ ∀ e ∈ ds, DOk n e
theorem DOk.sc {n : Nat} {d : PyData} (h : d = .none ∨ (∃ i, d = .int i) ∨ (∃ b, d = .bool b) ∨ ∃ x, d = .str x) : DOk n d := by
  cases n with
  | zero => exact h
  | succ n => exact .inl h
theorem DOk.int {n : Nat} (i : Int) : DOk n (.int i) := .sc (.inr (.inl ⟨i, rfl⟩))
theorem DOk.none {n : Nat} : DOk n .none := .sc (.inl rfl)
theorem DOk.tuple {n : Nat} {ds : List PyData} (l : ds.length ≤ 10000000) (h : ∀ e ∈ ds, DOk n e) : DOk (n + 1) (.tuple ds) := .inr ⟨ds, .inr rfl, l, h⟩
theorem DOk.list {n : Nat} {ds : List PyData} (l : ds.length ≤ 10000000) (h : ∀ e ∈ ds, DOk n e) : DOk (n + 1) (.list ds) := .inr ⟨ds, .inl rfl, l, h⟩
theorem DOk.opt {n : Nat} (o : Option Nat) : DOk n (optD o) := by
  cases o with
  | none => exact DOk.none
  | some x => exact DOk.int _
theorem DOk.tl {n : Nat} {t : List Int} (l : t.length ≤ 10000000) : DOk (n + 1) (tlD t) := DOk.tuple (by rw [List.length_map]; exact l) fun e he => by
  obtain ⟨x, _, rfl⟩ := List.mem_map.mp he
  exact DOk.int x
theorem kit2F {K : PySem.W.Frag} {a b c : String} (h1 : kitB a b = some false) (h2 : kitB a c = some false) : PySem.W.kitAny K (.type a) [.type b, .type c] = some false :=
  kitAny_cons (kit_ty h1) (fun _ => kitAny_cons (kit_ty h2) (fun _ => kitAny_nil) (fun z => nomatch z)) (fun z => nomatch z)
theorem kit2T {K : PySem.W.Frag} {a b c : String} (h1 : kitB a b = some true) : PySem.W.kitAny K (.type a) [.type b, .type c] = some true :=
  kitAny_cons (kit_ty h1) (fun z => nomatch z) (fun _ => rfl)
theorem kit2T' {K : PySem.W.Frag} {a b c : String} (h1 : kitB a b = some false) (h2 : kitB a c = some true) : PySem.W.kitAny K (.type a) [.type b, .type c] = some true :=
  kitAny_cons (kit_ty h1) (fun _ => kitAny_cons (kit_ty h2) (fun z => nomatch z) (fun _ => rfl)) (fun _ => rfl)

/-! ### fields by their places -/
theorem lookup_zip : ∀ (ks : List Str) (vs : List V) (i : Nat) (f : Str), ks.Nodup → ks.length = vs.length → ks[i]? = some f → (ks.zip vs).lookup f = vs[i]?
  | [], _, _, _, _, _, h => by simp at h
  | k :: ks, [], _, _, _, h, _ => by simp at h
  | k :: ks, v :: vs, 0, f, _, _, h => by
    simp at h
    subst h
    simp [List.lookup]
  | k :: ks, v :: vs, i + 1, f, nd, l, h => by
    have nd' := List.nodup_cons.mp nd
    have hm : f ∈ ks := List.mem_of_getElem? (by simpa using h)
    have ne : (f == k) = false := by
      rw [beq_eq_false_iff_ne]
      intro e
      exact nd'.1 (e ▸ hm)
    show List.lookup f ((k, v) :: ks.zip vs) = _
    rw [List.lookup_cons, ne]
    simpa using lookup_zip ks vs i f nd'.2 (by simpa using l) (by simpa using h)
theorem lookup_zip_none : ∀ (ks : List Str) (vs : List V) (f : Str), f ∉ ks → (ks.zip vs).lookup f = none
  | [], _, _, _ => by simp
  | k :: ks, [], _, _ => by simp
  | k :: ks, v :: vs, f, h => by
    have ne : (f == k) = false := by
      rw [beq_eq_false_iff_ne]
      intro e
      exact h (e ▸ List.mem_cons_self ..)
    show List.lookup f ((k, v) :: ks.zip vs) = _
    rw [List.lookup_cons, ne]
    exact lookup_zip_none ks vs f fun z => h (List.mem_cons_of_mem _ z)
theorem putF_zip : ∀ (ks : List Str) (vs : List V) (i : Nat) (f : Str) (x : V), ks.Nodup → ks.length = vs.length → ks[i]? = some f → putF f x (ks.zip vs) = ks.zip (vs.set i x)
  | [], _, _, _, _, _, _, h => by simp at h
  | k :: ks, [], _, _, _, _, h, _ => by simp at h
  | k :: ks, v :: vs, 0, f, x, _, _, h => by
    simp at h
    subst h
    show (if k = k then (k, x) :: ks.zip vs else _) = _
    rw [if_pos rfl]
    rfl
  | k :: ks, v :: vs, i + 1, f, x, nd, l, h => by
    have nd' := List.nodup_cons.mp nd
    have hm : f ∈ ks := List.mem_of_getElem? (by simpa using h)
    have ne : ¬ k = f := fun e => nd'.1 (e ▸ hm)
    show (if k = f then (k, x) :: ks.zip vs else (k, v) :: putF f x (ks.zip vs)) = _
    rw [if_neg ne, putF_zip ks vs i f x nd'.2 (by simpa using l) (by simpa using h)]
    rfl
theorem putF_zip_new : ∀ (ks : List Str) (vs : List V) (f : Str) (x : V), ks.length = vs.length → f ∉ ks → putF f x (ks.zip vs) = (ks ++ [f]).zip (vs ++ [x])
  | [], [], f, x, _, _ => rfl
  | [], v :: vs, _, _, h, _ => by simp at h
  | k :: ks, [], _, _, h, _ => by simp at h
  | k :: ks, v :: vs, f, x, l, h => by
    have ne : ¬ k = f := fun e => h (e ▸ List.mem_cons_self ..)
    show (if k = f then (k, x) :: ks.zip vs else (k, v) :: putF f x (ks.zip vs)) = _
    rw [if_neg ne, putF_zip_new ks vs f x (by simpa using l) fun z => h (List.mem_cons_of_mem _ z)]
    rfl
theorem putF_take {ks : List Str} {vs : List V} {i : Nat} {f : Str} {x : V} (nd : ks.Nodup) (h : ks[i]? = some f) (l : vs.length = i) : putF f x ((ks.take i).zip vs) = (ks.take (i + 1)).zip (vs ++ [x]) := by
  have hi : i < ks.length := (List.getElem?_eq_some_iff.mp h).1
  rw [List.take_add_one, h]
  refine putF_zip_new (ks.take i) vs f x ?_ ?_
  · rw [List.length_take, l]
    omega
  · intro hm
    obtain ⟨j, hj, e⟩ := List.mem_take_iff_getElem.mp hm
    have h1 : ks[j]? = some f := by
      rw [List.getElem?_eq_getElem (by omega), e]
    have := nodup_ix nd h1 h
    omega
theorem Keep.join {M N : List Addr} {H0 Hb H : Hp} (a : Keep M H0 Hb) (b : Keep N Hb H) (h : ∀ n ∈ N, n ∈ M ∨ H0 n = none) : Keep M H0 H := fun c o n e => by
  refine b c o (fun hc => ?_) (a c o n e)
  rcases h c hc with q | q
  · exact n q
  · rw [q] at e
    cases e
theorem fresh_of {M : List Addr} {H H1 : Hp} {b : Addr} (k : Keep M H H1) (h : ∀ m ∈ M, ∃ o, H1 m = some o) (n : H1 b = none) : H b = none := by
  cases e : H b with
  | none => rfl
  | some o =>
    by_cases e1 : b ∈ M
    · obtain ⟨u, hu⟩ := h b e1
      rw [hu] at n
      cases n
    · rw [k _ _ e1 e] at n
      cases n
/-- what was there is there -/
def Dom (H H' : Hp) : Prop := ∀ b, H' b = none → H b = none
theorem Dom.refl (H : Hp) : Dom H H := fun _ h => h
theorem Dom.trans {H H1 H2 : Hp} (a : Dom H H1) (b : Dom H1 H2) : Dom H H2 := fun c h => a c (b c h)
theorem dom_upd (H : Hp) (a : Addr) (o : HO) : Dom H (upd H a o) := fun b h => by
  by_cases e : b = a
  · rw [e, upd_same] at h
    cases h
  · rw [upd_ne e] at h
    exact h
theorem Dom.upd {H H' : Hp} (k : Dom H H') (a : Addr) (o : HO) : Dom H (L2.upd H' a o) := k.trans (dom_upd _ _ _)
theorem Dom.of_keep {M : List Addr} {H H1 : Hp} (k : Keep M H H1) (h : ∀ m ∈ M, ∃ o, H1 m = some o) : Dom H H1 := fun _ n => fresh_of k h n
theorem Dom.of_same {H H1 : Hp} (k : Same H H1) : Dom H H1 := fun _ n => k.free n
/-- a plain if without an else, its rest once -/
theorem if_skip {c : Prop} [Decidable c] {t : L2.TS} {D : Ends} {σ : L2.St} {H : Hp} (Cd : Hp → Prop) (rest : ∀ H1, Cd H1 → D.nx σ H1) (h1 : c → (∀ H1, Cd H1 → D.nx σ H1) → t D σ H) (h2 : ¬ c → Cd H) :
    if c then t D σ H else tNext D σ H := by
  by_cases hc : c
  · rw [if_pos hc]
    exact h1 hc rest
  · rw [if_neg hc]
    exact rest H (h2 hc)
/-- a if c else b, its rest once -/
theorem ife_skip {c : Prop} [Decidable c] {ta tb : TE} {σ : L2.St} {H : Hp} {Q : VK} (R : V → Hp → Prop) (rest : ∀ v H1, R v H1 → Q v H1) (h1 : c → (∀ v H1, R v H1 → Q v H1) → ta σ H Q) (h2 : ¬ c → (∀ v H1, R v H1 → Q v H1) → tb σ H Q) :
    if c then ta σ H Q else tb σ H Q := by
  by_cases hc : c
  · rw [if_pos hc]
    exact h1 hc rest
  · rw [if_neg hc]
    exact h2 hc rest
theorem zip_len (ks : List Str) (vs : List V) : (ks.zip vs).length ≤ ks.length := by
  rw [List.length_zip]
  exact Nat.min_le_left _ _
theorem canLayAll_of {α : Type} {f : α → PyData} : ∀ {xs : List α}, (∀ x ∈ xs, (f x).canLay0 = true) → PyData.canLayAll0 (xs.map f) = true
  | [], _ => by simp [PyData.canLayAll0]
  | x :: r, h => by
    simp only [List.map_cons, PyData.canLayAll0, Bool.and_eq_true]
    exact ⟨h x (List.mem_cons_self ..), canLayAll_of fun y hy => h y (List.mem_cons_of_mem _ hy)⟩
theorem depthAll_of {α : Type} {f : α → PyData} {k : Nat} : ∀ {xs : List α}, (∀ x ∈ xs, (f x).depth ≤ k) → PyData.depthAll (xs.map f) ≤ k
  | [], _ => by simp [PyData.depthAll]
  | x :: r, h => by
    simp only [List.map_cons, PyData.depthAll]
    exact Nat.max_le.mpr ⟨h x (List.mem_cons_self ..), depthAll_of fun y hy => h y (List.mem_cons_of_mem _ hy)⟩
/-- data that can be compared: how deep -/
def Lay (k : Nat) (d : PyData) : Prop := d.canLay0 = true ∧ d.depth ≤ k
theorem Lay.shaped {k : Nat} {d : PyData} (h : Lay k d) (hk : k ≤ 64) : SeqAt.shaped d = true := by
  unfold SeqAt.shaped
  rw [Bool.and_eq_true]
  exact ⟨h.1, decide_eq_true (Nat.le_trans h.2 hk)⟩
theorem Lay.mono {j k : Nat} {d : PyData} (h : Lay j d) (hk : j ≤ k) : Lay k d := ⟨h.1, Nat.le_trans h.2 hk⟩
theorem Lay.int (i : Int) : Lay 0 (.int i) := ⟨by simp [PyData.canLay0], by simp [PyData.depth]⟩
theorem Lay.none : Lay 0 .none := ⟨by simp [PyData.canLay0], by simp [PyData.depth]⟩
theorem Lay.bool (b : Bool) : Lay 0 (.bool b) := ⟨by simp [PyData.canLay0], by simp [PyData.depth]⟩
theorem Lay.list {α : Type} {f : α → PyData} {k : Nat} {xs : List α} (h : ∀ x ∈ xs, Lay k (f x)) : Lay (k + 1) (.list (xs.map f)) := by
  refine ⟨?_, ?_⟩
  · rw [PyData.canLay0]
    exact canLayAll_of fun x hx => (h x hx).1
  · rw [PyData.depth]
    exact Nat.succ_le_succ (depthAll_of fun x hx => (h x hx).2)
theorem Lay.tuple {α : Type} {f : α → PyData} {k : Nat} {xs : List α} (h : ∀ x ∈ xs, Lay k (f x)) : Lay (k + 1) (.tuple (xs.map f)) := by
  refine ⟨?_, ?_⟩
  · rw [PyData.canLay0]
    exact canLayAll_of fun x hx => (h x hx).1
  · rw [PyData.depth]
    exact Nat.succ_le_succ (depthAll_of fun x hx => (h x hx).2)
theorem Lay.nil : Lay 1 (.list []) := Lay.list (f := PyData.int) (xs := []) (k := 0) (by simp)
theorem Lay.tl (t : List Int) : Lay 1 (tlD t) := Lay.tuple fun x _ => Lay.int x
theorem Lay.refl {k : Nat} {d : PyData} (h : Lay k d) : PyData.eqv d d = true := SeqAt.eqv_refl d h.1
theorem eqv_nil (ds : List PyData) : PyData.eqv (.list ds) (.list []) = ds.isEmpty := by
  cases ds with
  | nil => simp [PyData.eqv, PyData.eqvAll]
  | cons x r => simp [PyData.eqv, PyData.eqvAll]
theorem dpAll_ints {K : PySem.W.Frag} {H : Hp} (ns : List Int) : DpAll K H (ns.map V.int) (ns.map PyData.int) := (TDs.ints ns).dp
theorem fmod_nat (a b : Nat) : ((a : Nat) : Int).fmod ((b : Nat) : Int) = ((a % b : Nat) : Int) := by
  rw [Int.fmod_eq_emod_of_nonneg _ (by omega)]
  rfl
theorem fdiv_nat (a b : Nat) : ((a : Nat) : Int).fdiv ((b : Nat) : Int) = ((a / b : Nat) : Int) := by
  rw [Int.fdiv_eq_ediv_of_nonneg _ (by omega)]
  rfl
theorem cut_nat {xs : List V} {a b : Nat} (ha : a ≤ xs.length) (hb : b ≤ xs.length) : cutV xs (some ((a : Nat) : Int)) (some ((b : Nat) : Int)) = (xs.drop a).take (b - a) := by
  unfold cutV
  rw [HT.sIx_nat, HT.sIx_nat, Nat.min_eq_left ha, Nat.min_eq_left hb]
/-! ### rules within a comprehension: the written part is told -/
section
variable {X : Cx} {K : PySem.W.Frag}
theorem ix_listK (h : X.K = K) : IxR X (rIxL K) := h ▸ ix_list
theorem ix_tupK (h : X.K = K) : IxR X (rIxT K) := h ▸ ix_tup
theorem ix_seqK (h : X.K = K) : IxR X (rIx K) := h ▸ ix_seq
def rLenSq (K : PySem.W.Frag) : List V → Hp → VK → Prop := fun xs H Q => ∃ p ys, xs = [.ref p] ∧ (SqL K H p ys ∨ SqT K H p ys) ∧ Q (.int ys.length) H
theorem call_lenK (h : X.K = K) : CallR X (.builtin "len") (rLenSq K) := h ▸ call_len_seq
theorem op_eqDK (h : X.K = K) (hu : X.A.units + 64 < cLine) : OpR X (compareOp .Eq) (rEqD K) := h ▸ op_eqD hu
theorem op_neDK (h : X.K = K) (hu : X.A.units + 64 < cLine) : OpR X (compareOp .NotEq) (rNeD K) := h ▸ op_neD hu
theorem op_in_seqK (h : X.K = K) : OpR X (compareOp .In) (rIn K false) := h ▸ op_in_seq
theorem op_notIn_seqK (h : X.K = K) : OpR X (compareOp .NotIn) (rIn K true) := h ▸ op_notIn_seq
theorem sl_listK (h : X.K = K) : SlR X (rSlL K) := h ▸ sl_list
theorem sl_tupK (h : X.K = K) : SlR X (rSlT K) := h ▸ sl_tup
theorem call_isiK' (h : X.K = K) : CallR X (.builtin "isinstance") (rIsi K) := h ▸ call_isi
theorem pe_fldK {e : Expr} {f : Str} {pos : Pos} {ta : TE} (h : X.K = K) (he : PE X e ta) (hb : attributeBase e f X.env (eval e X.env) = eval e X.env) : PE X (.Attribute e f pos) (tFld K ta f) := h ▸ pe_fld he hb
theorem pe_bmK {o e : Expr} {es : List Expr} {to : TE} {t : TA} {name : Str} {apos cpos : Pos} {T id : String} {r : V → List V → Hp → VK → Prop} (hK : X.K = K)
    (pa : PlainAttrs T) (sl : Slot T name id) (ty : typeOf (.builtin id) = pure (.type "method_descriptor")) (m : MtR X id r) (po : PE X o to) (args : PA X (e :: es) t)
    (h1 : attributeBase o name X.env (eval o X.env) = eval o X.env := by rfl)
    (h2 : ((backTo cpos (starEach (e :: es) X.env)).all (fun x => !x.1) && (backToKw cpos (keywordEach [] X.env)).all (fun x => x.1.isSome) && decide ((e :: es).length + ([] : List Keyword).length + (if ([] : List Keyword).isEmpty then 0 else 1) < 30)) = true := by rfl)
    (h3 : (apos.endLine == cpos.line) = true := by rfl)
    (h4 : starEach (e :: es) X.env = (false, eval e X.env) :: starEach es X.env := by rfl)
    (h5 : (backTo cpos (starEach es X.env)).any (·.1) = false := by rfl) :
    PE X (.Call (.Attribute o name apos) (e :: es) [] cpos) (tBM K T r to t) := hK ▸ pe_bm pa sl ty m po args h1 h2 h3 h4 h5
theorem pg_tupK {es : List Expr} {k : Nat} {pos : Pos} {t : TGs} {n : Nat} (hK : X.K = K) (hc : X.calm = true) (h : PGs X es t) (hn : (assignEach es X.env).length = n := by rfl) (hst : (assignEach es X.env).findIdx? (·.1) = none := by rfl) :
    PG X (.Tuple es k pos) (gTup K n t) := hK ▸ pg_tup hc h hn hst
end
theorem le_line {n : Nat} (h : n ≤ 16000000) : n ≤ sizeLine := Nat.le_trans h (by decide)
theorem lt_line {n : Nat} (h : n < 16000000) : n < sizeLine := Nat.lt_of_lt_of_le h (by decide)
theorem bl_of {c : Prop} [Decidable c] {Q : V → Hp → Prop} {H : Hp} (hc : c) (h : Q (.bl true) H) : Q (.bl (decide c)) H := by
  rw [decide_eq_true hc]
  exact h
theorem dT {c : Prop} [Decidable c] (h : c) : V.bl (decide c) = V.bl true := by rw [decide_eq_true h]
theorem dF {c : Prop} [Decidable c] (h : ¬ c) : V.bl (decide c) = V.bl false := by rw [decide_eq_false h]
theorem ndT {c : Prop} [Decidable c] (h : ¬ c) : V.bl (!decide c) = V.bl true := by rw [decide_eq_false h]; rfl
theorem ndF {c : Prop} [Decidable c] (h : c) : V.bl (!decide c) = V.bl false := by rw [decide_eq_true h]; rfl
theorem map_get {α β : Type} {f : α → β} {xs : List α} {i : Nat} {y : β} (h : (xs.map f)[i]? = some y) : ∃ x, xs[i]? = some x ∧ y = f x := by
  rw [List.getElem?_map] at h
  cases e : xs[i]? with
  | none => rw [e] at h; cases h
  | some x => rw [e] at h; exact ⟨x, rfl, (Option.some.inj h).symm⟩
end Sky

/-! Tellings laid into frames: the numbers, the frames of them. -/
namespace Sky
open PySem PySem.Spec PyProof.Rows L2
def tellOk (t : List Int) : Prop := 1 ≤ t.length ∧ t.length ≤ 20 ∧ ∀ x ∈ t, 0 ≤ x ∧ x ≤ 255
/-- a frame: count, first, body -/
abbrev Frm := Nat × Option Nat × List Int
def inFr (z c s : Nat) : Bool := decide (c * z ≤ s) && decide (s < c * z + z)
def firstOf (z c : Nat) (S : List Nat) : Option Nat := ((S.filter (inFr z c)).map (· - c * z)).head?
def frm (z : Nat) (N : List Int) (S : List Nat) (c : Nat) : Frm := (c, firstOf z c S, (N.drop (c * z)).take z)
def frms (z : Nat) (N : List Int) (S : List Nat) : List Frm := (List.range (N.length / z)).map (frm z N S)
def frmD (st : Int) (f : Frm) : PyData := .tuple [.int st, .int f.1, optD f.2.1, tlD f.2.2]
def laidN (m : Int) (t : List Int) : List Int := (t.length : Int) :: m.fdiv 256 :: m.fmod 256 :: t
def lay1 (x : List Int × List Nat) (t : List Int) : List Int × List Nat := (x.1 ++ laidN (x.2.length : Int) t, x.2 ++ [x.1.length])
def layAll (ts : List (List Int)) : List Int × List Nat := ts.foldl lay1 ([], [])
def padN (z : Nat) (N : List Int) : List Int := if N.length % z = 0 then N else N ++ List.replicate (z - N.length % z) 0
theorem laidN_length (m : Int) (t : List Int) : (laidN m t).length = t.length + 3 := by simp [laidN]
theorem layAll_snoc (ts : List (List Int)) (t : List Int) : layAll (ts ++ [t]) = lay1 (layAll ts) t := by
  unfold layAll
  rw [List.foldl_append]
  rfl
theorem layAll_take {ts : List (List Int)} {i : Nat} {t : List Int} (h : ts[i]? = some t) : layAll (ts.take (i + 1)) = lay1 (layAll (ts.take i)) t := by
  rw [List.take_add_one, h]
  exact layAll_snoc _ _
/-- what holds of the numbers and the starts of such -/
structure Laid (N : List Int) (S : List Nat) : Prop where
  le : ∀ s ∈ S, s ≤ N.length
  asc : S.Pairwise (· ≤ ·)
theorem Laid.nil : Laid [] [] := ⟨by simp, by simp⟩
theorem Laid.start {N : List Int} {S : List Nat} (h : Laid N S) : Laid N (S ++ [N.length]) := by
  refine ⟨fun s hs => ?_, ?_⟩
  · rcases List.mem_append.mp hs with q | q
    · exact h.le s q
    · rw [List.mem_singleton.mp q]
      exact Nat.le_refl _
  · rw [List.pairwise_append]
    refine ⟨h.asc, by simp, fun a ha b hb => ?_⟩
    rw [List.mem_singleton.mp hb]
    exact h.le a ha
theorem Laid.more {N : List Int} {S : List Nat} (h : Laid N S) (xs : List Int) : Laid (N ++ xs) S := ⟨fun s hs => by
  rw [List.length_append]
  exact Nat.le_trans (h.le s hs) (Nat.le_add_right _ _), h.asc⟩
theorem Laid.lay1 {x : List Int × List Nat} (h : Laid x.1 x.2) (t : List Int) : Laid (lay1 x t).1 (lay1 x t).2 := (h.start).more _
theorem laid_all : ∀ ts : List (List Int), Laid (layAll ts).1 (layAll ts).2 := fun ts => by
  unfold layAll
  suffices h : ∀ (ts : List (List Int)) (x : List Int × List Nat), Laid x.1 x.2 → Laid (ts.foldl Sky.lay1 x).1 (ts.foldl Sky.lay1 x).2 from h ts _ Laid.nil
  intro ts
  induction ts with
  | nil => exact fun x h => h
  | cons t r ih => exact fun x h => ih _ (h.lay1 t)
theorem firstOf_app (z c : Nat) (S : List Nat) (n : Nat) : firstOf z c (S ++ [n]) = (firstOf z c S).or (if inFr z c n = true then some (n - c * z) else none) := by
  unfold firstOf
  rw [List.filter_append, List.map_append, List.head?_append]
  congr 1
  by_cases h : inFr z c n = true
  · rw [if_pos h, List.filter_cons_of_pos h]
    rfl
  · rw [if_neg h, List.filter_cons_of_neg h]
    rfl
theorem firstOf_none {z c : Nat} {S : List Nat} (h : ∀ s ∈ S, s < c * z) : firstOf z c S = none := by
  unfold firstOf
  have e : S.filter (inFr z c) = [] := by
    rw [List.filter_eq_nil_iff]
    intro s hs
    have := h s hs
    unfold inFr
    simp
    omega
  rw [e]
  rfl
theorem div_eq {z n c : Nat} (h1 : c * z ≤ n) (h2 : n < c * z + z) : n / z = c := by
  apply Nat.div_eq_of_lt_le h1
  rw [Nat.succ_mul]
  exact h2
theorem div_lo (z n : Nat) : n / z * z ≤ n := Nat.div_mul_le_self n z
theorem div_hi {z : Nat} (hz : 0 < z) (n : Nat) : n < n / z * z + z := by
  have := Nat.lt_div_mul_add hz (a := n)
  omega
theorem div_mod (z n : Nat) : n / z * z + n % z = n := by
  have := Nat.div_add_mod n z
  rw [Nat.mul_comm] at this
  exact this
/-- the frames that are full depend neither on later numbers nor on later starts -/
theorem frm_more {z c : Nat} {N xs : List Int} {S : List Nat} (h : c * z + z ≤ N.length) : frm z (N ++ xs) S c = frm z N S c := by
  unfold frm
  rw [List.drop_append_of_le_length (by omega), List.take_append_of_le_length (by rw [List.length_drop]; omega)]
theorem frm_start {z c : Nat} {N : List Int} {S : List Nat} {n : Nat} (h : c * z + z ≤ n) : frm z N (S ++ [n]) c = frm z N S c := by
  unfold frm
  rw [firstOf_app, if_neg, Option.or_none]
  unfold inFr
  simp
  omega
theorem frms_start (z : Nat) (N : List Int) (S : List Nat) : frms z N (S ++ [N.length]) = frms z N S := by
  unfold frms
  refine List.map_congr_left fun c hc => ?_
  have h1 : c < N.length / z := List.mem_range.mp hc
  refine frm_start ?_
  have := Nat.mul_le_mul_right z (show c + 1 ≤ N.length / z from h1)
  rw [Nat.succ_mul] at this
  have := div_lo z N.length
  omega
theorem frms_low {z : Nat} {N xs : List Int} {S : List Nat} : (List.range (N.length / z)).map (frm z (N ++ xs) S) = frms z N S := by
  unfold frms
  refine List.map_congr_left fun c hc => frm_more ?_
  have h1 : c < N.length / z := List.mem_range.mp hc
  have := Nat.mul_le_mul_right z (show c + 1 ≤ N.length / z from h1)
  rw [Nat.succ_mul] at this
  have := div_lo z N.length
  omega
theorem frms_same {z : Nat} (hz : 0 < z) {N xs : List Int} {S : List Nat} (h : N.length + xs.length < N.length / z * z + z) : frms z (N ++ xs) S = frms z N S := by
  have e : (N ++ xs).length / z = N.length / z := by
    rw [List.length_append]
    refine div_eq ?_ h
    have := div_lo z N.length
    omega
  unfold frms
  rw [e]
  exact frms_low
/-- some numbers that just fill the frame -/
theorem frms_full {z : Nat} (hz : 0 < z) {N xs : List Int} {S : List Nat} (h : N.length + xs.length = N.length / z * z + z) :
    frms z (N ++ xs) S = frms z N S ++ [(N.length / z, firstOf z (N.length / z) S, N.drop (N.length / z * z) ++ xs)] := by
  have e : (N ++ xs).length / z = N.length / z + 1 := by
    rw [List.length_append, h]
    refine div_eq ?_ ?_ <;> rw [Nat.succ_mul] <;> omega
  have := div_lo z N.length
  show (List.range ((N ++ xs).length / z)).map (frm z (N ++ xs) S) = _
  rw [e, List.range_succ, List.map_append, frms_low]
  congr 1
  show [frm z (N ++ xs) S (N.length / z)] = _
  unfold frm
  rw [List.drop_append_of_le_length this, List.take_of_length_le]
  rw [List.length_append, List.length_drop]
  omega
theorem frms_pad {z : Nat} (hz : 0 < z) {N : List Int} {S : List Nat} (h : N.length % z ≠ 0) :
    frms z (padN z N) S = frms z N S ++ [(N.length / z, firstOf z (N.length / z) S, N.drop (N.length / z * z) ++ List.replicate (z - N.length % z) 0)] := by
  unfold padN
  rw [if_neg h]
  refine frms_full hz ?_
  rw [List.length_replicate]
  have := div_mod z N.length
  have := Nat.mod_lt N.length hz
  omega
theorem frms_pad0 {z : Nat} {N : List Int} {S : List Nat} (h : N.length % z = 0) : frms z (padN z N) S = frms z N S := by
  unfold padN
  rw [if_pos h]
theorem body_length (z : Nat) (N : List Int) : (N.drop (N.length / z * z)).length = N.length % z := by
  rw [List.length_drop]
  have := div_mod z N.length
  omega
theorem step_full {z : Nat} (hz : 0 < z) {N : List Int} {x : Int} (h : N.length % z + 1 = z) :
    N.length + 1 = N.length / z * z + z ∧ (N ++ [x]).length / z = N.length / z + 1 ∧ (N ++ [x]).drop ((N.length / z + 1) * z) = [] := by
  have h1 := div_mod z N.length
  have h2 : N.length + 1 = N.length / z * z + z := by omega
  refine ⟨h2, ?_, ?_⟩
  · rw [List.length_append, List.length_singleton, h2]
    refine div_eq ?_ ?_ <;> rw [Nat.succ_mul] <;> omega
  · apply List.drop_eq_nil_of_le
    rw [List.length_append, List.length_singleton, h2, Nat.succ_mul]
    exact Nat.le_refl _
theorem step_not {z : Nat} (hz : 0 < z) {N : List Int} {x : Int} (h : N.length % z + 1 ≠ z) :
    N.length + 1 < N.length / z * z + z ∧ (N ++ [x]).length / z = N.length / z ∧ (N ++ [x]).drop (N.length / z * z) = N.drop (N.length / z * z) ++ [x] := by
  have h1 := div_mod z N.length
  have h3 := Nat.mod_lt N.length hz
  have h2 : N.length + 1 < N.length / z * z + z := by omega
  refine ⟨h2, ?_, ?_⟩
  · rw [List.length_append, List.length_singleton]
    exact div_eq (by omega) h2
  · exact List.drop_append_of_le_length (by omega)
theorem first_start {z : Nat} (hz : 0 < z) (N : List Int) (S : List Nat) : firstOf z (N.length / z) (S ++ [N.length]) = (firstOf z (N.length / z) S).or (some (N.length % z)) := by
  have h1 := div_mod z N.length
  have h2 := div_hi hz N.length
  rw [firstOf_app, if_pos (by unfold inFr; simp; omega)]
  congr 2
  omega
theorem frms_length (z : Nat) (N : List Int) (S : List Nat) : (frms z N S).length = N.length / z := by simp [frms]
theorem frms_lay {z : Nat} (x : List Int × List Nat) (t : List Int) :
    frms z x.1 x.2 ++ (frms z (lay1 x t).1 (lay1 x t).2).drop (x.1.length / z) = frms z (lay1 x t).1 (lay1 x t).2 := by
  have e : (frms z (lay1 x t).1 (lay1 x t).2).take (x.1.length / z) = frms z x.1 x.2 := by
    have h : x.1.length / z ≤ (lay1 x t).1.length / z := Nat.div_le_div_right (by unfold lay1; rw [List.length_append]; exact Nat.le_add_right _ _)
    unfold frms
    rw [← List.map_take, List.take_range, Nat.min_eq_left h]
    show (List.range (x.1.length / z)).map (frm z (x.1 ++ laidN (x.2.length : Int) t) (x.2 ++ [x.1.length])) = _
    rw [frms_low, frms_start]
    rfl
  rw [← e]
  exact List.take_append_drop _ _
theorem layAll_le : ∀ (ts : List (List Int)), (∀ t ∈ ts, t.length ≤ 20) → (layAll ts).1.length ≤ 23 * ts.length := by
  intro ts h
  unfold layAll
  suffices g : ∀ (ts : List (List Int)) (x : List Int × List Nat), (∀ t ∈ ts, t.length ≤ 20) → (ts.foldl lay1 x).1.length ≤ x.1.length + 23 * ts.length by
    have := g ts ([], []) h
    simpa using this
  intro ts
  induction ts with
  | nil => intro x _; exact Nat.le_refl _
  | cons t r ih =>
    intro x hx
    have h1 := ih (lay1 x t) fun u hu => hx u (List.mem_cons_of_mem _ hu)
    have h2 := hx t (List.mem_cons_self ..)
    have h3 : (lay1 x t).1.length = x.1.length + (t.length + 3) := by unfold lay1; rw [List.length_append, laidN_length]
    rw [List.foldl_cons, List.length_cons]
    omega
theorem layAll_len : ∀ (ts : List (List Int)), (layAll ts).2.length = ts.length := by
  intro ts
  unfold layAll
  suffices g : ∀ (ts : List (List Int)) (x : List Int × List Nat), (ts.foldl lay1 x).2.length = x.2.length + ts.length by
    have := g ts ([], [])
    simpa using this
  intro ts
  induction ts with
  | nil => intro x; rfl
  | cons t r ih =>
    intro x
    rw [List.foldl_cons, ih, List.length_cons]
    unfold lay1
    rw [List.length_append, List.length_singleton]
    omega
/-- the first of ascending ones is the least -/
theorem head_least : ∀ {ns : List Nat} {m : Nat}, ns.Pairwise (· ≤ ·) → m ∈ ns → (∀ y ∈ ns, m ≤ y) → ns.head? = some m
  | x :: r, m, p, hm, hl => by
    have h1 : m ≤ x := hl x (List.mem_cons_self ..)
    have h2 : x ≤ m := by
      rcases List.mem_cons.mp hm with e | e
      · exact Nat.le_of_eq e.symm
      · exact (List.pairwise_cons.mp p).1 m e
    show some x = some m
    rw [Nat.le_antisymm h2 h1]
theorem firstOf_least {z c : Nat} {S : List Nat} {m : Nat} (p : S.Pairwise (· ≤ ·)) (hm : m ∈ (S.filter (inFr z c)).map (· - c * z)) (hl : ∀ y ∈ (S.filter (inFr z c)).map (· - c * z), m ≤ y) : firstOf z c S = some m := by
  refine head_least ?_ hm hl
  refine List.Pairwise.map _ (fun a b h => ?_) (p.filter _)
  show a - c * z ≤ b - c * z
  exact Nat.sub_le_sub_right h _
end Sky

/-! What is read from frames: tellings by their starts, the places in a frame at which some begin, the rows. -/
namespace Sky
open PySem PySem.Spec PyProof.Rows L2
/-- numbers N in which tellings begin at places, one behind the other or behind a filled-up frame -/
structure Lays (z : Nat) (N : List Int) (L : List (Nat × List Int)) : Prop where
  item : ∀ j a t, L[j]? = some (a, t) → a + (t.length + 3) ≤ N.length ∧ (N.drop a).take (t.length + 3) = laidN (j : Nat) t ∧ tellOk t
  next : ∀ j a t a' t', L[j]? = some (a, t) → L[j + 1]? = some (a', t') → a' = a + (t.length + 3) ∨ (N[a + (t.length + 3)]? = some 0 ∧ (a + (t.length + 3)) / z * z + z ≤ a')
  last : ∀ j a t, L[j]? = some (a, t) → L[j + 1]? = none → a + (t.length + 3) = N.length ∨ (N[a + (t.length + 3)]? = some 0 ∧ (a + (t.length + 3)) / z * z + z ≤ N.length)
  laid : Laid N (L.map (·.1))
  nums : ∀ x ∈ N, 0 ≤ x ∧ x ≤ 255
theorem Lays.nil (z : Nat) : Lays z [] [] := ⟨by simp, by simp, by simp, Laid.nil, by simp⟩
theorem Lays.lay {z : Nat} {N : List Int} {L : List (Nat × List Int)} {t : List Int} (h : Lays z N L) (ok : tellOk t) (few : L.length < 65536) : Lays z (N ++ laidN (L.length : Nat) t) (L ++ [(N.length, t)]) := by
  have hll : (laidN (L.length : Nat) t).length = t.length + 3 := laidN_length _ _
  refine ⟨fun j a u e => ?_, fun j a u a' u' e e' => ?_, fun j a u e e' => ?_, ?_, fun x hx => ?_⟩
  · by_cases hj : j < L.length
    · rw [List.getElem?_append_left hj] at e
      obtain ⟨h1, h2, h3⟩ := h.item j a u e
      refine ⟨by rw [List.length_append]; omega, ?_, h3⟩
      rw [List.drop_append_of_le_length (by omega), List.take_append_of_le_length (by rw [List.length_drop]; omega)]
      exact h2
    · have hj' : j = L.length := by
        have := (List.getElem?_eq_some_iff.mp e).1
        rw [List.length_append, List.length_singleton] at this
        omega
      subst hj'
      rw [List.getElem?_append_right (Nat.le_refl _), Nat.sub_self] at e
      have e2 : (N.length, t) = (a, u) := Option.some.inj e
      injection e2 with e3 e4
      subst e3 e4
      refine ⟨by rw [List.length_append, hll]; omega, ?_, ok⟩
      rw [List.drop_append_of_le_length (Nat.le_refl _), List.drop_length, List.nil_append, List.take_of_length_le (by omega)]
  · by_cases hj : j + 1 < L.length
    · rw [List.getElem?_append_left (by omega)] at e
      rw [List.getElem?_append_left hj] at e'
      rcases h.next j a u a' u' e e' with q | ⟨q, r⟩
      · exact .inl q
      · refine .inr ⟨?_, r⟩
        rw [List.getElem?_append_left (List.getElem?_eq_some_iff.mp q).1]
        exact q
    · have hj' : j + 1 = L.length := by
        have := (List.getElem?_eq_some_iff.mp e').1
        rw [List.length_append, List.length_singleton] at this
        omega
      rw [List.getElem?_append_left (by omega)] at e
      rw [hj', List.getElem?_append_right (Nat.le_refl _), Nat.sub_self] at e'
      have e2 : (N.length, t) = (a', u') := Option.some.inj e'
      injection e2 with e3 e4
      subst e3
      rcases h.last j a u e (List.getElem?_eq_none (by omega)) with q | ⟨q, r⟩
      · exact .inl q.symm
      · refine .inr ⟨?_, r⟩
        rw [List.getElem?_append_left (List.getElem?_eq_some_iff.mp q).1]
        exact q
  · have hj' : j = L.length := by
      have h1 := (List.getElem?_eq_some_iff.mp e).1
      have h2 := List.getElem?_eq_none_iff.mp e'
      rw [List.length_append, List.length_singleton] at h1 h2
      omega
    subst hj'
    rw [List.getElem?_append_right (Nat.le_refl _), Nat.sub_self] at e
    have e2 : (N.length, t) = (a, u) := Option.some.inj e
    injection e2 with e3 e4
    subst e3 e4
    left
    rw [List.length_append, hll]
  · rw [List.map_append]
    exact h.laid.start.more _
  · rcases List.mem_append.mp hx with q | q
    · exact h.nums x q
    · unfold laidN at q
      simp only [List.mem_cons] at q
      have h1 := ok.1
      have h2 := ok.2.1
      rcases q with e | e | e | e
      · omega
      · rw [e, Int.fdiv_eq_ediv_of_nonneg _ (by omega)]
        omega
      · rw [e, Int.fmod_eq_emod_of_nonneg _ (by omega)]
        omega
      · exact ok.2.2 x e
theorem padN_length {z : Nat} (hz : 0 < z) (N : List Int) : (padN z N).length = if N.length % z = 0 then N.length else N.length / z * z + z := by
  unfold padN
  have := div_mod z N.length
  have := Nat.mod_lt N.length hz
  split
  · rfl
  · rw [List.length_append, List.length_replicate]
    omega
theorem Lays.pad {z : Nat} {N : List Int} {L : List (Nat × List Int)} (hz : 0 < z) (h : Lays z N L) : Lays z (padN z N) L := by
  by_cases h0 : N.length % z = 0
  · unfold padN
    rw [if_pos h0]
    exact h
  · have hp : padN z N = N ++ List.replicate (z - N.length % z) 0 := by unfold padN; rw [if_neg h0]
    have hl : (padN z N).length = N.length / z * z + z := by rw [padN_length hz, if_neg h0]
    have hm := div_mod z N.length
    have hmz := Nat.mod_lt N.length hz
    refine ⟨fun j a t e => ?_, fun j a t a' t' e e' => ?_, fun j a t e e' => ?_, ?_, fun x hx => ?_⟩
    · obtain ⟨h1, h2, h3⟩ := h.item j a t e
      refine ⟨by omega, ?_, h3⟩
      rw [hp, List.drop_append_of_le_length (by omega), List.take_append_of_le_length (by rw [List.length_drop]; omega)]
      exact h2
    · rcases h.next j a t a' t' e e' with q | ⟨q, r⟩
      · exact .inl q
      · refine .inr ⟨?_, r⟩
        rw [hp, List.getElem?_append_left (List.getElem?_eq_some_iff.mp q).1]
        exact q
    · right
      rcases h.last j a t e e' with q | ⟨q, r⟩
      · rw [q]
        refine ⟨?_, by omega⟩
        rw [hp, List.getElem?_append_right (Nat.le_refl _), Nat.sub_self]
        rw [List.getElem?_replicate, if_pos (by omega)]
      · refine ⟨?_, by omega⟩
        rw [hp, List.getElem?_append_left (List.getElem?_eq_some_iff.mp q).1]
        exact q
    · rw [hp]
      exact h.laid.more _
    · rw [hp] at hx
      rcases List.mem_append.mp hx with q | q
      · exact h.nums x q
      · rw [List.eq_of_mem_replicate q]
        decide
theorem Lays.at {z : Nat} {N : List Int} {L : List (Nat × List Int)} (h : Lays z N L) {j a : Nat} {t : List Int} (e : L[j]? = some (a, t)) : N[a]? = some (t.length : Int) := by
  obtain ⟨h1, h2, h3⟩ := h.item j a t e
  have e1 : ((N.drop a).take (t.length + 3))[0]? = (laidN (j : Nat) t)[0]? := by rw [h2]
  rw [List.getElem?_take_of_lt (by omega), List.getElem?_drop, Nat.add_zero] at e1
  exact e1
theorem Lays.S_at {z : Nat} {N : List Int} {L : List (Nat × List Int)} (h : Lays z N L) {i j : Nat} {x y : Nat} (hij : i ≤ j) (e : (L.map (·.1))[i]? = some x) (e' : (L.map (·.1))[j]? = some y) : x ≤ y := by
  rcases Nat.lt_or_eq_of_le hij with q | q
  · have hi := (List.getElem?_eq_some_iff.mp e)
    have hj := (List.getElem?_eq_some_iff.mp e')
    obtain ⟨hi1, hi2⟩ := hi
    obtain ⟨hj1, hj2⟩ := hj
    rw [← hi2, ← hj2]
    exact List.pairwise_iff_getElem.mp h.laid.asc i j hi1 hj1 q
  · subst q
    rw [e] at e'
    cases e'
    exact Nat.le_refl _
theorem Lays.lt {z : Nat} {N : List Int} {L : List (Nat × List Int)} (h : Lays z N L) {j a a' : Nat} {t t' : List Int} (e : L[j]? = some (a, t)) (e' : L[j + 1]? = some (a', t')) : a < a' := by
  rcases h.next j a t a' t' e e' with q | ⟨_, q⟩
  · omega
  · have h1 := (h.item j a t e).1
    rcases Nat.eq_zero_or_pos z with hz | hz
    · subst hz
      have h2 : a ≤ a' := h.S_at (Nat.le_succ j) (by rw [List.getElem?_map, e]; rfl) (by rw [List.getElem?_map, e']; rfl)
      rcases Nat.lt_or_eq_of_le h2 with r | r
      · exact r
      · exfalso
        subst r
        have h3 := (h.item (j + 1) a t' e')
        have h4 := (h.item j a t e)
        have e1 : (laidN ((j : Nat) : Int) t)[0]? = (laidN ((j + 1 : Nat) : Int) t')[0]? := by
          rw [← h4.2.1, ← h3.2.1, List.getElem?_take_of_lt (by omega), List.getElem?_take_of_lt (by omega)]
        have e2 : (t.length : Int) = t'.length := Option.some.inj e1
        have e3 : laidN ((j : Nat) : Int) t = laidN ((j + 1 : Nat) : Int) t' := by
          rw [← h4.2.1, ← h3.2.1, show t.length = t'.length by omega]
        unfold laidN at e3
        injection e3 with _ e3
        injection e3 with e4 e3
        injection e3 with e5 e3
        rw [Int.fdiv_eq_ediv_of_nonneg _ (by omega), Int.fdiv_eq_ediv_of_nonneg _ (by omega)] at e4
        rw [Int.fmod_eq_emod_of_nonneg _ (by omega), Int.fmod_eq_emod_of_nonneg _ (by omega)] at e5
        omega
    · have h2 := div_hi hz (a + (t.length + 3))
      omega
theorem Lays.rise {z : Nat} {N : List Int} {L : List (Nat × List Int)} (h : Lays z N L) {j a : Nat} {t : List Int} (e : L[j]? = some (a, t)) : ∀ (k : Nat) (a' : Nat) (t' : List Int), L[j + 1 + k]? = some (a', t') → a < a'
  | 0, a', t', e' => h.lt e e'
  | k + 1, a', t', e' => by
    have hl := (List.getElem?_eq_some_iff.mp e').1
    have e1 : L[j + 1 + k]? = some (L[j + 1 + k]'(by omega)) := List.getElem?_eq_getElem (by omega)
    have h1 := h.rise e k _ _ e1
    have h2 := h.lt e1 e'
    omega
/-- no two begin at one place -/
theorem Lays.one {z : Nat} {N : List Int} {L : List (Nat × List Int)} (h : Lays z N L) {i j a : Nat} {t t' : List Int} (e : L[i]? = some (a, t)) (e' : L[j]? = some (a, t')) : i = j := by
  rcases Nat.lt_trichotomy i j with q | q | q
  · have := h.rise e (j - (i + 1)) a t' (by rw [show i + 1 + (j - (i + 1)) = j by omega]; exact e')
    omega
  · exact q
  · have := h.rise e' (i - (j + 1)) a t (by rw [show j + 1 + (i - (j + 1)) = i by omega]; exact e)
    omega
/-- from a start to the next one, within a frame -/
theorem Lays.step {z : Nat} {N : List Int} {L : List (Nat × List Int)} (h : Lays z N L) {c p j a : Nat} {t : List Int} (hz : 0 < z) (hc : c * z + z ≤ N.length) (e : L[j]? = some (a, t)) (ea : a = c * z + p) (hp : p < z) :
    (∃ a' t', L[j + 1]? = some (a', t') ∧ a' = c * z + (p + (3 + t.length))) ∨
    ((∀ i, j + 1 ≤ i → ∀ x, (L.map (·.1))[i]? = some x → c * z + z ≤ x) ∧ (z ≤ p + (3 + t.length) ∨ N[c * z + (p + (3 + t.length))]? = some 0)) := by
  have ee : a + (t.length + 3) = c * z + (p + (3 + t.length)) := by omega
  cases e1 : L[j + 1]? with
  | some x =>
    obtain ⟨a', t'⟩ := x
    rcases h.next j a t a' t' e e1 with q | ⟨q, r⟩
    · exact .inl ⟨a', t', rfl, by omega⟩
    · rw [ee] at q r
      refine .inr ⟨fun i hi x hx => ?_, ?_⟩
      · have h1 : a' ≤ x := h.S_at hi (by rw [List.getElem?_map, e1]; rfl) hx
        have h2 := div_lo z (c * z + (p + (3 + t.length)))
        have h3 := div_hi hz (c * z + (p + (3 + t.length)))
        by_cases h4 : p + (3 + t.length) < z
        · have : (c * z + (p + (3 + t.length))) / z = c := div_eq (by omega) (by omega)
          rw [this] at r
          omega
        · omega
      · exact .inr q
  | none =>
    refine .inr ⟨fun i hi x hx => ?_, ?_⟩
    · have h1 := (List.getElem?_eq_some_iff.mp hx).1
      have h2 := List.getElem?_eq_none_iff.mp e1
      rw [List.length_map] at h1
      omega
    · rcases h.last j a t e e1 with q | ⟨q, r⟩
      · rw [ee] at q
        exact .inl (by omega)
      · rw [ee] at q
        exact .inr q
theorem filter_take_all {p : Nat → Bool} : ∀ {S : List Nat} {j : Nat}, (∀ i, j ≤ i → ∀ x, S[i]? = some x → p x = false) → (S.take j).filter p = S.filter p
  | [], _, _ => by simp
  | x :: r, 0, h => by
    rw [List.take_zero, List.filter_nil]
    symm
    rw [List.filter_eq_nil_iff]
    intro y hy
    obtain ⟨i, hi, e⟩ := List.getElem_of_mem hy
    rw [h i (Nat.zero_le _) y (by rw [← e]; exact List.getElem?_eq_getElem hi)]
    simp
  | x :: r, j + 1, h => by
    have ih := filter_take_all (p := p) (S := r) (j := j) fun i hi y hy => h (i + 1) (by omega) y (by simpa using hy)
    rw [List.take_succ_cons, List.filter_cons, List.filter_cons, ih]
theorem filter_head {p : Nat → Bool} : ∀ {S : List Nat} {y : Nat}, (S.filter p).head? = some y → ∃ j, S[j]? = some y ∧ (S.take j).filter p = []
  | [], _, h => by simp at h
  | x :: r, y, h => by
    by_cases hp : p x = true
    · rw [List.filter_cons_of_pos hp] at h
      exact ⟨0, h, rfl⟩
    · rw [List.filter_cons_of_neg hp] at h
      obtain ⟨j, h1, h2⟩ := filter_head h
      refine ⟨j + 1, by simpa using h1, ?_⟩
      rw [List.take_succ_cons, List.filter_cons_of_neg hp]
      exact h2
theorem first_at {z c : Nat} {S : List Nat} {x : Nat} (h : firstOf z c S = some x) : ∃ j, S[j]? = some (c * z + x) ∧ (S.take j).filter (inFr z c) = [] ∧ x < z := by
  unfold firstOf at h
  rw [List.head?_map] at h
  cases e : (S.filter (inFr z c)).head? with
  | none => rw [e] at h; cases h
  | some y =>
    rw [e] at h
    have ex : y - c * z = x := Option.some.inj h
    obtain ⟨j, h1, h2⟩ := filter_head e
    have hm : y ∈ S.filter (inFr z c) := List.mem_of_head? e
    have hp := (List.mem_filter.mp hm).2
    unfold inFr at hp
    simp at hp
    exact ⟨j, by rw [h1, ← ex]; congr 1; omega, h2, by omega⟩
theorem first_no {z c : Nat} {S : List Nat} (h : firstOf z c S = none) : S.filter (inFr z c) = [] := by
  unfold firstOf at h
  rw [List.head?_map] at h
  cases e : S.filter (inFr z c) with
  | nil => rfl
  | cons x r => rw [e] at h; cases h
/-- which numbers of a telling lie in frames that there are -/
def covers (z : Nat) (cs : List Nat) (a n : Nat) : Bool := (List.range n).all fun k => decide ((a + k) / z ∈ cs)
def toldJ (z : Nat) (L : List (Nat × List Int)) (cs : List Nat) (j : Nat) : Bool := match L[j]? with
  | some x => covers z cs x.1 (x.2.length + 3)
  | none => false
def toldL (z : Nat) (L : List (Nat × List Int)) (cs : List Nat) : List Nat := (List.range L.length).filter (toldJ z L cs)
def gapD (lo hi : Nat) : PyData := .tuple [.str "gap", .int lo, .int hi]
def toldD (j : Nat) (t : List Int) : PyData := .tuple [.str "told", .int j, tlD t]
def textOf (L : List (Nat × List Int)) (j : Nat) : List Int := match L[j]? with
  | some x => x.2
  | none => []
def rowsD (L : List (Nat × List Int)) : Nat → List Nat → List PyData
  | _, [] => []
  | lo, j :: r => (if lo < j then [gapD lo (j - 1)] else []) ++ (toldD j (textOf L j) :: rowsD L (j + 1) r)
theorem rowsD_snoc (L : List (Nat × List Int)) : ∀ (js : List Nat) (lo j : Nat), rowsD L lo (js ++ [j]) = rowsD L lo js ++ rowsD L (js.foldl (fun _ x => x + 1) lo) [j]
  | [], lo, j => rfl
  | x :: r, lo, j => by
    rw [List.cons_append]
    show (if lo < x then [gapD lo (x - 1)] else []) ++ (toldD x (textOf L x) :: rowsD L (x + 1) (r ++ [j])) = _
    rw [rowsD_snoc L r (x + 1) j]
    show _ = ((if lo < x then [gapD lo (x - 1)] else []) ++ (toldD x (textOf L x) :: rowsD L (x + 1) r)) ++ _
    rw [List.append_assoc]
    rfl
theorem lo_snoc (js : List Nat) (lo j : Nat) : (js ++ [j]).foldl (fun _ x => x + 1) lo = j + 1 := by rw [List.foldl_append]; rfl
theorem covers_iff {z a n : Nat} {cs : List Nat} : covers z cs a n = true ↔ ∀ k, k < n → (a + k) / z ∈ cs := by
  unfold covers
  rw [List.all_eq_true]
  exact ⟨fun h k hk => of_decide_eq_true (h k (List.mem_range.mpr hk)), fun h k hk => decide_eq_true (h k (List.mem_range.mp hk))⟩
/-- by the frames from the first to the last of them -/
theorem covers_range {z a n : Nat} {cs : List Nat} (hz : 0 < z) (hn : 0 < n) : covers z cs a n = true ↔ ∀ c, a / z ≤ c → c ≤ (a + (n - 1)) / z → c ∈ cs := by
  rw [covers_iff]
  refine ⟨fun h c h1 h2 => ?_, fun h k hk => h _ (Nat.div_le_div_right (by omega)) (Nat.div_le_div_right (by omega))⟩
  by_cases h3 : c * z ≤ a
  · have e : a / z = c := by
      have := (Nat.le_div_iff_mul_le hz).mpr h3
      omega
    have := h 0 hn
    rw [Nat.add_zero, e] at this
    exact this
  · have h4 : c * z ≤ a + (n - 1) := (Nat.le_div_iff_mul_le hz).mp h2
    have := h (c * z - a) (by omega)
    rw [show a + (c * z - a) = c * z by omega, Nat.mul_div_cancel _ hz] at this
    exact this
/-- two rising lists without equal ones that hold the same are one -/
theorem rising_same : ∀ {xs ys : List Int}, xs.Pairwise (· < ·) → ys.Pairwise (· < ·) → (∀ x, x ∈ xs ↔ x ∈ ys) → xs = ys
  | [], [], _, _, _ => rfl
  | [], y :: r, _, _, h => absurd ((h y).mpr (List.mem_cons_self ..)) (by simp)
  | x :: r, [], _, _, h => absurd ((h x).mp (List.mem_cons_self ..)) (by simp)
  | x :: xs, y :: ys, hx, hy, h => by
    have hx' := List.pairwise_cons.mp hx
    have hy' := List.pairwise_cons.mp hy
    have e : x = y := by
      rcases List.mem_cons.mp ((h x).mp (List.mem_cons_self ..)) with q | q
      · exact q
      · rcases List.mem_cons.mp ((h y).mpr (List.mem_cons_self ..)) with q' | q'
        · exact q'.symm
        · have := hy'.1 x q
          have := hx'.1 y q'
          omega
    subst e
    congr 1
    refine rising_same hx'.2 hy'.2 fun u => ⟨fun hu => ?_, fun hu => ?_⟩
    · rcases List.mem_cons.mp ((h u).mp (List.mem_cons_of_mem _ hu)) with q | q
      · have := hx'.1 u hu
        omega
      · exact q
    · rcases List.mem_cons.mp ((h u).mpr (List.mem_cons_of_mem _ hu)) with q | q
      · have := hy'.1 u hu
        omega
      · exact q
/-- all of a list of tellings -/
def lays1 (x : List Int × List (Nat × List Int)) (t : List Int) : List Int × List (Nat × List Int) := (x.1 ++ laidN (x.2.length : Nat) t, x.2 ++ [(x.1.length, t)])
def laysAll (ts : List (List Int)) : List Int × List (Nat × List Int) := ts.foldl lays1 ([], [])
theorem laysAll_take {ts : List (List Int)} {i : Nat} {t : List Int} (h : ts[i]? = some t) : laysAll (ts.take (i + 1)) = lays1 (laysAll (ts.take i)) t := by
  rw [List.take_add_one, h]
  show laysAll (ts.take i ++ [t]) = _
  unfold laysAll
  rw [List.foldl_append]
  rfl
theorem laysAll_lay (ts : List (List Int)) : layAll ts = ((laysAll ts).1, (laysAll ts).2.map (·.1)) := by
  unfold layAll laysAll
  suffices g : ∀ (ts : List (List Int)) (x : List Int × List (Nat × List Int)), ts.foldl lay1 (x.1, x.2.map (·.1)) = ((ts.foldl lays1 x).1, (ts.foldl lays1 x).2.map (·.1)) from g ts ([], [])
  intro ts
  induction ts with
  | nil => intro x; rfl
  | cons t r ih =>
    intro x
    rw [List.foldl_cons, List.foldl_cons, ← ih]
    congr 1
    unfold lay1 lays1
    rw [List.map_append, List.length_map]
    rfl
theorem laysAll_texts (ts : List (List Int)) : (laysAll ts).2.map (·.2) = ts := by
  unfold laysAll
  suffices g : ∀ (ts : List (List Int)) (x : List Int × List (Nat × List Int)), (ts.foldl lays1 x).2.map (·.2) = x.2.map (·.2) ++ ts from g ts ([], [])
  intro ts
  induction ts with
  | nil => intro x; simp
  | cons t r ih =>
    intro x
    rw [List.foldl_cons, ih]
    unfold lays1
    rw [List.map_append, List.append_assoc]
    rfl
theorem laysAll_len (ts : List (List Int)) : (laysAll ts).2.length = ts.length := by
  have := congrArg List.length (laysAll_texts ts)
  rw [List.length_map] at this
  exact this
theorem laysAll_ok {z : Nat} {ts : List (List Int)} (ok : ∀ t ∈ ts, tellOk t) (few : ts.length ≤ 65536) : Lays z (laysAll ts).1 (laysAll ts).2 := by
  suffices g : ∀ i, i ≤ ts.length → Lays z (laysAll (ts.take i)).1 (laysAll (ts.take i)).2 by
    have := g ts.length (Nat.le_refl _)
    rw [List.take_length] at this
    exact this
  intro i
  induction i with
  | zero => intro _; rw [List.take_zero]; exact Lays.nil z
  | succ i ih =>
    intro hi
    have ht : ts[i]? = some ts[i] := List.getElem?_eq_getElem (by omega)
    rw [laysAll_take ht]
    exact (ih (by omega)).lay (ok _ (List.getElem_mem _)) (by rw [laysAll_len, List.length_take]; omega)
theorem rows_len' (L : List (Nat × List Int)) : ∀ (js : List Nat) (lo : Nat), (rowsD L lo js).length ≤ 2 * js.length
  | [], _ => Nat.le_refl _
  | j :: r, lo => by
    have ih := rows_len' L r (j + 1)
    show ((if lo < j then [gapD lo (j - 1)] else []) ++ (toldD j (textOf L j) :: rowsD L (j + 1) r)).length ≤ _
    rw [List.length_append, List.length_cons, List.length_cons]
    split
    · rw [List.length_singleton]; omega
    · rw [List.length_nil]; omega
/-! ### rows as data -/
def isTold : PyData → Bool
  | .tuple (.str x :: _) => decide (x = ("told" : Str))
  | _ => false
theorem gap_told : ¬ (("gap" : Str) = "told") := by decide +kernel
theorem isTold_told (j : Nat) (t : List Int) : isTold (toldD j t) = true := by
  show decide (("told" : Str) = "told") = true
  exact decide_eq_true rfl
theorem isTold_gap (lo hi : Nat) : isTold (gapD lo hi) = false := by
  show decide (("gap" : Str) = "told") = false
  exact decide_eq_false gap_told
theorem rows_mem {L : List (Nat × List Int)} : ∀ {js : List Nat} {lo : Nat} {d : PyData}, d ∈ rowsD L lo js → (∃ a b, d = gapD a b) ∨ ∃ j ∈ js, d = toldD j (textOf L j)
  | [], _, _, h => by cases h
  | j :: r, lo, d, h => by
    have h' : d ∈ (if lo < j then [gapD lo (j - 1)] else []) ++ (toldD j (textOf L j) :: rowsD L (j + 1) r) := h
    rcases List.mem_append.mp h' with q | q
    · split at q
      · exact .inl ⟨_, _, List.mem_singleton.mp q⟩
      · cases q
    · rcases List.mem_cons.mp q with q | q
      · exact .inr ⟨j, List.mem_cons_self .., q⟩
      · rcases rows_mem q with q | ⟨k, hk, e⟩
        · exact .inl q
        · exact .inr ⟨k, List.mem_cons_of_mem _ hk, e⟩
theorem told_mem {L : List (Nat × List Int)} : ∀ {js : List Nat} {lo j : Nat}, j ∈ js → toldD j (textOf L j) ∈ rowsD L lo js
  | [], _, _, h => by cases h
  | i :: r, lo, j, h => by
    show _ ∈ (if lo < i then [gapD lo (i - 1)] else []) ++ (toldD i (textOf L i) :: rowsD L (i + 1) r)
    refine List.mem_append_right _ ?_
    rcases List.mem_cons.mp h with q | q
    · rw [q]; exact List.mem_cons_self ..
    · exact List.mem_cons_of_mem _ (told_mem q)
theorem rows_all (L : List (Nat × List Int)) : ∀ (n lo : Nat), rowsD L lo (List.range' lo n) = (List.range' lo n).map fun k => toldD k (textOf L k)
  | 0, lo => rfl
  | n + 1, lo => by
    rw [List.range'_succ]
    show (if lo < lo then [gapD lo (lo - 1)] else []) ++ (toldD lo (textOf L lo) :: rowsD L (lo + 1) (List.range' (lo + 1) n)) = _
    rw [if_neg (Nat.lt_irrefl _), List.nil_append, rows_all L n (lo + 1)]
    rfl
theorem rows_range (L : List (Nat × List Int)) (n : Nat) : rowsD L 0 (List.range n) = (List.range n).map fun k => toldD k (textOf L k) := by
  rw [List.range_eq_range']
  exact rows_all L n 0
theorem toldL_congr {z : Nat} {L : List (Nat × List Int)} {cs cs' : List Nat} (h : ∀ c, c ∈ cs ↔ c ∈ cs') : toldL z L cs = toldL z L cs' := by
  unfold toldL
  congr 1
  funext j
  unfold toldJ
  cases L[j]? with
  | none => rfl
  | some x =>
    show covers z cs _ _ = covers z cs' _ _
    rw [Bool.eq_iff_iff, covers_iff, covers_iff]
    exact ⟨fun g k hk => (h _).mp (g k hk), fun g k hk => (h _).mpr (g k hk)⟩
theorem toldL_mono {z : Nat} {L : List (Nat × List Int)} {cs cs' : List Nat} (h : ∀ c, c ∈ cs → c ∈ cs') {j : Nat} (hj : j ∈ toldL z L cs) : j ∈ toldL z L cs' := by
  unfold toldL at hj ⊢
  rw [List.mem_filter] at hj ⊢
  refine ⟨hj.1, ?_⟩
  have := hj.2
  unfold toldJ at this ⊢
  cases e : L[j]? with
  | none => rw [e] at this; cases this
  | some x =>
    rw [e] at this
    exact covers_iff.mpr fun k hk => h _ (covers_iff.mp this k hk)
/-- all frames that there are tell all -/
theorem toldL_all {z : Nat} {N : List Int} {L : List (Nat × List Int)} (h : Lays z N L) (hz : 0 < z) (full : N.length % z = 0) : toldL z L (List.range (N.length / z)) = List.range L.length := by
  unfold toldL
  rw [List.filter_eq_self]
  intro j hj
  have hj' := List.mem_range.mp hj
  unfold toldJ
  rw [List.getElem?_eq_getElem hj']
  refine covers_iff.mpr fun k hk => List.mem_range.mpr ?_
  have h1 := (h.item j L[j].1 L[j].2 (List.getElem?_eq_getElem hj')).1
  have h2 := div_mod z N.length
  rw [Nat.div_lt_iff_lt_mul hz]
  omega
theorem pad_full {z : Nat} (hz : 0 < z) (N : List Int) : (padN z N).length % z = 0 := by
  rw [padN_length hz]
  split
  · assumption
  · rw [Nat.add_mod_right, Nat.mul_mod_left]
theorem Lay.strT : Lay 0 (.str "told") := ⟨by decide +kernel, by simp [PyData.depth]⟩
theorem Lay.strG : Lay 0 (.str "gap") := ⟨by decide +kernel, by simp [PyData.depth]⟩
theorem lay_told (j : Nat) (t : List Int) : Lay 2 (toldD j t) := by
  have h := Lay.tuple (f := fun d : PyData => d) (k := 1) (xs := [.str "told", .int (j : Nat), tlD t]) (by
    intro x hx
    simp only [List.mem_cons, List.not_mem_nil, or_false] at hx
    rcases hx with rfl | rfl | rfl
    · exact Lay.strT.mono (by decide)
    · exact (Lay.int _).mono (by decide)
    · exact Lay.tl _)
  rw [List.map_id'] at h
  exact h
theorem lay_gap (a b : Nat) : Lay 2 (gapD a b) := by
  have h := Lay.tuple (f := fun d : PyData => d) (k := 1) (xs := [.str "gap", .int (a : Nat), .int (b : Nat)]) (by
    intro x hx
    simp only [List.mem_cons, List.not_mem_nil, or_false] at hx
    rcases hx with rfl | rfl | rfl
    · exact Lay.strG.mono (by decide)
    · exact (Lay.int _).mono (by decide)
    · exact (Lay.int _).mono (by decide))
  rw [List.map_id'] at h
  exact h
theorem Lay.of_list {k : Nat} {ds : List PyData} (h : ∀ d ∈ ds, Lay k d) : Lay (k + 1) (.list ds) := by
  have := Lay.list (f := fun d : PyData => d) (xs := ds) h
  rw [List.map_id'] at this
  exact this
theorem lay_rows (L : List (Nat × List Int)) (js : List Nat) (lo : Nat) : Lay 3 (.list (rowsD L lo js)) := Lay.of_list fun d hd => by
  rcases rows_mem hd with ⟨a, b, rfl⟩ | ⟨j, _, rfl⟩
  · exact lay_gap a b
  · exact lay_told j _
theorem dok_told (j : Nat) {t : List Int} (h : t.length ≤ 10000000) : DOk 2 (toldD j t) := DOk.tuple (show 3 ≤ 10000000 by decide) fun e he => by
  simp only [List.mem_cons, List.not_mem_nil, or_false] at he
  rcases he with rfl | rfl | rfl
  · exact .sc (.inr (.inr (.inr ⟨_, rfl⟩)))
  · exact DOk.int _
  · exact DOk.tl h
theorem dok_gap (a b : Nat) : DOk 2 (gapD a b) := DOk.tuple (show 3 ≤ 10000000 by decide) fun e he => by
  simp only [List.mem_cons, List.not_mem_nil, or_false] at he
  rcases he with rfl | rfl | rfl
  · exact .sc (.inr (.inr (.inr ⟨_, rfl⟩)))
  · exact DOk.int _
  · exact DOk.int _
theorem dok_rows {L : List (Nat × List Int)} {js : List Nat} {lo : Nat} (h : js.length ≤ 1000000) (hL : ∀ x ∈ L, x.2.length ≤ 1000) : DOk 3 (.list (rowsD L lo js)) := by
  refine DOk.list (by have := rows_len' L js lo; omega) fun d hd => ?_
  rcases rows_mem hd with ⟨a, b, rfl⟩ | ⟨j, _, rfl⟩
  · exact dok_gap a b
  · refine dok_told j ?_
    unfold textOf
    cases e : L[j]? with
    | none => exact Nat.zero_le _
    | some x => exact Nat.le_trans (hL x (List.mem_of_getElem? e)) (by decide)
theorem TDs.erase {H : Hp} : ∀ {vs : List V} {ds : List PyData} (k : Nat), TDs H vs ds → TDs H (vs.eraseIdx k) (ds.eraseIdx k)
  | _, _, _, .nil => .nil
  | _, _, 0, .cons _ t => t
  | _, _, k + 1, .cons h t => .cons h (TDs.erase k t)
theorem erase_map {α β : Type} (f : α → β) : ∀ (xs : List α) (k : Nat), (xs.map f).eraseIdx k = (xs.eraseIdx k).map f
  | [], _ => rfl
  | _ :: _, 0 => rfl
  | x :: xs, k + 1 => by
    show f x :: (xs.map f).eraseIdx k = f x :: (xs.eraseIdx k).map f
    rw [erase_map f xs k]
theorem perm_erase {α : Type} : ∀ {xs : List α} {k : Nat} {x : α}, xs[k]? = some x → (x :: xs.eraseIdx k).Perm xs
  | [], _, _, h => by simp at h
  | y :: ys, 0, x, h => by
    have e : y = x := Option.some.inj h
    rw [e]
    exact List.Perm.refl _
  | y :: ys, k + 1, x, h => by
    have ih := perm_erase (xs := ys) (k := k) (x := x) (by simpa using h)
    exact (List.Perm.swap y x _).trans (ih.cons y)
theorem rising_of {ys ks : List Int} (hp : ys.Perm ks) (hs : ys.Pairwise (· ≤ ·)) (nd : ks.Nodup) : ys.Pairwise (· < ·) := by
  have h1 : ys.Nodup := hp.nodup_iff.mpr nd
  refine List.Pairwise.imp₂ (fun a b h1 h2 => ?_) hs h1
  omega
end Sky

/-! Frames of the first tellings; what gaps are; runs of frames. -/
namespace Sky
open PySem PySem.Spec PyProof.Rows L2
theorem lays_more' : ∀ (ss : List (List Int)) (x : List Int × List (Nat × List Int)), ∃ xs M, (ss.foldl lays1 x).1 = x.1 ++ xs ∧ (ss.foldl lays1 x).2.map (·.1) = x.2.map (·.1) ++ M ∧ ∀ s ∈ M, x.1.length ≤ s
  | [], x => ⟨[], [], by simp, by simp, by simp⟩
  | t :: r, x => by
    obtain ⟨xs, M, h1, h2, h3⟩ := lays_more' r (lays1 x t)
    refine ⟨laidN (x.2.length : Nat) t ++ xs, x.1.length :: M, ?_, ?_, ?_⟩
    · show (r.foldl lays1 (lays1 x t)).1 = _
      rw [h1, ← List.append_assoc]
      rfl
    · show (r.foldl lays1 (lays1 x t)).2.map (·.1) = _
      rw [h2]
      show (x.2 ++ [(x.1.length, t)]).map (·.1) ++ M = _
      rw [List.map_append, List.append_assoc]
      rfl
    · intro s hs
      rcases List.mem_cons.mp hs with e | e
      · omega
      · have := h3 s e
        have e2 : (lays1 x t).1.length = x.1.length + (t.length + 3) := by
          show (x.1 ++ laidN _ t).length = _
          rw [List.length_append, laidN_length]
        omega
theorem lays_more (ts ss : List (List Int)) : ∃ xs M, (laysAll (ts ++ ss)).1 = (laysAll ts).1 ++ xs ∧ (laysAll (ts ++ ss)).2.map (·.1) = (laysAll ts).2.map (·.1) ++ M ∧ ∀ s ∈ M, (laysAll ts).1.length ≤ s := by
  have := lays_more' ss (laysAll ts)
  unfold laysAll at *
  rw [List.foldl_append]
  exact this
theorem pad_app (z : Nat) (N : List Int) : ∃ p, padN z N = N ++ p := by
  unfold padN
  split
  · exact ⟨[], by simp⟩
  · exact ⟨_, rfl⟩
theorem firstOf_more {z c : Nat} (S M : List Nat) : firstOf z c (S ++ M) = (firstOf z c S).or (firstOf z c M) := by
  unfold firstOf
  rw [List.filter_append, List.map_append, List.head?_append]
theorem firstOf_late {z c : Nat} {M : List Nat} (h : ∀ s ∈ M, c * z + z ≤ s) : firstOf z c M = none := by
  unfold firstOf
  have e : M.filter (inFr z c) = [] := by
    rw [List.filter_eq_nil_iff]
    intro s hs
    have := h s hs
    unfold inFr
    simp
    omega
  rw [e]
  rfl
/-- the frames of the first tellings, but the last of them, are frames of all -/
theorem frm_first {z c : Nat} {N N' xs : List Int} {S M : List Nat} (hc : c * z + z ≤ N.length) (e : N' = N ++ xs) (hM : ∀ s ∈ M, N.length ≤ s) :
    frm z (padN z N) S c = frm z (padN z N') (S ++ M) c := by
  obtain ⟨p, e1⟩ := pad_app z N
  obtain ⟨p', e2⟩ := pad_app z N'
  rw [e1, e2, e, List.append_assoc, frm_more hc, frm_more hc]
  unfold frm
  rw [firstOf_more, firstOf_late (M := M) (fun s hs => by have := hM s hs; omega), Option.or_none]
theorem first_first {z c x : Nat} {S M : List Nat} (h : firstOf z c S = some x) : firstOf z c (S ++ M) = some x := by
  rw [firstOf_more, h]
  rfl
theorem count_le {z a b na nb : Nat} (hz : 0 < z) (hab : a ≤ b) (h1 : na * z < a + z) (h2 : b ≤ nb * z) : na ≤ nb := by
  have h3 : na * z < (nb + 1) * z := by rw [Nat.succ_mul]; omega
  have := Nat.lt_of_mul_lt_mul_right h3
  omega
/-! ### gaps -/
inductive Gaps : Nat → List PyData → Prop
  | nil (lo : Nat) : Gaps lo []
  | gap {lo hi : Nat} {d : PyData} {r : List PyData} : lo ≤ hi → Gaps (hi + 1) (d :: r) → Gaps lo (gapD lo hi :: d :: r)
  | told {j : Nat} {t : List Int} {r : List PyData} : Gaps (j + 1) r → Gaps j (toldD j t :: r)
theorem gaps_rows (L : List (Nat × List Int)) : ∀ (js : List Nat) (lo : Nat), js.Pairwise (· < ·) → (∀ j ∈ js, lo ≤ j) → Gaps lo (rowsD L lo js)
  | [], lo, _, _ => .nil lo
  | j :: r, lo, p, h => by
    have hj := h j (List.mem_cons_self)
    have ih := gaps_rows L r (j + 1) (List.pairwise_cons.mp p).2 fun k hk => (List.pairwise_cons.mp p).1 k hk
    show Gaps lo ((if lo < j then [gapD lo (j - 1)] else []) ++ (toldD j (textOf L j) :: rowsD L (j + 1) r))
    by_cases e : lo < j
    · rw [if_pos e]
      refine Gaps.gap (by omega) ?_
      rw [show j - 1 + 1 = j by omega]
      exact .told ih
    · rw [if_neg e]
      have e2 : lo = j := by omega
      rw [e2]
      exact .told ih
theorem gaps_told (z : Nat) (L : List (Nat × List Int)) (cs : List Nat) : Gaps 0 (rowsD L 0 (toldL z L cs)) :=
  gaps_rows L _ 0 (List.Pairwise.filter _ List.pairwise_lt_range) fun _ _ => Nat.zero_le _
theorem gaps_last : ∀ {lo : Nat} {ds : List PyData}, Gaps lo ds → ds ≠ [] → ∃ j t, ds.getLast? = some (toldD j t)
  | _, _, .nil _, h => absurd rfl h
  | _, _, .gap _ g, _ => by
    obtain ⟨j, t, e⟩ := gaps_last g (by simp)
    exact ⟨j, t, by rw [List.getLast?_cons_cons]; exact e⟩
  | _, _, .told (r := []) g, _ => ⟨_, _, rfl⟩
  | _, _, .told (r := d :: r) g, _ => by
    obtain ⟨j, t, e⟩ := gaps_last g (by simp)
    exact ⟨j, t, by rw [List.getLast?_cons_cons]; exact e⟩
/-! ### the first frames tell the first tellings -/
theorem filter_down {p : Nat → Bool} : ∀ n : Nat, (∀ i j, i ≤ j → j < n → p j = true → p i = true) → (List.range n).filter p = List.range ((List.range n).filter p).length
  | 0, _ => rfl
  | n + 1, h => by
    rw [List.range_succ, List.filter_append]
    by_cases e : p n = true
    · have e1 : (List.range n).filter p = List.range n := List.filter_eq_self.mpr fun i hi => h i n (Nat.le_of_lt (List.mem_range.mp hi)) (by omega) e
      rw [e1, List.filter_cons_of_pos e, List.filter_nil, List.length_append, List.length_range, ← List.range_succ]
      rfl
    · rw [List.filter_cons_of_neg e, List.filter_nil, List.append_nil]
      exact filter_down n fun i j h1 h2 => h i j h1 (by omega)
theorem told_down {z : Nat} {N : List Int} {L : List (Nat × List Int)} (hz : 0 < z) (h : Lays z N L) {low i j : Nat} (hij : i ≤ j) (hj : toldJ z L (List.range low) j = true) : toldJ z L (List.range low) i = true := by
  rcases Nat.eq_or_lt_of_le hij with e | e
  · rw [e]; exact hj
  unfold toldJ at hj ⊢
  cases ej : L[j]? with
  | none => rw [ej] at hj; cases hj
  | some x =>
    rw [ej] at hj
    have hjl := (List.getElem?_eq_some_iff.mp ej).1
    have hil : i < L.length := by omega
    have hi1 : i + 1 < L.length := by omega
    have ei := List.getElem?_eq_getElem hil
    have ei1 := List.getElem?_eq_getElem hi1
    rw [ei]
    have h1 := covers_iff.mp hj 0 (by omega)
    have h2 : L[i].1 + (L[i].2.length + 3) ≤ L[i + 1].1 := by
      rcases h.next i _ _ _ _ (by rw [ei]) (by rw [ei1]) with e | ⟨_, e⟩
      · omega
      · have := div_hi hz (L[i].1 + (L[i].2.length + 3))
        omega
    have h3 : L[i + 1].1 ≤ x.1 := h.S_at (show i + 1 ≤ j by omega) (by rw [List.getElem?_map, ei1]; rfl) (by rw [List.getElem?_map, ej]; rfl)
    refine covers_iff.mpr fun k hk => List.mem_range.mpr ?_
    have h4 := List.mem_range.mp h1
    exact Nat.lt_of_le_of_lt (Nat.div_le_div_right (by omega)) h4
theorem told_first {z : Nat} {N : List Int} {L : List (Nat × List Int)} (hz : 0 < z) (h : Lays z N L) (low : Nat) : toldL z L (List.range low) = List.range (toldL z L (List.range low)).length :=
  filter_down _ fun i j hij _ hj => told_down hz h hij hj
/-- apart -/
theorem told_apart {z : Nat} {L : List (Nat × List Int)} {cs cs' : List Nat} (h : ∀ c, c ∈ cs → c ∉ cs') {j : Nat} (hj : j ∈ toldL z L cs) (hj' : j ∈ toldL z L cs') : False := by
  have h1 := (List.mem_filter.mp hj).2
  have h2 := (List.mem_filter.mp hj').2
  unfold toldJ at h1 h2
  cases e : L[j]? with
  | none => rw [e] at h1; cases h1
  | some x =>
    rw [e] at h1 h2
    exact h _ (covers_iff.mp h1 0 (by omega)) (covers_iff.mp h2 0 (by omega))
theorem eqv_gap_told (a b j : Nat) (t : List Int) : PyData.eqv (gapD a b) (toldD j t) = false := by
  have e : (("gap" : Str) == "told") = false := by decide +kernel
  unfold gapD toldD
  simp [PyData.eqv, PyData.eqvAll, e]
theorem eqv_told_told {i j : Nat} (h : i ≠ j) (t u : List Int) : PyData.eqv (toldD i u) (toldD j t) = false := by
  have e : (((i : Nat) : Int) == ((j : Nat) : Int)) = false := by
    rw [beq_eq_false_iff_ne]
    omega
  unfold toldD
  simp only [PyData.eqv, PyData.eqvAll, e, Bool.false_and, Bool.and_false]
theorem rows_apart {z : Nat} {L : List (Nat × List Int)} {cs cs' : List Nat} (h : ∀ c, c ∈ cs → c ∉ cs') {j : Nat} (hj : j ∈ toldL z L cs) : ((rowsD L 0 (toldL z L cs')).any fun w => PyData.eqv w (toldD j (textOf L j))) = false := by
  rw [List.any_eq_false]
  intro w hw
  rcases rows_mem hw with ⟨a, b, rfl⟩ | ⟨k, hk, rfl⟩
  · rw [eqv_gap_told]; decide
  · rw [eqv_told_told (fun e => told_apart h hj (by rw [← e]; exact hk))]; decide
theorem TDs.drop {H : Hp} : ∀ {vs : List V} {ds : List PyData} (k : Nat), TDs H vs ds → TDs H (vs.drop k) (ds.drop k)
  | _, _, 0, h => h
  | _, _, _ + 1, .nil => .nil
  | _, _, k + 1, .cons _ t => TDs.drop k t
theorem TDs.take {H : Hp} : ∀ {vs : List V} {ds : List PyData} (k : Nat), TDs H vs ds → TDs H (vs.take k) (ds.take k)
  | _, _, 0, _ => .nil
  | _, _, _ + 1, .nil => .nil
  | _, _, k + 1, .cons h t => .cons h (TDs.take k t)
end Sky

/-! Rules of my own: a dict comprehension over a list, stored in a name; sorted of a dict with any number of ints for keys. -/
namespace Sky
open PySem PySem.Spec PyProof.Rows L2
section
variable {K : PySem.W.Frag}
/-- a dict comprehension's turns over a list that stands still -/
theorem dc_list {l : Addr} {ys : List V} {g : TG} {tt : TT} {tk tv : TE} {ws : List Nat} {τ : L2.St} {G : Hp} {dd : Addr} {fin : Hp → Prop} (Pv : Nat → Hp → Prop)
    (start : Pv 0 (upd G dd (.dK []))) (stays : ∀ i H, i ≤ ys.length → Pv i H → SqL K H l ys)
    (turn : ∀ i x H, ys[i]? = some x → Pv i H → g x (wipe τ ws) H fun σ2 H2 => wipe σ2 ws = wipe τ ws ∧ tt σ2 H2 fun b H3 =>
      if b = true then (tk σ2 H3 fun y H4 => tv σ2 H4 fun z H5 => ∃ kvs k, y = kV k ∧ H5 dd = some (.dK kvs) ∧ kvs.length < sizeLine ∧ Pv (i + 1) (upd H5 dd (.dK (putK kvs k z))))
      else Pv (i + 1) H3)
    (last : ∀ H, Pv ys.length H → fin H) :
    ∃ W : Nat → Nat → Hp → Prop, (∃ m, W 0 m (upd G dd (.dK []))) ∧ ∀ i m H, W i m H →
      ((Itl K l).stop i H ∧ fin H) ∨ ((Itl K l).go i H ∧ ∃ Nx : Hp → Prop, (∀ H', Nx H' → ∃ m', m' < m ∧ W (i + 1) m' H') ∧
        ∀ x H', (Itl K l).yld i H x H' → g x (wipe τ ws) H' fun σ2 H2 => wipe σ2 ws = wipe τ ws ∧ tt σ2 H2 fun b H3 =>
          if b = true then (tk σ2 H3 fun y H4 => tv σ2 H4 fun z H5 => ∃ kvs k, y = kV k ∧ H5 dd = some (.dK kvs) ∧ kvs.length < sizeLine ∧ Nx (upd H5 dd (.dK (putK kvs k z)))) else Nx H3) := by
  refine ⟨fun i m H => i ≤ ys.length ∧ m = ys.length - i ∧ Pv i H, ⟨ys.length, Nat.zero_le _, (Nat.sub_zero _).symm, start⟩, ?_⟩
  rintro i m H ⟨le, rfl, hv⟩
  have there := stays i H le hv
  by_cases lt : i < ys.length
  · refine .inr ⟨⟨ys, ys[i], there, List.getElem?_eq_getElem lt⟩, Pv (i + 1), fun H' w => ⟨ys.length - (i + 1), by omega, lt, rfl, w⟩, ?_⟩
    rintro x H' ⟨e, hy⟩
    subst e
    exact turn i x _ (hy ys there) hv
  · have e : i = ys.length := by omega
    subst e
    exact .inl ⟨⟨ys, there, Nat.le_refl _⟩, last H hv⟩
/-- enumerate(ys): each turn a new pair -/
theorem for_enum {l : Addr} {ys : List V} {g : TG} {tb : L2.TS} {D : Ends} {τ : L2.St} {G : Hp} (Pv : Nat → L2.St → Hp → Prop) (start : Pv 0 τ G) (stays : ∀ i σ H, i ≤ ys.length → Pv i σ H → SqL K H l ys)
    (turn : ∀ i x σ H T, ys[i]? = some x → Pv i σ H → H T = none → g (.ref T) σ (upd H T (.tup [.int (i : Nat), x])) fun σ2 H2 => tb { D with nx := Pv (i + 1), ct := Pv (i + 1), bk := D.nx } σ2 H2)
    (last : ∀ σ H, Pv ys.length σ H → D.nx σ H) :
    ∃ W : Nat → Nat → L2.St → Hp → Prop, (∃ m, W 0 m τ G) ∧ ∀ i m σ H, W i m σ H →
      ((Ite K l).stop i H ∧ D.nx σ H) ∨ ((Ite K l).go i H ∧ ∃ N : L2.St → Hp → Prop, (∀ σ' H', N σ' H' → ∃ m', m' < m ∧ W (i + 1) m' σ' H') ∧
        ∀ x H', (Ite K l).yld i H x H' → g x σ H' fun σ2 H2 => tb { D with nx := N, ct := N, bk := D.nx } σ2 H2) := by
  refine ⟨fun i m σ H => i ≤ ys.length ∧ m = ys.length - i ∧ Pv i σ H, ⟨ys.length, Nat.zero_le _, (Nat.sub_zero _).symm, start⟩, ?_⟩
  rintro i m σ H ⟨le, rfl, hv⟩
  have there := stays i σ H le hv
  by_cases lt : i < ys.length
  · refine .inr ⟨⟨ys, ys[i], there, List.getElem?_eq_getElem lt⟩, Pv (i + 1), fun σ' H' w => ⟨ys.length - (i + 1), by omega, lt, rfl, w⟩, ?_⟩
    rintro x H' ⟨T, y, rfl, hT, rfl, hy⟩
    exact turn i y σ H T (hy ys there) hv hT
  · have e : i = ys.length := by omega
    subst e
    exact .inl ⟨⟨ys, there, Nat.le_refl _⟩, last σ H hv⟩
/-! ### the keys of a dict -/
theorem len_of_sub {α : Type} [DecidableEq α] : ∀ {xs l : List α}, xs.Nodup → (∀ x ∈ xs, x ∈ l) → xs.length ≤ l.length
  | [], _, _, _ => Nat.zero_le _
  | x :: xs, l, nd, h => by
    have nd' := List.nodup_cons.mp nd
    have hx := h x (List.mem_cons_self ..)
    have ih := len_of_sub (l := l.erase x) nd'.2 fun y hy => (List.mem_erase_of_ne (fun e => nd'.1 (by rw [← e]; exact hy))).mpr (h y (List.mem_cons_of_mem _ hy))
    have h2 := List.length_erase_of_mem hx
    have h3 := List.length_pos_of_mem hx
    rw [List.length_cons]
    omega
theorem mem_keys {kvs : List (Key × V)} {k : Key} : k ∈ kvs.map (·.1) ↔ (valV kvs k).isSome = true := by
  rw [← valV_any, List.any_eq_true, List.mem_map]
  exact ⟨fun ⟨kv, hm, e⟩ => ⟨kv, hm, decide_eq_true e⟩, fun ⟨kv, hm, e⟩ => ⟨kv, hm, of_decide_eq_true e⟩⟩
theorem keys_put {kvs : List (Key × V)} {k : Key} {v : V} (nd : (kvs.map (·.1)).Nodup) : ((putK kvs k v).map (·.1)).Nodup := by
  cases e : valV kvs k with
  | none =>
    rw [L2.putK_new v e, List.map_append]
    refine List.nodup_append.mpr ⟨nd, by simp, fun a ha b hb => ?_⟩
    rw [List.mem_singleton.mp hb]
    intro q
    subst q
    have := mem_keys.mp ha
    rw [e] at this
    cases this
  | some x =>
    have h : (kvs.any fun kv => decide (kv.1 = k)) = true := by rw [valV_any, e]; rfl
    unfold putK
    rw [if_pos h, List.map_map]
    have : ((fun x : Key × V => x.1) ∘ fun kv : Key × V => if kv.1 = k then (kv.1, v) else kv) = fun x => x.1 := by
      funext kv
      show (if kv.1 = k then (kv.1, v) else kv).1 = kv.1
      split <;> rfl
    rw [this]
    exact nd
theorem keys_ints' : ∀ {kvs : List (Key × V)}, (∀ k ∈ kvs.map (·.1), ∃ i : Int, k = Sum.inl i) → ∃ ks : List Int, kvs.map (·.1) = ks.map Sum.inl
  | [], _ => ⟨[], rfl⟩
  | kv :: r, h => by
    obtain ⟨i, e⟩ := h kv.1 (by simp)
    obtain ⟨ks, e'⟩ := keys_ints' (kvs := r) fun k hk => h k (by rw [List.map_cons]; exact List.mem_cons_of_mem _ hk)
    exact ⟨i :: ks, by rw [List.map_cons, List.map_cons, e, e']⟩
end
section
variable {X : Cx}
theorem sw_trueD {kx vx : Expr} {gs : List Comprehension} {sc : Scope} {pos py : Pos} {y : Str} {l : Nat} {env : Env}
    (kind : env.scope.kind = .function) (isl : env.scope.names.lookup y = some .local) (line : (py.line == pos.line) = true)
    (free : (sc.names.any fun (n, k) => n == y && (k == .local || k == .cell)) = false) :
    swapsWith (.DictComp kx vx gs sc pos) (some (.Name y py)) l env = pure true := by
  have k1 : env.kindOf y = some .local := isl
  have k2 : env.blockKind = .function := by
    unfold Env.blockKind
    rw [kind]
    rfl
  unfold swapsWith
  simp only [k2, k1, free, Expr.pos, line]
  rfl
/-- name = {k: v for ..} on one line, the name a local -/
theorem ps_setDc {i : Nat} {y : Str} {py : Pos} {kx vx tg iter : Expr} {ifs : List Expr} {scope : Scope} {own : List (Str × Nat)} {pos spos : Pos} {wi : TI} {g : TG} {tt : TT} {tk tv : TE}
    (calm : X.calm = true) (hN : X.N.Nodup) (hy : X.N[i]? = some y) (loc : X.env.scope.names.lookup y = some .local)
    (sw : swapsWith (.DictComp kx vx [⟨tg, iter, ifs, 0⟩] scope pos) (some (.Name y py)) spos.line X.env = pure true)
    (hi : PI X tg iter wi) (ok : BlkOk X.N X.env.scope scope own)
    (hg : ∀ (s : Shared) (H : Hp) (C : Addr) (cl : List (Str × Addr)) (fp : List Addr), PG (X.blk s H scope (compEnvC scope cl C X.env) fp) tg g)
    (ht : ∀ (s : Shared) (H : Hp) (C : Addr) (cl : List (Str × Addr)) (fp : List Addr), PTs (X.blk s H scope (compEnvC scope cl C X.env) fp) ifs tt)
    (hk : ∀ (s : Shared) (H : Hp) (C : Addr) (cl : List (Str × Addr)) (fp : List Addr), PE (X.blk s H scope (compEnvC scope cl C X.env) fp) kx tk)
    (he : ∀ (s : Shared) (H : Hp) (C : Addr) (cl : List (Str × Addr)) (fp : List Addr), PE (X.blk s H scope (compEnvC scope cl C X.env) fp) vx tv)
    (hs : ∀ x, foldedSetIterable iter X.env x = pure x := by intro _; rfl) :
    PS X (.Assign [.Name y py] (.DictComp kx vx [⟨tg, iter, ifs, 0⟩] scope pos) spos) (tAsg (tDc wi g tt tk tv (own.map (·.2))) (gName i)) := by
  constructor
  intro pins s σ H D I h
  rw [exec_Assign_Name_used _ _ _ _ sw]
  apply wpAny_bind
  apply wpAny_standAt
  apply wpAny_bind
  have want : tDc wi g tt tk tv (own.map (·.2)) σ H (fun x H1 => gName i x σ H1 D.nx) := h
  show wpAny _ X.A (do
    let _ ← comprehension (.DictComp kx vx [⟨tg, iter, ifs, 0⟩] scope pos) scope X.env (firstIterPos [⟨tg, iter, ifs, 0⟩] pos) newDict false (eval iter X.env) (some (assign (.Name y py) X.env))) _ _ s
  apply wpAny_bind
  refine thn (dc_core (Qf := fun _ s' => SP X pins D .next s') calm hN I hi ok hg ht hk he hs want ?_) fun _ s' q => wpAny_pure (wpAny_pure q)
  intro L C s' m H' J q hn fp
  show wpAny _ _ (assign (.Name y py) X.env (.ref L)) _ _ _
  refine wpAny_assign_Name (store_ok2 (v := V.ref L) J hN hy (.inl loc) rfl ?_ (.inr loc))
  rintro s2 J2 ⟨a, sb, ha⟩
  obtain ⟨u0, u1, u2, u3, u4, u5⟩ := fp
  have apart : C ≠ a := by
    rcases ha with z | z
    · rw [z]
      exact u1
    · exact fun e => u4 y a z e.symm
  refine ⟨m, hn.sameBut sb apart, fun h3 sb3 => ⟨_, H', ?_, q⟩⟩
  exact J2.turned (t' := s2.toks) (fun b o hb e => (sb3.2 b hb).trans e) u0 u1 u3 u4 u5
theorem u65 {k : Nat} {A : Around} (r : Room k A) : A.units + 65 < cLine := by
  have := r.un
  omega
theorem op_notInDK {K : PySem.W.Frag} (h : X.K = K) (hu : X.A.units + 65 < cLine) : OpR X (compareOp .NotIn) (rNotInD K) := h ▸ op_notInD hu
theorem op_catTK {K : PySem.W.Frag} (h : X.K = K) : OpR X (binaryOp .Add) (rCatT K) := h ▸ op_catT
theorem op_inDK {K : PySem.W.Frag} (h : X.K = K) (hu : X.A.units + 65 < cLine) : OpR X (compareOp .In) (rInD K) := h ▸ op_inD hu
/-- sorted(d): the keys all ints, any number of them -/
def rSortDk : List V → Hp → VK → Prop := fun xs H Q => ∃ (a : Addr) (kvs : List (Key × V)) (ks : List Int), xs = [.ref a] ∧ H a = some (.dK kvs) ∧ kvs.map (·.1) = ks.map Sum.inl ∧
  ∀ (ys : List Int) (p : Addr), ys.Perm ks → ys.Pairwise (· ≤ ·) → H p = none → Q (.ref p) (upd H p (.lst (ys.map V.int)))
theorem keys_ints {P : Program} {w : World} : ∀ {vs : List (Key × Value)} {us : List Value} {ks : List Int}, vs.map (·.1) = ks.map Sum.inl → us.length = vs.length →
    (∀ (j : Nat) (v : Value), us[j]? = some v → ∃ k x, vs[j]? = some (k, x) ∧ (mixKind P w).is k v = true) → IntsAre us ks
  | [], [], [], _, _, _ => .nil
  | [], [], _ :: _, e, _, _ => by simp at e
  | _ :: _, _, [], e, _, _ => by simp at e
  | [], _ :: _, _, _, e, _ => by simp at e
  | _ :: _, [], _, _, e, _ => by simp at e
  | (k, x) :: vs, u :: us, n :: ks, e, l, h => by
    rw [List.map_cons, List.map_cons] at e
    injection e with e1 e2
    obtain ⟨k', x', a, b⟩ := h 0 u rfl
    have ek : (k, x) = (k', x') := Option.some.inj a
    injection ek with ek _
    subst ek
    have ek : k = Sum.inl n := e1
    subst ek
    rcases keyIs_shape (show keyIs (Sum.inl n) u = true from b) with ⟨i, t, q, eu⟩ | ⟨z, t, q, eu⟩
    · cases q
      subst eu
      exact .cons _ _ (keys_ints (P := P) (w := w) e2 (by simpa using l) fun j v hv => by
        obtain ⟨k2, x2, c, d⟩ := h (j + 1) v (by simpa using hv)
        exact ⟨k2, x2, by simpa using c, d⟩)
    · cases q
theorem call_sortedDk (calm : X.calm = true) : CallR X (.builtin "sorted") rSortDk := by
  intro pins s σ H xs us Q I r h
  obtain ⟨a, kvs, ks, rfl, hd, hks, fin⟩ := h
  obtain ⟨u, rfl, ru⟩ := vals1 r
  cases ru
  obtain ⟨small, lo, vs, rel, held⟩ := dk_rd I.hok (Rd.of hd)
  obtain ⟨ep, there⟩ := held.dictAt
  have keys : vs.map (·.1) = ks.map Sum.inl := rel.keys.symm.trans hks
  have many : vs.length = ks.length := by
    have e := congrArg List.length keys
    rwa [List.length_map, List.length_map] at e
  have kvl : kvs.length = ks.length := by
    have e := congrArg List.length hks
    rwa [List.length_map, List.length_map] at e
  have line : vs.length ≤ sizeLine := by rw [many, ← kvl]; exact small
  refine Calls.call_function_entry kind_sorted plain_sorted entry_sorted (args_sorted1 _) ?_
  unfold Builtin.«sorted»
  apply wpAny_bind (m := checkCount "sorted" 1 1 _)
  apply wpAny_pure
  apply wpAny_bind
  refine PySem.W.kdu_collect (A := X.A.in1) (PySem.W.kdl_dict (knd := mixKind X.prog X.w) (kvs := vs) (ep := ep) lo) (I.ok.hd calm) there line ?_
  intro h1 tk acc kept items
  have len : acc.toList.length = vs.length := by rw [Array.length_toList]; exact items.1
  have nums : IntsAre acc.toList ks := keys_ints (P := X.prog) (w := X.w) keys len fun j v e => by
    obtain ⟨k, x, e1, e2⟩ := items.2 j v (by rw [← Array.getElem?_toList]; exact e)
    exact ⟨k, x, e1, e2⟩
  have J : Inv X pins σ H { s with heap := h1, toks := tk } := I.kept kept
  have line' : acc.toList.length ≤ sizeLine := by rw [len]; exact line
  apply wpAny_bind
  refine wpAny_newList ?_ line'
  have laid : (h1.push (seqObj "list" acc.toList.toArray 0)).get? h1.objs.size = some (seqObj "list" acc.toList.toArray 0) := Heap.get?_push_size _ rfl
  show wpAny _ _ _ _ _ { s with heap := h1.push (seqObj "list" acc.toList.toArray 0), toks := tk }
  apply wpAny_bind
  apply wpAny_holding
  refine wpAny_call_entry slot_list_sort ⟨_, laid, rfl⟩ entry_list_sort ?_ (args_list_sort _)
  refine SrtO.list_sort_ord (s := { s with heap := h1.push (seqObj "list" acc.toList.toArray 0), toks := tk }) SrtO.swo_int laid line' (fun two => SrtO.ints_sortable nums two) ?_
  intro out srt stb
  refine ⟨_, rfl, ?_⟩
  obtain ⟨g1, g2, g3⟩ := SrtO.ints_out nums srt stb
  obtain ⟨e', at'⟩ := sortedHeap_at (vs := acc.toList) (out := out.toArray) laid
  have fits : ((out.map SrtO.iv).map V.int).length ≤ sizeLine := by
    rw [List.length_map, g2.length_eq, ← kvl]
    exact small
  refine wpAny_pure ⟨_, rfl, .ref h1.objs.size, upd H h1.objs.size (.lst ((out.map SrtO.iv).map V.int)), ?_, rfl, fin _ _ g2 g3 (J.hok.fresh (Nat.le_refl _))⟩
  refine J.laid (t' := tk) ?_ (Nat.le_refl _) ⟨fits, out, e', vals_of_ints g1, at'⟩
  intro b o e
  have lt : b < h1.objs.size := Heap.lt_size e
  rw [sortedHeap_old (Nat.ne_of_lt lt) (by rw [size_push']; exact Nat.lt_succ_of_lt lt)]
  exact Heap.get?_push_of_some _ e
end
end Sky

/-! list(d.values()) -/
namespace L2
open PySem PySem.Spec PyProof.Rows
section
variable {X : Cx} {o : Expr} {p pos apos mpos : Pos} {td : TE}
/-- list(o.values()): the values as they stand -/
def tListVals (td : TE) : TE := fun σ H Q => td σ H fun x H1 => ∃ a kvs, x = V.ref a ∧ H1 a = some (.dK kvs) ∧ ∀ q, H1 q = none → Q (.ref q) (upd H1 q (.lst (kvs.map (·.2))))
/-- the view that o.values() lays down -/
abbrev viewObj (a : Addr) : Obj := { cls := .type "dict_values", data := .fields #[.ref a] }
abbrev valuesCall (o : Expr) (pa pm : Pos) : Expr := .Call (.Attribute o "values" pa) [] [] pm
theorem pe_listVals (calm : X.calm = true) (free : Gl X "list") (unset : X.mg "list" = none) (sub : PE X o td)
    (plain : attributeBase o "values" X.env (eval o X.env) = eval o X.env := by rfl) (line : (apos.endLine == mpos.line) = true := by rfl)
    (star : starEach [valuesCall o apos mpos] X.env = [(false, eval (valuesCall o apos mpos) X.env)] := by rfl) :
    PE X (.Call (.Name "list" p) [valuesCall o apos mpos] [] pos) (tListVals td) := by
  constructor
  intro pins s σ G R inv told
  refine wpAny_Call_Name_kw (ld_blt inv free unset (u := .type "list") (by first | rfl | decide +kernel) ?_ (by decide +kernel) (by decide +kernel))
  rw [star]
  refine PySem.callWith_type1 (wpAny_Call_method0_late plain line ?_)
  refine thn (sub.run pins s σ G _ inv told) ?_
  rintro v t ⟨x, G1, inv1, rx, a, kvs, rfl, isD, fin⟩
  cases rx
  obtain ⟨few, low, ws, rel, held⟩ := dk_of inv1.hok isD
  obtain ⟨ep, stands⟩ := held.dictAt
  have copy := stands
  obtain ⟨ob, _, at', exact', _⟩ := copy
  refine ⟨"dict", "dict.values", F.plainAttrs_dict, F.slot_dict_values,
    F.type_dict_values, ⟨ob, at', exact'.1⟩, ?_, Calls.callWith_builtin rfl (PySem.evalArgs_none ?_)⟩
  · intro _ same
    cases same
    exact ⟨ob, at', exact'.2.1⟩
  refine call_meetsIn F.slot_dict_values ⟨ob, at', exact'.1⟩
    F.entry_dict_values (F.args_dict_values_1 _)
    (meets_dict_values (mixKind X.prog X.w) a low) ⟨⟨ws, held⟩, ?_⟩
  have grown : ∀ b u, t.heap.get? b = some u → (t.heap.push (viewObj a)).get? b = some u := fun _ _ => Heap.get?_push_of_some _
  have still : (t.heap.push (viewObj a)).DictAt (mixKind X.prog X.w) a ws ep := stands.keep grown
  have many : kvs.length = ws.length := KV.length rel
  have more : (t.heap.push (viewObj a)).objs.size = t.heap.objs.size + 1 := Heap.size_push _ _
  have behind : t.heap.objs.size ≤ (t.heap.push (viewObj a)).objs.size := by omega
  refine PySem.W.kdl_call (PySem.W.kdl_values (knd := mixKind X.prog X.w) (kvs := ws) (ep := ep))
    (inv.ok.hd calm) ⟨⟨_, Heap.get?_push_size _ rfl, rfl, rfl⟩, still⟩ (by rw [← many]; exact few) ?_
  intro h2 tk acc c kept laid items
  have ok : ObjOk X.prog X.w (upd G1 (t.heap.push (viewObj a)).objs.size (.lst (kvs.map (·.2)))) h2 (t.heap.push (viewObj a)).objs.size (.lst (kvs.map (·.2))) := by
    refine ⟨by rw [List.length_map]; exact few, acc.toList, c, ?_, by rw [Array.toArray_toList]; exact laid⟩
    have size : acc.toList.length = acc.size := by simp
    apply vals_of_at
    · rw [List.length_map, size, items.1, many]
    · intro j x u ex eu
      obtain ⟨k, ek⟩ := items.2 j u (by rw [← Array.getElem?_toList]; exact eu)
      obtain ⟨y, ey, ry⟩ := KV.at' rel ek
      rw [List.getElem?_map, ey] at ex
      cases ex
      exact ry
  exact ⟨.ref _, _, inv1.laid (fun b u e => kept b u (grown b u e)) behind ok, rfl, fin _ (inv1.hok.fresh behind)⟩
/-! max(d, default=n) of a dict whose keys are ints -/
def rMaxDk : List V → List V → Hp → VK → Prop := fun vs zs H Q => ∃ (a : Addr) (kvs : List (Key × V)) (ks : List Int) (d : Int), vs = [V.ref a] ∧ zs = [V.int d] ∧ H a = some (.dK kvs) ∧ kvs.map (·.1) = ks.map Sum.inl ∧ (ks = [] → Q (.int d) H) ∧ ∀ m, m ∈ ks → (∀ j ∈ ks, j ≤ m) → Q (.int m) H
theorem argBest_gt (f : Nat → Int) : ∀ n : Nat, PySem.argBest (fun i j => decide (f i > f j)) n ≤ n ∧ ∀ i, i ≤ n → f i ≤ f (PySem.argBest (fun i j => decide (f i > f j)) n)
  | 0 => ⟨Nat.le_refl _, fun i hi => by
      have : i = 0 := by omega
      subst this
      exact Int.le_refl _⟩
  | n + 1 => by
    obtain ⟨h1, h2⟩ := argBest_gt f n
    have e : PySem.argBest (fun i j => decide (f i > f j)) (n + 1) = if decide (f (n + 1) > f (PySem.argBest (fun i j => decide (f i > f j)) n)) = true then n + 1 else PySem.argBest (fun i j => decide (f i > f j)) n := rfl
    rw [e]
    by_cases c : f (n + 1) > f (PySem.argBest (fun i j => decide (f i > f j)) n)
    · rw [if_pos (decide_eq_true c)]
      refine ⟨Nat.le_refl _, fun i hi => ?_⟩
      rcases Nat.lt_or_ge i (n + 1) with z | z
      · have := h2 i (by omega)
        omega
      · have : i = n + 1 := by omega
        subst this
        exact Int.le_refl _
    · rw [if_neg (by rw [decide_eq_true_eq]; exact c)]
      refine ⟨by omega, fun i hi => ?_⟩
      rcases Nat.lt_or_ge i (n + 1) with z | z
      · exact h2 i (by omega)
      · have : i = n + 1 := by omega
        subst this
        omega
theorem cr_maxDk (hc : X.calm = true) : CallRK X (.builtin "max") [Str.ofString "default"] rMaxDk := by
  intro pins s σ H vs zs us ws Q I r rz h
  obtain ⟨a, kvs, ks, d, rfl, rfl, ha, hks, q0, q1⟩ := h
  obtain rfl := Vals.ref1 r
  obtain ⟨w1, rfl, e1⟩ := vals1 rz
  obtain ⟨td, rfl⟩ : ∃ t, w1 = Value.int d t := e1
  obtain ⟨z, lo, vs, rel, held⟩ := dk_rd I.hok (Rd.of ha)
  obtain ⟨ep, there⟩ := held.dictAt
  have keys : vs.map (·.1) = ks.map Sum.inl := rel.keys.symm.trans hks
  have many : vs.length = ks.length := by
    have e := congrArg List.length keys
    rwa [List.length_map, List.length_map] at e
  have hval : ∀ (i : Nat) (v : Value), (∃ k x, vs[i]? = some (k, x) ∧ (mixKind X.prog X.w).is k v = true) → ∃ t, v = Value.int (ks.getD i 0) t := fun i v ⟨k, x, e1, e2⟩ => by
    have h1 : (vs.map (·.1))[i]? = some k := by rw [List.getElem?_map, e1] <;> rfl
    rw [keys, List.getElem?_map] at h1
    obtain ⟨j, hj, ek⟩ := Option.map_eq_some_iff.mp h1
    subst ek
    rcases keyIs_shape (k := Sum.inl j) (v := v) e2 with ⟨i', t, g1, g2⟩ | ⟨x', t, g1, g2⟩
    · injection g1 with g1
      subst g1
      exact ⟨t, by rw [g2, List.getD_eq_getElem?_getD, hj] <;> rfl⟩
    · cases g1
  obtain ⟨oI, St, hit, W, st0⟩ := (PySem.W.kdl_dict (prog := X.prog) (w := X.w) (knd := mixKind X.prog X.w) (kvs := vs) (ep := ep) lo).iter X.A.in1 s (I.ok.hd hc) there
  have hlt := there.lt_size
  refine PySem.call_max_walkD (hit _ _ ⟨_, _, _, _, _, _, _, s.heap, (fun i j => decide (ks.getD i 0 > ks.getD j 0)), rfl, W.toS, st0, fun b hb => ?_, fun b o e hb => ?_, fun b o e => Heap.get?_push_of_some _ e, fun hz s' m => ?_, fun hp => ⟨fun i j vi vj s2 Q E _ hi hj hq => CmpOf.ints_gt (fun i => ks.getD i 0) hval i j vi vj s2 Q E hi hj hq, fun v s' hP m => ?_⟩⟩)
  · show b < (s.heap.push _).objs.size
    rw [Heap.size_push]
    rcases List.mem_cons.mp hb with e | hb
    · rw [e]
      exact Nat.lt_succ_self _
    · rw [List.mem_singleton.mp hb]
      exact Nat.lt_succ_of_lt hlt
  · exact absurd (Heap.lt_size e) ((List.mem_singleton.mp hb) ▸ Nat.lt_irrefl _)
  · obtain ⟨h', tk, rfl, hk'⟩ := PySem.W.moved_old rfl rfl m
    exact ⟨.int d, H, I.kept (t' := tk) hk', ⟨td, rfl⟩, q0 (List.eq_nil_of_length_eq_zero (by omega))⟩
  · obtain ⟨h', tk, rfl, hk'⟩ := PySem.W.moved_old rfl rfl m
    obtain ⟨t, rfl⟩ := hval _ v hP
    obtain ⟨b1, b2⟩ := argBest_gt (fun i => ks.getD i 0) (vs.length - 1)
    have hb : PySem.argBest (fun i j => decide (ks.getD i 0 > ks.getD j 0)) (vs.length - 1) < ks.length := by omega
    refine ⟨.int _, H, I.kept (t' := tk) hk', ⟨t, rfl⟩, q1 _ ?_ fun j hj => ?_⟩
    · rw [List.getD_eq_getElem?_getD, List.getElem?_eq_getElem hb]
      exact List.getElem_mem hb
    · obtain ⟨i, hi, e⟩ := List.mem_iff_getElem.mp hj
      have e2 : ks.getD i 0 = j := by rw [List.getD_eq_getElem?_getD, List.getElem?_eq_getElem hi, ← e] <;> rfl
      rw [← e2]
      exact b2 i (by omega)
/-! a list walked within a comprehension: the written part is told -/
theorem pi_listK {K : PySem.W.Frag} {X : Cx} {tg e : Expr} {te : TE} (h : X.K = K) (he : PE X e te) : PI X tg e (iList K te) := h ▸ pi_list he
end
end L2

/-! A rule of my own: name = {k: v for .. in .. for .. in ..}, keys ints or texts, no tests. -/
namespace Sky
open PySem PySem.Spec PyProof.Rows L2
/-- the comprehension -/
abbrev dc2 (kx vx ta ia tb ib : Expr) (sc : Scope) (ps : Pos) : Expr := .DictComp kx vx [⟨ta, ia, [], 0⟩, ⟨tb, ib, [], 0⟩] sc ps
section
variable (kx vx ta ia tb ib : Expr) (sc : Scope) (ps : Pos) (it acc : Value) (D : Addr) (en : Env)
theorem dc2_outer : compTurn (dc2 kx vx ta ia tb ib sc ps) 0 it acc en = (do
    standAt ia.pos
    let nx ← pyNext it
    match nx with
    | none => pure (.done .next)
    | some v => do
      letOwnedTupleGo ta it v
      assign ta en v
      let x ← eval ib en
      standAt ib.pos
      let x2 ← foldedSetIterable ib en x
      let j ← holding [x2] (pyIter x2)
      let _ ← runOwn (.compStart (dc2 kx vx ta ia tb ib sc ps) 1 j acc en) en
      again (.compLoop (dc2 kx vx ta ia tb ib sc ps) 0 it acc en)) := by rfl
theorem dc2_inner : compTurn (dc2 kx vx ta ia tb ib sc ps) 1 it (.ref D) en = (do
    standAt ib.pos
    let nx ← pyNext it
    match nx with
    | none => pure (.done .next)
    | some v => do
      letOwnedTupleGo tb it v
      assign tb en v
      (do
        let kv ← eval kx en
        let vv ← holding [kv] (eval vx en)
        standAt { kx.pos with endLine := vx.pos.endLine, endCol := vx.pos.endCol }
        holding [kv, vv] (dictSet D kv vv))
      again (.compLoop (dc2 kx vx ta ia tb ib sc ps) 1 it (.ref D) en)) := by rfl
end
section
variable {prog : Program} {w : World} {A : Around} {R : Result → Shared → Prop} {s : Shared} {kx vx ta ia tb ib : Expr} {sc : Scope} {ps : Pos} {it acc : Value} {D : Addr} {en : Env}
/-- what a raise within does -/
abbrev off (prog : Program) (w : World) (A : Around) (en : Env) (R : Result → Shared → Prop) : Value → Shared → Prop := notedBy (model prog w) A en fun x t => R (.error x) t
theorem dc2_walk (fold : ∀ x, foldedSetIterable ib en x = pure x) (J : Nat → Shared → Prop)
    (step : ∀ n t, J n t → wpAny (model prog w) A (pyNext it) (fun got t1 => match got with
      | none => R (.ok .next) t1
      | some v => wpAny (model prog w) A (letOwnedTupleGo ta it v) (fun _ t2 => wpAny (model prog w) A (assign ta en v) (fun _ t3 =>
          wpAny (model prog w) A (eval ib en) (fun x t4 => wpAny (model prog w) A (pyIter x) (fun jt t5 =>
            codeAny (model prog w) A (.compStart (dc2 kx vx ta ia tb ib sc ps) 1 jt acc en) (fun r t6 => match r with
              | .ok _ => ∃ k, k < n ∧ J k t6
              | .error _ => False) t5) (off prog w A en R) t4) (off prog w A en R) t3) (off prog w A en R) t2) (off prog w A en R) t1) (off prog w A en R) t)
    (n : Nat) (start : J n s) : codeAny (model prog w) A (.compLoop (dc2 kx vx ta ia tb ib sc ps) 0 it acc en) R s := by
  apply codeAny_loop rfl J _ n start
  intro n t hJ
  show wpAny _ A ((compTurn (dc2 kx vx ta ia tb ib sc ps) 0 it acc en).onRaise (fun x => do noteFrame x en; theTreesLotGoes x)) _ _ t
  apply wpAny_noted
  rw [dc2_outer]
  apply wpAny_bind; apply wpAny_standAt; apply wpAny_bind
  refine wpAny_mono (step n t hJ) (fun got t1 h1 => ?_) fun _ _ z => z
  match got, h1 with
  | none, h1 => exact wpAny_pure h1
  | some v, h1 =>
    apply wpAny_bind
    refine wpAny_mono h1 (fun _ t2 h2 => ?_) fun _ _ z => z
    apply wpAny_bind
    refine wpAny_mono h2 (fun _ t3 h3 => ?_) fun _ _ z => z
    apply wpAny_bind
    refine wpAny_mono h3 (fun x t4 h4 => ?_) fun _ _ z => z
    apply wpAny_bind; apply wpAny_standAt; apply wpAny_bind
    refine wpAny_of_eq (fold x) ?_
    apply wpAny_bind; apply wpAny_holding
    refine wpAny_mono h4 (fun jt t5 h5 => ?_) fun _ _ z => z
    apply wpAny_bind
    refine wpAny_runOwn ?_
    rw [Around.mark_none]
    refine codeAny_mono h5 fun r t6 h6 => ?_
    match r, h6 with
    | .ok f, h6 => exact wpAny_pure ⟨rfl, h6⟩
    | .error e, h6 => exact False.elim h6
theorem dc2_walk1 (J : Nat → Shared → Prop)
    (step : ∀ n t, J n t → wpAny (model prog w) A (pyNext it) (fun got t1 => match got with
      | none => R (.ok .next) t1
      | some v => wpAny (model prog w) A (letOwnedTupleGo tb it v) (fun _ t2 => wpAny (model prog w) A (assign tb en v) (fun _ t3 =>
          wpAny (model prog w) A (eval kx en) (fun a t4 => wpAny (model prog w) A (eval vx en) (fun b t5 =>
            wpAny (model prog w) A (dictSet D a b) (fun _ t6 => ∃ k, k < n ∧ J k t6) (off prog w A en R) t5) (off prog w A en R) t4) (off prog w A en R) t3) (off prog w A en R) t2) (off prog w A en R) t1) (off prog w A en R) t)
    (n : Nat) (start : J n s) : codeAny (model prog w) A (.compLoop (dc2 kx vx ta ia tb ib sc ps) 1 it (.ref D) en) R s := by
  apply codeAny_loop rfl J _ n start
  intro n t hJ
  show wpAny _ A ((compTurn (dc2 kx vx ta ia tb ib sc ps) 1 it (.ref D) en).onRaise (fun x => do noteFrame x en; theTreesLotGoes x)) _ _ t
  apply wpAny_noted
  rw [dc2_inner]
  apply wpAny_bind; apply wpAny_standAt; apply wpAny_bind
  refine wpAny_mono (step n t hJ) (fun got t1 h1 => ?_) fun _ _ z => z
  match got, h1 with
  | none, h1 => exact wpAny_pure h1
  | some v, h1 =>
    apply wpAny_bind
    refine wpAny_mono h1 (fun _ t2 h2 => ?_) fun _ _ z => z
    apply wpAny_bind
    refine wpAny_mono h2 (fun _ t3 h3 => ?_) fun _ _ z => z
    apply wpAny_bind; apply wpAny_bind
    refine wpAny_mono h3 (fun a t4 h4 => ?_) fun _ _ z => z
    apply wpAny_bind; apply wpAny_holding
    refine wpAny_mono h4 (fun b t5 h5 => ?_) fun _ _ z => z
    apply wpAny_bind; apply wpAny_standAt; apply wpAny_holding
    refine wpAny_mono h5 (fun _ t6 h6 => ?_) fun _ _ z => z
    exact wpAny_pure ⟨rfl, h6⟩
/-- the inner clause begins -/
theorem dc2_start1 (self : codeAny (model prog w) A (.compLoop (dc2 kx vx ta ia tb ib sc ps) 1 it acc en) R s)
    (other : wpAny (model prog w) A (pyIter it) (fun jt t => codeAny (model prog w) A (.compLoop (dc2 kx vx ta ia tb ib sc ps) 1 jt acc en) R t) (off prog w A en R) s) :
    codeAny (model prog w) A (.compStart (dc2 kx vx ta ia tb ib sc ps) 1 it acc en) R s := by
  apply codeAny_of_tree
  show wpAny _ _ ((compStart (dc2 kx vx ta ia tb ib sc ps) 1 it acc en).onRaise (fun x => do noteFrame x en; standAt theWindowsPlace)) _ _ s
  apply wpAny_notedAt
  unfold compStart
  show wpAny _ _ (ask >>= _) _ _ s
  apply wpAny_bind; apply wpAny_askSetting; apply wpAny_ite
  split
  · exact wpAny_bind (wpAny_pure (wpAny_pure (And.intro rfl self)))
  · apply wpAny_bind; apply wpAny_rule
    show wpAny _ _ (standAt ib.pos >>= _) _ _ s
    apply wpAny_bind; apply wpAny_standAt; apply wpAny_bind
    exact wpAny_mono other (fun jt t h => wpAny_pure (And.intro rfl h)) fun _ _ z => z
end
section
variable {X : Cx}
/-- the reading: for each item of the first source the second source's own loop, from which the first's next turn is reached -/
def tDc2 (wi : TI) (ga : TG) (wj : TI) (gb : TG) (tk tv : TE) (va vb : List Nat) : TE := fun σ H Q =>
  wi σ H fun J G1 => ∀ D, G1 D = none →
    ∃ W : Nat → Nat → Hp → Prop, (∃ m, W 0 m (upd G1 D (.dK []))) ∧ ∀ i m G, W i m G →
      (J.stop i G ∧ Q (.ref D) G) ∨
      (J.go i G ∧ ∃ Nx : Hp → Prop, (∀ G', Nx G' → ∃ m', m' < m ∧ W (i + 1) m' G') ∧ ∀ x G', J.yld i G x G' →
        ga x (wipe σ va) G' fun τ G2 => wipe τ va = wipe σ va ∧
          wj τ G2 fun L G3 => ∃ V1 : Nat → Nat → Hp → Prop, (∃ k, V1 0 k G3) ∧ ∀ j k F, V1 j k F →
            (L.stop j F ∧ Nx F) ∨
            (L.go j F ∧ ∃ Ny : Hp → Prop, (∀ F', Ny F' → ∃ k', k' < k ∧ V1 (j + 1) k' F') ∧ ∀ y F', L.yld j F y F' →
              gb y (wipe τ vb) F' fun ρ F2 => wipe ρ vb = wipe τ vb ∧
                tk ρ F2 fun a F3 => tv ρ F3 fun b F4 => ∃ kvs key, a = kV key ∧ F4 D = some (.dK kvs) ∧ kvs.length < sizeLine ∧ Ny (upd F4 D (.dK (putK kvs key b)))))
theorem dc2_all {pins : List (Addr × Obj)} {u : Shared} {σ : L2.St} {H : Hp} {Q : VK} {kx vx ta ia tb ib : Expr} {sc : Scope} {own : List (Str × Nat)} {vb : List Nat} {ps pf : Pos} {wi wj : TI} {ga gb : TG} {tk tv : TE} {use : Option (Value → Sem Unit)} {Qf : Value → Shared → Prop}
    (calm : X.calm = true) (nd : X.N.Nodup) (I0 : Inv X pins σ H u) (pa : PI X ta ia wi) (ok : BlkOk X.N X.env.scope sc own) (sub : ∀ i ∈ vb, i ∈ own.map (·.2))
    (pga : ∀ (u : Shared) (G : Hp) (C : Addr) (cl : List (Str × Addr)) (fp : List Addr), PG (X.blk u G sc (compEnvC sc cl C X.env) fp) ta ga)
    (pb : ∀ (u : Shared) (G : Hp) (C : Addr) (cl : List (Str × Addr)) (fp : List Addr), PI (X.blk u G sc (compEnvC sc cl C X.env) fp) tb ib wj)
    (pgb : ∀ (u : Shared) (G : Hp) (C : Addr) (cl : List (Str × Addr)) (fp : List Addr), PG (X.blk u G sc (compEnvC sc cl C X.env) fp) tb gb)
    (pk : ∀ (u : Shared) (G : Hp) (C : Addr) (cl : List (Str × Addr)) (fp : List Addr), PE (X.blk u G sc (compEnvC sc cl C X.env) fp) kx tk)
    (pv : ∀ (u : Shared) (G : Hp) (C : Addr) (cl : List (Str × Addr)) (fp : List Addr), PE (X.blk u G sc (compEnvC sc cl C X.env) fp) vx tv)
    (fa : ∀ x, foldedSetIterable ia X.env x = pure x) (fb : ∀ en x, foldedSetIterable ib en x = pure x)
    (want : tDc2 wi ga wj gb tk tv (own.map (·.2)) vb σ H Q)
    (last : ∀ D C u' m G', Inv X pins σ G' u' → Q (.ref D) G' → u'.heap.Ns C m → FpOk X pins G' C → compPost (model X.prog X.w) X.A X.xe use Qf (.ref D) C (.ok .next) u') :
    wpAny (model X.prog X.w) X.A (comprehension (dc2 kx vx ta ia tb ib sc ps) sc X.env pf newDict false (eval ia X.env) use) Qf X.xe u := by
  have outer : ∀ y ∈ sc.names, y.2 = .free → ∃ c, X.env.cells.lookup y.1 = some c := by
    intro y hy e
    rcases ok.free y hy e with z | z
    · exact I0.ok.has _ (.inl z)
    · exact I0.ok.has _ (.inr z)
  refine wpAny_comprehension_free (use := use) rfl fa (closure_ok outer) ok.kind (fun y hy e => by rw [ok.uniq y hy, e]) ?_
  refine thn (pa.run pins u σ H _ I0 want) fun _ u1 h1 => thn h1 fun _ u2 h2 => ?_
  obtain ⟨src, fp, tn, J, G2, rfl, I2, T, at2, foot2, q⟩ := h2
  refine wpAny_newObj_type (newEnv_comp ?_)
  generalize eD : u2.heap.objs.size = D
  have freeD : G2 D = none := I2.hok.fresh (Nat.le_of_eq eD)
  obtain ⟨W, ⟨m0, begin0⟩, turn⟩ := q D freeD
  -- the dict that is filled
  generalize e3 : ({ u2 with heap := u2.heap.push { cls := .type "dict", data := .dict #[] } } : Shared) = u3
  have I3 : Inv X pins σ (upd G2 D (.dK [])) u3 := by
    subst e3
    refine I2.laid (t' := u2.toks) (fun b o e => Heap.get?_push_of_some _ e) (Nat.le_of_eq eD) ?_
    subst eD
    exact dk_empty u2.heap I2.big
  have push3 : u3.heap = u2.heap.push { cls := .type "dict", data := .dict #[] } := by subst e3; rfl
  have low : ∀ b ∈ fp, b < u2.heap.objs.size := by
    intro b hb
    obtain ⟨o, e, _⟩ := T.obj _ _ at2 b hb
    exact Heap.lt_size e
  have foot3 : ∀ b ∈ fp, FpOk X pins (upd G2 D (.dK [])) b ∧ b < u3.heap.objs.size := by
    intro b hb
    have lt := low b hb
    refine ⟨⟨?_, (foot2 b hb).2⟩, ?_⟩
    · have nb : b ≠ D := by subst eD; exact Nat.ne_of_lt lt
      rw [upd_ne nb]
      exact (foot2 b hb).1
    · rw [push3, Heap.size_push]
      exact Nat.lt_succ_of_lt lt
  have at3 : tn 0 u3.heap := by
    refine T.keep _ _ _ at2 fun b _ o e => ?_
    rw [push3]
    exact Heap.get?_push_of_some _ e
  have I4 := block_start I3 ok nd foot3
  show codeAny _ _ (.compStart (dc2 kx vx ta ia tb ib sc ps) 0 (.ref src) (.ref D) (compEnvC sc (cellsFrom (u3.heap.objs.size + 1) sc.names (cloFrom X.env.cells sc.names [])) u3.heap.objs.size X.env))
    (compPost (model X.prog X.w) X.A X.xe use Qf (.ref D) u3.heap.objs.size) ({ u3 with heap := pushCells (u3.heap.push { cls := .type "dict", data := .dict #[] }) sc.names } : Shared)
  generalize eC : u3.heap.objs.size = C at I4 foot3 ⊢
  generalize ecl : cellsFrom (C + 1) sc.names (cloFrom X.env.cells sc.names []) = cl at I4 ⊢
  generalize eG : upd G2 D (.dK []) = G3 at I3 I4 foot3 begin0
  have qa := pga u3 G3 C cl fp
  have qb := pb u3 G3 C cl fp
  have qgb := pgb u3 G3 C cl fp
  have qk := pk u3 G3 C cl fp
  have qv := pv u3 G3 C cl fp
  have un : ∀ b ∈ fp, G3 b = none := fun b hb => (foot3 b hb).1.1
  have here : (compEnvC sc cl C X.env).locals = C := rfl
  generalize compEnvC sc cl C X.env = en at *
  generalize e4 : ({ u3 with heap := pushCells (u3.heap.push { cls := .type "dict", data := .dict #[] }) sc.names } : Shared) = u4 at *
  have at4 : tn 0 u4.heap := by
    refine T.keep _ _ _ at3 fun b _ o e => ?_
    subst e4
    exact pushCells_keeps _ _ _ _ (Heap.get?_push_of_some _ e)
  have foot : ∀ {τ : L2.St} {G : Hp} {t : Shared}, Inv (X.blk u3 G3 sc en fp) [] τ G t → (∀ b ∈ fp, G b = none) → ∀ b ∈ fp, FpOk (X.blk u3 G3 sc en fp) [] G b := by
    intro τ G t Iv no b hb
    refine ⟨no b hb, (Iv.ok.exf b hb).1, Iv.ok.exfs b hb, .inl hb, fun x c e => (Iv.ok.exf b hb).2 x c e, fun z hz => ?_⟩
    have hz' : z ∈ ([] : List (Addr × Obj)) ++ [] := hz
    simp at hz'
  have whole : codeAny (model X.prog X.w) X.A (.compLoop (dc2 kx vx ta ia tb ib sc ps) 0 (.ref src) (.ref D) en) (compPost (model X.prog X.w) X.A X.xe use Qf (.ref D) C) u4 := by
    refine dc2_walk (fb en) (fun n t => ∃ i G, Inv (X.blk u3 G3 sc en fp) [] (wipe σ (own.map (·.2))) G t ∧ tn i t.heap ∧ (∀ b ∈ fp, G b = none) ∧ W i n G) ?_ m0 ⟨0, G3, I4, at4, un, begin0⟩
    rintro n t5 ⟨i, G5, I5, at5, un5, w5⟩
    rcases turn i n G5 w5 with ⟨stop, done⟩ | ⟨goes, Nx, down, one⟩
    · -- none is left: back in the def
      refine thnF (T.done (X.blk u3 G3 sc en fp) rfl rfl rfl calm i [] t5 _ G5 (fun _ _ => False) I5 (foot I5 un5) at5 stop) fun r t6 ⟨er, I6⟩ => ?_
      subst er
      have I7 : Inv X pins σ G5 t6 := I3.call' (ch := fp) I6.os I6.base I6.hok I6.bare fun b hb => by
        obtain ⟨⟨_, z2, z3, z4, z5, z6⟩, _⟩ := foot3 b hb
        exact ⟨z4, z2, z5, z6⟩
      have noC : G5 C = none := by
        have z : G5 en.locals = none := I6.free
        rw [here] at z
        exact z
      obtain ⟨m, ns, _⟩ := I6.loc
      have ns' : t6.heap.Ns en.locals m := ns
      rw [here] at ns'
      exact last D C t6 m G5 I7 done ns' (I3.fpOk (Nat.le_of_eq eC) noC)
    · refine thnF (T.item (X.blk u3 G3 sc en fp) rfl rfl rfl calm i [] t5 _ G5 (fun _ _ => False) I5 (foot I5 un5) at5 goes) fun r t6 ⟨v, er, h6⟩ => ?_
      subst er
      refine thnF h6 fun _ t7 ⟨x, G7, I7, rx, yl, at7, un7⟩ => ?_
      have I7p := I7.pinned (foot I7 un7) (T.obj _ _ at7)
      refine thnF (qa.run _ t7 _ G7 x v _ I7p rx (one x G7 yl)) fun _ t8 ⟨τ, G8, I8, ewipe, q8⟩ => ?_
      have lenτ : (wipe σ (own.map (·.2))).length = τ.length := by rw [← ewipe, wipe_length]
      have keepτ : ∀ (j : Nat) v, (wipe σ (own.map (·.2)))[j]? = some (some v) → (wipe τ vb)[j]? = some (some v) := by
        intro j v e
        rw [← ewipe] at e
        obtain ⟨z1, z2⟩ := wipe_some e
        rw [wipe_out fun z => z2 (sub j z)]
        exact z1
      -- the turn is done
      have next : ∀ {ρ : L2.St} {t : Shared} {G : Hp}, Inv (X.blk u3 G3 sc en fp) ([] ++ pinsAt fp t7.heap) ρ G t → (wipe σ (own.map (·.2))).length = ρ.length → (∀ (j : Nat) v, (wipe σ (own.map (·.2)))[j]? = some (some v) → ρ[j]? = some (some v)) → Nx G →
          ∃ m, m < n ∧ ∃ i G, Inv (X.blk u3 G3 sc en fp) [] (wipe σ (own.map (·.2))) G t ∧ tn i t.heap ∧ (∀ b ∈ fp, G b = none) ∧ W i m G := by
        intro ρ t G Iv len keep nx
        obtain ⟨m, less, w'⟩ := down G nx
        have pinned : ∀ b ∈ fp, ∀ o, t7.heap.get? b = some o → t.heap.get? b = some o ∧ G b = none := by
          intro b hb o e
          have z := Iv.pin (b, o) (List.mem_append_right _ (List.mem_append_right _ (mem_pinsAt hb e)))
          exact ⟨z.1, z.2.1⟩
        refine ⟨m, less, i + 1, G, (Iv.unpinned (pins := [])).weak len keep, T.keep _ _ _ at7 fun b hb o e => (pinned b hb o e).1, fun b hb => ?_, w'⟩
        obtain ⟨o, e, _⟩ := T.obj _ _ at7 b hb
        exact (pinned b hb o e).2
      refine thnF (qb.run _ t8 τ G8 _ I8 q8) fun _ t9 h9 => thnF h9 fun _ t10 h10 => ?_
      obtain ⟨src2, fp2, tn2, L, G10, rfl, I10, T2, at10, foot10, V1, ⟨k0, begin1⟩, turn1⟩ := h10
      have foot2 : ∀ {G : Hp}, (∀ b ∈ fp2, G b = none) → ∀ b ∈ fp2, FpOk (X.blk u3 G3 sc en fp) ([] ++ pinsAt fp t7.heap) G b := fun no b hb => ⟨no b hb, (foot10 b hb).2⟩
      have inner : codeAny (model X.prog X.w) X.A (.compLoop (dc2 kx vx ta ia tb ib sc ps) 1 (.ref src2) (.ref D) en)
          (fun r t => match r with
            | .ok _ => ∃ m, m < n ∧ ∃ i G, Inv (X.blk u3 G3 sc en fp) [] (wipe σ (own.map (·.2))) G t ∧ tn i t.heap ∧ (∀ b ∈ fp, G b = none) ∧ W i m G
            | .error _ => False) t10 := by
        refine dc2_walk1 (fun k t => ∃ j G, Inv (X.blk u3 G3 sc en fp) ([] ++ pinsAt fp t7.heap) (wipe τ vb) G t ∧ tn2 j t.heap ∧ (∀ b ∈ fp2, G b = none) ∧ V1 j k G) ?_ k0 ⟨0, G10, I10.weak (wipe_length _ _) (fun j v e => (wipe_some e).1), at10, fun b hb => (foot10 b hb).1, begin1⟩
        rintro k t11 ⟨j, G11, I11, at11, un11, w11⟩
        rcases turn1 j k G11 w11 with ⟨stop1, nx⟩ | ⟨goes1, Ny, down1, one1⟩
        · refine thnF (T2.done (X.blk u3 G3 sc en fp) rfl rfl rfl calm j _ t11 (wipe τ vb) G11 (fun _ _ => False) I11 (foot2 un11) at11 stop1) fun r t12 ⟨er, I12⟩ => ?_
          subst er
          exact next I12 (lenτ.trans (wipe_length τ vb).symm) keepτ nx
        · refine thnF (T2.item (X.blk u3 G3 sc en fp) rfl rfl rfl calm j _ t11 (wipe τ vb) G11 (fun _ _ => False) I11 (foot2 un11) at11 goes1) fun r t12 ⟨v1, er, h12⟩ => ?_
          subst er
          refine thnF h12 fun _ t13 ⟨y, G13, I13, ry, yl1, at13, un13⟩ => ?_
          have I13p := I13.pinned (foot2 un13) (T2.obj _ _ at13)
          refine thnF (qgb.run _ t13 (wipe τ vb) G13 y v1 _ I13p ry (one1 y G13 yl1)) fun _ t14 ⟨ρ, G14, I14, ewipe1, q14⟩ => ?_
          refine thnF (qk.run _ t14 ρ G14 _ I14 q14) fun ka t15 ⟨a, G15, I15, ra, q15⟩ => ?_
          refine thnF (qv.run _ t15 ρ G15 _ I15 q15) fun kb t16 ⟨b, G16, I16, rb, kvs, key, ea, hd16, few, nx⟩ => ?_
          subst ea
          refine d_dictSet (X := X.blk u3 G3 sc en fp) I16 hd16 few ra rb fun t17 I17 => ?_
          obtain ⟨k', less, w'⟩ := down1 _ nx
          have pinned : ∀ c ∈ fp2, ∀ o, t13.heap.get? c = some o → t17.heap.get? c = some o ∧ (upd G16 D (.dK (putK kvs key b))) c = none := by
            intro c hc o e
            have z := I17.pin (c, o) (List.mem_append_right _ (List.mem_append_right _ (mem_pinsAt hc e)))
            exact ⟨z.1, z.2.1⟩
          refine ⟨k', less, j + 1, _, I17.unpinned.weak ?_ (fun n v e => ?_), T2.keep _ _ _ at13 fun c hc o e => (pinned c hc o e).1, fun c hc => ?_, w'⟩
          · rw [← ewipe1, wipe_length]
          · rw [← ewipe1] at e
            exact (wipe_some e).1
          · obtain ⟨o, e, _⟩ := T2.obj _ _ at13 c hc
            exact (pinned c hc o e).2
      exact dc2_start1 inner (T2.self X.A 0 _ _ _ at10 inner)
  exact codeAny_compStart_dict whole (T.self X.A 0 _ _ _ at4 whole)
end
section
variable {X : Cx}
/-- name = {k: v for .. for ..} on one line, the name a local -/
theorem ps_setDc2 {i : Nat} {y : Str} {py : Pos} {kx vx ta ia tb ib : Expr} {sc : Scope} {own : List (Str × Nat)} {vb : List Nat} {ps sp : Pos} {wi wj : TI} {ga gb : TG} {tk tv : TE}
    (calm : X.calm = true) (nd : X.N.Nodup) (hy : X.N[i]? = some y) (loc : X.env.scope.names.lookup y = some .local)
    (sw : swapsWith (dc2 kx vx ta ia tb ib sc ps) (some (.Name y py)) sp.line X.env = pure true)
    (pa : PI X ta ia wi) (ok : BlkOk X.N X.env.scope sc own) (sub : ∀ i ∈ vb, i ∈ own.map (·.2))
    (pga : ∀ (u : Shared) (G : Hp) (C : Addr) (cl : List (Str × Addr)) (fp : List Addr), PG (X.blk u G sc (compEnvC sc cl C X.env) fp) ta ga)
    (pb : ∀ (u : Shared) (G : Hp) (C : Addr) (cl : List (Str × Addr)) (fp : List Addr), PI (X.blk u G sc (compEnvC sc cl C X.env) fp) tb ib wj)
    (pgb : ∀ (u : Shared) (G : Hp) (C : Addr) (cl : List (Str × Addr)) (fp : List Addr), PG (X.blk u G sc (compEnvC sc cl C X.env) fp) tb gb)
    (pk : ∀ (u : Shared) (G : Hp) (C : Addr) (cl : List (Str × Addr)) (fp : List Addr), PE (X.blk u G sc (compEnvC sc cl C X.env) fp) kx tk)
    (pv : ∀ (u : Shared) (G : Hp) (C : Addr) (cl : List (Str × Addr)) (fp : List Addr), PE (X.blk u G sc (compEnvC sc cl C X.env) fp) vx tv)
    (fa : ∀ x, foldedSetIterable ia X.env x = pure x := by intro _; rfl) (fb : ∀ en x, foldedSetIterable ib en x = pure x := by intro _ _; rfl) :
    PS X (.Assign [.Name y py] (.DictComp kx vx [⟨ta, ia, [], 0⟩, ⟨tb, ib, [], 0⟩] sc ps) sp) (tAsg (tDc2 wi ga wj gb tk tv (own.map (·.2)) vb) (gName i)) := by
  constructor
  intro pins u σ H D I h
  have want : tDc2 wi ga wj gb tk tv (own.map (·.2)) vb σ H (fun x G => gName i x σ G D.nx) := h
  rw [exec_Assign_Name_used _ _ _ _ sw]
  apply wpAny_bind; apply wpAny_standAt; apply wpAny_bind
  show wpAny _ X.A (do
    let _ ← comprehension (dc2 kx vx ta ia tb ib sc ps) sc X.env (firstIterPos [⟨ta, ia, [], 0⟩, ⟨tb, ib, [], 0⟩] ps) newDict false (eval ia X.env) (some (assign (.Name y py) X.env))) _ _ u
  apply wpAny_bind
  refine thn (dc2_all (Qf := fun _ t => SP X pins D .next t) calm nd I pa ok sub pga pb pgb pk pv fa fb want ?_) fun _ t q => wpAny_pure (wpAny_pure q)
  intro L C t m G J q ns fp
  show wpAny _ _ (assign (.Name y py) X.env (.ref L)) _ _ _
  refine wpAny_assign_Name (store_ok2 (v := V.ref L) J nd hy (.inl loc) rfl ?_ (.inr loc))
  rintro t2 J2 ⟨a, sb, ha⟩
  obtain ⟨z0, z1, z2, z3, z4, z5⟩ := fp
  have apart : C ≠ a := by
    rcases ha with z | z
    · rw [z]
      exact z1
    · exact fun e => z4 y a z e.symm
  refine ⟨m, ns.sameBut sb apart, fun h3 sb3 => ⟨_, G, ?_, q⟩⟩
  exact J2.turned (t' := t2.toks) (fun b o hb e => (sb3.2 b hb).trans e) z0 z1 z3 z4 z5
/-! max(xs, default=n) of a list of ints -/
def rMaxL (K : PySem.W.Frag) : List V → List V → Hp → VK → Prop := fun vs zs H Q => ∃ (a : Addr) (ns : List Int) (d : Int), vs = [V.ref a] ∧ zs = [V.int d] ∧ SqL K H a (ns.map V.int) ∧ (ns = [] → Q (.int d) H) ∧ ∀ m, m ∈ ns → (∀ j ∈ ns, j ≤ m) → Q (.int m) H
theorem fold_max : ∀ (ns : List Int) (n : Int), (ns.foldl max n = n ∨ ns.foldl max n ∈ ns) ∧ n ≤ ns.foldl max n ∧ ∀ j ∈ ns, j ≤ ns.foldl max n
  | [], n => ⟨.inl rfl, Int.le_refl _, by simp⟩
  | x :: r, n => by
    obtain ⟨h1, h2, h3⟩ := fold_max r (max n x)
    rw [List.foldl_cons]
    refine ⟨?_, by omega, fun j hj => ?_⟩
    · rcases h1 with e | e
      · rw [e]
        rcases Int.le_total n x with z | z
        · right; rw [Int.max_eq_right z]; exact List.mem_cons_self
        · left; exact Int.max_eq_left z
      · exact .inr (List.mem_cons_of_mem _ e)
    · rcases List.mem_cons.mp hj with e | e
      · rw [e]; omega
      · exact h3 j e
theorem cr_maxL (calm : X.calm = true) (few : X.A.units + 65 < cLine) : CallRK X (.builtin "max") [Str.ofString "default"] (rMaxL X.K) := by
  intro pins u σ H vs zs us ws Q I r rz h
  obtain ⟨a, ns, d, rfl, rfl, hs, q0, q1⟩ := h
  obtain ⟨its, rv, hl, _⟩ := I.list hs
  obtain rfl := Vals.ref1 r
  obtain ⟨w1, rfl, e1⟩ := vals1 rz
  obtain ⟨td, rfl⟩ : ∃ t, w1 = Value.int d t := e1
  have all : PySem.ReadsAll u.heap its.toArray.toList (ns.map .int) [] := IntsAre.reads u.heap rv.ints
  have alike : PySem.W.AlikeAll (ns.map PyData.int) := by
    refine ⟨fun x hx y hy => ?_, fun x hx => ?_⟩
    · obtain ⟨i, _, rfl⟩ := List.mem_map.mp hx
      obtain ⟨j, _, rfl⟩ := List.mem_map.mp hy
      rfl
    · obtain ⟨i, _, rfl⟩ := List.mem_map.mp hx
      intro e
      cases e
  have flat : PyData.depthAll (ns.map PyData.int) = 0 := by
    have := depthAll_of (f := PyData.int) (k := 0) (xs := ns) fun x _ => by simp [PyData.depth]
    omega
  refine PySem.W.max_list_default (I.ok.hd calm) hl.isList all alike (by rw [flat]; omega) (fun e h' tk hk => ?_) fun y ys i v h' tk bs e hv hr hk => ?_
  · exact ⟨.int d, H, I.kept (t' := tk) hk, ⟨td, rfl⟩, q0 (List.map_eq_nil_iff.mp e)⟩
  · cases ns with
    | nil => cases e
    | cons n r =>
      injection e with e1 e2
      subst e1 e2
      rw [PySem.W.maxD_ints] at hr
      obtain ⟨g1, g2, g3⟩ := fold_max r n
      cases hr
      refine ⟨.int _, H, I.kept (t' := tk) hk, ⟨_, rfl⟩, q1 _ ?_ fun j hj => ?_⟩
      · rcases g1 with z | z
        · rw [z]; exact List.mem_cons_self
        · exact List.mem_cons_of_mem _ z
      · rcases List.mem_cons.mp hj with z | z
        · rw [z]; exact g2
        · exact g3 j z
end
end Sky

/-! A rule of my own: for i, x in enumerate(t), t a tuple. -/
namespace Sky
open PySem PySem.Spec PyProof.Rows L2 PySem.W
theorem new_enum {v : Value} {o : Obj} {Z : Heap → Prop} (B : Begins v o Z) :
    Meets (Builtin.«enumerate.__new__» ⟨[.type "enumerate", v], []⟩) (fun _ R u => Z u.heap ∧
      R (.ok (.ret (.ref (u.heap.push o).objs.size))) ({ u with heap := (u.heap.push o).push { cls := .type "enumerate", data := .fields #[.none, .bool false, .ref u.heap.objs.size, rawInt 0, .none, .none] } } : Shared)) := by
  refine .of_wp fun prog w A R u both => ?_
  obtain ⟨hp, g, d, tk, os⟩ := u
  obtain ⟨z, fin⟩ := both
  have sub := sub_enumerate
  have goes : ∀ {A2 : Around} {E2 : Value → Shared → Prop} {Q2 : Value → Shared → Prop}, Q2 (.ref hp.objs.size) ⟨hp.push o, g, d, tk, os⟩ → wpAny (model prog w) A2 (pyIter v) Q2 E2 ⟨hp, g, d, tk, os⟩ := by
    intro A2 E2 Q2 q
    exact B.iter prog w A2 E2 ⟨hp, g, d, tk, os⟩ Q2 z q
  wp_walk using goes
  refine wpAny_stack_any fun st => wpAny_pure ?_
  split
  · rename_i c _ _ _ _ _
    cases c == Value.type "enumerate" <;> (wp_walk using goes; exact ⟨_, rfl, fin⟩)
  · wp_walk using goes
    exact ⟨_, rfl, fin⟩
section
variable {prog : Program} {w : World} {A : Around} {E : Value → Shared → Prop} {u : Shared}
theorem call_enum {v : Value} {o : Obj} {Z : Heap → Prop} {Q : Value → Shared → Prop} (B : Begins v o Z) (z : Z u.heap)
    (fin : ∀ g, IsEnum g (u.heap.objs.size + 1) u.heap.objs.size 0 .none → g.get? u.heap.objs.size = some o → g.objs.size = u.heap.objs.size + 2 → (∀ b x, u.heap.get? b = some x → g.get? b = some x) → Q (.ref (u.heap.objs.size + 1)) { u with heap := g }) :
    wpAny (model prog w) A (call (.type "enumerate") [v]) Q E u := by
  refine callType_new F.called_enumerate (by decide) (F.typeCall_enumerate_1 _) (F.newCall_enumerate_1 _) (fun ob => F.args_object_init_2 ob _) F.entry_enumerate_new (new_enum B) ⟨z, ?_⟩
  have size1 : (u.heap.push o).objs.size = u.heap.objs.size + 1 := Heap.size_push ..
  show _ ∧ _
  rw [size1]
  have made : IsEnum ((u.heap.push o).push { cls := .type "enumerate", data := .fields #[.none, .bool false, .ref u.heap.objs.size, rawInt 0, .none, .none] }) (u.heap.objs.size + 1) u.heap.objs.size 0 .none := by
    have e := Heap.get?_push_size (u.heap.push o) (o := { cls := .type "enumerate", data := .fields #[.none, .bool false, .ref u.heap.objs.size, rawInt 0, .none, .none] }) rfl
    rw [size1] at e
    exact e
  refine ⟨⟨_, made, rfl⟩, fin _ made ?_ (by rw [Heap.size_push, size1]) fun b x e => ?_⟩
  · exact Heap.get?_push_of_some _ (Heap.get?_push_size _ B.free)
  · exact Heap.get?_push_of_some _ (Heap.get?_push_of_some _ e)
end
/-- the tuple at a, each item in a new pair -/
def Iet (K : PySem.W.Frag) (a : Addr) : It where
  go i H := ∃ (xs : List V) (x : V), SqT K H a xs ∧ xs[i]? = some x
  yld i H v H' := ∃ T x, v = .ref T ∧ H T = none ∧ H' = upd H T (.tup [.int (i : Nat), x]) ∧ ∀ xs, SqT K H a xs → xs[i]? = some x
  stop i H := ∃ xs : List V, SqT K H a xs ∧ xs.length ≤ i
theorem enum_ne {h : Heap} {e it a : Addr} {k : Int} {old : Value} {items : Array Value} (x : IsEnum h e it k old) (y : h.IsTuple a items) : e ≠ a := by
  intro z
  subst z
  obtain ⟨o, e1, e2, _⟩ := y
  have e3 := e1.symm.trans x
  injection e3 with e3
  rw [e3] at e2
  injection e2 with e4
  exact absurd e4 (by decide)
theorem iter_ne {h : Heap} {it a : Addr} {k : Nat} {items : Array Value} (x : h.IsTupleIter it a k) (y : h.IsTuple a items) : a ≠ it := by
  intro z
  subst z
  obtain ⟨o, e1, e2, _⟩ := y
  obtain ⟨o2, e3, e4, _⟩ := x
  have e5 := e1.symm.trans e3
  injection e5 with e5
  rw [e5, e4] at e2
  injection e2 with e6
  exact absurd e6 (by decide)
theorem turn_iet {P : Program} {w : World} {K : PySem.W.Frag} {elts : List Expr} {kk : Nat} {tpos : Pos} (a e it : Addr) :
    Turn P w K (.Tuple elts kk tpos) (Iet K a) [e, it] e (fun i h => (∃ old, IsEnum h e it ((i : Nat) : Int) old) ∧ h.IsTupleIter it a i ∧ e ≠ it) where
  mem := List.mem_cons_self
  obj := by
    intro i h st b hb
    obtain ⟨⟨old, he⟩, ⟨o, ho, hc, hd⟩, _⟩ := st
    rcases List.mem_cons.mp hb with z | z
    · subst z; exact ⟨_, he, fun v q => nomatch q⟩
    · rw [List.mem_singleton.mp z]; exact ⟨o, ho, fun v q => by rw [hd] at q; cases q⟩
  keep := by
    intro i h h' st k
    obtain ⟨⟨old, he⟩, hi, hne⟩ := st
    exact ⟨⟨old, k e (by simp) _ he⟩, hi.at fun o q => k it (by simp) o q, hne⟩
  item := by
    intro X hP hw hK hc i pins u σ H E I hf st hg
    subst hP hw hK
    obtain ⟨⟨old, he⟩, hit, hne⟩ := st
    obtain ⟨xs, x, hq, hx⟩ := hg
    obtain ⟨its, rv, p, _⟩ := I.tuple hq
    obtain ⟨v, hv, rx⟩ := rv.get hx
    have pt : u.heap.IsTuple a its.toArray := p
    have lowe : e < u.heap.objs.size := Heap.lt_size he
    have lowi : it < u.heap.objs.size := by obtain ⟨_, q, _⟩ := hit; exact Heap.lt_size q
    have nea := enum_ne he pt
    have draws := Draws.tuple (prog := X.prog) (w := X.w) (A := X.A.in1) (I.ok.hd hc) it a (iter_ne hit pt) its.toArray
    have hil : i < its.toArray.size := by
      have := (List.getElem?_eq_some_iff.mp hv).1
      simpa using this
    refine wpAny_pyNext_enum_itemD draws he ⟨hit, pt⟩ hil hne (by simp [hne, nea]) fun v2 g tk hv2 out st2 hT hsz kept => ?_
    have ev : v2 = v := by
      rw [show its.toArray[i]? = some v by simpa using hv] at hv2
      exact (Option.some.inj hv2).symm
    subst ev
    refine ⟨_, rfl, wpAny_letOwnedTupleGo_enum (s := { u with heap := g, toks := tk + 1 }) out fun g2 he2 sb => ?_⟩
    have tup : g2.get? u.heap.objs.size = some { cls := .type "tuple", data := .seq #[.int i tk, v2] } := (sb.2 _ (Nat.ne_of_gt lowe)).trans hT
    have new : ObjOk X.prog X.w (upd H u.heap.objs.size (.tup [.int (i : Nat), x])) g2 u.heap.objs.size (.tup [.int (i : Nat), x]) := by
      refine ⟨?_, [.int i tk, v2], .cons ⟨_, rfl⟩ (.cons rx .nil), ⟨_, tup, rfl, _, rfl⟩⟩
      show 2 ≤ sizeLine
      decide
    have J : Inv X pins σ (upd H u.heap.objs.size (.tup [.int (i : Nat), x])) { u with heap := g2, toks := tk + 1 } := by
      refine I.turnedNew (ch := [e, it]) (fun b ob hb q => ?_) hf (Nat.le_refl _) new
      have b1 : b ≠ e := fun z => hb (by simp [z])
      have b2 : b ≠ it := fun z => hb (by simp [z])
      exact (sb.2 b b1).trans (kept b ob b1 b2 q)
    refine ⟨.ref u.heap.objs.size, _, J, rfl, ⟨_, x, rfl, I.hok.fresh (Nat.le_refl _), rfl, fun ys hy => by rw [I.tuple_inj hy hq]; exact hx⟩, ⟨⟨v2, ?_⟩, st2.1.at fun o q => (sb.2 it (Ne.symm hne)).trans q, hne⟩, fun b hb => ?_⟩
    · rw [show ((i + 1 : Nat) : Int) = (i : Int) + 1 by omega]
      exact he2
    · have low : b < u.heap.objs.size := by
        rcases List.mem_cons.mp hb with z | z
        · rw [z]; exact lowe
        · rw [List.mem_singleton.mp z]; exact lowi
      rw [upd_ne (Nat.ne_of_lt low)]
      exact (hf b hb).1
  done := by
    intro X hP hw hK hc i pins u σ H E I hf st hg
    subst hP hw hK
    obtain ⟨⟨old, he⟩, hit, hne⟩ := st
    obtain ⟨xs, hq, hx⟩ := hg
    obtain ⟨its, rv, p, _⟩ := I.tuple hq
    have pt : u.heap.IsTuple a its.toArray := p
    obtain ⟨f0, f1, f2, f3, f4, f5⟩ := hf it (by simp)
    have hl := rv.length
    have ends : Draws X.prog X.w X.A.in1 it [it, a] i (fun _ _ => True) (fun j h => j = i ∧ h.IsTupleIter it a i ∧ h.IsTuple a its.toArray) := by
      refine ⟨fun _ _ z => ?_, fun _ _ _ z k => ?_, fun j _ _ _ lt z => ?_, fun t Q2 E2 z q => ?_⟩
      · obtain ⟨_, ⟨o, ho, _⟩, _⟩ := z
        exact ⟨o, ho⟩
      · exact ⟨z.1, z.2.1.at fun o e => k it (by simp) o e, z.2.2.at fun o e => k a (by simp) o e⟩
      · have := z.1
        omega
      · exact wpAny_nextOf_tuple_end (I.ok.hd hc) z.2.1 z.2.2 (by simp; omega) q
    exact wpAny_pyNext_enum_endD ends he ⟨rfl, hit, pt⟩ fun g eb => ⟨rfl, I.turned (t' := u.toks) (fun b o hb q => eb b o hb q) f0 f1 f3 f4 f5⟩
  self := by
    intro A i u Q E st h
    obtain ⟨⟨_, he⟩, _⟩ := st
    exact wpAny_pyIter_enum he h
def iEnumT (K : PySem.W.Frag) (ta : TA) : TI := fun σ H R => ta σ H fun vs G => ∃ a xs, vs = [.ref a] ∧ SqT K G a xs ∧ R (Iet K a) G
theorem pi_enumT {X : Cx} {e : Expr} {ta : TA} {p pos tpos : Pos} {elts : List Expr} {kk : Nat} (glob : Gl X "enumerate") (unset : X.mg "enumerate" = none) (arg : PA X [e] ta) (one : starEach [e] X.env = [(false, eval e X.env)] := by rfl) :
    PI X (.Tuple elts kk tpos) (.Call (.Name "enumerate" p) [e] [] pos) (iEnumT X.K ta) := by
  constructor
  intro pins u σ H R I h
  refine Call_ (ld_blt I glob unset boot_enumerate (PyProof.Rows.callWith_type1 (thn (arg.run pos pins u σ H _ I h) fun us u1 ⟨vs, G, I1, r1, q1⟩ => ?_) one rfl))
  obtain ⟨a, xs, ex, hq, q⟩ := q1
  subst ex
  obtain rfl := Vals.ref1 r1
  obtain ⟨its, rv, pt, _⟩ := I1.tuple hq
  refine call_enum (begins_tuple a its.toArray) (show u1.heap.IsTuple a its.toArray from pt) fun g he hit hsz hk => wpAny_pyIter_enum he ?_
  have I2 : Inv X pins σ G { u1 with heap := g } := I1.kept (t' := u1.toks) hk
  refine ⟨u1.heap.objs.size + 1, [u1.heap.objs.size + 1, u1.heap.objs.size], _, _, G, rfl, I2, turn_iet a (u1.heap.objs.size + 1) u1.heap.objs.size, ⟨⟨.none, he⟩, ⟨_, hit, rfl, rfl⟩, Nat.succ_ne_self _⟩, fun b hb => ?_, q⟩
  have low : u1.heap.objs.size ≤ b := by
    rcases List.mem_cons.mp hb with z | z
    · rw [z]; exact Nat.le_add_right _ _
    · rw [List.mem_singleton.mp z]; exact Nat.le_refl _
  exact I1.fpOk low (I1.hok.fresh low)
/-- enumerate(t): each turn a new pair -/
theorem for_enumT {K : PySem.W.Frag} {l : Addr} {ys : List V} {g : TG} {tb : L2.TS} {D : Ends} {τ : L2.St} {G : Hp} (Pv : Nat → L2.St → Hp → Prop) (start : Pv 0 τ G) (stays : ∀ i σ H, i ≤ ys.length → Pv i σ H → SqT K H l ys)
    (turn : ∀ i x σ H T, ys[i]? = some x → Pv i σ H → H T = none → g (.ref T) σ (upd H T (.tup [.int (i : Nat), x])) fun σ2 H2 => tb { D with nx := Pv (i + 1), ct := Pv (i + 1), bk := D.nx } σ2 H2)
    (last : ∀ σ H, Pv ys.length σ H → D.nx σ H) :
    ∃ W : Nat → Nat → L2.St → Hp → Prop, (∃ m, W 0 m τ G) ∧ ∀ i m σ H, W i m σ H →
      ((Iet K l).stop i H ∧ D.nx σ H) ∨ ((Iet K l).go i H ∧ ∃ N : L2.St → Hp → Prop, (∀ σ' H', N σ' H' → ∃ m', m' < m ∧ W (i + 1) m' σ' H') ∧
        ∀ x H', (Iet K l).yld i H x H' → g x σ H' fun σ2 H2 => tb { D with nx := N, ct := N, bk := D.nx } σ2 H2) := by
  refine ⟨fun i m σ H => i ≤ ys.length ∧ m = ys.length - i ∧ Pv i σ H, ⟨ys.length, Nat.zero_le _, (Nat.sub_zero _).symm, start⟩, ?_⟩
  rintro i m σ H ⟨le, rfl, hv⟩
  have there := stays i σ H le hv
  by_cases lt : i < ys.length
  · refine .inr ⟨⟨ys, ys[i], there, List.getElem?_eq_getElem lt⟩, Pv (i + 1), fun σ' H' w => ⟨ys.length - (i + 1), by omega, lt, rfl, w⟩, ?_⟩
    rintro x H' ⟨T, y, rfl, hT, rfl, hy⟩
    exact turn i y σ H T (hy ys there) hv hT
  · have e : i = ys.length := by omega
    subst e
    exact .inl ⟨⟨ys, there, Nat.le_refl _⟩, last σ H hv⟩
/-- the outer walk of a two-for dict comprehension over a tuple that stays -/
theorem dc2_tup {K : PySem.W.Frag} {a : Addr} {xs : List V} {ga : TG} {wj : TI} {gb : TG} {tk tv : TE} {va vb : List Nat} {σ : L2.St} {G1 : Hp} {D : Addr} {fin : Hp → Prop} (Pv : Nat → Hp → Prop) (start : Pv 0 (upd G1 D (.dK []))) (stays : ∀ i H, i ≤ xs.length → Pv i H → SqT K H a xs)
    (turn : ∀ i x H, xs[i]? = some x → Pv i H → ga x (wipe σ va) H fun τ G2 => wipe τ va = wipe σ va ∧ wj τ G2 fun L G3 => ∃ V1 : Nat → Nat → Hp → Prop, (∃ k, V1 0 k G3) ∧ ∀ j k F, V1 j k F →
      (L.stop j F ∧ Pv (i + 1) F) ∨ (L.go j F ∧ ∃ Ny : Hp → Prop, (∀ F', Ny F' → ∃ k', k' < k ∧ V1 (j + 1) k' F') ∧ ∀ y F', L.yld j F y F' →
        gb y (wipe τ vb) F' fun ρ F2 => wipe ρ vb = wipe τ vb ∧ tk ρ F2 fun a F3 => tv ρ F3 fun b F4 => ∃ kvs key, a = kV key ∧ F4 D = some (.dK kvs) ∧ kvs.length < sizeLine ∧ Ny (upd F4 D (.dK (putK kvs key b)))))
    (last : ∀ H, Pv xs.length H → fin H) :
    ∃ W : Nat → Nat → Hp → Prop, (∃ m, W 0 m (upd G1 D (.dK []))) ∧ ∀ i m G, W i m G →
      ((Itt K a).stop i G ∧ fin G) ∨
      ((Itt K a).go i G ∧ ∃ Nx : Hp → Prop, (∀ G', Nx G' → ∃ m', m' < m ∧ W (i + 1) m' G') ∧ ∀ x G', (Itt K a).yld i G x G' →
        ga x (wipe σ va) G' fun τ G2 => wipe τ va = wipe σ va ∧
          wj τ G2 fun L G3 => ∃ V1 : Nat → Nat → Hp → Prop, (∃ k, V1 0 k G3) ∧ ∀ j k F, V1 j k F →
            (L.stop j F ∧ Nx F) ∨
            (L.go j F ∧ ∃ Ny : Hp → Prop, (∀ F', Ny F' → ∃ k', k' < k ∧ V1 (j + 1) k' F') ∧ ∀ y F', L.yld j F y F' →
              gb y (wipe τ vb) F' fun ρ F2 => wipe ρ vb = wipe τ vb ∧
                tk ρ F2 fun a F3 => tv ρ F3 fun b F4 => ∃ kvs key, a = kV key ∧ F4 D = some (.dK kvs) ∧ kvs.length < sizeLine ∧ Ny (upd F4 D (.dK (putK kvs key b))))) := by
  refine ⟨fun i m H => i ≤ xs.length ∧ m = xs.length - i ∧ Pv i H, ⟨xs.length, Nat.zero_le _, (Nat.sub_zero _).symm, start⟩, ?_⟩
  rintro i m H ⟨le, rfl, hv⟩
  have there := stays i H le hv
  by_cases lt : i < xs.length
  · refine .inr ⟨⟨xs, xs[i], there, List.getElem?_eq_getElem lt⟩, Pv (i + 1), fun H' w => ⟨xs.length - (i + 1), by omega, lt, rfl, w⟩, ?_⟩
    rintro x H' ⟨e, hy⟩
    subst e
    exact turn i x _ (hy xs there) hv
  · have e : i = xs.length := by omega
    subst e
    exact .inl ⟨⟨xs, there, Nat.le_refl _⟩, last H hv⟩
/-- its inner walk over a range -/
theorem dc2_range {lo : Int} {n : Nat} {gb : TG} {tk tv : TE} {vb : List Nat} {τ : L2.St} {F0 : Hp} {D : Addr} {fin : Hp → Prop} (Pv : Nat → Hp → Prop) (start : Pv 0 F0)
    (turn : ∀ j F, j < n → Pv j F → gb (.int (lo + j)) (wipe τ vb) F fun ρ F2 => wipe ρ vb = wipe τ vb ∧ tk ρ F2 fun a F3 => tv ρ F3 fun b F4 => ∃ kvs key, a = kV key ∧ F4 D = some (.dK kvs) ∧ kvs.length < sizeLine ∧ Pv (j + 1) (upd F4 D (.dK (putK kvs key b))))
    (last : ∀ F, Pv n F → fin F) :
    ∃ V1 : Nat → Nat → Hp → Prop, (∃ k, V1 0 k F0) ∧ ∀ j k F, V1 j k F →
      ((Itr lo n).stop j F ∧ fin F) ∨ ((Itr lo n).go j F ∧ ∃ Ny : Hp → Prop, (∀ F', Ny F' → ∃ k', k' < k ∧ V1 (j + 1) k' F') ∧ ∀ y F', (Itr lo n).yld j F y F' →
        gb y (wipe τ vb) F' fun ρ F2 => wipe ρ vb = wipe τ vb ∧ tk ρ F2 fun a F3 => tv ρ F3 fun b F4 => ∃ kvs key, a = kV key ∧ F4 D = some (.dK kvs) ∧ kvs.length < sizeLine ∧ Ny (upd F4 D (.dK (putK kvs key b)))) := by
  refine ⟨fun j left F => left + j = n ∧ Pv j F, ⟨n, rfl, start⟩, ?_⟩
  rintro j left F ⟨sum, hv⟩
  cases left with
  | zero =>
    have all : j = n := by omega
    exact .inl ⟨by rw [all]; exact Nat.le_refl n, last F (by rw [← all]; exact hv)⟩
  | succ left =>
    have less : j < n := by omega
    refine .inr ⟨less, Pv (j + 1), fun F' h => ⟨left, by omega, by omega, h⟩, ?_⟩
    rintro _ _ ⟨rfl, rfl⟩
    exact turn j _ less hv
end Sky

/-! Rules of my own: sum of a tuple of ints; within a comprehension. -/
namespace Sky
open PySem PySem.Spec PyProof.Rows L2
def rSumT (K : PySem.W.Frag) : List V → Hp → VK → Prop := fun vs H Q => ∃ (a : Addr) (ns : List Int), vs = [V.ref a] ∧ SqT K H a (ns.map V.int) ∧ Q (.int ns.sum) H
section
variable {X : Cx}
theorem cr_sumT (calm : X.calm = true) : CallR X (.builtin "sum") (rSumT X.K) := by
  intro pins u σ H vs us Q I r h
  obtain ⟨a, ns, rfl, hs, q⟩ := h
  obtain ⟨its, rv, pt, _⟩ := I.tuple hs
  rw [Vals.ref1 r]
  have hints := rv.ints
  obtain ⟨xs, ex⟩ := hints.allInts.items
  have en : numsOf (intItems xs).toList = ns := by rw [← ex]; exact hints.numsOf
  rw [nums_intItems] at en
  have pt2 : u.heap.IsTuple a its.toArray := pt
  rw [ex] at pt2
  refine PySem.W.ktm_sumG (I.ok.hd calm) pt2 fun h' tk t' hk => ?_
  rw [preSum_eq, List.take_of_length_le (by simp), en]
  exact ⟨.int _, H, I.kept (t' := tk) hk, ⟨_, rfl⟩, q⟩
theorem cr_sumTK {K : PySem.W.Frag} (h : X.K = K) (calm : X.calm = true) : CallR X (.builtin "sum") (rSumT K) := h ▸ cr_sumT calm
theorem sl_tupAK {K : PySem.W.Frag} (h : X.K = K) : SlR X (rSlA K) := h ▸ sl_tupA
end
end Sky

/-! Rules of my own: max of a tuple of ints; sum of a list, walks of tuples within comprehensions. -/
namespace Sky
open PySem PySem.Spec PyProof.Rows L2
def rMaxT (K : PySem.W.Frag) : List V → Hp → VK → Prop := fun vs H Q => ∃ (a : Addr) (ns : List Int), vs = [V.ref a] ∧ SqT K H a (ns.map V.int) ∧ ns ≠ [] ∧ ∀ m, m ∈ ns → (∀ j ∈ ns, j ≤ m) → Q (.int m) H
section
variable {X : Cx}
theorem cr_maxT (calm : X.calm = true) (few : X.A.units + 65 < cLine) : CallR X (.builtin "max") (rMaxT X.K) := by
  intro pins u σ H vs us Q I r h
  obtain ⟨a, ns, rfl, hs, hne, q1⟩ := h
  obtain ⟨its, rv, pt, _⟩ := I.tuple hs
  rw [Vals.ref1 r]
  have all : PySem.ReadsAll u.heap its.toArray.toList (ns.map .int) [] := IntsAre.reads u.heap rv.ints
  have flat : PyData.depthAll (ns.map PyData.int) = 0 := by
    have := depthAll_of (f := PyData.int) (k := 0) (xs := ns) fun x _ => by simp [PyData.depth]
    omega
  have alike : PySem.W.AlikeAll (ns.map PyData.int) := by
    refine ⟨fun x hx y hy => ?_, fun x hx => ?_⟩
    · obtain ⟨i, _, rfl⟩ := List.mem_map.mp hx
      obtain ⟨j, _, rfl⟩ := List.mem_map.mp hy
      rfl
    · obtain ⟨i, _, rfl⟩ := List.mem_map.mp hx
      intro e
      cases e
  cases ns with
  | nil => exact absurd rfl hne
  | cons n r =>
    refine PySem.W.max_tuple_data (I.ok.hd calm) (show u.heap.IsTuple a its.toArray from pt) all alike (by rw [show PyData.int n :: r.map PyData.int = (n :: r).map PyData.int from rfl, flat]; omega) fun i v h' tk bs hv hr hk => ?_
    rw [PySem.W.maxD_ints] at hr
    obtain ⟨g1, g2, g3⟩ := fold_max r n
    cases hr
    refine ⟨.int _, H, I.kept (t' := tk) hk, ⟨_, rfl⟩, q1 _ ?_ fun j hj => ?_⟩
    · rcases g1 with z | z
      · rw [z]; exact List.mem_cons_self
      · exact List.mem_cons_of_mem _ z
    · rcases List.mem_cons.mp hj with z | z
      · rw [z]; exact g2
      · exact g3 j z
theorem cr_sumK {K : PySem.W.Frag} (h : X.K = K) (calm : X.calm = true) : CallR X (.builtin "sum") (rSum K) := h ▸ cr_sum calm
theorem pi_tupK {K : PySem.W.Frag} {tg l : Expr} {tl : TE} (h : X.K = K) (hl : PE X l tl) : PI X tg l (iTup K tl) := h ▸ pi_tup hl
end
end Sky

/-! Rules of my own: dicts whose keys are tuples: del, setdefault, pop with a default; walks over their keys. -/
namespace Sky
open PySem PySem.Spec PyProof.Rows L2
/-- del d[y], y a tuple -/
def sDDelT (td ty : TE) : L2.TS := fun D σ H => td σ H fun x H1 => ty σ H1 fun y H2 => ∃ (a b : Addr) (kvs : List (List Key × V)) (k : List Key), x = .ref a ∧ y = .ref b ∧ H2 a = some (.dT kvs) ∧ H2 b = some (.tup (k.map kV)) ∧ (valV kvs k).isSome = true ∧ D.nx σ (upd H2 a (.dT (dropK kvs k)))
/-- d.setdefault(y, z), y a tuple -/
def tDSetdT (td ty tx : TE) : TE := fun σ H Q => td σ H fun x H1 => ∃ a, x = .ref a ∧ IsD H1 a ∧ ty σ H1 fun y H2 => tx σ H2 fun z H3 => ∃ (kvs : List (List Key × V)) (k : List Key) (b : Addr), H3 a = some (.dT kvs) ∧ y = .ref b ∧ H3 b = some (.tup (k.map kV)) ∧ kvs.length < sizeLine ∧
  (∀ v, valV kvs k = some v → Q v H3) ∧ (valV kvs k = none → Q z (upd H3 a (.dT (putK kvs k z))))
section
variable {X : Cx} {o i e f : Expr} {pos tpos apos cpos : Pos} {td ty tx : TE}
theorem ps_ddelT (hu : X.A.units + 1 < cLine) (ho : PE X o td) (hi : PE X i ty) : PS X (.Delete [.Subscript o i tpos] pos) (sDDelT td ty) := by
  refine ⟨fun pins s σ H D I h => ?_⟩
  refine wpAny_Delete (wpAny_deleteEach_cons (wpAny_delete_Subscript (thn (ho.run pins s σ H _ I h) fun u s1 ⟨x, H1, I1, rx, q1⟩ => thn (hi.run pins s1 σ H1 _ I1 q1) fun iv s2 ⟨y, H2, I2, ry, a, b, kvs, k, ex, ey, e, eb, l, q2⟩ => ?_)))
  subst ex ey
  obtain rfl : u = Value.ref a := rx
  obtain rfl : iv = Value.ref b := ry
  obtain ⟨z, hd, xs, rel, dd⟩ := dt_of I2.hok e
  have hz : xs.length ≤ sizeLine := by rw [← Paired.length rel]; exact z
  have q := (rel.val k).isSome_eq
  rw [l, Option.isSome_map] at q
  obtain ⟨p, hp⟩ := Option.isSome_iff_exists.mp q.symm
  refine wpAny_delItem_heap (tupleKind_room_in1 hu) (key_of I2.hok eb) hd dd hp (fun h' dd' hs => ?_) hz
  refine wpAny_deleteEach_nil ⟨σ, _, ?_, q2⟩
  obtain ⟨oo, es, ep, hq, h2, h3, h4, _, h5⟩ := dd'
  exact d_write I2 (by rw [e]; exact True.intro) hs ⟨oo, hq⟩ ⟨Nat.le_trans (dropK_le kvs k) z, hd, _, (L2.DX.KT_drop k rel).keeps (fun c ys ec => (by rw [upd_ne (ne_of ec e (fun z => nomatch z))]; exact ec)), oo, es, ep, hq, h2, h3, h4, h5⟩
theorem pe_dsetdT (hu : X.A.units + 1 < cLine) (ho : PE X o td) (he : PE X e ty) (hf : PE X f tx) (m : M2 X o "setdefault" apos e f cpos) : PE X (.Call (.Attribute o "setdefault" apos) [e, f] [] cpos) (tDSetdT td ty tx) := by
  refine ⟨fun pins s σ H Q I h => ?_⟩
  refine wpAny_Call_method m.base m.few m.line PySem.F.plainAttrs_dict PySem.F.slot_dict_setdefault PySem.F.type_dict_setdefault (thn (ho.run pins s σ H _ I h) fun u s1 ⟨x, H1, I1, rx, a, ex, d, q1⟩ => ?_)
  subst ex
  obtain rfl : u = Value.ref a := rx
  obtain ⟨t1, t2, _⟩ := isD_at I1 d
  refine ⟨t1, t2, ?_⟩
  rw [m.trees]
  refine Calls.callWith_builtin rfl (Calls.evalArgs_plain (Calls.spliced_cons (thn (he.run pins s1 σ H1 _ I1 q1) fun iv s2 ⟨y, H2, I2, ry, q2⟩ =>
    Calls.spliced_cons (thn (hf.run pins s2 σ H2 _ I2 q2) fun fv s3 ⟨z, H3, I3, rz, kvs, k, b, ea, ey, eb, hl, q3, q4⟩ => Calls.spliced_nil ?_))))
  subst ey
  obtain rfl : iv = Value.ref b := ry
  obtain ⟨zz, hd, xs, rel, dd⟩ := dt_of I3.hok ea
  have hz : xs.length ≤ sizeLine := by rw [← Paired.length rel]; exact zz
  refine call_setdefault_heap (tupleKind_room_in1 hu) (key_of I3.hok eb) hd dd (fun p hp => ?_) (fun hn h' dd' hs => ?_) hz
  · have q := rel.val k
    rw [hp] at q
    cases q0 : valV kvs k with
    | none =>
      rw [q0] at q
      exact (show False from q).elim
    | some v0 =>
      rw [q0] at q
      exact ⟨v0, _, I3.tok _, q, q3 v0 q0⟩
  · have q := rel.val k
    rw [hn] at q
    cases q0 : valV kvs k with
    | some v0 =>
      rw [q0] at q
      exact (show False from q).elim
    | none =>
      have hl2 : (putK kvs k z).length ≤ sizeLine := by
        have := length_putK kvs k z
        omega
      obtain ⟨oo, es, ep, hq, h2, h3, h4, _, h5⟩ := dd'
      have hk := (KT.put rel k eb rz)
      refine ⟨z, _, d_write (ob := .dT (putK kvs k z)) I3 (by rw [ea]; exact True.intro) hs ⟨oo, hq⟩ ⟨hl2, hd, _, hk.keeps (fun c ys ec => (by rw [upd_ne (ne_of ec ea (fun z => nomatch z))]; exact ec)), oo, es, ep, hq, h2, h3, h4, h5⟩, rz, q4 q0⟩
/-- a comprehension over the keys of a dict -/
theorem lc_keysT {d : Addr} {od : Obj} {kvs : List (List Key × V)} {g : TG} {tt : TT} {te : TE} {vs : List Nat} {σ : L2.St} {H1 : Hp} {D : Addr} {Qd : Hp → Prop} (Pv : Nat → Hp → Prop) (h0 : Pv 0 (upd H1 D (.lst []))) (hG : ∀ i H, i ≤ kvs.length → Pv i H → H d = some (.frz od (.dT kvs)))
    (hs : ∀ i k v q H, kvs[i]? = some (k, v) → H q = some (.tup (k.map kV)) → Pv i H → g (.ref q) (wipe σ vs) H fun σ2 H2 => wipe σ2 vs = wipe σ vs ∧ tt σ2 H2 fun b H3 =>
      if b = true then te σ2 H3 fun y H4 => ∃ acc, H4 D = some (.lst acc) ∧ acc.length < sizeLine ∧ Pv (i + 1) (upd H4 D (.lst (acc ++ [y]))) else Pv (i + 1) H3) (hd : ∀ H, Pv kvs.length H → Qd H) :
    ∃ W : Nat → Nat → Hp → Prop, (∃ m, W 0 m (upd H1 D (.lst []))) ∧ ∀ i m H, W i m H →
      ((Itkt d od kvs).stop i H ∧ Qd H) ∨ ((Itkt d od kvs).go i H ∧ ∃ Nx : Hp → Prop, (∀ H', Nx H' → ∃ m', m' < m ∧ W (i + 1) m' H') ∧ ∀ x H', (Itkt d od kvs).yld i H x H' → g x (wipe σ vs) H' fun σ2 H2 => wipe σ2 vs = wipe σ vs ∧ tt σ2 H2 fun b H3 =>
        if b = true then te σ2 H3 fun y H4 => ∃ acc, H4 D = some (.lst acc) ∧ acc.length < sizeLine ∧ Nx (upd H4 D (.lst (acc ++ [y]))) else Nx H3) :=
  lc_it (walk_keysT (d := d) (o := od) (kvs := kvs)) Pv h0 hG (fun i x H H' hi p y => by
    obtain ⟨rfl, k, v, q, h1, rfl, h2⟩ := y
    exact hs i k v q _ h1 h2 p) hd
/-- a loop over the keys of a dict -/
theorem for_keysT {d : Addr} {od : Obj} {kvs : List (List Key × V)} {g : TG} {tb : L2.TS} {D : Ends} {σ : L2.St} {H : Hp} (Pv : Nat → L2.St → Hp → Prop) (h0 : Pv 0 σ H) (hG : ∀ i σ H, i ≤ kvs.length → Pv i σ H → H d = some (.frz od (.dT kvs)))
    (hs : ∀ i k v q σ H, kvs[i]? = some (k, v) → H q = some (.tup (k.map kV)) → Pv i σ H → g (.ref q) σ H fun σ2 H2 => tb { D with nx := Pv (i + 1), ct := Pv (i + 1), bk := D.nx } σ2 H2) (hd : ∀ σ H, Pv kvs.length σ H → D.nx σ H) :
    ∃ W : Nat → Nat → L2.St → Hp → Prop, (∃ m, W 0 m σ H) ∧ ∀ i m σ H, W i m σ H →
      ((Itkt d od kvs).stop i H ∧ D.nx σ H) ∨ ((Itkt d od kvs).go i H ∧ ∃ N : L2.St → Hp → Prop, (∀ σ' H', N σ' H' → ∃ m', m' < m ∧ W (i + 1) m' σ' H') ∧ ∀ x H', (Itkt d od kvs).yld i H x H' → g x σ H' fun σ2 H2 => tb { D with nx := N, ct := N, bk := D.nx } σ2 H2) :=
  for_it (walk_keysT (d := d) (o := od) (kvs := kvs)) Pv h0 hG (fun i x σ H H' hi p y => by
    obtain ⟨rfl, k, v, q, h1, rfl, h2⟩ := y
    exact hs i k v q σ _ h1 h2 p) hd
end
/-- d.pop(y, z), y a tuple: whatever is told, the key is out -/
def rPopW : V → List V → Hp → VK → Prop := fun x xs H Q => ∃ (a : Addr) (kvs : List (List Key × V)) (k : List Key) (b : Addr) (d : V), x = .ref a ∧ xs = [.ref b, d] ∧ H a = some (.dT kvs) ∧ H b = some (.tup (k.map kV)) ∧
  ∀ v H', H' a = some (.dT (dropK kvs k)) → Keep [a] H H' → Dom H H' → Q v H'
theorem dropK_none {κ : Type} [DecidableEq κ] {kvs : List (κ × V)} {k : κ} (h : valV kvs k = none) : dropK kvs k = kvs := by
  unfold dropK
  refine List.filter_eq_self.mpr fun p hp => decide_eq_true fun e => ?_
  exact valV_not h (List.mem_map.mpr ⟨p, hp, e⟩)
theorem mt_popW {X : Cx} (hu : X.A.units + 1 < cLine) : MtR X "dict.pop" rPopW := by
  intro pins s σ H x xs v us Q I rx rxs h
  obtain ⟨a, kvs, k, b, d, rfl, rfl, ha, hb, q⟩ := h
  refine L2.DX.mt_popT hu pins s σ H _ _ v us Q I rx rxs ⟨a, kvs, k, b, d, rfl, rfl, ha, hb, fun v hv => ?_, fun hv => ?_⟩
  · exact q _ _ upd_same (keep_upd (Keep.refl _ _) (by simp)) (dom_upd _ _ _)
  · exact q _ _ (by rw [dropK_none hv]; exact ha) (Keep.refl _ _) (Dom.refl _)
/-- the lock is off again -/
theorem unlock {H H' : Hp} {d : Addr} {u : HO} (k : Keep [d] H H') (h : H d = some u) : Same H (upd H' d u) := fun b o e => by
  by_cases z : b = d
  · subst z
    rw [upd_same, ← h]
    exact e
  · rw [upd_ne z]
    exact k b o (by simpa using z) e
end Sky

/-! Cuts in walks: what holds behind a statement. -/
namespace Sky
open PySem PySem.Spec PyProof.Rows L2
section
variable {X b : L2.TS} {t : TT} {tb : L2.TS} {D : Ends} {σ : L2.St} {H : Hp} {i : Nat} {x : V} {r : VK} {k c : L2.St → Hp → Prop}
theorem seq_cut (R : L2.St → Hp → Prop) (rest : ∀ σ' H', R σ' H' → b D σ' H') (h : ∀ D' : Ends, (∀ σ' H', R σ' H' → D'.nx σ' H') → X D' σ H) : tSeq X b D σ H := h _ rest
theorem nx_cut (R : L2.St → Hp → Prop) (rest : ∀ σ' H', R σ' H' → b D σ' H') (h : ∀ D' : Ends, (∀ σ' H', R σ' H' → D'.nx σ' H') → X D' σ H) : Ends.nx ⟨tSeq X b D, r, k, c⟩ σ H := h _ rest
theorem gn_cut (R : L2.St → Hp → Prop) (rest : ∀ σ' H', R σ' H' → b D σ' H') (h : ∀ D' : Ends, (∀ σ' H', R σ' H' → D'.nx σ' H') → X D' (σ.set i (some x)) H) : gName i x σ H (Ends.nx ⟨tSeq X b D, r, k, c⟩) := h _ rest
theorem gb_cut (R : L2.St → Hp → Prop) (rest : ∀ σ' H', R σ' H' → b D σ' H') (h : ∀ D' : Ends, (∀ σ' H', R σ' H' → D'.nx σ' H') → X D' (σ.set i (some x)) H) : gName i x σ H (fun σ2 H2 => tSeq X b D σ2 H2) := h _ rest
theorem seq_ifs (Cd : Hp → Prop) (rest : ∀ H1, Cd H1 → b D σ H1) (h : ∀ Q : Bool → Hp → Prop, (∀ H1, Cd H1 → Q false H1) → t σ H Q) : tSeq (tIfS t tb tNext) b D σ H := h _ fun H1 c => iteF (rest H1 c)
theorem gn_ifs (Cd : Hp → Prop) (rest : ∀ H1, Cd H1 → b D (σ.set i (some x)) H1) (h : ∀ Q : Bool → Hp → Prop, (∀ H1, Cd H1 → Q false H1) → t (σ.set i (some x)) H Q) : gName i x σ H (Ends.nx ⟨tSeq (tIfS t tb tNext) b D, r, k, c⟩) := h _ fun H1 c => iteF (rest H1 c)
theorem nx_ifs (Cd : Hp → Prop) (rest : ∀ H1, Cd H1 → b D σ H1) (h : ∀ Q : Bool → Hp → Prop, (∀ H1, Cd H1 → Q false H1) → t σ H Q) : Ends.nx ⟨tSeq (tIfS t tb tNext) b D, r, k, c⟩ σ H := h _ fun H1 c => iteF (rest H1 c)
/-- no more arguments: a promise is asked -/
theorem nilA {G : Hp} {kk : List V → Hp → Prop} (h : kk [] G) : tNil σ G kk := h
end
end Sky

/-! Rules of my own: match a tuple against (word, name, ..). -/
namespace Sky
open PySem PySem.Spec PyProof.Rows L2
/-- a pattern's reading: what it binds, none where it doesn't fit -/
abbrev TPt := V → L2.St → Hp → (Option (List V) → Hp → Prop) → Prop
def BindsAs (ns : List Str) : Option (List (Str × Value)) → Option (List V) → Prop
  | none, none => True
  | some bs, some vs => bs.map (·.1) = ns ∧ Vals vs (bs.map (·.2))
  | _, _ => False
structure PMt (X : Cx) (p : Pattern) (ns : List Str) (t : TPt) : Prop where
  run : ∀ (pins : List (Addr × Obj)) (s : Shared) (σ : L2.St) (H : Hp) (v : V) (u : Value) (Q : Option (List V) → Hp → Prop), Inv X pins σ H s → RelV v u → t v σ H Q →
    wpAny (model X.prog X.w) X.A (matchPattern p X.env u) (fun r s' => ∃ o H', Inv X pins σ H' s' ∧ BindsAs ns r o ∧ Q o H') X.xe s
structure PMs (X : Cx) (ps : List Pattern) (ns : List Str) (t : List V → L2.St → Hp → (Option (List V) → Hp → Prop) → Prop) : Prop where
  run : ∀ (pins : List (Addr × Obj)) (s : Shared) (σ : L2.St) (H : Hp) (vs : List V) (us : List Value) (Q : Option (List V) → Hp → Prop), Inv X pins σ H s → Vals vs us → t vs σ H Q →
    wpAny (model X.prog X.w) X.A (matchEach ps X.env us) (fun r s' => ∃ o H', Inv X pins σ H' s' ∧ BindsAs ns r o ∧ Q o H') X.xe s
/-- a word -/
def ptWord (K : PySem.W.Frag) (w : Str) : TPt := fun v _ H Q => ∃ d, Dp K H v d ∧ SeqAt.shaped d = true ∧ Q (if PyData.eqv d (.str w) = true then some [] else none) H
def ptName : TPt := fun v _ H Q => Q (some [v]) H
def ptNil : List V → L2.St → Hp → (Option (List V) → Hp → Prop) → Prop := fun _ _ H Q => Q (some []) H
def ptCons (t : TPt) (u : List V → L2.St → Hp → (Option (List V) → Hp → Prop) → Prop) : List V → L2.St → Hp → (Option (List V) → Hp → Prop) → Prop :=
  fun vs σ H Q => ∃ x r, vs = x :: r ∧ t x σ H fun o H1 => match o with
    | none => Q none H1
    | some a => u r σ H1 fun o2 H2 => match o2 with
      | none => Q none H2
      | some b => Q (some (a ++ b)) H2
def ptSeq (K : PySem.W.Frag) (n : Nat) (u : List V → L2.St → Hp → (Option (List V) → Hp → Prop) → Prop) : TPt := fun v σ H Q => ∃ a xs, v = .ref a ∧ SqT K H a xs ∧ ((xs.length = n → u xs σ H Q) ∧ (xs.length ≠ n → Q none H))
section
variable {X : Cx}
theorem pm_word (few : X.A.units + 64 < cLine) {w : Str} {j : Nat} {p1 p2 : Pos} (ok : PyData.strOk w = true := by decide) : PMt X (.MatchValue (.Constant (.str w) j p1) p2) [] (ptWord X.K w) := by
  constructor
  rintro pins s σ H v u Q I r ⟨d, hd, sd, q⟩
  refine wpAny_matchPattern_Value (thn (pe_str.run pins s σ H (fun y H1 => y = V.str w ∧ H1 = H) I ⟨rfl, rfl⟩) fun x s1 ⟨y, H1, I1, ry, e1, e2⟩ => ?_)
  subst e1 e2
  have sw : SeqAt.shaped (.str w) = true := by
    unfold SeqAt.shaped
    simp [PyData.canLay0, PyData.depth, ok]
  refine thn (op_eqD few pins s1 σ H1 v (.str w) u x (fun z H2 => z = V.bl (PyData.eqv d (.str w)) ∧ H2 = H1) I1 r ry ⟨d, .str w, hd, .str w, sd, sw, rfl, rfl⟩) fun c s2 ⟨z, H2, I2, rz, e3, e4⟩ => ?_
  subst e3 e4
  cases rz
  refine wpAny_truthy_bool ?_
  by_cases e : PyData.eqv d (.str w) = true
  · rw [if_pos e] at q
    rw [e]
    exact ⟨some [], H2, I2, ⟨rfl, .nil⟩, q⟩
  · rw [if_neg e] at q
    rw [if_neg e]
    exact ⟨none, H2, I2, True.intro, q⟩
theorem pm_name {n : Str} {p : Pos} : PMt X (.MatchAs none (some n) p) [n] ptName := by
  constructor
  intro pins s σ H v u Q I r q
  exact wpAny_matchPattern_Capture ⟨some [v], H, I, ⟨rfl, .cons r .nil⟩, q⟩
theorem pms_nil : PMs X [] [] ptNil := by
  constructor
  intro pins s σ H vs us Q I r q
  exact wpAny_matchEach_nil ⟨some [], H, I, ⟨rfl, .nil⟩, q⟩
theorem vals_app {vs ws : List V} {us xs : List Value} (h : Vals vs us) (k : Vals ws xs) : Vals (vs ++ ws) (us ++ xs) := by
  induction h with
  | nil => exact k
  | cons a _ ih => exact .cons a ih
theorem pms_cons {p : Pattern} {ps : List Pattern} {n m : List Str} {t : TPt} {u : List V → L2.St → Hp → (Option (List V) → Hp → Prop) → Prop} (a : PMt X p n t) (b : PMs X ps m u) (hp : p.isStar = false := by rfl) : PMs X (p :: ps) (n ++ m) (ptCons t u) := by
  constructor
  rintro pins s σ H vs us Q I r ⟨x, rs, rfl, q⟩
  cases r with
  | cons rx rr =>
    refine wpAny_matchEach_cons (thn (a.run pins s σ H x _ _ I rx q) fun o s1 h1 => ?_) hp
    obtain ⟨o1, H1, I1, e1, q1⟩ := h1
    cases o with
    | none =>
      cases o1 with
      | none => exact ⟨none, H1, I1, True.intro, q1⟩
      | some v => exact e1.elim
    | some bs =>
      cases o1 with
      | none => exact e1.elim
      | some v =>
        refine thn (b.run pins s1 σ H1 rs _ _ I1 rr q1) fun o2 s2 h2 => ?_
        obtain ⟨o3, H2, I2, e2, q2⟩ := h2
        cases o2 with
        | none =>
          cases o3 with
          | none => exact ⟨none, H2, I2, True.intro, q2⟩
          | some v => exact e2.elim
        | some cs =>
          cases o3 with
          | none => exact e2.elim
          | some w =>
            refine ⟨some (v ++ w), H2, I2, ⟨?_, ?_⟩, q2⟩
            · rw [List.map_append, e1.1, e2.1]
            · rw [List.map_append]; exact vals_app e1.2 e2.2
theorem pm_seq (calm : X.calm = true) {ps : List Pattern} {pos : Pos} {ns : List Str} {k : Nat} {u : List V → L2.St → Hp → (Option (List V) → Hp → Prop) → Prop} (h : PMs X ps ns u) (hk : ps.length = k := by rfl)
    (hstar : ps.findIdx? (·.isStar) = none := by rfl) (hwild : (ps.all fun p => p.isWildcard || (p.isStar && p.names.isEmpty)) = false := by rfl) : PMt X (.MatchSequence ps pos) ns (ptSeq X.K k u) := by
  constructor
  rintro pins s σ H v w Q I r ⟨a, xs, rfl, hq, q1, q2⟩
  cases r
  obtain ⟨its, rv, ht, hz⟩ := I.tuple hq
  have hl : its.toArray.size = xs.length := by simp [rv.length]
  have hfit : (its.toArray.size : Int) < 2 ^ 63 := by
    rw [hl]
    have : xs.length ≤ 16777216 := by rw [← sizeLine_eq]; exact hz
    omega
  have I2 : Inv X pins σ H { s with toks := s.toks + 1 + 1 } := I.kept (t' := s.toks + 1 + 1) fun _ _ e => e
  by_cases e : xs.length = k
  · refine matchSeq_tuple_hit ht hfit (by rw [hl, e, hk]) ?_ hstar hwild
    have ht2 : IsTup ({ s with toks := s.toks + 1 + 1 } : Shared).heap a its.toArray := ht
    have e2 : its.toArray.size = ps.length := by rw [hl, e, hk]
    rw [← e2]
    refine unpackItems_tuple (I.ok.hd calm) ht2 fun h' hx => ?_
    have I3 : Inv X pins σ H { s with heap := h', toks := s.toks + 1 + 1 } := I.kept (t' := s.toks + 1 + 1) fun b o e => hx b o (Nat.ne_of_lt (Heap.lt_size e)) e
    exact h.run pins _ σ H xs _ Q I3 (by simpa using rv) (q1 e)
  · refine matchSeq_tuple_miss ht hfit (by rw [hl, hk]; exact e) ?_ hstar hwild
    exact ⟨none, H, I2, True.intro, q2 e⟩
end
/-! ### cases -/
def setN : List Nat → List V → L2.St → L2.St
  | i :: is, v :: vs, σ => setN is vs (σ.set i (some v))
  | _, _, σ => σ
structure PCs (X : Cx) (cs : List MatchCase) (t : V → L2.TS) : Prop where
  run : ∀ (pins : List (Addr × Obj)) (s : Shared) (σ : L2.St) (H : Hp) (v : V) (u : Value) (first : Bool) (D : Ends), Inv X pins σ H s → RelV v u → t v D σ H →
    wpAny (model X.prog X.w) X.A (matchCases cs X.env u first) (SP X pins D) X.xe s
def tCsNil : V → L2.TS := fun _ D σ H => D.nx σ H
def tCsCons (is : List Nat) (p : TPt) (b : L2.TS) (r : V → L2.TS) : V → L2.TS := fun v D σ H => p v σ H fun o H1 => match o with
  | none => r v D σ H1
  | some vs => b D (setN is vs σ) H1
def tMatch (te : TE) (t : V → L2.TS) : L2.TS := fun D σ H => te σ H fun v H1 => t v D σ H1
/-- the slots of the names -/
inductive Slots (X : Cx) : List Str → List Nat → Prop
  | nil : Slots X [] []
  | cons {n : Str} {i : Nat} {ns : List Str} {is : List Nat} : X.N[i]? = some n → Loc X.env.scope n → (X.fn n = true ∨ X.env.scope.names.lookup n = some .local) → Slots X ns is → Slots X (n :: ns) (i :: is)
section
variable {X : Cx}
theorem pcs_nil : PCs X [] tCsNil := by
  constructor
  intro pins s σ H v u first D I r q
  exact wpAny_matchCases_nil ⟨σ, H, I, q⟩
theorem binds_run (nd : X.N.Nodup) {pins : List (Addr × Obj)} {H : Hp} {Q : L2.St → Prop} {T : Unit → Shared → Prop} : ∀ {bs : List (Str × Value)} {ns : List Str} {is : List Nat} {vs : List V} {s : Shared} {σ : L2.St}, Slots X ns is → bs.map (·.1) = ns → Vals vs (bs.map (·.2)) → Inv X pins σ H s → Q (setN is vs σ) →
    (∀ s', Inv X pins (setN is vs σ) H s' → T () s') → wpAny (model X.prog X.w) X.A (assignInOrder (bs.map fun (n, _) => bindName X.env n) (bs.map (·.2))) T X.xe s
  | [], _, _, vs, s, σ, sl, e, r, I, q, k => by
    cases e
    cases sl
    cases r
    exact wpAny_assignInOrder_none (k s I)
  | (n, x) :: bs, _, _, vs, s, σ, sl, e, r, I, q, k => by
    cases e
    cases sl with
    | cons h1 h2 h3 sl =>
      cases r with
      | cons rx rr =>
        refine wpAny_assignInOrder_more (wpAny_bindName (store_ok I nd h1 h2 rx (fun s' I' => ?_) h3))
        exact binds_run nd sl rfl rr I' q k
theorem pcs_cons (nd : X.N.Nodup) {p : Pattern} {body : List Stmt} {cs : List MatchCase} {ns : List Str} {is : List Nat} {t : TPt} {b : L2.TS} {r : V → L2.TS} (hp : PMt X p ns t) (sl : Slots X ns is) (hb : PSs X body b) (hr : PCs X cs r) : PCs X (⟨p, none, body⟩ :: cs) (tCsCons is t b r) := by
  constructor
  intro pins s σ H v u first D I rv q
  refine wpAny_matchCases_cons (thn (hp.run pins s σ H v u _ I rv q) fun o s1 h1 => ?_)
  obtain ⟨o1, H1, I1, e1, q1⟩ := h1
  cases o with
  | none =>
    cases o1 with
    | none => exact hr.run pins s1 σ H1 v u false D I1 rv q1
    | some v => exact e1.elim
  | some bs =>
    cases o1 with
    | none => exact e1.elim
    | some vs =>
      exact binds_run (Q := fun _ => True) nd sl e1.1 e1.2 I1 True.intro fun s2 I2 => hb.run pins s2 _ H1 D I2 q1
theorem ps_match {e : Expr} {cs : List MatchCase} {pos : Pos} {te : TE} {t : V → L2.TS} (he : PE X e te) (hc : PCs X cs t) : PS X (.Match e cs pos) (tMatch te t) := by
  constructor
  intro pins s σ H D I q
  exact wpAny_Match (thn (he.run pins s σ H _ I q) fun u s1 ⟨v, H1, I1, r, q1⟩ => hc.run pins s1 σ H1 v u true D I1 r q1)
end
/-! ### what a match of a tuple asks, shortly -/
theorem eqv_str (a b : Str) : PyData.eqv (.str a) (.str b) = decide (a = b) := by
  by_cases e : a = b
  · subst e; simp [PyData.eqv]
  · simp [PyData.eqv, e]
theorem case_hit {K : PySem.W.Frag} {w : Str} {n : Nat} {u : List V → L2.St → Hp → (Option (List V) → Hp → Prop) → Prop} {σ : L2.St} {H : Hp} {a : Addr} {xs : List V} {Q : Option (List V) → Hp → Prop} (h : SqT K H a (.str w :: xs)) (e : xs.length + 1 = n)
    (ok : PyData.strOk w = true) (q : u xs σ H fun o H1 => match o with | none => Q none H1 | some b => Q (some b) H1) : ptSeq K n (ptCons (ptWord K w) u) (.ref a) σ H Q := by
  refine ⟨a, _, rfl, h, fun _ => ⟨_, _, rfl, .str w, .str w, ?_, ?_⟩, fun z => absurd e z⟩
  · unfold SeqAt.shaped; simp [PyData.canLay0, PyData.depth, ok]
  · rw [eqv_str, decide_eq_true rfl, if_pos rfl]
    exact q
theorem case_miss {K : PySem.W.Frag} {w w' : Str} {n : Nat} {u : List V → L2.St → Hp → (Option (List V) → Hp → Prop) → Prop} {σ : L2.St} {H : Hp} {a : Addr} {xs : List V} {Q : Option (List V) → Hp → Prop} (h : SqT K H a (.str w' :: xs)) (e : xs.length + 1 ≠ n ∨ w' ≠ w)
    (ok : PyData.strOk w' = true) (q : Q none H) : ptSeq K n (ptCons (ptWord K w) u) (.ref a) σ H Q := by
  refine ⟨a, _, rfl, h, fun z => ⟨_, _, rfl, .str w', .str w', ?_, ?_⟩, fun _ => q⟩
  · unfold SeqAt.shaped; simp [PyData.canLay0, PyData.depth, ok]
  · rcases e with e | e
    · exact absurd z e
    · rw [eqv_str, decide_eq_false e, if_neg (by decide)]
      exact q
end Sky
namespace Sky
open PySem PySem.Spec PyProof.Rows L2
/-! ### xs[::n], n written, at least 1 -/
def stepI (n : Nat) (len : Nat) : List Nat := sliceRange 0 (len : Int) (n : Int)
def stepL (n : Nat) (xs : List V) : List V := (stepI n xs.length).filterMap (xs[·]?)
def tStepL (K : PySem.W.Frag) (n : Nat) (te : TE) : TE := fun σ H Q => te σ H fun x H1 => ∃ a xs, x = .ref a ∧ SqL K H1 a xs ∧ (stepL n xs).length ≤ sizeLine ∧ ∀ p, H1 p = none → Q (.ref p) (upd H1 p (.lst (stepL n xs)))
theorem vals_pick {xs : List V} {its : List Value} (r : Vals xs its) : ∀ is : List Nat, Vals (is.filterMap (xs[·]?)) (is.filterMap (its[·]?))
  | [] => .nil
  | i :: is => by
    have ih := vals_pick r is
    cases h : xs[i]? with
    | none =>
      have h2 : its[i]? = none := by
        rw [List.getElem?_eq_none_iff] at h ⊢
        rw [← r.length]; exact h
      rw [List.filterMap_cons_none h, List.filterMap_cons_none h2]
      exact ih
    | some x =>
      obtain ⟨v, hv, rx⟩ := r.get h
      rw [List.filterMap_cons_some h, List.filterMap_cons_some hv]
      exact .cons rx ih
theorem pe_stepL {X : Cx} {e : Expr} {te : TE} {n : Nat} {k : Nat} {p1 p3 pos : Pos} (he : PE X e te) (h0 : 0 < n := by decide) : PE X (.Subscript e (.Slice none none (some (.Constant (.int (n : Int)) k p1)) p3) pos) (tStepL X.K n te) := by
  refine ⟨fun pins s σ H Q I h => ?_⟩
  refine Subscript_ (thn (he.run pins s σ H _ I h) fun v s1 ⟨x, H1, I1, r1, q1⟩ => ?_)
  obtain ⟨a, xs, ex, hx, hl, q⟩ := q1
  subst ex
  cases r1
  have hst : PO X (some (.Constant (.int (n : Int)) k p1)) (tPart (tC (.int (n : Int)))) := po_some pe_int
  refine wpAny_Slice (thn (po_none.run pins s1 σ H1 (fun o H2 => o = none ∧ H2 = H1) I1 ⟨rfl, rfl⟩) fun vl s2 ⟨l, H2, I2, pl, el, e2⟩ => ?_)
  subst el e2
  refine thn (po_none.run pins s2 σ H2 (fun o H3 => o = none ∧ H3 = H2) I2 ⟨rfl, rfl⟩) fun vu s3 ⟨u, H3, I3, pu, eu, e3⟩ => ?_
  subst eu e3
  refine thn (hst.run pins s3 σ H3 (fun o H4 => o = some (n : Int) ∧ H4 = H3) I3 ⟨(n : Int), rfl, rfl, rfl⟩) fun vs s4 ⟨o, H4, I4, ps, eo, e4⟩ => ?_
  subst eo e4
  have I5 : Inv X pins σ H4 { s4 with heap := s4.heap.push { cls := .type "slice", data := .fields #[vl, vu, vs] } } := I4.kept (t' := s4.toks) fun b ob q => Heap.get?_push_of_some _ q
  obtain ⟨its, r, ht, hz⟩ := I5.list hx
  have hlen := r.length
  show wpAny (model X.prog X.w) X.A (subscriptTail e (.Slice none none (some (.Constant (.int (n : Int)) k p1)) p3) (.ref a) (.ref s4.heap.objs.size)) (EP X pins σ Q) X.xe { s4 with heap := s4.heap.push { cls := .type "slice", data := .fields #[vl, vu, vs] } }
  refine tail_any (ops := [.ref a, .ref s4.heap.objs.size]) ht.isList.typeIs (PySem.slot_list_getitem.lookup) ?_ (by with_unfolding_all rfl)
  refine wpAny_getItem_list_slice ht.isList (Heap.IsSliceOf.new _ vl vu vs) pl pu ps (by intro z; injection z with z; omega) ?_ (by rw [List.size_toArray]; omega)
  have epick : slicePick its.toArray none none (some (n : Int)) = ((stepI n xs.length).filterMap (its[·]?)).toArray := by
    unfold slicePick
    have eb : sliceBounds none none (some (n : Int)) its.toArray.size = (0, ((its.toArray.size : Nat) : Int), (n : Int)) := by
      unfold sliceBounds
      have : (n : Int) > 0 := by omega
      have n0 : ¬ n = 0 := by omega
      simp [this, n0]
    rw [eb]
    show ((sliceRange 0 ((its.toArray.size : Nat) : Int) (n : Int)).filterMap (its.toArray[·]?)).toArray = _
    rw [List.size_toArray, ← hlen]
    congr 1
    refine congrArg (fun f => List.filterMap f _) (funext fun i => ?_)
    simp
  rw [epick]
  refine ⟨.ref _, _, I5.laid (t' := s4.toks) (o := .lst (stepL n xs)) (fun b ob q => Heap.get?_push_of_some _ q) (Nat.le_refl _) ?_, rfl, q _ (I5.hok.fresh (Nat.le_refl _))⟩
  exact ⟨hl, _, 0, vals_pick r _, Heap.get?_push_size _ rfl⟩
end Sky

/-! Rules of my own: l.remove of data, d.update, a tuple taken once. -/
namespace Sky
open PySem PySem.Spec PyProof.Rows L2
/-! ### l.remove(x), items data -/
theorem er_size (us : Array Value) (at' : Nat) : (us.eraseIdxIfInBounds at').size ≤ us.size := by
  unfold Array.eraseIdxIfInBounds
  split
  · rw [Array.size_eraseIdx]; omega
  · exact Nat.le_refl _
/-- the list object -/
abbrev lob (us : Array Value) (cap : Nat) : Obj := { cls := .type "list", dict := none, data := .seq us cap, slots := #[] }
theorem drop_walk (me : Addr) (us : Array Value) (cap : Nat) (what : Value) (fits : Value → Bool) (goal : Nat) (inside : goal < us.size) (yes : fits us[goal] = true) (small : us.size ≤ sizeLine) (far : Nat) :
    ∀ now : Nat, goal - now = far → now ≤ goal → (∀ k (hk : k < us.size), now ≤ k → k < goal → fits us[k] = false) →
      Meets (Builtin.«list.remove.loop» ⟨[.ref me, what, rawInt now], []⟩) (fun A R s => s.heap.get? me = some (lob us cap) ∧ (∀ y, y ∈ us → SeqAt.EqAt A.in1 s y what (fits y)) ∧
        R (.ok (.ret .none)) { s with heap := s.heap.update me (Obj.mapSeq fun vs => vs.eraseIdxIfInBounds goal) }) := by
  induction far with
  | zero =>
    intro now gap upto others prog w A R s got
    obtain ⟨heap0, gen0, dr0, tk0, sys0⟩ := s
    obtain ⟨here, same, after⟩ := got
    obtain rfl : now = goal := by omega
    wp_walk using wpAny_loadPart' here
    have pick : us[((now : Nat) : Int).toNat]? = some us[now] := by simp [inside]
    rw [pick]
    refine wpAny_bind (same us[now] (Array.getElem_mem inside) prog w _ _ ?_)
    rw [yes]
    have less : (us.eraseIdxIfInBounds now).size ≤ sizeLine + 1 := Nat.le_succ_of_le (Nat.le_trans (er_size us now) small)
    wp_walk using (wpAny_updateSeq here rfl (hz := small) (_hz' := less)), wpAny_loadPart' here
    simpa using after
  | succ far more =>
    intro now gap upto others prog w A R s got
    obtain ⟨heap0, gen0, dr0, tk0, sys0⟩ := s
    obtain ⟨here, same, after⟩ := got
    have inside' : now < us.size := by omega
    wp_walk using wpAny_loadPart' here
    have pick : us[((now : Nat) : Int).toNat]? = some us[now] := by simp [inside']
    have next : ((now : Int) + 1) = ((now + 1 : Nat) : Int) := by push_cast; rfl
    rw [pick]
    refine wpAny_bind (same us[now] (Array.getElem_mem inside') prog w _ _ ?_)
    rw [others now inside' (Nat.le_refl _) (by omega)]
    wp_walk
    rw [next]
    refine ⟨plainId_quiet MeetsSeq.plain_remove_loop _, codeAny_builtin MeetsSeq.entry_remove_loop ?_⟩
    rw [Around.under_plainId MeetsSeq.plain_remove_loop _]
    exact more (now + 1) (by omega) (by omega) (fun k hk a b => others k hk (by omega) b) prog w A R _ ⟨here, same, after⟩
theorem drop_meets (me : Addr) (us : Array Value) (cap : Nat) (what : Value) (fits : Value → Bool) (goal : Nat) (inside : goal < us.size) (yes : fits us[goal] = true)
    (others : ∀ k (hk : k < us.size), k < goal → fits us[k] = false) (small : us.size ≤ sizeLine) :
    Meets (Builtin.«list.remove» ⟨[.ref me, what], []⟩) (fun A R s => s.heap.get? me = some (lob us cap) ∧ (∀ y, y ∈ us → SeqAt.EqAt A.in1 s y what (fits y)) ∧
      R (.ok (.ret .none)) { s with heap := s.heap.update me (Obj.mapSeq fun vs => vs.eraseIdxIfInBounds goal) }) := by
  intro prog w A R s got
  obtain ⟨heap0, gen0, dr0, tk0, sys0⟩ := s
  obtain ⟨here, same, after⟩ := got
  wp_walk using wpAny_loadPart' here
  refine ⟨plainId_quiet MeetsSeq.plain_remove_loop _, codeAny_builtin MeetsSeq.entry_remove_loop ?_⟩
  rw [Around.under_plainId MeetsSeq.plain_remove_loop _]
  exact drop_walk me us cap what fits goal inside yes small _ 0 rfl (Nat.zero_le _) (fun k hk _ b => others k hk b) prog w A R _ ⟨here, same, after⟩
section
variable {X : Cx}
def rRemD (K : PySem.W.Frag) : V → List V → Hp → VK → Prop := fun x xs H Q => ∃ (l : Addr) (y : V) (d : PyData) (vs : List V) (ds : List PyData) (j : Nat) (z : PyData), x = .ref l ∧ xs = [y] ∧ H l = some (.lst vs) ∧ DpAll K H vs ds ∧ Dp K H y d ∧
  SeqAt.shaped (.list ds) = true ∧ SeqAt.shaped d = true ∧ ds[j]? = some z ∧ PyData.eqv z d = true ∧ (∀ (m : Nat) (z' : PyData), m < j → ds[m]? = some z' → PyData.eqv z' d = false) ∧ Q .non (upd H l (.lst (vs.eraseIdx j)))
theorem mt_removeD (hu : X.A.units + 65 < cLine) : MtM X "list.remove" (rRemD X.K) := by
  intro pins s σ H x xs v us Q I rx rxs told
  obtain ⟨l, y, d, vs, ds, j, w, rfl, rfl, hl, dall, dy, shl, shd, hjw, yes, others, after⟩ := told
  cases rx
  obtain ⟨uy, rfl, ry⟩ := rxs.one
  obtain ⟨fits, its, cap, rel, len, obj⟩ := I.lstM hl
  obtain ⟨bs, ready⟩ := Dp.reads I d y uy dy ry
  obtain ⟨as, reads⟩ := Dp.readsAll I ds _ its dall rel
  have lay : PyData.canLayAll0 ds = true := SeqAt.canLay_of_shaped shl
  have room : X.A.units + 1 + min (PyData.depthAll ds) d.depth < cLine := room_in_shaped shd hu
  have many : its.length = ds.length := SeqAt.ReadsAll.length ds its as reads
  have back : its.map (SeqAt.readOf s.heap) = ds := SeqAt.readsAll_map ds its as lay reads
  have inside : j < its.toArray.size := by rw [List.size_toArray, many]; exact (List.getElem?_eq_some_iff.mp hjw).1
  have told : ∀ (k : Nat) (hk : k < its.toArray.size) (e : PyData), ds[k]? = some e → SeqAt.readOf s.heap its.toArray[k] = e := fun k hk e he => by
    have hk' : k < its.length := by rw [List.size_toArray] at hk; exact hk
    rw [← back, List.getElem?_map, List.getElem?_eq_getElem hk'] at he
    exact Option.some.inj he
  refine call_meets PySem.F.slot_list_remove ⟨_, obj, rfl⟩ PySem.F.entry_list_remove (PySem.F.args_list_remove_2 _ _)
    (drop_meets l its.toArray cap uy (fun u => PyData.eqv (SeqAt.readOf s.heap u) d) j inside (by show PyData.eqv (SeqAt.readOf s.heap its.toArray[j]) d = true; rw [told j inside w hjw]; exact yes) (fun k hk less => ?_) (by rw [List.size_toArray, ← len]; exact fits))
    ⟨obj, SeqAt.items_eqAt (vs := its.toArray) reads ready lay (SeqAt.canLay_of_shaped shd) room, .non, _, I.lset (its' := its.eraseIdx j) hl obj (by show its.toArray.eraseIdxIfInBounds j = _; rw [List.eraseIdxIfInBounds_toArray]) (rel.eraseIdx j) (Nat.le_trans (List.length_eraseIdx_le vs j) fits), rfl, after⟩
  have hk2 : k < ds.length := by rw [List.size_toArray] at hk; omega
  show PyData.eqv (SeqAt.readOf s.heap its.toArray[k]) d = false
  rw [told k hk ds[k] (List.getElem?_eq_getElem hk2)]
  exact others k _ less (List.getElem?_eq_getElem hk2)
/-! ### d.update(d2), both of short keys -/
def rUpdK : V → List V → Hp → VK → Prop := fun x xs H Q => ∃ (a b : Addr) (ks ms : List (Key × V)), x = .ref a ∧ xs = [.ref b] ∧ a ≠ b ∧ H a = some (.dK ks) ∧ H b = some (.dK ms) ∧ ks.length + ms.length ≤ sizeLine ∧ Q .non (upd H a (.dK (mergeK ks ms)))
theorem mt_updK : MtM X "dict.update" rUpdK := by
  intro pins s σ H x xs v us Q I rx rxs told
  obtain ⟨a, b, ks, ms, rfl, rfl, apart, ha, hb, fits, after⟩ := told
  cases rx
  obtain ⟨ub, rfl, rb⟩ := rxs.one
  cases (show ub = Value.ref b from rb)
  obtain ⟨_, plainA, va, relA, isA⟩ := dk_of I.hok ha
  obtain ⟨_, plainB, vb, relB, isB⟩ := dk_of I.hok hb
  refine call_meetsIn PySem.F.slot_dict_update isA.typeIs PySem.F.entry_dict_update (PySem.F.args_dict_update_2 _ _) (meets_dict_update (mixKind X.prog X.w) a b apart plainB)
    ⟨va, vb, isA, isB, by rw [← relA.length, ← relB.length]; exact fits, fun h' new _ but => ?_⟩
  have some' : ∃ ob, h'.get? a = some ob := let ⟨ob, _, _, e, _⟩ := new; ⟨ob, e⟩
  exact ⟨.non, _, d_write I (by rw [ha]; exact True.intro) but some' (dk_new (Nat.le_trans (length_mergeK ms ks) fits) plainA (KV.merge relB relA) new), rfl, after⟩
end
end Sky
/-! ### a tuple taken once -/
namespace Sky
open PySem PySem.Spec PyProof.Rows L2
theorem once_meets (me : Addr) (us : Array Value) (cap : Nat) (own : Option Addr) (sls : Array (Option Value)) (tk : Tok) :
    Meets (Builtin.«tuple.__mul__» ⟨[.ref me, .int 1 tk], []⟩)
      (fun _ R s => s.heap.get? me = some { cls := .type "tuple", dict := own, data := .seq us cap, slots := sls } ∧ R (.ok (.ret (Value.ref me))) s) :=
  .of_wp fun prog w A R s got => by
    obtain ⟨heap0, gen0, dr0, tk0, sys0⟩ := s
    obtain ⟨here, after⟩ := got
    have f1 := AutoSeq1.idx_int
    wp_walk using wpAny_loadPart' here
    exact ⟨_, rfl, after⟩
def rOnceT (K : PySem.W.Frag) : R2 := fun x y H Q => ∃ l xs, x = .ref l ∧ y = .int 1 ∧ SqT K H l xs ∧ Q (.ref l) H
theorem op_onceT {X : Cx} : OpR X (binaryOp .Mult) (rOnceT X.K) := by
  intro pins s σ H x y v u Q I rx ry told
  obtain ⟨l, xs, rfl, rfl, isT, after⟩ := told
  cases rx
  obtain ⟨tk, rfl⟩ := ry
  obtain ⟨its, rel, ⟨⟨cls, own, data, sls⟩, obj, isC, cap, isD⟩, _⟩ := I.tuple isT
  simp only at isC isD
  subst isC isD
  refine wpAny_binaryOp_repeat_ref (T := "tuple") (U := "int") (by decide) ⟨_, obj, rfl⟩ (fun s' => typeIs_int s' 1 tk) noFill_tuple_mul F.fills_int_mul F.slot_int_rmul repeat_tuple F.slot_int_index.lookup
    (call_meets F.slot_int_rmul (typeIs_int s 1 tk) F.entry_int_rmul (F.args_int_rmul_2 _ _) (int_rmul_tuple 1 tk l its.toArray cap own sls)
      ⟨obj, rfl, ⟨_, obj, rfl⟩, call_meets F.slot_tuple_mul ⟨_, obj, rfl⟩ F.entry_tuple_mul (F.args_tuple_mul_2 _ _) (once_meets l its.toArray cap own sls tk) ⟨obj, .ref l, H, I, rfl, after⟩⟩)
end Sky

/-! Rules of my own: a def that ends well here and lets an exception out there. -/
namespace Sky
open PySem PySem.Spec PyProof.Rows L2
/-- the facts of an own exception class over ValueError -/
structure ExC (K : PySem.W.Frag) (mg : Str → Option Value) (x : Str) (C : Addr) : Prop where
  g : mg x = some (.ref C)
  q : PySem.W.excIn K C [.type "ValueError", .type "Exception", .type "BaseException", .type "object"] "ValueError.__new__" = true
  k : PySem.W.keepIn K (.ref C) = true
  b : PySem.W.subIn K (.ref C) (.type "BaseException") = some true
  t : PySem.W.typeIn K (.ref C) = some (.type "type")
/-- two promises of one def, the second with exceptions -/
theorem fn_or {P : Program} {w : World} {K : PySem.W.Frag} {mg : Str → Option Value} {base : Heap} {C : CXT} {k : Nat} {f : Addr} {fd : FuncData} {ps : List Str} {well ill : Sp} (F : FnOk P w K mg base (fun _ _ _ _ _ _ => False) k f fd ps well) (G : FnOk P w K mg base C k f fd ps ill) :
    FnOk P w K mg base C k f fd ps (fun vs H Q E => well vs H Q E ∨ ill vs H Q E) where
  len := fun vs H Q E h => h.elim (F.len vs H Q E) (G.len vs H Q E)
  run := fun A outer s H args us vs Q E room env binds rel h => by
    rcases h with h | h
    · refine codeAny_mono (F.run A outer s H args us vs Q E room env binds rel h) fun r s' end' => ?_
      cases r with
      | ok flow =>
        cases flow with
        | ret u => exact end'
        | next => exact end'
        | brk => exact end'
        | cont => exact end'
      | error e => exact False.elim end'
    · exact G.run A outer s H args us vs Q E room env binds rel h
/-! ### o.m(e, ..) within a try: what is wished of an exception knows the slots at the call -/
section
variable {X : Cx} {C : CXT} {k : Nat} {f cl : Addr} {fd : FuncData} {ps : List Str} {sp : Sp} {dvs : List V} {ds : List Value} {W : L2.St → XK} {m : Str} {here dot : Pos} {e ob : Expr} {es : List Expr} {to : TE} {t : TA}
theorem calls_in {pins : List (Addr × Obj)} {σ : L2.St} {H : Hp} {s : Shared} {Q : VK} {us : List Value} {vs : List V} (F : FnOk X.prog X.w X.K X.mg X.base C k f fd ps sp) (room : Room k X.A) (bind : Binds X.K fd ps ds) (rest : Vals dvs ds)
    (out : ∀ e s', C X.stack H s (W σ) e s' → X.xe e s') (I : Inv X pins σ H s) (rel : Vals vs us) (h : sp (vs ++ dvs) H Q (W σ)) : wpAny (model X.prog X.w) X.A (call (.ref f) us) (EP X pins σ Q) X.xe s := by
  have all := rel.append rest
  have many : (us ++ ds).length = ps.length := all.length.symm.trans (F.len _ _ _ _ h)
  refine wpAny_call (codeAny_mono (F.run X.A X.stack s H ⟨us, []⟩ (us ++ ds) (vs ++ dvs) Q (W σ) room I.env0 (bind s us I.kIn many) all h) fun r s' fin => ?_)
  match r, fin with
  | .error e, fin => exact out e s' fin
  | .ok (.ret u), fin => exact I.after fin
  | .ok .next, fin => exact fin.elim
  | .ok .brk, fin => exact fin.elim
  | .ok .cont, fin => exact fin.elim
theorem pe_methS {pl : Sem Bool} (ho : PE X ob to) (cls : Cls X.K cl) (hm : Meth X.K cl m f) (F : FnOk X.prog X.w X.K X.mg X.base C k f fd ps sp) (room : Room k X.A) (bind : Binds X.K fd ps ds) (rest : Vals dvs ds)
    (out : ∀ (pins : List (Addr × Obj)) (σ : L2.St) (H : Hp) (s : Shared) (e : Value) (s' : Shared), Inv X pins σ H s → C X.stack H s (W σ) e s' → X.xe e s') (args : PA X (e :: es) t)
    (hst : starEach (e :: es) X.env = (false, eval e X.env) :: starEach es X.env := by rfl) (hpl : (backTo here (starEach es X.env)).any (·.1) = false := by rfl)
    (ht : eval (.Call (.Attribute ob m dot) (e :: es) [] here) X.env = (do
      let recv ← eval ob X.env
      standAt dot.atName
      let (run, self) ← holding [recv] (getMethod recv m pl)
      callWith here run self (backTo here (starEach (e :: es) X.env)) (backToKw here (keywordEach [] X.env))) := by rfl) :
    PE X (.Call (.Attribute ob m dot) (e :: es) [] here) (fun σ => tMeth cl m sp dvs (W σ) to t σ) where
  run := fun pins s σ H Q I h => by
    refine PySem.W.methodCall_KW (pl := pl) (thn (ho.run pins s σ H _ I h) fun u s1 met => ?_) ht
    obtain ⟨x, H1, I1, rx, a, dx, fs, rfl, obj, bare, more⟩ := met
    obtain rfl : u = Value.ref a := rx
    refine getmeth_ok I1 obj cls hm bare ?_
    refine PySem.W.callWith_K (first := [.ref a]) (h₀ := X.base) I.ok.mod.kin hm.kp (thn (args.run here pins s1 σ H1 _ I1 more) fun us s2 got => ?_) hst hpl
    obtain ⟨vs, H2, I2, rel, told⟩ := got
    exact ⟨I2.kIn, calls_in (us := .ref a :: us) (vs := .ref a :: vs) F room bind rest (fun e s' c => out pins σ H2 s2 e s' I2 c) I2 (.cons rfl rel) told⟩
/-- what a callee may let out is taken, the slots as at the call -/
theorem passes_slots {W : WX} (tk : Takes X W) : ∀ (pins : List (Addr × Obj)) (σ : L2.St) (H : Hp) (s : Shared) (e : Value) (s' : Shared), Inv X pins σ H s → L2.CX X.prog X.w X.stack H s (fun cls d H' => W cls d σ H') e s' → X.xe e s' :=
  fun _ _ _ _ e s' I c => tk e s' (XE.of_call I (fun _ _ _ h => h) c)
end
/-! ### try .. except X, its reading under a name of its own (so that a loop's rule can tell what its body is) -/
def tTry1 (K : PySem.W.Frag) (c : Value) (tb : WX → L2.TS) (ts : Addr → Value → Option Addr → L2.TS) (Wout : WX) : L2.TS := fun D σ H => tb (wOnly K c ts Wout D) D σ H
theorem ps_try1 {X : Cx} {x : Str} {c : Value} {body suite : List Stmt} {first : Stmt} {p1 p2 p3 : Pos} {tb : WX → L2.TS} {ts : Addr → Value → Option Addr → L2.TS} {Wout : WX} (one : X.stack = X.env :: X.outer) (two : X.env.frame = some X.env.locals) (named : Names X x c) (tk : Takes X Wout)
    (inside : ∀ (W : WX) (pn : List (Addr × Obj)) (xe : Value → Shared → Prop), Takes (X.tr pn xe) W → PassesOwn (model X.prog X.w) X.A X.env xe → PSs (X.tr pn xe) body (tb W))
    (caught : ∀ (a : Addr) (oe : Obj) (cls : Value) (d : Option Addr) (pn : List (Addr × Obj)), Zc cls d oe → (∃ vs, oe.data = .fields vs) → PSs (X.suite a ((a, oe) :: pn)) (first :: suite) (ts a cls d)) :
    PS X (.Try body [.ExceptHandler (some (.Name x p1)) none (first :: suite) p2] [] [] p3) (tTry1 X.K c tb ts Wout) := ps_try_only one two named tk inside caught
end Sky

/-! Rules of my own: a pattern of two words, case ("a" | "b", name). -/
namespace Sky
open PySem PySem.Spec PyProof.Rows L2
def ptOr (t u : TPt) : TPt := fun v σ H Q => t v σ H fun o H1 => match o with
  | some _ => Q (some []) H1
  | none => u v σ H1 fun o2 H2 => Q (o2.map fun _ => []) H2
theorem nol (ns : List Str) : (ns.filterMap fun n => (([] : List (Str × Value)).lookup n).map (n, ·)) = [] := by
  induction ns with
  | nil => rfl
  | cons n ns ih => exact ih
theorem pm_or {X : Cx} {p q : Pattern} {pos : Pos} {t u : TPt} (a : PMt X p [] t) (b : PMt X q [] u) : PMt X (.MatchOr [p, q] pos) [] (ptOr t u) := by
  constructor
  intro pins s σ H v x Q I r h
  refine wpAny_matchPattern_Or (wpAny_matchFirst_cons (thn (a.run pins s σ H v x _ I r h) fun o s1 h1 => ?_))
  obtain ⟨o1, H1, I1, e1, q1⟩ := h1
  cases o with
  | some bs =>
    cases o1 with
    | none => exact e1.elim
    | some vs =>
      obtain ⟨eb, ev⟩ := e1
      have e2 : bs = [] := List.map_eq_nil_iff.mp eb
      subst e2
      exact ⟨some [], H1, I1, ⟨by rw [nol]; rfl, by rw [nol]; exact .nil⟩, q1⟩
  | none =>
    cases o1 with
    | some vs => exact e1.elim
    | none =>
      refine wpAny_matchFirst_cons (thn (b.run pins s1 σ H1 v x _ I1 r q1) fun o s2 h2 => ?_)
      obtain ⟨o2, H2, I2, e2, q2⟩ := h2
      cases o with
      | some bs =>
        cases o2 with
        | none => exact e2.elim
        | some vs =>
          obtain ⟨eb, ev⟩ := e2
          have e3 : bs = [] := List.map_eq_nil_iff.mp eb
          subst e3
          exact ⟨some [], H2, I2, ⟨by rw [nol]; rfl, by rw [nol]; exact .nil⟩, q2⟩
      | none =>
        cases o2 with
        | some vs => exact e2.elim
        | none => exact wpAny_matchFirst_nil ⟨none, H2, I2, True.intro, q2⟩
section
variable {K : PySem.W.Frag} {w1 w2 w' : Str} {n i : Nat} {is : List Nat} {u : List V → L2.St → Hp → (Option (List V) → Hp → Prop) → Prop} {σ : L2.St} {H : Hp} {a : Addr} {xs : List V} {x : V} {b : L2.TS} {r : V → L2.TS} {D : Ends}
theorem word_is {w w' : Str} {Q : Option (List V) → Hp → Prop} (ok : PyData.strOk w' = true) (h : w' = w → Q (some []) H) (m : w' ≠ w → Q none H) : ptWord K w (.str w') σ H Q := by
  refine ⟨.str w', .str w', ?_, ?_⟩
  · unfold SeqAt.shaped; simp [PyData.canLay0, PyData.depth, ok]
  · rw [eqv_str]
    by_cases e : w' = w
    · rw [decide_eq_true e, if_pos rfl]; exact h e
    · rw [decide_eq_false e, if_neg (by decide)]; exact m e
theorem cs_missO (h : SqT K H a (.str w' :: xs)) (ok : PyData.strOk w' = true) (e : xs.length + 1 ≠ n ∨ (w' ≠ w1 ∧ w' ≠ w2)) (q : r (.ref a) D σ H) : tCsCons is (ptSeq K n (ptCons (ptOr (ptWord K w1) (ptWord K w2)) u)) b r (.ref a) D σ H := by
  refine ⟨a, _, rfl, h, fun z => ⟨_, _, rfl, ?_⟩, fun _ => q⟩
  rcases e with e | ⟨e1, e2⟩
  · exact absurd z e
  · refine word_is ok (fun z => absurd z e1) fun _ => word_is ok (fun z => absurd z e2) fun _ => q
theorem cs_hitO (h : SqT K H a [.str w', x]) (ok : PyData.strOk w' = true) (e : w' = w1 ∨ w' = w2) (q : b D (σ.set i (some x)) H) : tCsCons [i] (ptSeq K 2 (ptCons (ptOr (ptWord K w1) (ptWord K w2)) (ptCons ptName ptNil))) b r (.ref a) D σ H := by
  refine ⟨a, _, rfl, h, fun z => ⟨_, _, rfl, ?_⟩, fun z => absurd rfl z⟩
  refine word_is ok (fun _ => ⟨x, [], rfl, q⟩) fun n1 => word_is ok (fun _ => ⟨x, [], rfl, q⟩) fun n2 => ?_
  rcases e with e | e
  · exact absurd e n1
  · exact absurd e n2
end
end Sky
/-! ### data without truth values: alike is the same -/
namespace Sky
open PySem PySem.Spec PyProof.Rows L2
mutual
def plainD : PyData → Bool
  | .none => true
  | .int _ => true
  | .str _ => true
  | .tuple ds => plainDs ds
  | .list ds => plainDs ds
  | .bool _ => false
  | .dict _ => false
def plainDs : List PyData → Bool
  | [] => true
  | d :: ds => plainD d && plainDs ds
end
mutual
theorem eqv_plain : ∀ (d e : PyData), plainD d = true → plainD e = true → (PyData.eqv d e = true ↔ d = e)
  | .none, e, _, he => by cases e <;> simp [PyData.eqv, plainD] at *
  | .int i, e, _, he => by cases e <;> simp [PyData.eqv, plainD] at *
  | .str x, e, _, he => by cases e <;> simp [PyData.eqv, plainD] at *
  | .bool b, e, hd, _ => by simp [plainD] at hd
  | .dict k, e, hd, _ => by simp [plainD] at hd
  | .tuple ds, e, hd, he => by
    cases e with
    | tuple es =>
      rw [plainD] at hd he
      rw [PyData.eqv, eqvAll_plain ds es hd he]
      constructor
      · intro h; rw [h]
      · intro h; injection h
    | bool _ => simp [plainD] at he
    | dict _ => simp [plainD] at he
    | none => simp [PyData.eqv]
    | int _ => simp [PyData.eqv]
    | str _ => simp [PyData.eqv]
    | list _ => simp [PyData.eqv]
  | .list ds, e, hd, he => by
    cases e with
    | list es =>
      rw [plainD] at hd he
      rw [PyData.eqv, eqvAll_plain ds es hd he]
      constructor
      · intro h; rw [h]
      · intro h; injection h
    | bool _ => simp [plainD] at he
    | dict _ => simp [plainD] at he
    | none => simp [PyData.eqv]
    | int _ => simp [PyData.eqv]
    | str _ => simp [PyData.eqv]
    | tuple _ => simp [PyData.eqv]
theorem eqvAll_plain : ∀ (ds es : List PyData), plainDs ds = true → plainDs es = true → (PyData.eqvAll ds es = true ↔ ds = es)
  | [], [], _, _ => by simp [PyData.eqvAll]
  | [], _ :: _, _, _ => by simp [PyData.eqvAll]
  | _ :: _, [], _, _ => by simp [PyData.eqvAll]
  | d :: ds, e :: es, hd, he => by
    rw [plainDs, Bool.and_eq_true] at hd he
    rw [PyData.eqvAll, Bool.and_eq_true, eqv_plain d e hd.1 he.1, eqvAll_plain ds es hd.2 he.2, List.cons.injEq]
end
theorem plainDs_of {α : Type} {f : α → PyData} : ∀ {xs : List α}, (∀ x ∈ xs, plainD (f x) = true) → plainDs (xs.map f) = true
  | [], _ => rfl
  | x :: xs, h => by
    rw [List.map_cons, plainDs, Bool.and_eq_true]
    exact ⟨h x List.mem_cons_self, plainDs_of fun y hy => h y (List.mem_cons_of_mem _ hy)⟩
theorem eqv_is {d e : PyData} (hd : plainD d = true) (he : plainD e = true) [Decidable (d = e)] : PyData.eqv d e = decide (d = e) := by
  by_cases h : d = e
  · rw [decide_eq_true h]; exact (eqv_plain d e hd he).mpr h
  · rw [decide_eq_false h]
    cases g : PyData.eqv d e with
    | false => rfl
    | true => exact absurd ((eqv_plain d e hd he).mp g) h
/-- by what the data tell of -/
theorem eqv_inj {α : Type} {f : α → PyData} (inj : ∀ x y, f x = f y → x = y) (pl : ∀ x, plainD (f x) = true) (x y : α) [Decidable (x = y)] : PyData.eqv (f x) (f y) = decide (x = y) := by
  by_cases h : x = y
  · subst h
    rw [decide_eq_true rfl]; exact (eqv_plain _ _ (pl x) (pl x)).mpr rfl
  · rw [decide_eq_false h]
    cases g : PyData.eqv (f x) (f y) with
    | false => rfl
    | true => exact absurd (inj _ _ ((eqv_plain _ _ (pl x) (pl y)).mp g)) h
theorem plain_tl (t : List Int) : plainD (tlD t) = true := plainDs_of fun _ _ => rfl
theorem map_inj {α β : Type} {f : α → β} (inj : ∀ x y, f x = f y → x = y) : ∀ {xs ys : List α}, xs.map f = ys.map f → xs = ys
  | [], [], _ => rfl
  | [], _ :: _, h => by simp at h
  | _ :: _, [], h => by simp at h
  | x :: xs, y :: ys, h => by
    rw [List.map_cons, List.map_cons] at h
    injection h with h1 h2
    rw [inj _ _ h1, map_inj inj h2]
theorem tl_inj {t u : List Int} (h : tlD t = tlD u) : t = u := by
  injection h with h
  exact map_inj (fun x y e => by injection e) h
end Sky

namespace L2
open PySem PySem.Spec PyProof.Rows PySem.W
/-! ### a, *rest = list -/
def gStar (K : PySem.W.Frag) (g1 g2 : TG) : TG := fun v σ H Q => ∃ a x xs, v = .ref a ∧ SqL K H a (x :: xs) ∧ xs.length ≤ 16000 ∧ ∀ p, H p = none → g1 x σ (upd H p (.lst xs)) fun σ1 H1 => g2 (.ref p) σ1 H1 Q
theorem pg_star {X : Cx} {t1 t2 : Expr} {g1 g2 : TG} {p pos : Pos} {k : Nat} (hc : X.calm = true) (h1 : PG X t1 g1) (h2 : PG X t2 g2)
    (he : assignEach [t1, .Starred t2 p] X.env = [(false, assign t1 X.env), (true, assign t2 X.env)] := by rfl) : PG X (.Tuple [t1, .Starred t2 p] k pos) (gStar X.K g1 g2) := by
  refine ⟨fun pins s σ H v u Q I r hw => ?_⟩
  obtain ⟨a, x, xs, e1, hq, hl, hw⟩ := hw
  subst e1
  cases r
  obtain ⟨its, rv, ht, hz⟩ := I.list hq
  have hli : s.heap.IsList a its.toArray := ht.isList
  have hlt : a ≠ s.heap.objs.size := by obtain ⟨o, ho, _⟩ := hli; exact Nat.ne_of_lt (Heap.lt_size ho)
  cases rv with
  | cons r1 rs =>
  rename_i x' xs'
  have hlen := rs.length
  rw [assign_Tuple]
  refine wpAny_bind (wpAny_standAt ?_)
  unfold unpack
  rw [he]
  show wpAny _ _ (holding [Value.ref a] (unpackItems (.ref a) 2 (some 1)) >>= fun vs => assignInOrder [assign t1 X.env, assign t2 X.env] vs) _ _ s
  refine wpAny_bind (wpAny_holding ?_)
  unfold unpackItems
  refine wpAny_bind ?_
  unfold notIterableAtAll
  refine wpAny_bind (wpAny_specialOf hli.typeIs slot_list_iter.lookup ?_)
  refine wpAny_pure ?_
  simp only [Bool.false_eq_true, if_false]
  refine wpAny_bind (wpAny_holding (wpAny_pyIter_list hli ?_))
  refine wpAny_bind (wpAny_holding (kun_draw hlt 1 0 _ _ ⟨_, Heap.get?_push_size _ rfl, rfl, rfl⟩ (hli.push _) (by simp) fun h₁ hit₁ hs₁ => ?_))
  have hl₁ : h₁.IsList a (x' :: xs').toArray := (hli.push _).extBut hs₁.extBut hlt
  rw [Nat.zero_add] at hit₁
  have hit₁' := hit₁
  obtain ⟨oi, hoi, _⟩ := hit₁'
  have hl₁' := hl₁
  obtain ⟨ol, hol, _⟩ := hl₁'
  rw [List.drop_zero]
  show wpAny _ _ (if ([x'] : List Value).length < 1 then _ else _) _ _ _
  rw [if_neg (by show ¬ ((1 : Nat) < 1); decide)]
  refine wpAny_bind (wpAny_holding (kun_collect (s := { s with heap := h₁ }) (T := "list_iterator") (.inr (.inr (.inl rfl))) (items := (x' :: xs').toArray) (Walks.list (A := X.A.in1) (I.ok.hd hc) s.heap.objs.size a hlt (x' :: xs').toArray) (fun j u st => st.1.typeIs) (k := 1) (by simp) ⟨hit₁, hl₁⟩ (Heap.lt_size hoi) (Heap.lt_size hol) (fun h₂ tk hk => ?_) (by rw [sizeLine_eq]; simp; omega)))
  show wpAny _ _ (if xs'.length < 0 then _ else _) _ _ _
  rw [if_neg (Nat.not_lt_zero _)]
  show wpAny _ _ (newList (xs'.take (xs'.length - 0)) >>= fun d => pure ([x'] ++ [d] ++ xs'.drop (xs'.length - 0))) _ _ _
  rw [Nat.sub_zero, List.take_length, List.drop_length]
  refine wpAny_bind (wpAny_newList ?_ (by rw [sizeLine_eq]; omega))
  have keep0 : ∀ b u, s.heap.get? b = some u → h₂.get? b = some u := fun b u e => hk b u (Nat.ne_of_lt (Heap.lt_size e)) (hs₁.extBut b u (Nat.ne_of_lt (Heap.lt_size e)) (Heap.get?_push_of_some _ e))
  have I2 : Inv X pins σ H { s with heap := h₂, toks := tk } := I.kept (t' := tk) keep0
  have hp := I2.hok.fresh (Nat.le_refl _)
  have I3 := I2.laid (t' := tk) (o := .lst xs) (h' := h₂.push { cls := .type "list", data := .seq xs'.toArray }) (fun b u q => Heap.get?_push_of_some _ q) (Nat.le_refl _) ⟨by rw [sizeLine_eq]; omega, xs', _, rs, Heap.get?_push_size _ rfl⟩
  refine wpAny_pure ?_
  show wpAny _ _ (assignInOrder [assign t1 X.env, assign t2 X.env] ([x'] ++ [Value.ref _] ++ [])) _ _ _
  refine assignInOrder_cons (thn (h1.run pins _ σ _ x x' _ I3 r1 (hw _ hp)) fun _ s2 ⟨σ2, H2, I2, q2⟩ => ?_)
  exact assignInOrder_cons (thn (h2.run pins s2 σ2 H2 (.ref _) (.ref _) Q I2 rfl q2) fun _ s3 q => assignInOrder_nil q)
/-! ### str of a text or a number -/
theorem call_str_si {X : Cx} : CallR X (.type "str") (fun xs H Q => (∃ a, xs = [.str a] ∧ Q (.str a) H) ∨ ∃ i : Int, xs = [.int i] ∧ i.natAbs.log2 < 1920 ∧ Q (.str (Str.ofString (toString i))) H) := by
  intro pins s σ H xs us Q I r h
  rcases h with h | h
  · exact SkE.call_str_str pins s σ H xs us Q I r h
  · exact call_str_int pins s σ H xs us Q I r h
end L2
namespace Sky
open PySem PySem.Spec PyProof.Rows L2 TL
/-! ### numbers as words -/
def numW (n : Nat) : Str := Str.ofString (toString ((n : Nat) : Int))
def wrOk (n : Nat) : Bool := Txt.isascii (numW n) && Txt.isdigit (numW n) && decide ((numW n).length ≤ 3) && decide (0 < (numW n).length) && (decide (numW n = "0") || decide ((numW n).cps.toList[0]? ≠ some 48))
theorem wr_ok : ∀ n, n < 256 → wrOk n = true := by decide +kernel
theorem numW_int {n : Nat} (h : n < 256) : intText? (numW n) = some ((n : Nat) : Int) := int_num (by have := numL_len (n := n) (k := 3) (by decide) (by omega); omega)
theorem numW_tl (n : Nat) : tl (numW n) = numL n := tl_num n
theorem numW_free {n s : Nat} (h : s < 48 ∨ 57 < s) : s ∉ tl (numW n) := by rw [numW_tl]; exact numL_free h
theorem numW_len {n : Nat} (h : n < 256) : (numW n).length ≤ 3 := by rw [len_tl, numW_tl]; exact numL_len (by decide) (by omega)
/-! ### how long a joined text is -/
theorem joinL_len (S : List Nat) : ∀ ps : List (List Nat), (joinL S ps).length ≤ (ps.map List.length).sum + ps.length * S.length
  | [] => Nat.zero_le _
  | [p] => by show p.length ≤ _; simp
  | p :: q :: r => by
    show (p ++ (S ++ joinL S (q :: r))).length ≤ _
    have := joinL_len S (q :: r)
    rw [List.length_append, List.length_append, List.map_cons, List.sum_cons, List.length_cons, Nat.add_mul]
    omega
theorem join_len (y : Str) (ps : List Str) : (Txt.join y ps).length ≤ (ps.map (·.length)).sum + ps.length * y.length := by
  have := joinL_len (tl y) (ps.map tl)
  rw [len_tl, join_eq, tl_join]
  rw [List.map_map, List.length_map] at this
  have e : (List.length ∘ tl) = (fun p : Str => p.length) := funext fun p => (len_tl p).symm
  rw [e, ← len_tl y] at this
  exact this
theorem sum_le {α : Type} (f : α → Nat) (b : Nat) : ∀ xs : List α, (∀ x ∈ xs, f x ≤ b) → (xs.map f).sum ≤ xs.length * b
  | [], _ => Nat.zero_le _
  | x :: xs, h => by
    have := sum_le f b xs fun y hy => h y (List.mem_cons_of_mem _ hy)
    have := h x (List.mem_cons_self ..)
    rw [List.map_cons, List.sum_cons, List.length_cons, Nat.add_mul]
    omega
/-- a sign that is in no part and not in the glue -/
theorem join_free {y : Str} {s : Nat} (hy : s ∉ tl y) : ∀ {ps : List Str}, (∀ p ∈ ps, s ∉ tl p) → s ∉ tl (Txt.join y ps) := by
  intro ps h
  rw [join_eq, tl_join]
  induction ps with
  | nil => exact List.not_mem_nil
  | cons p r ih =>
    cases r with
    | nil => exact h p (List.mem_singleton.mpr rfl)
    | cons q r =>
      intro hm
      have hm : s ∈ tl p ++ (tl y ++ joinL (tl y) ((q :: r).map tl)) := hm
      rcases List.mem_append.mp hm with g | g
      · exact h p (List.mem_cons_self ..) g
      · rcases List.mem_append.mp g with g | g
        · exact hy g
        · exact ih (fun z hz => h z (List.mem_cons_of_mem _ hz)) g
end Sky

/-! Rules of my own: what a caught exception is; how often a flat item stands in a list; the def that is handed a lambda. -/
namespace Sky
open PySem PySem.Spec PyProof.Rows L2
/-! ### isinstance(e, c), e.f: e the exception that is held, whatever its class -/
/-- the facts of a class whose instances are asked for their class -/
structure AskC (K : PySem.W.Frag) (D : Addr) : Prop where
  c : (PySem.W.clsIn K D).isSome = true
  g : PySem.W.findIn K (.ref D) "__getattribute__" = some (some (.builtin "BaseException.__getattribute__"))
  k : PySem.W.findIn K (.ref D) "__getattr__" = some none
  s : PySem.W.subIn K (.ref D) (.type "BaseException") = some true
  h : PySem.W.hasDictIn K D = true
  a : PySem.W.findIn K (.ref D) "__class__" = some (some (.builtin "object.__class__"))
  n : PySem.W.specialIn K (.builtin "object.__class__") "__get__" = some (some (.builtin "getset_descriptor.__get__"))
  t : PySem.W.takesIn K (.builtin "object.__class__") = some true
  m : PySem.W.mroIn K D (.type "object") = some true
def askB (K : PySem.W.Frag) (D : Addr) : Bool := (PySem.W.clsIn K D).isSome && (decide (PySem.W.findIn K (.ref D) "__getattribute__" = some (some (.builtin "BaseException.__getattribute__"))) && (decide (PySem.W.findIn K (.ref D) "__getattr__" = some none) && (decide (PySem.W.subIn K (.ref D) (.type "BaseException") = some true) && (PySem.W.hasDictIn K D && (decide (PySem.W.findIn K (.ref D) "__class__" = some (some (.builtin "object.__class__"))) && (decide (PySem.W.specialIn K (.builtin "object.__class__") "__get__" = some (some (.builtin "getset_descriptor.__get__"))) && (decide (PySem.W.takesIn K (.builtin "object.__class__") = some true) && decide (PySem.W.mroIn K D (.type "object") = some true))))))))
theorem askB_ok {K : PySem.W.Frag} {D : Addr} (e : askB K D = true) : AskC K D := by
  obtain ⟨e1, e⟩ := Bool.and_eq_true_iff.mp e
  obtain ⟨e2, e⟩ := Bool.and_eq_true_iff.mp e
  obtain ⟨e3, e⟩ := Bool.and_eq_true_iff.mp e
  obtain ⟨e4, e⟩ := Bool.and_eq_true_iff.mp e
  obtain ⟨e5, e⟩ := Bool.and_eq_true_iff.mp e
  obtain ⟨e6, e⟩ := Bool.and_eq_true_iff.mp e
  obtain ⟨e7, e⟩ := Bool.and_eq_true_iff.mp e
  obtain ⟨e8, e9⟩ := Bool.and_eq_true_iff.mp e
  exact ⟨e1, of_decide_eq_true e2, of_decide_eq_true e3, of_decide_eq_true e4, e5, of_decide_eq_true e6, of_decide_eq_true e7, of_decide_eq_true e8, of_decide_eq_true e9⟩
/-- what is known of the exception's dict: none, or where it stands -/
def HasD (d : Option Addr) (H : Hp) : Prop := d = none ∨ ∃ (dd : Addr) (fs : List (Str × V)), d = some dd ∧ H dd = some (.xd fs)
def rIsX (K : PySem.W.Frag) (cls : Value) (d : Option Addr) (a : Addr) : List V → Hp → VK → Prop := fun xs H Q => ∃ (D : Addr) (c : V) (cv : Value) (b : Bool), cls = .ref D ∧ AskC K D ∧ HasD d H ∧ xs = [.ref a, c] ∧ (∀ u, RelV c u → u = cv) ∧ PySem.W.kitOne K (.ref D) cv = some b ∧ Q (.bl b) H
theorem call_isX {X : Cx} {a : Addr} {cls : Value} {d : Option Addr} {oe : Obj} {pn : List (Addr × Obj)} (hz : Zc cls d oe) (hf : ∃ vs, oe.data = .fields vs) : CallR (X.suite a ((a, oe) :: pn)) (.builtin "isinstance") (rIsX X.K cls d a) := by
  intro pins s σ H xs us Q I r h
  obtain ⟨D, c, cv, b, rfl, C, hd, rfl, hcv, e, q⟩ := h
  obtain ⟨u1, u2, rfl, r1, r2⟩ := vals2 r
  obtain rfl : u1 = Value.ref a := r1
  obtain rfl := hcv _ r2
  obtain ⟨seen, _⟩ := I.pin (a, oe) (List.mem_append_left _ List.mem_cons_self)
  obtain ⟨vs, hv⟩ := hf
  obtain ⟨hz1, hz2⟩ := hz
  have nc : PySem.W.notCls oe = true := by
    unfold PySem.W.notCls
    rw [hv] <;> rfl
  obtain ⟨od, J⟩ : ∃ od, PySem.W.InstAt s.heap a oe D od := by
    rcases hd with rfl | ⟨dd, fs, rfl, hx⟩
    · exact ⟨none, seen, hz1, nc, by rw [hz2]; trivial⟩
    · obtain ⟨mA, hns, _⟩ := I.hok dd _ hx
      obtain ⟨od, ho, _⟩ := lookIn_ns hns
      exact ⟨some od, seen, hz1, nc, by rw [hz2]; exact ho⟩
  exact PySem.W.kia_one (PySem.W.kitx_exc C.c C.g C.k C.s C.a C.n C.t C.m) I.kIn J e (fun z => nomatch z) fun tk => ⟨.bl b, H, I.kept (t' := tk) fun _ _ z => z, rfl, q⟩
/-- e.f -/
def tXfX (K : PySem.W.Frag) (a : Addr) (cls : Value) (d : Option Addr) (f : Str) (te : TE) : TE := fun σ H Q => ∃ C, AskC K C ∧ PySem.W.findIn K (.ref C) f = some none ∧ tXf a cls d C f te σ H Q
theorem pe_xfX {X : Cx} {a : Addr} {oe : Obj} {cls : Value} {d : Option Addr} {pn : List (Addr × Obj)} {e : Expr} {te : TE} {pos : Pos} {n : Str} (hz : Zc cls d oe) (hf : ∃ vs, oe.data = .fields vs) (he : PE (X.suite a ((a, oe) :: pn)) e te)
    (hb : attributeBase e n X.env (eval e X.env) = eval e X.env := by rfl) : PE (X.suite a ((a, oe) :: pn)) (.Attribute e n pos) (tXfX X.K a cls d n te) where
  run := fun pins s σ H Q I ⟨C, T, no, h⟩ => (pe_xf (pos := pos) ⟨T.g, T.k, T.s, T.h⟩ no hz hf he hb).run pins s σ H Q I h
/-! ### which of ten classes a refusal is of -/
structure IsKind (K : PySem.W.Frag) (CS : Addr) (Cs : List Addr) (C : Addr) (j : Nat) : Prop where
  ask : AskC K C
  sky : PySem.W.exmOne K (.ref C) (.ref CS) = some true
  ve : PySem.W.kitOne K (.ref C) (.type "ValueError") = some true
  kit : ∀ i, i < Cs.length → PySem.W.kitOne K (.ref C) (.ref (Cs.getD i 0)) = some (decide (i = j))
  at_ : PySem.W.findIn K (.ref C) "at" = some none
  line : PySem.W.findIn K (.ref C) "line" = some none
def kindB (K : PySem.W.Frag) (CS : Addr) (Cs : List Addr) (C : Addr) (j : Nat) : Bool := askB K C && (decide (PySem.W.exmOne K (.ref C) (.ref CS) = some true) && (decide (PySem.W.kitOne K (.ref C) (.type "ValueError") = some true) && (((List.range Cs.length).all fun i => decide (PySem.W.kitOne K (.ref C) (.ref (Cs.getD i 0)) = some (decide (i = j)))) && (decide (PySem.W.findIn K (.ref C) "at" = some none) && decide (PySem.W.findIn K (.ref C) "line" = some none)))))
theorem kindB_ok {K : PySem.W.Frag} {CS : Addr} {Cs : List Addr} {C : Addr} {j : Nat} (e : kindB K CS Cs C j = true) : IsKind K CS Cs C j := by
  obtain ⟨e1, e⟩ := Bool.and_eq_true_iff.mp e
  obtain ⟨e2, e⟩ := Bool.and_eq_true_iff.mp e
  obtain ⟨e3, e⟩ := Bool.and_eq_true_iff.mp e
  obtain ⟨e4, e⟩ := Bool.and_eq_true_iff.mp e
  obtain ⟨e5, e6⟩ := Bool.and_eq_true_iff.mp e
  exact ⟨askB_ok e1, of_decide_eq_true e2, of_decide_eq_true e3, fun i hi => of_decide_eq_true (List.all_eq_true.mp e4 i (List.mem_range.mpr hi)), of_decide_eq_true e5, of_decide_eq_true e6⟩
/-! ### the head's facts -/
theorem fun_ofD {K : PySem.W.Frag} {x q : Str} {st : Stmt} {f : Addr} {fd : FuncData} (D : FunD K x q (defArgs st) (defBody st) (defScope st) [] [] f fd) : Fun K x q st f fd := by
  obtain ⟨oc, od, dV, kV, doc, pm, an, cdv, ct, osl, e, lk, hc, hd, _⟩ := D.ex
  rcases hd with ⟨_, e2⟩ | ⟨z, _⟩
  · exact ⟨⟨oc, od, kV, doc, pm, an, cdv, ct, osl, by rw [← e2]; exact e, lk, hc⟩, D.kp⟩
  · exact absurd rfl z
theorem code_ofD {K : PySem.W.Frag} {x q : Str} {a : Arguments} {b : List Stmt} {sc : Scope} {dv : List V} {kw : List (Str × V)} {p : Str × Option Str} {fd : FuncData} (D : FunD K x q a b sc dv kw (He.fAd K p) fd) : fd.code = .ref (He.codeOf K p) := by
  obtain ⟨oc, od, dV, kV, doc, pm, an, cdv, ct, osl, e, lk, hc, _, _⟩ := D.ex
  obtain ⟨c, ec⟩ := He.codeIn_ref hc
  have e2 : fd.code = .ref c := by rw [e]; exact ec
  rw [e2, He.codeOf_eq lk e2]
/-! ### how often a flat item stands in a list of flat ones -/
def rCntF (K : PySem.W.Frag) : V → List V → Hp → VK → Prop := fun x xs H Q => ∃ (p : Addr) (ys : List V) (y : V), x = .ref p ∧ xs = [y] ∧ SqL K H p ys ∧ flatV y = true ∧ ys.all flatV = true ∧ Q (.int ((ys.countP (fun z => eqV z y) : Nat) : Int)) H
theorem countU {y : V} : ∀ {ys : List V} {us : List Value}, Vals ys us → ys.all flatV = true → us.countP (eqU y) = ys.countP fun z => eqV z y
  | _, _, .nil, _ => rfl
  | z :: ys, u :: us, .cons r t, f => by
    rw [List.all_cons, Bool.and_eq_true] at f
    rw [List.countP_cons, List.countP_cons, countU t f.2, eqU_of r f.1]
theorem mt_countF {X : Cx} : MtR X "list.count" (rCntF X.K) := by
  intro pins s σ H x xs v us Q I rx rxs h
  obtain ⟨p, ys, y, rfl, rfl, hs, fy, fys, q⟩ := h
  obtain rfl : v = Value.ref p := rx
  obtain ⟨u, rfl, ru⟩ := rxs.one
  obtain ⟨its, rv, ⟨⟨cls, dd, data, sl⟩, n, ho, hc, _, hd⟩, _⟩ := I.list hs
  obtain rfl : cls = _ := hc
  obtain rfl : data = _ := hd
  refine call_meets PySem.F.slot_list_count ⟨_, ho, rfl⟩ PySem.F.entry_list_count (PySem.F.args_list_count_2 _ _) (SeqAt.list_countAt p its.toArray n dd sl u (eqU y)) ⟨ho, fun w hw => mem_eqAt ru fy rv fys w (by simpa using hw), .int ((ys.countP (fun z => eqV z y) : Nat) : Int), H, I.tok _, ⟨s.toks, ?_⟩, q⟩
  rw [List.toList_toArray, countU rv fys]
theorem mt_countFK {X : Cx} {K : PySem.W.Frag} (h : X.K = K) : MtR X "list.count" (rCntF K) := h ▸ mt_countF
theorem mt_indexK {X : Cx} {K : PySem.W.Frag} (h : X.K = K) : MtR X "list.index" (rIndex K) := h ▸ mt_index
/-! ### a def whose code object is known -/
theorem fun_okC {P : Program} {w : World} {K : PySem.W.Frag} {mg : Str → Option Value} {base : Heap} {x q : Str} {st : Stmt} {f : Addr} {fd : FuncData} {N ps : List Str} {k : Nat} {sp : Sp} {cv : Value} (F : Fun K x q st f fd) (hc : fd.code = cv) (S : FnScope N ps (defScope st)) (len : ∀ vs H Q E, sp vs H Q E → vs.length = ps.length)
    (inside : ∀ (A : Around) (outer : List Env) (s : Shared) (H : Hp) (vs : List V) (Q : VK) (E : XK), Room k (A.deeper (envOfC q (defScope st) s.heap.objs.size f cv)) → sp vs H Q E → ∃ t, PSs (cxOf CX0 P w K mg base N q (defScope st) f cv A outer s H E).nox (defBody st) t ∧ t { nx := fun _ H' => Q .non H', rt := Q } (start N vs) H) :
    FnOk P w K mg base CX0 (k + 1) f fd ps sp := by
  obtain ⟨oc, od, kV, doc, pm, an, cdv, ct, osl, rfl, lk, known⟩ := F.ex
  obtain rfl : cdv = cv := hc
  refine fn_of lk known S len fun A outer s H vs Q E hr h => ?_
  obtain ⟨t, body, done⟩ := inside A outer s H vs Q E hr h
  exact ⟨t, body.nox, done⟩
/-! ### try: a() / except X as n: .., a the lambda that was handed in -/
/-- what a() does, in the def at the context Z -/
def Acts (Z : Cx) (f c : Addr) (q : Str) (a : Str) (tl : XK → Hp → VK → Prop) : Prop := ∀ (W : WX) (pn : List (Addr × Obj)) (xe : Value → Shared → Prop) (E : XK) (p1 p2 : Pos), Takes (Z.tr pn xe) W → (∀ cls d σ' H', E cls d H' → W cls d σ' H') →
  PE (Z.tr pn xe) (.Call (.Name a p1) [] [] p2) (fun σZ HZ Q => σZ[0]? = some (some (.ref f)) ∧ HZ c = some (LamX.CodeO c q) ∧ tl E HZ Q)
def tTryK (K : PySem.W.Frag) (n : Nat) (cB : Value) (i : Nat) (ts : Addr → Value → Option Addr → L2.TS) (f c : Addr) (q : Str) (tl : XK → Hp → VK → Prop) : L2.TS := fun D σ H =>
  ∃ E : XK, (∀ cls d σ' H', E cls d H' → σ'.length = n → wAs K cB i ts (fun _ _ _ _ => False) D cls d σ' H') ∧ σ[0]? = some (some (.ref f)) ∧ H c = some (LamX.CodeO c q) ∧ tl E H fun _ H' => D.nx σ H'
/-- as many slots as ever -/
theorem takes_len {Z : Cx} {W : WX} (tk : Takes Z W) : Takes Z fun cls d σ H => σ.length = Z.N.length → W cls d σ H := fun u s' ⟨a, B, sI, pins, σ, H, cls, d, e, I, nb, up, sky, na, os, ag, w⟩ =>
  tk u s' ⟨a, B, sI, pins, σ, H, cls, d, e, I, nb, up, sky, na, os, ag, w I.len⟩
theorem ps_tryK {Z : Cx} {x n a q : Str} {cB : Value} {i : Nat} {suite : List Stmt} {first : Stmt} {p1 p2 p3 p4 p5 p6 : Pos} {ts : Addr → Value → Option Addr → L2.TS} {f c : Addr} {tl : XK → Hp → VK → Prop} (act : Acts Z f c q a tl) (one : Z.stack = Z.env :: Z.outer) (two : Z.env.frame = some Z.env.locals) (nd : Z.N.Nodup) (at_ : Z.N[i]? = some n) (own : Z.env.kindOf n = some .local) (named : Names Z x cB)
    (caught : ∀ (b : Addr) (oe : Obj) (cls : Value) (d : Option Addr) (pn : List (Addr × Obj)), Zc cls d oe → (∃ vs, oe.data = .fields vs) → PSs (Z.suite b ((b, oe) :: pn)) (first :: suite) (ts b cls d)) :
    PS Z (.Try [.Expr (.Call (.Name a p1) [] [] p2) p3] [.ExceptHandler (some (.Name x p4)) (some n) (first :: suite) p5] [] [] p6) (tTryK Z.K Z.N.length cB i ts f c q tl) := by
  have all := ps_try_as (X := Z) (pos := p6) (pos' := p5) (np := p4) (tb := fun W D σ H => ∃ E : XK, (∀ cls d σ' H', E cls d H' → σ'.length = Z.N.length → W cls d σ' H') ∧ σ[0]? = some (some (.ref f)) ∧ H c = some (LamX.CodeO c q) ∧ tl E H fun _ H' => D.nx σ H') (body := [.Expr (.Call (.Name a p1) [] [] p2) p3]) one two nd at_ own named LamX.takes0 (fun W pn xe tk _ => ⟨fun pins s σ H D I h => ?_⟩) caught
  · exact all
  · obtain ⟨E, hE, h1, h2, h3⟩ := h
    exact (pss_one (ps_expr (pos := p3) (act _ pn xe E p1 p2 (takes_len tk) hE))).run pins s σ H D I ⟨h1, h2, h3⟩
end Sky

/-! Rules of my own: a def of a class that says super().__init__(x), the class over heirs of ValueError. -/
namespace Sky
open PySem PySem.Spec PyProof.Rows L2 TL
section
open PySem.W PySem.Calls
variable {prog : Program} {w : World} {A : Around} {EE : Value → Shared → Prop} {hz : Heap} {gz : Array GenState} {dz : Drawn} {tz : Nat} {oz : OsState}
variable {cn cq : Str} {CC NN : Addr} {bas bam : List Value} {hd1 : Bool} {sln : List Str} {subs : List Value} {ab1 : Bool} {col1 : Option Bool} {ddz : Option Addr}
variable {a0 a1 a2 a3 a5 : Option Value}
abbrev veI : String := "ValueError.__init__"
theorem mw_kind : (Value.type "method-wrapper" == Value.type "method" || Value.type "method-wrapper" == Value.type "builtin_function_or_method" || Value.type "method-wrapper" == Value.type "method-wrapper") = true := by decide
/-- the bound __init__ is called: its arguments are laid down anew -/
theorem call_mw {mw ex tx : Addr} {args : List Value} {Q : Value → Shared → Prop}
    (cls : hz.get? CC = some (excClassObj cn cq CC NN bas bam hd1 sln subs ab1 col1 ddz a0 a1 a2 a3 a5 "ValueError.__new__")) (hex : hz.get? ex = some (HandSPX.excO CC tx)) (hmw : hz.get? mw = some (kxs_mw veI ex)) (few : args.length ≤ sizeLine)
    (fin : ∀ hy ty, (∀ c v, c ≠ ex → hz.get? c = some v → hy.get? c = some v) → hy.get? ex = some (HandSPX.excO CC ty) → Q .none ⟨hy, gz, dz, tz, oz⟩) :
    wpAny (model prog w) A (call (.ref mw) args) Q EE ⟨hz, gz, dz, tz, oz⟩ := by
  refine wpAny_call (codeAny_of_tree (show wpAny _ A.in1 (callAny (.ref mw) ⟨args, []⟩) _ _ _ from ?_))
  simp only [callAny]
  refine wpAny_bind (wpAny_load hmw ?_)
  simp only [kxs_mw, mw_kind, if_true]
  refine W.KFB.if_so (by decide) (wpAny_bind (check_bound_init F.excBase_ValueError.toExcCallFacts cls hex rfl (wpAny_bind (wpAny_pure (wpAny_pure ?_)))))
  refine ⟨plainId_quiet F.excBase_ValueError.init.plain _, codeAny_builtin F.excBase_ValueError.initEntry ?_⟩
  rw [Around.under_plainId F.excBase_ValueError.init.plain _]
  wp_walk
  refine fin _ hz.objs.size (fun c v ne e => (Heap.get?_update_other _ _ (Ne.symm ne)).trans (Heap.get?_push_of_some _ e)) ?_
  exact (Heap.get?_update_self _ (Heap.get?_push_of_some _ hex) rfl).trans rfl
end
section
/-! ### the frame of such a def -/
variable {P : Program} {w : World} {base : Heap} {K : PySem.W.Frag} {mg : Str → Option Value}
/-- the context of the body of a def of two parameters that closes over __class__ -/
def initCx (P : Program) (w : World) (K : PySem.W.Frag) (mg : Str → Option Value) (base : Heap) (N : List Str) (qual : Str) (scope : Scope) (f : Addr) (cdv : Value) (cc : Addr) (A : Around) (outer : List Env) (s : Shared) (H : Hp) (E : XK) : Cx where
  prog := P
  w := w
  K := K
  mg := mg
  base := base
  A := A.deeper (PySem.W.ksEnv qual scope s.heap.objs.size f cdv cc)
  N := N
  s_0 := s
  H_0 := H
  env := PySem.W.ksEnv qual scope s.heap.objs.size f cdv cc
  outer := outer
  stack := PySem.W.ksEnv qual scope s.heap.objs.size f cdv cc :: outer
  ex := []
  fn := fun _ => false
  calm := true
  pn := []
  xe := fun e s' => wpAny (model P w) (A.deeper (PySem.W.ksEnv qual scope s.heap.objs.size f cdv cc)) (leaving (PySem.W.ksEnv qual scope s.heap.objs.size f cdv cc) e) (fun _ s'' => CX0 outer H s E e s'') (fun e' s'' => CX0 outer H s E e' s'') s'
/-- the names of such a def: two parameters, no cells of its own, __class__ from around -/
structure ScC (p0 p1 : Str) (sc : Scope) : Prop where
  kind : sc.kind = .function
  co : sc.isCoroutine = false
  gen : sc.isGenerator = false
  ne : p0 ≠ p1
  l0 : sc.names.lookup p0 = some .local
  l1 : sc.names.lookup p1 = some .local
  nocell : ∀ z ∈ sc.names, z.2 ≠ .cell
  free : ∀ z ∈ sc.names, z.2 = .free → z.1 = "__class__"
  cls : sc.names.lookup ("__class__" : Str) = some .free
  sup : sc.names.lookup ("super" : Str) = some .globalImplicit
theorem init_start {p0 p1 qual : Str} {scope : Scope} {f cc : Addr} {cdv : Value} {A : Around} {outer : List Env} {s : Shared} {H : Hp} {E : XK} {v0 v1 : V} {u0 u1 : Value} {h₁ : Heap} {tk : Nat} {oc : Obj} {cv : Option Value} (S : ScC p0 p1 scope) (hd : A.handled = none) (e0 : Env0 P w K mg base A outer s H)
    (r0 : RelV v0 u0) (r1 : RelV v1 u1) (hc : base.get? cc = some oc) (hcv : oc.data = .cell cv) (hns : h₁.Ns s.heap.objs.size fun y => [(p0, u0), (p1, u1)].reverse.lookup y) (kp : ∀ b o, s.heap.get? b = some o → h₁.get? b = some o) :
    Inv (initCx P w K mg base [p0, p1] qual scope f cdv cc A outer s H E) [] [some v0, some v1] H { s with heap := h₁, toks := tk } := by
  have nexA : ∀ b : Addr, b ∉ (initCx P w K mg base [p0, p1] qual scope f cdv cc A outer s H E).ex := fun b z => absurd (show b ∈ ([] : List Addr) from z) (by simp)
  have one : ∀ {y : Str} {c : Addr}, (initCx P w K mg base [p0, p1] qual scope f cdv cc A outer s H E).env.cells.lookup y = some c → c = cc ∧ y = "__class__" := fun {y c} e => by
    have e : [(("__class__" : Str), cc)].lookup y = some c := e
    rw [List.lookup_cons] at e
    split at e
    · rename_i h
      exact ⟨(Option.some.inj e).symm, eq_of_beq h⟩
    · cases e
  have cell1 : h₁.IsCell cc cv := ⟨oc, kp _ _ (e0.bs _ _ hc).1, hcv⟩
  refine ⟨⟨e0.mod, S.kind, rfl, rfl, Nat.le_refl _, fun y z c e1 e2 => (one e1).2.trans (one e2).2.symm, fun y hy => ?_, fun y c z _ => ?_, fun _ => hd, Around.frames_deeper e0.frames, .inr ⟨rfl, rfl⟩, fun b z => absurd z (nexA b), e0.bs, e0.bsz, fun b _ _ => nexA b, fun b z => absurd z (nexA b), e0.funs, e0.frf⟩,
    rfl, e0.bare, Un.kept kp, ⟨_, hns, fun i y v e1 e2 e3 => ?_⟩, fun y c e => ?_, e0.hok.fresh (Nat.le_refl _), fun y c e => ?_, fun q hq => absurd (show q ∈ ([] : List (Addr × Obj)) ++ [] from hq) (by simp), e0.hok.kept kp, rfl⟩
  · have kd : scope.names.lookup y = some .cell ∨ scope.names.lookup y = some .free := hy
    rcases kd with kd | kd
    · exact absurd rfl (S.nocell _ (PySem.mem_of_lookup kd))
    · have := S.free _ (PySem.mem_of_lookup kd) rfl
      have this : y = "__class__" := this
      subst this
      exact ⟨cc, rfl⟩
  · have z : false = true := z
    cases z
  · match i with
    | 0 =>
      cases e1
      cases e2
      refine ⟨u0, r0, .inl ⟨S.l0, ?_⟩⟩
      show [(p1, u1), (p0, u0)].lookup p0 = some u0
      rw [List.lookup_cons, show (p0 == p1) = false from beq_eq_false_iff_ne.mpr S.ne]
      exact List.lookup_cons_self
    | 1 =>
      cases e1
      cases e2
      refine ⟨u1, r1, .inl ⟨S.l1, ?_⟩⟩
      show [(p1, u1), (p0, u0)].lookup p1 = some u1
      exact List.lookup_cons_self
    | i + 2 => cases e1
  · rw [(one e).1]
    exact ⟨cv, cell1⟩
  · rw [(one e).1]
    exact (e0.bs _ _ hc).2
end
section
variable {P : Program} {w : World} {base : Heap} {K : PySem.W.Frag} {mg : Str → Option Value}
/-- what the written part says of such a def: closed over its class -/
structure SupF (K : PySem.W.Frag) (file : Str) (C : Addr) (x qual : Str) (st : Stmt) (f : Addr) (fd : FuncData) : Prop where
  ex : ∃ (oc : Value) (od : Option Addr) (kV doc pm : Value) (an : Option Addr) (cda cc : Addr) (ct : Value) (osl : Array (Option Value)) (ccl : Value) (cdd : Option Addr) (vs : Array Value) (ccs : Array (Option Value)) (tf : Tok) (cl : Value) (cld : Option Addr) (csl : Array (Option Value)),
    fd = PySem.W.ksFn x qual (defArgs st) (defBody st) (defScope st) .none kV doc pm an (.ref cda) ct cc ∧ K.lookup f = some ⟨oc, od, .func fd, osl⟩ ∧ PySem.W.codeIn K (.ref cda) qual = true ∧ K.lookup cda = some ⟨ccl, cdd, .fields vs, ccs⟩ ∧ vs[2]? = some (.str file tf) ∧ K.lookup cc = some ⟨cl, cld, .cell (some (.ref C)), csl⟩
  ty : PySem.W.typeIn K (.ref f) = some (.type "function")
/-- what it says of the class -/
structure SupC (K : PySem.W.Frag) (C : Addr) : Prop where
  oex : OexC K C
  cl : (PySem.W.clsIn K C).isSome = true
  sup : PySem.W.ks_superIn K C C "__init__" = some (some (.builtin veI))
  sub : PySem.W.subIn K (.ref C) (.type "ValueError") = some true
  op : PySem.W.nsIn K PySem.cStatics "thirdparty.any" = some none
  me : PySem.W.mroIn K C (.ref C) = some true
theorem interactive_fn {env : Env} (h : env.scope.kind = .function) : interactive env = false := by
  unfold interactive
  rw [h]
  rfl
theorem inv_pin {X : Cx} {σ : L2.St} {H : Hp} {s : Shared} {u : Addr} {o : Obj} (I : Inv X [] σ H s) (hg : s.heap.get? u = some o) (hn : H u = none) (hl : u ≠ X.env.locals) (hf : u ∉ X.fs) (hc : ∀ v, o.data ≠ .cell v) : Inv X [(u, o)] σ H s :=
  ⟨I.ok, I.os, I.bare, I.base, I.loc, I.cell, I.free, I.freeC, fun p hp => by
    rcases List.mem_append.mp hp with old | new
    · exact I.pin p (List.mem_append_left _ old)
    · rw [List.mem_singleton.mp new]; exact ⟨hg, hn, hl, hf, hc⟩, I.hok, I.len⟩
theorem inv_free {X : Cx} {σ : L2.St} {H : Hp} {s : Shared} {ps : List (Addr × Obj)} (I : Inv X ps σ H s) : Inv X [] σ H s :=
  ⟨I.ok, I.os, I.bare, I.base, I.loc, I.cell, I.free, I.freeC, fun p hp => I.pin p (by rw [List.append_nil] at hp; exact List.mem_append_left _ hp), I.hok, I.len⟩
/-- super().__init__(e), self.f = p1: the field stands behind -/
def sp_supI (C : Addr) (fld : Str) : Sp := fun vs H Q _ => ∃ (a : Addr) (i : Int), vs = [.ref a, .int i] ∧ (0 ≤ i ∧ i < 100000) ∧ H a = some (exo a C none) ∧ ∀ d, H d = none → d ≠ a → Q .non (upd (upd H d (exd d [(fld, .int i)])) a (exo a C (some d)))
theorem sup_ok {file x qual p1 fld sa sb : Str} {st : Stmt} {C f : Addr} {fd : FuncData} {k : Nat} {q0 q1 q2 q3 q4 q5 q6 q7 q8 q9 qa qb qc qd : Pos} {ja jb : Nat} (F : SupF K file C x qual st f fd) (T : SupC K C) (S : ScC "self" p1 (defScope st))
    (hp : ((defArgs st).posonlyargs ++ (defArgs st).args).head?.map (·.arg) = some "self")
    (hbd : defBody st = [.Expr (.Call (.Attribute (.Call (.Name "super" q0) [] [] q1) "__init__" q2) [.JoinedStr [.Constant (.str sa) ja q3, .FormattedValue (.Name p1 q4) (-1) none q5, .Constant (.str sb) jb q6] q7] [] q8) q9, .Assign [.Attribute (.Name "self" qa) fld qb] (.Name p1 qd) qc])
    (hno : PySem.W.findIn K (.ref C) fld = some none) (hfile : ((P.main.file : Str) == file) = true) (htop : (P.main.scope.names.lookup ("super" : Str)).isSome = false) (hsup : mg "super" = none) (hl : sa.length + sb.length ≤ 1000)
    (hev : ∀ env : Env, ∃ pl : Sem Bool, eval (.Call (.Attribute (.Call (.Name "super" q0) [] [] q1) "__init__" q2) [.JoinedStr [.Constant (.str sa) ja q3, .FormattedValue (.Name p1 q4) (-1) none q5, .Constant (.str sb) jb q6] q7] [] q8) env = (do
      let ov ← attributeBase (.Call (.Name "super" q0) [] [] q1) "__init__" env (eval (.Call (.Name "super" q0) [] [] q1) env)
      standAt q2.atName
      let (g, fst1) ← holding [ov] (getMethod ov "__init__" pl)
      callWith q8 g fst1 (backTo q8 (starEach [.JoinedStr [.Constant (.str sa) ja q3, .FormattedValue (.Name p1 q4) (-1) none q5, .Constant (.str sb) jb q6] q7] env)) []))
    (hsw : ∀ env : Env, swapsWith (.Call (.Attribute (.Call (.Name "super" q0) [] [] q1) "__init__" q2) [.JoinedStr [.Constant (.str sa) ja q3, .FormattedValue (.Name p1 q4) (-1) none q5, .Constant (.str sb) jb q6] q7] [] q8) none q9.line env = pure false) (hsw2 : ∀ env : Env, swapsWith (.Name p1 qd) (some (.Attribute (.Name "self" qa) fld qb)) qc.line env = pure false) (hd1 : (p1 == ("__debug__" : Str)) = false) (hc1 : (p1 == ("__classdict__" : Str)) = false) :
    FnOk P w K mg base CX0 (k + 1) f fd ["self", p1] (sp_supI C fld) := by
  obtain ⟨oc, od, kV, doc, pm, an, cda, cc, ct, osl, ccl, cdd, vs, ccs, tf, cl, cld, csl, rfl, lk, hcd, lcd, hvs, lcc⟩ := F.ex
  refine ⟨fun vs H Q E h => by obtain ⟨_, _, rfl, _⟩ := h; rfl, fun A outer s H args us vs Q E hr e0 hb r hsp => ?_⟩
  obtain ⟨a, i, rfl, hi, ha, fin⟩ := hsp
  cases r with
  | @cons _ u0 _ ur ra rw' =>
    cases rw' with
    | @cons _ u1 _ ur1 rb rw'' =>
      cases rw''
      have KX : K.In s.heap := e0.mod.kin.keeps fun c v q => (e0.bs c v q).1
      have lim : s.heap.NoLimit := e0.mod.nolimit.keeps fun c v q => (e0.bs c v q).1
      refine PySem.ks_codeAny_call_defAt (body := defBody st) (binds := [(("self" : Str), u0), (p1, u1)]) hr.depth (KX _ _ lk) rfl lim (PySem.W.codeRec_of KX hcd) rfl hb S.nocell (fun y hy => ?_) (fun h₀ hns keep => ?_) S.co S.gen S.kind
      · rcases List.mem_cons.mp hy with e | e
        · rw [e]; exact S.l0
        · rw [List.mem_singleton.mp e]; exact S.l1
      have hc := e0.mod.kin _ _ lcc
      have I : Inv (initCx P w K mg base ["self", p1] qual (defScope st) f (.ref cda) cc A outer s H E) [] [some (.ref a), some (.int i)] H { s with heap := h₀, toks := s.toks + 2 } := init_start S hr.hd e0 ra rb hc rfl hns keep
      obtain rfl : u0 = .ref a := ra
      obtain ⟨nm, q, N, bs, bm, sn, sub, ab, col, dd, k0, k1, k2, k3, k5, hC, hbm⟩ := T.oex.cls
      obtain ⟨cd, hcd2⟩ := Option.isSome_iff_exists.mp T.cl
      obtain ⟨oD, hoD, hoDd⟩ : ∃ oD, K.lookup C = some oD ∧ oD.data = .cls cd := by
        have h := hcd2
        unfold PySem.W.clsIn at h
        split at h
        · rename_i c d cd' sl ho
          cases h
          exact ⟨_, ho, rfl⟩
        · cases h
      have KI := I.kIn
      obtain ⟨t1, hat⟩ := exo_at I.hok ha
      obtain ⟨mb, hb1, hb2⟩ := e0.mod.blt
      have hsl : ((defArgs st).posonlyargs ++ (defArgs st).args).head?.map (·.arg) = some "self" := hp
      obtain ⟨ar, har, harn⟩ := Option.map_eq_some_iff.mp hsl
      show PySem.wpAt (model P w) (initCx P w K mg base ["self", p1] qual (defScope st) f (.ref cda) cc A outer s H E).A (.func (defBody st) (initCx P w K mg base ["self", p1] qual (defScope st) f (.ref cda) cc A outer s H E).env) (execs (defBody st) (initCx P w K mg base ["self", p1] qual (defScope st) f (.ref cda) cc A outer s H E).env) _ _ _
      rw [hbd]
      obtain ⟨pl, hpl⟩ := hev (initCx P w K mg base ["self", p1] qual (defScope st) f (.ref cda) cc A outer s H E).env
      refine PySem.ks_wpAt_execs_cons (PySem.ks_wpAt_Expr_any (PySem.ks_wpAt_MethodCall ?_ hpl) (interactive_fn S.kind) (hsw _))
      refine PySem.ks_wpAt_super_base (env := (initCx P w K mg base ["self", p1] qual (defScope st) f (.ref cda) cc A outer s H E).env) S.sup S.cls (by decide +kernel) rfl (KI _ _ lk) rfl har rfl (KI _ _ lcd) rfl hvs hfile htop ?_
      refine PySem.W.ks_loadName_global S.kind S.sup (PySem.Calls.loadGlobal_builtin (env := (initCx P w K mg base ["self", p1] qual (defScope st) f (.ref cda) cc A outer s H E).env) (e0.mod.glob.keeps I.bk) hsup (hb1.keeps I.bk) ((hb2 _ (by decide +kernel)).trans (by decide +kernel)) ⟨rfl, ?_⟩)
      refine wpAny_loadName_free S.kind S.cls rfl ⟨_, KI _ _ lcc, rfl⟩ ?_
      rw [harn]
      refine wpAny_loadName_local S.kind S.l0 hns (v := .ref a) ?_ ?_
      · show [(p1, u1), (("self" : Str), Value.ref a)].lookup ("self" : Str) = some (Value.ref a)
        rw [List.lookup_cons, show (("self" : Str) == p1) = false from beq_eq_false_iff_ne.mpr S.ne]
        exact List.lookup_cons_self
      refine PySem.ks_wpAny_isType_cls (KI _ _ hoD) hoDd ⟨rfl, ?_⟩
      have hxC : a ≠ C := PySem.W.ks_ne (K := K) KI (x := a) (C := C) (odx := none) ⟨hat, rfl, rfl, trivial⟩ hcd2
      refine PySem.ks_wpAny_call_super (KI _ _ hoD) hoDd hat rfl (fun c e => by cases e) (PySem.W.looks_mroIn KI T.me) fun h2 e2 k2 => ?_
      have I2 : Inv (initCx P w K mg base ["self", p1] qual (defScope st) f (.ref cda) cc A outer s H E) [] [some (.ref a), some (.int i)] H ⟨h2, s.gens, s.drawn, s.toks + 2, s.os⟩ := I.kept (t' := s.toks + 2) k2
      have KI2 : K.In h2 := I2.kIn
      obtain ⟨t2, hat2⟩ := exo_at I2.hok ha
      have hal : PySem.W.alongIn K "__init__" ((cd.mro.dropWhile (· != .ref C)).drop 1) = some (some (.builtin veI)) := by
        have h := T.sup
        unfold PySem.W.ks_superIn at h
        rw [hcd2] at h
        exact h
      refine PySem.W.kxs_getMethod PySem.W.kxs_ValueError e2 (PySem.W.looks_opaque KI2 T.op) (l₀ := cd.mro) (fun A Q E s k q => wpAny_bind ((PySem.W.looks_clsIn KI2 hcd2) A _ E s k (wpAny_pure q))) rfl KI2 hal ((PySem.W.InstAt.type (h := h2) (x := a) (C := C) (od := none) ⟨hat2, rfl, rfl, trivial⟩).andThen (PySem.W.looks_subIn KI2 T.sub)) hxC (by decide +kernel) ?_
      have hget : (h2.push (PySem.W.kxs_mw "ValueError.__init__" a)).get? h2.objs.size = some (PySem.W.kxs_mw "ValueError.__init__" a) := Heap.get?_push_at rfl rfl
      have I3 : Inv (initCx P w K mg base ["self", p1] qual (defScope st) f (.ref cda) cc A outer s H E) [] [some (.ref a), some (.int i)] H ⟨h2.push (PySem.W.kxs_mw "ValueError.__init__" a), s.gens, s.drawn, s.toks + 2 + 1, s.os⟩ := I2.kept (t' := s.toks + 2 + 1) fun b o e => Heap.get?_push_of_some _ e
      have I4 := inv_pin I3 hget (I2.hok.fresh (Nat.le_refl _)) (fun z => Nat.lt_irrefl _ (z ▸ I2.lt)) (I2.nofs (Nat.le_refl _)) (fun v z => by cases z)
      have hlen5 : (Str.ofString (toString i)).length ≤ 5 := by
        obtain ⟨n, rfl⟩ := Int.eq_ofNat_of_zero_le hi.1
        have h := TL.numL_len (n := n) (k := 5) (by decide) (by omega)
        rw [len_tl, tl_num]
        exact h
      have hap : ∀ x y : Str, (x ++ y).length = x.length + y.length := fun x y => by rw [len_tl, tl_append, List.length_append, ← len_tl, ← len_tl]
      have hlog : i.natAbs.log2 < 1920 := by
        by_cases h0 : i.natAbs = 0
        · rw [h0]; decide
        · have := (Nat.log2_lt h0 (k := 17)).mpr (by omega)
          omega
      refine PySem.W.kxs_callWith (i := "ValueError.__init__") (x := a) (by rfl) (PySem.Calls.evalArgs_plain (thn ((pa_cons (pe_joined (PJ.cons pe_str (PJ.cons (pe_fmt (pv 1 rfl (Or.inl S.l1) hd1 hc1)) (PJ.cons pe_str PJ.nil)))) pa_nil).run q8 _ _ _ H (fun vs H1 => H1 = H ∧ vs.length = 1) I4 ?_) fun us s1 hs => ?_))
      · have hz : (1000 : Nat) + 5 ≤ sizeLine := by decide
        have z0 : (Str.empty).length = 0 := rfl
        refine ⟨sa, rfl, by rw [hap]; omega, _, rfl, .inr ⟨i, rfl, hlog, _, rfl, by rw [hap, hap]; omega, sb, rfl, by rw [hap, hap, hap]; omega, rfl, rfl⟩⟩
      · obtain ⟨vs, H1, I5, r5, e5, l5⟩ := hs
        subst e5
        have hu5 := (I5.pin _ (List.mem_append_right _ (List.mem_singleton.mpr rfl))).1
        refine ⟨hu5, ?_⟩
        obtain ⟨hp5, g5, d5, t5, os5⟩ := s1
        obtain ⟨t6, hat5⟩ := exo_at I5.hok ha
        have hlu : us.length ≤ sizeLine := by
          rw [← Paired.length r5, l5]
          decide
        refine call_mw (I5.kIn _ _ hC) hat5 hu5 hlu fun h' t2 k hx => ?_
        have J := (inv_free I5).write (t' := t5) (x := a) (e := a) (o := exo a C none) (by rw [ha]; exact True.intro) (.inl rfl) k ⟨_, hx⟩ (exo_ok hx)
        have eu : upd H1 a (exo a C none) = H1 := by
          funext b
          by_cases hb : b = a
          · rw [hb, upd_same, ha]
          · rw [upd_ne hb]
        rw [eu] at J
        show PySem.wpAt (model P w) (initCx P w K mg base ["self", p1] qual (defScope st) f (.ref cda) cc A outer s H1 E).A _ (execs [.Assign [.Attribute (.Name "self" qa) fld qb] (.Name p1 qd) qc] (initCx P w K mg base ["self", p1] qual (defScope st) f (.ref cda) cc A outer s H1 E).env) _ _ _
        refine PySem.wpAt_of_wpAny ?_
        have pse : PSs (initCx P w K mg base ["self", p1] qual (defScope st) f (.ref cda) cc A outer s H1 E) [.Assign [.Attribute (.Name "self" qa) fld qb] (.Name p1 qd) qc] (tOst K fld (tVar 0) (tVar 1)) := pss_one (ps_ost (pv 0 rfl (Or.inl S.l0)) (pv 1 rfl (Or.inl S.l1) hd1 hc1) (hsw2 _))
        refine wpAny_mono (pse.run [] _ [some (.ref a), some (.int i)] H1 { nx := fun _ H' => Q .non H', rt := Q } J ⟨_, rfl, _, rfl, a, C, rfl, T.oex, hno, .inl ⟨ha, fun dx hdx ne => fin dx hdx ne⟩⟩) (fun fl s' hs => ?_) fun e s' hs => hs
        have fin2 : ∀ {σ' : L2.St} {H' : Hp} {v : V} {u : Value}, Inv (initCx P w K mg base ["self", p1] qual (defScope st) f (.ref cda) cc A outer s H1 E) [] σ' H' s' → RelV v u → Q v H' → CE outer P w H1 s Q u s' := fun {σ' H' v u} J rv q => ⟨v, H', J.os, J.bare, J.base, J.hok, rv, q⟩
        cases fl with
        | ret u =>
          obtain ⟨v, σ', H', J2, rv, q⟩ := hs
          exact fin2 J2 rv q
        | next =>
          obtain ⟨σ', H', J2, q⟩ := hs
          exact fin2 (v := V.non) (u := Value.none) J2 rfl q
        | brk =>
          obtain ⟨_, _, _, q⟩ := hs
          exact False.elim q
        | cont =>
          obtain ⟨_, _, _, q⟩ := hs
          exact False.elim q
end
/-! ### the facts, as a test over the written part -/
structure SupT where
  a : Str
  b : Str
  sa : Str
  c : Str
  sb : Str
  d : Str
  e : Str
  g : Str
  ja : Nat
  jb : Nat
  n : Int
  q0 : Pos
  q1 : Pos
  q2 : Pos
  q3 : Pos
  q4 : Pos
  q5 : Pos
  q6 : Pos
  q7 : Pos
  q8 : Pos
  q9 : Pos
  qa : Pos
  qb : Pos
  qc : Pos
  qd : Pos
  deriving DecidableEq
def SupT.body (t : SupT) : List Stmt := [.Expr (.Call (.Attribute (.Call (.Name t.a t.q0) [] [] t.q1) t.b t.q2) [.JoinedStr [.Constant (.str t.sa) t.ja t.q3, .FormattedValue (.Name t.c t.q4) t.n none t.q5, .Constant (.str t.sb) t.jb t.q6] t.q7] [] t.q8) t.q9, .Assign [.Attribute (.Name t.d t.qa) t.e t.qb] (.Name t.g t.qd) t.qc]
def exBody : List Stmt → Option SupT
  | [.Expr (.Call (.Attribute (.Call (.Name a q0) [] [] q1) b q2) [.JoinedStr [.Constant (.str sa) ja q3, .FormattedValue (.Name c q4) n none q5, .Constant (.str sb) jb q6] q7] [] q8) q9, .Assign [.Attribute (.Name d qa) e qb] (.Name g qd) qc] =>
    some ⟨a, b, sa, c, sb, d, e, g, ja, jb, n, q0, q1, q2, q3, q4, q5, q6, q7, q8, q9, qa, qb, qc, qd⟩
  | _ => none
theorem exBody_mk {b : List Stmt} {t : SupT} (h : exBody b = some t) : b = t.body := by
  unfold exBody at h
  split at h
  · cases h
    rfl
  · cases h
def exPrm : Arguments → Option (Str × Pos × Str × Pos)
  | ⟨[], [⟨a, none, p⟩, ⟨b, none, q⟩], none, [], [], none, []⟩ => some (a, p, b, q)
  | _ => none
theorem exPrm_mk {s : Arguments} {t : Str × Pos × Str × Pos} (h : exPrm s = some t) : s = ⟨[], [⟨t.1, none, t.2.1⟩, ⟨t.2.2.1, none, t.2.2.2⟩], none, [], [], none, []⟩ := by
  unfold exPrm at h
  split at h
  · cases h
    rfl
  · cases h
def fileB (file : Str) : Option Value → Bool
  | some (.str fl _) => decide (fl = file)
  | _ => false
def clsB (C : Addr) : Option Obj → Bool
  | some ⟨_, _, .cell (some v), _⟩ => decide (v = Value.ref C)
  | _ => false
def cdB (file : Str) : Option Obj → Bool
  | some ⟨_, _, .fields vs, _⟩ => fileB file vs[2]?
  | _ => false
def cellB (K : PySem.W.Frag) (file : Str) (C : Addr) (qual : Str) : List (Str × Addr) → Value → Bool
  | [(n, cc)], .ref cda => decide (n = "__class__") && (PySem.W.codeIn K (.ref cda) qual && (cdB file (K.lookup cda) && clsB C (K.lookup cc)))
  | _, _ => false
def supFB (K : PySem.W.Frag) (file : Str) (C : Addr) (x qual : Str) (st : Stmt) (f : Addr) : Bool := decide (PySem.W.typeIn K (.ref f) = some (.type "function")) && (match K.lookup f with
  | some ⟨_, _, .func ⟨n1, n2, n3, .stmts n4, n5, n6, n7, n8, _, _, _, _, n13, _, n15⟩, _⟩ =>
    decide (n1 = x) && (decide (n2 = qual) && ((decide (exPrm n3 = exPrm (defArgs st)) && (exPrm (defArgs st)).isSome) && ((decide (exBody n4 = exBody (defBody st)) && (exBody (defBody st)).isSome) && (decide (n5 = defScope st) && (decide (n6 = mainGlobals) && (decide (n8 = Value.none) && (decide (n15 = builtinsNs) && cellB K file C qual n7 n13)))))))
  | _ => false)
theorem supFB_ok {K : PySem.W.Frag} {file : Str} {C : Addr} {x qual : Str} {st : Stmt} {f : Addr} (h : supFB K file C x qual st f = true) : ∃ fd, SupF K file C x qual st f fd := by
  unfold supFB at h
  rw [Bool.and_eq_true_iff] at h
  obtain ⟨ht, h⟩ := h
  split at h
  · rename_i oc od n1 n2 n3 n4 n5 n6 n7 n8 n9 n10 n11 n12 n13 n14 n15 osl lk
    simp only [Bool.and_eq_true] at h
    obtain ⟨h1, h2, ⟨h3, h3s⟩, ⟨h4, h4s⟩, h5, h6, h8, h15, h⟩ := h
    obtain ⟨t3, e3⟩ := Option.isSome_iff_exists.mp h3s
    obtain ⟨t4, e4⟩ := Option.isSome_iff_exists.mp h4s
    have p3 : n3 = defArgs st := (exPrm_mk ((of_decide_eq_true h3).trans e3)).trans (exPrm_mk e3).symm
    have p4 : n4 = defBody st := (exBody_mk ((of_decide_eq_true h4).trans e4)).trans (exBody_mk e4).symm
    have p1 := of_decide_eq_true h1
    have p2 := of_decide_eq_true h2
    have p5 := of_decide_eq_true h5
    have p6 := of_decide_eq_true h6
    have p8 := of_decide_eq_true h8
    have p15 := of_decide_eq_true h15
    unfold cellB at h
    split at h
    · rename_i nn cc cda
      simp only [Bool.and_eq_true] at h
      obtain ⟨c1, c2, c3, c4⟩ := h
      have d1 := of_decide_eq_true c1
      subst p1 p2 p3 p4 p5 p6 p8 p15 d1
      unfold cdB at c3
      split at c3
      · rename_i ccl cdd vs ccs lcd
        unfold fileB at c3
        split at c3
        · rename_i fl tf hv
          have d3 := of_decide_eq_true c3
          subst d3
          unfold clsB at c4
          split at c4
          · rename_i cl cld v csl lcc
            have d4 := of_decide_eq_true c4
            subst d4
            exact ⟨_, ⟨⟨oc, od, n9, n10, n11, n12, cda, cc, n14, osl, ccl, cdd, vs, ccs, tf, cl, cld, csl, rfl, lk, c2, lcd, hv, lcc⟩, of_decide_eq_true ht⟩⟩
          · cases c4
        · cases c3
      · cases c3
    · cases h
  · cases h
def mroB (C : Addr) : List Value → Bool
  | .ref D :: bm => decide (D = C) && PySem.HandSPX.refsVE bm
  | _ => false
def sltB : List (Option Value) → Bool
  | [_, _, _, _, some v, _] => decide (v = Value.builtin "ValueError.__new__")
  | _ => false
def clsOkB (C : Addr) : Option Obj → Bool
  | some ⟨c0, _, .cls ⟨_, _, m, _, _, hd, _, _, _, _, dl⟩, sl⟩ => decide (c0 = Value.type "type") && (mroB C m && (hd && (!dl && sltB sl.toList)))
  | _ => false
theorem clsOkB_ok {C : Addr} {o : Option Obj} (h : clsOkB C o = true) : ∃ nm q N bs bm sn sub ab col dd k0 k1 k2 k3 k5, o = some (excClassObj nm q C N bs bm true sn sub ab col dd k0 k1 k2 k3 k5 "ValueError.__new__") ∧ PySem.HandSPX.refsVE bm = true := by
  unfold clsOkB at h
  split at h
  · rename_i c0 dd nm bs m N q hd sn sub ab col dl sl
    simp only [Bool.and_eq_true, Bool.not_eq_true'] at h
    obtain ⟨h1, h2, h3, h4, h5⟩ := h
    have p1 := of_decide_eq_true h1
    unfold mroB at h2
    split at h2
    · rename_i D bm
      rw [Bool.and_eq_true] at h2
      have p2 := of_decide_eq_true h2.1
      unfold sltB at h5
      split at h5
      · rename_i k0 k1 k2 k3 v k5 hsl
        have p5 := of_decide_eq_true h5
        have e : sl = #[k0, k1, k2, k3, some v, k5] := by
          apply Array.toList_inj.mp
          exact hsl
        subst p1 p2 p5 e h3 h4
        exact ⟨nm, q, N, bs, bm, sn, sub, ab, col, dd, k0, k1, k2, k3, k5, rfl, h2.2⟩
      · cases h5
    · cases h2
  · cases h
def supCB (K : PySem.W.Frag) (C : Addr) : Bool := clsOkB C (K.lookup C) && (decide (PySem.W.findIn K (.ref C) "__setattr__" = some (some (.builtin "object.__setattr__"))) && (decide (PySem.W.subIn K (.ref C) (.type "BaseException") = some true) && (decide (PySem.W.typeIn K (.ref C) = some (.type "type")) && (PySem.W.keepIn K (.ref C) && ((PySem.W.clsIn K C).isSome && (decide (PySem.W.ks_superIn K C C "__init__" = some (some (.builtin veI))) && (decide (PySem.W.subIn K (.ref C) (.type "ValueError") = some true) && (decide (PySem.W.nsIn K PySem.cStatics "thirdparty.any" = some none) && decide (PySem.W.mroIn K C (.ref C) = some true)))))))))
theorem supCB_ok {K : PySem.W.Frag} {C : Addr} (h : supCB K C = true) : SupC K C := by
  unfold supCB at h
  simp only [Bool.and_eq_true] at h
  obtain ⟨h1, h2, h3, h4, h5, h6, h7, h8, h9, h10⟩ := h
  exact ⟨⟨clsOkB_ok h1, of_decide_eq_true h2, of_decide_eq_true h3, of_decide_eq_true h4, h5⟩, h6, of_decide_eq_true h7, of_decide_eq_true h8, of_decide_eq_true h9, of_decide_eq_true h10⟩
/-! ### such an exception is made -/
/-- all that is to be known of a class over SkyError whose __init__ takes one value and keeps it -/
structure SupX (K : PySem.W.Frag) (mg : Str → Option Value) (file : Str) (C : Addr) (cls p1 fld : Str) (st : Stmt) (f : Addr) (fd : FuncData) : Prop where
  g : mg cls = some (.ref C)
  F : SupF K file C "__init__" (cls ++ ".__init__") st f fd
  T : SupC K C
  i : PySem.W.findIn K (.ref C) "__init__" = some (some (.ref f))
  n : PySem.W.findIn K (.ref C) fld = some none
  b : Binds K fd ["self", p1] []
/-- what stands in the text of such an __init__ -/
structure SupS (p1 fld : Str) (st : Stmt) : Prop where
  sc : ScC "self" p1 (defScope st)
  hp : ((defArgs st).posonlyargs ++ (defArgs st).args).head?.map (·.arg) = some "self"
  bd : ∃ (sa sb : Str) (q0 q1 q2 q3 q4 q5 q6 q7 q8 q9 qa qb qc qd : Pos) (ja jb : Nat), defBody st = [.Expr (.Call (.Attribute (.Call (.Name "super" q0) [] [] q1) "__init__" q2) [.JoinedStr [.Constant (.str sa) ja q3, .FormattedValue (.Name p1 q4) (-1) none q5, .Constant (.str sb) jb q6] q7] [] q8) q9, .Assign [.Attribute (.Name "self" qa) fld qb] (.Name p1 qd) qc] ∧ sa.length + sb.length ≤ 1000 ∧
    (∀ env : Env, ∃ pl : Sem Bool, eval (.Call (.Attribute (.Call (.Name "super" q0) [] [] q1) "__init__" q2) [.JoinedStr [.Constant (.str sa) ja q3, .FormattedValue (.Name p1 q4) (-1) none q5, .Constant (.str sb) jb q6] q7] [] q8) env = (do
      let ov ← attributeBase (.Call (.Name "super" q0) [] [] q1) "__init__" env (eval (.Call (.Name "super" q0) [] [] q1) env)
      standAt q2.atName
      let (g, fst1) ← holding [ov] (getMethod ov "__init__" pl)
      callWith q8 g fst1 (backTo q8 (starEach [.JoinedStr [.Constant (.str sa) ja q3, .FormattedValue (.Name p1 q4) (-1) none q5, .Constant (.str sb) jb q6] q7] env)) [])) ∧
    (∀ env : Env, swapsWith (.Call (.Attribute (.Call (.Name "super" q0) [] [] q1) "__init__" q2) [.JoinedStr [.Constant (.str sa) ja q3, .FormattedValue (.Name p1 q4) (-1) none q5, .Constant (.str sb) jb q6] q7] [] q8) none q9.line env = pure false) ∧ (∀ env : Env, swapsWith (.Name p1 qd) (some (.Attribute (.Name "self" qa) fld qb)) qc.line env = pure false)
/-- what is wished of the program's text -/
def SupP (P : Program) (file : Str) : Prop := ((P.main.file : Str) == file) = true ∧ (P.main.scope.names.lookup ("super" : Str)).isSome = false
theorem supx_fn {P : Program} {w : World} {base : Heap} {K : PySem.W.Frag} {mg : Str → Option Value} {file cls p1 fld : Str} {st : Stmt} {C f : Addr} {fd : FuncData} {k : Nat} (X : SupX K mg file C cls p1 fld st f fd) (S : SupS p1 fld st) (hP : SupP P file) (hs : mg "super" = none) (hd1 : (p1 == ("__debug__" : Str)) = false) (hc1 : (p1 == ("__classdict__" : Str)) = false) :
    FnOk P w K mg base CX0 (k + 1) f fd ["self", p1] (sp_supI C fld) := by
  obtain ⟨sa, sb, q0, q1, q2, q3, q4, q5, q6, q7, q8, q9, qa, qb, qc, qd, ja, jb, e1, e2, e3, e4, e5⟩ := S.bd
  exact sup_ok X.F X.T S.sc S.hp e1 X.n hP.1 hP.2 hs e2 e3 e4 e5 hd1 hc1
/-- where the class's __init__ lies -/
def initAt (K : PySem.W.Frag) (C : Addr) : Addr := match PySem.W.findIn K (.ref C) "__init__" with
  | some (some (.ref f)) => f
  | _ => 0
theorem SupF.binds {K : PySem.W.Frag} {file : Str} {C : Addr} {x qual : Str} {st : Stmt} {f : Addr} {fd : FuncData} {ps : List Str} (F : SupF K file C x qual st f fd)
    (h : ∀ (kV doc pm : Value) (an : Option Addr) (cda cc : Addr) (ct : Value) (us : List Value), us.length = ps.length → bindArgs (PySem.W.ksFn x qual (defArgs st) (defBody st) (defScope st) .none kV doc pm an (.ref cda) ct cc) ⟨us, []⟩ = pure (ps.zip us)) : Binds K fd ps [] := by
  obtain ⟨oc, od, kV, doc, pm, an, cda, cc, ct, osl, ccl, cdd, vs, ccs, tf, cl, cld, csl, rfl, _⟩ := F.ex
  exact .all (h kV doc pm an cda cc ct)
/-- the whole test, and what comes of it -/
def supB (K : PySem.W.Frag) (file : Str) (C : Addr) (cls fld : Str) (st : Stmt) : Bool := supFB K file C "__init__" (cls ++ ".__init__") st (initAt K C) && (supCB K C && (decide (PySem.W.findIn K (.ref C) "__init__" = some (some (.ref (initAt K C)))) && decide (PySem.W.findIn K (.ref C) fld = some none)))
theorem supB_ok {K : PySem.W.Frag} {mg : Str → Option Value} {file : Str} {C : Addr} {cls p1 fld : Str} {st : Stmt} (h : supB K file C cls fld st = true) (g : mg cls = some (.ref C))
    (b : ∀ (kV doc pm : Value) (an : Option Addr) (cda cc : Addr) (ct : Value) (us : List Value), us.length = 2 → bindArgs (PySem.W.ksFn "__init__" (cls ++ ".__init__") (defArgs st) (defBody st) (defScope st) .none kV doc pm an (.ref cda) ct cc) ⟨us, []⟩ = pure ([("self" : Str), p1].zip us)) : ∃ fd, SupX K mg file C cls p1 fld st (initAt K C) fd := by
  unfold supB at h
  simp only [Bool.and_eq_true] at h
  obtain ⟨h1, h2, h3, h4⟩ := h
  obtain ⟨fd, F⟩ := supFB_ok h1
  exact ⟨fd, g, F, supCB_ok h2, of_decide_eq_true h3, of_decide_eq_true h4, F.binds b⟩
end Sky

/-! A look at the top that sees the interpreter's own table too: for a def that says super(). -/
namespace Sky
open PySem PySem.Spec PyProof.Rows L2
section
variable {fa : List He.Fa} {fn : List He.DefD} {ts : List He.Tab} {tf : List He.Defn} {ex : PySem.W.Frag → Bool} {w : World}
/-- the part of the heap that is looked at: five steps from the names, the table -/
def fragY (n : Nat) (g : Addr → Option Obj) : PySem.W.Frag := He.frT g (He.asD g n ++ [PySem.cStatics])
theorem tab_here {g : Addr → Option Obj} {tf : List He.Defn} {K : PySem.W.Frag} (h : He.tabsB g tf K = true) {q : He.Defn} (hq : q ∈ tf) : PySem.W.codeHdIn K (He.cT K q).1 (He.cT K q).2 = true ∧ ∃ u, g (He.cT K q).2 = some u ∧ He.emptyTab u = true := by
  have h1 := List.all_eq_true.mp h q hq
  rw [Bool.and_eq_true] at h1
  obtain ⟨h1, h2⟩ := h1
  refine ⟨h1, ?_⟩
  split at h2
  · rename_i u e
    exact ⟨u, e, h2⟩
  · cases h2
theorem says_frag {as : List Addr} {h : Heap} (e1 : He.obsT fa fn ts (He.frT h.get? as) = He.valT fn ts w) (e2 : ex (He.frT h.get? as) = true) (e3 : He.tabsB h.get? tf (He.frT h.get? as) = true) : He.SaysX fa fn ts tf ex w h (He.frT h.get? as) where
  t := e1
  more := e2
  hd := fun q hq => (tab_here e3 hq).1
  out := fun q hq => let ⟨_, u, e, z⟩ := tab_here e3 hq; He.frT_none e z
  empty := fun q hq => let ⟨_, u, e, z⟩ := tab_here e3 hq; e.trans (congrArg some (He.emptyTab_eq z))
def seenY (n : Nat) (fa : List He.Fa) (fn : List He.DefD) (ts : List He.Tab) (tf : List He.Defn) (ex : PySem.W.Frag → Bool) (g : Addr → Option Obj) : He.AlX :=
  (He.obsT fa fn ts (fragY n g), ex (fragY n g) && He.tabsB g tf (fragY n g))
def hookY (n : Nat) (fa : List He.Fa) (fn : List He.DefD) (ts : List He.Tab) (tf : List He.Defn) (ex : PySem.W.Frag → Bool) : PySem.W.Hook :=
  { α := He.AlX
    obs := fun q => seenY n fa fn ts tf ex q.heap.get?
    val := He.valX fn ts
    says := (He.hookX n fa fn ts tf ex).says
    of := fun w q e => by
      have e1 : He.obsT fa fn ts (fragY n q.heap.get?) = He.valT fn ts w := congrArg Prod.fst e
      have e2 : (ex (fragY n q.heap.get?) && He.tabsB q.heap.get? tf (fragY n q.heap.get?)) = true := congrArg Prod.snd e
      rw [Bool.and_eq_true] at e2
      exact ⟨fragY n q.heap.get?, He.frT_in, says_frag e1 e2.1 e2.2⟩
    keeps := (He.hookX n fa fn ts tf ex).keeps }
theorem seenY_eq {n : Nat} {g : Addr → Option Obj} {q : Shared} (h : ∀ a, g a = q.heap.get? a) : seenY n fa fn ts tf ex g = (hookY n fa fn ts tf ex).obs q := congrArg (seenY n fa fn ts tf ex) (funext h)
end
end Sky

/-! How long a text grows, which signs it has, when its parts are cut, told twice and joined. -/
namespace Sky
open PySem PySem.Spec PyProof.Rows L2 TL
/-- what the parts of a text take, a sign each for what stands between them -/
def msr (l : List Str) : Nat := (l.map (·.length)).sum + l.length
theorem msr_append (a b : List Str) : msr (a ++ b) = msr a + msr b := by
  unfold msr
  rw [List.map_append, List.sum_append, List.length_append]
  omega
theorem msr_one (p : Str) : msr [p] = p.length + 1 := rfl
theorem msr_cut (l : List Str) (k : Nat) : msr (l.take k) + msr (l.drop k) = msr l := by rw [← msr_append, List.take_append_drop]
theorem msr_at {l : List Str} {k : Nat} {p : Str} (h : l[k]? = some p) : msr (l.take k) + (p.length + 1) + msr (l.drop (k + 1)) = msr l := by
  obtain ⟨hk, e⟩ := List.getElem?_eq_some_iff.mp h
  rw [← msr_cut l k, List.drop_eq_getElem_cons hk, e, show p :: l.drop (k + 1) = [p] ++ l.drop (k + 1) from rfl, msr_append, msr_one]
  omega
theorem spl_msr {S : List Nat} (hS : S ≠ []) : ∀ (l : List Nat) (k : Nat) (acc : List Nat), ((spl S k acc l).map List.length).sum + (spl S k acc l).length ≤ acc.length + l.length + 1 ∧ ∀ p ∈ spl S k acc l, ∀ c ∈ p, c ∈ acc ∨ c ∈ l
  | [], k, acc => by
    rw [spl_nil]
    refine ⟨by simp, fun p hp c hc => .inl ?_⟩
    rw [List.mem_singleton.mp hp] at hc
    exact hc
  | c :: r, k + 1, acc => by
    obtain ⟨h1, h2⟩ := spl_msr hS r k acc
    refine ⟨?_, fun p hp d hd => (h2 p hp d hd).imp id (List.mem_cons_of_mem _)⟩
    show ((spl S k acc r).map List.length).sum + (spl S k acc r).length ≤ _
    rw [List.length_cons]
    omega
  | c :: r, 0, acc => by
    by_cases e : pre S (c :: r) = true
    · rw [spl_hit e]
      obtain ⟨h1, h2⟩ := spl_msr hS r (S.length - 1) []
      refine ⟨?_, fun p hp d hd => ?_⟩
      · rw [List.map_cons, List.sum_cons, List.length_cons, List.length_cons]
        rw [List.length_nil] at h1
        omega
      · rcases List.mem_cons.mp hp with g | g
        · rw [g] at hd; exact .inl hd
        · rcases h2 p g d hd with z | z
          · cases z
          · exact .inr (List.mem_cons_of_mem _ z)
    · rw [spl_miss (Bool.eq_false_iff.mpr e)]
      obtain ⟨h1, h2⟩ := spl_msr hS r 0 (acc ++ [c])
      refine ⟨?_, fun p hp d hd => ?_⟩
      · rw [List.length_append, List.length_singleton] at h1
        rw [List.length_cons]
        omega
      · rcases h2 p hp d hd with z | z
        · rcases List.mem_append.mp z with y | y
          · exact .inl y
          · rw [List.mem_singleton.mp y]; exact .inr (List.mem_cons_self ..)
        · exact .inr (List.mem_cons_of_mem _ z)
/-- all signs low -/
def Lo (x : Str) : Prop := ∀ c ∈ tl x, c < 128
theorem split_msr (x : Str) {y : Str} (h1 : tl y ≠ []) (h2 : y.cps.all (· < 256) = true) : msr (Txt.split x y) ≤ x.length + 1 ∧ (Lo x → ∀ p ∈ Txt.split x y, Lo p) := by
  have e := split_spl x y h1 (kind_ok h2)
  obtain ⟨a, b⟩ := spl_msr h1 (tl x) 0 []
  rw [← e] at a b
  rw [List.map_map, List.length_map, List.length_nil, ← len_tl] at a
  have e2 : (List.length ∘ tl) = (fun p : Str => p.length) := funext fun p => (len_tl p).symm
  rw [e2] at a
  refine ⟨by unfold msr; omega, fun hl p hp c hc => ?_⟩
  rcases b _ (List.mem_map.mpr ⟨p, hp, rfl⟩) c hc with z | z
  · cases z
  · exact hl c z
theorem Lo.app {x y : Str} (a : Lo x) (b : Lo y) : Lo (x ++ y) := fun c hc => by
  rw [tl_append] at hc
  exact (List.mem_append.mp hc).elim (a c) (b c)
theorem Lo.cut {x : Str} (a : Lo x) (lo hi : Option Int) : Lo (cutS x lo hi) := fun c hc => a c (List.mem_of_mem_drop (List.mem_of_mem_take hc))
theorem Lo.join {y : Str} (hy : Lo y) {ps : List Str} (h : ∀ p ∈ ps, Lo p) : Lo (Txt.join y ps) := fun c hc => by
  rw [join_eq, tl_join] at hc
  induction ps with
  | nil => cases hc
  | cons p r ih =>
    cases r with
    | nil => exact h p (List.mem_singleton.mpr rfl) c hc
    | cons q r =>
      have hc : c ∈ tl p ++ (tl y ++ joinL (tl y) ((q :: r).map tl)) := hc
      rcases List.mem_append.mp hc with g | g
      · exact h p (List.mem_cons_self ..) c g
      · rcases List.mem_append.mp g with g | g
        · exact hy c g
        · exact ih (fun z hz => h z (List.mem_cons_of_mem _ hz)) g
theorem lo_num (n : Nat) (h : n < 1000) : Lo (numW n) := fun c hc => by
  rw [numW_tl] at hc
  by_cases hs : c < 48 ∨ 57 < c
  · exact absurd hc (numL_free hs)
  · omega
end Sky

namespace K16
open PySem PySem.Spec PyProof.Rows L2 Sky
def topS (i : Nat) : Stmt := PySem.Challenge.pw_skyframes_k16_texts_refused.main.body.getD i (.Pass ⟨0, 0, 0, 0⟩)
abbrev s_written : Stmt := topS 17
abbrev N_written : List Str := ["steps", "step"]
theorem sc_written : FnScope N_written ["steps"] (defScope s_written) := ⟨rfl, rfl, rfl, by decide +kernel, rfl, by decide +kernel, by decide +kernel⟩
abbrev s_read : Stmt := topS 18
abbrev N_read : List Str := ["text", "steps", "line", "row", "step"]
theorem sc_read : FnScope N_read ["text"] (defScope s_read) := ⟨rfl, rfl, rfl, by decide +kernel, rfl, by decide +kernel, by decide +kernel⟩
abbrev s_row_of : Stmt := topS 19
abbrev N_row_of : List Str := ["step", "words", "part", "number"]
theorem sc_row_of : FnScope N_row_of ["step"] (defScope s_row_of) := ⟨rfl, rfl, rfl, by decide +kernel, rfl, by decide +kernel, by decide +kernel⟩
abbrev s_step_of : Stmt := topS 20
abbrev N_step_of : List Str := ["words", "word", "rest", "numbers", "figures"]
theorem sc_step_of : FnScope N_step_of ["words"] (defScope s_step_of) := ⟨rfl, rfl, rfl, by decide +kernel, rfl, by decide +kernel, by decide +kernel⟩
abbrev s_is_written_number : Stmt := topS 21
abbrev N_is_written_number : List Str := ["figures"]
theorem sc_is_written_number : FnScope N_is_written_number ["figures"] (defScope s_is_written_number) := ⟨rfl, rfl, rfl, by decide +kernel, rfl, by decide +kernel, by decide +kernel⟩
abbrev s_law_mix : Stmt := topS 23
abbrev N_law_mix : List Str := ["_law_script", "_law_seed", "_law_mixed", "_law_cell"]
theorem sc_law_mix : FnScope N_law_mix ["_law_script", "_law_seed"] (defScope s_law_mix) := ⟨rfl, rfl, rfl, by decide +kernel, rfl, by decide +kernel, by decide +kernel⟩
abbrev s_law_next : Stmt := topS 24
abbrev N_law_next : List Str := ["_law_h", "_law_many", "_law_at", "_law_cell"]
theorem sc_law_next : FnScope N_law_next ["_law_h", "_law_many"] (defScope s_law_next) := ⟨rfl, rfl, rfl, by decide +kernel, rfl, by decide +kernel, by decide +kernel⟩
abbrev s_law_alike : Stmt := topS 25
abbrev N_law_alike : List Str := ["_law_found", "_law_due", "_law_k"]
theorem sc_law_alike : FnScope N_law_alike ["_law_found", "_law_due"] (defScope s_law_alike) := ⟨rfl, rfl, rfl, by decide +kernel, rfl, by decide +kernel, by decide +kernel⟩
abbrev s_law_data : Stmt := topS 26
abbrev N_law_data : List Str := ["_law_h", "_law_many", "_law_k"]
theorem sc_law_data : FnScope N_law_data ["_law_h"] (defScope s_law_data) := ⟨rfl, rfl, rfl, by decide +kernel, rfl, by decide +kernel, by decide +kernel⟩
abbrev s_law_step : Stmt := topS 27
abbrev N_law_step : List Str := ["_law_h", "_law_way", "_law_stream", "_law_road", "_law_k", "_law_some"]
theorem sc_law_step : FnScope N_law_step ["_law_h"] (defScope s_law_step) := ⟨rfl, rfl, rfl, by decide +kernel, rfl, by decide +kernel, by decide +kernel⟩
abbrev s_law_kind : Stmt := topS 28
abbrev N_law_kind : List Str := ["_law_work", "e", "_law_kinds", "_law_words", "_law_k"]
theorem sc_law_kind : FnScope N_law_kind ["_law_work"] (defScope s_law_kind) := ⟨rfl, rfl, rfl, by decide +kernel, rfl, by decide +kernel, by decide +kernel⟩
abbrev s_law_figures : Stmt := topS 29
abbrev N_law_figures : List Str := ["_law_word", "_law_sign"]
theorem sc_law_figures : FnScope N_law_figures ["_law_word"] (defScope s_law_figures) := ⟨rfl, rfl, rfl, by decide +kernel, rfl, by decide +kernel, by decide +kernel⟩
abbrev s_law_row : Stmt := topS 30
abbrev N_law_row : List Str := ["_law_row_here", "_law_words", "_law_word", "_law_numbers", "_law_one"]
theorem sc_law_row : FnScope N_law_row ["_law_row_here"] (defScope s_law_row) := ⟨rfl, rfl, rfl, by decide +kernel, rfl, by decide +kernel, by decide +kernel⟩
abbrev s_law_spoilt : Stmt := topS 31
abbrev N_law_spoilt : List Str := ["_law_h", "_law_text", "_law_turn", "_law_at", "_law_signs", "_law_sign", "_law_rows", "_law_k", "_law_words", "_law_j", "_law_odd"]
theorem sc_law_spoilt : FnScope N_law_spoilt ["_law_h", "_law_text"] (defScope s_law_spoilt) := ⟨rfl, rfl, rfl, by decide +kernel, rfl, by decide +kernel, by decide +kernel⟩
abbrev s_law : Stmt := topS 32
abbrev N_law : List Str := ["_law_script", "_law_h", "_law_some", "_law_turn", "_law_text", "_law_change", "_law_steps", "_law_one", "_law_k", "_law_row_here"]
theorem sc_law : FnScope N_law ["_law_script"] (defScope s_law) := ⟨rfl, rfl, rfl, by decide +kernel, rfl, by decide +kernel, by decide +kernel⟩
abbrev s_BadText_init : Stmt := inClass (topS 11) 0
theorem sup_BadText : SupS "line" "line" s_BadText_init := ⟨⟨rfl, rfl, rfl, by decide +kernel, rfl, rfl, by decide +kernel, by decide +kernel, rfl, rfl⟩, rfl, ⟨_, _, _, _, _, _, _, _, _, _, _, _, _, _, _, _, _, _, rfl, by decide +kernel, fun _ => ⟨_, rfl⟩, fun _ => rfl, fun _ => rfl⟩⟩
structure Tx (K : PySem.W.Frag) (mg : Str → Option Value) where
  a_written : Addr
  d_written : FuncData
  F_written : Fun K "written" "written" s_written a_written d_written
  b_written : Binds K d_written ["steps"] []
  m_written : mg "written" = some (.ref a_written)
  a_read : Addr
  d_read : FuncData
  F_read : Fun K "read" "read" s_read a_read d_read
  b_read : Binds K d_read ["text"] []
  m_read : mg "read" = some (.ref a_read)
  a_row_of : Addr
  d_row_of : FuncData
  F_row_of : Fun K "_row_of" "_row_of" s_row_of a_row_of d_row_of
  b_row_of : Binds K d_row_of ["step"] []
  m_row_of : mg "_row_of" = some (.ref a_row_of)
  a_step_of : Addr
  d_step_of : FuncData
  F_step_of : Fun K "_step_of" "_step_of" s_step_of a_step_of d_step_of
  b_step_of : Binds K d_step_of ["words"] []
  m_step_of : mg "_step_of" = some (.ref a_step_of)
  a_is_written_number : Addr
  d_is_written_number : FuncData
  F_is_written_number : Fun K "_is_written_number" "_is_written_number" s_is_written_number a_is_written_number d_is_written_number
  b_is_written_number : Binds K d_is_written_number ["figures"] []
  m_is_written_number : mg "_is_written_number" = some (.ref a_is_written_number)
  a_law_mix : Addr
  d_law_mix : FuncData
  F_law_mix : Fun K "_law_mix" "_law_mix" s_law_mix a_law_mix d_law_mix
  b_law_mix : Binds K d_law_mix ["_law_script", "_law_seed"] []
  m_law_mix : mg "_law_mix" = some (.ref a_law_mix)
  a_law_next : Addr
  d_law_next : FuncData
  F_law_next : Fun K "_law_next" "_law_next" s_law_next a_law_next d_law_next
  b_law_next : Binds K d_law_next ["_law_h", "_law_many"] []
  m_law_next : mg "_law_next" = some (.ref a_law_next)
  a_law_alike : Addr
  d_law_alike : FuncData
  F_law_alike : Fun K "_law_alike" "_law_alike" s_law_alike a_law_alike d_law_alike
  b_law_alike : Binds K d_law_alike ["_law_found", "_law_due"] []
  m_law_alike : mg "_law_alike" = some (.ref a_law_alike)
  a_law_data : Addr
  d_law_data : FuncData
  F_law_data : Fun K "_law_data" "_law_data" s_law_data a_law_data d_law_data
  b_law_data : Binds K d_law_data ["_law_h"] []
  m_law_data : mg "_law_data" = some (.ref a_law_data)
  a_law_step : Addr
  d_law_step : FuncData
  F_law_step : Fun K "_law_step" "_law_step" s_law_step a_law_step d_law_step
  b_law_step : Binds K d_law_step ["_law_h"] []
  m_law_step : mg "_law_step" = some (.ref a_law_step)
  a_law_kind : Addr
  d_law_kind : FuncData
  F_law_kind : Fun K "_law_kind" "_law_kind" s_law_kind a_law_kind d_law_kind
  b_law_kind : Binds K d_law_kind ["_law_work"] []
  m_law_kind : mg "_law_kind" = some (.ref a_law_kind)
  a_law_figures : Addr
  d_law_figures : FuncData
  F_law_figures : Fun K "_law_figures" "_law_figures" s_law_figures a_law_figures d_law_figures
  b_law_figures : Binds K d_law_figures ["_law_word"] []
  m_law_figures : mg "_law_figures" = some (.ref a_law_figures)
  a_law_row : Addr
  d_law_row : FuncData
  F_law_row : Fun K "_law_row" "_law_row" s_law_row a_law_row d_law_row
  b_law_row : Binds K d_law_row ["_law_row_here"] []
  m_law_row : mg "_law_row" = some (.ref a_law_row)
  a_law_spoilt : Addr
  d_law_spoilt : FuncData
  F_law_spoilt : Fun K "_law_spoilt" "_law_spoilt" s_law_spoilt a_law_spoilt d_law_spoilt
  b_law_spoilt : Binds K d_law_spoilt ["_law_h", "_law_text"] []
  m_law_spoilt : mg "_law_spoilt" = some (.ref a_law_spoilt)
  a_law : Addr
  d_law : FuncData
  F_law : Fun K "law" "law" s_law a_law d_law
  b_law : Binds K d_law ["_law_script"] []
  m_law : mg "law" = some (.ref a_law)
  z_ValueError : mg "ValueError" = none
  z_all : mg "all" = none
  z_bool : mg "bool" = none
  z_enumerate : mg "enumerate" = none
  z_int : mg "int" = none
  z_isinstance : mg "isinstance" = none
  z_len : mg "len" = none
  z_list : mg "list" = none
  z_max : mg "max" = none
  z_range : mg "range" = none
  z_str : mg "str" = none
  z_tuple : mg "tuple" = none
  A_BARE : Addr
  c_BARE : mg "BARE" = some (.ref A_BARE)
  q_BARE : ∀ H, SqT K H A_BARE [.str "begin", .str "shut", .str "beat", .str "ask", .str "settle"]
  A_LETTERS : Addr
  c_LETTERS : mg "LETTERS" = some (.ref A_LETTERS)
  q_LETTERS : ∀ H, SqT K H A_LETTERS [.str "hear", .str "lose", .str "twice"]
  A_WAYS : Addr
  c_WAYS : mg "WAYS" = some (.ref A_WAYS)
  q_WAYS : ∀ H, SqT K H A_WAYS [.str "down", .str "up"]
  t_MOST_FIGURES : Tok
  c_MOST_FIGURES : mg "MOST_FIGURES" = some (.int 3 t_MOST_FIGURES)
  A_BadFrames : Addr
  g_BadFrames : mg "BadFrames" = some (.ref A_BadFrames)
  A_BadMarks : Addr
  g_BadMarks : mg "BadMarks" = some (.ref A_BadMarks)
  A_BadLog : Addr
  g_BadLog : mg "BadLog" = some (.ref A_BadLog)
  A_BadText : Addr
  g_BadText : mg "BadText" = some (.ref A_BadText)
  A_BadSize : Addr
  g_BadSize : mg "BadSize" = some (.ref A_BadSize)
  A_BadRoom : Addr
  g_BadRoom : mg "BadRoom" = some (.ref A_BadRoom)
  A_BadStream : Addr
  g_BadStream : mg "BadStream" = some (.ref A_BadStream)
  A_BadData : Addr
  g_BadData : mg "BadData" = some (.ref A_BadData)
  A_BadFrame : Addr
  g_BadFrame : mg "BadFrame" = some (.ref A_BadFrame)
  A_BadPlan : Addr
  g_BadPlan : mg "BadPlan" = some (.ref A_BadPlan)
  A_SkyError : Addr
  g_SkyError : mg "SkyError" = some (.ref A_SkyError)
  f_BadText : Addr
  d_BadText : FuncData
  S_BadText : SupX K mg PySem.Challenge.pw_skyframes_k16_texts_refused.main.file A_BadText "BadText" "line" "line" s_BadText_init f_BadText d_BadText
  x_BadText : PySem.W.exmOne K (.ref A_BadText) (.ref A_SkyError) = some true
  kd_BadText : IsKind K A_SkyError [A_BadFrames, A_BadMarks, A_BadLog, A_BadText, A_BadSize, A_BadRoom, A_BadStream, A_BadData, A_BadFrame, A_BadPlan] A_BadText 3
  z_super : mg "super" = none
  k_law : Addr
  p_law : Addr
  co_law : d_law.code = .ref k_law
end K16

namespace K16
open PySem PySem.Spec PyProof.Rows L2 Sky
def hNm0 : List PySem.Str := ["SkyError", "BadSize", "BadRoom", "BadStream", "BadData", "BadFrame", "BadPlan", "BadFrames", "BadMarks", "BadLog", "BadText", "BARE", "LETTERS", "WAYS", "MOST_FIGURES", "written", "read", "_row_of", "_step_of", "_is_written_number", "_law_mix", "_law_next", "_law_alike", "_law_data", "_law_step", "_law_kind", "_law_figures", "_law_row", "_law_spoilt"]
def hNms : List PySem.Str := hNm0
def hFn : List He.DefD := [⟨("written", none), "written", "written", defArgs s_written, defBody s_written, defScope s_written, [], []⟩,
  ⟨("read", none), "read", "read", defArgs s_read, defBody s_read, defScope s_read, [], []⟩,
  ⟨("_row_of", none), "_row_of", "_row_of", defArgs s_row_of, defBody s_row_of, defScope s_row_of, [], []⟩,
  ⟨("_step_of", none), "_step_of", "_step_of", defArgs s_step_of, defBody s_step_of, defScope s_step_of, [], []⟩,
  ⟨("_is_written_number", none), "_is_written_number", "_is_written_number", defArgs s_is_written_number, defBody s_is_written_number, defScope s_is_written_number, [], []⟩,
  ⟨("_law_mix", none), "_law_mix", "_law_mix", defArgs s_law_mix, defBody s_law_mix, defScope s_law_mix, [], []⟩,
  ⟨("_law_next", none), "_law_next", "_law_next", defArgs s_law_next, defBody s_law_next, defScope s_law_next, [], []⟩,
  ⟨("_law_alike", none), "_law_alike", "_law_alike", defArgs s_law_alike, defBody s_law_alike, defScope s_law_alike, [], []⟩,
  ⟨("_law_data", none), "_law_data", "_law_data", defArgs s_law_data, defBody s_law_data, defScope s_law_data, [], []⟩,
  ⟨("_law_step", none), "_law_step", "_law_step", defArgs s_law_step, defBody s_law_step, defScope s_law_step, [], []⟩,
  ⟨("_law_kind", none), "_law_kind", "_law_kind", defArgs s_law_kind, defBody s_law_kind, defScope s_law_kind, [], []⟩,
  ⟨("_law_figures", none), "_law_figures", "_law_figures", defArgs s_law_figures, defBody s_law_figures, defScope s_law_figures, [], []⟩,
  ⟨("_law_row", none), "_law_row", "_law_row", defArgs s_law_row, defBody s_law_row, defScope s_law_row, [], []⟩,
  ⟨("_law_spoilt", none), "_law_spoilt", "_law_spoilt", defArgs s_law_spoilt, defBody s_law_spoilt, defScope s_law_spoilt, [], []⟩,
  ⟨("law", none), "law", "law", defArgs s_law, defBody s_law, defScope s_law, [], []⟩]
def hFa : List He.Fa := [.glo "written", .glo "read", .glo "_row_of", .glo "_step_of", .glo "_is_written_number", .glo "_law_mix", .glo "_law_next", .glo "_law_alike", .glo "_law_data", .glo "_law_step", .glo "_law_kind", .glo "_law_figures", .glo "_law_row", .glo "_law_spoilt", .glo "law", .free "ValueError", .free "all", .free "bool", .free "enumerate", .free "int", .free "isinstance", .free "len", .free "list", .free "max", .free "range", .free "str", .free "tuple", .glo "BARE", .glo "LETTERS", .glo "WAYS", .int "MOST_FIGURES" 3, .glo "BadFrames", .glo "BadMarks", .glo "BadLog", .glo "BadText", .glo "BadSize", .glo "BadRoom", .glo "BadStream", .glo "BadData", .glo "BadFrame", .glo "BadPlan", .glo "SkyError", .exm "BadText" "SkyError" true, .free "super"]
def hTf : List He.Defn := [("law", none)]
def hBs (K : PySem.W.Frag) : List Bool := [He.tupB K "BARE" [He.Dv.str "begin", He.Dv.str "shut", He.Dv.str "beat", He.Dv.str "ask", He.Dv.str "settle"],
  He.tupB K "LETTERS" [He.Dv.str "hear", He.Dv.str "lose", He.Dv.str "twice"],
  He.tupB K "WAYS" [He.Dv.str "down", He.Dv.str "up"],
  supB K PySem.Challenge.pw_skyframes_k16_texts_refused.main.file (He.ga K "BadText") "BadText" "line" s_BadText_init,
  kindB K (He.ga K "SkyError") [He.ga K "BadFrames", He.ga K "BadMarks", He.ga K "BadLog", He.ga K "BadText", He.ga K "BadSize", He.ga K "BadRoom", He.ga K "BadStream", He.ga K "BadData", He.ga K "BadFrame", He.ga K "BadPlan"] (He.ga K "BadText") 3]
def hEx (K : PySem.W.Frag) : Bool := (hBs K).all id
theorem allB {K : PySem.W.Frag} (h : hEx K = true) {b : Bool} (i : Nat) (e : (hBs K)[i]? = some b) : b = true := List.all_eq_true.mp h b (List.mem_of_getElem? e)
abbrev hR : PySem.W.OpenRow := PySem.W.OpenLaw.row PySem.Challenge.rw_skyframes_k16_texts_refused
abbrev hHk : PySem.W.Hook := hookY 5 hFa hFn [] hTf hEx
def hOb (s : PySem.W.SharedT) : He.AlX := seenY 5 hFa hFn [] hTf hEx (HandSHeadRun.getT s)
theorem hOb_eq (s : PySem.W.SharedT) : hOb s = hHk.obs s.abs := seenY_eq (HandSHeadRun.getT_eq s)
set_option maxHeartbeats 0 in
theorem hRun (w : World) : HandSHeadRun.RunEq hR (PySem.W.view hR.prog [32]) hHk hOb 20000 hNms w := by
  intro os
  kernel_rfl
end K16
namespace K16
open PySem PySem.Spec PyProof.Rows L2 Sky
section
variable {P : Program} {w : World} {K : PySem.W.Frag} {mg : Str → Option Value} {base : Heap}
/-- the drawing list: [mixed, the script's rest, which is next] -/
def HAt (H : Hp) (p q : Addr) : Prop := ∃ (m k : Int) (ns : List Int), p ≠ q ∧ H p = some (.lst [.int m, .ref q, .int k]) ∧ H q = some (.lst (ns.map V.int)) ∧ 0 ≤ m ∧ m < 2147483647 ∧ 0 ≤ k ∧ ns.length ≤ 63
theorem fmod_nn {a b : Int} (hb : 0 < b) : 0 ≤ a.fmod b := Int.fmod_nonneg_of_pos a hb
theorem fmod_lt {a b : Int} (hb : 0 < b) : a.fmod b < b := Int.fmod_lt_of_pos a hb
def sp_mix (K : PySem.W.Frag) : Sp := fun vs H Q _ => ∃ (a : Addr) (ns : List Int) (seed : Int), vs = [.ref a, .int seed] ∧ SqL K H a (ns.map V.int) ∧ 0 ≤ seed ∧ seed < 2147483647 ∧ ns.length ≤ 63 ∧
  ∀ p q H', HAt H' p q → H p = none → H q = none → Same H H' → Q (.ref p) H'
theorem ok_law_mix (T : Tx K mg) : FnOk P w K mg base CX0 1 T.a_law_mix T.d_law_mix ["_law_script", "_law_seed"] (sp_mix K) := by
  have nd := sc_law_mix.nd
  refine T.F_law_mix.ok sc_law_mix (fun vs H Q E h => ?_) (fun cdv A outer s H vs Q E hr h => ?_)
  · obtain ⟨_, _, _, rfl, _⟩ := h
    rfl
  · obtain ⟨a, ns, seed, rfl, hS, s0, s1, hns, k⟩ := h
    refine ⟨_, (pss_cons (ps_set (i := 2) nd rfl (Or.inl rfl) (pv 1)) (pss_cons (ps_for PassesOwn.never rfl (pi_list (pv 0)) (pg_name (i := 3) nd rfl (Or.inl rfl)) (pss_one (ps_set (i := 2) nd rfl (Or.inl rfl) (pe_op op_modN (pe_op op_add (pe_op op_add (pe_op op_mul (pv 2) pe_int) (pe_op op_modN (pv 3) pe_int)) pe_int) pe_int)))) (pss_one (ps_ret (pe_lst (pa_cons (pv 2) (pa_cons (pe_callTy call_list_of (by rfl) T.z_list (by decide +kernel) (pa_cons (pv 0) pa_nil)) (pa_cons pe_int pa_nil)))))))), ?_⟩
    refine ⟨_, rfl, _, rfl, a, rfl, ⟨_, hS⟩, ?_⟩
    refine for_list (K := K) (a := a) (xs := ns.map V.int) (fun i σ H' => ∃ (m : Int) (v : Option V), σ = [some (.ref a), some (.int seed), some (.int m), v] ∧ 0 ≤ m ∧ m < 2147483647 ∧ H' = H) ⟨seed, none, rfl, s0, s1, rfl⟩ (fun i σ H' _ ⟨_, _, _, _, _, e⟩ => by rw [e]; exact hS) ?_ ?_
    · rintro i y σ H' hy ⟨m, v, rfl, m0, m1, rfl⟩
      obtain ⟨x, hx, rfl⟩ := map_get hy
      refine ⟨_, rfl, m, 48271, rfl, rfl, .inr (by decide), ?_⟩
      refine ⟨_, rfl, x, 2147483629, rfl, rfl, (by decide : (2147483629 : Int) ≠ 0), _, _, rfl, rfl, _, 1, rfl, rfl, _, 2147483647, rfl, rfl, (by decide : (2147483647 : Int) ≠ 0), ?_⟩
      exact ⟨_, _, rfl, fmod_nn (by decide), fmod_lt (by decide), rfl⟩
    · rintro σ H' ⟨m, v, rfl, m0, m1, rfl⟩
      refine ⟨_, rfl, _, rfl, a, _, rfl, .inl hS, fun q hq => ⟨(by decide : (3 : Nat) ≤ sizeLine), fun p hp => ?_⟩⟩
      have nqp : q ≠ p := ne_of_none upd_same hp
      have hp0 : H' p = none := by rw [upd_ne nqp.symm] at hp; exact hp
      exact k p q _ ⟨m, 0, ns, nqp.symm, upd_same, by rw [upd_ne nqp]; exact upd_same, m0, m1, Int.le_refl _, hns⟩ hp0 hq (same_mut (same_new (Same.refl _) hq) hp0)
def sp_next : Sp := fun vs H Q _ => ∃ (p q : Addr) (n : Int), vs = [.ref p, .int n] ∧ HAt H p q ∧ 0 < n ∧ n < 1000000 ∧ ∀ r H', 0 ≤ r → r < n → HAt H' p q → Keep [p, q] H H' → Dom H H' → Q (.int r) H'
theorem ok_law_next (T : Tx K mg) : FnOk P w K mg base CX0 1 T.a_law_next T.d_law_next ["_law_h", "_law_many"] sp_next := by
  have nd := sc_law_next.nd
  refine T.F_law_next.ok sc_law_next (fun vs H Q E h => ?_) (fun cdv A outer s H vs Q E hr h => ?_)
  · obtain ⟨_, _, _, rfl, _⟩ := h
    rfl
  · obtain ⟨p, q, n, rfl, ⟨m, k, ns, npq, hp, hq, m0, m1, k0, hns⟩, n0, n1, fin⟩ := h
    refine ⟨_, (pss_cons (ps_set (i := 2) nd rfl (Or.inl rfl) (pe_op op_modN (pe_ix ix_list (pv 0) pe_int (fun _ _ => rfl)) (pe_callB (call_max2 rfl) (by rfl) T.z_max (by decide +kernel) (pa_cons pe_int (pa_cons (pe_callB call_len_seq (by rfl) T.z_len PySem.boot_len (pa_cons (pe_ix ix_list (pv 0) pe_int (fun _ _ => rfl)) pa_nil)) pa_nil))))) (pss_cons (ps_set (i := 3) nd rfl (Or.inl rfl) (pe_ifExp (pt_cmpR (op_neD hr.units) (pe_ix ix_list (pv 0) pe_int (fun _ _ => rfl)) (pe_lst pa_nil) (nomark _)) (pe_ix ix_list (pe_ix ix_list (pv 0) pe_int (fun _ _ => rfl)) (pv 2) (fun _ _ => rfl)) pe_int)) (pss_cons (ps_if (pt_cmpR op_ge (pv 3) (pe_op op_pow pe_int pe_int) (nomark _)) (pss_cons (ps_asg (pe_op op_fdivN (pv 3) (pv 1)) (pg_sub (pe_ix ix_list (pv 0) pe_int (fun _ _ => rfl)) (pv 2) set_list)) (pss_one (ps_ret (pe_op op_modN (pv 3) (pv 1))))) pss_nil) (pss_cons (ps_asg (pe_op op_modN (pe_op op_add (pe_op op_add (pe_op op_mul (pe_ix ix_list (pv 0) pe_int (fun _ _ => rfl)) pe_int) (pe_op op_mul (pv 3) pe_int)) pe_int) pe_int) (pg_sub (pv 0) pe_int set_list)) (pss_cons (ps_asg (pe_op op_add (pe_ix ix_list (pv 0) pe_int (fun _ _ => rfl)) pe_int) (pg_sub (pv 0) pe_int set_list)) (pss_one (ps_ret (pe_op op_modN (pe_op op_fdivN (pe_ix ix_list (pv 0) pe_int (fun _ _ => rfl)) pe_int) (pv 1))))))))), ?_⟩
    -- at
    refine ⟨_, rfl, p, _, 2, .int k, rfl, rfl, SqL.of hp, atI_nat (j := 2) rfl, ?_⟩
    refine ⟨_, rfl, p, _, 1, .ref q, rfl, rfl, SqL.of hp, atI_nat (j := 1) rfl, q, _, rfl, .inl (SqL.of hq), 1, _, rfl, ?_⟩
    have hlen : ((ns.map V.int).length : Int) = (ns.length : Int) := by rw [List.length_map]
    rw [hlen]
    have hx : (if ((ns.length : Nat) : Int) > 1 then ((ns.length : Nat) : Int) else 1) = ((max 1 ns.length : Nat) : Int) := by
      split <;> omega
    show ∃ i j, V.int k = .int i ∧ V.int (if ((ns.length : Nat) : Int) > 1 then ((ns.length : Nat) : Int) else 1) = .int j ∧ _
    rw [hx]
    refine ⟨_, _, rfl, rfl, (by show ((max 1 ns.length : Nat) : Int) ≠ 0; omega), ?_⟩
    have hat0 : 0 ≤ k.fmod ((max 1 ns.length : Nat) : Int) := fmod_nn (by omega)
    have hat1 : k.fmod ((max 1 ns.length : Nat) : Int) < ((max 1 ns.length : Nat) : Int) := fmod_lt (by omega)
    obtain ⟨at', eat⟩ : ∃ at' : Nat, k.fmod ((max 1 ns.length : Nat) : Int) = (at' : Int) := ⟨_, (Int.toNat_of_nonneg hat0).symm⟩
    show tSeq _ _ _ (L2.start N_law_next [V.ref p, V.int n] |>.set 2 (some (.int (k.fmod ((max 1 ns.length : Nat) : Int))))) H
    rw [eat] at hat1 ⊢
    have hat2 : at' < max 1 ns.length := Int.ofNat_lt.mp hat1
    -- cell
    refine ⟨_, rfl, p, _, 1, .ref q, rfl, rfl, SqL.of hp, atI_nat (j := 1) rfl, Nat.zero_le _, fun e he => ?_⟩
    have npe : p ≠ e := ne_of_none hp he
    have nqe : q ≠ e := ne_of_none hq he
    have hp1 : upd H e (.lst []) p = some (.lst [.int m, .ref q, .int k]) := by rw [upd_ne npe]; exact hp
    have hq1 : upd H e (.lst []) q = some (.lst (ns.map V.int)) := by rw [upd_ne nqe]; exact hq
    have k1 : Keep [p, q] H (upd H e (.lst [])) := keep_new (Keep.refl _ _) he
    have d1 : Dom H (upd H e (.lst [])) := dom_upd _ _ _
    have de : Dp K (upd H e (.lst [])) (.ref e) (.list []) := .lst (SqL.of upd_same) .nil
    generalize upd H e (.lst []) = H1 at *
    refine ⟨.list (ns.map PyData.int), .list [], .lst (SqL.of hq1) (dpAll_ints ns), de, (Lay.list (k := 0) fun x _ => Lay.int x).shaped (by decide), Lay.nil.shaped (by decide), _, rfl, ?_⟩
    rw [eqv_nil]
    refine ife_skip (fun v H2 => ∃ cell : Int, v = .int cell ∧ H2 = H1 ∧ ((1000000000000000000 : Int) ≤ cell → ns[at']? = some cell)) (fun v H2 ⟨cell, ev, eh, hcell⟩ => ?_) (fun e rest => ?_) (fun e rest => ?_)
    case refine_2 =>
      have hne : ns ≠ [] := fun z => by subst z; exact absurd e (by decide)
      have hl0 : 0 < ns.length := List.length_pos_iff.mpr hne
      have hlt : at' < ns.length := by omega
      refine ⟨_, rfl, p, _, 1, .ref q, rfl, rfl, SqL.of hp1, atI_nat (j := 1) rfl, _, rfl, q, _, at', .int ns[at'], rfl, rfl, SqL.of hq1, atI_nat (by rw [List.getElem?_map, List.getElem?_eq_getElem hlt]; rfl), ?_⟩
      exact rest _ _ ⟨_, rfl, rfl, fun _ => List.getElem?_eq_getElem hlt⟩
    case refine_3 => exact rest _ _ ⟨0, rfl, rfl, fun z => absurd z (by decide)⟩
    subst ev eh
    refine ⟨_, rfl, 10, 18, rfl, rfl, ⟨by decide, by decide, by decide⟩, _, _, rfl, rfl, _, rfl, ite2 (fun e => ?_) (fun e => ?_)⟩
    · have hc : (1000000000000000000 : Int) ≤ cell := of_decide_eq_true e
      have hg := hcell hc
      have hlt : at' < ns.length := (List.getElem?_eq_some_iff.mp hg).1
      have hcq : CDivN cell n := ⟨by omega, by omega⟩
      refine ⟨_, rfl, _, rfl, cell, n, rfl, rfl, hcq, _, rfl, p, _, 1, .ref q, rfl, rfl, SqL.of hp1, atI_nat (j := 1) rfl, _, rfl, q, _, _, at', rfl, rfl, hq1, ?_, ?_⟩
      · unfold ixN
        rw [List.length_map, if_pos (by omega), if_pos (by omega)]
        simp
      · refine ⟨_, rfl, _, rfl, cell, n, rfl, rfl, (by show n ≠ 0; omega), ?_⟩
        rw [show (ns.map V.int).set at' (V.int (cell.fdiv n)) = (ns.set at' (cell.fdiv n)).map V.int by rw [List.map_set]]
        refine fin _ _ (fmod_nn n0) (fmod_lt n0) ⟨m, k, _, npq, by rw [upd_ne npq]; exact hp1, upd_same, m0, m1, k0, by rw [List.length_set]; exact hns⟩ (keep_upd k1 (by simp)) (d1.upd _ _)
    · -- h[0] = ..
      refine ⟨_, rfl, p, _, 0, .int m, rfl, rfl, SqL.of hp1, atI_nat (j := 0) rfl, m, 48271, rfl, rfl, .inr (by decide), ?_⟩
      refine ⟨_, rfl, cell, 69621, rfl, rfl, .inr (by decide), _, _, rfl, rfl, _, 11, rfl, rfl, _, 2147483647, rfl, rfl, (by decide : (2147483647 : Int) ≠ 0), ?_⟩
      refine ⟨_, rfl, p, _, 0, 0, rfl, rfl, hp1, rfl, ?_⟩
      have hm0 : 0 ≤ (m * 48271 + cell * 69621 + 11).fmod 2147483647 := fmod_nn (by decide)
      have hm1 : (m * 48271 + cell * 69621 + 11).fmod 2147483647 < 2147483647 := fmod_lt (by decide)
      show tSeq _ _ _ _ (upd H2 p (.lst [.int ((m * 48271 + cell * 69621 + 11).fmod 2147483647), .ref q, .int k]))
      generalize (m * 48271 + cell * 69621 + 11).fmod 2147483647 = m' at *
      -- h[2] = h[2] + 1
      refine ⟨_, rfl, p, _, 2, .int k, rfl, rfl, SqL.of upd_same, atI_nat (j := 2) rfl, k, 1, rfl, rfl, _, rfl, p, _, 2, 2, rfl, rfl, upd_same, rfl, ?_⟩
      rw [upd_upd]
      -- return h[0] // 7 % many
      refine ⟨_, rfl, p, _, 0, .int m', rfl, rfl, SqL.of upd_same, atI_nat (j := 0) rfl, m', 7, rfl, rfl, ⟨by decide, by decide⟩, _, rfl, _, n, rfl, rfl, (by show n ≠ 0; omega), ?_⟩
      exact fin _ _ (fmod_nn n0) (fmod_lt n0) ⟨m', k + 1, ns, npq, upd_same, by rw [upd_ne npq.symm]; exact hq1, hm0, hm1, by omega, hns⟩ (keep_upd k1 (by simp)) (d1.upd _ _)
end
end K16

namespace K16
open PySem PySem.Spec PyProof.Rows L2 Sky
section
variable {P : Program} {w : World} {K : PySem.W.Frag} {mg : Str → Option Value} {base : Heap}
/-! ### what is alike -/
def sp_alike (K : PySem.W.Frag) : Nat → Sp
  | 0 => fun _ _ _ _ => False
  | n + 1 => fun vs H Q _ => ∃ (v u : V) (d : PyData), vs = [v, u] ∧ Dp K H v d ∧ Dp K H u d ∧ DOk n d ∧ ∀ H', Same H H' → Q (.bl true) H'
theorem isi {x : V} {n m : String} {b : Bool} {H : Hp} {Q : VK} (ty : TyX K H x (.type n)) (k : kitB n m = some b) (q : Q (.bl b) H) : rIsi K [x, .ty m] H Q := ⟨x, _, _, _, b, rfl, .ty m, ty, kit_ty k, q⟩
theorem isi2 {x : V} {n m m' : String} {b : Bool} {tp : Addr} {H : Hp} {Q : VK} (ht : H tp = some (.tup [.ty m, .ty m'])) (ty : TyX K H x (.type n)) (k : PySem.W.kitAny K (.type n) [.type m, .type m'] = some b) (q : Q (.bl b) H) : rIsiT K [x, .ref tp] H Q :=
  ⟨x, tp, _, _, _, b, rfl, ht, .cons (.ty _) (.cons (.ty _) .nil), ty, k, q⟩
theorem ok_law_alike (T : Tx K mg) : ∀ n, FnOk P w K mg base CX0 n T.a_law_alike T.d_law_alike ["_law_found", "_law_due"] (sp_alike K n)
  | 0 => ⟨fun vs H Q E h => False.elim h, by intros; rename_i h; first | exact False.elim h | (rename_i h _; exact False.elim h) | (rename_i h _ _; exact False.elim h)⟩
  | n + 1 => by
    have ih := ok_law_alike T n
    have nd := sc_law_alike.nd
    refine T.F_law_alike.ok sc_law_alike (fun vs H Q E h => ?_) (fun cdv A outer s H vs Q E hr h => ?_)
    · obtain ⟨_, _, _, rfl, _⟩ := h
      rfl
    · obtain ⟨v, u, d, rfl, h1, h2, hd, q⟩ := h
      refine ⟨_, (pss_cons (ps_if (pt_val (pe_callB call_isiT (by rfl) T.z_isinstance (by decide +kernel) (pa_cons (pv 1) (pa_cons (pe_tup (pa_cons (pe_bltn (v := .ty "tuple") (u := .type "tuple") (by rfl) T.z_tuple (by decide +kernel) rfl) (pa_cons (pe_bltn (v := .ty "list") (u := .type "list") (by rfl) T.z_list (by decide +kernel) rfl) pa_nil))) pa_nil)))) (pss_cons (ps_if (PW.pt (pw_or (pt_not (pt_val (pe_callB call_isiT (by rfl) T.z_isinstance (by decide +kernel) (pa_cons (pv 0) (pa_cons (pe_tup (pa_cons (pe_bltn (v := .ty "tuple") (u := .type "tuple") (by rfl) T.z_tuple (by decide +kernel) rfl) (pa_cons (pe_bltn (v := .ty "list") (u := .type "list") (by rfl) T.z_list (by decide +kernel) rfl) pa_nil))) pa_nil))))) (pw_or1 (pt_cmpR op_ne (pe_callB call_isi (by rfl) T.z_isinstance (by decide +kernel) (pa_cons (pv 0) (pa_cons (pe_bltn (v := .ty "list") (u := .type "list") (by rfl) T.z_list (by decide +kernel) rfl) pa_nil))) (pe_callB call_isi (by rfl) T.z_isinstance (by decide +kernel) (pa_cons (pv 1) (pa_cons (pe_bltn (v := .ty "list") (u := .type "list") (by rfl) T.z_list (by decide +kernel) rfl) pa_nil))) (nomark _))))) (pss_one (ps_ret pe_bl)) pss_nil) (pss_cons (ps_if (pt_cmpR op_ne (pe_callB call_len_seq (by rfl) T.z_len PySem.boot_len (pa_cons (pv 0) pa_nil)) (pe_callB call_len_seq (by rfl) T.z_len PySem.boot_len (pa_cons (pv 1) pa_nil)) (nomark _)) (pss_one (ps_ret pe_bl)) pss_nil) (pss_one (ps_ret (pe_cmpR (op_eqD hr.units) (pe_lc (own := [("_law_k", 2)]) rfl nd (pi_range1 rfl T.z_range (pa_cons (pe_callB call_len_seq (by rfl) T.z_len PySem.boot_len (pa_cons (pv 1) pa_nil)) pa_nil)) (blkOk_by (own := [("_law_k", 2)]) (N := N_law_alike) (sc := defScope s_law_alike) (by decide +kernel)) (fun _ _ _ _ _ => (pg_name (i := 2) nd rfl (Or.inl rfl))) (fun _ _ _ _ _ => (pts_one (pt_not (pt_val (pe_call ih hr (by rfl) T.m_law_alike T.F_law_alike.kp T.b_law_alike .nil pass0 (pa_cons (pe_ix (ix_seqK (K := K) rfl) (pv 0) (pv 2) (fun _ _ => rfl)) (pa_cons (pe_ix (ix_seqK (K := K) rfl) (pv 1) (pv 2) (fun _ _ => rfl)) pa_nil))))))) (fun _ _ _ _ _ => (pv 2))) (pe_lst pa_nil) (nomark _)))))) pss_nil) (pss_cons (ps_if (pt_cmpR op_isN (pv 1) pe_non (nomark _)) (pss_one (ps_ret (pe_cmpR op_isN (pv 0) pe_non (nomark _)))) pss_nil) (pss_cons (ps_if (pt_val (pe_callB call_isi (by rfl) T.z_isinstance (by decide +kernel) (pa_cons (pv 1) (pa_cons (pe_bltn (v := .ty "str") (u := .type "str") (by rfl) T.z_str (by decide +kernel) rfl) pa_nil)))) (pss_one (ps_ret (pe_and (pe_callB call_isi (by rfl) T.z_isinstance (by decide +kernel) (pa_cons (pv 0) (pa_cons (pe_bltn (v := .ty "str") (u := .type "str") (by rfl) T.z_str (by decide +kernel) rfl) pa_nil))) (pe_one (pe_cmpR op_eq (pv 0) (pv 1) (nomark _)))))) pss_nil) (pss_cons (ps_if (PW.pt (pw_or (pt_val (pe_callB call_isi (by rfl) T.z_isinstance (by decide +kernel) (pa_cons (pv 1) (pa_cons (pe_bltn (v := .ty "bool") (u := .type "bool") (by rfl) T.z_bool (by decide +kernel) rfl) pa_nil)))) (pw_or1 (pt_val (pe_callB call_isi (by rfl) T.z_isinstance (by decide +kernel) (pa_cons (pv 0) (pa_cons (pe_bltn (v := .ty "bool") (u := .type "bool") (by rfl) T.z_bool (by decide +kernel) rfl) pa_nil))))))) (pss_one (ps_ret (pe_and (pe_callB call_isi (by rfl) T.z_isinstance (by decide +kernel) (pa_cons (pv 1) (pa_cons (pe_bltn (v := .ty "bool") (u := .type "bool") (by rfl) T.z_bool (by decide +kernel) rfl) pa_nil))) (pe_and (pe_callB call_isi (by rfl) T.z_isinstance (by decide +kernel) (pa_cons (pv 0) (pa_cons (pe_bltn (v := .ty "bool") (u := .type "bool") (by rfl) T.z_bool (by decide +kernel) rfl) pa_nil))) (pe_one (pe_cmpR op_eq (pv 0) (pv 1) (nomark _))))))) pss_nil) (pss_one (ps_ret (pe_and (pe_callB call_isi (by rfl) T.z_isinstance (by decide +kernel) (pa_cons (pv 0) (pa_cons (pe_bltn (v := .ty "int") (u := .type "int") (by rfl) T.z_int (by decide +kernel) rfl) pa_nil))) (pe_one (pe_cmpR op_eq (pv 0) (pv 1) (nomark _)))))))))), ?_⟩
      -- if isinstance(due, (tuple, list))
      refine ⟨_, rfl, (by decide : (2 : Nat) ≤ sizeLine), fun tp htp => ?_⟩
      have s1 : Same H (upd H tp (.tup [.ty "tuple", .ty "list"])) := same_new (Same.refl _) htp
      have t1 : upd H tp (.tup [.ty "tuple", .ty "list"]) tp = some (.tup [.ty "tuple", .ty "list"]) := upd_same
      have a1 := dp_same s1 h1
      have a2 := dp_same s1 h2
      generalize upd H tp (.tup [.ty "tuple", .ty "list"]) = H1 at *
      have y1 := dp_ty a1
      have y2 := dp_ty a2
      have seq : (∃ ds : List PyData, (d = .list ds ∨ d = .tuple ds) ∧ ds.length ≤ 10000000 ∧ ∃ m, n = m + 1 ∧ ∀ e ∈ ds, DOk m e) ∨ (d = .none ∨ (∃ i, d = .int i) ∨ (∃ b, d = .bool b) ∨ ∃ x, d = .str x) := by
        cases n with
        | zero => exact .inr hd
        | succ m =>
          rcases hd with hd | ⟨ds, e, l, h⟩
          · exact .inr hd
          · exact .inl ⟨ds, e, l, m, rfl, h⟩
      rcases seq with ⟨ds, ed, hl, m, rfl, hds⟩ | rfl | ⟨i, rfl⟩ | ⟨b, rfl⟩ | ⟨x, rfl⟩
      · -- a list, a tuple
        have k2 : PySem.W.kitAny K (.type (tyN d)) [.type "tuple", .type "list"] = some true := by
          rcases ed with rfl | rfl
          · exact kit2T' (by decide +kernel : kitB "list" "tuple" = some false) (by decide +kernel : kitB "list" "list" = some true)
          · exact kit2T (by decide +kernel : kitB "tuple" "tuple" = some true)
        obtain ⟨b, kl⟩ : ∃ b, kitB (tyN d) "list" = some b := by
          rcases ed with rfl | rfl
          · exact ⟨true, (by decide +kernel : kitB "list" "list" = some true)⟩
          · exact ⟨false, (by decide +kernel : kitB "tuple" "list" = some false)⟩
        refine ⟨_, _, _, _, _, _, rfl, t1, .cons (.ty _) (.cons (.ty _) .nil), y2, k2, ?_⟩
        refine ⟨true, rfl, iteT ?_⟩
        refine ⟨_, rfl, (by decide : (2 : Nat) ≤ sizeLine), fun tp2 htp2 => ?_⟩
        have s2 : Same H1 (upd H1 tp2 (.tup [.ty "tuple", .ty "list"])) := same_new (Same.refl _) htp2
        have t2 : upd H1 tp2 (.tup [.ty "tuple", .ty "list"]) tp2 = some (.tup [.ty "tuple", .ty "list"]) := upd_same
        have b1 := dp_same s2 a1
        have b2 := dp_same s2 a2
        generalize upd H1 tp2 (.tup [.ty "tuple", .ty "list"]) = H2 at *
        have sH := s1.trans s2
        have z1 := dp_ty b1
        have z2 := dp_ty b2
        refine ⟨_, _, _, _, _, _, rfl, t2, .cons (.ty _) (.cons (.ty _) .nil), z1, k2, ?_⟩
        refine ⟨true, rfl, iteF ?_⟩
        refine ⟨_, rfl, _, _, _, _, b, rfl, .ty _, z1, kit_ty kl, ?_⟩
        refine ⟨_, rfl, _, _, _, _, b, rfl, .ty _, z2, kit_ty kl, ?_⟩
        refine ⟨rfl, false, ndF rfl, iteF ?_⟩
        -- the two as sequences
        obtain ⟨p, xs, ev, hp, hxs⟩ : ∃ p xs, v = .ref p ∧ (∀ H', Same H2 H' → (SqL K H' p xs ∧ d = .list ds) ∨ (SqT K H' p xs ∧ d = .tuple ds)) ∧ DpAll K H2 xs ds := by
          rcases ed with rfl | rfl
          · cases b1 with
            | lst h t => exact ⟨_, _, rfl, fun H' s' => .inl ⟨s'.seq h, rfl⟩, t⟩
          · cases b1 with
            | tup h t => exact ⟨_, _, rfl, fun H' s' => .inr ⟨by
                cases dp_same (K := K) s' (Dp.tup h t) with
                | tup h' t' =>
                  rcases h with (h | ⟨o, h⟩) | h
                  · exact .inl (.inl (s' _ _ h))
                  · exact .inl (.inr ⟨o, s' _ _ h⟩)
                  · exact .inr h, rfl⟩, t⟩
        obtain ⟨p', xs', eu, hp', hxs'⟩ : ∃ p xs, u = .ref p ∧ (∀ H', Same H2 H' → (SqL K H' p xs ∧ d = .list ds) ∨ (SqT K H' p xs ∧ d = .tuple ds)) ∧ DpAll K H2 xs ds := by
          rcases ed with rfl | rfl
          · cases b2 with
            | lst h t => exact ⟨_, _, rfl, fun H' s' => .inl ⟨s'.seq h, rfl⟩, t⟩
          · cases b2 with
            | tup h t => exact ⟨_, _, rfl, fun H' s' => .inr ⟨by
                rcases h with (h | ⟨o, h⟩) | h
                · exact .inl (.inl (s' _ _ h))
                · exact .inl (.inr ⟨o, s' _ _ h⟩)
                · exact .inr h, rfl⟩, t⟩
        subst ev eu
        have w1 : SqL K H2 p xs ∨ SqT K H2 p xs := by rcases hp H2 (Same.refl _) with h | h; exact .inl h.1; exact .inr h.1
        have w2 : SqL K H2 p' xs' ∨ SqT K H2 p' xs' := by rcases hp' H2 (Same.refl _) with h | h; exact .inl h.1; exact .inr h.1
        have l1 : xs.length = ds.length := DpAll.len hxs
        have l2 : xs'.length = ds.length := DpAll.len hxs'
        -- if len(found) != len(due)
        refine ⟨_, rfl, p, xs, rfl, w1, _, rfl, p', xs', rfl, w2, rfl, false, ndF (by rw [l1, l2]), iteF ?_⟩
        -- return [..] == []
        refine ⟨_, rfl, p', xs', rfl, w2, _, rfl, (by omega), (by omega), fun D hD => ?_⟩
        refine lc_range (lo := 0) (n := ((xs'.length : Nat) : Int).toNat) (fun i H' => Same H2 H' ∧ H' D = some (.lst [])) ⟨same_new (Same.refl _) hD, upd_same⟩ ?_ ?_
        · rintro i H' hi ⟨s', hD'⟩
          rw [Int.zero_add]
          have hi' : i < ds.length := by omega
          obtain ⟨y, hy, dy⟩ := DpAll.at hxs (List.getElem?_eq_getElem hi')
          obtain ⟨y', hy', dy'⟩ := DpAll.at hxs' (List.getElem?_eq_getElem hi')
          have fin : ∀ H3, Same H' H3 → Same H2 H3 ∧ H3 D = some (.lst []) := fun H3 s3 => ⟨s'.trans s3, s3 _ _ hD'⟩
          refine ⟨rfl, ?_⟩
          rcases hp H' s' with ⟨g1, ge⟩ | ⟨g1, ge⟩
          · rcases hp' H' s' with ⟨g2, _⟩ | ⟨_, ge'⟩
            · exact ⟨_, rfl, _, rfl, .inl ⟨p, xs, _, y, rfl, rfl, g1, atI_nat hy, _, rfl, _, rfl, .inl ⟨p', xs', _, y', rfl, rfl, g2, atI_nat hy', _, _, _, rfl, dp_same s' dy, dp_same s' dy', hds _ (List.getElem_mem hi'), fun H3 s3 => ⟨true, rfl, iteF (fin H3 s3)⟩⟩⟩⟩
            · rw [ge] at ge'; cases ge'
          · rcases hp' H' s' with ⟨_, ge'⟩ | ⟨g2, _⟩
            · rw [ge] at ge'; cases ge'
            · exact ⟨_, rfl, _, rfl, .inr (.inl ⟨p, xs, _, y, rfl, rfl, g1, atI_nat hy, _, rfl, _, rfl, .inr (.inl ⟨p', xs', _, y', rfl, rfl, g2, atI_nat hy', _, _, _, rfl, dp_same s' dy, dp_same s' dy', hds _ (List.getElem_mem hi'), fun H3 s3 => ⟨true, rfl, iteF (fin H3 s3)⟩⟩)⟩)⟩
        · rintro H' ⟨s', hD'⟩
          refine ⟨Nat.zero_le _, fun e he => ?_⟩
          have se := same_new (Same.refl _) he (o := .lst [])
          refine ⟨.list [], .list [], .lst (SqL.of (se _ _ hD')) .nil, .lst (SqL.of upd_same) .nil, Lay.nil.shaped (by decide), Lay.nil.shaped (by decide), ?_⟩
          rw [eqv_nil]
          exact q _ ((sH.trans s').trans se)
      · -- None
        cases a1
        cases a2
        refine ⟨_, _, _, _, _, _, rfl, t1, .cons (.ty _) (.cons (.ty _) .nil), y2, (kit2F (by decide +kernel : kitB "NoneType" "tuple" = some false) (by decide +kernel : kitB "NoneType" "list" = some false)), ?_⟩
        refine ⟨false, rfl, iteF ?_⟩
        refine ⟨_, rfl, rfl, true, dT rfl, iteT ⟨_, rfl, rfl, ?_⟩⟩
        exact q _ s1
      · -- an int
        cases a1
        cases a2
        refine ⟨_, _, _, _, _, _, rfl, t1, .cons (.ty _) (.cons (.ty _) .nil), y2, (kit2F (by decide +kernel : kitB "int" "tuple" = some false) (by decide +kernel : kitB "int" "list" = some false)), ?_⟩
        refine ⟨false, rfl, iteF ?_⟩
        refine ⟨_, rfl, rfl, false, dF (fun z => nomatch z), iteF ?_⟩
        refine ⟨_, rfl, _, _, _, _, false, rfl, .ty _, y2, kit_ty (by decide +kernel : kitB "int" "str" = some false), ?_⟩
        refine ⟨_, rfl, iteF ?_⟩
        refine ⟨_, rfl, _, _, _, _, false, rfl, .ty _, y2, kit_ty (by decide +kernel : kitB "int" "bool" = some false), ?_⟩
        refine ⟨_, rfl, iteF ?_⟩
        refine ⟨_, rfl, _, _, _, _, false, rfl, .ty _, y1, kit_ty (by decide +kernel : kitB "int" "bool" = some false), ?_⟩
        refine ⟨_, rfl, iteF ?_⟩
        refine ⟨_, rfl, _, _, _, _, true, rfl, .ty _, y1, kit_ty (by decide +kernel : kitB "int" "int" = some true), ?_⟩
        refine ⟨_, rfl, iteT ?_⟩
        exact ⟨_, rfl, _, rfl, rfl, bl_of rfl (q _ s1)⟩
      · -- True, False
        cases a1
        cases a2
        refine ⟨_, _, _, _, _, _, rfl, t1, .cons (.ty _) (.cons (.ty _) .nil), y2, (kit2F (by decide +kernel : kitB "bool" "tuple" = some false) (by decide +kernel : kitB "bool" "list" = some false)), ?_⟩
        refine ⟨false, rfl, iteF ?_⟩
        refine ⟨_, rfl, rfl, false, dF (fun z => nomatch z), iteF ?_⟩
        refine ⟨_, rfl, _, _, _, _, false, rfl, .ty _, y2, kit_ty (by decide +kernel : kitB "bool" "str" = some false), ?_⟩
        refine ⟨_, rfl, iteF ?_⟩
        refine ⟨_, rfl, _, _, _, _, true, rfl, .ty _, y2, kit_ty (by decide +kernel : kitB "bool" "bool" = some true), ?_⟩
        refine ⟨_, rfl, iteT ?_⟩
        refine ⟨_, rfl, _, _, _, _, true, rfl, .ty _, y2, kit_ty (by decide +kernel : kitB "bool" "bool" = some true), ?_⟩
        refine ⟨_, rfl, iteT ?_⟩
        refine ⟨_, rfl, _, _, _, _, true, rfl, .ty _, y1, kit_ty (by decide +kernel : kitB "bool" "bool" = some true), ?_⟩
        refine ⟨_, rfl, iteT ?_⟩
        exact ⟨_, rfl, _, rfl, rfl, bl_of rfl (q _ s1)⟩
      · -- a text
        cases a1
        cases a2
        refine ⟨_, _, _, _, _, _, rfl, t1, .cons (.ty _) (.cons (.ty _) .nil), y2, (kit2F (by decide +kernel : kitB "str" "tuple" = some false) (by decide +kernel : kitB "str" "list" = some false)), ?_⟩
        refine ⟨false, rfl, iteF ?_⟩
        refine ⟨_, rfl, rfl, false, dF (fun z => nomatch z), iteF ?_⟩
        refine ⟨_, rfl, _, _, _, _, true, rfl, .ty _, y2, kit_ty (by decide +kernel : kitB "str" "str" = some true), ?_⟩
        refine ⟨_, rfl, iteT ?_⟩
        refine ⟨_, rfl, _, _, _, _, true, rfl, .ty _, y1, kit_ty (by decide +kernel : kitB "str" "str" = some true), ?_⟩
        refine ⟨_, rfl, iteT ?_⟩
        exact ⟨_, rfl, _, rfl, rfl, bl_of rfl (q _ s1)⟩
end
end K16

namespace K16
open PySem PySem.Spec PyProof.Rows L2 Sky
/-! ### the word of a refusal -/
def kindW : List Str := ["BadFrames", "BadMarks", "BadLog", "BadText", "BadSize", "BadRoom", "BadStream", "BadData", "BadFrame", "BadPlan"]
def kindOf (j : Nat) : Str := kindW.getD j ""
def flagV (j : Nat) : List V := (List.range 10).map fun i => V.bl (decide (i = j))
theorem flag_all (j : Nat) : (flagV j).all flatV = true := rfl
theorem flag_count {j : Nat} (h : j < 10) : (flagV j).countP (fun z => eqV z (.bl true)) = 1 := by
  have : ∀ i : Fin 10, (flagV i.1).countP (fun z => eqV z (.bl true)) = 1 := by decide +kernel
  exact this ⟨j, h⟩
theorem flag_at {j m : Nat} (h : m < 10) : (flagV j)[m]? = some (.bl (decide (m = j))) := by
  unfold flagV
  rw [List.getElem?_map, List.getElem?_range h]
  rfl
section
variable {K : PySem.W.Frag} {mg : Str → Option Value}
/-- the ten classes -/
def kindC (T : Tx K mg) : List Addr := [T.A_BadFrames, T.A_BadMarks, T.A_BadLog, T.A_BadText, T.A_BadSize, T.A_BadRoom, T.A_BadStream, T.A_BadData, T.A_BadFrame, T.A_BadPlan]
/-- what is wished of a refusal: its word is told, with its place if it has one -/
def KindX (T : Tx K mg) (Q : VK) : XK := fun cls d H => ∃ C j, cls = .ref C ∧ j < 10 ∧ IsKind K T.A_SkyError (kindC T) C j ∧ HasD d H ∧
  if 3 < j then ∀ H', Same H H' → Q (.str (kindOf j)) H' else ∃ (dd : Addr) (fs : List (Str × V)) (v : V), d = some dd ∧ H dd = some (.xd fs) ∧ fs.lookup (if j = 3 then ("line" : Str) else "at") = some v ∧ ∀ t H', Same H H' → H t = none → H' t = some (.tup [.str (kindOf j), v]) → Q (.ref t) H'
def TKind (T : Tx K mg) : (XK → Hp → VK → Prop) → Hp → VK → Prop := fun tl H Q => tl (KindX T Q) H fun _ H' => Q (.str "") H'
end
theorem kind_gives {X : Cx} (T : Tx X.K X.mg) (g : Addr) (cdg : Value) (q : Str) : LamX.GivesTo X N_law_kind "_law_kind" (defScope s_law_kind) g cdg (defBody s_law_kind) "_law_work" q (TKind T) := by
  intro f c' s H Q tl act hc h
  have nd := sc_law_kind.nd
  have hn : Names (cxOf C8.CX0 X.prog X.w X.K X.mg X.base N_law_kind "_law_kind" (defScope s_law_kind) g cdg X.A X.stack s H C8.E0).nox "SkyError" (.ref T.A_SkyError) := ⟨by rfl, by decide +kernel, .inl T.g_SkyError⟩
  refine ⟨_, (pss_cons (ps_tryK (i := 1) act rfl rfl nd rfl rfl hn (fun exA exO exC exD pn hz hv => by exact (pss_cons (ps_set (i := 2) nd rfl (Or.inl rfl) (pe_lst (pa_cons (pe_callB (call_isX hz hv) (by rfl) T.z_isinstance (by decide +kernel) (pa_cons (pv 1) (pa_cons (pe_glob (v := .ref T.A_BadFrames) (by rfl) T.g_BadFrames rfl) pa_nil))) (pa_cons (pe_callB (call_isX hz hv) (by rfl) T.z_isinstance (by decide +kernel) (pa_cons (pv 1) (pa_cons (pe_glob (v := .ref T.A_BadMarks) (by rfl) T.g_BadMarks rfl) pa_nil))) (pa_cons (pe_callB (call_isX hz hv) (by rfl) T.z_isinstance (by decide +kernel) (pa_cons (pv 1) (pa_cons (pe_glob (v := .ref T.A_BadLog) (by rfl) T.g_BadLog rfl) pa_nil))) (pa_cons (pe_callB (call_isX hz hv) (by rfl) T.z_isinstance (by decide +kernel) (pa_cons (pv 1) (pa_cons (pe_glob (v := .ref T.A_BadText) (by rfl) T.g_BadText rfl) pa_nil))) pa_nil)))))) (pss_cons (ps_set (i := 2) nd rfl (Or.inl rfl) (pe_op op_cat (pv 2) (pe_lst (pa_cons (pe_callB (call_isX hz hv) (by rfl) T.z_isinstance (by decide +kernel) (pa_cons (pv 1) (pa_cons (pe_glob (v := .ref T.A_BadSize) (by rfl) T.g_BadSize rfl) pa_nil))) (pa_cons (pe_callB (call_isX hz hv) (by rfl) T.z_isinstance (by decide +kernel) (pa_cons (pv 1) (pa_cons (pe_glob (v := .ref T.A_BadRoom) (by rfl) T.g_BadRoom rfl) pa_nil))) (pa_cons (pe_callB (call_isX hz hv) (by rfl) T.z_isinstance (by decide +kernel) (pa_cons (pv 1) (pa_cons (pe_glob (v := .ref T.A_BadStream) (by rfl) T.g_BadStream rfl) pa_nil))) pa_nil)))))) (pss_cons (ps_set (i := 2) nd rfl (Or.inl rfl) (pe_op op_cat (pv 2) (pe_lst (pa_cons (pe_callB (call_isX hz hv) (by rfl) T.z_isinstance (by decide +kernel) (pa_cons (pv 1) (pa_cons (pe_glob (v := .ref T.A_BadData) (by rfl) T.g_BadData rfl) pa_nil))) (pa_cons (pe_callB (call_isX hz hv) (by rfl) T.z_isinstance (by decide +kernel) (pa_cons (pv 1) (pa_cons (pe_glob (v := .ref T.A_BadFrame) (by rfl) T.g_BadFrame rfl) pa_nil))) (pa_cons (pe_callB (call_isX hz hv) (by rfl) T.z_isinstance (by decide +kernel) (pa_cons (pv 1) (pa_cons (pe_glob (v := .ref T.A_BadPlan) (by rfl) T.g_BadPlan rfl) pa_nil))) pa_nil)))))) (pss_cons (ps_if (PW.pt (pw_or (pt_cmpR op_ne (pe_bmK (K := X.K) rfl PySem.F.plainAttrs_list PySem.F.slot_list_count PySem.F.type_list_count (mt_countFK (K := X.K) rfl) (pv 2) (pa_cons pe_bl pa_nil)) pe_int (nomark _)) (pw_or1 (pt_not (pt_val (pe_callB (call_isX hz hv) (by rfl) T.z_isinstance (by decide +kernel) (pa_cons (pv 1) (pa_cons (pe_bltn (v := .ty "ValueError") (u := .type "ValueError") (by rfl) T.z_ValueError (by decide +kernel) rfl) pa_nil)))))))) (pss_one (ps_ret pe_str)) pss_nil) (pss_cons (ps_set (i := 3) nd rfl (Or.inl rfl) (pe_lst (pa_cons pe_str (pa_cons pe_str (pa_cons pe_str (pa_cons pe_str (pa_cons pe_str (pa_cons pe_str (pa_cons pe_str (pa_cons pe_str (pa_cons pe_str pa_nil))))))))))) (pss_cons (ps_expr (pe_bmK (K := X.K) rfl PySem.F.plainAttrs_list PySem.F.slot_list_append PySem.F.type_list_append mt_append (pv 3) (pa_cons pe_str pa_nil))) (pss_cons (ps_set (i := 4) nd rfl (Or.inl rfl) (pe_bmK (K := X.K) rfl PySem.F.plainAttrs_list PySem.F.slot_list_index PySem.F.type_list_index (mt_indexK (K := X.K) rfl) (pv 2) (pa_cons pe_bl pa_nil))) (pss_one (ps_ret (pe_ifExp (pt_cmpR op_gt (pv 4) pe_int (nomark _)) (pe_ix (ix_listK (K := X.K) rfl) (pv 3) (pv 4) (fun _ _ => rfl)) (pe_tup (pa_cons (pe_ix (ix_listK (K := X.K) rfl) (pv 3) (pv 4) (fun _ _ => rfl)) (pa_cons (pe_ifExp (pt_cmpR op_eq (pv 4) pe_int (nomark _)) (pe_xfX hz hv (pv 1)) (pe_xfX hz hv (pv 1))) pa_nil))))))))))))))) (pss_one (ps_ret pe_str))), ?_⟩
  refine ⟨KindX T Q, fun cls d σ' H' hk hl => ?_, rfl, hc, h⟩
  obtain ⟨C, j, rfl, hj, kd, hd, hq⟩ := hk
  refine ⟨true, kd.sky, fun _ a ha => ?_, fun e => by cases e⟩
  obtain ⟨v0, v1, v2, v3, v4, rfl⟩ : ∃ v0 v1 v2 v3 v4, σ' = [v0, v1, v2, v3, v4] := by
    match σ', hl with
    | [v0, v1, v2, v3, v4], _ => exact ⟨_, _, _, _, _, rfl⟩
  have hasd : ∀ H2, Same H' H2 → HasD d H2 := fun H2 s2 => hd.imp id fun ⟨dd, fs, e1, e2⟩ => ⟨dd, fs, e1, s2 _ _ e2⟩
  have h0 : HasD d H' := hd
  refine ⟨_, rfl, C, .ref T.A_BadFrames, .ref T.A_BadFrames, decide (0 = j), rfl, kd.ask, h0, rfl, fun u r => r, kd.kit 0 (by decide : (0 : Nat) < 10), ⟨_, rfl, C, .ref T.A_BadMarks, .ref T.A_BadMarks, decide (1 = j), rfl, kd.ask, h0, rfl, fun u r => r, kd.kit 1 (by decide : (1 : Nat) < 10), ⟨_, rfl, C, .ref T.A_BadLog, .ref T.A_BadLog, decide (2 = j), rfl, kd.ask, h0, rfl, fun u r => r, kd.kit 2 (by decide : (2 : Nat) < 10), ⟨_, rfl, C, .ref T.A_BadText, .ref T.A_BadText, decide (3 = j), rfl, kd.ask, h0, rfl, fun u r => r, kd.kit 3 (by decide : (3 : Nat) < 10), ⟨(by decide : (4 : Nat) ≤ sizeLine), fun p1 n1 => ?_⟩⟩⟩⟩⟩
  have s1 := same_new (Same.refl H') n1 (o := .lst [.bl (decide (0 = j)), .bl (decide (1 = j)), .bl (decide (2 = j)), .bl (decide (3 = j))])
  have e1 : upd H' p1 (.lst [.bl (decide (0 = j)), .bl (decide (1 = j)), .bl (decide (2 = j)), .bl (decide (3 = j))]) p1 = some (.lst [.bl (decide (0 = j)), .bl (decide (1 = j)), .bl (decide (2 = j)), .bl (decide (3 = j))]) := upd_same
  generalize upd H' p1 (.lst [.bl (decide (0 = j)), .bl (decide (1 = j)), .bl (decide (2 = j)), .bl (decide (3 = j))]) = H1 at *
  have h1 := hasd _ s1
  refine ⟨_, rfl, ⟨_, rfl, C, .ref T.A_BadSize, .ref T.A_BadSize, decide (4 = j), rfl, kd.ask, h1, rfl, fun u r => r, kd.kit 4 (by decide : (4 : Nat) < 10), ⟨_, rfl, C, .ref T.A_BadRoom, .ref T.A_BadRoom, decide (5 = j), rfl, kd.ask, h1, rfl, fun u r => r, kd.kit 5 (by decide : (5 : Nat) < 10), ⟨_, rfl, C, .ref T.A_BadStream, .ref T.A_BadStream, decide (6 = j), rfl, kd.ask, h1, rfl, fun u r => r, kd.kit 6 (by decide : (6 : Nat) < 10), ⟨(by decide : (3 : Nat) ≤ sizeLine), fun p2 n2 => ?_⟩⟩⟩⟩⟩
  have s2 := same_new (Same.refl H1) n2 (o := .lst [.bl (decide (4 = j)), .bl (decide (5 = j)), .bl (decide (6 = j))])
  have e2 : upd H1 p2 (.lst [.bl (decide (4 = j)), .bl (decide (5 = j)), .bl (decide (6 = j))]) p2 = some (.lst [.bl (decide (4 = j)), .bl (decide (5 = j)), .bl (decide (6 = j))]) := upd_same
  generalize upd H1 p2 (.lst [.bl (decide (4 = j)), .bl (decide (5 = j)), .bl (decide (6 = j))]) = H2 at *
  refine ⟨p1, p2, _, _, rfl, rfl, s2 _ _ e1, e2, (by show 7 ≤ sizeLine; decide), fun p3 n3 => ?_⟩
  have s3 := same_new (Same.refl H2) n3 (o := .lst ([.bl (decide (0 = j)), .bl (decide (1 = j)), .bl (decide (2 = j)), .bl (decide (3 = j))] ++ [.bl (decide (4 = j)), .bl (decide (5 = j)), .bl (decide (6 = j))]))
  have e3 : upd H2 p3 (.lst ([.bl (decide (0 = j)), .bl (decide (1 = j)), .bl (decide (2 = j)), .bl (decide (3 = j))] ++ [.bl (decide (4 = j)), .bl (decide (5 = j)), .bl (decide (6 = j))])) p3 = some (.lst [.bl (decide (0 = j)), .bl (decide (1 = j)), .bl (decide (2 = j)), .bl (decide (3 = j)), .bl (decide (4 = j)), .bl (decide (5 = j)), .bl (decide (6 = j))]) := upd_same
  generalize upd H2 p3 (.lst ([.bl (decide (0 = j)), .bl (decide (1 = j)), .bl (decide (2 = j)), .bl (decide (3 = j))] ++ [.bl (decide (4 = j)), .bl (decide (5 = j)), .bl (decide (6 = j))])) = H3 at *
  have h3 := hasd _ ((s1.trans s2).trans s3)
  refine ⟨_, rfl, ⟨_, rfl, C, .ref T.A_BadData, .ref T.A_BadData, decide (7 = j), rfl, kd.ask, h3, rfl, fun u r => r, kd.kit 7 (by decide : (7 : Nat) < 10), ⟨_, rfl, C, .ref T.A_BadFrame, .ref T.A_BadFrame, decide (8 = j), rfl, kd.ask, h3, rfl, fun u r => r, kd.kit 8 (by decide : (8 : Nat) < 10), ⟨_, rfl, C, .ref T.A_BadPlan, .ref T.A_BadPlan, decide (9 = j), rfl, kd.ask, h3, rfl, fun u r => r, kd.kit 9 (by decide : (9 : Nat) < 10), ⟨(by decide : (3 : Nat) ≤ sizeLine), fun p4 n4 => ?_⟩⟩⟩⟩⟩
  have s4 := same_new (Same.refl H3) n4 (o := .lst [.bl (decide (7 = j)), .bl (decide (8 = j)), .bl (decide (9 = j))])
  have e4 : upd H3 p4 (.lst [.bl (decide (7 = j)), .bl (decide (8 = j)), .bl (decide (9 = j))]) p4 = some (.lst [.bl (decide (7 = j)), .bl (decide (8 = j)), .bl (decide (9 = j))]) := upd_same
  generalize upd H3 p4 (.lst [.bl (decide (7 = j)), .bl (decide (8 = j)), .bl (decide (9 = j))]) = H4 at *
  refine ⟨p3, p4, _, _, rfl, rfl, s4 _ _ e3, e4, (by show 10 ≤ sizeLine; decide), fun p5 n5 => ?_⟩
  have s5 := same_new (Same.refl H4) n5 (o := .lst (flagV j))
  have e5 : upd H4 p5 (.lst ([.bl (decide (0 = j)), .bl (decide (1 = j)), .bl (decide (2 = j)), .bl (decide (3 = j)), .bl (decide (4 = j)), .bl (decide (5 = j)), .bl (decide (6 = j))] ++ [.bl (decide (7 = j)), .bl (decide (8 = j)), .bl (decide (9 = j))])) p5 = some (.lst (flagV j)) := upd_same
  have s5 : Same H4 (upd H4 p5 (.lst ([.bl (decide (0 = j)), .bl (decide (1 = j)), .bl (decide (2 = j)), .bl (decide (3 = j)), .bl (decide (4 = j)), .bl (decide (5 = j)), .bl (decide (6 = j))] ++ [.bl (decide (7 = j)), .bl (decide (8 = j)), .bl (decide (9 = j))]))) := s5
  generalize upd H4 p5 (.lst ([.bl (decide (0 = j)), .bl (decide (1 = j)), .bl (decide (2 = j)), .bl (decide (3 = j)), .bl (decide (4 = j)), .bl (decide (5 = j)), .bl (decide (6 = j))] ++ [.bl (decide (7 = j)), .bl (decide (8 = j)), .bl (decide (9 = j))])) = H5 at *
  have s05 := (((s1.trans s2).trans s3).trans s4).trans s5
  have h5 := hasd _ s05
  refine ⟨_, rfl, .inl ⟨rfl, _, SqL.of e5⟩, ⟨p5, flagV j, .bl true, rfl, rfl, SqL.of e5, rfl, flag_all j, ?_⟩⟩
  rw [flag_count hj]
  refine ⟨rfl, false, rfl, iteF ⟨_, rfl, C, .ty "ValueError", .type "ValueError", true, rfl, kd.ask, h5, rfl, fun u r => r, kd.ve, true, rfl, iteF ?_⟩⟩
  refine ⟨(by decide : (9 : Nat) ≤ sizeLine), fun p6 n6 => ?_⟩
  have s6 := same_new (Same.refl H5) n6 (o := .lst [.str "BadFrames", .str "BadMarks", .str "BadLog", .str "BadText", .str "BadSize", .str "BadRoom", .str "BadStream", .str "BadData", .str "BadFrame"])
  have e6 : upd H5 p6 (.lst [.str "BadFrames", .str "BadMarks", .str "BadLog", .str "BadText", .str "BadSize", .str "BadRoom", .str "BadStream", .str "BadData", .str "BadFrame"]) p6 = some (.lst [.str "BadFrames", .str "BadMarks", .str "BadLog", .str "BadText", .str "BadSize", .str "BadRoom", .str "BadStream", .str "BadData", .str "BadFrame"]) := upd_same
  generalize upd H5 p6 (.lst [.str "BadFrames", .str "BadMarks", .str "BadLog", .str "BadText", .str "BadSize", .str "BadRoom", .str "BadStream", .str "BadData", .str "BadFrame"]) = H6 at *
  refine ⟨_, rfl, .inl ⟨rfl, _, SqL.of e6⟩, p6, _, _, rfl, rfl, e6, lt_line (by decide), ?_⟩
  have e7 : upd H6 p6 (.lst ([.str "BadFrames", .str "BadMarks", .str "BadLog", .str "BadText", .str "BadSize", .str "BadRoom", .str "BadStream", .str "BadData", .str "BadFrame"] ++ [.str "BadPlan"])) p6 = some (.lst (kindW.map V.str)) := upd_same
  have s7 : Same H5 (upd H6 p6 (.lst ([.str "BadFrames", .str "BadMarks", .str "BadLog", .str "BadText", .str "BadSize", .str "BadRoom", .str "BadStream", .str "BadData", .str "BadFrame"] ++ [.str "BadPlan"]))) := same_mut s6 n6
  generalize upd H6 p6 (.lst ([.str "BadFrames", .str "BadMarks", .str "BadLog", .str "BadText", .str "BadSize", .str "BadRoom", .str "BadStream", .str "BadData", .str "BadFrame"] ++ [.str "BadPlan"])) = H7 at *
  have s07 := s05.trans s7
  have h7 := hasd _ s07
  have e57 := s7 _ _ e5
  refine ⟨_, rfl, .inl ⟨rfl, _, SqL.of e57⟩, p5, flagV j, .bl true, j, .bl (decide (j = j)), rfl, rfl, SqL.of e57, rfl, flag_all j, flag_at hj, by rw [decide_eq_true rfl]; rfl, fun m z hm hz => ?_, ?_⟩
  · rw [flag_at (by omega)] at hz
    cases hz
    rw [decide_eq_false (by omega)]
    rfl
  have ek : (kindW.map V.str)[j]? = some (.str (kindOf j)) := by
    have : j < kindW.length := hj
    unfold kindOf
    rw [List.getElem?_map, List.getD_eq_getElem?_getD, List.getElem?_eq_getElem this]
    rfl
  refine ⟨_, rfl, _, 3, rfl, rfl, _, rfl, ite2 (fun h3j => ?_) (fun h3j => ?_)⟩
  · have h3j : 3 < j := by have := of_decide_eq_true h3j; omega
    rw [if_pos h3j] at hq
    exact ⟨_, rfl, _, rfl, p6, _, _, _, rfl, rfl, SqL.of e7, atI_nat ek, hq _ s07⟩
  · have h3j : ¬ 3 < j := fun z => h3j (decide_eq_true (by omega))
    rw [if_neg h3j] at hq
    obtain ⟨dd, fs, v, ed, hx, hl2, fin⟩ := hq
    have hx7 := s07 _ _ hx
    refine ⟨_, rfl, _, rfl, p6, _, _, _, rfl, rfl, SqL.of e7, atI_nat ek, _, rfl, rfl, _, rfl, ?_⟩
    refine ite2 (fun e3 => ?_) (fun e3 => ?_)
    · have e3 : j = 3 := by
        have := V.int.inj (of_decide_eq_true e3)
        omega
      rw [if_pos e3] at hl2
      refine ⟨C, kd.ask, kd.line, _, rfl, rfl, rfl, dd, fs, v, ed, hx7, hl2, (by decide : (2 : Nat) ≤ sizeLine), fun p8 n8 => ?_⟩
      exact fin p8 _ (same_new s07 n8) (s07.free n8) upd_same
    · have e3 : ¬ j = 3 := fun z => e3 (decide_eq_true (by rw [z]; rfl))
      rw [if_neg e3] at hl2
      refine ⟨C, kd.ask, kd.at_, _, rfl, rfl, rfl, dd, fs, v, ed, hx7, hl2, (by decide : (2 : Nat) ≤ sizeLine), fun p8 n8 => ?_⟩
      exact fin p8 _ (same_new s07 n8) (s07.free n8) upd_same
/-- a lambda's name in a def -/
abbrev lamQ (n : Str) : Str := n ++ ".<locals>." ++ "<lambda>"
theorem pe_kind {X : Cx} (T : Tx X.K X.mg) {TS : List (Addr × Str)} {c Pt : Addr} {k : Nat} {params : Arguments} {body : Expr} {scope : Scope} {t : XK → TE} {p lpos pos : Pos} (gl : Gl X "_law_kind") (TB : LamX.TabB X.base X.mg c Pt) (code : X.env.code = .ref c) (tab : (Pt, X.env.qual ++ "<lambda>") ∈ TS) (one : ∀ q ∈ TS, q.1 = Pt → q.2 = X.env.qual ++ "<lambda>") (hr : Room (k + 2) X.A) (L : LamX.LamS X.env.scope scope) (dfl : defaultsOf params X.env = ([], []))
    (bind : ∀ (q : Str) (cl : List (Str × Addr)) (pm cv ctv : Value), bindArgs (PySem.W.kla_fn "<lambda>" q params body scope cl pm cv ctv) ⟨[], []⟩ = pure [])
    (inside : ∀ (A : Around) (outer : List Env) (s : Shared) (H : Hp) (E : XK) (f c' : Addr), Room k (A.deeper (LamX.lamEnv X scope s.heap.objs.size f c')) → PE (LamX.lamCx X A outer s H E scope f c') body (t E)) :
    PE X (.Call (.Name "_law_kind" p) [.Lambda params body scope lpos] [] pos) (LamX.tLam TS (TKind T) t) := by
  obtain ⟨oc, od, kV, doc, pm, an, cdv, ct, osl, efd, lk, known⟩ := T.F_law_kind.ex
  have bd := T.b_law_kind
  rw [efd] at lk bd
  exact LamX.pe_lamcall gl T.m_law_kind T.F_law_kind.kp lk known bd sc_law_kind rfl (Or.inl rfl) (kind_gives T _ _ _) TB code tab one hr L dfl bind inside
end K16

namespace K16
open PySem PySem.Spec PyProof.Rows L2 Sky
theorem dec_str (a b : Str) : decide (V.str a = V.str b) = decide (a = b) := by
  by_cases e : a = b
  · rw [e, decide_eq_true rfl, decide_eq_true rfl]
  · rw [decide_eq_false e, decide_eq_false (fun h => e (by injection h))]
theorem cut_lo {xs : List V} {n : Nat} (h : n ≤ xs.length) : cutV xs none (some ((n : Nat) : Int)) = xs.take n := by
  unfold cutV
  rw [HT.sIx_none, HT.sIx_nat, Nat.min_eq_left h, List.drop_zero, Nat.sub_zero]
theorem cut_hi {xs : List V} {n : Nat} (h : n ≤ xs.length) : cutV xs (some ((n : Nat) : Int)) none = xs.drop n := by
  unfold cutV
  rw [HT.sIx_none, HT.sIx_nat, Nat.min_eq_left h]
  exact List.take_of_length_le (by rw [List.length_drop]; exact Nat.le_refl _)
end K16

namespace K16
open PySem PySem.Spec PyProof.Rows L2 Sky
section
variable {P : Program} {w : World} {K : PySem.W.Frag} {mg : Str → Option Value} {base : Heap}
theorem HAt.keep {H H' : Hp} {p q : Addr} {M : List Addr} (h : HAt H p q) (k : Keep M H H') (n : p ∉ M) (n' : q ∉ M) : HAt H' p q := by
  obtain ⟨m, k', ns, npq, hp, hq, r⟩ := h
  exact ⟨m, k', ns, npq, k _ _ n hp, k _ _ n' hq, r⟩
theorem HAt.same {H H' : Hp} {p q : Addr} (h : HAt H p q) (k : Same H H') : HAt H' p q := by
  obtain ⟨m, k', ns, npq, hp, hq, r⟩ := h
  exact ⟨m, k', ns, npq, k _ _ hp, k _ _ hq, r⟩
theorem HAt.ins {H : Hp} {p q : Addr} (h : HAt H p q) : (∃ o, H p = some o) ∧ ∃ o, H q = some o := by
  obtain ⟨m, k', ns, npq, hp, hq, r⟩ := h
  exact ⟨⟨_, hp⟩, ⟨_, hq⟩⟩
end
end K16

namespace K16
open PySem PySem.Spec PyProof.Rows L2 Sky TL
/-! ### words that are numbers -/
def isW (w : Str) : Bool := Txt.isascii w && (Txt.isdigit w && (decide (w.length ≤ 3) && (decide (w = "0") || decide ((tl w)[0]? ≠ some 48))))
theorem wr_okX : ∀ n, n < 1000 → isW (numW n) = true := by decide +kernel
theorem digit_at : ∀ c, c < 128 → Unicode.isDigit c = true → 48 ≤ c ∧ c ≤ 57 := by decide +kernel
theorem num_lists : (∀ a, a < 10 → numL a = [48 + a]) ∧ (∀ a, a < 10 → a ≠ 0 → ∀ b, b < 10 → numL (10 * a + b) = [48 + a, 48 + b]) ∧ ∀ a, a < 10 → a ≠ 0 → ∀ b, b < 10 → ∀ c, c < 10 → numL (100 * a + 10 * b + c) = [48 + a, 48 + b, 48 + c] := by
  refine ⟨by decide +kernel, by decide +kernel, by decide +kernel⟩
theorem isW_num {w : Str} (h : isW w = true) : ∃ n, n < 1000 ∧ w = numW n := by
  unfold isW at h
  simp only [Bool.and_eq_true, Bool.or_eq_true, decide_eq_true_eq] at h
  obtain ⟨h1, h2, h3, h4⟩ := h
  have dig : ∀ c ∈ tl w, 48 ≤ c ∧ c ≤ 57 := fun c hc => by
    have hm : c ∈ w.cps := Array.mem_toList_iff.mp hc
    have a1 : w.cps.all (· < 128) = true := h1
    have a2 : (w.length > 0 && w.cps.all Unicode.isDigit) = true := h2
    have a2 := (Bool.and_eq_true_iff.mp a2).2
    have b1 := Array.all_eq_true_iff_forall_mem.mp a1 c hm
    have b2 := Array.all_eq_true_iff_forall_mem.mp a2 c hm
    exact digit_at c (of_decide_eq_true b1) b2
  have hl : (tl w).length ≤ 3 := by rw [← len_tl]; exact h3
  have ne : 0 < (tl w).length := by
    have a2 : (w.length > 0 && w.cps.all Unicode.isDigit) = true := h2
    have := of_decide_eq_true (Bool.and_eq_true_iff.mp a2).1
    rw [← len_tl]; exact this
  have h0 : tl w = [48] ∨ (tl w)[0]? ≠ some 48 := h4.imp (fun e => by rw [e]; rfl) id
  obtain ⟨q1, q2, q3⟩ := num_lists
  have fin : ∀ n, n < 1000 → tl w = numL n → ∃ n, n < 1000 ∧ w = numW n := fun n hn e => ⟨n, hn, ext_tl (by rw [e, numW_tl])⟩
  match e : tl w with
  | [] => rw [e] at ne; exact absurd ne (Nat.lt_irrefl _)
  | [a] =>
    rw [e] at dig
    obtain ⟨d1, d2⟩ := dig a (by simp)
    refine fin (a - 48) (by omega) ?_
    rw [q1 _ (by omega), e]
    congr 1; omega
  | [a, b] =>
    rw [e] at dig h0
    obtain ⟨d1, d2⟩ := dig a (by simp)
    obtain ⟨d3, d4⟩ := dig b (by simp)
    have na : a - 48 ≠ 0 := fun z => by
      rcases h0 with g | g
      · cases g
      · exact g (congrArg some (show a = 48 by omega))
    refine fin (10 * (a - 48) + (b - 48)) (by omega) ?_
    rw [q2 _ (by omega) na _ (by omega), e]
    congr 1
    · omega
    · congr 1; omega
  | [a, b, c] =>
    rw [e] at dig h0
    obtain ⟨d1, d2⟩ := dig a (by simp)
    obtain ⟨d3, d4⟩ := dig b (by simp)
    obtain ⟨d5, d6⟩ := dig c (by simp)
    have na : a - 48 ≠ 0 := fun z => by
      rcases h0 with g | g
      · cases g
      · exact g (congrArg some (show a = 48 by omega))
    refine fin (100 * (a - 48) + 10 * (b - 48) + (c - 48)) (by omega) ?_
    rw [q3 _ (by omega) na _ (by omega) _ (by omega), e]
    congr 1
    · omega
    · congr 1
      · omega
      · congr 1; omega
  | a :: b :: c :: d :: r =>
    rw [e] at hl
    exact absurd hl (by simp)
def numOf (w : Str) : Nat := ((intText? w).getD 0).toNat
theorem numW_intX {n : Nat} (h : n < 1000) : intText? (numW n) = some ((n : Nat) : Int) := int_num (by have := numL_len (n := n) (k := 3) (by decide) (by omega); omega)
theorem numW_lenX {n : Nat} (h : n < 1000) : (numW n).length ≤ 3 := by rw [len_tl, numW_tl]; exact numL_len (by decide) (by omega)
theorem numOf_num {n : Nat} (h : n < 1000) : numOf (numW n) = n := by
  unfold numOf
  rw [numW_intX h]
  exact Int.toNat_natCast n
theorem isW_int {w : Str} (h : isW w = true) : intText? w = some ((numOf w : Nat) : Int) ∧ w.length ≤ 3 ∧ numOf w < 1000 ∧ numW (numOf w) = w := by
  obtain ⟨n, hn, rfl⟩ := isW_num h
  rw [numOf_num hn]
  exact ⟨numW_intX hn, numW_lenX hn, hn, rfl⟩
/-! ### steps as words -/
inductive Wd where
  | bare (w : Str)
  | letter (w y : Str) (j : Nat)
  | close (s : Nat)
  | tell (s : Nat) (t : List Nat)
def bareL : List Str := ["begin", "shut", "beat", "ask", "settle"]
def lettL : List Str := ["hear", "lose", "twice"]
def waysL : List Str := ["down", "up"]
def natsD (t : List Nat) : PyData := .tuple (t.map fun n : Nat => .int (n : Int))
def wdD : Wd → PyData
  | .bare w => .tuple [.str w]
  | .letter w y j => .tuple [.str w, .str y, .int ((j : Nat) : Int)]
  | .close s => .tuple [.str "close", .int ((s : Nat) : Int)]
  | .tell s t => .tuple [.str "tell", .int ((s : Nat) : Int), natsD t]
def wdW : Wd → List Str
  | .bare w => [w]
  | .letter w y j => [w, y, numW j]
  | .close s => ["close", numW s]
  | .tell s t => "tell" :: numW s :: t.map numW
def WdOk : Wd → Prop
  | .bare w => w ∈ bareL
  | .letter w y j => w ∈ lettL ∧ y ∈ waysL ∧ j < 1000
  | .close s => s < 1000
  | .tell s t => s < 1000 ∧ t ≠ [] ∧ t.length ≤ 40 ∧ ∀ n ∈ t, n < 1000
/-- the step that words write -/
def stepM : List Str → Option Wd
  | [] => none
  | w :: r =>
    if w ∈ bareL ∧ r = [] then some (.bare w)
    else if w ∈ lettL ∧ r.length = 2 ∧ r.getD 0 "" ∈ waysL ∧ isW (r.getD 1 "") = true then some (.letter w (r.getD 0 "") (numOf (r.getD 1 "")))
    else if r.all isW = false then none
    else if w = "close" ∧ r.length = 1 then some (.close (numOf (r.getD 0 "")))
    else if w = "tell" ∧ 2 ≤ r.length then some (.tell (numOf (r.getD 0 "")) (r.tail.map numOf))
    else none
theorem stepM_bare {w : Str} (h : w ∈ bareL) : stepM [w] = some (.bare w) := if_pos ⟨h, rfl⟩
theorem stepM_letter {w y f : Str} (h1 : ¬ (w ∈ bareL ∧ [y, f] = [])) (h2 : w ∈ lettL) (h3 : y ∈ waysL) (h4 : isW f = true) : stepM [w, y, f] = some (.letter w y (numOf f)) := (if_neg h1).trans (if_pos ⟨h2, rfl, h3, h4⟩)
theorem stepM_odd {w : Str} {r : List Str} (h1 : ¬ (w ∈ bareL ∧ r = [])) (h2 : ¬ (w ∈ lettL ∧ r.length = 2 ∧ r.getD 0 "" ∈ waysL ∧ isW (r.getD 1 "") = true)) (h3 : r.all isW = false) : stepM (w :: r) = none := (if_neg h1).trans ((if_neg h2).trans (if_pos h3))
theorem stepM_num {w : Str} {r : List Str} (h1 : ¬ (w ∈ bareL ∧ r = [])) (h2 : ¬ (w ∈ lettL ∧ r.length = 2 ∧ r.getD 0 "" ∈ waysL ∧ isW (r.getD 1 "") = true)) (h3 : r.all isW = true) :
    stepM (w :: r) = if w = "close" ∧ r.length = 1 then some (.close (numOf (r.getD 0 ""))) else if w = "tell" ∧ 2 ≤ r.length then some (.tell (numOf (r.getD 0 "")) (r.tail.map numOf)) else none := (if_neg h1).trans ((if_neg h2).trans (if_neg (by rw [h3]; decide)))
theorem stepM_words {d : Wd} (ok : WdOk d) : stepM (wdW d) = some d := by
  cases d with
  | bare w => exact stepM_bare ok
  | letter w y j =>
    obtain ⟨o1, o2, o3⟩ := ok
    have := stepM_letter (w := w) (y := y) (f := numW j) (fun h => by cases h.2) o1 o2 (wr_okX j o3)
    rw [numOf_num o3] at this
    exact this
  | close s =>
    have o : s < 1000 := ok
    have h := stepM_num (w := "close") (r := [numW s]) (fun h => by cases h.2) (fun h => by cases h.2.1) (by rw [List.all_cons, wr_okX s o]; rfl)
    rw [if_pos ⟨rfl, rfl⟩] at h
    exact h.trans (congrArg (fun n => some (Wd.close n)) (numOf_num o))
  | tell s t =>
    obtain ⟨o1, o2, o3, o4⟩ := ok
    have hl : 0 < t.length := List.length_pos_iff.mpr o2
    have hall : ((numW s :: t.map numW).all isW) = true := by
      rw [List.all_eq_true]
      intro w hw
      rcases List.mem_cons.mp hw with e | e
      · rw [e]; exact wr_okX s o1
      · obtain ⟨n, hn, rfl⟩ := List.mem_map.mp e
        exact wr_okX n (o4 n hn)
    have nt : ("tell" : Str) ∉ lettL := by decide +kernel
    have nc : ("tell" : Str) ≠ "close" := by decide +kernel
    have h := stepM_num (w := "tell") (r := numW s :: t.map numW) (fun h => by cases h.2) (fun h => nt h.1) hall
    rw [if_neg (fun h => nc h.1), if_pos ⟨rfl, by rw [List.length_cons, List.length_map]; omega⟩] at h
    refine h.trans ?_
    show some (Wd.tell (numOf (numW s)) ((t.map numW).map numOf)) = _
    rw [numOf_num o1, List.map_map]
    congr 2
    conv => rhs; rw [← List.map_id t]
    exact List.map_congr_left fun n hn => numOf_num (o4 n hn)
end K16

namespace K16
open PySem PySem.Spec PyProof.Rows L2 Sky TL
section
variable {P : Program} {w : World} {K : PySem.W.Frag} {mg : Str → Option Value} {base : Heap}
def sp_isw : Sp := fun vs H Q _ => ∃ x : Str, vs = [.str x] ∧ x.length ≤ 1000000 ∧ Q (.bl (isW x)) H
theorem ok_is_written_number (T : Tx K mg) : FnOk P w K mg base CX0 1 T.a_is_written_number T.d_is_written_number ["figures"] sp_isw := by
  have nd := sc_is_written_number.nd
  refine T.F_is_written_number.ok sc_is_written_number (fun vs H Q E h => ?_) (fun cdv A0 outer s0 H vs Q E hr h => ?_)
  · obtain ⟨_, rfl, _⟩ := h
    rfl
  · obtain ⟨x, rfl, hx, fin⟩ := h
    refine ⟨_, (pss_cons (ps_if (PW.pt (pw_or (pt_not (pt_val (pe_m0 PySem.F.slot_str_isascii PySem.F.type_str_isascii mt_isascii (pv 0)))) (pw_or (pt_not (pt_val (pe_m0 PySem.F.slot_str_isdigit PySem.F.type_str_isdigit mt_isdigit (pv 0)))) (pw_or1 (pt_cmpR op_gt (pe_callB call_len_str (by rfl) T.z_len PySem.boot_len (pa_cons (pv 0) pa_nil)) (pe_glob (v := .int 3) (by rfl) T.c_MOST_FIGURES ⟨_, rfl⟩) (nomark _)))))) (pss_one (ps_ret pe_bl)) pss_nil) (pss_one (ps_ret (pe_or (pe_cmpR op_eq (pv 0) pe_str (nomark _)) (pe_one (pe_cmpR op_ne (pe_ix ix_str (pv 0) pe_int (fun _ _ => rfl)) pe_str (nomark _))))))), ?_⟩
    refine ⟨_, rfl, ⟨_, rfl⟩, _, rfl, rfl, trivial, Txt.isascii x, rfl, ?_⟩
    unfold isW at fin
    cases h1 : Txt.isascii x with
    | false =>
      rw [h1] at fin
      exact iteT (iteT fin)
    | true =>
      refine iteF ⟨_, rfl, ⟨_, rfl⟩, _, rfl, rfl, trivial, Txt.isdigit x, rfl, ?_⟩
      rw [h1] at fin
      cases h2 : Txt.isdigit x with
      | false =>
        rw [h2] at fin
        exact iteT (iteT fin)
      | true =>
        rw [h2] at fin
        refine iteF ⟨_, rfl, _, rfl, le_line (by omega), _, _, rfl, rfl, _, rfl, ?_⟩
        by_cases h3 : x.length ≤ 3
        · rw [decide_eq_false (show ¬ (3 : Int) < ((x.length : Nat) : Int) by omega)]
          rw [decide_eq_true h3] at fin
          refine iteF ⟨_, rfl, rfl, ?_⟩
          have ne : 0 < (tl x).length := by
            have a2 : (x.length > 0 && x.cps.all Unicode.isDigit) = true := h2
            have := of_decide_eq_true (Bool.and_eq_true_iff.mp a2).1
            rw [← len_tl]; exact this
          by_cases e0 : x = "0"
          · rw [decide_eq_true e0] at fin
            exact ⟨true, congrArg V.bl (decide_eq_true (congrArg V.str e0)), iteT fin⟩
          · rw [decide_eq_false e0] at fin
            obtain ⟨c, hc⟩ : ∃ c, (tl x)[0]? = some c := ⟨_, List.getElem?_eq_getElem ne⟩
            refine ⟨false, congrArg V.bl (decide_eq_false fun h => e0 (V.str.inj h)), iteF ⟨_, rfl, _, _, c, rfl, rfl, le_line (by omega), atI_nat (j := 0) hc, rfl, ?_⟩⟩
            have e : decide (V.str ⟨#[c]⟩ = V.str (Str.ofString "0")) = decide ((tl x)[0]? = some 48) := by
              rw [hc]
              by_cases g : c = 48
              · subst g; rw [decide_eq_true rfl]; exact decide_eq_true rfl
              · rw [decide_eq_false (fun h => g (Option.some.inj h)), decide_eq_false]
                intro h
                have h1 := congrArg (fun s : Str => s.cps.toList[0]?) (V.str.inj h)
                have h2 : (some c : Option Nat) = some 48 := h1
                exact g (Option.some.inj h2)
            show Q (V.bl (!decide (V.str ⟨#[c]⟩ = V.str (Str.ofString "0")))) H
            rw [e]
            have e2 : (!decide ((tl x)[0]? = some 48)) = decide ((tl x)[0]? ≠ some 48) := by simp
            rw [e2]
            exact fin
        · rw [decide_eq_true (show (3 : Int) < ((x.length : Nat) : Int) by omega)]
          rw [decide_eq_false h3] at fin
          exact iteT fin
/-! ### _step_of -/
def optWd : Option Wd → PyData
  | none => .none
  | some d => wdD d
theorem inV_strs (x : Str) : ∀ ws : List Str, inV (.str x) (ws.map V.str) = decide (x ∈ ws)
  | [] => rfl
  | w :: ws => by
    have ih := inV_strs x ws
    unfold inV at ih ⊢
    rw [List.map_cons, List.any_cons, ih]
    have e : eqV (.str w) (.str x) = decide (w = x) := by
      unfold eqV
      simp [Bool.beq_eq_decide_eq]
    rw [e, Bool.eq_iff_iff]
    simp only [Bool.or_eq_true, decide_eq_true_eq, List.mem_cons]
    exact ⟨fun h => h.imp Eq.symm id, fun h => h.imp Eq.symm id⟩
def sp_step_of : Sp := fun vs H Q _ => ∃ (a : Addr) (ws : List Str), vs = [.ref a] ∧ H a = some (.lst (ws.map V.str)) ∧ ws ≠ [] ∧ ws.length ≤ 15900 ∧ (∀ w ∈ ws, w.length ≤ 100000) ∧ ∀ v H', Same H H' → TD H' v (optWd (stepM ws)) → Q v H'
theorem ok_step_of (T : Tx K mg) : FnOk P w K mg base CX0 2 T.a_step_of T.d_step_of ["words"] sp_step_of := by
  have nd := sc_step_of.nd
  refine T.F_step_of.ok sc_step_of (fun vs H Q E h => ?_) (fun cdv A0 outer s0 H vs Q E hr h => ?_)
  · obtain ⟨_, _, rfl, _⟩ := h
    rfl
  · obtain ⟨a, ws, rfl, ha, hne, hwl, hww, fin⟩ := h
    refine ⟨_, (pss_cons (ps_asg (pv 0) (pg_star rfl (pg_name (i := 1) nd rfl (Or.inl rfl)) (pg_name (i := 2) nd rfl (Or.inl rfl)))) (pss_cons (ps_if (PW.pt (pw_and (pt_cmpR op_in_seq (pv 1) (pe_glob (v := .ref T.A_BARE) (by rfl) T.c_BARE rfl) rfl) (pw_and1 (pt_not (pt_truth (pv 2) (by intro _; rfl)))))) (pss_one (ps_ret (pe_tup (pa_cons (pv 1) pa_nil)))) pss_nil) (pss_cons (ps_if (PW.pt (pw_and (pt_cmpR op_in_seq (pv 1) (pe_glob (v := .ref T.A_LETTERS) (by rfl) T.c_LETTERS rfl) rfl) (pw_and (pt_cmpR op_eq (pe_callB call_len_seq (by rfl) T.z_len PySem.boot_len (pa_cons (pv 2) pa_nil)) pe_int (nomark _)) (pw_and (pt_cmpR op_in_seq (pe_ix ix_list (pv 2) pe_int (fun _ _ => rfl)) (pe_glob (v := .ref T.A_WAYS) (by rfl) T.c_WAYS rfl) rfl) (pw_and1 (pt_val (pe_call (ok_is_written_number T) (hr.mono (by decide)) (by rfl) T.m_is_written_number T.F_is_written_number.kp T.b_is_written_number .nil pass0 (pa_cons (pe_ix ix_list (pv 2) pe_int (fun _ _ => rfl)) pa_nil)))))))) (pss_one (ps_ret (pe_tup (pa_cons (pv 1) (pa_cons (pe_ix ix_list (pv 2) pe_int (fun _ _ => rfl)) (pa_cons (pe_callTy call_int_str (by rfl) T.z_int (by decide +kernel) (pa_cons (pe_ix ix_list (pv 2) pe_int (fun _ _ => rfl)) pa_nil)) pa_nil)))))) pss_nil) (pss_cons (ps_if (pt_not (pt_val (pe_callB (cr_all rfl) (by rfl) T.z_all (by decide +kernel) (pa_cons (pe_lc (own := [("figures", 4)]) rfl nd (pi_list (pv 2)) (blkOk_by (own := [("figures", 4)]) (N := N_step_of) (sc := defScope s_step_of) (by decide +kernel)) (fun _ _ _ _ _ => (pg_name (i := 4) nd rfl (Or.inl rfl))) (fun _ _ _ _ _ => pts_nil) (fun _ _ _ _ _ => (pe_call (ok_is_written_number T) (hr.mono (by decide)) (by rfl) T.m_is_written_number T.F_is_written_number.kp T.b_is_written_number .nil pass0 (pa_cons (pv 4) pa_nil)))) pa_nil)))) (pss_one (ps_ret pe_non)) pss_nil) (pss_cons (ps_setLc (i := 3) (own := [("figures", 4)]) rfl nd rfl rfl (sw_true rfl rfl rfl (by decide +kernel)) (pi_list (pv 2)) (blkOk_by (own := [("figures", 4)]) (N := N_step_of) (sc := defScope s_step_of) (by decide +kernel)) (fun _ _ _ _ _ => (pg_name (i := 4) nd rfl (Or.inl rfl))) (fun _ _ _ _ _ => pts_nil) (fun _ _ _ _ _ => (pe_callTy call_int_str (by rfl) T.z_int (by decide +kernel) (pa_cons (pv 4) pa_nil)))) (pss_cons (ps_if (PW.pt (pw_and (pt_cmpR op_eq (pv 1) pe_str (nomark _)) (pw_and1 (pt_cmpR op_eq (pe_callB call_len_seq (by rfl) T.z_len PySem.boot_len (pa_cons (pv 3) pa_nil)) pe_int (nomark _))))) (pss_one (ps_ret (pe_tup (pa_cons (pv 1) (pa_cons (pe_ix ix_list (pv 3) pe_int (fun _ _ => rfl)) pa_nil))))) pss_nil) (pss_cons (ps_if (PW.pt (pw_and (pt_cmpR op_eq (pv 1) pe_str (nomark _)) (pw_and1 (pt_cmpR op_ge (pe_callB call_len_seq (by rfl) T.z_len PySem.boot_len (pa_cons (pv 3) pa_nil)) pe_int (nomark _))))) (pss_one (ps_ret (pe_tup (pa_cons (pv 1) (pa_cons (pe_ix ix_list (pv 3) pe_int (fun _ _ => rfl)) (pa_cons (pe_tupleOf (by rfl) T.z_tuple (pe_slice sl_list (pv 3) (po_some pe_int) po_none)) pa_nil)))))) pss_nil) (pss_one (ps_ret pe_non))))))))), ?_⟩
    obtain ⟨x, xs, rfl⟩ : ∃ x xs, ws = x :: xs := by
      cases ws with
      | nil => exact absurd rfl hne
      | cons x xs => exact ⟨x, xs, rfl⟩
    have hxl : xs.length < 15900 := by rw [List.length_cons] at hwl; omega
    have hxw : ∀ w ∈ xs, w.length ≤ 100000 := fun w hw => hww w (List.mem_cons_of_mem _ hw)
    refine ⟨_, rfl, a, _, _, rfl, SqL.of ha, by rw [List.length_map]; omega, fun r nr => ?_⟩
    have s1 := same_new (Same.refl H) nr (o := .lst (xs.map V.str))
    have hr1 : upd H r (.lst (xs.map V.str)) r = some (.lst (xs.map V.str)) := upd_same
    generalize upd H r (.lst (xs.map V.str)) = H1 at *
    have inB : inV (.str x) [.str "begin", .str "shut", .str "beat", .str "ask", .str "settle"] = decide (x ∈ bareL) := inV_strs x bareL
    have inL : inV (.str x) [.str "hear", .str "lose", .str "twice"] = decide (x ∈ lettL) := inV_strs x lettL
    by_cases c1 : x ∈ bareL ∧ xs = []
    · obtain ⟨b1, rfl⟩ := c1
      rw [stepM_bare b1] at fin
      refine ⟨_, rfl, T.A_BARE, _, rfl, .inr (T.q_BARE H1), rfl, by decide, true, congrArg V.bl (inB.trans (decide_eq_true b1)), iteT ?_⟩
      refine ⟨_, rfl, false, .inl ⟨_, SqL.of hr1, rfl⟩, iteT ?_⟩
      exact ⟨_, rfl, (by decide : (1 : Nat) ≤ sizeLine), fun v nv => fin _ _ (s1.trans (same_new (Same.refl _) nv)) (.tup upd_same (.cons (.str _) .nil))⟩
    -- behind the first test
    refine nx_ifs (σ := [some (.ref a), some (.str x), some (.ref r), none, none]) (fun H' => H' = H1) ?_ ?_
    rotate_left
    · intro Qx toQ
      refine ⟨_, rfl, T.A_BARE, _, rfl, .inr (T.q_BARE H1), rfl, by decide, decide (x ∈ bareL), congrArg V.bl inB, ?_⟩
      by_cases b1 : x ∈ bareL
      · rw [decide_eq_true b1]
        have hx : xs ≠ [] := fun z => c1 ⟨b1, z⟩
        refine iteT ⟨_, rfl, true, .inl ⟨_, SqL.of hr1, ?_⟩, toQ _ rfl⟩
        cases xs with
        | nil => exact absurd rfl hx
        | cons y ys => rfl
      · rw [decide_eq_false b1]
        exact iteF (toQ _ rfl)
    intro H' eH
    rw [eH]
    clear eH H'
    by_cases c2 : x ∈ lettL ∧ xs.length = 2 ∧ xs.getD 0 "" ∈ waysL ∧ isW (xs.getD 1 "") = true
    · obtain ⟨l1, l2, l3, l4⟩ := c2
      obtain ⟨y, f, rfl⟩ : ∃ y f, xs = [y, f] := by
        match xs, l2 with
        | [y, f], _ => exact ⟨_, _, rfl⟩
      have l3 : y ∈ waysL := l3
      have l4 : isW f = true := l4
      rw [stepM_letter (fun h => by cases h.2) l1 l3 l4] at fin
      have inW : inV (.str y) [.str "down", .str "up"] = true := (inV_strs y waysL).trans (decide_eq_true l3)
      obtain ⟨i1, i2, i3, _⟩ := isW_int l4
      refine ⟨_, rfl, T.A_LETTERS, _, rfl, .inr (T.q_LETTERS H1), rfl, by decide, true, congrArg V.bl (inL.trans (decide_eq_true l1)), iteT ?_⟩
      refine ⟨_, rfl, r, _, rfl, .inl (SqL.of hr1), rfl, true, rfl, iteT ?_⟩
      refine ⟨_, rfl, r, _, 0, _, rfl, rfl, SqL.of hr1, atI_nat (j := 0) rfl, T.A_WAYS, _, rfl, .inr (T.q_WAYS H1), rfl, by decide, true, congrArg V.bl inW, iteT ?_⟩
      refine ⟨_, rfl, r, _, 1, _, rfl, rfl, SqL.of hr1, atI_nat (j := 1) rfl, f, rfl, by omega, ?_⟩
      rw [l4]
      refine ⟨true, rfl, iteT ?_⟩
      refine ⟨_, rfl, _, rfl, r, _, 0, _, rfl, rfl, SqL.of hr1, atI_nat (j := 0) rfl, _, rfl, r, _, 1, _, rfl, rfl, SqL.of hr1, atI_nat (j := 1) rfl, f, _, rfl, i1, by omega, (by decide : (3 : Nat) ≤ sizeLine), fun v nv => ?_⟩
      exact fin _ _ (s1.trans (same_new (Same.refl _) nv)) (.tup upd_same (.cons (.str _) (.cons (.str _) (.cons (.int _) .nil))))
    refine seq_ifs (fun H' => H' = H1) ?_ ?_
    rotate_left
    · intro Qx toQ
      refine ⟨_, rfl, T.A_LETTERS, _, rfl, .inr (T.q_LETTERS H1), rfl, by decide, decide (x ∈ lettL), congrArg V.bl inL, ?_⟩
      by_cases l1 : x ∈ lettL
      · rw [decide_eq_true l1]
        refine iteT ⟨_, rfl, r, _, rfl, .inl (SqL.of hr1), rfl, decide (xs.length = 2), congrArg V.bl ?_, ?_⟩
        · rw [List.length_map]
          exact decide_eq_decide.mpr ⟨fun h => by have := V.int.inj h; omega, fun h => by rw [h]; rfl⟩
        by_cases l2 : xs.length = 2
        · rw [decide_eq_true l2]
          obtain ⟨y, f, rfl⟩ : ∃ y f, xs = [y, f] := by
            match xs, l2 with
            | [y, f], _ => exact ⟨_, _, rfl⟩
          refine iteT ⟨_, rfl, r, _, 0, _, rfl, rfl, SqL.of hr1, atI_nat (j := 0) rfl, T.A_WAYS, _, rfl, .inr (T.q_WAYS H1), rfl, by decide, decide (y ∈ waysL), congrArg V.bl (inV_strs y waysL), ?_⟩
          by_cases l3 : y ∈ waysL
          · rw [decide_eq_true l3]
            have l4 : isW f = false := Bool.eq_false_iff.mpr fun z => c2 ⟨l1, rfl, l3, z⟩
            refine iteT ⟨_, rfl, r, _, 1, _, rfl, rfl, SqL.of hr1, atI_nat (j := 1) rfl, f, rfl, (by have := hxw f (by simp); omega), ?_⟩
            rw [l4]
            exact ⟨false, rfl, toQ _ rfl⟩
          · rw [decide_eq_false l3]
            exact iteF (toQ _ rfl)
        · rw [decide_eq_false l2]
          exact iteF (toQ _ rfl)
      · rw [decide_eq_false l1]
        exact iteF (toQ _ rfl)
    intro H' eH
    rw [eH]
    clear eH H'
    -- all numbers
    refine ⟨_, rfl, r, rfl, ⟨_, SqL.of hr1⟩, fun D1 nD1 => ?_⟩
    refine lc_list (K := K) (a := r) (xs := xs.map V.str) (fun i H' => Same H1 H' ∧ H' D1 = some (.lst (((xs.take i).map isW).map V.bl))) ⟨same_new (Same.refl H1) nD1, upd_same⟩ (fun i H' _ p => SqL.of (p.1 _ _ hr1)) ?_ ?_
    · rintro i y H2 hy ⟨s2, hD2⟩
      obtain ⟨w, hw, rfl⟩ := map_get hy
      have hi := (List.getElem?_eq_some_iff.mp hw).1
      refine ⟨rfl, _, rfl, w, rfl, by have := hxw w (List.mem_of_getElem? hw); omega, _, hD2, lt_line (by rw [List.length_map, List.length_map, List.length_take]; omega), same_mut s2 nD1, ?_⟩
      rw [upd_same, List.take_add_one, hw, Option.toList_some, List.map_append, List.map_append]
      rfl
    rintro H2 ⟨s2, hD2⟩
    rw [List.length_map, List.take_length] at hD2
    have hr2 := s2 _ _ hr1
    have s12 := s1.trans s2
    have eall : ((xs.map isW).all id) = xs.all isW := by rw [List.all_map]; rfl
    refine ⟨D1, _, rfl, SqL.of hD2, xs.all isW, congrArg V.bl eall, ?_⟩
    by_cases c3 : xs.all isW = true
    · rw [c3]
      refine iteF ?_
      rw [stepM_num c1 c2 c3] at fin
      refine ⟨_, rfl, r, rfl, ⟨_, SqL.of hr2⟩, fun D2 nD2 => ?_⟩
      refine lc_list (K := K) (a := r) (xs := xs.map V.str) (fun i H' => Same H2 H' ∧ H' D2 = some (.lst ((xs.take i).map fun w => V.int ((numOf w : Nat) : Int)))) ⟨same_new (Same.refl H2) nD2, upd_same⟩ (fun i H' _ p => SqL.of (p.1 _ _ hr2)) ?_ ?_
      · rintro i y H3 hy ⟨s3, hD3⟩
        obtain ⟨w, hw, rfl⟩ := map_get hy
        have hi := (List.getElem?_eq_some_iff.mp hw).1
        have okw := List.all_eq_true.mp c3 w (List.mem_of_getElem? hw)
        obtain ⟨i1, i2, i3, _⟩ := isW_int okw
        refine ⟨rfl, _, rfl, w, _, rfl, i1, by omega, _, hD3, lt_line (by rw [List.length_map, List.length_take]; omega), same_mut s3 nD2, ?_⟩
        rw [upd_same, List.take_add_one, hw, Option.toList_some, List.map_append]
        rfl
      rintro H3 ⟨s3, hD3⟩
      rw [List.length_map, List.take_length] at hD3
      have s13 := s12.trans s3
      have hnl : (xs.map fun w => V.int ((numOf w : Nat) : Int)).length = xs.length := List.length_map ..
      by_cases c4 : x = "close" ∧ xs.length = 1
      · obtain ⟨rfl, l1⟩ := c4
        obtain ⟨f, rfl⟩ : ∃ f, xs = [f] := by
          match xs, l1 with
          | [f], _ => exact ⟨_, rfl⟩
        rw [if_pos ⟨rfl, rfl⟩] at fin
        refine ⟨_, rfl, rfl, true, rfl, iteT ?_⟩
        refine ⟨_, rfl, D2, _, rfl, .inl (SqL.of hD3), rfl, true, rfl, iteT ?_⟩
        refine ⟨_, rfl, _, rfl, D2, _, 0, _, rfl, rfl, SqL.of hD3, atI_nat (j := 0) rfl, (by decide : (2 : Nat) ≤ sizeLine), fun v nv => ?_⟩
        exact fin _ _ (s13.trans (same_new (Same.refl _) nv)) (.tup upd_same (.cons (.str _) (.cons (.int _) .nil)))
      rw [if_neg c4] at fin
      refine nx_ifs (σ := [some (.ref a), some (.str x), some (.ref r), some (.ref D2), none]) (fun H' => H' = H3) ?_ ?_
      rotate_left
      · intro Qx toQ
        refine ⟨_, rfl, rfl, decide (x = "close"), congrArg V.bl (dec_str _ _), ?_⟩
        by_cases l1 : x = "close"
        · rw [decide_eq_true l1]
          refine iteT ⟨_, rfl, D2, _, rfl, .inl (SqL.of hD3), rfl, false, congrArg V.bl (decide_eq_false fun h => c4 ⟨l1, ?_⟩), toQ _ rfl⟩
          have := V.int.inj h
          rw [hnl] at this
          omega
        · rw [decide_eq_false l1]
          exact iteF (toQ _ rfl)
      intro H' eH
      rw [eH]
      clear eH H'
      by_cases c5 : x = "tell" ∧ 2 ≤ xs.length
      · obtain ⟨rfl, l2⟩ := c5
        obtain ⟨f, fs, rfl⟩ : ∃ f fs, xs = f :: fs := by
          match xs, l2 with
          | f :: fs, _ => exact ⟨_, _, rfl⟩
        rw [if_pos ⟨rfl, l2⟩] at fin
        rw [List.length_cons] at l2
        refine ⟨_, rfl, rfl, true, rfl, iteT ?_⟩
        refine ⟨_, rfl, D2, _, rfl, .inl (SqL.of hD3), _, _, rfl, rfl, true, congrArg V.bl (decide_eq_true (by rw [hnl, List.length_cons]; omega)), iteT ?_⟩
        have hc : cutV (((f :: fs).map fun w => V.int ((numOf w : Nat) : Int))) (some (1 : Int)) none = fs.map fun w => V.int ((numOf w : Nat) : Int) := cut_hi (xs := (f :: fs).map fun w => V.int ((numOf w : Nat) : Int)) (n := 1) (by rw [List.length_map, List.length_cons]; omega)
        refine ⟨_, rfl, _, rfl, D2, _, 0, _, rfl, rfl, SqL.of hD3, atI_nat (j := 0) rfl, _, rfl, (1 : Int), rfl, D2, _, rfl, SqL.of hD3, fun g1 n1 => .inl ⟨g1, _, rfl, SqL.of upd_same, fun q nq => ⟨(by decide : (3 : Nat) ≤ sizeLine), fun v nv => ?_⟩⟩⟩
        rw [hc] at *
        have q1 := same_new (Same.refl H3) n1 (o := .lst (fs.map fun w => V.int ((numOf w : Nat) : Int)))
        have q2 := same_new (Same.refl _) nq (o := .tup (fs.map fun w => V.int ((numOf w : Nat) : Int)))
        have q3 := same_new (Same.refl _) nv (o := .tup [.str "tell", .int ((numOf f : Nat) : Int), .ref q])
        have hq := q3 _ _ (upd_same (H := upd H3 g1 (.lst (fs.map fun w => V.int ((numOf w : Nat) : Int)))) (a := q) (o := .tup (fs.map fun w => V.int ((numOf w : Nat) : Int))))
        have e1 : (fs.map fun w => V.int ((numOf w : Nat) : Int)) = ((fs.map numOf).map fun n : Nat => ((n : Nat) : Int)).map V.int := by rw [List.map_map, List.map_map]; rfl
        have tq := TDs.ints (H := upd (upd (upd H3 g1 (.lst (fs.map fun w => V.int ((numOf w : Nat) : Int)))) q (.tup (fs.map fun w => V.int ((numOf w : Nat) : Int)))) v (.tup [.str "tell", .int ((numOf f : Nat) : Int), .ref q])) ((fs.map numOf).map fun n : Nat => ((n : Nat) : Int))
        rw [← e1, List.map_map] at tq
        exact fin _ _ (s13.trans ((q1.trans q2).trans q3)) (.tup upd_same (.cons (.str _) (.cons (.int _) (.cons (.tup hq tq) .nil))))
      rw [if_neg c5] at fin
      refine seq_ifs (fun H' => H' = H3) ?_ ?_
      rotate_left
      · intro Qx toQ
        refine ⟨_, rfl, rfl, decide (x = "tell"), congrArg V.bl (dec_str _ _), ?_⟩
        by_cases l1 : x = "tell"
        · rw [decide_eq_true l1]
          refine iteT ⟨_, rfl, D2, _, rfl, .inl (SqL.of hD3), _, _, rfl, rfl, false, congrArg V.bl (decide_eq_false fun h => c5 ⟨l1, ?_⟩), toQ _ rfl⟩
          rw [hnl] at h
          omega
        · rw [decide_eq_false l1]
          exact iteF (toQ _ rfl)
      intro H' eH
      rw [eH]
      exact fin _ _ s13 .non
    have c3 : xs.all isW = false := Bool.eq_false_iff.mpr c3
    rw [c3]
    rw [stepM_odd c1 c2 c3] at fin
    exact iteT (fin _ _ s12 .non)
/-! ### the parts of a step, its row -/
theorem lit_free (w : Str) (h : (w.cps.all fun c => decide (97 ≤ c)) = true) {s : Nat} (hs : s < 97) : s ∉ tl w := fun hm => by
  have h2 : ∀ c ∈ w.cps.toList, decide (97 ≤ c) = true := by
    have := h
    rw [Array.all_eq_true_iff_forall_mem] at this
    intro c hc
    exact this c (Array.mem_def.mpr hc)
  have := of_decide_eq_true (h2 s hm)
  omega
def twoL : List Str := ["close", "tell"]
def knownL : List Str := bareL ++ (lettL ++ (waysL ++ twoL))
theorem known_word {w : Str} (h : w ∈ knownL) : (w.cps.all fun c => decide (97 ≤ c)) = true ∧ w.length ≤ 6 ∧ w ≠ "" := by
  have : ∀ w ∈ knownL, (w.cps.all fun c => decide (97 ≤ c)) = true ∧ w.length ≤ 6 ∧ w ≠ "" := by decide +kernel
  exact this w h
theorem wd_words {d : Wd} (ok : WdOk d) : ∀ w ∈ wdW d, w ∈ knownL ∨ ∃ n, n < 1000 ∧ w = numW n := by
  intro w hw
  have B : ∀ w, w ∈ bareL → w ∈ knownL := fun w h => List.mem_append_left _ h
  have L : ∀ w, w ∈ lettL → w ∈ knownL := fun w h => List.mem_append_right _ (List.mem_append_left _ h)
  have Y : ∀ w, w ∈ waysL → w ∈ knownL := fun w h => List.mem_append_right _ (List.mem_append_right _ (List.mem_append_left _ h))
  have C : ∀ w, w ∈ twoL → w ∈ knownL := fun w h => List.mem_append_right _ (List.mem_append_right _ (List.mem_append_right _ h))
  cases d with
  | bare x =>
    have : w = x := List.mem_singleton.mp hw
    rw [this]; exact .inl (B x ok)
  | letter x y j =>
    obtain ⟨o1, o2, o3⟩ := ok
    rcases List.mem_cons.mp hw with e | e
    · rw [e]; exact .inl (L x o1)
    · rcases List.mem_cons.mp e with e | e
      · rw [e]; exact .inl (Y y o2)
      · exact .inr ⟨j, o3, List.mem_singleton.mp e⟩
  | close s =>
    rcases List.mem_cons.mp hw with e | e
    · rw [e]; exact .inl (C _ (by simp [twoL]))
    · exact .inr ⟨s, ok, List.mem_singleton.mp e⟩
  | tell s t =>
    obtain ⟨o1, o2, o3, o4⟩ := ok
    rcases List.mem_cons.mp hw with e | e
    · rw [e]; exact .inl (C _ (by simp [twoL]))
    · rcases List.mem_cons.mp e with e | e
      · exact .inr ⟨s, o1, e⟩
      · obtain ⟨n, hn, rfl⟩ := List.mem_map.mp e
        exact .inr ⟨n, o4 n hn, rfl⟩
theorem wd_free {d : Wd} (ok : WdOk d) (s : Nat) (hs : s < 48) : ∀ w ∈ wdW d, s ∉ tl w := fun w hw => by
  rcases wd_words ok w hw with h | ⟨n, hn, rfl⟩
  · exact lit_free w (known_word h).1 (by omega)
  · exact numW_free (.inl hs)
theorem wd_short {d : Wd} (ok : WdOk d) : (∀ w ∈ wdW d, w.length ≤ 6) ∧ (wdW d).length ≤ 42 := by
  refine ⟨fun w hw => ?_, ?_⟩
  · rcases wd_words ok w hw with h | ⟨n, hn, rfl⟩
    · exact (known_word h).2.1
    · have := numW_lenX hn; omega
  · cases d with
    | tell s t => have := ok.2.2.1; show (t.map numW).length + 2 ≤ 42; rw [List.length_map]; omega
    | bare _ => show 1 ≤ 42; decide
    | letter _ _ _ => show 3 ≤ 42; decide
    | close _ => show 2 ≤ 42; decide
theorem wd_ne (d : Wd) : wdW d ≠ [] := by cases d <;> exact fun h => by cases h
def wdRow (d : Wd) : Str := Txt.join " " (wdW d)
def wdText (ds : List Wd) : Str := Txt.join "\n" (ds.map wdRow)
theorem wd_split {d : Wd} (ok : WdOk d) : Txt.split (wdRow d) " " = wdW d := split_join (s := 32) (S := []) rfl (by decide +kernel) (wd_ne d) (wd_free ok 32 (by decide))
theorem wd_splits {ds : List Wd} (ok : ∀ d ∈ ds, WdOk d) (h : ds ≠ []) : Txt.split (wdText ds) "\n" = ds.map wdRow := by
  refine split_join (s := 10) (S := []) rfl (by decide +kernel) (fun e => h (List.map_eq_nil_iff.mp e)) fun p hp => ?_
  obtain ⟨d, hd, rfl⟩ := List.mem_map.mp hp
  exact join_free (by decide +kernel) (wd_free (ok d hd) 10 (by decide))
theorem wd_row_len {d : Wd} (ok : WdOk d) : (wdRow d).length ≤ 294 := by
  have h1 := join_len " " (wdW d)
  have h2 := sum_le (fun w : Str => w.length) 6 (wdW d) (wd_short ok).1
  have h3 := (wd_short ok).2
  have h4 : (" " : Str).length = 1 := rfl
  rw [h4] at h1
  unfold wdRow
  omega
theorem wd_text_len {ds : List Wd} (ok : ∀ d ∈ ds, WdOk d) : (wdText ds).length ≤ 295 * ds.length := by
  have h1 := join_len "\n" (ds.map wdRow)
  have h2 := sum_le (fun w : Str => w.length) 294 (ds.map wdRow) (fun w hw => by obtain ⟨d, hs, rfl⟩ := List.mem_map.mp hw; exact wd_row_len (ok d hs))
  have h4 : ("\n" : Str).length = 1 := rfl
  rw [h4] at h1
  rw [List.length_map] at h1 h2
  unfold wdText
  omega
theorem wd_text_ne {ds : List Wd} (ok : ∀ d ∈ ds, WdOk d) (h : ds ≠ []) : wdText ds ≠ "" := fun e => by
  have h1 := wd_splits ok h
  rw [e] at h1
  cases ds with
  | nil => exact h rfl
  | cons d r =>
    have h2 : Txt.split "" "\n" = [("" : Str)] := by decide +kernel
    rw [h2, List.map_cons] at h1
    injection h1 with h1 _
    have h3 := wd_split (ok d (List.mem_cons_self ..))
    rw [← h1] at h3
    have h4 : Txt.split "" " " = [("" : Str)] := by decide +kernel
    rw [h4] at h3
    have h5 : ("" : Str) ∈ wdW d := by rw [← h3]; exact List.mem_singleton.mpr rfl
    rcases wd_words (ok d (List.mem_cons_self ..)) _ h5 with g | ⟨n, hn, g⟩
    · exact (known_word g).2.2 rfl
    · have := wr_okX n hn
      rw [← g] at this
      exact absurd this (by decide +kernel)
def partW : PyData → List Str
  | .str a => [a]
  | .int n => [numW n.toNat]
  | .tuple ds => ds.map fun d => match d with | .int n => numW n.toNat | _ => ""
  | _ => []
def PartOk (d : PyData) : Prop := (∃ a, d = .str a) ∨ (∃ n : Nat, d = .int (n : Int) ∧ n < 1000) ∨ ∃ t : List Nat, d = natsD t ∧ t.length ≤ 40 ∧ ∀ n ∈ t, n < 1000
def partsOf : Wd → List PyData
  | .bare w => [.str w]
  | .letter w y j => [.str w, .str y, .int ((j : Nat) : Int)]
  | .close s => [.str "close", .int ((s : Nat) : Int)]
  | .tell s t => [.str "tell", .int ((s : Nat) : Int), natsD t]
theorem wd_parts (d : Wd) : wdD d = .tuple (partsOf d) := by cases d <;> rfl
theorem partW_nats (t : List Nat) : partW (natsD t) = t.map numW := by
  show (t.map fun n : Nat => PyData.int (n : Int)).map _ = _
  rw [List.map_map]
  exact List.map_congr_left fun n _ => by show numW ((n : Int).toNat) = numW n; rw [Int.toNat_natCast]
theorem wd_words_parts (d : Wd) : wdW d = (partsOf d).flatMap partW := by
  cases d with
  | tell s t =>
    show _ = partW _ ++ (partW _ ++ (partW (natsD t) ++ []))
    rw [partW_nats, List.append_nil]
    rfl
  | _ => rfl
theorem parts_ok {d : Wd} (ok : WdOk d) : ∀ p ∈ partsOf d, PartOk p := by
  have str : ∀ a, PartOk (.str a) := fun a => .inl ⟨a, rfl⟩
  have int : ∀ n : Nat, n < 1000 → PartOk (.int (n : Int)) := fun n h => .inr (.inl ⟨n, rfl, h⟩)
  intro p hp
  cases d with
  | bare w => rw [List.mem_singleton.mp hp]; exact str _
  | letter w y j =>
    rcases List.mem_cons.mp hp with g | g
    · rw [g]; exact str _
    · rcases List.mem_cons.mp g with g | g
      · rw [g]; exact str _
      · rw [List.mem_singleton.mp g]; exact int _ ok.2.2
  | close s =>
    rcases List.mem_cons.mp hp with g | g
    · rw [g]; exact str _
    · rw [List.mem_singleton.mp g]; exact int _ ok
  | tell s t =>
    rcases List.mem_cons.mp hp with g | g
    · rw [g]; exact str _
    · rcases List.mem_cons.mp g with g | g
      · rw [g]; exact int _ ok.1
      · rw [List.mem_singleton.mp g]; exact .inr (.inr ⟨t, rfl, ok.2.2.1, ok.2.2.2⟩)
theorem parts_few (d : Wd) : (partsOf d).length ≤ 3 := by cases d <;> exact of_decide_eq_true rfl
theorem partW_few {d : PyData} (h : PartOk d) : (partW d).length ≤ 40 := by
  rcases h with ⟨a, rfl⟩ | ⟨n, rfl, _⟩ | ⟨t, rfl, ht, _⟩
  · exact (by decide : 1 ≤ 40)
  · exact (by decide : 1 ≤ 40)
  · rw [partW_nats, List.length_map]; exact ht
def sp_row_of : Sp := fun vs H Q _ => ∃ (a : Addr) (d : Wd), vs = [.ref a] ∧ TD H (.ref a) (wdD d) ∧ WdOk d ∧ ∀ H', Same H H' → Q (.str (wdRow d)) H'
theorem ok_row_of (T : Tx K mg) : FnOk P w K mg base CX0 1 T.a_row_of T.d_row_of ["step"] sp_row_of := by
  have nd := sc_row_of.nd
  refine T.F_row_of.ok sc_row_of (fun vs H Q E h => ?_) (fun cdv A0 outer s0 H vs Q E hr h => ?_)
  · obtain ⟨_, _, rfl, _⟩ := h
    rfl
  · obtain ⟨a, st, rfl, td, ok, fin⟩ := h
    refine ⟨_, (pss_cons (ps_set (i := 1) nd rfl (Or.inl rfl) (pe_lst pa_nil)) (pss_cons (ps_for PassesOwn.never rfl (pi_tup (pv 0)) (pg_name (i := 2) nd rfl (Or.inl rfl)) (pss_one (ps_if (pt_val (pe_callB call_isi (by rfl) T.z_isinstance (by decide +kernel) (pa_cons (pv 2) (pa_cons (pe_bltn (v := .ty "tuple") (u := .type "tuple") (by rfl) T.z_tuple (by decide +kernel) rfl) pa_nil)))) (pss_one (ps_expr (pe_bm PySem.F.plainAttrs_list PySem.F.slot_list_extend PySem.F.type_list_extend mt_extend (pv 1) (pa_cons (pe_lc (own := [("number", 3)]) rfl nd (pi_tup (pv 2)) (blkOk_by (own := [("number", 3)]) (N := N_row_of) (sc := defScope s_row_of) (by decide +kernel)) (fun _ _ _ _ _ => (pg_name (i := 3) nd rfl (Or.inl rfl))) (fun _ _ _ _ _ => pts_nil) (fun _ _ _ _ _ => (pe_callTy call_str_int (by rfl) T.z_str (by decide +kernel) (pa_cons (pv 3) pa_nil)))) pa_nil)))) (pss_one (ps_expr (pe_bm PySem.F.plainAttrs_list PySem.F.slot_list_append PySem.F.type_list_append mt_append (pv 1) (pa_cons (pe_callTy call_str_si (by rfl) T.z_str (by decide +kernel) (pa_cons (pv 2) pa_nil)) pa_nil))))))) (pss_one (ps_ret (pe_join pe_str (pv 1)))))), ?_⟩
    rw [wd_parts] at td
    obtain ⟨xs, hxs, txs⟩ : ∃ xs, H a = some (.tup xs) ∧ TDs H xs (partsOf st) := by
      cases td with
      | tup h t => exact ⟨_, h, t⟩
    have hxl : xs.length = (partsOf st).length := txs.length
    have h3 := parts_few st
    have pok := parts_ok ok
    refine ⟨Nat.zero_le _, fun r nr => ⟨_, rfl, a, rfl, ⟨_, SqT.of (same_new (Same.refl H) nr _ _ hxs)⟩, ?_⟩⟩
    refine for_tup (K := K) (a := a) (xs := xs) (fun i σ H' => ∃ v2 v3 : Option V, σ = [some (.ref a), some (.ref r), v2, v3] ∧ Same H H' ∧ H' r = some (.lst ((((partsOf st).take i).flatMap partW).map V.str)) ∧ (((partsOf st).take i).flatMap partW).length ≤ 40 * i) ⟨_, _, rfl, same_new (Same.refl H) nr, upd_same, Nat.zero_le _⟩ (fun i σ H' _ ⟨_, _, _, s, _⟩ => SqT.of (s _ _ hxs)) ?_ ?_
    · rintro i x σ H1 hx ⟨v2, v3, rfl, s1, hr1, hl1⟩
      obtain ⟨d, hd, tx⟩ := txs.get hx
      have tx1 := tx.mono (TSm.of_same s1)
      have dok := pok d (List.mem_of_getElem? hd)
      have hi : i < xs.length := (List.getElem?_eq_some_iff.mp hx).1
      have et : (partsOf st).take (i + 1) = (partsOf st).take i ++ [d] := by rw [List.take_add_one, hd]; rfl
      have hpf := partW_few dok
      have e1 : ((partsOf st).take (i + 1)).flatMap partW = ((partsOf st).take i).flatMap partW ++ partW d := by rw [et, List.flatMap_append]; simp
      have hl2 : (((partsOf st).take i).flatMap partW).length + (partW d).length ≤ 40 * (i + 1) := by omega
      rcases dok with ⟨w, rfl⟩ | ⟨n, rfl, hn⟩ | ⟨t, rfl, htl, htb⟩
      · cases tx1
        refine ⟨_, rfl, _, _, _, _, false, rfl, .ty "tuple", .base (.str _), kit_ty (by decide +kernel), false, rfl, iteF ?_⟩
        refine ⟨_, rfl, .inl ⟨rfl, _, SqL.of hr1⟩, _, rfl, .inl ⟨_, rfl, r, _, _, rfl, rfl, hr1, lt_line (by rw [List.length_map]; omega), _, _, rfl, same_mut s1 nr, ?_, ?_⟩⟩
        · rw [upd_same, e1, List.map_append]; rfl
        · rw [e1, List.length_append]; exact hl2
      · cases tx1
        refine ⟨_, rfl, _, _, _, _, false, rfl, .ty "tuple", .base (.int _), kit_ty (by decide +kernel), false, rfl, iteF ?_⟩
        refine ⟨_, rfl, .inl ⟨rfl, _, SqL.of hr1⟩, _, rfl, .inr ⟨_, rfl, ?_, r, _, _, rfl, rfl, hr1, lt_line (by rw [List.length_map]; omega), _, _, rfl, same_mut s1 nr, ?_, ?_⟩⟩
        · have := Nat.log2_le_self n; show n.log2 < 1920; omega
        · rw [upd_same, e1, List.map_append]; rfl
        · rw [e1, List.length_append]; exact hl2
      · have e0 : natsD t = tlD (t.map fun n : Nat => (n : Int)) := by unfold natsD tlD; rw [List.map_map]; rfl
        rw [e0] at tx1
        obtain ⟨ta, rfl, hta⟩ := TD.of_tl tx1
        refine ⟨_, rfl, _, _, _, _, true, rfl, .ty "tuple", .base (.tup hta), kit_ty (by decide +kernel), true, rfl, iteT ?_⟩
        refine ⟨_, rfl, .inl ⟨rfl, _, SqL.of hr1⟩, _, rfl, ta, rfl, ⟨_, SqT.of hta⟩, fun D hD => ?_⟩
        refine lc_tup (K := K) (a := ta) (xs := (t.map fun n : Nat => (n : Int)).map V.int) (fun i H' => Same H1 H' ∧ H' D = some (.lst ((t.take i).map fun n => V.str (numW n)))) ⟨same_new (Same.refl H1) hD, upd_same⟩ (fun i H' _ p => SqT.of (p.1 _ _ hta)) ?_ ?_
        · rintro j y H2 hy ⟨s2, hD2⟩
          obtain ⟨n0, hn0, rfl⟩ := map_get hy
          obtain ⟨n, hn, rfl⟩ := map_get hn0
          have hjl := (List.getElem?_eq_some_iff.mp hn).1
          have hn2 := htb n (List.mem_of_getElem? hn)
          refine ⟨rfl, _, rfl, _, rfl, ?_, _, hD2, lt_line (by rw [List.length_map, List.length_take]; omega), same_mut s2 hD, ?_⟩
          · have := Nat.log2_le_self n; show n.log2 < 1920; omega
          · rw [upd_same, List.take_add_one, hn, Option.toList_some, List.map_append]
            rfl
        · rintro H2 ⟨s2, hD2⟩
          rw [List.length_map, List.length_map, List.take_length] at hD2
          refine ⟨r, D, _, _, rfl, rfl, s2 _ _ hr1, hD2, le_line (by rw [List.length_map, List.length_map]; rw [partW_nats, List.length_map] at hl2; omega), _, _, rfl, same_mut (s1.trans s2) nr, ?_, ?_⟩
          · rw [upd_same, e1, partW_nats, List.map_append, List.map_map]; rfl
          · rw [e1, List.length_append]; exact hl2
    · rintro σ H1 ⟨v2, v3, rfl, s1, hr1, hl1⟩
      rw [hxl, List.take_length, ← wd_words_parts] at hr1
      have h4 := sum_le (fun w : Str => w.length) 6 (wdW st) (wd_short ok).1
      have h5 := (wd_short ok).2
      have h6 : (" " : Str).length = 1 := rfl
      exact ⟨⟨_, rfl⟩, _, rfl, _, r, wdW st, rfl, rfl, .inl (SqL.of hr1), by rw [h6]; omega, fin H1 s1⟩
/-! ### written -/
def sp_written : Sp := fun vs H Q _ => ∃ (l : Addr) (us : List V) (ds : List Wd), vs = [.ref l] ∧ H l = some (.lst us) ∧ TDs H us (ds.map wdD) ∧ (∀ d ∈ ds, WdOk d) ∧ ds.length ≤ 1000 ∧ ∀ H', Same H H' → Q (.str (wdText ds)) H'
theorem wd_ref {H : Hp} {v : V} {d : Wd} (h : TD H v (wdD d)) : ∃ a, v = .ref a := by cases d <;> (cases h; exact ⟨_, rfl⟩)
theorem ok_written (T : Tx K mg) : FnOk P w K mg base CX0 2 T.a_written T.d_written ["steps"] sp_written := by
  have nd := sc_written.nd
  refine T.F_written.ok sc_written (fun vs H Q E h => ?_) (fun cdv A0 outer s0 H vs Q E hr h => ?_)
  · obtain ⟨_, _, _, rfl, _⟩ := h
    rfl
  · obtain ⟨l, us, ds, rfl, hl, tus, ok, hsl, fin⟩ := h
    refine ⟨_, (pss_one (ps_ret (pe_join pe_str (pe_lc (own := [("step", 1)]) rfl nd (pi_list (pv 0)) (blkOk_by (own := [("step", 1)]) (N := N_written) (sc := defScope s_written) (by decide +kernel)) (fun _ _ _ _ _ => (pg_name (i := 1) nd rfl (Or.inl rfl))) (fun _ _ _ _ _ => pts_nil) (fun _ _ _ _ _ => (pe_call (ok_row_of T) (hr.mono (by decide)) (by rfl) T.m_row_of T.F_row_of.kp T.b_row_of .nil pass0 (pa_cons (pv 1) pa_nil))))))), ?_⟩
    have hul : us.length = ds.length := by rw [tus.length, List.length_map]
    refine ⟨⟨_, rfl⟩, _, rfl, l, rfl, ⟨_, SqL.of hl⟩, fun D hD => ?_⟩
    refine lc_list (K := K) (a := l) (xs := us) (fun i H' => Same H H' ∧ H' D = some (.lst (((ds.take i).map wdRow).map V.str))) ⟨same_new (Same.refl H) hD, upd_same⟩ (fun i H' _ p => SqL.of (p.1 _ _ hl)) ?_ ?_
    · rintro i y H1 hy ⟨s1, hD1⟩
      obtain ⟨d0, hd0, ty⟩ := tus.get hy
      obtain ⟨d, hd, rfl⟩ := map_get hd0
      have hi := (List.getElem?_eq_some_iff.mp hd).1
      have ty1 := ty.mono (TSm.of_same s1)
      obtain ⟨pa, rfl⟩ := wd_ref ty1
      refine ⟨rfl, _, rfl, pa, d, rfl, ty1, ok d (List.mem_of_getElem? hd), fun H2 s2 => ?_⟩
      refine ⟨_, s2 _ _ hD1, lt_line (by rw [List.length_map, List.length_map, List.length_take]; omega), same_mut (s1.trans s2) hD, ?_⟩
      rw [upd_same, List.take_add_one, hd, Option.toList_some, List.map_append, List.map_append]
      rfl
    · rintro H1 ⟨s1, hD1⟩
      rw [hul, List.take_length] at hD1
      have h2 := sum_le (fun w : Str => w.length) 294 (ds.map wdRow) (fun w hw => by obtain ⟨d, hs, rfl⟩ := List.mem_map.mp hw; exact wd_row_len (ok d hs))
      rw [List.length_map] at h2
      have h6 : ("\n" : Str).length = 1 := rfl
      exact ⟨_, D, ds.map wdRow, rfl, rfl, .inl (SqL.of hD1), by rw [h6, List.length_map]; omega, fin H1 s1⟩
end
end K16

namespace K16
open PySem PySem.Spec PyProof.Rows L2 Sky TL
/-! ### how long the parts of a text are -/
theorem spl_small (S : List Nat) : ∀ (l : List Nat) (k : Nat) (acc : List Nat), (spl S k acc l).length ≤ l.length + 1 ∧ (∀ p ∈ spl S k acc l, p.length ≤ acc.length + l.length) ∧ spl S k acc l ≠ []
  | [], k, acc => by
    rw [spl_nil]
    exact ⟨Nat.le_refl _, fun p hp => by rw [List.mem_singleton.mp hp]; exact Nat.le_add_right _ _, fun h => by cases h⟩
  | c :: r, k + 1, acc => by
    obtain ⟨h1, h2, h3⟩ := spl_small S r k acc
    refine ⟨?_, fun p hp => ?_, h3⟩
    · show (spl S k acc r).length ≤ _
      rw [List.length_cons]; omega
    · have := h2 p hp
      rw [List.length_cons]; omega
  | c :: r, 0, acc => by
    by_cases e : pre S (c :: r) = true
    · rw [spl_hit e]
      obtain ⟨h1, h2, h3⟩ := spl_small S r (S.length - 1) []
      refine ⟨by rw [List.length_cons, List.length_cons]; omega, fun p hp => ?_, fun h => by cases h⟩
      rcases List.mem_cons.mp hp with g | g
      · rw [g]; exact Nat.le_add_right _ _
      · have := h2 p g
        rw [List.length_cons]
        rw [List.length_nil] at this
        omega
    · rw [spl_miss (Bool.eq_false_iff.mpr e)]
      obtain ⟨h1, h2, h3⟩ := spl_small S r 0 (acc ++ [c])
      refine ⟨by rw [List.length_cons]; omega, fun p hp => ?_, h3⟩
      have := h2 p hp
      rw [List.length_append, List.length_singleton] at this
      rw [List.length_cons]
      omega
theorem split_small (x : Str) {y : Str} (h1 : tl y ≠ []) (h2 : y.cps.all (· < 256) = true) : (Txt.split x y).length ≤ x.length + 1 ∧ (∀ p ∈ Txt.split x y, p.length ≤ x.length) ∧ Txt.split x y ≠ [] := by
  have e := split_spl x y h1 (kind_ok h2)
  obtain ⟨a, b, c⟩ := spl_small (tl y) (tl x) 0 []
  rw [← e] at a b c
  rw [List.length_map, ← len_tl] at a
  refine ⟨a, fun p hp => ?_, fun z => c (by rw [z]; rfl)⟩
  have := b _ (List.mem_map.mpr ⟨p, hp, rfl⟩)
  rw [List.length_nil, Nat.zero_add, ← len_tl, ← len_tl] at this
  exact this
/-- the step of a row -/
def rowM (row : Str) : Option Wd := stepM (Txt.split row " ")
def rowsOf (x : Str) : List Str := Txt.split x "\n"
section
variable {P : Program} {w : World} {K : PySem.W.Frag} {mg : Str → Option Value} {base : Heap}
def sp_read : Sp := fun vs H Q _ => ∃ (x : Str) (ds : List Wd), vs = [.str x] ∧ x.length ≤ 15000 ∧ (if x = "" then ds = [] else (rowsOf x).map rowM = ds.map some) ∧ ∀ r ys H', Same H H' → H r = none → H' r = some (.lst ys) → TDs H' ys (ds.map wdD) → Q (.ref r) H'
theorem row_fits {row : Str} (h : row.length ≤ 15000) : Txt.split row " " ≠ [] ∧ (Txt.split row " ").length ≤ 15900 ∧ ∀ w ∈ Txt.split row " ", w.length ≤ 100000 := by
  obtain ⟨a, b, c⟩ := split_small row (y := " ") (by decide) (by decide +kernel)
  exact ⟨c, by omega, fun w hw => by have := b w hw; omega⟩
theorem ok_read (T : Tx K mg) : FnOk P w K mg base CX0 3 T.a_read T.d_read ["text"] sp_read := by
  have nd := sc_read.nd
  refine T.F_read.ok sc_read (fun vs H Q E h => ?_) (fun cdv A0 outer s0 H vs Q E hr h => ?_)
  · obtain ⟨_, _, rfl, _⟩ := h
    rfl
  · obtain ⟨x, ds, rfl, hx, hds, fin⟩ := h
    refine ⟨_, (pss_cons (ps_if (pt_cmpR op_eq (pv 0) pe_str (nomark _)) (pss_one (ps_ret (pe_lst pa_nil))) pss_nil) (pss_cons (ps_set (i := 1) nd rfl (Or.inl rfl) (pe_lst pa_nil)) (pss_cons (ps_for PassesOwn.never rfl (pi_enum (by rfl) T.z_enumerate (pa_cons (pe_split (pv 0) pe_str) pa_nil)) (pg_tup rfl (pgs_cons (pg_name (i := 2) nd rfl (Or.inl rfl)) (pgs_cons (pg_name (i := 3) nd rfl (Or.inl rfl)) pgs_nil))) (pss_cons (ps_set (i := 4) nd rfl (Or.inl rfl) (pe_call (ok_step_of T) (hr.mono (by decide)) (by rfl) T.m_step_of T.F_step_of.kp T.b_step_of .nil pass0 (pa_cons (pe_split (pv 3) pe_str) pa_nil))) (pss_cons (ps_if (pt_cmpR op_isN (pv 4) pe_non (nomark _)) (pss_one ps_never) pss_nil) (pss_one (ps_expr (pe_bm PySem.F.plainAttrs_list PySem.F.slot_list_append PySem.F.type_list_append mt_append (pv 1) (pa_cons (pv 4) pa_nil))))))) (pss_one (ps_ret (pv 1)))))), ?_⟩
    by_cases hn : x = ""
    · rw [if_pos hn] at hds
      subst hds
      exact ⟨_, rfl, rfl, true, congrArg V.bl (decide_eq_true (congrArg V.str hn)), iteT ⟨Nat.zero_le _, fun r nr => fin r [] _ (same_new (Same.refl H) nr) nr upd_same .nil⟩⟩
    rw [if_neg hn] at hds
    refine ⟨_, rfl, rfl, false, congrArg V.bl (decide_eq_false fun h => hn (V.str.inj h)), iteF ?_⟩
    refine ⟨Nat.zero_le _, fun r nr => ?_⟩
    have s1 := same_new (Same.refl H) nr (o := .lst [])
    have hr1 : upd H r (.lst []) r = some (.lst []) := upd_same
    generalize upd H r (.lst []) = H1 at *
    obtain ⟨rl, rw', rn⟩ := split_small x (y := "\n") (by decide) (by decide +kernel)
    refine ⟨_, rfl, ⟨_, rfl⟩, _, _, rfl, rfl, by decide, le_line (by omega), fun p np => ?_⟩
    have s2 := same_new (Same.refl H1) np (o := .lst ((rowsOf x).map V.str))
    have hp : upd H1 p (.lst ((rowsOf x).map V.str)) p = some (.lst ((rowsOf x).map V.str)) := upd_same
    have npr : p ≠ r := fun e => by rw [e, hr1] at np; cases np
    have hr2 := s2 _ _ hr1
    have hds1 : ds.length = (rowsOf x).length := by
      have := congrArg List.length hds
      rw [List.length_map, List.length_map] at this
      exact this.symm
    have hrl : (rowsOf x).length ≤ x.length + 1 := rl
    have hrw : ∀ row ∈ rowsOf x, row.length ≤ x.length := rw'
    show (fun H2 => _) (upd H1 p (.lst ((rowsOf x).map V.str)))
    generalize upd H1 p (.lst ((rowsOf x).map V.str)) = H2 at *
    refine ⟨p, _, rfl, SqL.of hp, ?_⟩
    refine for_enum (K := K) (l := p) (ys := (rowsOf x).map V.str) (fun i σ H' => ∃ (v2 v3 v4 : Option V) (ys : List V), σ = [some (.str x), some (.ref r), v2, v3, v4] ∧ Same H H' ∧ H' p = some (.lst ((rowsOf x).map V.str)) ∧ H' r = some (.lst ys) ∧ TDs H' ys ((ds.take i).map wdD)) ⟨_, _, _, [], rfl, s1.trans s2, hp, hr2, .nil⟩ (fun i σ H' _ ⟨_, _, _, _, _, _, h, _⟩ => SqL.of h) ?_ ?_
    · rintro i y σ H3 t hy ⟨v2, v3, v4, ys, rfl, s3, hp3, hr3, tys⟩ nt
      obtain ⟨row, hrow, rfl⟩ := map_get hy
      have hi := (List.getElem?_eq_some_iff.mp hrow).1
      have hrm := hrw row (List.mem_of_getElem? hrow)
      obtain ⟨d, hd⟩ : ∃ d, ds[i]? = some d := ⟨_, List.getElem?_eq_getElem (by omega)⟩
      have hm : rowM row = some d := by
        have := congrArg (fun l => l[i]?) hds
        simp only [List.getElem?_map, hrow, hd, Option.map_some] at this
        exact Option.some.inj this
      have q1 := same_new (Same.refl H3) nt (o := .tup [.int ((i : Nat) : Int), .str row])
      refine ⟨t, _, rfl, SqT.of upd_same, rfl, _, _, rfl, _, _, rfl, rfl, ?_⟩
      refine ⟨_, rfl, ⟨_, rfl⟩, _, _, rfl, rfl, by decide, le_line (by omega), fun q nq => ?_⟩
      have q2 := same_new (Same.refl _) nq (o := .lst ((Txt.split row " ").map V.str))
      obtain ⟨f1, f2, f3⟩ := row_fits (row := row) (by omega)
      refine ⟨q, Txt.split row " ", rfl, upd_same, f1, f2, f3, fun v H4 s4 tv => ?_⟩
      have tv : TD H4 v (optWd (rowM row)) := tv
      rw [hm] at tv
      obtain ⟨va, rfl⟩ := wd_ref tv
      have q4 := (q1.trans q2).trans s4
      have hr4 := q4 _ _ hr3
      have tys4 := tys.mono (TSm.of_same q4)
      have hyl : ys.length ≤ 15001 := by rw [tys.length, List.length_map, List.length_take]; omega
      refine ⟨_, rfl, rfl, false, rfl, iteF ?_⟩
      have t5 : TSm H4 (upd H4 r (.lst (ys ++ [.ref va]))) := ts_upd (TSm.refl _) (NoT.lst hr4)
      refine ⟨_, rfl, .inl ⟨rfl, _, SqL.of hr4⟩, _, rfl, r, ys, _, rfl, rfl, hr4, lt_line (by omega), _, _, _, ys ++ [.ref va], rfl, same_mut (s3.trans q4) nr, ?_, upd_same, ?_⟩
      · show upd H4 r _ p = _
        rw [upd_ne npr]
        exact q4 _ _ hp3
      · rw [List.take_add_one, hd, Option.toList_some, List.map_append]
        exact (tys4.mono t5).app (.one (tv.mono t5))
    · rintro σ H3 ⟨v2, v3, v4, ys, rfl, s3, hp3, hr3, tys⟩
      rw [List.length_map, ← hds1, List.take_length] at tys
      exact ⟨_, rfl, fin r ys H3 s3 nr hr3 tys⟩
end
end K16

namespace K16
open PySem PySem.Spec PyProof.Rows L2 Sky TL
/-! ### a text whose row i is no step is refused -/
section
variable {P : Program} {w : World} {K : PySem.W.Frag} {mg : Str → Option Value} {base : Heap}
def spx_read (C : Addr) : Sp := fun vs H _ E => ∃ (x : Str) (i : Nat) (ds : List Wd) (row : Str), vs = [.str x] ∧ x.length ≤ 15000 ∧ x ≠ "" ∧ ((rowsOf x).take i).map rowM = ds.map some ∧ (rowsOf x)[i]? = some row ∧ rowM row = none ∧
  ∀ d H', Same H H' → H d = none → H' d = some (.xd [(("line" : Str), .int ((i : Nat) : Int))]) → E (.ref C) (some d) H'
theorem okx_read (T : Tx K mg) (hP : SupP P PySem.Challenge.pw_skyframes_k16_texts_refused.main.file) : FnOk P w K mg base (L2.CX P w) 3 T.a_read T.d_read ["text"] (spx_read T.A_BadText) := by
  have nd := sc_read.nd
  refine T.F_read.okX sc_read (fun vs H Q E h => ?_) (fun cdv A0 outer s0 H vs Q E hr h => ?_)
  · obtain ⟨_, _, _, _, rfl, _⟩ := h
    rfl
  · obtain ⟨x, m, ds, row0, rfl, hx, hn, hds, hrow0, hm0, fin⟩ := h
    have tk : Takes (cxOf (L2.CX P w) P w K mg base N_read "read" (defScope s_read) T.a_read cdv A0 outer s0 H E) (fun cls d _ H => E cls d H) := takes_of rfl rfl rfl rfl
    refine ⟨_, (pss_cons (ps_if (pt_cmpR op_eq (pv 0) pe_str (nomark _)) (pss_one (ps_ret (pe_lst pa_nil))) pss_nil) (pss_cons (ps_set (i := 1) nd rfl (Or.inl rfl) (pe_lst pa_nil)) (pss_cons (ps_for (passes_of rfl) rfl (pi_enum (by rfl) T.z_enumerate (pa_cons (pe_split (pv 0) pe_str) pa_nil)) (pg_tup rfl (pgs_cons (pg_name (i := 2) nd rfl (Or.inl rfl)) (pgs_cons (pg_name (i := 3) nd rfl (Or.inl rfl)) pgs_nil))) (pss_cons (ps_set (i := 4) nd rfl (Or.inl rfl) (pe_call (ok_step_of T) (hr.mono (by decide)) (by rfl) T.m_step_of T.F_step_of.kp T.b_step_of .nil pass0 (pa_cons (pe_split (pv 3) pe_str) pa_nil))) (pss_cons (ps_if (pt_cmpR op_isN (pv 4) pe_non (nomark _)) (pss_one (ps_raise rfl tk (pmk_oex T.S_BadText.T.oex T.S_BadText.i T.S_BadText.F.ty (supx_fn (k := 0) T.S_BadText sup_BadText hP T.z_super (by decide) (by decide)) (hr.mono (by decide)) T.S_BadText.b .nil pass0 (by rfl) T.S_BadText.g (pa_cons (pv 2) pa_nil)))) pss_nil) (pss_one (ps_expr (pe_bm PySem.F.plainAttrs_list PySem.F.slot_list_append PySem.F.type_list_append mt_append (pv 1) (pa_cons (pv 4) pa_nil))))))) (pss_one (ps_ret (pv 1)))))), ?_⟩
    refine ⟨_, rfl, rfl, false, congrArg V.bl (decide_eq_false fun h => hn (V.str.inj h)), iteF ?_⟩
    refine ⟨Nat.zero_le _, fun r nr => ?_⟩
    have s1 := same_new (Same.refl H) nr (o := .lst [])
    have hr1 : upd H r (.lst []) r = some (.lst []) := upd_same
    generalize upd H r (.lst []) = H1 at *
    obtain ⟨rl, rw', rn⟩ := split_small x (y := "\n") (by decide) (by decide +kernel)
    refine ⟨_, rfl, ⟨_, rfl⟩, _, _, rfl, rfl, by decide, le_line (by omega), fun p np => ?_⟩
    have s2 := same_new (Same.refl H1) np (o := .lst ((rowsOf x).map V.str))
    have hp : upd H1 p (.lst ((rowsOf x).map V.str)) p = some (.lst ((rowsOf x).map V.str)) := upd_same
    have npr : p ≠ r := fun e => by rw [e, hr1] at np; cases np
    have hr2 := s2 _ _ hr1
    have hml : m < (rowsOf x).length := (List.getElem?_eq_some_iff.mp hrow0).1
    have hds1 : ds.length = m := by
      have := congrArg List.length hds
      rw [List.length_map, List.length_map, List.length_take] at this
      omega
    have hrl : (rowsOf x).length ≤ x.length + 1 := rl
    have hrw : ∀ row ∈ rowsOf x, row.length ≤ x.length := rw'
    show (fun H2 => _) (upd H1 p (.lst ((rowsOf x).map V.str)))
    generalize upd H1 p (.lst ((rowsOf x).map V.str)) = H2 at *
    refine ⟨p, _, rfl, SqL.of hp, ?_⟩
    refine for_enum (K := K) (l := p) (ys := (rowsOf x).map V.str) (fun i σ H' => i ≤ m ∧ ∃ (v2 v3 v4 : Option V) (ys : List V), σ = [some (.str x), some (.ref r), v2, v3, v4] ∧ Same H H' ∧ H' p = some (.lst ((rowsOf x).map V.str)) ∧ H' r = some (.lst ys) ∧ ys.length = i) ⟨Nat.zero_le _, _, _, _, [], rfl, s1.trans s2, hp, hr2, rfl⟩ (fun i σ H' _ ⟨_, _, _, _, _, _, _, h, _⟩ => SqL.of h) ?_ ?_
    · rintro i y σ H3 t hy ⟨him, v2, v3, v4, ys, rfl, s3, hp3, hr3, hyl⟩ nt
      obtain ⟨row, hrow, rfl⟩ := map_get hy
      have hi := (List.getElem?_eq_some_iff.mp hrow).1
      have hrm := hrw row (List.mem_of_getElem? hrow)
      have q1 := same_new (Same.refl H3) nt (o := .tup [.int ((i : Nat) : Int), .str row])
      refine ⟨t, _, rfl, SqT.of upd_same, rfl, _, _, rfl, _, _, rfl, rfl, ?_⟩
      refine ⟨_, rfl, ⟨_, rfl⟩, _, _, rfl, rfl, by decide, le_line (by omega), fun q nq => ?_⟩
      have q2 := same_new (Same.refl _) nq (o := .lst ((Txt.split row " ").map V.str))
      obtain ⟨f1, f2, f3⟩ := row_fits (row := row) (by omega)
      refine ⟨q, Txt.split row " ", rfl, upd_same, f1, f2, f3, fun v H4 s4 tv => ?_⟩
      have tv : TD H4 v (optWd (rowM row)) := tv
      have q4 := (q1.trans q2).trans s4
      have hr4 := q4 _ _ hr3
      by_cases e : i = m
      · subst e
        rw [hrow] at hrow0
        cases hrow0
        rw [hm0] at tv
        cases tv
        refine ⟨_, rfl, rfl, true, rfl, iteT ?_⟩
        have s5 := s3.trans q4
        refine ⟨_, rfl, (by show 1 ≤ 1000; decide), fun a na => ⟨a, ((i : Nat) : Int), rfl, ⟨by omega, by omega⟩, upd_same, fun d nd nda => ⟨rfl, d, [("line", .int ((i : Nat) : Int))], upd_same, by rw [upd_ne nda, upd_same], by rw [upd_ne nda] at nd; exact nd, ?_⟩⟩⟩
        rw [upd_ne nda] at nd
        refine fin d _ (fun b o hb => ?_) (s5.free nd) upd_same
        have hb5 := s5 _ _ hb
        have nba : b ≠ a := ne_of_none hb5 na
        have nbd : b ≠ d := ne_of_none hb5 nd
        rw [upd_ne nbd, del_ne nba, upd_ne nba, upd_ne nbd, upd_ne nba]
        exact hb5
      · obtain ⟨d, hd⟩ : ∃ d, ds[i]? = some d := ⟨_, List.getElem?_eq_getElem (by omega)⟩
        have hm : rowM row = some d := by
          have := congrArg (fun l => l[i]?) hds
          simp only [List.getElem?_map, List.getElem?_take_of_lt (show i < m by omega), hrow, hd, Option.map_some] at this
          exact Option.some.inj this
        rw [hm] at tv
        obtain ⟨va, rfl⟩ := wd_ref tv
        refine ⟨_, rfl, rfl, false, rfl, iteF ?_⟩
        refine ⟨_, rfl, .inl ⟨rfl, _, SqL.of hr4⟩, _, rfl, r, ys, _, rfl, rfl, hr4, lt_line (by omega), by omega, _, _, _, ys ++ [.ref va], rfl, same_mut (s3.trans q4) nr, ?_, upd_same, by rw [List.length_append, hyl]; rfl⟩
        show upd H4 r _ p = _
        rw [upd_ne npr]
        exact q4 _ _ hp3
    · rintro σ H3 ⟨hle, _⟩
      rw [List.length_map] at hle
      omega
end
end K16

namespace K16
open PySem PySem.Spec PyProof.Rows L2 Sky TL
/-! ### the law's own reader: a word as a number -/
theorem tds_signs {H : Hp} : ∀ cs : List Nat, TDs H (cs.map fun c => V.str ⟨#[c]⟩) (cs.map fun c => PyData.str ⟨#[c]⟩)
  | [] => .nil
  | c :: cs => .cons (.str _) (tds_signs cs)
theorem sign_ok : ∀ c, c < 128 → PyData.strOk (⟨#[c]⟩ : Str) = true := by decide +kernel
section
variable {P : Program} {w : World} {K : PySem.W.Frag} {mg : Str → Option Value} {base : Heap}
def digC (c : Nat) : Bool := decide (c ∈ ("0123456789" : Str).cps.toList)
theorem digC_iff (c : Nat) : digC c = true ↔ 48 ≤ c ∧ c ≤ 57 := by
  unfold digC
  have e : ("0123456789" : Str).cps.toList = [48, 49, 50, 51, 52, 53, 54, 55, 56, 57] := by decide +kernel
  rw [e, decide_eq_true_eq]
  simp only [List.mem_cons, List.not_mem_nil, or_false]
  omega
theorem digit_is : ∀ c, 48 ≤ c ∧ c ≤ 57 → Unicode.isDigit c = true := fun c h => by
  have : ∀ d : Fin 10, Unicode.isDigit (48 + d.1) = true := by decide +kernel
  have := this ⟨c - 48, by omega⟩
  rwa [show 48 + (c - 48) = c by omega] at this
/-- when a word is a number, sign by sign -/
theorem isW_iff {x : Str} (h0 : 0 < x.length) (h4 : x.length < 4) (hd : (tl x).all digC = true) : isW x = (decide (x = "0") || decide ((tl x)[0]? ≠ some 48)) := by
  have dig : ∀ c ∈ tl x, 48 ≤ c ∧ c ≤ 57 := fun c hc => (digC_iff c).mp (List.all_eq_true.mp hd c hc)
  have a1 : Txt.isascii x = true := by
    show x.cps.all (· < 128) = true
    exact Array.all_eq_true_iff_forall_mem.mpr fun c hc => decide_eq_true (by have := dig c (Array.mem_toList_iff.mpr hc); omega)
  have a2 : Txt.isdigit x = true := by
    show (x.length > 0 && x.cps.all Unicode.isDigit) = true
    rw [Bool.and_eq_true]
    exact ⟨decide_eq_true h0, Array.all_eq_true_iff_forall_mem.mpr fun c hc => digit_is c (dig c (Array.mem_toList_iff.mpr hc))⟩
  unfold isW
  rw [a1, a2, decide_eq_true (show x.length ≤ 3 by omega)]
  rfl
theorem isW_no {x : Str} (h : ¬ (0 < x.length ∧ x.length < 4)) : isW x = false := by
  cases e : isW x with
  | false => rfl
  | true =>
    obtain ⟨_, hl, _, _⟩ := isW_int e
    unfold isW at e
    simp only [Bool.and_eq_true] at e
    have a2 : (x.length > 0 && x.cps.all Unicode.isDigit) = true := e.2.1
    have := of_decide_eq_true (Bool.and_eq_true_iff.mp a2).1
    exact absurd ⟨this, by omega⟩ h
theorem isW_odd {x : Str} (h : (tl x).all digC = false) : isW x = false := by
  cases e : isW x with
  | false => rfl
  | true =>
    exfalso
    have e' := e
    unfold isW at e
    simp only [Bool.and_eq_true] at e
    have a1 : x.cps.all (· < 128) = true := e.1
    have a2 : (x.length > 0 && x.cps.all Unicode.isDigit) = true := e.2.1
    have a2 := (Bool.and_eq_true_iff.mp a2).2
    have : (tl x).all digC = true := List.all_eq_true.mpr fun c hc => by
      have hm : c ∈ x.cps := Array.mem_toList_iff.mp hc
      exact (digC_iff c).mpr (digit_at c (of_decide_eq_true (Array.all_eq_true_iff_forall_mem.mp a1 c hm)) (Array.all_eq_true_iff_forall_mem.mp a2 c hm))
    rw [this] at h
    cases h
def figV (x : Str) : V := if isW x = true then .int ((numOf x : Nat) : Int) else .non
def sp_figures : Sp := fun vs H Q _ => ∃ x : Str, vs = [.str x] ∧ x.length ≤ 100000 ∧ (∀ c ∈ tl x, c < 128) ∧ ∀ H', Same H H' → Q (figV x) H'
theorem ok_law_figures (T : Tx K mg) : FnOk P w K mg base CX0 1 T.a_law_figures T.d_law_figures ["_law_word"] sp_figures := by
  have nd := sc_law_figures.nd
  refine T.F_law_figures.ok sc_law_figures (fun vs H Q E h => ?_) (fun cdv A outer s H vs Q E hr h => ?_)
  · obtain ⟨_, rfl, _⟩ := h
    rfl
  · obtain ⟨x, rfl, hx, hasc, fin⟩ := h
    refine ⟨_, (pss_cons (ps_if (PW.pt (pw_or (pt_not (pt_chain op_lt op_lt pe_int (pe_callB call_len_str (by rfl) T.z_len PySem.boot_len (pa_cons (pv 0) pa_nil)) pe_int)) (pw_or1 (pt_cmpR (op_neD hr.units) (pe_lc (own := [("_law_sign", 1)]) rfl nd (pi_str (pv 0)) (blkOk_by (own := [("_law_sign", 1)]) (N := N_law_figures) (sc := defScope s_law_figures) (by decide +kernel)) (fun _ _ _ _ _ => (pg_name (i := 1) nd rfl (Or.inl rfl))) (fun _ _ _ _ _ => (pts_one (pt_cmpR (op_notIn_sign) (pv 1) pe_str rfl))) (fun _ _ _ _ _ => (pv 1))) (pe_lst pa_nil) (nomark _))))) (pss_one (ps_ret pe_non)) pss_nil) (pss_one (ps_ret (pe_ifExp (PW.pt (pw_or (pt_cmpR op_eq (pv 0) pe_str (nomark _)) (pw_or1 (pt_cmpR op_ne (pe_ix ix_str (pv 0) pe_int (fun _ _ => rfl)) pe_str (nomark _))))) (pe_callTy call_int_str (by rfl) T.z_int (by decide +kernel) (pa_cons (pv 0) pa_nil)) pe_non)))), ?_⟩
    refine ⟨_, rfl, x, rfl, le_line (by omega), 0, _, rfl, rfl, _, rfl, ?_⟩
    have no : ¬ (0 < x.length ∧ x.length < 4) → ∀ H', Same H H' → Q V.non H' := fun h H' s => by
      have := fin H' s
      unfold figV at this
      rwa [isW_no h, if_neg (by decide)] at this
    refine ite2 (fun h0 => ?_) (fun h0 => ?_)
    · have h0 : 0 < x.length := by have := of_decide_eq_true h0; omega
      refine ⟨_, 4, rfl, rfl, _, rfl, ?_⟩
      by_cases h4 : x.length < 4
      · have e4 : decide (((x.length : Nat) : Int) < 4) = true := decide_eq_true (by omega)
        rw [e4]
        refine iteF ?_
        refine ⟨_, rfl, x, rfl, fun D hD => ?_⟩
        have esz : x.cps.size = (tl x).length := (Array.length_toList).symm
        refine lc_it walk_str (fun i H' => Same H H' ∧ H' D = some (.lst ((((tl x).take i).filter fun c => !digC c).map fun c => V.str ⟨#[c]⟩))) ⟨same_new (Same.refl H) hD, upd_same⟩ (fun i H' _ _ => trivial) ?_ ?_
        · rintro i v H1 H2 hi ⟨s1, h1⟩ ⟨rfl, c, hc, rfl⟩
          have hc' : (tl x)[i]? = some c := by
            show x.cps.toList[i]? = some c
            rw [Array.getElem?_toList]; exact hc
          have et : (tl x).take (i + 1) = (tl x).take i ++ [c] := by rw [List.take_add_one, hc']; rfl
          refine ⟨rfl, _, rfl, c, _, rfl, rfl, _, rfl, ?_⟩
          have hlen : (((tl x).take i).filter fun c => !digC c).length ≤ i := Nat.le_trans (List.length_filter_le _ _) (by rw [List.length_take]; omega)
          have hxl := len_tl x
          refine ite2 (fun hb => ?_) (fun hb => ?_)
          · have hb : (!digC c) = true := hb
            refine ⟨_, rfl, _, h1, lt_line (by rw [List.length_map]; omega), same_mut s1 hD, ?_⟩
            rw [upd_same, et, List.filter_append, List.map_append]
            simp [hb]
          · have hb : ¬ (!digC c) = true := hb
            refine ⟨s1, ?_⟩
            rw [h1, et, List.filter_append]
            simp [hb]
        · rintro H1 ⟨s1, h1⟩
          rw [esz, List.take_length] at h1
          refine ⟨Nat.zero_le _, fun e ne => ?_⟩
          have s2 := same_new (Same.refl H1) ne (o := .lst [])
          have lay0 : Lay 1 (.list []) := Lay.of_list (fun d h => nomatch h)
          have layL : Lay 1 (.list (((tl x).filter fun c => !digC c).map fun c => PyData.str ⟨#[c]⟩)) := Lay.list fun c hc => ⟨by simp [PyData.canLay0, sign_ok c (hasc c (List.mem_filter.mp hc).1)], by simp [PyData.depth]⟩
          refine ⟨.list (((tl x).filter fun c => !digC c).map fun c => PyData.str ⟨#[c]⟩), .list [], .lst (SqL.of (s2 _ _ h1)) (tds_signs _).dp, .lst (SqL.of upd_same) .nil, layL.shaped (by decide), lay0.shaped (by decide), ?_⟩
          cases hd : (tl x).all digC with
          | true =>
            have ef : ((tl x).filter fun c => !digC c) = [] := List.filter_eq_nil_iff.mpr fun c hc => by rw [List.all_eq_true.mp hd c hc]; decide
            refine ⟨false, by rw [ef]; rfl, iteF ?_⟩
            have hw := isW_iff h0 h4 hd
            have hq := fin _ (s1.trans s2)
            have ne0 : 0 < (tl x).length := by rw [← len_tl]; exact h0
            have yes : isW x = true → ∀ H', Q (figV x) H' → ∃ a n, [V.str x] = [V.str a] ∧ intText? a = some n ∧ a.length ≤ 640 ∧ Q (V.int n) H' := fun h H' q => by
              unfold figV at q
              rw [if_pos h] at q
              exact ⟨x, _, rfl, (isW_int h).1, by omega, q⟩
            by_cases e0 : x = "0"
            · rw [decide_eq_true e0, Bool.true_or] at hw
              exact ⟨_, rfl, rfl, true, congrArg V.bl (decide_eq_true (congrArg V.str e0)), iteT ⟨_, rfl, yes hw _ hq⟩⟩
            · rw [decide_eq_false e0, Bool.false_or] at hw
              obtain ⟨c, hc⟩ : ∃ c, (tl x)[0]? = some c := ⟨_, List.getElem?_eq_getElem ne0⟩
              refine ⟨_, rfl, rfl, false, congrArg V.bl (decide_eq_false fun h => e0 (V.str.inj h)), iteF ⟨_, rfl, _, _, c, rfl, rfl, le_line (by omega), atI_nat (j := 0) hc, rfl, _, rfl, ?_⟩⟩
              have e : decide (V.str ⟨#[c]⟩ = V.str (Str.ofString "0")) = decide ((tl x)[0]? = some 48) := by
                rw [hc]
                by_cases g : c = 48
                · subst g; rw [decide_eq_true rfl]; exact decide_eq_true rfl
                · rw [decide_eq_false (fun h => g (Option.some.inj h)), decide_eq_false]
                  intro h
                  have q1 := congrArg (fun s : Str => s.cps.toList[0]?) (V.str.inj h)
                  have q2 : (some c : Option Nat) = some 48 := q1
                  exact g (Option.some.inj q2)
              have e2 : (!decide ((tl x)[0]? = some 48)) = decide ((tl x)[0]? ≠ some 48) := by simp
              rw [e, e2, ← hw]
              cases h : isW x with
              | true => exact iteT ⟨_, rfl, yes h _ hq⟩
              | false =>
                refine iteF ?_
                unfold figV at hq
                rwa [h, if_neg (by decide)] at hq
          | false =>
            have ef : ∃ c cs, ((tl x).filter fun c => !digC c) = c :: cs := by
              cases e : (tl x).filter fun c => !digC c with
              | cons c cs => exact ⟨c, cs, rfl⟩
              | nil =>
                have := List.filter_eq_nil_iff.mp e
                have : (tl x).all digC = true := List.all_eq_true.mpr fun c hc => by have := this c hc; revert this; cases digC c <;> simp
                rw [this] at hd
                cases hd
            obtain ⟨c, cs, ef⟩ := ef
            refine ⟨true, by rw [ef]; rfl, iteT ?_⟩
            have := fin _ (s1.trans s2)
            unfold figV at this
            rwa [isW_odd hd, if_neg (by decide)] at this
      · have e4 : decide (((x.length : Nat) : Int) < 4) = false := decide_eq_false (by omega)
        rw [e4]
        exact iteT (iteT (no (fun h => h4 h.2) H (Same.refl H)))
    · have h0 : ¬ 0 < x.length := fun z => h0 (decide_eq_true (by omega))
      exact ⟨_, rfl, iteT (iteT (no (fun h => h0 h.1) H (Same.refl H)))⟩
end
end K16

namespace K16
open PySem PySem.Spec PyProof.Rows L2 Sky TL
/-! ### the law's own reader: a row -/
theorem fig_flat (r : List Str) : (r.map figV).all flatV = true := by
  rw [List.all_map, List.all_eq_true]
  intro w _
  show flatV (figV w) = true
  unfold figV
  split <;> rfl
theorem fig_in : ∀ r : List Str, inV .non (r.map figV) = !(r.all isW)
  | [] => rfl
  | w :: r => by
    have ih := fig_in r
    unfold inV at ih ⊢
    rw [List.map_cons, List.all_cons, List.any_cons, ih]
    cases h : isW w with
    | true =>
      have e : figV w = .int ((numOf w : Nat) : Int) := by unfold figV; rw [if_pos h]
      rw [e, Bool.true_and]
      rfl
    | false =>
      have e : figV w = .non := by unfold figV; rw [if_neg (by rw [h]; decide)]
      rw [e, Bool.false_and]
      rfl
theorem tds_nats {H : Hp} : ∀ ns : List Nat, TDs H (ns.map fun n : Nat => V.int (n : Int)) (ns.map fun n : Nat => PyData.int (n : Int))
  | [] => .nil
  | n :: ns => .cons (.int _) (tds_nats ns)
def figD (w : Str) : PyData := if isW w = true then .int ((numOf w : Nat) : Int) else .none
theorem td_fig {H : Hp} (w : Str) : TD H (figV w) (figD w) := by
  unfold figV figD
  split
  · exact .int _
  · exact .non
theorem tds_fig {H : Hp} : ∀ r : List Str, TDs H (r.map figV) (r.map figD)
  | [] => .nil
  | w :: r => .cons (td_fig w) (tds_fig r)
theorem lay_figs (r : List Str) : Lay 1 (.list (r.map figD)) := Lay.list fun w _ => by
  unfold figD
  split
  · exact Lay.int _
  · exact Lay.none
theorem bare_not : ∀ w ∈ bareL, w ∉ lettL ∧ w ≠ "close" ∧ w ≠ "tell" := by decide +kernel
theorem lett_not : ∀ w ∈ lettL, w ∉ bareL ∧ w ≠ "close" ∧ w ≠ "tell" := by decide +kernel
theorem fig_num {w : Str} (h : isW w = true) : figV w = .int ((numOf w : Nat) : Int) := by unfold figV; rw [if_pos h]
theorem fig_all {r : List Str} (h : r.all isW = true) : r.map figV = (r.map numOf).map fun n : Nat => V.int (n : Int) := by
  rw [List.map_map]
  exact List.map_congr_left fun w hw => fig_num (List.all_eq_true.mp h w hw)
section
variable {P : Program} {w : World} {K : PySem.W.Frag} {mg : Str → Option Value} {base : Heap}
def sp_lawrow : Sp := fun vs H Q _ => ∃ x : Str, vs = [.str x] ∧ x.length ≤ 15000 ∧ (∀ p ∈ Txt.split x " ", ∀ c ∈ tl p, c < 128) ∧ ∀ v H', Same H H' → TD H' v (optWd (rowM x)) → Q v H'
theorem ok_law_row (T : Tx K mg) : FnOk P w K mg base CX0 2 T.a_law_row T.d_law_row ["_law_row_here"] sp_lawrow := by
  have nd := sc_law_row.nd
  refine T.F_law_row.ok sc_law_row (fun vs H Q E h => ?_) (fun cdv A outer s H vs Q E hr h => ?_)
  · obtain ⟨_, rfl, _⟩ := h
    rfl
  · obtain ⟨x, rfl, hx, hasc, fin⟩ := h
    refine ⟨_, (pss_cons (ps_set (i := 1) nd rfl (Or.inl rfl) (pe_split (pv 0) pe_str)) (pss_cons (ps_set (i := 2) nd rfl (Or.inl rfl) (pe_ix ix_list (pv 1) pe_int (fun _ _ => rfl))) (pss_cons (ps_setLc (i := 3) (own := [("_law_one", 4)]) rfl nd rfl rfl (sw_true rfl rfl rfl (by decide +kernel)) (pi_list (pe_slice sl_list (pv 1) (po_some pe_int) po_none)) (blkOk_by (own := [("_law_one", 4)]) (N := N_law_row) (sc := defScope s_law_row) (by decide +kernel)) (fun _ _ _ _ _ => (pg_name (i := 4) nd rfl (Or.inl rfl))) (fun _ _ _ _ _ => pts_nil) (fun _ _ _ _ _ => (pe_call (ok_law_figures T) (hr.mono (by decide)) (by rfl) T.m_law_figures T.F_law_figures.kp T.b_law_figures .nil pass0 (pa_cons (pv 4) pa_nil)))) (pss_cons (ps_if (pt_cmpR op_eq (pv 2) pe_str (nomark _)) (pss_one (ps_ret (pe_ifExp (PW.pt (pw_and (pt_cmpR op_gt (pe_callB call_len_seq (by rfl) T.z_len PySem.boot_len (pa_cons (pv 3) pa_nil)) pe_int (nomark _)) (pw_and1 (pt_cmpR op_notIn_seq pe_non (pv 3) rfl)))) (pe_tup (pa_cons (pv 2) (pa_cons (pe_ix ix_list (pv 3) pe_int (fun _ _ => rfl)) (pa_cons (pe_tupleOf (by rfl) T.z_tuple (pe_slice sl_list (pv 3) (po_some pe_int) po_none)) pa_nil)))) pe_non))) pss_nil) (pss_cons (ps_if (pt_cmpR op_in_seq (pv 2) (pe_tup (pa_cons pe_str (pa_cons pe_str (pa_cons pe_str (pa_cons pe_str (pa_cons pe_str pa_nil)))))) rfl) (pss_one (ps_ret (pe_ifExp (pt_cmpR (op_eqD hr.units) (pv 3) (pe_lst pa_nil) (nomark _)) (pe_tup (pa_cons (pv 2) pa_nil)) pe_non))) pss_nil) (pss_cons (ps_if (pt_cmpR op_eq (pv 2) pe_str (nomark _)) (pss_one (ps_ret (pe_ifExp (PW.pt (pw_and (pt_cmpR op_eq (pe_callB call_len_seq (by rfl) T.z_len PySem.boot_len (pa_cons (pv 3) pa_nil)) pe_int (nomark _)) (pw_and1 (pt_cmpR op_notN (pe_ix ix_list (pv 3) pe_int (fun _ _ => rfl)) pe_non (nomark _))))) (pe_tup (pa_cons (pv 2) (pa_cons (pe_ix ix_list (pv 3) pe_int (fun _ _ => rfl)) pa_nil))) pe_non))) pss_nil) (pss_cons (ps_if (PW.pt (pw_and (pt_cmpR op_in_seq (pv 2) (pe_tup (pa_cons pe_str (pa_cons pe_str (pa_cons pe_str pa_nil)))) rfl) (pw_and (pt_cmpR op_eq (pe_callB call_len_seq (by rfl) T.z_len PySem.boot_len (pa_cons (pv 1) pa_nil)) pe_int (nomark _)) (pw_and1 (pt_cmpR op_in_seq (pe_ix ix_list (pv 1) pe_int (fun _ _ => rfl)) (pe_tup (pa_cons pe_str (pa_cons pe_str pa_nil))) rfl))))) (pss_one (ps_ret (pe_ifExp (pt_cmpR op_notN (pe_ix ix_list (pv 3) pe_int (fun _ _ => rfl)) pe_non (nomark _)) (pe_tup (pa_cons (pv 2) (pa_cons (pe_ix ix_list (pv 1) pe_int (fun _ _ => rfl)) (pa_cons (pe_ix ix_list (pv 3) pe_int (fun _ _ => rfl)) pa_nil)))) pe_non))) pss_nil) (pss_one (ps_ret pe_non))))))))), ?_⟩
    obtain ⟨f1, f2, f3⟩ := row_fits (row := x) hx
    unfold rowM at fin
    refine ⟨_, rfl, ⟨_, rfl⟩, _, _, rfl, rfl, by decide, le_line (by omega), fun wl nwl => ?_⟩
    generalize Txt.split x " " = ws at *
    cases ws with
    | nil => exact absurd rfl f1
    | cons w0 r =>
      have s1 := same_new (Same.refl H) nwl (o := .lst ((w0 :: r).map V.str))
      have h1 : upd H wl (.lst ((w0 :: r).map V.str)) wl = some (.lst ((w0 :: r).map V.str)) := upd_same
      generalize upd H wl (.lst ((w0 :: r).map V.str)) = H1 at *
      have hrl : r.length ≤ 15899 := by rw [List.length_cons] at f2; omega
      refine ⟨_, rfl, wl, _, 0, _, rfl, rfl, SqL.of h1, atI_nat (j := 0) rfl, ?_⟩
      -- the rest as numbers
      refine ⟨_, rfl, 1, rfl, wl, _, rfl, SqL.of h1, fun g ng => ?_⟩
      have ecut : cutV ((w0 :: r).map V.str) (some ((1 : Nat) : Int)) none = r.map V.str := cut_hi (n := 1) (by rw [List.length_map, List.length_cons]; omega)
      have s2 : Same H (upd H1 g (.lst (cutV ((w0 :: r).map V.str) (some ((1 : Nat) : Int)) none))) := s1.trans (same_new (Same.refl H1) ng)
      have hg : upd H1 g (.lst (cutV ((w0 :: r).map V.str) (some ((1 : Nat) : Int)) none)) g = some (.lst (r.map V.str)) := upd_same.trans (congrArg (fun z => some (HO.lst z)) ecut)
      have h2 := same_new (Same.refl H1) ng (o := .lst (cutV ((w0 :: r).map V.str) (some ((1 : Nat) : Int)) none)) _ _ h1
      refine ⟨_, rfl, ⟨_, SqL.of hg⟩, fun D hD => ?_⟩
      have s3 := same_new (Same.refl _) hD (o := .lst [])
      refine lc_list (K := K) (a := g) (xs := r.map V.str) (fun i H' => Same H H' ∧ H' wl = some (.lst ((w0 :: r).map V.str)) ∧ H' g = some (.lst (r.map V.str)) ∧ H' D = some (.lst ((r.take i).map figV))) ⟨s2.trans s3, s3 _ _ h2, s3 _ _ hg, upd_same⟩ (fun i H' _ p => SqL.of p.2.2.1) ?_ ?_
      · rintro i y H3 hy ⟨q1, q2, q3, q4⟩
        obtain ⟨wd, hwd, rfl⟩ := map_get hy
        have hil := (List.getElem?_eq_some_iff.mp hwd).1
        have hm : wd ∈ w0 :: r := List.mem_cons_of_mem _ (List.mem_of_getElem? hwd)
        have nwD : wl ≠ D := ne_of_none h2 hD
        have ngD : g ≠ D := ne_of_none hg hD
        refine ⟨rfl, _, rfl, wd, rfl, f3 wd hm, hasc wd hm, fun H4 s4 => ⟨_, s4 _ _ q4, lt_line (by rw [List.length_map, List.length_take]; omega), same_mut (q1.trans s4) (s2.free hD), by rw [upd_ne nwD]; exact s4 _ _ q2, by rw [upd_ne ngD]; exact s4 _ _ q3, ?_⟩⟩
        rw [upd_same, List.take_add_one, hwd, Option.toList_some, List.map_append]
        rfl
      · rintro H3 ⟨q1, q2, q3, q4⟩
        rw [List.length_map, List.take_length] at q4
        have non : stepM (w0 :: r) = none → ∀ H', Same H3 H' → Q .non H' := fun h H' s => fin .non H' (q1.trans s) (by rw [h]; exact .non)
        have r3 : Same H3 H3 := Same.refl H3
        refine ⟨_, rfl, rfl, _, rfl, ite2 (fun ht => ?_) (fun ht => ?_)⟩
        · have ht : w0 = "tell" := V.str.inj (of_decide_eq_true ht)
          have nb : w0 ∉ bareL := by rw [ht]; decide +kernel
          have nl : w0 ∉ lettL := by rw [ht]; decide +kernel
          have nc : w0 ≠ "close" := by rw [ht]; decide +kernel
          refine ⟨_, rfl, D, _, rfl, .inl (SqL.of q4), _, 1, rfl, rfl, _, rfl, ?_⟩
          by_cases hl : 1 < r.length
          · rw [decide_eq_true (show (1 : Int) < (((r.map figV).length : Nat) : Int) by rw [List.length_map]; omega)]
            refine iteT ⟨_, rfl, D, _, rfl, .inl (SqL.of q4), rfl, fig_flat r, _, rfl, ?_⟩
            rw [fig_in, Bool.not_not]
            cases ha : r.all isW with
            | false => exact iteF (non (stepM_odd (fun h => nb h.1) (fun h => nl h.1) ha) H3 r3)
            | true =>
              have hst : stepM (w0 :: r) = some (.tell (numOf (r.getD 0 "")) (r.tail.map numOf)) := by
                rw [stepM_num (fun h => nb h.1) (fun h => nl h.1) ha, if_neg (fun h => nc h.1), if_pos ⟨ht, hl⟩]
              rw [hst] at fin
              match r, hl, ha, q4, fin with
              | w1 :: w2 :: r2, _, ha, q4, fin =>
                have ha1 : isW w1 = true := List.all_eq_true.mp ha w1 (by simp)
                have ha2 : (w2 :: r2).all isW = true := List.all_eq_true.mpr fun w hw => List.all_eq_true.mp ha w (List.mem_cons_of_mem _ hw)
                have e2 : cutV ((w1 :: w2 :: r2).map figV) (some ((1 : Nat) : Int)) none = (w2 :: r2).map figV := cut_hi (n := 1) (by rw [List.length_map, List.length_cons]; omega)
                refine iteT ⟨_, rfl, _, rfl, D, _, 0, _, rfl, rfl, SqL.of q4, atI_nat (j := 0) rfl, _, rfl, 1, rfl, D, _, rfl, SqL.of q4, fun g2 ng2 => ?_⟩
                have sg := same_new r3 ng2 (o := .lst (cutV ((w1 :: w2 :: r2).map figV) (some ((1 : Nat) : Int)) none))
                have hg2 : upd H3 g2 (.lst (cutV ((w1 :: w2 :: r2).map figV) (some ((1 : Nat) : Int)) none)) g2 = some (.lst ((w2 :: r2).map figV)) := upd_same.trans (congrArg (fun z => some (HO.lst z)) e2)
                refine .inl ⟨g2, _, rfl, SqL.of hg2, fun tp ntp => ⟨(by decide : (3 : Nat) ≤ sizeLine), fun f nf => ?_⟩⟩
                have s5 := (sg.trans (same_new (Same.refl _) ntp)).trans (same_new (Same.refl _) nf (o := .tup [.str w0, figV w1, .ref tp]))
                refine fin (.ref f) _ (q1.trans s5) (.tup upd_same (.cons ?_ (.cons ?_ (.cons (.tup (by rw [upd_ne (ne_of_none upd_same nf)]; exact upd_same) ?_) .nil))))
                · rw [ht]; exact .str _
                · rw [fig_num ha1]; exact .int _
                · rw [fig_all ha2]
                  exact tds_nats _
          · rw [decide_eq_false (show ¬ (1 : Int) < (((r.map figV).length : Nat) : Int) by rw [List.length_map]; omega)]
            refine iteF (non ?_ H3 r3)
            cases ha : r.all isW with
            | false => exact stepM_odd (fun h => nb h.1) (fun h => nl h.1) ha
            | true => rw [stepM_num (fun h => nb h.1) (fun h => nl h.1) ha, if_neg (fun h => nc h.1), if_neg (fun h => hl h.2)]
        · have ht : w0 ≠ "tell" := fun e => ht (decide_eq_true (congrArg V.str e))
          refine ⟨_, rfl, (by decide : (5 : Nat) ≤ sizeLine), fun p np => ⟨p, _, rfl, .inr (SqT.of upd_same), rfl, rfl, _, rfl, ?_⟩⟩
          have s4 := same_new r3 np (o := .tup (bareL.map V.str))
          have eb : inV (.str w0) (bareL.map V.str) = decide (w0 ∈ bareL) := inV_strs w0 bareL
          change (if inV (.str w0) (bareL.map V.str) = true then _ else _)
          rw [eb]
          refine ite2 (fun hb => ?_) (fun hb => ?_)
          · have hb : w0 ∈ bareL := of_decide_eq_true hb
            obtain ⟨b1, b2, b3⟩ := bare_not w0 hb
            refine ⟨_, rfl, Nat.zero_le _, fun e ne => ?_⟩
            have s5 := s4.trans (same_new (Same.refl _) ne (o := .lst []))
            have lay0 : Lay 1 (.list []) := Lay.of_list (fun d h => nomatch h)
            refine ⟨.list (r.map figD), .list [], .lst (SqL.of (s5 _ _ q4)) (tds_fig r).dp, .lst (SqL.of upd_same) .nil, (lay_figs r).shaped (by decide), lay0.shaped (by decide), ?_⟩
            cases r with
            | nil =>
              refine ⟨true, rfl, iteT ⟨_, rfl, (by decide : (1 : Nat) ≤ sizeLine), fun f nf => ?_⟩⟩
              refine fin (.ref f) _ (q1.trans (s5.trans (same_new (Same.refl _) nf))) ?_
              rw [stepM_bare hb]
              exact .tup upd_same (.cons (.str _) .nil)
            | cons a rs =>
              refine ⟨false, rfl, iteF (non ?_ _ s5)⟩
              cases ha : (a :: rs).all isW with
              | false => exact stepM_odd (r := a :: rs) (fun h => by cases h.2) (fun h => b1 h.1) ha
              | true => rw [stepM_num (r := a :: rs) (fun h => by cases h.2) (fun h => b1 h.1) ha, if_neg (fun h => b2 h.1), if_neg (fun h => b3 h.1)]
          · have hb : w0 ∉ bareL := fun h => hb (decide_eq_true h)
            refine ⟨_, rfl, rfl, _, rfl, ite2 (fun hc => ?_) (fun hc => ?_)⟩
            · have hc : w0 = "close" := V.str.inj (of_decide_eq_true hc)
              have nl : w0 ∉ lettL := by rw [hc]; decide +kernel
              refine ⟨_, rfl, D, _, rfl, .inl (SqL.of (s4 _ _ q4)), rfl, _, rfl, ?_⟩
              by_cases h1 : r.length = 1
              · obtain ⟨a, rfl⟩ : ∃ a, r = [a] := by
                  match r, h1 with
                  | [a], _ => exact ⟨a, rfl⟩
                refine iteT ⟨_, rfl, D, _, 0, _, rfl, rfl, SqL.of (s4 _ _ q4), atI_nat (j := 0) rfl, rfl, _, rfl, ?_⟩
                cases ha : isW a with
                | true =>
                  rw [fig_num ha]
                  refine iteT ⟨_, rfl, _, rfl, D, _, 0, _, rfl, rfl, SqL.of (s4 _ _ q4), atI_nat (j := 0) rfl, (by decide : (2 : Nat) ≤ sizeLine), fun f nf => ?_⟩
                  refine fin (.ref f) _ (q1.trans (s4.trans (same_new (Same.refl _) nf))) ?_
                  rw [stepM_num (r := [a]) (fun h => hb h.1) (fun h => nl h.1) (by rw [List.all_cons, ha]; rfl), if_pos ⟨hc, rfl⟩]
                  refine .tup upd_same (.cons (by rw [hc]; exact .str _) (.cons ?_ .nil))
                  rw [fig_num ha]
                  exact .int _
                | false =>
                  have ef : figV a = .non := by unfold figV; rw [if_neg (by rw [ha]; decide)]
                  rw [ef]
                  exact iteF (non (stepM_odd (r := [a]) (fun h => hb h.1) (fun h => nl h.1) (by rw [List.all_cons, ha]; rfl)) _ s4)
              · refine ite2 (fun z => absurd ?_ h1) (fun _ => non ?_ _ s4)
                · have := V.int.inj (of_decide_eq_true z)
                  rw [List.length_map] at this
                  omega
                · cases ha : r.all isW with
                  | false => exact stepM_odd (fun h => hb h.1) (fun h => nl h.1) ha
                  | true => rw [stepM_num (fun h => hb h.1) (fun h => nl h.1) ha, if_neg (fun h => h1 h.2), if_neg (fun h => ht h.1)]
            · have hc : w0 ≠ "close" := fun e => hc (decide_eq_true (congrArg V.str e))
              have last : ¬ (w0 ∈ lettL ∧ r.length = 2 ∧ r.getD 0 "" ∈ waysL) → ∀ H', Same H3 H' → Q .non H' := fun h => non (by
                cases ha : r.all isW with
                | false => exact stepM_odd (fun h => hb h.1) (fun g => h ⟨g.1, g.2.1, g.2.2.1⟩) ha
                | true => rw [stepM_num (fun h => hb h.1) (fun g => h ⟨g.1, g.2.1, g.2.2.1⟩) ha, if_neg (fun h => hc h.1), if_neg (fun h => ht h.1)])
              refine ⟨_, rfl, (by decide : (3 : Nat) ≤ sizeLine), fun p2 np2 => ⟨p2, _, rfl, .inr (SqT.of upd_same), rfl, rfl, _, rfl, ?_⟩⟩
              have s5 := s4.trans (same_new (Same.refl _) np2 (o := .tup (lettL.map V.str)))
              have el : inV (.str w0) (lettL.map V.str) = decide (w0 ∈ lettL) := inV_strs w0 lettL
              change (if inV (.str w0) (lettL.map V.str) = true then _ else _)
              rw [el]
              refine ite2 (fun hl => ?_) (fun hl => last (fun h => hl (decide_eq_true h.1)) _ s5)
              have hl : w0 ∈ lettL := of_decide_eq_true hl
              refine ⟨_, rfl, wl, _, rfl, .inl (SqL.of (s5 _ _ q2)), rfl, _, rfl, ite2 (fun h3 => ?_) (fun h3 => ?_)⟩
              · have h3 : r.length = 2 := by
                  have := V.int.inj (of_decide_eq_true h3)
                  rw [List.length_map, List.length_cons] at this
                  omega
                obtain ⟨a, b, rfl⟩ : ∃ a b, r = [a, b] := by
                  match r, h3 with
                  | [a, b], _ => exact ⟨a, b, rfl⟩
                refine ⟨_, rfl, wl, _, 1, _, rfl, rfl, SqL.of (s5 _ _ q2), atI_nat (j := 1) rfl, (by decide : (2 : Nat) ≤ sizeLine), fun p3 np3 => ⟨p3, _, rfl, .inr (SqT.of upd_same), rfl, rfl, _, rfl, ?_⟩⟩
                have s6 := s5.trans (same_new (Same.refl _) np3 (o := .tup (waysL.map V.str)))
                have ew : inV (.str a) (waysL.map V.str) = decide (a ∈ waysL) := inV_strs a waysL
                change (if inV (.str a) (waysL.map V.str) = true then _ else _)
                rw [ew]
                refine ite2 (fun hw => ?_) (fun hw => last (fun h => hw (decide_eq_true h.2.2)) _ s6)
                have hw : a ∈ waysL := of_decide_eq_true hw
                refine ⟨_, rfl, D, _, 1, _, rfl, rfl, SqL.of (s6 _ _ q4), atI_nat (j := 1) rfl, rfl, _, rfl, ?_⟩
                cases hv : isW b with
                | true =>
                  rw [fig_num hv]
                  refine iteT ⟨_, rfl, _, rfl, wl, _, 1, _, rfl, rfl, SqL.of (s6 _ _ q2), atI_nat (j := 1) rfl, _, rfl, D, _, 1, _, rfl, rfl, SqL.of (s6 _ _ q4), atI_nat (j := 1) rfl, (by decide : (3 : Nat) ≤ sizeLine), fun f nf => ?_⟩
                  refine fin (.ref f) _ (q1.trans (s6.trans (same_new (Same.refl _) nf))) ?_
                  rw [stepM_letter (fun h => hb h.1) hl hw hv]
                  refine .tup upd_same (.cons (.str _) (.cons (.str _) (.cons ?_ .nil)))
                  rw [fig_num hv]
                  exact .int _
                | false =>
                  have ef : figV b = .non := by unfold figV; rw [if_neg (by rw [hv]; decide)]
                  rw [ef]
                  refine iteF (non ?_ _ s6)
                  exact stepM_odd (r := [a, b]) (fun h => hb h.1) (fun h => by have := h.2.2.2; rw [show [a, b].getD 1 "" = b from rfl, hv] at this; cases this) (by rw [List.all_cons, List.all_cons, hv]; simp)
              · have h3 : ¬ r.length = 2 := fun e => h3 (decide_eq_true (by rw [List.length_map, List.length_cons, e]; rfl))
                exact iteF (last (fun h => h3 h.2.1) _ s5)
end
end K16

namespace K16
open PySem PySem.Spec PyProof.Rows L2 Sky
section
variable {P : Program} {w : World} {K : PySem.W.Frag} {mg : Str → Option Value} {base : Heap}
theorem HAt.new {H : Hp} {p q a : Addr} {o : HO} (h : HAt H p q) (n : H a = none) : HAt (upd H a o) p q := by
  obtain ⟨m, k, ns, npq, hp, hq, r⟩ := h
  exact ⟨m, k, ns, npq, by rw [upd_ne (ne_of_none hp n)]; exact hp, by rw [upd_ne (ne_of_none hq n)]; exact hq, r⟩
theorem HAt.ne {H : Hp} {p q a : Addr} {o : HO} (h : HAt H p q) (n : a ≠ p) (n' : a ≠ q) : HAt (upd H a o) p q := by
  obtain ⟨m, k, ns, npq, hp, hq, r⟩ := h
  exact ⟨m, k, ns, npq, by rw [upd_ne n.symm]; exact hp, by rw [upd_ne n'.symm]; exact hq, r⟩
theorem HAt.there {H : Hp} {p q : Addr} (h : HAt H p q) : ∀ m ∈ [p, q], ∃ o, H m = some o := by
  obtain ⟨m, k, ns, npq, hp, hq, r⟩ := h
  intro x hx
  rcases List.mem_cons.mp hx with e | e
  · rw [e]; exact ⟨_, hp⟩
  · rw [List.mem_singleton.mp e]; exact ⟨_, hq⟩
theorem HAt.noT {H : Hp} {p q : Addr} (h : HAt H p q) : ∀ m ∈ [p, q], NoT H m := by
  obtain ⟨m, k, ns, npq, hp, hq, r⟩ := h
  intro x hx
  rcases List.mem_cons.mp hx with e | e
  · rw [e]; exact NoT.lst hp
  · rw [List.mem_singleton.mp e]; exact NoT.lst hq
theorem HAt.fresh {H : Hp} {p q a : Addr} (h : HAt H p q) (n : H a = none) : a ≠ p ∧ a ≠ q := by
  obtain ⟨m, k, ns, npq, hp, hq, r⟩ := h
  exact ⟨(ne_of_none hp n).symm, (ne_of_none hq n).symm⟩
/-- an item of a written list at a drawn place -/
theorem at_of {xs : List V} {r : Int} {R : V → Prop} (h0 : 0 ≤ r) (h1 : r < (xs.length : Int)) (h : ∀ v ∈ xs, R v) : ∃ v, atI xs r = some v ∧ R v := by
  obtain ⟨n, rfl⟩ : ∃ n : Nat, r = (n : Int) := ⟨r.toNat, (Int.toNat_of_nonneg h0).symm⟩
  have hl : n < xs.length := by omega
  exact ⟨xs[n], atI_nat (List.getElem?_eq_getElem hl), h _ (List.getElem_mem hl)⟩
def sp_data : Sp := fun vs H Q _ => ∃ (p q : Addr), vs = [.ref p] ∧ HAt H p q ∧ ∀ t xs H', tellOk xs → H' t = some (.tup (xs.map V.int)) → H t = none → HAt H' p q → Keep [p, q] H H' → Dom H H' → Q (.ref t) H'
theorem ok_law_data (T : Tx K mg) : FnOk P w K mg base CX0 2 T.a_law_data T.d_law_data ["_law_h"] sp_data := by
  have nd := sc_law_data.nd
  refine T.F_law_data.ok sc_law_data (fun vs H Q E h => ?_) (fun cdv A outer s H vs Q E hr h => ?_)
  · obtain ⟨_, _, rfl, _⟩ := h
    rfl
  · obtain ⟨p, q, rfl, hA, fin⟩ := h
    refine ⟨_, (pss_cons (ps_set (i := 1) nd rfl (Or.inl rfl) (pe_ix ix_list (pe_lst (pa_cons pe_int (pa_cons (pe_op op_add pe_int (pe_call (ok_law_next T) (hr.mono (by decide)) (by rfl) T.m_law_next T.F_law_next.kp T.b_law_next .nil pass0 (pa_cons (pv 0) (pa_cons pe_int pa_nil)))) (pa_cons (pe_op op_add pe_int (pe_call (ok_law_next T) (hr.mono (by decide)) (by rfl) T.m_law_next T.F_law_next.kp T.b_law_next .nil pass0 (pa_cons (pv 0) (pa_cons pe_int pa_nil)))) (pa_cons pe_int pa_nil))))) (pe_call (ok_law_next T) (hr.mono (by decide)) (by rfl) T.m_law_next T.F_law_next.kp T.b_law_next .nil pass0 (pa_cons (pv 0) (pa_cons pe_int pa_nil))) (fun _ _ => rfl))) (pss_one (ps_ret (pe_tupleOf (by rfl) T.z_tuple (pe_lc (own := [("_law_k", 2)]) rfl nd (pi_range1 rfl T.z_range (pa_cons (pv 1) pa_nil)) (blkOk_by (own := [("_law_k", 2)]) (N := N_law_data) (sc := defScope s_law_data) (by decide +kernel)) (fun _ _ _ _ _ => (pg_name (i := 2) nd rfl (Or.inl rfl))) (fun _ _ _ _ _ => pts_nil) (fun _ _ _ _ _ => (pe_call (ok_law_next T) (hr.mono (by decide)) (by rfl) T.m_law_next T.F_law_next.kp T.b_law_next .nil pass0 (pa_cons (pv 0) (pa_cons (pe_ix (ix_listK (K := K) rfl) (pe_lst (pa_cons pe_int (pa_cons pe_int pa_nil))) (pe_call (ok_law_next T) (hr.mono (by decide)) (by rfl) T.m_law_next T.F_law_next.kp T.b_law_next .nil pass0 (pa_cons (pv 0) (pa_cons pe_int pa_nil))) (fun _ _ => rfl)) pa_nil))))))))), ?_⟩
    refine ⟨_, rfl, p, q, 5, rfl, hA, by decide, by decide, fun r1 H1 r10 r11 hA1 k1 d1 => ⟨1, r1, rfl, rfl, ?_⟩⟩
    refine ⟨_, rfl, p, q, 20, rfl, hA1, by decide, by decide, fun r2 H2 r20 r21 hA2 k2 d2 => ⟨1, r2, rfl, rfl, ?_⟩⟩
    refine ⟨(by decide : (4 : Nat) ≤ sizeLine), fun a ha => ?_⟩
    have k3 : Keep [p, q] H (upd H2 a (.lst [.int 1, .int (1 + r1), .int (1 + r2), .int 20])) := keep_new (k1.trans k2) (d1 _ (d2 _ ha))
    have d3 : Dom H (upd H2 a (.lst [.int 1, .int (1 + r1), .int (1 + r2), .int 20])) := (d1.trans d2).upd _ _
    have hA3 : HAt (upd H2 a (.lst [.int 1, .int (1 + r1), .int (1 + r2), .int 20])) p q := hA2.new ha
    have ha3 : upd H2 a (.lst [.int 1, .int (1 + r1), .int (1 + r2), .int 20]) a = some (.lst [.int 1, .int (1 + r1), .int (1 + r2), .int 20]) := upd_same
    have naf := hA2.fresh ha
    generalize upd H2 a (.lst [.int 1, .int (1 + r1), .int (1 + r2), .int 20]) = H3 at *
    refine ⟨_, rfl, p, q, 4, rfl, hA3, by decide, by decide, fun r4 H4 r40 r41 hA4 k4 d4 => ?_⟩
    have ha4 := k4 _ _ (by simp [naf.1, naf.2]) ha3
    obtain ⟨v, hv, n, rfl, n1, n20⟩ := at_of (R := fun v => ∃ n : Int, v = .int n ∧ 1 ≤ n ∧ n ≤ 20) r40 (xs := [.int 1, .int (1 + r1), .int (1 + r2), .int 20]) r41 (by
      intro v hv
      simp only [List.mem_cons, List.not_mem_nil, or_false] at hv
      rcases hv with rfl | rfl | rfl | rfl
      · exact ⟨_, rfl, by omega, by omega⟩
      · exact ⟨_, rfl, by omega, by omega⟩
      · exact ⟨_, rfl, by omega, by omega⟩
      · exact ⟨_, rfl, by omega, by omega⟩)
    refine ⟨a, _, _, _, rfl, rfl, SqL.of ha4, hv, ?_⟩
    have k5 : Keep [p, q] H H4 := k3.trans k4
    have d5 : Dom H H4 := d3.trans d4
    obtain ⟨N, rfl⟩ : ∃ N : Nat, n = (N : Int) := ⟨n.toNat, (Int.toNat_of_nonneg (by omega)).symm⟩
    -- return tuple([..])
    refine ⟨_, rfl, _, rfl, (by omega), (by omega), fun D hD => ?_⟩
    have hD0 : H D = none := d5 _ hD
    refine lc_range (lo := 0) (n := ((N : Nat) : Int).toNat) (fun i H' => ∃ xs : List Int, H' D = some (.lst (xs.map V.int)) ∧ xs.length = i ∧ (∀ x ∈ xs, 0 ≤ x ∧ x ≤ 255) ∧ HAt H' p q ∧ Keep [p, q] H H' ∧ Dom H H') ?_ ?_ ?_
    · exact ⟨[], upd_same, rfl, by simp, hA4.new hD, keep_new k5 hD0, d5.upd _ _⟩
    · rintro i H' hi ⟨xs, hx, hl, hb, hA', k', d'⟩
      refine ⟨rfl, _, rfl, (by decide : (2 : Nat) ≤ sizeLine), fun b hb' => ?_⟩
      have nb : b ≠ D := (ne_of_none hx hb').symm
      have nbf := hA'.fresh hb'
      refine ⟨_, rfl, p, q, 2, rfl, hA'.new hb', by decide, by decide, fun r H1 r0 r1 hA1 k1 d1 => ?_⟩
      obtain ⟨v, hv, m, rfl, m0, m1⟩ := at_of (R := fun v => ∃ n : Int, v = .int n ∧ 0 < n ∧ n ≤ 256) r0 (xs := [.int 2, .int 256]) r1 (by
        intro v hv
        simp only [List.mem_cons, List.not_mem_nil, or_false] at hv
        rcases hv with rfl | rfl
        · exact ⟨_, rfl, by omega, by omega⟩
        · exact ⟨_, rfl, by omega, by omega⟩)
      refine ⟨b, _, _, _, rfl, rfl, SqL.of (k1 _ _ (by simp [nbf.1, nbf.2]) upd_same), hv, ?_⟩
      refine ⟨p, q, m, rfl, hA1, m0, by omega, fun r' H2 r0' r1' hA2 k2 d2 => ?_⟩
      have nDf : D ≠ p ∧ D ≠ q := by
        obtain ⟨_, _, _, _, hp, hq, _⟩ := hA
        exact ⟨(ne_of_none hp hD0).symm, (ne_of_none hq hD0).symm⟩
      have hx2 : H2 D = some (.lst (xs.map V.int)) := k2 _ _ (by simp [nDf.1, nDf.2]) (k1 _ _ (by simp [nDf.1, nDf.2]) (by rw [upd_ne nb.symm]; exact hx))
      refine ⟨_, hx2, lt_line (by rw [List.length_map]; omega), xs ++ [r'], by rw [upd_same, List.map_append]; rfl, by rw [List.length_append, hl]; rfl, ?_, hA2.ne nDf.1 nDf.2, keep_new (((keep_new' k' hb').trans k1).trans k2) hD0, (((d'.upd _ _).trans d1).trans d2).upd _ _⟩
      intro x hx
      rcases List.mem_append.mp hx with e | e
      · exact hb x e
      · rw [List.mem_singleton.mp e]
        exact ⟨r0', by omega⟩
    · rintro H' ⟨xs, hx, hl, hb, hA', k', d'⟩
      refine .inl ⟨D, _, rfl, SqL.of hx, fun t ht => ?_⟩
      have ht0 := d' _ ht
      exact fin t xs _ ⟨by omega, by omega, hb⟩ upd_same ht0 (hA'.new ht) (keep_new k' ht0) (d'.upd _ _)
end
end K16

namespace K16
open PySem PySem.Spec PyProof.Rows L2 Sky TL
def wayS (u : Bool) : Str := if u = true then "up" else "down"
theorem way_in (u : Bool) : wayS u ∈ waysL := by cases u <;> decide +kernel
theorem nats_tl {t : List Int} (h : ∀ x ∈ t, 0 ≤ x) : natsD (t.map Int.toNat) = tlD t := by
  unfold natsD tlD
  rw [List.map_map]
  refine congrArg PyData.tuple (List.map_congr_left fun x hx => ?_)
  show PyData.int ((x.toNat : Nat) : Int) = _
  rw [Int.toNat_of_nonneg (h x hx)]
theorem td_nats {H : Hp} {a : Addr} {t : List Int} (h : ∀ x ∈ t, 0 ≤ x) (e : H a = some (.tup (t.map V.int))) : TD H (.ref a) (natsD (t.map Int.toNat)) := by
  rw [nats_tl h]
  exact TD.tl e
/-- a step as it is drawn: no more than 21 numbers -/
def WdS (a : Wd) : Prop := WdOk a ∧ ∀ s t, a = .tell s t → t.length ≤ 21
theorem tell_wd {s : Nat} {t : List Int} (hs : s < 1000) (h : tellOk t) : WdS (.tell s (t.map Int.toNat)) := by
  obtain ⟨h1, h2, h3⟩ := h
  refine ⟨⟨hs, fun e => ?_, by rw [List.length_map]; omega, fun n hn => ?_⟩, fun s' t' e => by cases e; rw [List.length_map]; omega⟩
  · rw [List.map_eq_nil_iff.mp e] at h1; cases h1
  · obtain ⟨x, hx, rfl⟩ := List.mem_map.mp hn
    have := h3 x hx
    omega
theorem tell_wd' {s : Nat} {t : List Nat} (hs : s < 1000) (h1 : t ≠ []) (h2 : t.length ≤ 21) (h3 : t.all (fun n => decide (n < 1000)) = true) : WdS (.tell s t) := ⟨⟨hs, h1, by omega, fun n hn => of_decide_eq_true (List.all_eq_true.mp h3 n hn)⟩, fun s' t' e => by cases e; exact h2⟩
/-- drawn, and what stands of it -/
def Stands (H : Hp) (v : V) : Prop := ∃ t a, v = V.ref t ∧ WdS a ∧ TD H v (wdD a)
structure DrawS (p q : Addr) (H0 H : Hp) (vs : List V) : Prop where
  at' : HAt H p q
  kp : Keep [p, q] H0 H
  dm : Dom H0 H
  all : ∀ v ∈ vs, Stands H v
theorem Stands.mono {H H' : Hp} {v : V} (h : Stands H v) (t : TSm H H') : Stands H' v := by
  obtain ⟨x, a, h1, h2, h3⟩ := h
  exact ⟨x, a, h1, h2, h3.mono t⟩
section
variable {p q : Addr} {H0 H : Hp} {vs : List V} {t : Addr} {o : HO}
theorem DrawS.skip (h : DrawS p q H0 H vs) (n : H t = none) (o : HO) : DrawS p q H0 (upd H t o) vs :=
  ⟨h.at'.new n, keep_new' h.kp n, h.dm.upd _ _, fun v hv => (h.all v hv).mono (TSm.of_same (same_new (Same.refl _) n))⟩
theorem DrawS.add (h : DrawS p q H0 H vs) (n : H t = none) (o : HO) (a : Wd) (ok : WdS a) (td : TD (upd H t o) (.ref t) (wdD a)) : DrawS p q H0 (upd H t o) (vs ++ [.ref t]) :=
  ⟨h.at'.new n, keep_new' h.kp n, h.dm.upd _ _, fun v hv => by
    rcases List.mem_append.mp hv with g | g
    · exact (h.all v g).mono (TSm.of_same (same_new (Same.refl _) n))
    · rw [List.mem_singleton.mp g]; exact ⟨t, a, rfl, ok, td⟩⟩
end
section
variable {P : Program} {w : World} {K : PySem.W.Frag} {mg : Str → Option Value} {base : Heap}
def sp_step : Sp := fun vs H Q _ => ∃ (p q : Addr), vs = [.ref p] ∧ HAt H p q ∧ ∀ t a H', WdS a → TD H' (.ref t) (wdD a) → HAt H' p q → Keep [p, q] H H' → Dom H H' → Q (.ref t) H'
theorem ok_law_step (T : Tx K mg) : FnOk P w K mg base CX0 3 T.a_law_step T.d_law_step ["_law_h"] sp_step := by
  have nd := sc_law_step.nd
  refine T.F_law_step.ok sc_law_step (fun vs H Q E h => ?_) (fun cdv A outer s H vs Q E hr h => ?_)
  · obtain ⟨_, _, rfl, _⟩ := h
    rfl
  · obtain ⟨p, q, rfl, hA, fin⟩ := h
    refine ⟨_, (pss_cons (ps_par (i := 1) (j := 2) rfl nd rfl rfl (by decide) rfl rfl (pa_cons (pe_call (ok_law_next T) (hr.mono (by decide)) (by rfl) T.m_law_next T.F_law_next.kp T.b_law_next .nil pass0 (pa_cons (pv 0) (pa_cons pe_int pa_nil))) (pa_cons (pe_call (ok_law_next T) (hr.mono (by decide)) (by rfl) T.m_law_next T.F_law_next.kp T.b_law_next .nil pass0 (pa_cons (pv 0) (pa_cons pe_int pa_nil))) pa_nil)) (by rfl)) (pss_cons (ps_par (i := 3) (j := 4) rfl nd rfl rfl (by decide) rfl rfl (pa_cons (pe_ix ix_list (pe_lst (pa_cons pe_str (pa_cons pe_str pa_nil))) (pe_callTy call_int1 (by rfl) T.z_int (by decide +kernel) (pa_cons (pe_cmpR op_eq (pe_call (ok_law_next T) (hr.mono (by decide)) (by rfl) T.m_law_next T.F_law_next.kp T.b_law_next .nil pass0 (pa_cons (pv 0) (pa_cons pe_int pa_nil))) pe_int (nomark _)) pa_nil)) (fun _ _ => rfl)) (pa_cons (pe_call (ok_law_next T) (hr.mono (by decide)) (by rfl) T.m_law_next T.F_law_next.kp T.b_law_next .nil pass0 (pa_cons (pv 0) (pa_cons (pe_ix ix_list (pe_lst (pa_cons pe_int (pa_cons pe_int pa_nil))) (pe_call (ok_law_next T) (hr.mono (by decide)) (by rfl) T.m_law_next T.F_law_next.kp T.b_law_next .nil pass0 (pa_cons (pv 0) (pa_cons pe_int pa_nil))) (fun _ _ => rfl)) pa_nil))) pa_nil)) (by rfl)) (pss_cons (ps_if (pt_cmpR op_lt (pv 1) pe_int (nomark _)) (pss_one (ps_ret (pe_tup (pa_cons pe_str (pa_cons (pv 2) (pa_cons (pe_call (ok_law_data T) (hr.mono (by decide)) (by rfl) T.m_law_data T.F_law_data.kp T.b_law_data .nil pass0 (pa_cons (pv 0) pa_nil)) pa_nil)))))) pss_nil) (pss_cons (ps_if (pt_cmpR op_eq (pv 1) pe_int (nomark _)) (pss_one (ps_ret (pe_ix ix_list (pe_lst (pa_cons (pe_tup (pa_cons pe_str (pa_cons pe_int (pa_cons (pe_tup (pa_cons pe_int pa_nil)) pa_nil)))) (pa_cons (pe_tup (pa_cons pe_str (pa_cons pe_int (pa_cons (pe_tup (pa_cons pe_int pa_nil)) pa_nil)))) (pa_cons (pe_tup (pa_cons pe_str (pa_cons pe_int pa_nil))) (pa_cons (pe_tup (pa_cons pe_str (pa_cons pe_int (pa_cons (pe_op op_repT (pe_tup (pa_cons pe_int pa_nil)) pe_int) pa_nil)))) pa_nil))))) (pe_call (ok_law_next T) (hr.mono (by decide)) (by rfl) T.m_law_next T.F_law_next.kp T.b_law_next .nil pass0 (pa_cons (pv 0) (pa_cons pe_int pa_nil))) (fun _ _ => rfl)))) pss_nil) (pss_cons (ps_set (i := 5) nd rfl (Or.inl rfl) (pe_lst (pa_cons (pe_tup (pa_cons pe_str (pa_cons (pv 2) pa_nil))) (pa_cons (pe_tup (pa_cons pe_str pa_nil)) (pa_cons (pe_tup (pa_cons pe_str pa_nil)) (pa_cons (pe_tup (pa_cons pe_str pa_nil)) (pa_cons (pe_tup (pa_cons pe_str pa_nil)) (pa_cons (pe_tup (pa_cons pe_str pa_nil)) (pa_cons (pe_tup (pa_cons pe_str pa_nil)) (pa_cons (pe_tup (pa_cons pe_str pa_nil)) (pa_cons (pe_tup (pa_cons pe_str pa_nil)) pa_nil))))))))))) (pss_cons (ps_set (i := 5) nd rfl (Or.inl rfl) (pe_op op_cat (pv 5) (pe_lst (pa_cons (pe_tup (pa_cons pe_str (pa_cons (pv 3) (pa_cons (pv 4) pa_nil)))) (pa_cons (pe_tup (pa_cons pe_str (pa_cons (pv 3) (pa_cons pe_int pa_nil)))) (pa_cons (pe_tup (pa_cons pe_str (pa_cons (pv 3) (pa_cons (pv 4) pa_nil)))) (pa_cons (pe_tup (pa_cons pe_str (pa_cons (pv 3) (pa_cons (pv 4) pa_nil)))) pa_nil))))))) (pss_one (ps_ret (pe_ix ix_list (pv 5) (pe_op op_sub (pv 1) pe_int) (fun _ _ => rfl)))))))))), ?_⟩
    refine ⟨_, rfl, p, q, 20, rfl, hA, by decide, by decide, fun way H1 w0 w1 hA1 k1 d1 => ?_⟩
    refine ⟨_, rfl, p, q, 4, rfl, hA1, by decide, by decide, fun st H2 s0 s1 hA2 k2 d2 => ⟨_, _, rfl, ?_⟩⟩
    refine ⟨(by decide : (2 : Nat) ≤ sizeLine), fun a na => ?_⟩
    have hA3 := hA2.new na (o := .lst [.str "down", .str "up"])
    have ha3 : upd H2 a (.lst [.str "down", .str "up"]) a = some (.lst [.str "down", .str "up"]) := upd_same
    have k3 : Keep [p, q] H (upd H2 a (.lst [.str "down", .str "up"])) := keep_new' (k1.trans k2) na
    have d3 : Dom H (upd H2 a (.lst [.str "down", .str "up"])) := (d1.trans d2).upd _ _
    have naf := hA2.fresh na
    generalize upd H2 a (.lst [.str "down", .str "up"]) = H3 at *
    refine ⟨_, rfl, p, q, 4, rfl, hA3, by decide, by decide, fun r H4 r0 r1 hA4 k4 d4 => ?_⟩
    have ha4 := k4 _ _ (by simp [naf.1, naf.2]) ha3
    obtain ⟨u, hu⟩ : ∃ u : Bool, atI [V.str "down", .str "up"] (if decide (V.int r = V.int 0) = true then 1 else 0) = some (.str (wayS u)) := by
      by_cases h : V.int r = V.int 0
      · rw [if_pos (decide_eq_true h)]; exact ⟨true, rfl⟩
      · rw [if_neg (by rw [decide_eq_false h]; decide)]; exact ⟨false, rfl⟩
    refine ⟨rfl, .inr ⟨_, rfl, a, _, _, _, rfl, rfl, SqL.of ha4, hu, ?_⟩⟩
    refine ⟨_, rfl, (by decide : (2 : Nat) ≤ sizeLine), fun c nc => ?_⟩
    have hA5 := hA4.new nc (o := .lst [.int 2, .int 6])
    have hc5 : upd H4 c (.lst [.int 2, .int 6]) c = some (.lst [.int 2, .int 6]) := upd_same
    have k5 : Keep [p, q] H (upd H4 c (.lst [.int 2, .int 6])) := keep_new' (k3.trans k4) nc
    have d5 : Dom H (upd H4 c (.lst [.int 2, .int 6])) := (d3.trans d4).upd _ _
    have ncf := hA4.fresh nc
    generalize upd H4 c (.lst [.int 2, .int 6]) = H5 at *
    refine ⟨_, rfl, p, q, 2, rfl, hA5, by decide, by decide, fun r2 H6 r20 r21 hA6 k6 d6 => ?_⟩
    have hc6 := k6 _ _ (by simp [ncf.1, ncf.2]) hc5
    obtain ⟨v, hv, n, rfl, n1, n20⟩ := at_of (R := fun v => ∃ n : Int, v = .int n ∧ 1 ≤ n ∧ n ≤ 6) r20 (xs := [.int 2, .int 6]) r21 (by
      intro v hv
      simp only [List.mem_cons, List.not_mem_nil, or_false] at hv
      rcases hv with rfl | rfl
      · exact ⟨_, rfl, by omega, by omega⟩
      · exact ⟨_, rfl, by omega, by omega⟩)
    refine ⟨c, _, _, _, rfl, rfl, SqL.of hc6, hv, p, q, n, rfl, hA6, by omega, by omega, fun k H7 j0 j1 hA7 k7 d7 => ⟨_, _, rfl, ?_⟩⟩
    have D7 : DrawS p q H H7 [] := ⟨hA7, (k5.trans k6).trans k7, (d5.trans d6).trans d7, fun v hv => nomatch hv⟩
    clear k1 d1 k2 d2 k3 d3 k4 d4 k5 d5 k6 d6 k7 d7 hA hA1 hA2 hA3 hA4 hA5 hA6 hA7 ha3 ha4 hc5 hc6 na nc naf ncf hu hv
    obtain ⟨sn, rfl⟩ := Int.eq_ofNat_of_zero_le s0
    obtain ⟨jn, rfl⟩ := Int.eq_ofNat_of_zero_le j0
    have sn4 : sn < 4 := by omega
    have jn5 : jn ≤ 5 := by omega
    refine ⟨_, rfl, _, 6, rfl, rfl, _, rfl, ite2 (fun h => ?_) (fun h => ?_)⟩
    · refine ⟨_, rfl, _, rfl, p, q, rfl, D7.at', fun t xs H8 hx ht nt hA8 k8 d8 => ⟨(by decide : (3 : Nat) ≤ sizeLine), fun f nf => ?_⟩⟩
      refine fin f (.tell sn (xs.map Int.toNat)) _ (tell_wd (by omega) hx) (.tup upd_same (.cons (.str _) (.cons (.int _) (.cons (td_nats (fun x hx2 => (hx.2.2 x hx2).1) ?_) .nil)))) (hA8.new nf) (keep_new' (D7.kp.trans k8) nf) ((D7.dm.trans d8).upd _ _)
      rw [upd_ne (ne_of_none ht nf)]
      exact ht
    refine ⟨_, rfl, rfl, _, rfl, ite2 (fun h6 => ?_) (fun h6 => ?_)⟩
    · refine ⟨(by decide : (1 : Nat) ≤ sizeLine), fun a1 n1 => ⟨(by decide : (3 : Nat) ≤ sizeLine), fun f1 m1 => ⟨(by decide : (1 : Nat) ≤ sizeLine), fun a2 n2 => ⟨(by decide : (3 : Nat) ≤ sizeLine), fun f2 m2 => ⟨(by decide : (2 : Nat) ≤ sizeLine), fun f3 m3 =>
        ⟨(by decide : (1 : Nat) ≤ sizeLine), fun a4 n4 => ⟨a4, 21, [.int 1], rfl, rfl, SqT.of upd_same, by simp, by decide, by decide, (show (1 : Nat) ≤ 1000 by decide), fun r4 nr4 => ⟨(by decide : (3 : Nat) ≤ sizeLine), fun f4 m4 => ⟨(by decide : (4 : Nat) ≤ sizeLine), fun L nL => ?_⟩⟩⟩⟩⟩⟩⟩⟩⟩
      have E1 := (D7.skip n1 (.tup [.int 1])).add m1 (.tup [.str "tell", .int 4, .ref a1]) (.tell 4 [1]) (tell_wd' (by decide) (by simp) (by decide) (by decide)) (.tup upd_same (.cons (.str _) (.cons (.int _) (.cons (TD.tl (t := [1]) (by rw [upd_ne (ne_of_none upd_same m1)]; exact upd_same)) .nil))))
      have E2 := (E1.skip n2 (.tup [.int 256])).add m2 (.tup [.str "tell", .int 0, .ref a2]) (.tell 0 [256]) (tell_wd' (by decide) (by simp) (by decide) (by decide)) (.tup upd_same (.cons (.str _) (.cons (.int _) (.cons (TD.tl (t := [256]) (by rw [upd_ne (ne_of_none upd_same m2)]; exact upd_same)) .nil))))
      have E3 := E2.add m3 (.tup [.str "close", .int 4]) (.close 4) ⟨(show 4 < 1000 by decide), nofun⟩ (.tup upd_same (.cons (.str _) (.cons (.int _) .nil)))
      have E4 := ((E3.skip n4 (.tup [.int 1])).skip nr4 (.tup ((List.replicate 21 (1 : Int)).map V.int))).add m4 (.tup [.str "tell", .int 0, .ref r4]) (.tell 0 (List.replicate 21 1)) (tell_wd' (by decide) (by simp) (by decide) (by decide)) (.tup upd_same (.cons (.str _) (.cons (.int _) (.cons (TD.tl (t := List.replicate 21 1) (by rw [upd_ne (ne_of_none upd_same m4)]; exact upd_same)) .nil))))
      have E5 := E4.skip nL (.lst [.ref f1, .ref f2, .ref f3, .ref f4])
      refine ⟨_, rfl, p, q, 4, rfl, E5.at', by decide, by decide, fun r9 H9 r90 r91 hA9 k9 d9 => ?_⟩
      have nLf := E4.at'.fresh nL
      have hL9 := k9 _ _ (by simp [nLf.1, nLf.2]) (upd_same (a := L) (o := .lst [.ref f1, .ref f2, .ref f3, .ref f4]))
      obtain ⟨v, hv, x, ask, rfl, ok, td⟩ := at_of (R := Stands H9) r90 (xs := [.ref f1, .ref f2, .ref f3, .ref f4]) r91 (fun v hv => (E5.all v hv).mono (k9.ts E5.at'.noT))
      exact ⟨L, _, _, _, rfl, rfl, SqL.of hL9, hv, fin x ask H9 ok td hA9 (E5.kp.trans k9) (E5.dm.trans d9)⟩
    · refine ⟨_, rfl, (by decide : (2 : Nat) ≤ sizeLine), fun t1 n1 => ⟨(by decide : (1 : Nat) ≤ sizeLine), fun t2 n2 => ⟨(by decide : (1 : Nat) ≤ sizeLine), fun t3 n3 => ⟨(by decide : (1 : Nat) ≤ sizeLine), fun t4 n4 => ⟨(by decide : (1 : Nat) ≤ sizeLine), fun t5 n5 => ⟨(by decide : (1 : Nat) ≤ sizeLine), fun t6 n6 => ⟨(by decide : (1 : Nat) ≤ sizeLine), fun t7 n7 => ⟨(by decide : (1 : Nat) ≤ sizeLine), fun t8 n8 => ⟨(by decide : (1 : Nat) ≤ sizeLine), fun t9 n9 => ⟨(by decide : (9 : Nat) ≤ sizeLine), fun L nL => ?_⟩⟩⟩⟩⟩⟩⟩⟩⟩⟩
      have E1 := D7.add n1 (.tup [.str "close", .int ((sn : Nat) : Int)]) (.close sn) ⟨(show sn < 1000 by omega), nofun⟩ (.tup upd_same (.cons (.str _) (.cons (.int _) .nil)))
      have E2 := E1.add n2 (.tup [.str "begin"]) (.bare "begin") ⟨(show _ ∈ bareL by decide +kernel), nofun⟩ (.tup upd_same (.cons (.str _) .nil))
      have E3 := E2.add n3 (.tup [.str "begin"]) (.bare "begin") ⟨(show _ ∈ bareL by decide +kernel), nofun⟩ (.tup upd_same (.cons (.str _) .nil))
      have E4 := E3.add n4 (.tup [.str "shut"]) (.bare "shut") ⟨(show _ ∈ bareL by decide +kernel), nofun⟩ (.tup upd_same (.cons (.str _) .nil))
      have E5 := E4.add n5 (.tup [.str "beat"]) (.bare "beat") ⟨(show _ ∈ bareL by decide +kernel), nofun⟩ (.tup upd_same (.cons (.str _) .nil))
      have E6 := E5.add n6 (.tup [.str "beat"]) (.bare "beat") ⟨(show _ ∈ bareL by decide +kernel), nofun⟩ (.tup upd_same (.cons (.str _) .nil))
      have E7 := E6.add n7 (.tup [.str "beat"]) (.bare "beat") ⟨(show _ ∈ bareL by decide +kernel), nofun⟩ (.tup upd_same (.cons (.str _) .nil))
      have E8 := E7.add n8 (.tup [.str "beat"]) (.bare "beat") ⟨(show _ ∈ bareL by decide +kernel), nofun⟩ (.tup upd_same (.cons (.str _) .nil))
      have E9 := E8.add n9 (.tup [.str "ask"]) (.bare "ask") ⟨(show _ ∈ bareL by decide +kernel), nofun⟩ (.tup upd_same (.cons (.str _) .nil))
      have EL := E9.skip nL (.lst [.ref t1, .ref t2, .ref t3, .ref t4, .ref t5, .ref t6, .ref t7, .ref t8, .ref t9])
      have hL := upd_same (H := (upd (upd (upd (upd (upd (upd (upd (upd (upd H7 t1 (.tup [.str "close", .int ((sn : Nat) : Int)])) t2 (.tup [.str "begin"])) t3 (.tup [.str "begin"])) t4 (.tup [.str "shut"])) t5 (.tup [.str "beat"])) t6 (.tup [.str "beat"])) t7 (.tup [.str "beat"])) t8 (.tup [.str "beat"])) t9 (.tup [.str "ask"]))) (a := L) (o := .lst [.ref t1, .ref t2, .ref t3, .ref t4, .ref t5, .ref t6, .ref t7, .ref t8, .ref t9])
      clear n1 n2 n3 n4 n5 n6 n7 n8 n9 nL E1 E2 E3 E4 E5 E6 E7 E8 E9 D7
      change DrawS p q H _ [.ref t1, .ref t2, .ref t3, .ref t4, .ref t5, .ref t6, .ref t7, .ref t8, .ref t9] at EL
      generalize upd (upd (upd (upd (upd (upd (upd (upd (upd (upd H7 t1 (.tup [.str "close", .int ((sn : Nat) : Int)])) t2 (.tup [.str "begin"])) t3 (.tup [.str "begin"])) t4 (.tup [.str "shut"])) t5 (.tup [.str "beat"])) t6 (.tup [.str "beat"])) t7 (.tup [.str "beat"])) t8 (.tup [.str "beat"])) t9 (.tup [.str "ask"])) L (.lst [.ref t1, .ref t2, .ref t3, .ref t4, .ref t5, .ref t6, .ref t7, .ref t8, .ref t9]) = H8 at *
      refine ⟨_, rfl, _, rfl, _, rfl, (by decide : (3 : Nat) ≤ sizeLine), fun u1 m1 => ⟨_, rfl, (by decide : (3 : Nat) ≤ sizeLine), fun u2 m2 => ⟨_, rfl, _, rfl, (by decide : (3 : Nat) ≤ sizeLine), fun u3 m3 => ⟨_, rfl, _, rfl, (by decide : (3 : Nat) ≤ sizeLine), fun u4 m4 => ⟨(by decide : (4 : Nat) ≤ sizeLine), fun M nM => ?_⟩⟩⟩⟩⟩
      have F1 := EL.add m1 (.tup [.str "hear", .str (wayS u), .int ((jn : Nat) : Int)]) (.letter "hear" (wayS u) jn) ⟨⟨by decide +kernel, way_in u, by omega⟩, nofun⟩ (.tup upd_same (.cons (.str _) (.cons (.str _) (.cons (.int _) .nil))))
      have F2 := F1.add m2 (.tup [.str "hear", .str (wayS u), .int 0]) (.letter "hear" (wayS u) 0) ⟨⟨by decide +kernel, way_in u, by omega⟩, nofun⟩ (.tup upd_same (.cons (.str _) (.cons (.str _) (.cons (.int _) .nil))))
      have F3 := F2.add m3 (.tup [.str "lose", .str (wayS u), .int ((jn : Nat) : Int)]) (.letter "lose" (wayS u) jn) ⟨⟨by decide +kernel, way_in u, by omega⟩, nofun⟩ (.tup upd_same (.cons (.str _) (.cons (.str _) (.cons (.int _) .nil))))
      have F4 := F3.add m4 (.tup [.str "twice", .str (wayS u), .int ((jn : Nat) : Int)]) (.letter "twice" (wayS u) jn) ⟨⟨by decide +kernel, way_in u, by omega⟩, nofun⟩ (.tup upd_same (.cons (.str _) (.cons (.str _) (.cons (.int _) .nil))))
      have F5 := F4.skip nM (.lst [.ref u1, .ref u2, .ref u3, .ref u4])
      have sL := ((((same_new (Same.refl H8) m1 (o := .tup [.str "hear", .str (wayS u), .int ((jn : Nat) : Int)])).trans (same_new (Same.refl _) m2 (o := .tup [.str "hear", .str (wayS u), .int 0]))).trans (same_new (Same.refl _) m3 (o := .tup [.str "lose", .str (wayS u), .int ((jn : Nat) : Int)]))).trans (same_new (Same.refl _) m4 (o := .tup [.str "twice", .str (wayS u), .int ((jn : Nat) : Int)]))).trans (same_new (Same.refl _) nM (o := .lst [.ref u1, .ref u2, .ref u3, .ref u4]))
      refine ⟨L, M, _, _, rfl, rfl, sL _ _ hL, upd_same, (by decide : (13 : Nat) ≤ sizeLine), fun N nN => ?_⟩
      have F6 := F5.skip nN (.lst ([.ref t1, .ref t2, .ref t3, .ref t4, .ref t5, .ref t6, .ref t7, .ref t8, .ref t9] ++ [.ref u1, .ref u2, .ref u3, .ref u4]))
      have way7 : 7 ≤ way := by
        have h1 : ¬ way < 6 := fun z => h (decide_eq_true z)
        have h2 : ¬ way = 6 := fun z => h6 (decide_eq_true (by rw [z]))
        omega
      obtain ⟨v, hv, x, ask, rfl, ok, td⟩ := at_of (R := Stands _) (show 0 ≤ way - 7 by omega) (xs := [.ref t1, .ref t2, .ref t3, .ref t4, .ref t5, .ref t6, .ref t7, .ref t8, .ref t9] ++ [.ref u1, .ref u2, .ref u3, .ref u4]) (by show way - 7 < ((13 : Nat) : Int); omega) (fun v hv => F6.all v (by simpa using hv))
      exact ⟨_, rfl, _, rfl, way, 7, rfl, rfl, N, _, _, _, rfl, rfl, SqL.of upd_same, hv, fin x ask _ ok td F6.at' F6.kp F6.dm⟩
end
end K16

namespace K16
open PySem PySem.Spec PyProof.Rows L2 Sky TL
section
variable {P : Program} {w : World} {K : PySem.W.Frag} {mg : Str → Option Value} {base : Heap}
theorem normS {t : L2.TS} {D : Ends} {σ σ' : L2.St} {H : Hp} (e : σ = σ') (h : t D σ' H) : t D σ H := e ▸ h
theorem normG {i : Nat} {v : V} {σ σ' : L2.St} {H : Hp} {Q : L2.St → Hp → Prop} (e : σ.set i (some v) = σ') (h : Q σ' H) : gName i v σ H Q := by
  subst e
  exact h
/-- a list of texts there, no longer than M together -/
def Cut (M : Nat) (H : Hp) (v : V) : Prop := ∃ c ys, v = V.ref c ∧ H c = some (.lst (ys.map V.str)) ∧ msr ys ≤ M ∧ ∀ y ∈ ys, Lo y
theorem Cut.same {M : Nat} {H H' : Hp} {v : V} (h : Cut M H v) (s : Same H H') : Cut M H' v := by
  obtain ⟨c, ys, h1, h2, h3⟩ := h
  exact ⟨c, ys, h1, s _ _ h2, h3⟩
theorem Cut.two {M : Nat} {H : Hp} {c : Addr} {xs zs : List V} {a b : List Str} (h : H c = some (.lst (xs ++ zs))) (e1 : xs = a.map V.str) (e2 : zs = b.map V.str) (m : msr a + msr b ≤ M) (la : ∀ y ∈ a, Lo y) (lb : ∀ y ∈ b, Lo y) : Cut M H (.ref c) :=
  ⟨c, a ++ b, rfl, by rw [h, e1, e2, List.map_append], by rw [msr_append]; exact m, fun y hy => (List.mem_append.mp hy).elim (la y) (lb y)⟩
theorem cutW_lo {l : List Str} {n : Nat} (h : n ≤ l.length) : cutV (l.map V.str) none (some ((n : Nat) : Int)) = (l.take n).map V.str := by rw [cut_lo (by rw [List.length_map]; exact h), List.map_take]
theorem cutW_hi {l : List Str} {n : Nat} (h : n ≤ l.length) : cutV (l.map V.str) (some ((n : Nat) : Int)) none = (l.drop n).map V.str := by rw [cut_hi (by rw [List.length_map]; exact h), List.map_drop]
theorem cutW_lo1 {l : List Str} {n : Nat} (h : n < l.length) : cutV (l.map V.str) none (some (((n : Nat) : Int) + 1)) = (l.take (n + 1)).map V.str := cutW_lo (n := n + 1) h
theorem cutW_hi1 {l : List Str} {n : Nat} (h : n < l.length) : cutV (l.map V.str) (some (((n : Nat) : Int) + 1)) none = (l.drop (n + 1)).map V.str := cutW_hi (n := n + 1) h
theorem join_msr {y : Str} (h : y.length = 1) (ps : List Str) : (Txt.join y ps).length ≤ msr ps := by
  have := join_len y ps
  rw [h] at this
  unfold msr
  omega
def signsW : Str := "0123456789 -\nabcdefghijklmnopqrstuvwxyz!#$&'()*+,./:;<=>?@ABCDEFGHIJKLMNOPQRSTUVWXYZ[]^_{|}~"
def oddW : List Str := ["", "0", "00", "07", "999", "1000", "-1", "tell", "close", "begin", "hear", "lose", "down", "up", "Up", "settle"]
theorem signs_lo : ∀ c ∈ tl signsW, c < 128 := by decide +kernel
theorem odd_lo : ∀ w ∈ oddW, w.length ≤ 6 ∧ ∀ c ∈ tl w, c < 128 := by decide +kernel
theorem lo_nl : Lo "\n" := (by decide +kernel : ∀ c ∈ tl "\n", c < 128)
theorem lo_sp : Lo " " := (by decide +kernel : ∀ c ∈ tl " ", c < 128)
theorem grow1 {p q a : Addr} {H0 H : Hp} {vs : List V} (o : HO) (n : H a = none) (D : DrawS p q H0 H vs) : ∃ H', upd H a o = H' ∧ Same H H' ∧ DrawS p q H0 H' vs ∧ H' a = some o ∧ a ∉ [p, q] := ⟨_, rfl, same_new (Same.refl _) n, D.skip n o, upd_same, by have := D.at'.fresh n; simp [this.1, this.2]⟩
theorem growM {p q a : Addr} {H0 H : Hp} {vs : List V} (o o2 : HO) (n : H a = none) (D : DrawS p q H0 H vs) : ∃ H', upd (upd H a o) a o2 = H' ∧ Same H H' ∧ DrawS p q H0 H' vs ∧ H' a = some o2 ∧ a ∉ [p, q] := by
  have e : upd (upd H a o) a o2 = upd H a o2 := by
    funext b
    by_cases hb : b = a
    · rw [hb, upd_same, upd_same]
    · rw [upd_ne hb, upd_ne hb, upd_ne hb]
  exact ⟨_, rfl, by rw [e]; exact same_new (Same.refl _) n, by rw [e]; exact D.skip n o2, upd_same, by have := D.at'.fresh n; simp [this.1, this.2]⟩
theorem grow3 {p q a1 a2 c : Addr} {H0 H : Hp} {vs : List V} {o1 o2 : HO} (o3 : HO) (n1 : H a1 = none) (n2 : upd H a1 o1 a2 = none) (m : upd (upd H a1 o1) a2 o2 c = none) (D : DrawS p q H0 H vs) : ∃ H', upd (upd (upd H a1 o1) a2 o2) c o3 = H' ∧ Same H H' ∧ DrawS p q H0 H' vs ∧ H' c = some o3 :=
  ⟨_, rfl, same_new (same_new (same_new (Same.refl _) n1) n2) m, ((D.skip n1 _).skip n2 _).skip m _, upd_same⟩
def sp_spoilt : Sp := fun vs H Q _ => ∃ (p q : Addr) (x : Str), vs = [.ref p, .str x] ∧ HAt H p q ∧ x.length ≤ 25000 ∧ Lo x ∧ ∀ y H', y.length ≤ 2 * x.length + 10 → Lo y → HAt H' p q → Keep [p, q] H H' → Dom H H' → Q (.str y) H'
theorem ok_law_spoilt (T : Tx K mg) : FnOk P w K mg base CX0 2 T.a_law_spoilt T.d_law_spoilt ["_law_h", "_law_text"] sp_spoilt := by
  have nd := sc_law_spoilt.nd
  refine T.F_law_spoilt.ok sc_law_spoilt (fun vs H Q E h => ?_) (fun cdv A outer s H vs Q E hr h => ?_)
  · obtain ⟨_, _, _, rfl, _⟩ := h
    rfl
  · obtain ⟨p, q, x, rfl, hA, hx, lo, fin⟩ := h
    refine ⟨_, (pss_cons (ps_set (i := 2) nd rfl (Or.inl rfl) (pe_call (ok_law_next T) (hr.mono (by decide)) (by rfl) T.m_law_next T.F_law_next.kp T.b_law_next .nil pass0 (pa_cons (pv 0) (pa_cons pe_int pa_nil)))) (pss_cons (ps_set (i := 3) nd rfl (Or.inl rfl) (pe_call (ok_law_next T) (hr.mono (by decide)) (by rfl) T.m_law_next T.F_law_next.kp T.b_law_next .nil pass0 (pa_cons (pv 0) (pa_cons (pe_op op_add (pe_callB call_len_str (by rfl) T.z_len PySem.boot_len (pa_cons (pv 1) pa_nil)) pe_int) pa_nil)))) (pss_cons (ps_set (i := 4) nd rfl (Or.inl rfl) pe_str) (pss_cons (ps_set (i := 5) nd rfl (Or.inl rfl) (pe_ix ix_str (pv 4) (pe_call (ok_law_next T) (hr.mono (by decide)) (by rfl) T.m_law_next T.F_law_next.kp T.b_law_next .nil pass0 (pa_cons (pv 0) (pa_cons (pe_ix ix_list (pe_lst (pa_cons pe_int (pa_cons (pe_callB call_len_str (by rfl) T.z_len PySem.boot_len (pa_cons (pv 4) pa_nil)) pa_nil))) (pe_call (ok_law_next T) (hr.mono (by decide)) (by rfl) T.m_law_next T.F_law_next.kp T.b_law_next .nil pass0 (pa_cons (pv 0) (pa_cons pe_int pa_nil))) (fun _ _ => rfl)) pa_nil))) (fun _ _ => rfl))) (pss_cons (ps_if (pt_cmpR op_lt (pv 2) pe_int (nomark _)) (pss_one (ps_ret (pe_op op_add_str (pe_op op_add_str (pe_slice sl_str (pv 1) po_none (po_some (pv 3))) (pe_ix ix_list (pe_lst (pa_cons (pv 5) (pa_cons pe_str (pa_cons (pv 5) pa_nil)))) (pv 2) (fun _ _ => rfl))) (pe_slice sl_str (pv 1) (po_some (pe_op op_add (pv 3) (pe_callTy call_int1 (by rfl) T.z_int (by decide +kernel) (pa_cons (pe_cmpR op_gt (pv 2) pe_int (nomark _)) pa_nil)))) po_none)))) pss_nil) (pss_cons (ps_set (i := 6) nd rfl (Or.inl rfl) (pe_split (pv 1) pe_str)) (pss_cons (ps_set (i := 7) nd rfl (Or.inl rfl) (pe_call (ok_law_next T) (hr.mono (by decide)) (by rfl) T.m_law_next T.F_law_next.kp T.b_law_next .nil pass0 (pa_cons (pv 0) (pa_cons (pe_callB call_len_seq (by rfl) T.z_len PySem.boot_len (pa_cons (pv 6) pa_nil)) pa_nil)))) (pss_cons (ps_if (pt_cmpR op_lt (pv 2) pe_int (nomark _)) (pss_one (ps_ret (pe_join pe_str (pe_ix ix_list (pe_lst (pa_cons (pe_op op_cat (pe_slice sl_list (pv 6) po_none (po_some (pv 7))) (pe_slice sl_list (pv 6) (po_some (pe_op op_add (pv 7) pe_int)) po_none)) (pa_cons (pe_op op_cat (pe_slice sl_list (pv 6) po_none (po_some (pe_op op_add (pv 7) pe_int))) (pe_slice sl_list (pv 6) (po_some (pv 7)) po_none)) (pa_cons (pe_op op_cat (pe_slice sl_list (pv 6) (po_some (pv 7)) po_none) (pe_slice sl_list (pv 6) po_none (po_some (pv 7)))) pa_nil)))) (pe_op op_sub (pv 2) pe_int) (fun _ _ => rfl))))) pss_nil) (pss_cons (ps_set (i := 8) nd rfl (Or.inl rfl) (pe_split (pe_ix ix_list (pv 6) (pv 7) (fun _ _ => rfl)) pe_str)) (pss_cons (ps_set (i := 9) nd rfl (Or.inl rfl) (pe_call (ok_law_next T) (hr.mono (by decide)) (by rfl) T.m_law_next T.F_law_next.kp T.b_law_next .nil pass0 (pa_cons (pv 0) (pa_cons (pe_callB call_len_seq (by rfl) T.z_len PySem.boot_len (pa_cons (pv 8) pa_nil)) pa_nil)))) (pss_cons (ps_set (i := 10) nd rfl (Or.inl rfl) (pe_lst (pa_cons pe_str (pa_cons pe_str (pa_cons pe_str (pa_cons pe_str (pa_cons pe_str (pa_cons pe_str (pa_cons pe_str (pa_cons pe_str (pa_cons pe_str (pa_cons pe_str (pa_cons pe_str (pa_cons pe_str (pa_cons pe_str (pa_cons pe_str (pa_cons pe_str pa_nil))))))))))))))))) (pss_cons (ps_expr (pe_bm PySem.F.plainAttrs_list PySem.F.slot_list_append PySem.F.type_list_append mt_append (pv 10) (pa_cons pe_str pa_nil))) (pss_cons (ps_set (i := 8) nd rfl (Or.inl rfl) (pe_op op_cat (pe_op op_cat (pe_slice sl_list (pv 8) po_none (po_some (pv 9))) (pe_ix ix_list (pe_lst (pa_cons (pe_lst pa_nil) (pa_cons (pe_op op_rep (pe_lst (pa_cons (pe_ix ix_list (pv 8) (pv 9) (fun _ _ => rfl)) pa_nil)) pe_int) (pa_cons (pe_lst (pa_cons (pe_ix ix_list (pv 10) (pe_call (ok_law_next T) (hr.mono (by decide)) (by rfl) T.m_law_next T.F_law_next.kp T.b_law_next .nil pass0 (pa_cons (pv 0) (pa_cons pe_int pa_nil))) (fun _ _ => rfl)) pa_nil)) pa_nil)))) (pe_op op_sub (pv 2) pe_int) (fun _ _ => rfl))) (pe_slice sl_list (pv 8) (po_some (pe_op op_add (pv 9) pe_int)) po_none))) (pss_one (ps_ret (pe_join pe_str (pe_op op_cat (pe_op op_cat (pe_slice sl_list (pv 6) po_none (po_some (pv 7))) (pe_lst (pa_cons (pe_join pe_str (pv 8)) pa_nil))) (pe_slice sl_list (pv 6) (po_some (pe_op op_add (pv 7) pe_int)) po_none)))))))))))))))))), ?_⟩
    refine ⟨_, rfl, p, q, 9, rfl, hA, by decide, by decide, fun turn H1 t0 t1 hA1 k1 d1 => ?_⟩
    refine ⟨_, rfl, _, rfl, _, rfl, le_line (by omega), _, _, rfl, rfl, p, q, _, rfl, hA1, by omega, by omega, fun at0 H2 a0 a1 hA2 k2 d2 => ?_⟩
    obtain ⟨at', rfl⟩ := Int.eq_ofNat_of_zero_le a0
    have D2 : DrawS p q H H2 [] := ⟨hA2, k1.trans k2, d1.trans d2, fun v hv => nomatch hv⟩
    clear hA hA1 hA2 k1 d1 k2 d2
    refine ⟨_, rfl, _, rfl, _, rfl, _, rfl, le_line (by decide), (by decide : (2 : Nat) ≤ sizeLine), fun a na => ?_⟩
    have elen : ((Str.ofString "0123456789 -\nabcdefghijklmnopqrstuvwxyz!#$&'()*+,./:;<=>?@ABCDEFGHIJKLMNOPQRSTUVWXYZ[]^_{|}~").length : Int) = 92 := by decide +kernel
    rw [elen]
    have D3 := D2.skip na (.lst [.int 13, .int 92])
    have ha3 : upd H2 a (.lst [.int 13, .int 92]) a = some (.lst [.int 13, .int 92]) := upd_same
    have naf := D2.at'.fresh na
    generalize upd H2 a (.lst [.int 13, .int 92]) = H3 at *
    refine ⟨_, rfl, p, q, 2, rfl, D3.at', by decide, by decide, fun r H4 r0 r1 hA4 k4 d4 => ?_⟩
    have ha4 := k4 _ _ (by simp [naf.1, naf.2]) ha3
    obtain ⟨v, hv, n, rfl, n1, n20⟩ := at_of (R := fun v => ∃ n : Int, v = .int n ∧ 1 ≤ n ∧ n ≤ 92) r0 (xs := [.int 13, .int 92]) r1 (by
      intro v hv
      simp only [List.mem_cons, List.not_mem_nil, or_false] at hv
      rcases hv with rfl | rfl
      · exact ⟨_, rfl, by omega, by omega⟩
      · exact ⟨_, rfl, by omega, by omega⟩)
    refine ⟨a, _, _, _, rfl, rfl, SqL.of ha4, hv, p, q, n, rfl, hA4, by omega, by omega, fun j H5 j0 j1 hA5 k5 d5 => ?_⟩
    have D5 : DrawS p q H H5 [] := ⟨hA5, (D3.kp.trans k4).trans k5, (D3.dm.trans d4).trans d5, fun v hv => nomatch hv⟩
    obtain ⟨j, rfl⟩ := Int.eq_ofNat_of_zero_le j0
    obtain ⟨c, hc⟩ : ∃ c, (tl signsW)[j]? = some c := ⟨_, List.getElem?_eq_getElem (by
      have : (tl signsW).length = 92 := by decide +kernel
      omega)⟩
    have hc128 := signs_lo c (List.mem_of_getElem? hc)
    refine ⟨_, _, c, rfl, rfl, le_line (by decide), atI_nat (j := j) hc, ?_⟩
    clear ha3 ha4 D3 D2 hA4 k4 d4 hA5 k5 d5 naf na hv r0 r1 hc
    have hap : ∀ a b : Str, (a ++ b).length = a.length + b.length := fun a b => by rw [len_tl, tl_append, List.length_append, ← len_tl, ← len_tl]
    obtain ⟨turn, rfl⟩ := Int.eq_ofNat_of_zero_le t0
    have hsl : ∀ n : Nat, n ≤ 100000 → n ≤ sizeLine := fun n h => le_line (by omega)
    refine ⟨_, rfl, _, 3, rfl, rfl, _, rfl, ite2 (fun h => ?_) (fun h => ?_)⟩
    · have ht : (turn : Int) < 3 := of_decide_eq_true h
      have ht3 : turn < 3 := by omega
      obtain ⟨v, hv, y, rfl, hy1, hy2⟩ := at_of (R := fun v => ∃ y : Str, v = .str y ∧ y.length ≤ 1 ∧ Lo y) t0 (xs := [.str ⟨#[c]⟩, .str "", .str ⟨#[c]⟩]) (by show ((turn : Nat) : Int) < 3; exact ht) (by
        intro v hv
        have lc : Lo ⟨#[c]⟩ := fun d hd => by
          have hd : d ∈ [c] := hd
          rw [List.mem_singleton.mp hd]
          exact hc128
        simp only [List.mem_cons, List.not_mem_nil, or_false] at hv
        rcases hv with rfl | rfl | rfl
        · exact ⟨_, rfl, Nat.le_refl _, lc⟩
        · exact ⟨_, rfl, by decide, fun d hd => nomatch hd⟩
        · exact ⟨_, rfl, Nat.le_refl _, lc⟩)
      have c1 := cutS_length x none (some ((at' : Nat) : Int))
      refine ⟨_, rfl, _, rfl, _, rfl, _, rfl, hsl _ (by omega), _, rfl, _, rfl, (by decide : (3 : Nat) ≤ sizeLine), fun b nb => ⟨_, rfl, b, _, _, _, rfl, rfl, SqL.of upd_same, hv, _, _, rfl, rfl, hsl _ (by omega), _, rfl, _, rfl, _, rfl, _, _, rfl, rfl, .inr ⟨_, rfl, _, _, rfl, rfl, _, rfl, _, rfl, hsl _ (by omega), _, _, rfl, rfl, ?_, ?_⟩⟩⟩
      · have c2 := cutS_length x (some (((at' : Nat) : Int) + if decide ((0 : Int) < ((turn : Nat) : Int)) = true then 1 else 0)) none
        rw [hap]
        exact hsl _ (by omega)
      · have c2 := cutS_length x (some (((at' : Nat) : Int) + if decide ((0 : Int) < ((turn : Nat) : Int)) = true then 1 else 0)) none
        have D6 := D5.skip nb (.lst [.str ⟨#[c]⟩, .str "", .str ⟨#[c]⟩])
        exact fin _ _ (by rw [hap, hap]; omega) (((lo.cut _ _).app hy2).app (lo.cut _ _)) D6.at' D6.kp D6.dm
    have ht : 3 ≤ turn := by
      have : ¬ (turn : Int) < 3 := fun z => h (decide_eq_true z)
      omega
    clear h
    obtain ⟨rl, rw', rn⟩ := split_small x (y := "\n") (by decide) (by decide +kernel)
    obtain ⟨rm, rlo⟩ := split_msr x (y := "\n") (by decide) (by decide +kernel)
    have rlo := rlo lo
    refine ⟨_, rfl, ⟨_, rfl⟩, _, _, rfl, rfl, by decide, le_line (by omega), fun rp nrp => ?_⟩
    have D6 := D5.skip nrp (.lst ((Txt.split x "\n").map V.str))
    have hrp : upd H5 rp (.lst ((Txt.split x "\n").map V.str)) rp = some (.lst ((Txt.split x "\n").map V.str)) := upd_same
    have nrf := D5.at'.fresh nrp
    show (fun H6 => _) (upd H5 rp (.lst ((Txt.split x "\n").map V.str)))
    generalize upd H5 rp (.lst ((Txt.split x "\n").map V.str)) = H6 at *
    generalize Txt.split x "\n" = rows at *
    have rl1 : 1 ≤ rows.length := by
      cases rows with
      | nil => exact absurd rfl rn
      | cons a b => rw [List.length_cons]; omega
    refine ⟨_, rfl, _, rfl, rp, _, rfl, .inl (SqL.of hrp), p, q, _, rfl, D6.at', by rw [List.length_map]; omega, by rw [List.length_map]; omega, fun k0 H7 k00 k01 hA7 k7 d7 => ?_⟩
    rw [List.length_map] at k01
    obtain ⟨k, rfl⟩ := Int.eq_ofNat_of_zero_le k00
    have hk : k < rows.length := by omega
    have D7 : DrawS p q H H7 [] := ⟨hA7, D6.kp.trans k7, D6.dm.trans d7, fun v hv => nomatch hv⟩
    have hrp7 := k7 _ _ (by simp [nrf.1, nrf.2]) hrp
    clear D5 D6 hrp hA7 k7 d7 k00 k01 rn nrp
    refine normG (σ' := [some (.ref p), some (.str x), some (.int (turn : Nat)), some (.int (at' : Nat)), some (.str signsW), some (.str ⟨#[c]⟩), some (.ref rp), some (.int (k : Nat)), none, none, none]) rfl ?_
    refine ⟨_, rfl, _, 6, rfl, rfl, _, rfl, ite2 (fun h => ?_) (fun h => ?_)⟩
    · have ht6 : turn < 6 := by have := of_decide_eq_true h; omega
      have mk := msr_cut rows k
      have mk1 := msr_cut rows (k + 1)
      have ltake : ∀ n, ∀ y ∈ rows.take n, Lo y := fun n y hy => rlo y (List.mem_of_mem_take hy)
      have ldrop : ∀ n, ∀ y ∈ rows.drop n, Lo y := fun n y hy => rlo y (List.mem_of_mem_drop hy)
      have few : ∀ lo hi : Option Int, (cutV (rows.map V.str) lo hi).length ≤ 30000 := fun lo hi => by
        unfold cutV
        rw [List.length_take, List.length_drop, List.length_map]
        omega
      refine ⟨⟨_, rfl⟩, _, rfl, _, rfl, _, rfl, rp, _, rfl, SqL.of hrp7, fun a1 n1 => ⟨_, rfl, _, rfl, _, _, rfl, rfl, _, rfl, rp, _, rfl, SqL.of (same_new (Same.refl _) n1 _ _ hrp7), fun a2 n2 => ⟨a1, a2, _, _, rfl, rfl, same_new (Same.refl _) n2 _ _ upd_same, upd_same, hsl _ (by have := few none (some ((k : Nat) : Int)); have := few (some (((k : Nat) : Int) + 1)) none; omega), fun c1 m1 => ?_⟩⟩⟩
      obtain ⟨H8, eh, s8, D8, ec⟩ := grow3 (.lst (cutV (rows.map V.str) none (some ((k : Nat) : Int)) ++ cutV (rows.map V.str) (some (((k : Nat) : Int) + 1)) none)) n1 n2 m1 D7
      rw [eh]
      have C1 : Cut (2 * x.length + 2) H8 (.ref c1) := Cut.two ec (cutW_lo (Nat.le_of_lt hk)) (cutW_hi1 hk) (by omega) (ltake _) (ldrop _)
      clear n1 n2 m1 ec eh
      have hrp8 := s8 _ _ hrp7
      refine ⟨_, rfl, _, rfl, _, _, rfl, rfl, _, rfl, rp, _, rfl, SqL.of hrp8, fun a1 n1 => ⟨_, rfl, _, rfl, _, rfl, rp, _, rfl, SqL.of (same_new (Same.refl _) n1 _ _ hrp8), fun a2 n2 => ⟨a1, a2, _, _, rfl, rfl, same_new (Same.refl _) n2 _ _ upd_same, upd_same, hsl _ (by have := few none (some (((k : Nat) : Int) + 1)); have := few (some ((k : Nat) : Int)) none; omega), fun c2 m2 => ?_⟩⟩⟩
      obtain ⟨H9, eh, s9, D9, ec⟩ := grow3 (.lst (cutV (rows.map V.str) none (some (((k : Nat) : Int) + 1)) ++ cutV (rows.map V.str) (some ((k : Nat) : Int)) none)) n1 n2 m2 D8
      rw [eh]
      have C2 : Cut (2 * x.length + 2) H9 (.ref c2) := Cut.two ec (cutW_lo1 hk) (cutW_hi (Nat.le_of_lt hk)) (by omega) (ltake _) (ldrop _)
      clear n1 n2 m2 ec eh
      have hrp9 := s9 _ _ hrp8
      refine ⟨_, rfl, _, rfl, _, rfl, rp, _, rfl, SqL.of hrp9, fun a1 n1 => ⟨_, rfl, _, rfl, _, rfl, rp, _, rfl, SqL.of (same_new (Same.refl _) n1 _ _ hrp9), fun a2 n2 => ⟨a1, a2, _, _, rfl, rfl, same_new (Same.refl _) n2 _ _ upd_same, upd_same, hsl _ (by have := few none (some ((k : Nat) : Int)); have := few (some ((k : Nat) : Int)) none; omega), fun c3 m3 => ?_⟩⟩⟩
      obtain ⟨H10, eh, s10, D10, ec⟩ := grow3 (.lst (cutV (rows.map V.str) (some ((k : Nat) : Int)) none ++ cutV (rows.map V.str) none (some ((k : Nat) : Int)))) n1 n2 m3 D9
      rw [eh]
      have C3 : Cut (2 * x.length + 2) H10 (.ref c3) := Cut.two ec (cutW_hi (Nat.le_of_lt hk)) (cutW_lo (Nat.le_of_lt hk)) (by omega) (ldrop _) (ltake _)
      clear n1 n2 m3 ec eh
      refine ⟨(by decide : (3 : Nat) ≤ sizeLine), fun L nL => ?_⟩
      have sL := same_new (Same.refl H10) nL (o := .lst [.ref c1, .ref c2, .ref c3])
      have DL := D10.skip nL (.lst [.ref c1, .ref c2, .ref c3])
      obtain ⟨v, hv, c, ys, rfl, hc, hm, hlo⟩ := at_of (R := Cut (2 * x.length + 2) (upd H10 L (.lst [.ref c1, .ref c2, .ref c3]))) (show 0 ≤ ((turn : Nat) : Int) - 3 by omega) (xs := [.ref c1, .ref c2, .ref c3]) (by show ((turn : Nat) : Int) - 3 < 3; omega) (by
        intro v hv
        simp only [List.mem_cons, List.not_mem_nil, or_false] at hv
        rcases hv with rfl | rfl | rfl
        · exact ((C1.same s9).same s10).same sL
        · exact (C2.same s10).same sL
        · exact C3.same sL)
      have hj := join_msr (y := "\n") (by decide) ys
      refine ⟨_, rfl, _, 3, rfl, rfl, L, _, _, _, rfl, rfl, SqL.of upd_same, hv, _, c, ys, rfl, rfl, .inl (SqL.of hc), ?_, ?_⟩
      · show (ys.map fun x => x.length).sum + ys.length * 1 ≤ 16777216
        have : (ys.map fun x => x.length).sum + ys.length = msr ys := rfl
        omega
      · exact fin _ _ (by omega) (Lo.join lo_nl hlo) DL.at' DL.kp DL.dm
    · have ht6 : 6 ≤ turn := by
        have : ¬ (turn : Int) < 6 := fun z => h (decide_eq_true z)
        omega
      clear h
      obtain ⟨row, hrow⟩ : ∃ row, rows[k]? = some row := ⟨_, List.getElem?_eq_getElem hk⟩
      have hrl := rw' row (List.mem_of_getElem? hrow)
      have rlow := rlo row (List.mem_of_getElem? hrow)
      obtain ⟨wl, _, wn⟩ := split_small row (y := " ") (by decide) (by decide +kernel)
      obtain ⟨wm, wlo⟩ := split_msr row (y := " ") (by decide) (by decide +kernel)
      have wlo := wlo rlow
      refine ⟨_, rfl, _, rfl, rp, _, _, _, rfl, rfl, SqL.of hrp7, atI_nat (j := k) (by rw [List.getElem?_map, hrow]; rfl), ⟨_, rfl⟩, _, _, rfl, rfl, by decide, hsl _ (by omega), fun wp nwp => ?_⟩
      have nwf := D7.at'.fresh nwp
      obtain ⟨H8, eh, s8, D8, hwp, fwp⟩ := grow1 (.lst ((Txt.split row " ").map V.str)) nwp D7
      show (fun H6 => _) (upd H7 wp (.lst ((Txt.split row " ").map V.str)))
      rw [eh]
      generalize Txt.split row " " = words at *
      have hrp8 := s8 _ _ hrp7
      have wl1 : 1 ≤ words.length := by
        cases words with
        | nil => exact absurd rfl wn
        | cons a b => rw [List.length_cons]; omega
      clear eh s8 nwp hrp7 wn D7
      refine ⟨_, rfl, _, rfl, wp, _, rfl, .inl (SqL.of hwp), p, q, _, rfl, D8.at', by rw [List.length_map]; omega, by rw [List.length_map]; omega, fun j0 H9 j00 j01 hA9 k9 d9 => ?_⟩
      rw [List.length_map] at j01
      obtain ⟨jw, rfl⟩ := Int.eq_ofNat_of_zero_le j00
      have hj : jw < words.length := by omega
      have D9 : DrawS p q H H9 [] := ⟨hA9, D8.kp.trans k9, D8.dm.trans d9, fun v hv => nomatch hv⟩
      have hrp9 : H9 rp = some (.lst (rows.map V.str)) := k9 _ _ (by simp [nrf.1, nrf.2]) hrp8
      have hwp9 := k9 _ _ (by simp [nwf.1, nwf.2]) hwp
      clear D8 hA9 k9 d9 hrp8 hwp j00 j01
      refine normG (σ' := [some (.ref p), some (.str x), some (.int (turn : Nat)), some (.int (at' : Nat)), some (.str signsW), some (.str ⟨#[c]⟩), some (.ref rp), some (.int (k : Nat)), some (.ref wp), some (.int (jw : Nat)), none]) rfl ?_
      refine ⟨(by decide : (15 : Nat) ≤ sizeLine), fun od nod => ?_⟩
      refine ⟨_, rfl, .inl ⟨rfl, _, SqL.of upd_same⟩, od, _, _, rfl, rfl, upd_same, lt_line (by decide), ?_⟩
      have nodf := D9.at'.fresh nod
      obtain ⟨H10, eh, s10, D10, hod, fod⟩ := growM (.lst (oddW.dropLast.map V.str)) (.lst (oddW.map V.str)) nod D9
      have eh2 : upd (upd H9 od (.lst [.str "", .str "0", .str "00", .str "07", .str "999", .str "1000", .str "-1", .str "tell", .str "close", .str "begin", .str "hear", .str "lose", .str "down", .str "up", .str "Up"])) od (.lst ([.str "", .str "0", .str "00", .str "07", .str "999", .str "1000", .str "-1", .str "tell", .str "close", .str "begin", .str "hear", .str "lose", .str "down", .str "up", .str "Up"] ++ [.str "settle"])) = H10 := eh
      rw [eh2]
      have hrp10 := s10 _ _ hrp9
      have hwp10 := s10 _ _ hwp9
      clear eh eh2 s10 hrp9 hwp9 nod D9
      have jf : ∀ lo hi : Option Int, (cutV (words.map V.str) lo hi).length ≤ 30000 := fun lo hi => by
        unfold cutV
        rw [List.length_take, List.length_drop, List.length_map]
        omega
      refine ⟨_, rfl, _, rfl, _, rfl, wp, _, rfl, SqL.of hwp10, fun a1 n1 => ?_⟩
      obtain ⟨H11, eh, s11, D11, ha11, fa1⟩ := grow1 (.lst (cutV (words.map V.str) none (some ((jw : Nat) : Int)))) n1 D10
      rw [eh]
      have hwp11 := s11 _ _ hwp10
      clear eh n1
      refine ⟨Nat.zero_le _, fun b1 n1 => ?_⟩
      obtain ⟨H12, eh, s12, D12, hb12, fb1⟩ := grow1 (.lst []) n1 D11
      rw [eh]
      have hwp12 := s12 _ _ hwp11
      clear eh n1
      obtain ⟨wd, hwd⟩ : ∃ wd, words[jw]? = some wd := ⟨_, List.getElem?_eq_getElem hj⟩
      have hwl := wlo wd (List.mem_of_getElem? hwd)
      refine ⟨_, rfl, _, rfl, wp, _, _, _, rfl, rfl, SqL.of hwp12, atI_nat (j := jw) (by rw [List.getElem?_map, hwd]; rfl), (by decide : (1 : Nat) ≤ sizeLine), fun b2 n2 => ⟨b2, 2, _, rfl, rfl, upd_same, by decide, by decide, (by decide : (2 : Nat) ≤ sizeLine), fun b3 n3 => ?_⟩⟩
      obtain ⟨H13, eh, s13, D13, hb213, fb2⟩ := grow1 (.lst [.str wd]) n2 D12
      rw [eh] at n3 ⊢
      obtain ⟨H14, eh2, s14, D14, hb3, fb3⟩ := grow1 (.lst [.str wd, .str wd]) n3 D13
      have eh3 : upd H13 b3 (.lst (List.replicate (2 : Int).toNat [V.str wd]).flatten) = H14 := eh2
      rw [eh3]
      have s1214 := s13.trans s14
      have hb14 := s1214 _ _ hb12
      have ha14 := s1214 _ _ (s12 _ _ ha11)
      have hwp14 := s1214 _ _ hwp12
      have hod14 := s1214 _ _ (s12 _ _ (s11 _ _ hod))
      have hrp14 := s1214 _ _ (s12 _ _ (s11 _ _ hrp10))
      clear eh eh2 eh3
      refine ⟨_, rfl, _, rfl, p, q, 16, rfl, D14.at', by decide, by decide, fun r H15 r0 r1 hA15 k15 d15 => ?_⟩
      have frp : rp ∉ [p, q] := by simp [nrf.1, nrf.2]
      have D15 : DrawS p q H H15 [] := ⟨hA15, D14.kp.trans k15, D14.dm.trans d15, fun v hv => nomatch hv⟩
      have hod15 := k15 _ _ fod hod14
      obtain ⟨v, hv, w3, rfl, hw3⟩ := at_of (R := fun v => ∃ w : Str, v = .str w ∧ w ∈ oddW) r0 (xs := oddW.map V.str) r1 (fun v hv => by
        obtain ⟨w, hw, rfl⟩ := List.mem_map.mp hv
        exact ⟨w, rfl, hw⟩)
      obtain ⟨ol, olo⟩ := odd_lo w3 hw3
      have ha15 := k15 _ _ fa1 ha14
      have hb115 := k15 _ _ fb1 hb14
      have hb315 := k15 _ _ fb3 hb3
      have hwp15 := k15 _ _ fwp hwp14
      have hrp15 := k15 _ _ frp hrp14
      refine ⟨od, _, _, _, rfl, rfl, SqL.of hod15, hv, (by decide : (1 : Nat) ≤ sizeLine), fun b4 n4 => ?_⟩
      obtain ⟨H16, eh, s16, D16, hb4, fb4⟩ := grow1 (.lst [.str w3]) n4 D15
      rw [eh]
      clear eh n4
      refine ⟨(by decide : (3 : Nat) ≤ sizeLine), fun L nL => ?_⟩
      obtain ⟨H17, eh, s17, D17, hL, fL⟩ := grow1 (.lst [.ref b1, .ref b3, .ref b4]) nL D16
      rw [eh]
      have s1517 := s16.trans s17
      have hwat := msr_at hwd
      have m1 : Cut (wd.length + 1 + (row.length + 7)) H17 (.ref b1) := ⟨b1, [], rfl, s1517 _ _ hb115, Nat.zero_le _, fun y hy => nomatch hy⟩
      have m2 : Cut (wd.length + 1 + (row.length + 7)) H17 (.ref b3) := ⟨b3, [wd, wd], rfl, s1517 _ _ hb315, by
        have : msr [wd, wd] = wd.length + 1 + (wd.length + 1) := by rw [show [wd, wd] = [wd] ++ [wd] from rfl, msr_append, msr_one]
        omega, fun y hy => by
        simp only [List.mem_cons, List.not_mem_nil, or_false, or_self] at hy
        rw [hy]; exact hwl⟩
      have m3 : Cut (wd.length + 1 + (row.length + 7)) H17 (.ref b4) := ⟨b4, [w3], rfl, s17 _ _ hb4, by rw [msr_one]; omega, fun y hy => by rw [List.mem_singleton.mp hy]; exact olo⟩
      obtain ⟨v, hv2, mid, ms, rfl, hmid, hmm, mlo⟩ := at_of (R := Cut (wd.length + 1 + (row.length + 7)) H17) (show 0 ≤ ((turn : Nat) : Int) - 6 by omega) (xs := [.ref b1, .ref b3, .ref b4]) (by show ((turn : Nat) : Int) - 6 < 3; omega) (by
        intro v hv
        simp only [List.mem_cons, List.not_mem_nil, or_false] at hv
        rcases hv with rfl | rfl | rfl
        · exact m1
        · exact m2
        · exact m3)
      have ha17 := s1517 _ _ ha15
      have hwp17 := s1517 _ _ hwp15
      have hrp17 := s1517 _ _ hrp15
      have elo : cutV (words.map V.str) none (some ((jw : Nat) : Int)) = (words.take jw).map V.str := cutW_lo (Nat.le_of_lt hj)
      have ehi : cutV (words.map V.str) (some (((jw : Nat) : Int) + 1)) none = (words.drop (jw + 1)).map V.str := cutW_hi1 hj
      rw [elo] at ha17
      have msl : ms.length ≤ msr ms := Nat.le_add_left _ _
      refine ⟨_, rfl, _, _, rfl, rfl, L, _, _, _, rfl, rfl, SqL.of hL, hv2, a1, mid, _, _, rfl, rfl, ha17, hmid, hsl _ (by rw [List.length_map, List.length_map, List.length_take]; omega), fun e1 ne1 => ?_⟩
      obtain ⟨H18, eh, s18, D18, he1, fe1⟩ := grow1 (.lst ((words.take jw).map V.str ++ ms.map V.str)) ne1 D17
      rw [eh]
      have hwp18 := s18 _ _ hwp17
      refine ⟨_, rfl, _, rfl, _, _, rfl, rfl, _, rfl, wp, _, rfl, SqL.of hwp18, fun a2 n2 => ?_⟩
      rw [ehi] at *
      obtain ⟨H19, eh, s19, D19, ha2, fa2⟩ := grow1 (.lst ((words.drop (jw + 1)).map V.str)) n2 D18
      rw [eh]
      have he119 := s19 _ _ he1
      refine ⟨e1, a2, _, _, rfl, rfl, he119, ha2, hsl _ (by rw [List.length_append, List.length_map, List.length_map, List.length_map, List.length_take, List.length_drop]; omega), fun e2 ne2 => ?_⟩
      have elist : (words.take jw).map V.str ++ ms.map V.str ++ (words.drop (jw + 1)).map V.str = (words.take jw ++ ms ++ words.drop (jw + 1)).map V.str := by rw [List.map_append, List.map_append]
      rw [elist]
      obtain ⟨H20, eh, s20, D20, he2, fe2⟩ := grow1 (.lst ((words.take jw ++ ms ++ words.drop (jw + 1)).map V.str)) ne2 D19
      rw [eh]
      have nwlo : ∀ y ∈ words.take jw ++ ms ++ words.drop (jw + 1), Lo y := fun y hy => by
        rcases List.mem_append.mp hy with g | g
        · rcases List.mem_append.mp g with g | g
          · exact wlo y (List.mem_of_mem_take g)
          · exact mlo y g
        · exact wlo y (List.mem_of_mem_drop g)
      have nwm : msr (words.take jw ++ ms ++ words.drop (jw + 1)) ≤ 2 * row.length + 8 := by
        rw [msr_append, msr_append]
        omega
      generalize words.take jw ++ ms ++ words.drop (jw + 1) = nws at *
      have hrp20 := s20 _ _ (s19 _ _ (s18 _ _ hrp17))
      have hrat := msr_at hrow
      have jl := join_msr (y := " ") (by decide) nws
      have few : ∀ lo hi : Option Int, (cutV (rows.map V.str) lo hi).length ≤ 30000 := fun lo hi => by
        unfold cutV
        rw [List.length_take, List.length_drop, List.length_map]
        omega
      have rlo' : cutV (rows.map V.str) none (some ((k : Nat) : Int)) = (rows.take k).map V.str := cutW_lo (Nat.le_of_lt hk)
      have rhi' : cutV (rows.map V.str) (some (((k : Nat) : Int) + 1)) none = (rows.drop (k + 1)).map V.str := cutW_hi1 hk
      refine normG (σ' := [some (.ref p), some (.str x), some (.int (turn : Nat)), some (.int (at' : Nat)), some (.str signsW), some (.str ⟨#[c]⟩), some (.ref rp), some (.int (k : Nat)), some (.ref e2), some (.int (jw : Nat)), some (.ref od)]) rfl ?_
      refine ⟨⟨_, rfl⟩, _, rfl, _, rfl, _, rfl, rp, _, rfl, SqL.of hrp20, fun u1 n1 => ?_⟩
      rw [rlo']
      obtain ⟨H21, eh, s21, D21, hu1, fu1⟩ := grow1 (.lst ((rows.take k).map V.str)) n1 D20
      rw [eh]
      refine ⟨⟨_, rfl⟩, _, rfl, _, e2, nws, rfl, rfl, .inl (SqL.of (s21 _ _ he2)), ?_, (by decide : (1 : Nat) ≤ sizeLine), fun u2 n2 => ?_⟩
      · show (nws.map fun x => x.length).sum + nws.length * 1 ≤ 16777216
        have : (nws.map fun x => x.length).sum + nws.length = msr nws := rfl
        omega
      obtain ⟨H22, eh, s22, D22, hu2, fu2⟩ := grow1 (.lst [.str (Txt.join " " nws)]) n2 D21
      have eh2 : upd H21 u2 (.lst [.str (Txt.join (Str.ofString " ") nws)]) = H22 := eh
      rw [eh2]
      refine ⟨u1, u2, _, _, rfl, rfl, s22 _ _ hu1, hu2, hsl _ (by rw [List.length_map, List.length_take]; show _ + 1 ≤ _; omega), fun u3 n3 => ?_⟩
      obtain ⟨H23, eh, s23, D23, hu3, fu3⟩ := grow1 (.lst ((rows.take k).map V.str ++ [.str (Txt.join " " nws)])) n3 D22
      have eh2 : upd H22 u3 (.lst ((rows.take k).map V.str ++ [.str (Txt.join (Str.ofString " ") nws)])) = H23 := eh
      rw [eh2]
      have hrp23 := s23 _ _ (s22 _ _ (s21 _ _ hrp20))
      refine ⟨_, rfl, _, rfl, _, _, rfl, rfl, _, rfl, rp, _, rfl, SqL.of hrp23, fun u4 n4 => ?_⟩
      rw [rhi']
      obtain ⟨H24, eh, s24, D24, hu4, fu4⟩ := grow1 (.lst ((rows.drop (k + 1)).map V.str)) n4 D23
      rw [eh]
      refine ⟨u3, u4, _, _, rfl, rfl, s24 _ _ hu3, hu4, hsl _ (by rw [List.length_append, List.length_map, List.length_map, List.length_take, List.length_drop]; show _ + 1 + _ ≤ _; omega), fun u5 n5 => ?_⟩
      have elist : (rows.take k).map V.str ++ [V.str (Txt.join (Str.ofString " ") nws)] ++ (rows.drop (k + 1)).map V.str = (rows.take k ++ [Txt.join " " nws] ++ rows.drop (k + 1)).map V.str := by rw [List.map_append, List.map_append]; rfl
      rw [elist]
      obtain ⟨H25, eh, s25, D25, hu5, fu5⟩ := grow1 (.lst ((rows.take k ++ [Txt.join " " nws] ++ rows.drop (k + 1)).map V.str)) n5 D24
      rw [eh]
      have frlo : ∀ y ∈ rows.take k ++ [Txt.join " " nws] ++ rows.drop (k + 1), Lo y := fun y hy => by
        rcases List.mem_append.mp hy with g | g
        · rcases List.mem_append.mp g with g | g
          · exact rlo y (List.mem_of_mem_take g)
          · rw [List.mem_singleton.mp g]
            exact Lo.join lo_sp nwlo
        · exact rlo y (List.mem_of_mem_drop g)
      have frm : msr (rows.take k ++ [Txt.join " " nws] ++ rows.drop (k + 1)) ≤ 2 * x.length + 10 := by
        rw [msr_append, msr_append, msr_one]
        omega
      generalize rows.take k ++ [Txt.join " " nws] ++ rows.drop (k + 1) = frows at *
      have fjl := join_msr (y := "\n") (by decide) frows
      refine ⟨_, u5, frows, rfl, rfl, .inl (SqL.of hu5), ?_, ?_⟩
      · show (frows.map fun x => x.length).sum + frows.length * 1 ≤ 16777216
        have : (frows.map fun x => x.length).sum + frows.length = msr frows := rfl
        omega
      · exact fin _ _ (by omega) (Lo.join lo_nl frlo) D25.at' D25.kp D25.dm
end
end K16

namespace K16
open PySem PySem.Spec PyProof.Rows L2 Sky TL
/-! ### what a reader makes of a text: its rows, its steps, the first that is none -/
/-- a step of any length that words can write -/
def WdB (d : Wd) : Prop := match d with
  | .bare w => w ∈ bareL
  | .letter w y _ => w ∈ lettL ∧ y ∈ waysL
  | .close _ => True
  | .tell _ t => t.length ≤ 20000
theorem stepM_big {ws : List Str} (hl : ws.length ≤ 20000) {d : Wd} (h : stepM ws = some d) : WdB d := by
  cases ws with
  | nil => exact nomatch (show (none : Option Wd) = some d from h)
  | cons w r =>
    by_cases c1 : w ∈ bareL ∧ r = []
    · obtain ⟨b, rfl⟩ := c1
      rw [stepM_bare b] at h
      cases h
      exact b
    have h : (if w ∈ lettL ∧ r.length = 2 ∧ r.getD 0 "" ∈ waysL ∧ isW (r.getD 1 "") = true then some (Wd.letter w (r.getD 0 "") (numOf (r.getD 1 ""))) else if r.all isW = false then none else if w = "close" ∧ r.length = 1 then some (.close (numOf (r.getD 0 ""))) else if w = "tell" ∧ 2 ≤ r.length then some (.tell (numOf (r.getD 0 "")) (r.tail.map numOf)) else none) = some d := (if_neg c1).symm.trans h
    by_cases c2 : w ∈ lettL ∧ r.length = 2 ∧ r.getD 0 "" ∈ waysL ∧ isW (r.getD 1 "") = true
    · rw [if_pos c2] at h
      cases h
      exact ⟨c2.1, c2.2.2.1⟩
    rw [if_neg c2] at h
    by_cases c3 : r.all isW = false
    · rw [if_pos c3] at h
      cases h
    rw [if_neg c3] at h
    by_cases c4 : w = "close" ∧ r.length = 1
    · rw [if_pos c4] at h
      cases h
      exact trivial
    rw [if_neg c4] at h
    by_cases c5 : w = "tell" ∧ 2 ≤ r.length
    · rw [if_pos c5] at h
      cases h
      show (r.tail.map numOf).length ≤ 20000
      rw [List.length_map, List.length_tail]
      rw [List.length_cons] at hl
      omega
    rw [if_neg c5] at h
    cases h
theorem words_str : (∀ w ∈ bareL, PyData.strOk w = true) ∧ (∀ w ∈ lettL, PyData.strOk w = true) ∧ ∀ w ∈ waysL, PyData.strOk w = true := by decide +kernel
theorem Lay.wordR {k : Nat} {w : Str} (ok : PyData.strOk w = true) : Lay k (.str w) := ⟨by simp [PyData.canLay0, ok], by simp [PyData.depth]⟩
theorem lay_up {j k : Nat} {d : PyData} (h : Lay j d) (l : j ≤ k := by decide) : Lay k d := h.mono l
theorem lay_wdB {d : Wd} (h : WdB d) : Lay 2 (wdD d) := by
  cases d with
  | bare w => exact lay_up (Lay.tuple (f := id) (k := 0) (xs := [PyData.str w]) fun x hx => by rw [List.mem_singleton.mp hx]; exact Lay.wordR (words_str.1 w h))
  | letter w y j => exact lay_up (Lay.tuple (f := id) (k := 0) (xs := [PyData.str w, .str y, .int ((j : Nat) : Int)]) fun x hx => by
      simp only [List.mem_cons, List.not_mem_nil, or_false] at hx
      rcases hx with e | e | e <;> rw [e]
      · exact Lay.wordR (words_str.2.1 w h.1)
      · exact Lay.wordR (words_str.2.2 y h.2)
      · exact Lay.int _)
  | close s => exact lay_up (Lay.tuple (f := id) (k := 0) (xs := [PyData.str "close", .int ((s : Nat) : Int)]) fun x hx => by
      simp only [List.mem_cons, List.not_mem_nil, or_false] at hx
      rcases hx with e | e <;> rw [e]
      · exact Lay.wordR (by decide +kernel)
      · exact Lay.int _)
  | tell s t =>
    refine Lay.tuple (f := id) (k := 1) (xs := [PyData.str "tell", .int ((s : Nat) : Int), natsD t]) fun x hx => ?_
    · simp only [List.mem_cons, List.not_mem_nil, or_false] at hx
      rcases hx with e | e | e <;> rw [e]
      · exact Lay.wordR (by decide +kernel)
      · exact lay_up (Lay.int _)
      · exact Lay.tuple (f := fun n : Nat => PyData.int (n : Int)) fun n _ => Lay.int _
theorem dok_wdB {d : Wd} (h : WdB d) : DOk 2 (wdD d) := by
  have ds : ∀ {n : Nat} (s : Str), DOk n (.str s) := fun s => .sc (.inr (.inr (.inr ⟨s, rfl⟩)))
  cases d with
  | bare w => exact DOk.tuple (show 1 ≤ 10000000 by decide) fun e he => by rw [List.mem_singleton.mp he]; exact ds _
  | letter w y j =>
    refine DOk.tuple (show 3 ≤ 10000000 by decide) fun e he => ?_
    simp only [List.mem_cons, List.not_mem_nil, or_false] at he
    rcases he with e | e | e <;> rw [e]
    · exact ds _
    · exact ds _
    · exact DOk.int _
  | close s =>
    refine DOk.tuple (show 2 ≤ 10000000 by decide) fun e he => ?_
    simp only [List.mem_cons, List.not_mem_nil, or_false] at he
    rcases he with e | e <;> rw [e]
    · exact ds _
    · exact DOk.int _
  | tell s t =>
    have hl : t.length ≤ 20000 := h
    refine DOk.tuple (show 3 ≤ 10000000 by decide) fun e he => ?_
    simp only [List.mem_cons, List.not_mem_nil, or_false] at he
    rcases he with e | e | e <;> rw [e]
    · exact ds _
    · exact DOk.int _
    · refine DOk.tuple (by rw [List.length_map]; omega) fun e he => ?_
      obtain ⟨n, _, rfl⟩ := List.mem_map.mp he
      exact DOk.int _
/-- the rows that are read, what each says -/
def rowsR (x : Str) : List Str := if x = "" then [] else rowsOf x
def saysR (x : Str) : List PyData := (rowsR x).map fun r => optWd (rowM r)
theorem eqv_opt (o : Option Wd) : PyData.eqv (optWd o) .none = o.isNone := by
  cases o with
  | none => rfl
  | some d => cases d <;> rfl
theorem row_few {x : Str} (h : x.length ≤ 15000) : (rowsR x).length ≤ 15001 ∧ ∀ r ∈ rowsR x, r.length ≤ 15000 := by
  unfold rowsR
  split
  · exact ⟨Nat.zero_le _, fun r hr => nomatch hr⟩
  · obtain ⟨a, b, c⟩ := split_small x (y := "\n") (by decide) (by decide +kernel)
    exact ⟨by show (Txt.split x "\n").length ≤ _; omega, fun r hr => by have := b r hr; omega⟩
theorem says_lay {x : Str} (h : x.length ≤ 15000) : Lay 3 (.list (saysR x)) := Lay.list fun r hr => by
  have hr := (row_few h).2 r hr
  cases e : rowM r with
  | none => exact lay_up Lay.none
  | some d => exact lay_wdB (stepM_big (by obtain ⟨a, _, _⟩ := split_small r (y := " ") (by decide) (by decide +kernel); omega) e)
theorem says_dok {x : Str} (h : x.length ≤ 15000) : DOk 3 (.list (saysR x)) := by
  refine DOk.list (by unfold saysR; rw [List.length_map]; have := (row_few h).1; omega) fun d hd => ?_
  obtain ⟨r, hr, rfl⟩ := List.mem_map.mp hd
  have hr := (row_few h).2 r hr
  cases e : rowM r with
  | none => exact DOk.none
  | some d => exact dok_wdB (stepM_big (by obtain ⟨a, _, _⟩ := split_small r (y := " ") (by decide) (by decide +kernel); omega) e)
/-- the first that is none, or all are steps -/
theorem first_none : ∀ rs : List Str, (∃ ds : List Wd, rs.map rowM = ds.map some) ∨ ∃ (i : Nat) (ds : List Wd) (r : Str), (rs.take i).map rowM = ds.map some ∧ rs[i]? = some r ∧ rowM r = none
  | [] => .inl ⟨[], rfl⟩
  | r :: rs => by
    cases e : rowM r with
    | none => exact .inr ⟨0, [], r, rfl, rfl, e⟩
    | some d =>
      rcases first_none rs with ⟨ds, h⟩ | ⟨i, ds, r2, h1, h2, h3⟩
      · exact .inl ⟨d :: ds, by rw [List.map_cons, List.map_cons, e, h]⟩
      · exact .inr ⟨i + 1, d :: ds, r2, by rw [List.take_succ_cons, List.map_cons, List.map_cons, e, h1], h2, h3⟩
theorem says_any {x : Str} : (saysR x).any (fun z => PyData.eqv z .none) = (rowsR x).any fun r => (rowM r).isNone := by
  unfold saysR
  rw [List.any_map]
  exact congrArg (List.any (rowsR x)) (funext fun r => eqv_opt (rowM r))
theorem none_no {rs : List Str} {ds : List Wd} (h : rs.map rowM = ds.map some) : ∀ (j : Nat) (r : Str), rs[j]? = some r → (rowM r).isNone = false := fun j r hr => by
  have := congrArg (fun l => l[j]?) h
  simp only [List.getElem?_map, hr, Option.map_some] at this
  cases e : ds[j]? with
  | none => rw [e] at this; cases this
  | some d => rw [e] at this; have := Option.some.inj this; rw [this]; rfl
/-- all rows are steps -/
theorem says_well {x : Str} {ds : List Wd} (h : (rowsR x).map rowM = ds.map some) : ((saysR x).any fun z => PyData.eqv z .none) = false ∧ saysR x = ds.map wdD ∧ (if x = "" then ds = [] else (rowsOf x).map rowM = ds.map some) := by
  refine ⟨?_, ?_, ?_⟩
  · rw [says_any, List.any_eq_false]
    intro r hr
    obtain ⟨j, hj⟩ := List.getElem?_of_mem hr
    rw [none_no h j r hj]
    decide
  · unfold saysR
    rw [show (fun r => optWd (rowM r)) = optWd ∘ rowM from rfl, ← List.map_map, h, List.map_map]
    rfl
  · unfold rowsR at h
    split at h
    · rename_i e
      rw [if_pos e]
      exact List.map_eq_nil_iff.mp h.symm
    · rename_i e
      rw [if_neg e]
      exact h
/-- row i is no step, those ahead of it are -/
theorem says_ill {x : Str} {i : Nat} {ds : List Wd} {r : Str} (h1 : ((rowsR x).take i).map rowM = ds.map some) (h2 : (rowsR x)[i]? = some r) (h3 : rowM r = none) : x ≠ "" ∧ ((saysR x).any fun z => PyData.eqv z .none) = true ∧ (saysR x)[i]? = some .none ∧ (∀ (m : Nat) (z : PyData), m < i → (saysR x)[m]? = some z → PyData.eqv z .none = false) ∧ ((rowsOf x).take i).map rowM = ds.map some ∧ (rowsOf x)[i]? = some r := by
  have ne : x ≠ "" := fun e => by unfold rowsR at h2; rw [if_pos e] at h2; cases h2
  have er : rowsR x = rowsOf x := if_neg ne
  refine ⟨ne, ?_, ?_, fun m z hm hz => ?_, by rw [← er]; exact h1, by rw [← er]; exact h2⟩
  · rw [says_any, List.any_eq_true]
    exact ⟨r, List.mem_of_getElem? h2, by rw [h3]; rfl⟩
  · unfold saysR
    rw [List.getElem?_map, h2]
    show some (optWd (rowM r)) = _
    rw [h3]
    rfl
  · unfold saysR at hz
    rw [List.getElem?_map] at hz
    cases e : (rowsR x)[m]? with
    | none => rw [e] at hz; cases hz
    | some r2 =>
      rw [e] at hz
      cases hz
      show PyData.eqv (optWd (rowM r2)) .none = false
      rw [eqv_opt]
      exact none_no h1 m r2 (by rw [List.getElem?_take, if_pos hm]; exact e)
/-! ### how long the steps' text is -/
theorem lo_words : (∀ w ∈ bareL, w.length ≤ 6 ∧ ∀ c ∈ tl w, c < 128) ∧ (∀ w ∈ lettL, w.length ≤ 5 ∧ ∀ c ∈ tl w, c < 128) ∧ ∀ w ∈ waysL, w.length ≤ 4 ∧ ∀ c ∈ tl w, c < 128 := by decide +kernel
theorem msr_nums : ∀ t : List Nat, (∀ n ∈ t, n < 1000) → msr (t.map numW) ≤ 4 * t.length
  | [], _ => Nat.le_refl _
  | n :: t, h => by
    have h1 := msr_nums t fun m hm => h m (List.mem_cons_of_mem _ hm)
    have h2 := numW_lenX (h n (List.mem_cons_self ..))
    rw [List.map_cons, show numW n :: t.map numW = [numW n] ++ t.map numW from rfl, msr_append, msr_one, List.length_cons]
    omega
theorem wds_msr {d : Wd} (h : WdS d) : msr (wdW d) ≤ 93 ∧ ∀ w ∈ wdW d, Lo w := by
  obtain ⟨ok, ht⟩ := h
  have one : ∀ (a : Str) (l : List Str), msr (a :: l) = a.length + 1 + msr l := fun a l => by rw [show a :: l = [a] ++ l from rfl, msr_append, msr_one]
  have nil : msr [] = 0 := rfl
  cases d with
  | bare w =>
    obtain ⟨h1, h2⟩ := lo_words.1 w ok
    refine ⟨by show msr [w] ≤ _; rw [one, nil]; omega, fun v hv => ?_⟩
    rw [List.mem_singleton.mp hv]
    exact h2
  | letter w y j =>
    obtain ⟨o1, o2, o3⟩ := ok
    obtain ⟨h1, h2⟩ := lo_words.2.1 w o1
    obtain ⟨h3, h4⟩ := lo_words.2.2 y o2
    have h5 := numW_lenX o3
    refine ⟨by show msr [w, y, numW j] ≤ _; rw [one, one, one, nil]; omega, fun v hv => ?_⟩
    have hv : v ∈ [w, y, numW j] := hv
    simp only [List.mem_cons, List.not_mem_nil, or_false] at hv
    rcases hv with e | e | e <;> rw [e]
    · exact h2
    · exact h4
    · exact lo_num j o3
  | close s =>
    have o : s < 1000 := ok
    have h5 := numW_lenX o
    refine ⟨by show msr [("close" : Str), numW s] ≤ _; rw [one, one, nil, show ("close" : Str).length = 5 from rfl]; omega, fun v hv => ?_⟩
    have hv : v ∈ [("close" : Str), numW s] := hv
    simp only [List.mem_cons, List.not_mem_nil, or_false] at hv
    rcases hv with e | e <;> rw [e]
    · exact (by decide +kernel : ∀ c ∈ tl "close", c < 128)
    · exact lo_num s o
  | tell s t =>
    obtain ⟨o1, o2, o3, o4⟩ := ok
    have h5 := numW_lenX o1
    have h6 := msr_nums t o4
    have h7 := ht s t rfl
    refine ⟨by show msr (("tell" : Str) :: numW s :: t.map numW) ≤ _; rw [one, one, show ("tell" : Str).length = 4 from rfl]; omega, fun v hv => ?_⟩
    have hv : v ∈ ("tell" : Str) :: numW s :: t.map numW := hv
    rcases List.mem_cons.mp hv with e | hv
    · rw [e]
      exact (by decide +kernel : ∀ c ∈ tl "tell", c < 128)
    · rcases List.mem_cons.mp hv with e | hv
      · rw [e]
        exact lo_num s o1
      · obtain ⟨n, hn, rfl⟩ := List.mem_map.mp hv
        exact lo_num n (o4 n hn)
theorem rows_msr : ∀ ds : List Wd, (∀ d ∈ ds, WdS d) → msr (ds.map wdRow) ≤ 94 * ds.length
  | [], _ => Nat.le_refl _
  | d :: ds, h => by
    have h1 := rows_msr ds fun e he => h e (List.mem_cons_of_mem _ he)
    have h2 := (wds_msr (h d (List.mem_cons_self ..))).1
    have h3 := join_msr (y := " ") (by decide) (wdW d)
    rw [List.map_cons, show wdRow d :: ds.map wdRow = [wdRow d] ++ ds.map wdRow from rfl, msr_append, msr_one, List.length_cons]
    have h4 : (wdRow d).length ≤ msr (wdW d) := h3
    omega
theorem text_lo {ds : List Wd} (h : ∀ d ∈ ds, WdS d) : Lo (wdText ds) := Lo.join lo_nl fun r hr => by
  obtain ⟨d, hd, rfl⟩ := List.mem_map.mp hr
  exact Lo.join lo_sp (wds_msr (h d hd)).2
end K16

namespace K16
open PySem PySem.Spec PyProof.Rows L2 Sky
/-! ### what stays where tables of code objects grow, without a sky -/
/-- all but N and the tables is as it was -/
def KeepN (N : List Addr) (H H' : Hp) : Prop := ∀ b o, b ∉ N → H b = some o → (∀ ps, o ≠ .tbl ps) → H' b = some o
def Odd (u : HO) : Prop := (∃ ps, u = .tbl ps) ∨ ∃ φ, u = .ext φ
theorem KeepN.of_keep {N : List Addr} {H H' : Hp} (k : Keep N H H') : KeepN N H H' := fun b o n e _ => k b o n e
theorem KeepN.of_ext {H H' : Hp} (e : LamX.ExtN H H') : KeepN [] H H' := fun b o _ h n => e b o h n
theorem KeepN.mono {N M : List Addr} {H H' : Hp} (k : KeepN N H H') (s : ∀ a ∈ N, a ∈ M) : KeepN M H H' := fun b o n e t => k b o (fun z => n (s b z)) e t
theorem KeepN.trans {N : List Addr} {H H1 H2 : Hp} (a : KeepN N H H1) (b : KeepN N H1 H2) : KeepN N H H2 := fun c o n e t => b c o n (a c o n e t) t
theorem KeepN.ts {N : List Addr} {H H' : Hp} (k : KeepN N H H') (nt : ∀ a ∈ N, NoT H a) : TSm H H' := fun a xs e => k a _ (fun z => nt a z xs e) e (fun ps z => by cases z)
/-- tables and code objects stay -/
theorem tabs_stay {TS : List (Addr × Str)} {H H' : Hp} (tb : LamX.Tabs TS H) (k : ∀ b o, H b = some o → Odd o → H' b = some o) : LamX.Tabs TS H' := fun p hp => by
  obtain ⟨ps, h1, h2, h3⟩ := tb p hp
  refine ⟨ps, k _ _ h1 (.inl ⟨_, rfl⟩), h2, fun pos cv hc => ?_⟩
  obtain ⟨c, e1, e2⟩ := h3 pos cv hc
  exact ⟨c, e1, k _ _ e2 (.inr ⟨_, rfl⟩)⟩
theorem tabs_same {TS : List (Addr × Str)} {H H' : Hp} (tb : LamX.Tabs TS H) (s : Same H H') : LamX.Tabs TS H' := tabs_stay tb fun b o e _ => s b o e
theorem tabs_upd {TS : List (Addr × Str)} {H : Hp} {a : Addr} {u o : HO} (tb : LamX.Tabs TS H) (e : H a = some u) (n : ¬ Odd u) : LamX.Tabs TS (upd H a o) := tabs_stay tb fun b v eb od => by
  rw [upd_ne (show b ≠ a from fun z => n (by rw [z, e] at eb; cases eb; exact od))]
  exact eb
theorem tabs_draw {TS : List (Addr × Str)} {H H' : Hp} {p q : Addr} (tb : LamX.Tabs TS H) (h : HAt H p q) (kp : Keep [p, q] H H') : LamX.Tabs TS H' := tabs_stay tb fun b u e od => kp b u (fun z => by
  obtain ⟨m, k', ns, npq, hp, hq, r⟩ := h
  rcases List.mem_cons.mp z with z | z
  · rw [z, hp] at e; cases e; rcases od with ⟨_, q⟩ | ⟨_, q⟩ <;> cases q
  · rw [List.mem_singleton.mp z, hq] at e; cases e; rcases od with ⟨_, q⟩ | ⟨_, q⟩ <;> cases q) e
theorem lst_even {xs : List V} : ¬ Odd (.lst xs) := fun h => by rcases h with ⟨_, q⟩ | ⟨_, q⟩ <;> cases q
theorem HAt.elseN {H H' : Hp} {p q : Addr} {N : List Addr} (h : HAt H p q) (k : KeepN N H H') (n : p ∉ N) (n' : q ∉ N) : HAt H' p q := by
  obtain ⟨m, k', ns, npq, hp, hq, r⟩ := h
  exact ⟨m, k', ns, npq, k _ _ n hp nofun, k _ _ n' hq nofun, r⟩
end K16

namespace K16
open PySem PySem.Spec PyProof.Rows L2 Sky TL
theorem if_step {c : Bool} {σ : L2.St} {H : Hp} {Q : VK} {ta tb : TE} {α : Type} (F : Addr → α → Hp → Prop) (h1 : c = true → (∀ t x H5, F t x H5 → Q (.ref t) H5) → ta σ H Q) (h2 : ¬ c = true → (∀ t x H5, F t x H5 → Q (.ref t) H5) → tb σ H Q) (go : ∀ t x H5, F t x H5 → Q (.ref t) H5) : if c = true then ta σ H Q else tb σ H Q := ite2 (fun h => h1 h go) (fun h => h2 h go)
/-- how long a text may be behind i changes -/
def bd (i : Nat) : Nat := 1810 * 2 ^ i - 10
def someW : List Str := ["", "\n", "tell 0", "tell 0 1", "tell", "beat ", " beat", "beat 0", "close", "close 999", "hear down", "hear 0 0", "hear up 0", "lose down 1000", "settle\n", "twice up 00"]
theorem some_lo : ∀ w ∈ someW, w.length ≤ 20 ∧ ∀ c ∈ tl w, c < 128 := by decide +kernel
theorem DOk.upR : ∀ {n : Nat} {d : PyData}, DOk n d → DOk (n + 1) d
  | 0, d, h => .sc h
  | n + 1, d, h => by
    rcases h with h | ⟨ds, e, l, a⟩
    · exact .sc h
    · exact .inr ⟨ds, e, l, fun x hx => DOk.upR (a x hx)⟩
theorem dok6 {d : PyData} (h : DOk 3 d) : DOk 6 d := DOk.upR (DOk.upR (DOk.upR h))
section
variable {P : Program} {w : World} {K : PySem.W.Frag} {mg : Str → Option Value} {base : Heap}
def oneTS (T : Tx K mg) : List (Addr × Str) := [(T.p_law, lamQ "law")]
def sp_law (T : Tx K mg) : Sp := fun vs H Q _ => ∃ (a : Addr) (ns : List Int), vs = [.ref a] ∧ SqL K H a (ns.map V.int) ∧ ns.length ≤ 63 ∧ LamX.Tabs (oneTS T) H ∧ ∀ H', Q (.bl true) H'
/-- what stands all the way: what is drawn from, the table of the lambda, the odd texts -/
structure Lw (T : Tx K mg) (p q c : Addr) (H : Hp) : Prop where
  h : HAt H p q
  tb : LamX.Tabs (oneTS T) H
  s : H c = some (.lst (someW.map V.str))
  n : c ∉ [p, q]
theorem Lw.same {T : Tx K mg} {p q c : Addr} {H H' : Hp} (L : Lw T p q c H) (s : Same H H') : Lw T p q c H' := ⟨L.h.same s, tabs_same L.tb s, s _ _ L.s, L.n⟩
theorem Lw.draw {T : Tx K mg} {p q c : Addr} {H H' : Hp} (L : Lw T p q c H) (h : HAt H' p q) (k : Keep [p, q] H H') : Lw T p q c H' := ⟨h, tabs_draw L.tb L.h k, k _ _ L.n L.s, L.n⟩
theorem Lw.ext {T : Tx K mg} {p q c : Addr} {H H' : Hp} (L : Lw T p q c H) (e : LamX.ExtN H H') (tb : LamX.Tabs (oneTS T) H') : Lw T p q c H' := ⟨L.h.elseN (KeepN.of_ext e) (fun z => nomatch z) (fun z => nomatch z), tb, e _ _ L.s nofun, L.n⟩
theorem ok_law (T : Tx K mg) (hP : SupP P PySem.Challenge.pw_skyframes_k16_texts_refused.main.file) (TB : LamX.TabB base mg T.k_law T.p_law) : FnOk P w K mg base CX0 18 T.a_law T.d_law ["_law_script"] (sp_law T) := by
  have nd := sc_law.nd
  refine fun_okC T.F_law T.co_law sc_law (fun vs H Q E h => ?_) (fun A outer s H vs Q E hr h => ?_)
  · obtain ⟨_, _, rfl, _⟩ := h
    rfl
  · obtain ⟨sa, ns, rfl, hS, hlen, tb, fin⟩ := h
    refine ⟨_, (pss_cons (ps_set (i := 1) nd rfl (Or.inr rfl) (pe_call (ok_law_mix T) (hr.mono (by decide)) (by rfl) T.m_law_mix T.F_law_mix.kp T.b_law_mix .nil pass0 (pa_cons (pv 0) (pa_cons pe_int pa_nil)))) (pss_cons (ps_set (i := 2) nd rfl (Or.inl rfl) (pe_lst (pa_cons pe_str (pa_cons pe_str (pa_cons pe_str (pa_cons pe_str (pa_cons pe_str (pa_cons pe_str (pa_cons pe_str (pa_cons pe_str (pa_cons pe_str (pa_cons pe_str (pa_cons pe_str pa_nil))))))))))))) (pss_cons (ps_set (i := 2) nd rfl (Or.inl rfl) (pe_op op_cat (pv 2) (pe_lst (pa_cons pe_str (pa_cons pe_str (pa_cons pe_str (pa_cons pe_str (pa_cons pe_str pa_nil)))))))) (pss_cons (ps_for PassesOwn.never rfl (pi_range1 rfl T.z_range (pa_cons pe_int pa_nil)) (pg_name (i := 3) nd rfl (Or.inl rfl)) (pss_cons (ps_set (i := 4) nd rfl (Or.inl rfl) (pe_call (ok_written T) (hr.mono (by decide)) (by rfl) T.m_written T.F_written.kp T.b_written .nil pass0 (pa_cons (pe_lc (own := [("_law_k", 8)]) rfl nd (pi_range1 rfl T.z_range (pa_cons (pe_call (ok_law_next T) (hr.mono (by decide)) (by rfl) T.m_law_next T.F_law_next.kp T.b_law_next .nil pass0 (pa_cons (pv 1) (pa_cons pe_int pa_nil))) pa_nil)) (blkOk_by (own := [("_law_k", 8)]) (N := N_law) (sc := defScope s_law) (by decide +kernel)) (fun _ _ _ _ _ => (pg_name (i := 8) nd rfl (Or.inl rfl))) (fun _ _ _ _ _ => pts_nil) (fun _ _ _ _ _ => (pe_call (ok_law_step T) (hr.mono (by decide)) (by rfl) T.m_law_step T.F_law_step.kp T.b_law_step .nil pass0 (pa_cons (pv 1) pa_nil)))) pa_nil))) (pss_cons (ps_for PassesOwn.never rfl (pi_range1 rfl T.z_range (pa_cons (pe_call (ok_law_next T) (hr.mono (by decide)) (by rfl) T.m_law_next T.F_law_next.kp T.b_law_next .nil pass0 (pa_cons (pv 1) (pa_cons pe_int pa_nil))) pa_nil)) (pg_name (i := 5) nd rfl (Or.inl rfl)) (pss_one (ps_set (i := 4) nd rfl (Or.inl rfl) (pe_call (ok_law_spoilt T) (hr.mono (by decide)) (by rfl) T.m_law_spoilt T.F_law_spoilt.kp T.b_law_spoilt .nil pass0 (pa_cons (pv 1) (pa_cons (pv 4) pa_nil)))))) (pss_one (ps_for PassesOwn.never rfl (pi_list (pe_lst (pa_cons (pv 4) (pa_cons (pe_ix ix_list (pv 2) (pe_call (ok_law_next T) (hr.mono (by decide)) (by rfl) T.m_law_next T.F_law_next.kp T.b_law_next .nil pass0 (pa_cons (pv 1) (pa_cons pe_int pa_nil))) (fun _ _ => rfl)) pa_nil)))) (pg_name (i := 7) nd rfl (Or.inr rfl)) (pss_cons (ps_set (i := 6) nd rfl (Or.inl rfl) (pe_ifExp (pt_cmpR op_ne (pv 7) pe_str (nomark _)) (pe_lc (own := [("_law_row_here", 9)]) rfl nd (pi_list (pe_split (pv 7) pe_str)) (blkOk_by (own := [("_law_row_here", 9)]) (N := N_law) (sc := defScope s_law) (by decide +kernel)) (fun _ _ _ _ _ => (pg_name (i := 9) nd rfl (Or.inl rfl))) (fun _ _ _ _ _ => pts_nil) (fun _ _ _ _ _ => (pe_call (ok_law_row T) (hr.mono (by decide)) (by rfl) T.m_law_row T.F_law_row.kp T.b_law_row .nil pass0 (pa_cons (pv 9) pa_nil)))) (pe_lst pa_nil))) (pss_one (ps_if (pt_cmpR (op_inD (u65 hr)) pe_non (pv 6) rfl) (pss_one (ps_if (pt_cmpR (op_neD hr.units) (pe_kind T (k := 12) (TS := oneTS T) (by rfl) TB rfl (List.mem_singleton.mpr rfl) (fun q hq _ => congrArg (fun z : Addr × Str => z.2) (List.mem_singleton.mp hq)) (hr.mono (by decide)) (LamX.lamS_by (sc := defScope s_law) (by decide +kernel)) rfl (fun _ _ _ _ _ => rfl) (fun A1 outer1 s1 H1 E1 f1 c1 hrL => (pe_call (fn_or (ok_read T) (okx_read T hP)) (hrL.mono (by decide)) (by rfl) T.m_read T.F_read.kp T.b_read .nil (passes_call (takes_of rfl rfl rfl rfl) (fun _ _ _ _ h => h)) (pa_cons (pv 7) pa_nil)))) (pe_tup (pa_cons pe_str (pa_cons (pe_bm PySem.F.plainAttrs_list PySem.F.slot_list_index PySem.F.type_list_index (mt_indexD (u65 hr)) (pv 6) (pa_cons pe_non pa_nil)) pa_nil))) (nomark _)) (pss_one (ps_ret pe_bl)) pss_nil)) (pss_one (ps_if (pt_not (pt_val (pe_call (ok_law_alike T 7) (hr.mono (by decide)) (by rfl) T.m_law_alike T.F_law_alike.kp T.b_law_alike .nil pass0 (pa_cons (pe_call (ok_read T) (hr.mono (by decide)) (by rfl) T.m_read T.F_read.kp T.b_read .nil pass0 (pa_cons (pv 7) pa_nil)) (pa_cons (pv 6) pa_nil))))) (pss_one (ps_ret pe_bl)) pss_nil)))))))))) (pss_one (ps_ret pe_bl)))))), ?_⟩
    refine ⟨_, rfl, sa, ns, 59, rfl, hS, by decide, by decide, hlen, fun p q H1 hA1 _ _ k1 => ?_⟩
    have tb1 : LamX.Tabs (oneTS T) H1 := tabs_same tb k1
    refine ⟨(by decide : (11 : Nat) ≤ sizeLine), fun s1 n1 => ?_⟩
    refine ⟨_, rfl, (by decide : (5 : Nat) ≤ sizeLine), fun s2 n2 => ⟨s1, s2, _, _, rfl, rfl, same_new (Same.refl _) n2 _ _ upd_same, upd_same, (by decide : (16 : Nat) ≤ sizeLine), fun s3 n3 => ?_⟩⟩
    have nf3 := HAt.fresh ((hA1.new n1).new n2) n3
    have Lz := same_new (same_new (same_new (Same.refl H1) n1) n2) n3 (o := .lst (someW.map V.str))
    have L0 : Lw T p q s3 (upd (upd (upd H1 s1 (.lst (List.map V.str (someW.take 11)))) s2 (.lst (List.map V.str (someW.drop 11)))) s3 (.lst (someW.map V.str))) := ⟨hA1.same Lz, tabs_same tb1 Lz, upd_same, by simp [nf3.1, nf3.2]⟩
    refine ⟨5, rfl, by decide, by decide, ?_⟩
    refine for_range (lo := 0) (n := 5) (fun i σ H' => ∃ w3 w4 w5 w6 w7 w8 w9 : Option V, σ = [some (.ref sa), some (.ref p), some (.ref s3), w3, w4, w5, w6, w7, w8, w9] ∧ Lw T p q s3 H') ⟨_, _, _, _, _, _, _, rfl, L0⟩ ?_ ?_
    · clear L0 Lz n1 n2 n3 nf3 hA1 k1 tb1
      rintro i σ H2 hi ⟨w3, w4, w5, w6, w7, w8, w9, rfl, L2⟩
      refine ⟨_, rfl, p, q, 20, rfl, L2.h, by decide, by decide, fun many H3 m0 m1 hA3 k3 d3 => ?_⟩
      have L3 := L2.draw hA3 k3
      obtain ⟨m, rfl⟩ := Int.eq_ofNat_of_zero_le m0
      refine ⟨_, rfl, by omega, by omega, fun D hD => ?_⟩
      have nDf := L3.h.fresh hD
      refine lc_range (lo := 0) (n := m) (fun i H' => Lw T p q s3 H' ∧ ∃ (xs : List V) (as : List Wd), H' D = some (.lst xs) ∧ TDs H' xs (as.map wdD) ∧ (∀ a ∈ as, WdS a) ∧ as.length = i) ⟨L3.same (same_new (Same.refl _) hD), [], [], upd_same, .nil, (fun a h => nomatch h), rfl⟩ ?_ ?_
      · rintro i H7 hi ⟨L7, xs, as, hxs, txs, oks, hl⟩
        refine ⟨rfl, _, rfl, p, q, rfl, L7.h, fun t a H8 oka td hA8 k8 d8 => ?_⟩
        have L8 := L7.draw hA8 k8
        have hxs8 := k8 _ _ (by simp [nDf.1, nDf.2]) hxs
        have ts8 : TSm H7 H8 := k8.ts L7.h.noT
        have ts9 : TSm H8 (upd H8 D (.lst (xs ++ [.ref t]))) := ts_upd (TSm.refl _) (NoT.lst hxs8)
        have hxl : xs.length = i := by rw [txs.length, List.length_map, hl]
        refine ⟨xs, hxs8, lt_line (by omega), ⟨L8.h.ne nDf.1 nDf.2, tabs_upd L8.tb hxs8 lst_even, ?_, L8.n⟩, xs ++ [.ref t], as ++ [a], upd_same, ?_, fun b hb => ?_, by rw [List.length_append, hl]; rfl⟩
        · rw [upd_ne (fun z : s3 = D => by rw [← z] at hD; have := L3.s; rw [hD] at this; cases this)]
          exact L8.s
        · rw [List.map_append]
          exact (txs.mono (ts8.trans ts9)).app (.one (td.mono ts9))
        · rcases List.mem_append.mp hb with g | g
          · exact oks b g
          · rw [List.mem_singleton.mp g]; exact oka
      rintro H4 ⟨L4, us, ds, hus, tus, okd, hdl⟩
      have h93 := rows_msr ds okd
      have htl := join_msr (y := "\n") (by decide) (ds.map wdRow)
      have htl : (wdText ds).length ≤ msr (ds.map wdRow) := htl
      have hlo := text_lo okd
      refine ⟨D, us, ds, rfl, hus, tus, fun d hd => (okd d hd).1, by omega, fun H5 s5 => ?_⟩
      have L5 := L4.same s5
      have hlen : (wdText ds).length ≤ bd 0 := by show _ ≤ 1800; omega
      generalize wdText ds = x0 at *
      clear hus tus okd hdl h93 htl L2 L3 L4 s5 nDf hD k3 d3 hA3
      refine ⟨_, rfl, p, q, 4, rfl, L5.h, by decide, by decide, fun ch H6 c0 c1 hA6 k6 d6 => ?_⟩
      have L6 := L5.draw hA6 k6
      obtain ⟨ch, rfl⟩ := Int.eq_ofNat_of_zero_le c0
      refine ⟨_, rfl, by omega, by omega, ?_⟩
      refine for_range (lo := 0) (n := ch) (fun j σ H' => ∃ (x : Str) (v5 : Option V), σ = [some (.ref sa), some (.ref p), some (.ref s3), some (.int (0 + (i : Int))), some (.str x), v5, w6, w7, w8, w9] ∧ Lw T p q s3 H' ∧ x.length ≤ bd j ∧ Lo x) ⟨x0, _, rfl, L6, hlen, hlo⟩ ?_ ?_
      · rintro j σ H7 hj ⟨x, v5, rfl, L7, hx, lx⟩
        have b1 : bd j ≤ bd 2 := by
          have : j = 0 ∨ j = 1 ∨ j = 2 := by omega
          rcases this with rfl | rfl | rfl <;> decide
        have b2 : 2 * bd j + 10 = bd (j + 1) := by
          have : j = 0 ∨ j = 1 ∨ j = 2 := by omega
          rcases this with rfl | rfl | rfl <;> decide
        have b3 : bd 2 = 7230 := by decide
        refine ⟨_, rfl, _, rfl, p, q, x, rfl, L7.h, by omega, lx, fun y H8 hy ly hA8 k8 d8 => ?_⟩
        exact ⟨y, _, rfl, L7.draw hA8 k8, by omega, ly⟩
      rintro σ H7 ⟨x, v5, rfl, L7, hx, lx⟩
      have hx15 : x.length ≤ 15000 := by
        have : bd ch ≤ 15000 := by
          have : ch = 0 ∨ ch = 1 ∨ ch = 2 ∨ ch = 3 := by omega
          rcases this with rfl | rfl | rfl | rfl <;> decide
        omega
      clear hx hlen hlo L5 L6 k6 d6 hA6 c0 c1
      refine ⟨_, rfl, _, rfl, _, rfl, p, q, 16, rfl, L7.h, by decide, by decide, fun r H8 r0 r1 hA8 k8 d8 => ?_⟩
      have L8 := L7.draw hA8 k8
      obtain ⟨v, hv, y0, rfl, hy0⟩ := at_of (R := fun v => ∃ y : Str, v = .str y ∧ y ∈ someW) r0 (xs := someW.map V.str) r1 (fun v hv => by
        obtain ⟨w, hw, rfl⟩ := List.mem_map.mp hv
        exact ⟨w, rfl, hw⟩)
      obtain ⟨hy1, hy2⟩ := some_lo y0 hy0
      refine ⟨s3, _, _, _, rfl, rfl, SqL.of L8.s, hv, (by decide : (2 : Nat) ≤ sizeLine), fun F nF => ?_⟩
      refine ⟨F, rfl, ⟨_, SqL.of upd_same⟩, ?_⟩
      have hF : upd H8 F (.lst [.str x, .str y0]) F = some (.lst [.str x, .str y0]) := upd_same
      have L9 := L8.same (same_new (Same.refl _) nF (o := .lst [.str x, .str y0]))
      have nFf := L8.h.fresh nF
      refine for_list (K := K) (a := F) (xs := [.str x, .str y0]) (fun j σ H' => ∃ u6 u7 u9 : Option V, σ = [some (.ref sa), some (.ref p), some (.ref s3), some (.int (0 + (i : Int))), some (.str x), v5, u6, u7, w8, u9] ∧ Lw T p q s3 H' ∧ H' F = some (.lst [.str x, .str y0])) ⟨_, _, _, rfl, L9, hF⟩ (fun j σ H' _ ⟨_, _, _, _, _, h⟩ => SqL.of h) ?_ ?_
      · clear L9 L8 L7 hF k8 d8 hA8 hv r0 r1 nF
        rintro j v σ H9 hv ⟨u6, u7, u9, rfl, L9, hF⟩
        obtain ⟨y, rfl, hy15, ly⟩ : ∃ y : Str, v = .str y ∧ y.length ≤ 15000 ∧ Lo y := by
          have hv := List.mem_of_getElem? hv
          simp only [List.mem_cons, List.not_mem_nil, or_false] at hv
          rcases hv with rfl | rfl
          · exact ⟨x, rfl, hx15, lx⟩
          · exact ⟨y0, rfl, by omega, hy2⟩
        obtain ⟨rl, rw'⟩ := row_few hy15
        refine ⟨_, rfl, rfl, _, rfl, ?_⟩
        refine if_step (fun t (_ : Unit) H5 => ∃ ys, H5 t = some (.lst ys) ∧ TDs H5 ys (saysR y) ∧ Lw T p q s3 H5 ∧ H5 F = some (.lst [.str x, .str y0])) (fun h go => ?_) (fun h go => ?_) (fun t _ H5 ⟨ys, ht, tys, L5, hF5⟩ => ?_)
        · have ne : y ≠ "" := fun e => by
            rw [e] at h
            exact absurd h (by decide +kernel)
          have er : rowsR y = rowsOf y := if_neg ne
          refine ⟨_, rfl, ⟨_, rfl⟩, _, _, rfl, rfl, by decide, le_line (by omega), fun rp nrp => ?_⟩
          have L10 := L9.same (same_new (Same.refl _) nrp (o := .lst ((rowsOf y).map V.str)))
          have hF10 := same_new (Same.refl _) nrp (o := .lst ((rowsOf y).map V.str)) _ _ hF
          have hrp : upd H9 rp (.lst ((rowsOf y).map V.str)) rp = some (.lst ((rowsOf y).map V.str)) := upd_same
          refine ⟨rp, rfl, ⟨_, SqL.of hrp⟩, fun D hD => ?_⟩
          rw [er] at rl rw'
          refine lc_list (K := K) (a := rp) (xs := (rowsOf y).map V.str) (fun i H' => Same (upd H9 rp (.lst ((rowsOf y).map V.str))) H' ∧ ∃ ys, H' D = some (.lst ys) ∧ TDs H' ys (((rowsOf y).take i).map fun r => optWd (rowM r))) ⟨same_new (Same.refl _) hD, [], upd_same, .nil⟩ (fun i H' _ p => SqL.of (p.1 _ _ hrp)) ?_ ?_
          · rintro k v2 H11 hv2 ⟨s11, ys, hys, tys⟩
            obtain ⟨row, hrow, rfl⟩ := map_get hv2
            have hmem := List.mem_of_getElem? hrow
            have hk := (List.getElem?_eq_some_iff.mp hrow).1
            have lrow := (split_msr y (y := "\n") (by decide) (by decide +kernel)).2 ly row hmem
            refine ⟨rfl, _, rfl, row, rfl, rw' row hmem, (split_msr row (y := " ") (by decide) (by decide +kernel)).2 lrow, fun v3 H12 s12 tv => ?_⟩
            have hys12 := s12 _ _ hys
            have t13 : TSm H12 (upd H12 D (.lst (ys ++ [v3]))) := ts_upd (TSm.refl _) (NoT.lst hys12)
            have hyl : ys.length = k := by rw [tys.length, List.length_map, List.length_take]; omega
            refine ⟨ys, hys12, lt_line (by omega), same_mut (s11.trans s12) hD, ys ++ [v3], upd_same, ?_⟩
            rw [List.take_add_one, hrow, Option.toList_some, List.map_append]
            exact ((tys.mono (TSm.of_same s12)).mono t13).app (.one (tv.mono t13))
          · rintro H11 ⟨s11, ys, hys, tys⟩
            rw [List.length_map, List.take_length] at tys
            exact go D () _ ⟨ys, hys, by unfold saysR; rw [er]; exact tys, L10.same s11, s11 _ _ hF10⟩
        · have ey : y = "" := Classical.byContradiction fun z => h (by
            show (!decide (V.str y = V.str "")) = true
            rw [decide_eq_false (fun e => z (V.str.inj e))]
            rfl)
          have e0 : saysR y = [] := by rw [ey]; rfl
          refine ⟨Nat.zero_le _, fun t nt => go t () _ ⟨[], upd_same, by rw [e0]; exact .nil, L9.same (same_new (Same.refl _) nt), same_new (Same.refl _) nt _ _ hF⟩⟩
        · have sh := (says_lay hy15).shaped (by decide)
          have shn := Lay.none.shaped (by decide)
          clear L9 hF
          rcases first_none (rowsR y) with ⟨ds, hds⟩ | ⟨m, ds, row, g1, g2, g3⟩
          · obtain ⟨a1, a2, a3⟩ := says_well hds
            refine ⟨_, rfl, .none, saysR y, .non, .lst (SqL.of ht) tys.dp, shn, sh, false, congrArg V.bl a1, iteF ?_⟩
            refine ⟨_, rfl, y, ds, rfl, hy15, a3, fun r1 ys1 H6 s6 nr1 hr1 tys1 => ⟨_, rfl, .ref r1, .ref t, .list (saysR y), rfl, .lst (SqL.of hr1) (by rw [a2]; exact tys1.dp), .lst (SqL.of (s6 _ _ ht)) (tys.mono (TSm.of_same s6)).dp, dok6 (says_dok hy15), fun H7 s7 => ⟨true, rfl, iteF ?_⟩⟩⟩
            exact ⟨_, _, _, rfl, (L5.same s6).same s7, s7 _ _ (s6 _ _ hF5)⟩
          · obtain ⟨b1, b2, b3, b4, b5, b6⟩ := says_ill g1 g2 g3
            refine ⟨_, rfl, .none, saysR y, .non, .lst (SqL.of ht) tys.dp, shn, sh, true, congrArg V.bl b2, iteT ?_⟩
            refine ⟨L5.tb, fun H6 e6 tb6 => ?_⟩
            have L6 := L5.ext e6 tb6
            have ht6 := e6 _ _ ht nofun
            have hF6 := e6 _ _ hF5 nofun
            have ts6 : TSm H5 H6 := (KeepN.of_ext e6).ts (fun a h => nomatch h)
            have tys6 := tys.mono ts6
            clear L5 ht hF5 tys
            refine ⟨_, rfl, .inr ⟨y, m, ds, row, rfl, hy15, b1, b5, b6, g3, fun d H7 s7 nd hd => ⟨T.A_BadText, 3, rfl, by decide, T.kd_BadText, .inr ⟨d, _, rfl, hd⟩, ?_⟩⟩⟩
            rw [if_neg (by decide)]
            refine ⟨d, _, .int ((m : Nat) : Int), rfl, hd, rfl, fun tt H8 s8 nt htt => ?_⟩
            have s68 := s7.trans s8
            have L8 := L6.same s68
            have ht8 := s68 _ _ ht6
            have hF8 := s68 _ _ hF6
            have tys8 := tys6.mono (TSm.of_same s68)
            refine ⟨_, rfl, .inl ⟨rfl, _, SqL.of ht8⟩, t, .non, .none, saysR y, m, .none, rfl, rfl, .lst (SqL.of ht8) tys8.dp, .non, sh, shn, b3, rfl, b4, (by decide : (2 : Nat) ≤ sizeLine), fun t2 nt2 => ?_⟩
            have s9 := same_new (Same.refl H8) nt2 (o := .tup [.str "BadText", .int ((m : Nat) : Int)])
            have d1 : TD (upd H8 t2 (.tup [.str "BadText", .int ((m : Nat) : Int)])) (.ref tt) (.tuple [.str "BadText", .int ((m : Nat) : Int)]) := .tup (s9 _ _ htt) (.cons (.str _) (.cons (.int _) .nil))
            have d2 : TD (upd H8 t2 (.tup [.str "BadText", .int ((m : Nat) : Int)])) (.ref t2) (.tuple [.str "BadText", .int ((m : Nat) : Int)]) := .tup upd_same (.cons (.str _) (.cons (.int _) .nil))
            have ly : Lay 1 (.tuple [.str "BadText", .int ((m : Nat) : Int)]) := Lay.tuple (f := id) (k := 0) (xs := [PyData.str "BadText", .int ((m : Nat) : Int)]) fun x hx => by
              simp only [List.mem_cons, List.not_mem_nil, or_false] at hx
              rcases hx with e | e <;> rw [e]
              · exact Lay.wordR (by decide +kernel)
              · exact Lay.int _
            refine ⟨_, _, d1.dp, d2.dp, ly.shaped (by decide), ly.shaped (by decide), false, by rw [ly.refl]; rfl, iteF ?_⟩
            exact ⟨_, _, _, rfl, L8.same s9, s9 _ _ hF8⟩
      · rintro σ H9 ⟨u6, u7, u9, rfl, L9, hF⟩
        exact ⟨_, _, _, _, _, _, _, rfl, L9⟩
    · rintro σ H2 ⟨w3, w4, w5, w6, w7, w8, w9, rfl, L2⟩
      exact fin _
theorem law_starts (T : Tx K mg) {kp : Addr × Addr} (link : (T.k_law, T.p_law) = kp) {a : Addr} {H : Hp} {ns : List Int} (hl : ns.length ≤ 63) (hT : ∀ p ∈ [kp], H p.2 = some (.tbl #[])) (hS : SqL K H a (ns.map V.int)) : sp_law T [.ref a] H (fun v _ => v = .bl true) fun _ _ _ => False := by
  subst link
  refine ⟨a, ns, rfl, hS, hl, fun q hq => ?_, fun _ => rfl⟩
  rw [List.mem_singleton.mp hq]
  exact LamX.TabS.nil (hT _ (List.mem_singleton.mpr rfl))
theorem law_keeps (T : Tx K mg) (hP : SupP P PySem.Challenge.pw_skyframes_k16_texts_refused.main.file) {kp : Addr × Addr} (link : (T.k_law, T.p_law) = kp) (TB : ∀ p ∈ [kp], LamX.TabB base mg p.1 p.2) : FnOk P w K mg base CX0 18 T.a_law T.d_law ["_law_script"] (sp_law T) := by
  subst link
  exact ok_law T hP (TB _ (List.mem_singleton.mpr rfl))
end
end K16

namespace K16
open PySem PySem.Spec PyProof.Rows L2 Sky
theorem tx_of {K : PySem.W.Frag} {h : Heap} {mg : Str → Option Value} {w : World} (X : K.In h) (G : h.Ns mainGlobals mg) (c : He.SaysX hFa hFn [] hTf hEx w h K) : ∃ T : Tx K mg, (Tx.k_law T, Tx.p_law T) = He.cT K ("law", none) := by
  have cf : ∀ (i : Nat) (f : He.Fa), hFa[i]? = some f → f.ok K = true := fun i f e => c.t.d.fact i e
  obtain ⟨d_written, D_written⟩ := c.t.d.def_ 0 rfl
  obtain ⟨d_read, D_read⟩ := c.t.d.def_ 1 rfl
  obtain ⟨d_row_of, D_row_of⟩ := c.t.d.def_ 2 rfl
  obtain ⟨d_step_of, D_step_of⟩ := c.t.d.def_ 3 rfl
  obtain ⟨d_is_written_number, D_is_written_number⟩ := c.t.d.def_ 4 rfl
  obtain ⟨d_law_mix, D_law_mix⟩ := c.t.d.def_ 5 rfl
  obtain ⟨d_law_next, D_law_next⟩ := c.t.d.def_ 6 rfl
  obtain ⟨d_law_alike, D_law_alike⟩ := c.t.d.def_ 7 rfl
  obtain ⟨d_law_data, D_law_data⟩ := c.t.d.def_ 8 rfl
  obtain ⟨d_law_step, D_law_step⟩ := c.t.d.def_ 9 rfl
  obtain ⟨d_law_kind, D_law_kind⟩ := c.t.d.def_ 10 rfl
  obtain ⟨d_law_figures, D_law_figures⟩ := c.t.d.def_ 11 rfl
  obtain ⟨d_law_row, D_law_row⟩ := c.t.d.def_ 12 rfl
  obtain ⟨d_law_spoilt, D_law_spoilt⟩ := c.t.d.def_ 13 rfl
  obtain ⟨d_law, D_law⟩ := c.t.d.def_ 14 rfl
  have u_BARE := allB c.more 0 rfl
  have u_LETTERS := allB c.more 1 rfl
  have u_WAYS := allB c.more 2 rfl
  obtain ⟨t_MOST_FIGURES, i_MOST_FIGURES⟩ := He.int_ok X G (cf 30 _ rfl)
  obtain ⟨d_BadText, S_BadText⟩ := supB_ok (p1 := "line") (allB c.more 3 rfl) (He.glo_ok X G (cf 34 _ rfl)) (fun _ _ _ _ _ _ _ us hl => match us, hl with | [_, _], _ => rfl)
  have v_BadText := allB c.more 4 rfl
  exact ⟨{
    a_written := He.fAd K ("written", none)
    d_written := d_written
    F_written := fun_ofD (st := s_written) D_written
    b_written := (fun_ofD (st := s_written) D_written).binds (ps := ["steps"]) fun _ _ _ _ _ _ us hl => match us, hl with | [_], _ => rfl
    m_written := He.glo_ok X G (cf 0 _ rfl)
    a_read := He.fAd K ("read", none)
    d_read := d_read
    F_read := fun_ofD (st := s_read) D_read
    b_read := (fun_ofD (st := s_read) D_read).binds (ps := ["text"]) fun _ _ _ _ _ _ us hl => match us, hl with | [_], _ => rfl
    m_read := He.glo_ok X G (cf 1 _ rfl)
    a_row_of := He.fAd K ("_row_of", none)
    d_row_of := d_row_of
    F_row_of := fun_ofD (st := s_row_of) D_row_of
    b_row_of := (fun_ofD (st := s_row_of) D_row_of).binds (ps := ["step"]) fun _ _ _ _ _ _ us hl => match us, hl with | [_], _ => rfl
    m_row_of := He.glo_ok X G (cf 2 _ rfl)
    a_step_of := He.fAd K ("_step_of", none)
    d_step_of := d_step_of
    F_step_of := fun_ofD (st := s_step_of) D_step_of
    b_step_of := (fun_ofD (st := s_step_of) D_step_of).binds (ps := ["words"]) fun _ _ _ _ _ _ us hl => match us, hl with | [_], _ => rfl
    m_step_of := He.glo_ok X G (cf 3 _ rfl)
    a_is_written_number := He.fAd K ("_is_written_number", none)
    d_is_written_number := d_is_written_number
    F_is_written_number := fun_ofD (st := s_is_written_number) D_is_written_number
    b_is_written_number := (fun_ofD (st := s_is_written_number) D_is_written_number).binds (ps := ["figures"]) fun _ _ _ _ _ _ us hl => match us, hl with | [_], _ => rfl
    m_is_written_number := He.glo_ok X G (cf 4 _ rfl)
    a_law_mix := He.fAd K ("_law_mix", none)
    d_law_mix := d_law_mix
    F_law_mix := fun_ofD (st := s_law_mix) D_law_mix
    b_law_mix := (fun_ofD (st := s_law_mix) D_law_mix).binds (ps := ["_law_script", "_law_seed"]) fun _ _ _ _ _ _ us hl => match us, hl with | [_, _], _ => rfl
    m_law_mix := He.glo_ok X G (cf 5 _ rfl)
    a_law_next := He.fAd K ("_law_next", none)
    d_law_next := d_law_next
    F_law_next := fun_ofD (st := s_law_next) D_law_next
    b_law_next := (fun_ofD (st := s_law_next) D_law_next).binds (ps := ["_law_h", "_law_many"]) fun _ _ _ _ _ _ us hl => match us, hl with | [_, _], _ => rfl
    m_law_next := He.glo_ok X G (cf 6 _ rfl)
    a_law_alike := He.fAd K ("_law_alike", none)
    d_law_alike := d_law_alike
    F_law_alike := fun_ofD (st := s_law_alike) D_law_alike
    b_law_alike := (fun_ofD (st := s_law_alike) D_law_alike).binds (ps := ["_law_found", "_law_due"]) fun _ _ _ _ _ _ us hl => match us, hl with | [_, _], _ => rfl
    m_law_alike := He.glo_ok X G (cf 7 _ rfl)
    a_law_data := He.fAd K ("_law_data", none)
    d_law_data := d_law_data
    F_law_data := fun_ofD (st := s_law_data) D_law_data
    b_law_data := (fun_ofD (st := s_law_data) D_law_data).binds (ps := ["_law_h"]) fun _ _ _ _ _ _ us hl => match us, hl with | [_], _ => rfl
    m_law_data := He.glo_ok X G (cf 8 _ rfl)
    a_law_step := He.fAd K ("_law_step", none)
    d_law_step := d_law_step
    F_law_step := fun_ofD (st := s_law_step) D_law_step
    b_law_step := (fun_ofD (st := s_law_step) D_law_step).binds (ps := ["_law_h"]) fun _ _ _ _ _ _ us hl => match us, hl with | [_], _ => rfl
    m_law_step := He.glo_ok X G (cf 9 _ rfl)
    a_law_kind := He.fAd K ("_law_kind", none)
    d_law_kind := d_law_kind
    F_law_kind := fun_ofD (st := s_law_kind) D_law_kind
    b_law_kind := (fun_ofD (st := s_law_kind) D_law_kind).binds (ps := ["_law_work"]) fun _ _ _ _ _ _ us hl => match us, hl with | [_], _ => rfl
    m_law_kind := He.glo_ok X G (cf 10 _ rfl)
    a_law_figures := He.fAd K ("_law_figures", none)
    d_law_figures := d_law_figures
    F_law_figures := fun_ofD (st := s_law_figures) D_law_figures
    b_law_figures := (fun_ofD (st := s_law_figures) D_law_figures).binds (ps := ["_law_word"]) fun _ _ _ _ _ _ us hl => match us, hl with | [_], _ => rfl
    m_law_figures := He.glo_ok X G (cf 11 _ rfl)
    a_law_row := He.fAd K ("_law_row", none)
    d_law_row := d_law_row
    F_law_row := fun_ofD (st := s_law_row) D_law_row
    b_law_row := (fun_ofD (st := s_law_row) D_law_row).binds (ps := ["_law_row_here"]) fun _ _ _ _ _ _ us hl => match us, hl with | [_], _ => rfl
    m_law_row := He.glo_ok X G (cf 12 _ rfl)
    a_law_spoilt := He.fAd K ("_law_spoilt", none)
    d_law_spoilt := d_law_spoilt
    F_law_spoilt := fun_ofD (st := s_law_spoilt) D_law_spoilt
    b_law_spoilt := (fun_ofD (st := s_law_spoilt) D_law_spoilt).binds (ps := ["_law_h", "_law_text"]) fun _ _ _ _ _ _ us hl => match us, hl with | [_, _], _ => rfl
    m_law_spoilt := He.glo_ok X G (cf 13 _ rfl)
    a_law := He.fAd K ("law", none)
    d_law := d_law
    F_law := fun_ofD (st := s_law) D_law
    b_law := (fun_ofD (st := s_law) D_law).binds (ps := ["_law_script"]) fun _ _ _ _ _ _ us hl => match us, hl with | [_], _ => rfl
    m_law := He.glo_ok X G (cf 14 _ rfl)
    z_ValueError := He.free_ok X G (cf 15 _ rfl)
    z_all := He.free_ok X G (cf 16 _ rfl)
    z_bool := He.free_ok X G (cf 17 _ rfl)
    z_enumerate := He.free_ok X G (cf 18 _ rfl)
    z_int := He.free_ok X G (cf 19 _ rfl)
    z_isinstance := He.free_ok X G (cf 20 _ rfl)
    z_len := He.free_ok X G (cf 21 _ rfl)
    z_list := He.free_ok X G (cf 22 _ rfl)
    z_max := He.free_ok X G (cf 23 _ rfl)
    z_range := He.free_ok X G (cf 24 _ rfl)
    z_str := He.free_ok X G (cf 25 _ rfl)
    z_tuple := He.free_ok X G (cf 26 _ rfl)
    A_BARE := He.ga K "BARE"
    c_BARE := He.glo_ok X G (cf 27 _ rfl)
    q_BARE := fun H => He.tupB_ok u_BARE H
    A_LETTERS := He.ga K "LETTERS"
    c_LETTERS := He.glo_ok X G (cf 28 _ rfl)
    q_LETTERS := fun H => He.tupB_ok u_LETTERS H
    A_WAYS := He.ga K "WAYS"
    c_WAYS := He.glo_ok X G (cf 29 _ rfl)
    q_WAYS := fun H => He.tupB_ok u_WAYS H
    t_MOST_FIGURES := t_MOST_FIGURES
    c_MOST_FIGURES := i_MOST_FIGURES
    A_BadFrames := He.ga K "BadFrames"
    g_BadFrames := He.glo_ok X G (cf 31 _ rfl)
    A_BadMarks := He.ga K "BadMarks"
    g_BadMarks := He.glo_ok X G (cf 32 _ rfl)
    A_BadLog := He.ga K "BadLog"
    g_BadLog := He.glo_ok X G (cf 33 _ rfl)
    A_BadText := He.ga K "BadText"
    g_BadText := He.glo_ok X G (cf 34 _ rfl)
    A_BadSize := He.ga K "BadSize"
    g_BadSize := He.glo_ok X G (cf 35 _ rfl)
    A_BadRoom := He.ga K "BadRoom"
    g_BadRoom := He.glo_ok X G (cf 36 _ rfl)
    A_BadStream := He.ga K "BadStream"
    g_BadStream := He.glo_ok X G (cf 37 _ rfl)
    A_BadData := He.ga K "BadData"
    g_BadData := He.glo_ok X G (cf 38 _ rfl)
    A_BadFrame := He.ga K "BadFrame"
    g_BadFrame := He.glo_ok X G (cf 39 _ rfl)
    A_BadPlan := He.ga K "BadPlan"
    g_BadPlan := He.glo_ok X G (cf 40 _ rfl)
    A_SkyError := He.ga K "SkyError"
    g_SkyError := He.glo_ok X G (cf 41 _ rfl)
    f_BadText := initAt K (He.ga K "BadText")
    d_BadText := d_BadText
    S_BadText := S_BadText
    x_BadText := He.exm_ok (cf 42 _ rfl)
    kd_BadText := kindB_ok v_BadText
    z_super := He.free_ok X G (cf 43 _ rfl)
    k_law := He.codeOf K ("law", none)
    p_law := He.tabOf K (He.codeOf K ("law", none))
    co_law := code_ofD D_law }, rfl⟩
theorem law_at {l : PySem.W.OpenLaw} {w : World} {K : PySem.W.Frag} {h : Heap} {mg : Str → Option Value} {fa : Addr} (X : K.In h) (G : h.Ns mainGlobals mg) (hfa : mg "law" = some (.ref fa)) (c : He.SaysX hFa hFn [] hTf hEx w h K) (hP : SupP l.prog PySem.Challenge.pw_skyframes_k16_texts_refused.main.file) : LamX.LawAtS l w K CX0 18 63 "_law_script" mg fa h := by
  obtain ⟨T, link⟩ := tx_of X G c
  have e := hfa.symm.trans T.m_law
  cases e
  have ef := T.F_law.ex
  obtain ⟨oc, od, kV, doc, pm, an, cdv, ct, osl, efd, lk, hcd⟩ := ef
  refine ⟨T.d_law, hTf.map (He.cT K), sp_law T, fun p hp => ?_, fun p hp => ?_, fun p hp => ?_, fun s v => by rw [efd]; exact .of_eq rfl, fun H a ns hl _ hT hS => ?_, fun base _ _ TB => ?_⟩
  · obtain ⟨q, hq, rfl⟩ := List.mem_map.mp hp
    exact c.empty q hq
  · obtain ⟨q, hq, rfl⟩ := List.mem_map.mp hp
    exact c.out q hq
  · obtain ⟨q, hq, rfl⟩ := List.mem_map.mp hp
    exact PySem.W.codeHd_of_K X (c.hd q hq)
  · exact law_starts T link hl hT hS
  · exact law_keeps T hP link TB
end K16
open PySem PySem.W PySem.Calls PyProof.Rows in
set_option maxRecDepth 100000 in
set_option maxHeartbeats 0 in
theorem PySem.Challenge.cw_skyframes_k16_texts_refused_holds : PySem.Challenge.rw_skyframes_k16_texts_refused.Holds := by
  w_on; o_law
  refine HandSHeadRun.head_any (r := OpenLaw.row PySem.Challenge.rw_skyframes_k16_texts_refused) (q := view (OpenLaw.row PySem.Challenge.rw_skyframes_k16_texts_refused).prog [32]) (H := K16.hHk) (ob := K16.hOb) (M := 20000) (loose := K16.hNms) (d := HandSHeadRun.topDef (OpenLaw.row PySem.Challenge.rw_skyframes_k16_texts_refused).prog 32) (kwd := []) K16.hOb_eq
    (by kernel_rfl) (fun s => by kernel_rfl) K16.hRun (by kernel_rfl) (by kernel_rfl) (by kernel_rfl) (by rfl) (by first | assumption | decide +kernel) (by decide +kernel) ⟨rfl, rfl, rfl, rfl, rfl, by decide +kernel⟩ ?hw ?hc
  case hw => w_witness2
  case hc =>
    refine LamX.walk_ofTsE (l := PySem.Challenge.rw_skyframes_k16_texts_refused) (n := 63) (k := 18) (x := "_law_script") (CX := fun _ => L2.CX0) rfl (by decide) (by kernel_rfl) ⟨rfl, by decide, by decide⟩ ?F (fun _ _ _ _ _ z => z)
    intro w mg fa h Y G hmg0
    obtain ⟨K, KX, c⟩ := Y
    have hmg : mg ("law" : PySem.Str) = some (.ref fa) := by
      have e : (HandSHeadRun.topDef (OpenLaw.row PySem.Challenge.rw_skyframes_k16_texts_refused).prog 32).name = ("law" : PySem.Str) := by kernel_rfl
      rw [← e]
      exact hmg0
    exact ⟨K, KX, K16.law_at KX G hmg c ⟨by kernel_rfl, by kernel_rfl⟩⟩

