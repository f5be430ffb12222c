import PyProof.Rows.All
import Wide.All
import OpenK.AllK
import Wide.FinOn
import HandS.ForMost
import HandS.IsInst
import HandS.ExcInit
import HandS.FStr
import KE.KExcInit
import KE.KExcIs
import HandS.TryMany
import HandS.ExcField
import KE.DataEq
import HandS.TupAny
import HandS.DictComp
import HandS.More
import HandS.Style
import HandS.Zip
import HandS.Walk
import HandS.TupMul
import HandS.WordsDict
import HandS.WordsExc
import HandS.Conv
import HandS.ListItems
import HandS.TupLe
import PySem.Challenge.RW_shapeguess_k10_signatures_made
set_option Elab.async false
set_option linter.all false
set_option maxRecDepth 100000
set_option maxHeartbeats 4000000
/-! Ver, 1: an empty dict is no text; plain data of the call's own heap, shown and compared -/
namespace Ver
open PySem PySem.SeqAt
section
variable {A : Around} {s : Shared}
/-- a dict declines to be a text -/
theorem dict_no_text (l : Addr) (o : Obj) (hc : o.cls = .type "dict") (b : Str) (u : Tok) :
    Meets (Builtin.«dict.__eq__» ⟨[.ref l, .str b u], []⟩) (fun _ R s => s.heap.get? l = some o ∧ R (.ok (.ret .notImplemented)) s) :=
  .of_wp fun prog w A R s h => by
    obtain ⟨hp, g, d, tk, os⟩ := s
    obtain ⟨hl, h⟩ := h
    have f1 := F.sub_str_dict
    obtain ⟨c, dd, dt, sl⟩ := o
    subst hc
    wp_walk using AutoSeq1.wpAny_loadPart' hl, wpAny_load hl
    exact ⟨_, rfl, h⟩
/-- a text declines to be a dict -/
theorem text_no_dict (l : Addr) (o : Obj) (es : Array DictEntry) (n : Nat) (hc : o.cls = .type "dict") (hd : o.data = .dict es n) (b : Str) (u : Tok) :
    Meets (Builtin.«str.__eq__» ⟨[.str b u, .ref l], []⟩) (fun _ R s => s.heap.get? l = some o ∧ R (.ok (.ret .notImplemented)) s) :=
  .of_wp fun prog w A R s h => by
    obtain ⟨hp, g, d, tk, os⟩ := s
    obtain ⟨hl, h⟩ := h
    obtain ⟨c, dd, dt, sl⟩ := o
    simp only at hc hd
    subst hc hd
    wp_walk using AutoSeq1.wpAny_loadPart' hl, wpAny_load hl
    exact ⟨_, rfl, h⟩
theorem rc_dict_text {l : Addr} {o : Obj} {es : Array DictEntry} {n : Nat} (ho : s.heap.get? l = some o) (hc : o.cls = .type "dict") (hd : o.data = .dict es n) (b : Str) (u : Tok) (hu : A.units < cLine) :
    RcAt A s (.ref l) (.str b u) false := fun prog w E Q h =>
  rc_eq_decline_or (k := false) ⟨_, ho, hc⟩ (typeIs_str s b u) (by decide) F.sub_str_dict F.slot_dict_eq F.slot_str_eq_refl
    (fun _ hq => call_meets F.slot_dict_eq ⟨_, ho, hc⟩ F.entry_dict_eq (F.args_dict_eq_2 _ _) (dict_no_text l o hc b u) ⟨ho, hq⟩)
    (fun _ hq => call_meets F.slot_str_eq_refl (typeIs_str s b u) F.entry_str_eq (F.args_str_eq_2 _ _) (text_no_dict l o es n hc hd b u) ⟨ho, hq⟩)
    (fun _ hq => wpAny_of_eq (rfl : isSame (.ref l) (.str b u) = pure false) hq) (.inr hu) h
theorem eq_dict_text {l : Addr} {o : Obj} {es : Array DictEntry} {n : Nat} (ho : s.heap.get? l = some o) (hc : o.cls = .type "dict") (hd : o.data = .dict es n) (b : Str) (u : Tok) (hu : A.units < cLine) :
    EqAt A s (.ref l) (.str b u) false := fun prog w E Q h => by
  unfold eqBool
  refine wpAny_holding (wpAny_ite_split (fun z => absurd (eq_of_beq z) nofun) fun _ => ?_)
  exact wpAny_bind (rc_dict_text ho hc hd b u hu prog w E _ (wpAny_truthy_bool h))
end
end Ver
/-! Ver, 2: plain data (Da), its text, its equality with texts and tuples of texts -/
namespace Ver
open PySem PySem.Spec PyProof.Rows L2
open PySem.SeqAt (EqAt RcAt)
mutual
/-- x is the plain datum d in the heap H; no address that N names has a part in it -/
inductive Da (N : Addr → Prop) (H : Hp) : V → PyData → Prop
  | non : Da N H .non .none
  | bl (b : Bool) : Da N H (.bl b) (.bool b)
  | int (i : Int) : Da N H (.int i) (.int i)
  | str (x : Str) : Da N H (.str x) (.str x)
  | lst {a : Addr} {xs : List V} {ds : List PyData} : H a = some (.lst xs) → ¬ N a → a ≠ sysModules → Das N H xs ds → Da N H (.ref a) (.list ds)
  | tup {a : Addr} {xs : List V} {ds : List PyData} : H a = some (.tup xs) → ¬ N a → Das N H xs ds → Da N H (.ref a) (.tuple ds)
  | emp {a : Addr} : H a = some (.dK []) → ¬ N a → Da N H (.ref a) (.dict [])
inductive Das (N : Addr → Prop) (H : Hp) : List V → List PyData → Prop
  | nil : Das N H [] []
  | cons {v : V} {vs : List V} {d : PyData} {ds : List PyData} : Da N H v d → Das N H vs ds → Das N H (v :: vs) (d :: ds)
end
/-- all but what N names is as it was -/
def Keep (N : Addr → Prop) (H H' : Hp) : Prop := ∀ b o, H b = some o → ¬ N b → H' b = some o
theorem Keep.refl {N : Addr → Prop} {H : Hp} : Keep N H H := fun _ _ h _ => h
theorem Keep.trans {N : Addr → Prop} {H H1 H2 : Hp} (a : Keep N H H1) (b : Keep N H1 H2) : Keep N H H2 := fun c o h n => b c o (a c o h n) n
theorem Same.keep {N : Addr → Prop} {H H' : Hp} (e : Same H H') : Keep N H H' := fun b o h _ => e b o h
theorem same_new {H : Hp} {p : Addr} {o : HO} (h : H p = none) : Same H (upd H p o) := fun b x e => by
  rw [upd_ne (ne_of_none e h)]
  exact e
mutual
theorem Da.keep {N : Addr → Prop} {H H' : Hp} (k : Keep N H H') : ∀ {v : V} {d : PyData}, Da N H v d → Da N H' v d
  | _, _, .non => .non
  | _, _, .bl b => .bl b
  | _, _, .int i => .int i
  | _, _, .str x => .str x
  | _, _, .lst e n z q => .lst (k _ _ e n) n z (Das.keep k q)
  | _, _, .tup e n q => .tup (k _ _ e n) n (Das.keep k q)
  | _, _, .emp e n => .emp (k _ _ e n) n
theorem Das.keep {N : Addr → Prop} {H H' : Hp} (k : Keep N H H') : ∀ {vs : List V} {ds : List PyData}, Das N H vs ds → Das N H' vs ds
  | _, _, .nil => .nil
  | _, _, .cons h t => .cons (Da.keep k h) (Das.keep k t)
end
theorem Das.length {N : Addr → Prop} {H : Hp} : ∀ {vs : List V} {ds : List PyData}, Das N H vs ds → vs.length = ds.length
  | _, _, .nil => rfl
  | _, _, .cons _ t => congrArg (· + 1) (Das.length t)
theorem Das.get {N : Addr → Prop} {H : Hp} : ∀ {vs : List V} {ds : List PyData} {i : Nat} {d : PyData}, Das N H vs ds → ds[i]? = some d → ∃ v, vs[i]? = some v ∧ Da N H v d
  | _, _, _, _, .nil, e => by simp at e
  | _, _, 0, _, .cons h _, e => by
    simp at e
    subst e
    exact ⟨_, rfl, h⟩
  | _, _, i + 1, _, .cons _ t, e => by
    obtain ⟨v, h1, h2⟩ := Das.get (i := i) t (by simpa using e)
    exact ⟨v, by simpa using h1, h2⟩

/-- an empty dict of ours, as the library reads it; it is not sys.modules -/
theorem reads_emp {P : Program} {w : World} {H : Hp} {s : Shared} {a : Addr} (hok : HOk P w H s.heap) (e : H a = some (.dK [])) :
    ∃ (o : Obj) (es : Array DictEntry) (n : Nat), s.heap.get? a = some o ∧ o.cls = .type "dict" ∧ o.data = .dict es n ∧ es.toList = [] ∧ a ≠ sysModules := by
  obtain ⟨_, ns, vs, rel, o, es, ep, ho, hx, hd, _, hp, _⟩ := hok a _ e
  cases rel
  refine ⟨o, es, ep, ho, hx.1, hd, ?_, fun z => by rw [z] at ns; simp at ns⟩
  generalize es.toList = l at hp
  cases hp
  rfl
section
variable {X : Cx} {pins : List (Addr × Obj)} {σ : L2.St} {H : Hp} {s : Shared} {N : Addr → Prop}
mutual
theorem Da.reads (I : Inv X pins σ H s) : ∀ {v : V} {d : PyData} {u : Value}, Da N H v d → RelV v u → ∃ as, Reads s.heap u d as ∧ sysModules ∉ as
  | _, _, _, .non, r => by
    cases r
    exact ⟨[], .none, by simp⟩
  | _, _, _, .bl b, r => by
    cases r
    exact ⟨[], .bool b, by simp⟩
  | _, _, _, .int i, r => by
    obtain ⟨t, rfl⟩ := r
    exact ⟨[], .int i t, by simp⟩
  | _, _, _, .str x, r => by
    obtain ⟨t, rfl⟩ := r
    exact ⟨[], .str x t, by simp⟩
  | _, _, _, .lst e n z q, r => by
    cases r
    obtain ⟨its, rv, ⟨o, m, ho, hc, _, hd⟩, _⟩ := I.list (SqL.of e)
    obtain ⟨as, h1, h2⟩ := Das.reads I q rv
    exact ⟨_, .list ho hc hd h1, fun hm => (List.mem_cons.mp hm).elim (fun e => z e.symm) h2⟩
  | _, _, _, .tup e n q, r => by
    cases r
    obtain ⟨its, rv, ⟨o, ho, hc, m, hd⟩, _⟩ := I.tuple (SqT.of e)
    obtain ⟨as, h1, h2⟩ := Das.reads I q rv
    exact ⟨_, .tuple ho hc hd h1, h2⟩
  | _, _, _, .emp e n, r => by
    cases r
    obtain ⟨o, es, m, ho, hc, hd, hz, ns⟩ := reads_emp I.hok e
    exact ⟨_, .dict ho hc hd (by rw [hz]; exact .nil) (by rw [hz]; exact .nil), fun hm => by
      rcases List.mem_cons.mp hm with e | e
      · exact ns e.symm
      · simp at e⟩
theorem Das.reads (I : Inv X pins σ H s) : ∀ {vs : List V} {ds : List PyData} {us : List Value}, Das N H vs ds → Vals vs us → ∃ as, ReadsAll s.heap us ds as ∧ sysModules ∉ as
  | _, _, _, .nil, r => by
    cases r
    exact ⟨[], .nil, by simp⟩
  | _, _, _, .cons h t, r => by
    cases r with
    | cons r1 r2 =>
      obtain ⟨as, h1, h2⟩ := Da.reads I h r1
      obtain ⟨bs, h3, h4⟩ := Das.reads I t r2
      exact ⟨_, .cons h1 h3, fun hm => (List.mem_append.mp hm).elim h2 h4⟩
end
/-- what can be shown: its text is at most n signs long, it is at most k deep -/
structure Fit (n k : Nat) (d : PyData) : Prop where
  ok : d.showable = true
  len : d.shown.length ≤ n
  dep : d.depth ≤ k
/-- repr(x), x plain data -/
theorem call_reprD {n k : Nat} (hg : X.A.guards = some []) (hu : X.A.units + (k + 1) < cLine) (hn : n ≤ sizeLine) :
    CallR X (.builtin "repr") (fun xs H Q => ∃ v d, xs = [v] ∧ Da N H v d ∧ Fit n k d ∧ Q (.str d.shown) H) := by
  intro pins s σ H xs us Q I r h
  obtain ⟨v, d, rfl, hv, ⟨f1, f2, f3⟩, q⟩ := h
  obtain ⟨u, rfl, ru⟩ := vals1 r
  obtain ⟨as, hr, hs⟩ := hv.reads I ru
  have hz : d.shown.length ≤ sizeLine := Nat.le_trans f2 hn
  cases hv with
  | non =>
    cases ru
    exact PySem.P.repr_of_none ⟨.str _, H, I.tok _, ⟨_, rfl⟩, q⟩
  | bl b =>
    cases ru
    exact PySem.P.repr_of_bool ⟨.str _, H, I.tok _, ⟨_, rfl⟩, by cases b <;> exact q⟩
  | int i =>
    obtain ⟨t, rfl⟩ := ru
    exact PySem.P.repr_of_int (by simpa [PyData.showable] using f1) ⟨.str _, H, I.tok _, ⟨_, rfl⟩, q⟩
  | str x =>
    obtain ⟨t, rfl⟩ := ru
    exact PySem.P.repr_of_str ⟨.str _, H, I.tok _, ⟨_, rfl⟩, q⟩ hz
  | lst e _ _ _ =>
    cases ru
    exact repr_of_reads' hr f1 (fun _ => hs) hg (by omega) (fun _ _ e => e) (fun h' t tk kk => ⟨.str _, H, I.kept kk, ⟨_, rfl⟩, q⟩) hz
  | tup e _ _ =>
    cases ru
    exact repr_of_reads' hr f1 (fun _ => hs) hg (by omega) (fun _ _ e => e) (fun h' t tk kk => ⟨.str _, H, I.kept kk, ⟨_, rfl⟩, q⟩) hz
  | emp e _ =>
    cases ru
    exact repr_of_reads' hr f1 (fun _ => hs) hg (by omega) (fun _ _ e => e) (fun h' t tk kk => ⟨.str _, H, I.kept kk, ⟨_, rfl⟩, q⟩) hz
end
end Ver
/-! Ver, 3: what fits; equality of data with texts and with tuples of texts; x in [..]; text * int; list(tuple); lists behind sys.modules -/
namespace Ver
open PySem PySem.Spec PyProof.Rows L2
open PySem.SeqAt (EqAt RcAt)
theorem Fit.mono {n n' k k' : Nat} {d : PyData} (f : Fit n k d) (h : n ≤ n') (hk : k ≤ k') : Fit n' k' d := ⟨f.ok, Nat.le_trans f.len h, Nat.le_trans f.dep hk⟩
theorem fits_all {n k : Nat} : ∀ {ds : List PyData}, (∀ d ∈ ds, Fit n k d) → PyData.showableAll ds = true ∧ piled (PyData.shownAll ds) ≤ ds.length * (n + 2) ∧ PyData.depthAll ds ≤ k ∧ (PyData.shownAll ds).length = ds.length
  | [], _ => ⟨rfl, by simp [PyData.shownAll, piled], by simp [PyData.depthAll], rfl⟩
  | d :: ds, h => by
    obtain ⟨h1, h2, h3, h4⟩ := fits_all (ds := ds) fun e he => h e (List.mem_cons_of_mem _ he)
    obtain ⟨f1, f2, f3⟩ := h d List.mem_cons_self
    refine ⟨by simp [PyData.showableAll, f1, h1], ?_, by simp [PyData.depthAll]; omega, by simp [PyData.shownAll, h4]⟩
    show piled (d.shown :: PyData.shownAll ds) ≤ (ds.length + 1) * (n + 2)
    rw [piled_cons, Nat.add_mul]
    omega
theorem join_le (ts : List Str) : (Str.join ", " ts).length ≤ piled ts := by
  by_cases h : ts = []
  · subst h
    exact Nat.zero_le _
  · have := join_length_add ts h
    omega
theorem fit_tup {n k m : Nat} {ds : List PyData} (h : ∀ d ∈ ds, Fit n k d) (hm : ds.length * (n + 2) + 3 ≤ m) : Fit m (k + 1) (.tuple ds) := by
  obtain ⟨h1, h2, h3, h4⟩ := fits_all h
  refine ⟨by simpa [PyData.showable] using h1, ?_, by simp [PyData.depth]; omega⟩
  show (tupleText (PyData.shownAll ds)).length ≤ m
  unfold tupleText
  rw [strLen_append, strLen_append]
  have e1 : (("(" : String) : Str).length = 1 := rfl
  have e2 : ((if (PyData.shownAll ds).length == 1 then ",)" else ")" : String) : Str).length ≤ 2 := by
    split <;> decide
  have := join_le (PyData.shownAll ds)
  omega
theorem textFrom_le : ∀ (ts : List Str) (k : Nat) (acc : Str), (textFrom k acc ts).length ≤ acc.length + piled ts
  | [], k, acc => Nat.le_add_right _ _
  | t :: r, k, acc => by
    have h := textFrom_le r (k + 1) (acc ++ (if k > 0 then ", " else "" : String) ++ t)
    have e : (acc ++ (if k > 0 then ", " else "" : String) ++ t).length ≤ acc.length + 2 + t.length := by
      rw [strLen_append, strLen_append]
      have : ((if k > 0 then ", " else "" : String) : Str).length ≤ 2 := by split <;> decide
      omega
    rw [piled_cons]
    show (textFrom (k + 1) (acc ++ (if k > 0 then ", " else "" : String) ++ t) r).length ≤ _
    omega
theorem fit_lst {n k m : Nat} {ds : List PyData} (h : ∀ d ∈ ds, Fit n k d) (hm : ds.length * (n + 2) + 2 ≤ m) : Fit m (k + 1) (.list ds) := by
  obtain ⟨h1, h2, h3, h4⟩ := fits_all h
  refine ⟨by simpa [PyData.showable] using h1, ?_, by simp [PyData.depth]; omega⟩
  show (textFrom 0 "[" (PyData.shownAll ds) ++ "]" : Str).length ≤ m
  rw [strLen_append]
  have := textFrom_le (PyData.shownAll ds) 0 "["
  have e1 : (("[" : String) : Str).length = 1 := rfl
  have e2 : (("]" : String) : Str).length = 1 := rfl
  omega
theorem fit_none {n k : Nat} (h : 4 ≤ n) : Fit n k .none := ⟨rfl, h, Nat.zero_le _⟩
theorem fit_bool {n k : Nat} (b : Bool) (h : 5 ≤ n) : Fit n k (.bool b) := ⟨rfl, by cases b <;> (refine Nat.le_trans ?_ h; decide), Nat.zero_le _⟩
theorem fit_emp {n k : Nat} (h : 2 ≤ n) (hk : 1 ≤ k) : Fit n k (.dict []) := ⟨rfl, by refine Nat.le_trans ?_ h; decide, by simpa [PyData.depth, PyData.depthKv] using hk⟩
theorem fit_str {n k : Nat} {x : Str} (hx : ∀ c ∈ x.cps.toList, c < 16 ^ 8) (h : 10 * x.length + 2 ≤ n) : Fit n k (.str x) :=
  ⟨rfl, Nat.le_trans (StrLaws.reprText_len x hx) h, Nat.zero_le _⟩
/-! ### equality with texts -/
/-- is the datum this text -/
def eqS : PyData → Str → Bool
  | .str x, y => x == y
  | _, _ => false
/-- are the data these texts, one by one -/
def eqSs : List PyData → List Str → Bool
  | [], [] => true
  | d :: ds, y :: ys => eqS d y && eqSs ds ys
  | _, _ => false
section
variable {X : Cx} {pins : List (Addr × Obj)} {σ : L2.St} {H : Hp} {s : Shared} {N : Addr → Prop}
theorem Da.rcText {A : Around} (I : Inv X pins σ H s) {v : V} {d : PyData} {u : Value} (h : Da N H v d) (r : RelV v u) (y : Str) (t : Tok) (hu : A.units < cLine) : RcAt A s u (.str y t) (eqS d y) := by
  cases h with
  | non =>
    cases r
    exact .none_str y t
  | bl b =>
    cases r
    exact .bool_str b y t
  | int i =>
    obtain ⟨t', rfl⟩ := r
    exact .int_str i t' y t
  | str x =>
    obtain ⟨t', rfl⟩ := r
    exact .str_str x t' y t
  | lst e _ _ _ =>
    cases r
    obtain ⟨its, rv, p, _⟩ := I.list (SqL.of e)
    exact .list_str y t p.isList hu
  | tup e _ _ =>
    cases r
    obtain ⟨its, rv, p, _⟩ := I.tuple (SqT.of e)
    exact .tuple_str y t p hu
  | emp e _ =>
    cases r
    obtain ⟨o, es, n, ho, hc, hd, _, _⟩ := reads_emp I.hok e
    exact rc_dict_text ho hc hd y t hu
theorem Da.eqText {A : Around} (I : Inv X pins σ H s) {v : V} {d : PyData} {u : Value} (h : Da N H v d) (r : RelV v u) (y : Str) (t : Tok) (hu : A.units < cLine) : EqAt A s u (.str y t) (eqS d y) := by
  cases h with
  | non =>
    cases r
    exact .none_str y t
  | bl b =>
    cases r
    exact .bool_str b y t
  | int i =>
    obtain ⟨t', rfl⟩ := r
    exact .int_str i t' y t
  | str x =>
    obtain ⟨t', rfl⟩ := r
    exact .str_str x t' y t
  | lst e _ _ _ =>
    cases r
    obtain ⟨its, rv, p, _⟩ := I.list (SqL.of e)
    exact .list_str y t p.isList hu
  | tup e _ _ =>
    cases r
    obtain ⟨its, rv, p, _⟩ := I.tuple (SqT.of e)
    exact .tuple_str y t p hu
  | emp e _ =>
    cases r
    obtain ⟨o, es, n, ho, hc, hd, _, _⟩ := reads_emp I.hok e
    exact eq_dict_text ho hc hd y t hu
/-- place by place, as the comparison of two tuples asks -/
theorem eqSs_range : ∀ (ds : List PyData) (ys : List Str),
    ((List.range (min ds.length ys.length)).all (fun j => eqS (ds.getD j .none) (ys.getD j Str.empty)) && ds.length == ys.length) = eqSs ds ys
  | [], [] => rfl
  | [], _ :: _ => by simp [eqSs]
  | _ :: _, [] => by simp [eqSs]
  | d :: ds, y :: ys => by
    have ih := eqSs_range ds ys
    show _ = (eqS d y && eqSs ds ys)
    rw [← ih, List.length_cons, List.length_cons, Nat.succ_min_succ, List.range_succ_eq_map, List.all_cons, List.all_map, Bool.and_assoc]
    have e : (ds.length + 1 == ys.length + 1) = (ds.length == ys.length) := by simp
    rw [e]
    rfl
theorem Das.eqTexts {A : Around} (I : Inv X pins σ H s) (hu : A.units < cLine) : ∀ {vs : List V} {ds : List PyData} {us ws : List Value} {ys : List Str}, Das N H vs ds → Vals vs us → Vals (ys.map V.str) ws →
    ∀ (j : Nat) (h1 : j < us.length) (h2 : j < ws.length), EqAt A s us[j] ws[j] (eqS (ds.getD j .none) (ys.getD j Str.empty))
  | _, _, _, _, _, .nil, .nil, _ => fun j h1 _ => absurd h1 (Nat.not_lt_zero _)
  | _, _, _, _, [], .cons _ _, _, r => fun j _ h2 => by
    cases r
    exact absurd h2 (Nat.not_lt_zero _)
  | _, _, _, _, y :: ys, .cons h t, .cons r1 r2, r => fun j h1 h2 => by
    cases r with
    | cons r3 r4 =>
      cases j with
      | zero =>
        obtain ⟨t', rfl⟩ := r3
        exact h.eqText I r1 y t' hu
      | succ j => exact Das.eqTexts I hu t r2 r4 j (by simpa using h1) (by simpa using h2)
theorem Das.rcTexts {A : Around} {a b : Addr} {xs : List V} {ds : List PyData} {ys : List Str} (I : Inv X pins σ H s) (e : SqT X.K H a xs) (q : Das N H xs ds) (f : SqT X.K H b (ys.map V.str)) (hu : A.units + 1 < cLine) :
    RcAt A s (.ref a) (.ref b) (eqSs ds ys) := by
  obtain ⟨its, rv, p, _⟩ := I.tuple e
  obtain ⟨jts, rw', p', _⟩ := I.tuple f
  have l1 : its.length = ds.length := rv.length.symm.trans q.length
  have l2 : jts.length = ys.length := by
    have := rw'.length
    rw [List.length_map] at this
    exact this.symm
  have h := RcAt.tuples (A := A) (s := s) (e := fun j => eqS (ds.getD j .none) (ys.getD j Str.empty)) p p' (by omega) (fun j h1 h2 => by
    have := Das.eqTexts (A := A.in1) I (show A.units + 1 < cLine from hu) q rv rw' j (by simpa using h1) (by simpa using h2)
    simpa using this)
  have e1 : its.toArray.size = ds.length := by simpa using l1
  have e2 : jts.toArray.size = ys.length := by simpa using l2
  rw [e1, e2] at h
  rw [eqSs_range] at h
  exact h
/-- tuples stand apart or are one: then the answer is yes on both sides -/
theorem Das.eqTextsRef {A : Around} {a b : Addr} {xs : List V} {ds : List PyData} {ys : List Str} (I : Inv X pins σ H s) (e : SqT X.K H a xs) (q : Das N H xs ds) (f : SqT X.K H b (ys.map V.str)) (hu : A.units + 1 < cLine) :
    EqAt A s (.ref a) (.ref b) (eqSs ds ys) := by
  by_cases hab : a = b
  · subst hab
    have ex : xs = ys.map V.str := I.tuple_inj e f
    subst ex
    have : eqSs ds ys = true := by
      clear e f hu I
      induction ys generalizing ds with
      | nil =>
        cases q
        rfl
      | cons y ys ih =>
        cases q with
        | cons h t =>
          cases h
          show (y == y && eqSs _ ys) = true
          rw [ih t, beq_self_eq_true]
          rfl
    rw [this]
    exact .same _
  · exact .of_refs hab (Das.rcTexts I e q f hu)
end
section
variable {X : Cx} {N : Addr → Prop}
/-- x == "..", x any datum -/
def rEqS (N : Addr → Prop) : R2 := fun x y H Q => ∃ d z, Da N H x d ∧ y = .str z ∧ Q (.bl (eqS d z)) H
theorem op_eqS (hu : X.A.units < cLine) : OpR X (compareOp .Eq) (rEqS N) := by
  intro pins s σ H x y v u Q I rx ry h
  obtain ⟨d, z, hd, rfl, q⟩ := h
  obtain ⟨t, rfl⟩ := ry
  exact hd.rcText I rx z t hu _ _ _ _ ⟨.bl _, H, I, rfl, q⟩
/-- x == (.., ..), a tuple of data against a tuple of texts -/
def rEqT (K : PySem.W.Frag) (N : Addr → Prop) : R2 := fun x y H Q => ∃ a xs ds b ys, x = .ref a ∧ SqT K H a xs ∧ Das N H xs ds ∧ y = .ref b ∧ SqT K H b (ys.map V.str) ∧ Q (.bl (eqSs ds ys)) H
theorem op_eqT (hu : X.A.units + 1 < cLine) : OpR X (compareOp .Eq) (rEqT X.K N) := by
  intro pins s σ H x y v u Q I rx ry h
  obtain ⟨a, xs, ds, b, ys, rfl, e, q, rfl, f, k⟩ := h
  cases rx
  cases ry
  exact Das.rcTexts I e q f hu _ _ _ _ ⟨.bl _, H, I, rfl, k⟩
end
end Ver
/-! Ver, 4: x in [(..), ..]; text * int; list(tuple); lists behind sys.modules; a def that is called where nothing is being shown; the law's call -/
namespace Ver
open PySem PySem.Spec PyProof.Rows L2
open PySem.SeqAt (EqAt RcAt)
section
variable {A : Around} {s : Shared}
theorem sub_dict_text : isSubtype (.type "dict") (.type "str") = pure false := by
  rw [isSubtype_type]
  kernel_rfl
theorem eq_text_dict {l : Addr} {o : Obj} {es : Array DictEntry} {n : Nat} (ho : s.heap.get? l = some o) (hc : o.cls = .type "dict") (hd : o.data = .dict es n) (b : Str) (u : Tok) (hu : A.units < cLine) :
    EqAt A s (.str b u) (.ref l) false := fun prog w E Q h => by
  unfold eqBool
  refine wpAny_holding (wpAny_ite_split (fun z => absurd (eq_of_beq z) nofun) fun _ => ?_)
  refine wpAny_bind (SeqAt.rc_eq_decline_or (k := false) (typeIs_str s b u) ⟨_, ho, hc⟩ (by decide) sub_dict_text F.slot_str_eq F.slot_dict_eq_refl
    (fun _ hq => call_meets F.slot_str_eq (typeIs_str s b u) F.entry_str_eq (F.args_str_eq_2 _ _) (text_no_dict l o es n hc hd b u) ⟨ho, hq⟩)
    (fun _ hq => call_meets F.slot_dict_eq_refl ⟨_, ho, hc⟩ F.entry_dict_eq (F.args_dict_eq_2 _ _) (dict_no_text l o hc b u) ⟨ho, hq⟩)
    (fun _ hq => wpAny_of_eq (rfl : isSame (.str b u) (.ref l) = pure false) hq) (.inr hu) (wpAny_truthy_bool h))
end
theorem beq_comm_str (x y : Str) : (x == y) = (y == x) := by
  by_cases h : x = y
  · rw [h]
  · rw [beq_eq_false_iff_ne.mpr h, beq_eq_false_iff_ne.mpr (Ne.symm h)]
section
variable {X : Cx} {pins : List (Addr × Obj)} {σ : L2.St} {H : Hp} {s : Shared} {N : Addr → Prop}
theorem Da.textEq {A : Around} (I : Inv X pins σ H s) {v : V} {d : PyData} {u : Value} (h : Da N H v d) (r : RelV v u) (y : Str) (t : Tok) (hu : A.units < cLine) : EqAt A s (.str y t) u (eqS d y) := by
  cases h with
  | non =>
    cases r
    exact .str_none y t
  | bl b =>
    cases r
    exact .str_bool y t b
  | int i =>
    obtain ⟨t', rfl⟩ := r
    exact .str_int y t i t'
  | str x =>
    obtain ⟨t', rfl⟩ := r
    have e : eqS (.str x) y = (y == x) := beq_comm_str x y
    rw [e]
    exact .str_str y t x t'
  | lst e _ _ _ =>
    cases r
    obtain ⟨its, rv, p, _⟩ := I.list (SqL.of e)
    exact .str_list y t p.isList hu
  | tup e _ _ =>
    cases r
    obtain ⟨its, rv, p, _⟩ := I.tuple (SqT.of e)
    exact .str_tuple y t p hu
  | emp e _ =>
    cases r
    obtain ⟨o, es, n, ho, hc, hd, _, _⟩ := reads_emp I.hok e
    exact eq_text_dict ho hc hd y t hu
theorem eqSs_rangeR : ∀ (ds : List PyData) (ys : List Str),
    ((List.range (min ys.length ds.length)).all (fun j => eqS (ds.getD j .none) (ys.getD j Str.empty)) && ys.length == ds.length) = eqSs ds ys := fun ds ys => by
  rw [← eqSs_range, Nat.min_comm]
  congr 1
  by_cases h : ys.length = ds.length
  · rw [h]
  · rw [beq_eq_false_iff_ne.mpr h, beq_eq_false_iff_ne.mpr (Ne.symm h)]
theorem Das.textsEq {A : Around} (I : Inv X pins σ H s) (hu : A.units < cLine) : ∀ {vs : List V} {ds : List PyData} {us ws : List Value} {ys : List Str}, Das N H vs ds → Vals vs us → Vals (ys.map V.str) ws →
    ∀ (j : Nat) (h2 : j < ws.length) (h1 : j < us.length), EqAt A s ws[j] us[j] (eqS (ds.getD j .none) (ys.getD j Str.empty))
  | _, _, _, _, _, .nil, .nil, _ => fun j _ h1 => absurd h1 (Nat.not_lt_zero _)
  | _, _, _, _, [], .cons _ _, _, r => fun j h2 _ => by
    cases r
    exact absurd h2 (Nat.not_lt_zero _)
  | _, _, _, _, y :: ys, .cons h t, .cons r1 r2, r => fun j h2 h1 => by
    cases r with
    | cons r3 r4 =>
      cases j with
      | zero =>
        obtain ⟨t', rfl⟩ := r3
        exact h.textEq I r1 y t' hu
      | succ j => exact Das.textsEq I hu t r2 r4 j (by simpa using h2) (by simpa using h1)
theorem Das.textsEqRef {A : Around} {a b : Addr} {xs : List V} {ds : List PyData} {ys : List Str} (I : Inv X pins σ H s) (e : SqT X.K H a xs) (q : Das N H xs ds) (f : SqT X.K H b (ys.map V.str)) (hu : A.units + 1 < cLine) :
    EqAt A s (.ref b) (.ref a) (eqSs ds ys) := by
  by_cases hab : a = b
  · subst hab
    have h1 := Das.eqTextsRef (A := A) I e q f hu
    exact h1
  · obtain ⟨its, rv, p, _⟩ := I.tuple e
    obtain ⟨jts, rw', p', _⟩ := I.tuple f
    have l1 : its.length = ds.length := rv.length.symm.trans q.length
    have l2 : jts.length = ys.length := by
      have := rw'.length
      rw [List.length_map] at this
      exact this.symm
    have h := RcAt.tuples (A := A) (s := s) (e := fun j => eqS (ds.getD j .none) (ys.getD j Str.empty)) p' p (by omega) (fun j h1 h2 => by
      have := Das.textsEq (A := A.in1) I (show A.units + 1 < cLine from hu) q rv rw' j (by simpa using h1) (by simpa using h2)
      simpa using this)
    have e1 : its.toArray.size = ds.length := by simpa using l1
    have e2 : jts.toArray.size = ys.length := by simpa using l2
    rw [e1, e2, eqSs_rangeR] at h
    exact .of_refs (Ne.symm hab) h
end
section
variable {X : Cx} {N : Addr → Prop}
/-- x in [(..), (..), (..)]: is it one of these -/
def rInT (K : PySem.W.Frag) (N : Addr → Prop) : R2 := fun x y H Q => ∃ a xs ds l b1 b2 b3 y1 y2 y3, x = .ref a ∧ SqT K H a xs ∧ Das N H xs ds ∧ y = .ref l ∧ SqL K H l [.ref b1, .ref b2, .ref b3] ∧
  (SqT K H b1 (y1.map V.str) ∧ SqT K H b2 (y2.map V.str) ∧ SqT K H b3 (y3.map V.str)) ∧ (b1 ≠ b2 ∧ b1 ≠ b3 ∧ b2 ≠ b3) ∧ Q (.bl (eqSs ds y1 || eqSs ds y2 || eqSs ds y3)) H
theorem op_inT (hu : X.A.units + 2 < cLine) : OpR X (compareOp .In) (rInT X.K N) := by
  intro pins s σ H x y v u Q I rx ry h
  obtain ⟨a, xs, ds, l, b1, b2, b3, y1, y2, y3, rfl, e, q, rfl, hl, ⟨f1, f2, f3⟩, ⟨n1, n2, n3⟩, k⟩ := h
  cases rx
  cases ry
  obtain ⟨its, rv, p, _⟩ := I.list hl
  obtain rfl : its = [.ref b1, .ref b2, .ref b3] := by
    cases rv with
    | cons r1 rv =>
      cases rv with
      | cons r2 rv =>
        cases rv with
        | cons r3 rv =>
          cases rv
          cases r1
          cases r2
          cases r3
          rfl
  refine SeqAt.in_listAt (fun u => if u = .ref b1 then eqSs ds y1 else if u = .ref b2 then eqSs ds y2 else eqSs ds y3) p.isList (fun w hw => ?_) ⟨.bl _, H, I, rfl, ?_⟩
  · have hw' : w = .ref b1 ∨ w = .ref b2 ∨ w = .ref b3 := by simpa using hw
    have hu' : X.A.in1.units + 1 < cLine := hu
    rcases hw' with rfl | rfl | rfl
    · rw [if_pos rfl]
      exact Das.textsEqRef I e q f1 hu'
    · rw [if_neg (fun z => n1 (by injection z with z; exact z.symm)), if_pos rfl]
      exact Das.textsEqRef I e q f2 hu'
    · rw [if_neg (fun z => n2 (by injection z with z; exact z.symm)), if_neg (fun z => n3 (by injection z with z; exact z.symm))]
      exact Das.textsEqRef I e q f3 hu'
  · have h2 : (Value.ref b2 = Value.ref b1) = False := eq_false fun z => n1 (by injection z with z; exact z.symm)
    have h3 : (Value.ref b3 = Value.ref b1) = False := eq_false fun z => n2 (by injection z with z; exact z.symm)
    have h4 : (Value.ref b3 = Value.ref b2) = False := eq_false fun z => n3 (by injection z with z; exact z.symm)
    simp only [List.any_toArray, List.any_cons, List.any_nil, if_true, h2, h3, h4, if_false, Bool.or_false]
    simpa [Bool.or_assoc] using k
/-- text * n, n a small number -/
theorem op_times : OpR X (binaryOp .Mult) (fun x y H Q => ∃ z n, x = .str z ∧ y = .int n ∧ MulOk z n ∧ Q (.str (Txt.mul z n)) H) := by
  intro pins s σ H x y v u Q I rx ry h
  obtain ⟨z, n, rfl, rfl, hm, q⟩ := h
  obtain ⟨t, rfl⟩ := rx
  obtain ⟨t', rfl⟩ := ry
  exact PySem.SB.mul hm fun t2 k => ⟨.str _, H, I.tok _, ⟨_, rfl⟩, q⟩
/-- a new list, which is not sys.modules -/
def tLstB (t : TA) : TE := fun σ H Q => t σ H fun xs H1 => xs.length ≤ sizeLine ∧ ∀ p, H1 p = none → p ≠ sysModules → Q (.ref p) (upd H1 p (.lst xs))
theorem pe_lstB {es : List Expr} {t : TA} {pos : Pos} (h : PA X es t) : PE X (.List es pos) (tLstB t) := by
  refine ⟨fun pins s σ H Q I hq => wpAny_List_spliced (thn (h.run pos pins s σ H _ I hq) ?_)⟩
  rintro us s1 ⟨xs, H1, I1, r, z, q⟩
  have new : H1 s1.heap.objs.size = none := I1.hok.fresh (Nat.le_refl _)
  have big : s1.heap.objs.size ≠ sysModules := Nat.ne_of_gt I1.big
  refine ⟨by rw [← r.length]; exact z, .ref s1.heap.objs.size, upd H1 s1.heap.objs.size (.lst xs), ?_, rfl, q _ new big⟩
  refine I1.laid (t' := s1.toks) (fun b u e => Heap.get?_push_of_some _ e) (Nat.le_refl _) ?_
  exact ⟨z, us, 0, r, Heap.get?_push_size _ rfl⟩
/-- list(t), t a tuple; the new list is not sys.modules -/
theorem call_list_tupB : CallR X (.type "list") (fun xs H Q => ∃ p ys, xs = [.ref p] ∧ SqT X.K H p ys ∧ ∀ l, H l = none → l ≠ sysModules → Q (.ref l) (upd H l (.lst ys))) := by
  rintro pins s σ H xs us Q I r ⟨p, ys, rfl, hq, q⟩
  obtain ⟨u, rfl, rx⟩ := vals1 r
  cases rx
  obtain ⟨its, rv, ⟨o, ho, hc, n, hd⟩, hz⟩ := I.tuple hq
  have hl := rv.length
  refine call_list_seq p (.inr rfl) ho hc hd (fun h' c' kp e => ?_) (by rw [List.size_toArray]; omega)
  have new : H s.heap.objs.size = none := I.hok.fresh (Nat.le_refl _)
  exact ⟨.ref _, _, I.laid (t' := s.toks) (o := .lst ys) kp (Nat.le_refl _) ⟨hz, its, c', rv, e⟩, rfl, q _ new (Nat.ne_of_gt I.big)⟩
end
end Ver
/-! Ver, 5: defs that are called where nothing is being shown (repr asks that), up to the law's own call -/
namespace Ver
open PySem PySem.Spec PyProof.Rows L2
/-- a promise kept wherever nothing is being shown -/
structure FnQ (P : Program) (w : World) (K : PySem.W.Frag) (mg : Str → Option Value) (base : Heap) (CX : CXT) (k : Nat) (f : Addr) (fd : FuncData) (ps : List Str) (sp : Sp) : Prop where
  len : ∀ vs H Q E, sp vs H Q E → vs.length = ps.length
  run : ∀ (A : Around) (outer : List Env) (s : Shared) (H : Hp) (args : Args) (us : List Value) (vs : List V) (Q : VK) (E : XK),
    A.guards = some [] → Room k A → Env0 P w K mg base A outer s H → BindsTo s fd args (ps.zip us) → Vals vs us → sp vs H Q E →
      codeAny (model P w) A (.call (.ref f) args) (CR CX outer P w H s Q E) s
section
variable {CX : CXT} {P : Program} {w : World} {K : PySem.W.Frag} {mg : Str → Option Value} {base : Heap}
/-- such a def by its body: there, too, nothing is being shown -/
theorem fnQ_of {k : Nat} {f : Addr} {x qual : Str} {st : Stmt} {fd : FuncData} {N ps : List Str} {sp : Sp} (F : Fun K x qual st f fd) (S : FnScope N ps (defScope st))
    (len : ∀ vs H Q E, sp vs H Q E → vs.length = ps.length)
    (body : ∀ (cdv : Value) (A : Around) (outer : List Env) (s : Shared) (H : Hp) (vs : List V) (Q : VK) (E : XK), A.guards = some [] →
      Room k (A.deeper (envOfC qual (defScope st) s.heap.objs.size f cdv)) → sp vs H Q E →
        ∃ t, PSs (cxOf CX P w K mg base N qual (defScope st) f cdv A outer s H E) (defBody st) t ∧ t { nx := fun _ H' => Q .non H', rt := Q } (start N vs) H) :
    FnQ P w K mg base CX (k + 1) f fd ps sp := by
  obtain ⟨oc, od, kV, doc, pm, an, cdv, ct, osl, rfl, lk, hcd⟩ := F.ex
  refine ⟨len, ?_⟩
  intro A outer s H args us vs Q E hg hr e0 hb r hsp
  have old : ∀ b o, base.get? b = some o → s.heap.get? b = some o := fun b o e => (e0.bs b o e).1
  have written : K.In s.heap := e0.mod.kin.keeps old
  refine codeAny_call_function hr.depth (written _ _ lk) rfl S.co S.gen rfl (PySem.W.codeRec_of written hcd) (hb _ _ _ _ ?_)
  refine wpAny_newFunctionEnv_cells S.kind (fun y hy => ?_) (fun env he s1 x => ?_)
  · have hp := S.par y.1 (List.of_mem_zip (a := y.1) (b := y.2) hy).1
    exact hp.imp id fun q => ⟨q, PySem.W.cellsFrom_some _ _ _ (.inl q)⟩
  subst he
  refine ⟨(e0.mod.nolimit.keeps old).keeps x.toInCall.keep, codeAny_func ?_⟩
  obtain ⟨t, ht, hq⟩ := body cdv A outer s H vs Q E hg (hr.deeper _) hsp
  have I := inv_start (CX := CX) (E := E) S hr.hd e0 (len _ _ _ _ hsp) r x
  refine wpAny_mono (ht.run [] s1 (start N vs) H _ I hq) ?_ fun _ _ z => z
  intro fl s' h
  cases fl with
  | brk => exact h.elim fun _ ⟨_, _, z⟩ => z.elim
  | cont => exact h.elim fun _ ⟨_, _, z⟩ => z.elim
  | next =>
    obtain ⟨_, H', J, q⟩ := h
    exact ⟨.non, H', J.os, J.bare, J.base, J.hok, rfl, q⟩
  | ret u =>
    obtain ⟨v, _, H', J, rv, q⟩ := h
    exact ⟨v, H', J.os, J.bare, J.base, J.hok, rv, q⟩
/-- .. from which no exception leaves -/
theorem fnQ_ok {k : Nat} {f : Addr} {x qual : Str} {st : Stmt} {fd : FuncData} {N ps : List Str} {sp : Sp} (F : Fun K x qual st f fd) (S : FnScope N ps (defScope st))
    (len : ∀ vs H Q E, sp vs H Q E → vs.length = ps.length)
    (body : ∀ (cdv : Value) (A : Around) (outer : List Env) (s : Shared) (H : Hp) (vs : List V) (Q : VK) (E : XK), A.guards = some [] →
      Room k (A.deeper (envOfC qual (defScope st) s.heap.objs.size f cdv)) → sp vs H Q E →
        ∃ t, PSs (cxOf CX0 P w K mg base N qual (defScope st) f cdv A outer s H E).nox (defBody st) t ∧ t { nx := fun _ H' => Q .non H', rt := Q } (start N vs) H) :
    FnQ P w K mg base CX0 (k + 1) f fd ps sp := fnQ_of F S len fun cdv A outer s H vs Q E hg hr hsp =>
  let ⟨t, h, q⟩ := body cdv A outer s H vs Q E hg hr hsp
  ⟨t, h.nox, q⟩
end
/-! ### a call of such a def -/
section
variable {X : Cx} {CX : CXT} {k : Nat} {f : Addr} {fd : FuncData} {ps : List Str} {sp : Sp} {dvs : List V} {ds : List Value} {E : XK} {x : Str} {p pos : Pos} {e : Expr} {es : List Expr} {t : TA}
theorem pe_callQ (hg0 : X.A.guards = some []) (F : FnQ X.prog X.w X.K X.mg X.base CX k f fd ps sp) (hr : Room k X.A) (hg : Gl X x) (hm : X.mg x = some (.ref f)) (hk : PySem.W.keepIn X.K (.ref f) = true)
    (hb : Binds X.K fd ps ds) (hd : Vals dvs ds) (hx : Passes CX X E) (ha : PA X (e :: es) t) (hdb : (x == ("__debug__" : Str)) = false := by decide)
    (he : starEach (e :: es) X.env = (false, eval e X.env) :: starEach es X.env := by rfl) (hpl : (backTo pos (starEach es X.env)).any (·.1) = false := by rfl) :
    PE X (.Call (.Name x p) (e :: es) [] pos) (tCall sp dvs E t) := by
  refine ⟨fun pins s σ H Q I h => wpAny_Call_Name_kw (ld_glob I hg hm ?_ hdb)⟩
  refine PySem.W.callWith_K (h₀ := X.base) I.ok.mod.kin hk (thn (ha.run pos pins s σ H _ I h) ?_) he hpl
  rintro us s1 ⟨vs, H1, I1, r, q⟩
  refine ⟨I1.kIn, wpAny_call ?_⟩
  have all : Vals (vs ++ dvs) (us ++ ds) := r.append hd
  have many : (us ++ ds).length = ps.length := all.length.symm.trans (F.len _ _ _ _ q)
  refine codeAny_mono (F.run X.A X.stack s1 H1 ⟨us, []⟩ _ _ Q E hg0 hr I1.env0 (hb s1 us I1.kIn many) all q) ?_
  intro res s2 hq
  match res, hq with
  | .ok (.ret u), hq => exact I1.after hq
  | .error er, hq => exact hx pins σ H1 s1 er s2 I1 hq
  | .ok .next, hq => exact hq.elim
  | .ok .brk, hq => exact hq.elim
  | .ok .cont, hq => exact hq.elim
end
/-! ### the law's call -/
section
variable {P : Program} {w : World} {K : PySem.W.Frag} {mg mb : Str → Option Value} {k : Nat} {fa a : Addr} {fd : FuncData} {x : Str} {sp : Sp} {s₁ : Shared} {vs : List Value} {ns : List Int}
abbrev Good (s₁ : Shared) (r : Result) (s' : Shared) : Prop := r = .ok (.ret (.bool true)) ∧ OldK s₁.heap s'.heap ∧ s'.os = s₁.os ∧ AllBare s'.gens
/-- from an abstract heap in which at most the script is known -/
theorem call_at {H : Hp} (KX : K.In s₁.heap) (hns : s₁.heap.Ns mainGlobals mg) (hb : s₁.heap.Ns builtinsNs mb) (hbb : ∀ x : Str, x ≠ "__name__" → mb x = bootBuiltins x) (hlim : s₁.heap.NoLimit) (hg : s₁.gens = #[])
    (ha : s₁.heap.get? a = some { cls := .type "list", data := .seq vs.toArray }) (hr : Room k callerA)
    (F : ∀ base : Heap, K.In base → base.Ns mainGlobals mg → FnQ P w K mg base CX0 k fa fd [x] sp) (hbind : ∀ (s : Shared) (u : Value), BindsTo s fd ⟨[u], []⟩ [(x, u)])
    (hO : Only H) (hA : ∀ b, H b ≠ none → b = a) (hK : H a ≠ none → K.lookup a = none) (hok : HOk P w H s₁.heap) (hsp : sp [.ref a] H (fun v _ => v = .bl true) fun _ _ _ => False) :
    codeAny (model P w) callerA (.call (.ref fa) ⟨[.ref a], []⟩) (Good s₁) s₁ := by
  have un : ∀ b, b ≠ a → H b = none := fun b hb => Classical.byContradiction fun z => hb (hA b z)
  have dictUn : ∀ {b : Addr} {o : Obj} {es : Array DictEntry} {ep : Nat}, s₁.heap.get? b = some o → o.data = .dict es ep → H b = none := by
    intro b o es ep e d
    refine un b fun z => ?_
    rw [z, ha] at e
    cases e
    cases d
  have ns : ∀ {b : Addr} {m : Str → Option Value}, s₁.heap.Ns b m → (hidT s₁.heap H).Ns b m := by
    rintro b m ⟨o, es, ep, e, d, r⟩
    exact ⟨o, es, ep, hidT_get e (dictUn e d), d, r⟩
  have hKb : K.In (hidT s₁.heap H) := by
    intro b o e
    refine hidT_get (KX b o e) ?_
    by_cases hb : b = a
    · exact Classical.byContradiction fun z => by
        have q := hK (by rw [← hb]; exact z)
        rw [← hb, e] at q
        cases q
    · exact un b hb
  have hM : Mod K mg (hidT s₁.heap H) := ⟨hKb, ns hns, ⟨mb, ns hb, hbb⟩, hlim.imp fun mc h => ⟨ns h.1, h.2⟩⟩
  have e0 : Env0 P w K mg (hidT s₁.heap H) callerA [] s₁ H :=
    ⟨rfl, hM, fun b o e => of_hidT e, Nat.le_of_eq (hidT_size _ _), trivial, fun b hb => absurd (show b ∈ ([] : List Addr) from hb) List.not_mem_nil, hok, .of_eq hg⟩
  refine codeAny_mono ((F _ hKb (ns hns)).run callerA [] s₁ H ⟨[.ref a], []⟩ [.ref a] [.ref a] _ _ rfl hr e0 (hbind s₁ (.ref a)) (.cons rfl .nil) hsp) ?_
  intro r s' h
  match r, h with
  | .error e, h => exact h.elim
  | .ok .next, h => exact h.elim
  | .ok .brk, h => exact h.elim
  | .ok .cont, h => exact h.elim
  | .ok (.ret u), ⟨v, H', os, bare, u1, hok', rv, q⟩ =>
    obtain rfl : v = .bl true := q
    obtain rfl : u = .bool true := rv
    refine ⟨rfl, OldK.of_keep fun b o e => ?_, os, bare⟩
    rcases hO b with z | ⟨ob, xs, z⟩
    · exact u1.keep b o e z (show b ∉ ([] : List Addr) from List.not_mem_nil) List.not_mem_nil
    · have e1 := (hok b _ z).1
      have e2 := (hok' b _ (u1.frzs b ob _ z)).1
      exact e2.trans (e1.symm.trans e)
theorem call_law (KX : K.In s₁.heap) (hns : s₁.heap.Ns mainGlobals mg) (hb : s₁.heap.Ns builtinsNs mb) (hbb : ∀ x : Str, x ≠ "__name__" → mb x = bootBuiltins x) (hlim : s₁.heap.NoLimit) (hg : s₁.gens = #[])
    (ha : s₁.heap.get? a = some { cls := .type "list", data := .seq vs.toArray }) (hi : IntsAre vs ns) (hl : ns.length ≤ sizeLine) (hr : Room k callerA)
    (F : ∀ base : Heap, K.In base → base.Ns mainGlobals mg → FnQ P w K mg base CX0 k fa fd [x] sp) (hbind : ∀ (s : Shared) (u : Value), BindsTo s fd ⟨[u], []⟩ [(x, u)])
    (hsp : ∀ H : Hp, Only H → SqL K H a (ns.map V.int) → sp [.ref a] H (fun v _ => v = .bl true) fun _ _ _ => False) :
    codeAny (model P w) callerA (.call (.ref fa) ⟨[.ref a], []⟩) (Good s₁) s₁ := by
  have rv := vals_ints hi
  cases hk : K.lookup a with
  | some o =>
    have e : o = { cls := .type "list", data := .seq vs.toArray } := Option.some.inj ((KX a o hk).symm.trans ha)
    subst e
    have O : Only fun _ => none := fun _ => .inl rfl
    refine call_at (H := fun _ => none) KX hns hb hbb hlim hg ha hr F hbind O (fun b z => absurd rfl z) (fun z => absurd rfl z) (fun b u z => nomatch z) (hsp _ O (.inr ?_))
    exact ⟨_, vs.toArray, _, hk, rfl, rfl, rfl, by rw [List.size_toArray, hi.length]; exact hl, rv⟩
  | none =>
    let H : Hp := fun b => if b = a then some (.frz { cls := .type "list", data := .seq vs.toArray } (.lst (ns.map V.int))) else none
    have at_a : H a = some (.frz { cls := .type "list", data := .seq vs.toArray } (.lst (ns.map V.int))) := if_pos rfl
    have off : ∀ b, b ≠ a → H b = none := fun b hb => if_neg hb
    have O : Only H := fun b => by
      by_cases hb : b = a
      · exact .inr ⟨_, _, by rw [hb]; exact at_a⟩
      · exact .inl (off b hb)
    refine call_at (H := H) KX hns hb hbb hlim hg ha hr F hbind O (fun b z => Classical.byContradiction fun q => z (off b q)) (fun _ => hk) (fun b u z => ?_) (hsp H O (.inl (.inr ⟨_, at_a⟩)))
    by_cases hb : b = a
    · subst hb
      rw [at_a] at z
      cases z
      exact ⟨ha, by rw [List.length_map]; exact hl, vs, _, rv, ha⟩
    · rw [off b hb] at z
      cases z
end
/-- what the head leaves, from the law's promise -/
theorem walkQ {l : PySem.W.OpenLaw} {n k : Nat} {q : Program} {loose : List Str} {XP : (Str → Option Value) → Heap → Prop} {YP : World → Heap → Prop} {d : DefRec} {K : Params → PySem.W.Frag} {sp : PySem.W.Frag → Sp} {x : Str}
    (hn : l.most = some n) (hn2 : n ≤ sizeLine) (hdf : d.params.defaults = []) (hr : Room k callerA) (hY : ∀ (w : World) (h : Heap), YP w h → (K w.params).In h)
    (F : ∀ (w : World) (mg : Str → Option Value) (fa : Addr) (h : Heap), (K w.params).In h → h.Ns mainGlobals mg → mg d.name = some (.ref fa) →
      ∃ fd : FuncData, (∀ (s : Shared) (u : Value), BindsTo s fd ⟨[u], []⟩ [(x, u)]) ∧
        ∀ base : Heap, (K w.params).In base → base.Ns mainGlobals mg → FnQ l.prog w (K w.params) mg base CX0 k fa fd [x] (sp (K w.params)))
    (hsp : ∀ (K : PySem.W.Frag) (H : Hp) (a : Addr) (ns : List Int), ns.length ≤ n → Only H → SqL K H a (ns.map V.int) → sp K [.ref a] H (fun v _ => v = .bl true) fun _ _ _ => False) :
    PySem.W.WalkO q loose XP YP l.row.toRowW d [] (fun f vs => PySem.call f vs) := by
  refine Att.attach_call hn hdf ?_
  intro w s₀ s₁ mg mb fa o pm cd doc a vs ns G Y ho hd hcd hmg hobj hints hlen hg
  obtain ⟨fd, hb, hF⟩ := F w mg fa _ (hY w _ Y) G.T.g hmg
  exact call_law (hY w _ Y) G.T.g G.T.b G.T.builtins G.T.nolimit hg hobj hints (Nat.le_trans hlen hn2) hr hF hb fun H hO hS => hsp _ H a ns hlen hO hS
end Ver
namespace Ver
open PySem PySem.Spec PyProof.Rows L2
/-! ### types -/
def tyName : PyData → String
  | .none => "NoneType"
  | .bool _ => "bool"
  | .int _ => "int"
  | .str _ => "str"
  | .list _ => "list"
  | .tuple _ => "tuple"
  | .dict _ => "dict"
theorem Da.ty {K : PySem.W.Frag} {N : Addr → Prop} {H : Hp} : ∀ {v : V} {d : PyData}, Da N H v d → TyX K H v (.type (tyName d))
  | _, _, .non => .base .non
  | _, _, .bl b => .base (.bl b)
  | _, _, .int i => .base (.int i)
  | _, _, .str x => .base (.str x)
  | _, _, .lst e _ _ _ => .base (.lst e)
  | _, _, .tup e _ _ => .base (.tup e)
  | _, _, .emp e _ => .base (.dK e)
def isStr : PyData → Bool
  | .str _ => true
  | _ => false
def isTup : PyData → Bool
  | .tuple _ => true
  | _ => false
def isInt : PyData → Bool
  | .int _ => true
  | .bool _ => true
  | _ => false
def isBool : PyData → Bool
  | .bool _ => true
  | _ => false
section
variable {K : PySem.W.Frag}
theorem kit_str (d : PyData) : PySem.W.kitOne K (.type (tyName d)) (.type "str") = some (isStr d) := by
  cases d <;> (dsimp only [tyName, isStr]; exact kit_ty (by decide +kernel))
theorem kit_tuple (d : PyData) : PySem.W.kitOne K (.type (tyName d)) (.type "tuple") = some (isTup d) := by
  cases d <;> (dsimp only [tyName, isTup]; exact kit_ty (by decide +kernel))
theorem kit_int (d : PyData) : PySem.W.kitOne K (.type (tyName d)) (.type "int") = some (isInt d) := by
  cases d <;> (dsimp only [tyName, isInt]; exact kit_ty (by decide +kernel))
theorem kit_bool (d : PyData) : PySem.W.kitOne K (.type (tyName d)) (.type "bool") = some (isBool d) := by
  cases d <;> (dsimp only [tyName, isBool]; exact kit_ty (by decide +kernel))
end
section
variable {X : Cx}
/-- the same rules, where it is told last which addresses are left out -/
def rEqE : R2 := fun x y H Q => ∃ N, rEqS N x y H Q
theorem op_eqE (hu : X.A.units < cLine) : OpR X (compareOp .Eq) rEqE := fun pins s σ H x y v u Q I rx ry ⟨N, h⟩ => op_eqS (N := N) hu pins s σ H x y v u Q I rx ry h
theorem call_reprE {n k : Nat} (hg : X.A.guards = some []) (hu : X.A.units + (k + 1) < cLine) (hn : n ≤ sizeLine) :
    CallR X (.builtin "repr") (fun xs H Q => ∃ N v d, xs = [v] ∧ Da N H v d ∧ Fit n k d ∧ Q (.str d.shown) H) :=
  fun pins s σ H xs us Q I r ⟨N, h⟩ => call_reprD (N := N) hg hu hn pins s σ H xs us Q I r h
end
end Ver
/-! Ver, 7: own exceptions over ValueError or LookupError whose __init__ says Base.__init__(self, text): made, asked, read -/
namespace Ver
open PySem PySem.Spec PyProof.Rows L2
open PySem.W (excInitIn excOver findIn hasDictIn keepIn subIn typeIn)
/-- what the built-in base gives -/
structure ExB (bmB : List Value) (newId initId : String) : Prop where
  ex : ∃ B, ExcBaseFacts B newId initId bmB ∧ StoreFacts B bmB "object.__setattr__" "object"
theorem exB_VE : ExB [.type "ValueError", .type "Exception", .type "BaseException", .type "object"] "ValueError.__new__" "ValueError.__init__" := ⟨_, F.excBase_ValueError, F.store_ValueError⟩
theorem exB_LE : ExB [.type "LookupError", .type "Exception", .type "BaseException", .type "object"] "LookupError.__new__" "LookupError.__init__" := ⟨_, F.excBase_LookupError, F.store_LookupError⟩
/-- what the top says of such a class -/
structure ExC (K : PySem.W.Frag) (C : Addr) (bmB : List Value) (newId : String) : Prop where
  ini : excInitIn K C bmB newId = true
  ovr : excOver K C bmB = true
  dic : hasDictIn K C = true
  sa : findIn K (.ref C) "__setattr__" = some (some (.builtin "object.__setattr__"))
  kC : keepIn K (.ref C) = true
  ga : findIn K (.ref C) "__getattribute__" = some (some (.builtin "BaseException.__getattribute__"))
  gg : findIn K (.ref C) "__getattr__" = some none
  exC : subIn K (.ref C) (.type "BaseException") = some true
  tyC : typeIn K (.ref C) = some (.type "type")
  ha : findIn K (.ref C) "__class__" = some (some (.builtin "object.__class__"))
  hm : PySem.W.mroIn K C (.type "object") = some true
section
variable {prog : Program} {w : World} {A : Around} {E : Value → Shared → Prop} {R : Result → Shared → Prop} {hp : Heap} {g : Array GenState} {d : Drawn} {t : Nat} {os : OsState}
theorem cls_dict {K : PySem.W.Frag} {C : Addr} (h : hasDictIn K C = true) : ∃ cd, PySem.W.clsIn K C = some cd ∧ cd.hasDict = true := by
  obtain ⟨cd, h1, h2⟩ := PySem.W.any_some h
  exact ⟨cd, h1, h2⟩
/-- x.name = v on an exception without a dict as yet -/
theorem store_first {K : PySem.W.Frag} {bmB : List Value} {newId initId : String} {name : Str} {tk : Tok} {v : Value} {x C : Addr} {fv : Array Value} (B : ExB bmB newId initId) (T : ExC K C bmB newId) (X : K.In hp) (hx : hp.get? x = some { cls := .ref C, data := .fields fv })
    (ha : findIn K (.ref C) name = some none)
    (hq : ∀ h' tk' dx, (∀ b o, b ≠ x → hp.get? b = some o → h'.get? b = some o) → hp.objs.size ≤ dx → dx ≠ x → h'.get? x = some { cls := .ref C, dict := some dx, data := .fields fv } →
      h'.Ns1 dx (fun y => if y = name then some v else none) → R (.ok (.ret .none)) ⟨h', g, d, tk', os⟩) :
    codeAny (model prog w) A (.call (.builtin "object.__setattr__") ⟨[.ref x, .str name tk, v], []⟩) R ⟨hp, g, d, t, os⟩ := by
  obtain ⟨_, _, SF⟩ := B.ex
  obtain ⟨cd, hcd, hh⟩ := cls_dict T.dic
  have I : PySem.W.InstAt hp x { cls := .ref C, data := .fields fv } C none := ⟨hx, rfl, rfl, trivial⟩
  have apart : x ≠ hp.objs.size := Nat.ne_of_lt (Heap.lt_size hx)
  have look : PySem.W.Looks (model prog w) hp (classData C) cd := PySem.W.looks_clsIn X hcd
  refine PySem.W.osa_openX SF X I T.ovr (NoAttr.taker (show NoAttr K C name from ha)) fun b => ?_
  obtain ⟨nm, bs, mro, ns, qn, hd, sn, sb, ab, col, del⟩ := cd
  dsimp only at hh
  subst hh
  unfold Builtin.ObjectAttr.storeInOwnDict Builtin.ObjectAttr.ownDictForStores
  repeat (first | with_reducible refine PySem.HandSPX.store_in_new ?_ ?_ | with_reducible refine wpAny_loadPart_at hx ?_ | with_reducible refine look.at ?_ | wp_step)
  · exact ⟨_, #[], _, (Heap.get?_update_ne _ _ _ _ apart.symm).trans (Heap.get?_push_at rfl rfl), rfl, fun e he => absurd he (by simp), fun _ => rfl⟩
  · intro h' tk' hn' hs
    have hx₁ : (hp.push { cls := .type "dict", data := .dict #[] }).get? x = some { cls := .ref C, data := .fields fv } := Heap.get?_push_of_some _ hx
    refine hq h' tk' hp.objs.size (fun b o hb ho => ?_) (Nat.le_refl _) apart.symm ((hs.2 x apart).trans (Heap.get?_update_self _ hx₁ rfl)) hn'
    exact (hs.2 b (Nat.ne_of_lt (Heap.lt_size ho))).trans ((Heap.get?_update_ne _ _ _ _ hb).trans (Heap.get?_push_of_some _ ho))
end
section
variable {X : Cx} {pins : List (Addr × Obj)} {σ : L2.St} {H : Hp} {s : Shared} {a C dx : Addr} {f : Str} {y : V} {u : Value} {A : Around} {bmB : List Value} {newId initId : String}
/-- the tree of an exception's class, of its own -/
theorem exC_obj (T : ExC X.K C bmB newId) (I : Inv X pins σ H s) : ∃ nm N qn bs bm hdct sn sub ab col dd k0 k1 k2 k3 k5,
    s.heap.get? C = some (excClassObj nm qn C N bs bm hdct sn sub ab col dd k0 k1 k2 k3 k5 newId) ∧ ∀ Y : String, bm.contains (.type Y) = bmB.contains (.type Y) := PySem.W.excInit_of I.kIn T.ini
/-- self.f = y, the only one -/
theorem set_first {E : Value → Shared → Prop} {Q : Unit → Shared → Prop} (B : ExB bmB newId initId) (T : ExC X.K C bmB newId) (I : Inv X pins σ H s) (e : H a = some (exo a C none)) (hno : findIn X.K (.ref C) f = some none) (ry : RelV y u)
    (h : ∀ dx s', H dx = none → dx ≠ a → Inv X pins σ (upd (upd H dx (exd dx [(f, y)])) a (exo a C (some dx))) s' → Q () s') : wpAny (model X.prog X.w) A (setAttr (.ref a) f u) Q E s := by
  obtain ⟨t1, ho⟩ := exo_at I.hok e
  obtain ⟨hp, g, d, t, os⟩ := s
  refine PySem.W.set_plain I.kIn (ox := { cls := .ref C, dict := none, data := .fields #[.ref t1, .none, .none, .none, .bool false, .none] }) (od := none) ⟨ho, rfl, rfl, trivial⟩ T.sa ?_
  refine store_first B T I.kIn ho hno ?_
  intro h' tk' dx keep new apart hx hn
  have free : H dx = none := I.hok.fresh new
  have old : ∀ {b : Addr} {o : Obj}, hp.get? b = some o → b ≠ dx := fun {b o} q => Nat.ne_of_lt (Nat.lt_of_lt_of_le (Heap.lt_size q) new)
  have offA : ∀ {b : Addr}, H b = none → b ≠ a := fun {b} n z => by
    rw [z, e] at n
    cases n
  have U : Un X.fs [] H (upd (upd H dx (exd dx [(f, y)])) a (exo a C (some dx))) hp h' :=
    ⟨fun b o q n _ _ => keep b o (offA n) q, fun b o q n _ _ => ⟨o.slots, keep b o (offA n) q⟩,
     fun b o q n _ => by rw [upd_ne (offA n), upd_ne (old q)]; exact n,
     fun b o q _ => (Classical.em (b = a)).elim (fun z => ⟨_, (congrArg h'.get? z).trans hx⟩) fun z => ⟨o, keep b o z q⟩,
     fun b xs q => by rw [upd_ne (at_ne e q exo_tup), upd_ne (ne_of_none q free)]; exact q,
     fun b o v q => by rw [upd_ne (at_ne e q exo_frz), upd_ne (ne_of_none q free)]; exact q,
     fun b ps q => ⟨#[], by rw [upd_ne (at_ne e q exo_tbl), upd_ne (ne_of_none q free), q]; simp⟩⟩
  refine h dx _ free apart (I.un (t' := tk') U fun b o q => ?_)
  rcases Classical.em (b = a) with hb | hb
  · subst hb
    obtain rfl := Option.some.inj (upd_same.symm.trans q)
    exact exo_ok hx
  · rw [upd_ne hb] at q
    rcases Classical.em (b = dx) with hd | hd
    · subst hd
      obtain rfl := Option.some.inj (upd_same.symm.trans q)
      exact exd_ok hn (relO_put (fs := []) ry fun g => trivial)
    · rw [upd_ne hd] at q
      refine (I.hok b o q).stay (fun c v hc z => keep c v ?_ z) (fun c hc => ?_) fun c xs hc => ?_
      · rcases hc with hc | hc
        · rwa [hc]
        · exact at_ne e hc exo_own
      · rw [upd_ne (at_ne e hc exo_own), upd_ne (ne_of_none hc free)]
        exact hc
      · rw [upd_ne (at_ne e hc exo_tup), upd_ne (ne_of_none hc free)]
        exact hc
/-- Base.__init__(self, ..): nothing of it is told -/
theorem base_init {E : Value → Shared → Prop} {Q : Value → Shared → Prop} {us : List Value} (B : ExB bmB newId initId) (T : ExC X.K C bmB newId) (I : Inv X pins σ H s) (e : H a = some (exo a C none)) (hl : us.length ≤ sizeLine) (h : ∀ s', Inv X pins σ H s' → Q .none s') :
    wpAny (model X.prog X.w) A (call (.builtin initId) (.ref a :: us)) Q E s := by
  obtain ⟨_, FB, _⟩ := B.ex
  obtain ⟨nm, N, qn, bs, bm, hdct, sn, sub, ab, col, dd, k0, k1, k2, k3, k5, hC, hT⟩ := exC_obj T I
  obtain ⟨t1, ho⟩ := exo_at I.hok e
  obtain ⟨hp, g, d, t, os⟩ := s
  refine wpAny_call (PySem.HandSPX.init_base FB hT hC ho hl fun h' t2 keep hx => ?_)
  have same : upd H a (exo a C none) = H := by
    funext b
    rcases Classical.em (b = a) with hb | hb
    · rw [hb, upd_same, e]
    · exact upd_ne hb
  have J := I.write (t' := t) (x := a) (e := a) (o := exo a C none) (by rw [e]; exact trivial) (.inl rfl) keep ⟨_, hx⟩ (exo_ok hx)
  exact h _ (same ▸ J)
end
/-! ### readings and rules -/
/-- Base.__init__(self, ..) -/
def tBI (K : PySem.W.Frag) (bmB : List Value) (newId : String) (ta : TA) : TE := fun σ H Q => ta σ H fun vs H1 => ∃ (a C : Addr) (ws : List V), vs = .ref a :: ws ∧ ws.length ≤ 1000 ∧ ExC K C bmB newId ∧ H1 a = some (exo a C none) ∧ Q .non H1
/-- self.f = e, the only one -/
def tSt1 (K : PySem.W.Frag) (bmB : List Value) (newId : String) (f : Str) (to te : TE) : TS := fun D σ H => te σ H fun y H1 => to σ H1 fun x H2 => ∃ a C : Addr, x = .ref a ∧ ExC K C bmB newId ∧ findIn K (.ref C) f = some none ∧ H2 a = some (exo a C none) ∧
  ∀ dx, H2 dx = none → dx ≠ a → D.nx σ (upd (upd H2 dx (exd dx [(f, y)])) a (exo a C (some dx)))
/-- C(e, ..) as a value -/
def tMkX (C : Addr) (sp : Sp) (dvs : List V) (ta : TA) : TE := fun σ H Q => ta σ H fun vs H1 => vs.length ≤ 1000 ∧ ∀ a, H1 a = none → sp (.ref a :: (vs ++ dvs)) (upd H1 a (exo a C none)) (fun v H2 => v = .non ∧ Q (.ref a) H2) (fun _ _ _ => False)
/-- the base of own exceptions, a class of the top: what reading its __init__ asks -/
structure BaseC (K : PySem.W.Frag) (G : Addr) (initId : String) : Prop where
  sp : PySem.W.specialIn K (.ref G) "__getattribute__" = some (some (.builtin "type.__getattribute__"))
  rd : PySem.W.readsIn K G (.type "type") = true
  fc : PySem.W.findCls K (.ref G) (.type "type") "__init__" = some (.val (.builtin initId))
section
variable {X : Cx} {o e : Expr} {es : List Expr} {to te : TE} {ta : TA} {f x : Str} {p p' p1 p2 pos : Pos} {bmB : List Value} {newId initId : String} {G : Addr}
theorem pe_binit {pl : Sem Bool} (B : ExB bmB newId initId) (hg : Gl X x) (hm : X.mg x = some (.ref G)) (T : BaseC X.K G initId) (hh : PySem.W.handedIn (.builtin initId) = true) (hty : typeOf (.builtin initId) = pure (.type "wrapper_descriptor")) (ha : PA X (e :: es) ta)
    (hdb : (x == ("__debug__" : Str)) = false := by decide)
    (hc : eval (.Call (.Attribute (.Name x p1) "__init__" p2) (e :: es) [] pos) X.env = (do
      let ov ← eval (.Name x p1) X.env
      standAt p2.atName
      let (f, first) ← holding [ov] (getMethod ov "__init__" pl)
      callWith pos f first (backTo pos (starEach (e :: es) X.env)) (backToKw pos (keywordEach [] X.env))) := by rfl)
    (he : starEach (e :: es) X.env = (false, eval e X.env) :: starEach es X.env := by rfl) (hpl : (backTo pos (starEach es X.env)).any (·.1) = false := by rfl) :
    PE X (.Call (.Attribute (.Name x p1) "__init__" p2) (e :: es) [] pos) (tBI X.K bmB newId ta) := by
  refine ⟨fun pins s σ H Q I h => ?_⟩
  refine PySem.W.methodCall_KW (ld_glob I hg hm ?_ hdb) hc
  refine PySem.W.method_cls I.kIn T.sp (PySem.W.cls_value I.kIn T.rd T.fc hh ?_)
  show wpAny _ _ (callWith pos (Value.builtin initId) [] (backTo pos (starEach (e :: es) X.env)) []) _ _ _
  refine callWith_method1 (thn (ha.run pos pins _ σ H _ (I.tok _) h) ?_) he hpl
  rintro us s1 ⟨vs, H1, I1, r1, a, C, ws, rfl, hl, TC, ea, q⟩
  cases r1 with
  | @cons _ u0 _ ur ra rw' =>
    obtain rfl : u0 = Value.ref a := ra
    refine base_init B TC I1 ea ?_ fun s' J => ⟨.non, H1, J, rfl, q⟩
    rw [← Paired.length rw']
    exact Nat.le_trans hl (by decide)
/-- self.f = e -/
theorem ps_st1 (B : ExB bmB newId initId) (ho : PE X o to) (he : PE X e te) (hs : swapsWith e (some (.Attribute o f p')) pos.line X.env = pure false := by rfl) : PS X (.Assign [.Attribute o f p'] e pos) (tSt1 X.K bmB newId f to te) := by
  refine ⟨fun pins s σ H D I h => ?_⟩
  refine plainObj_wpAny_Assign_Attribute (thn (he.run pins s σ H _ I h) ?_) hs
  rintro v s1 ⟨y, H1, I1, r1, q1⟩
  refine thn (ho.run pins s1 σ H1 _ I1 q1) ?_
  rintro u s2 ⟨x, H2, I2, r2, a, C, rfl, T, hno, ea, q⟩
  obtain rfl : u = Value.ref a := r2
  exact set_first B T I2 ea hno r1 fun dx s' n ne J => ⟨σ, _, J, q dx n ne⟩
/-- making is one callee more -/
theorem run_mkx {CX : CXT} {C fI : Addr} {k : Nat} {fd : FuncData} {ps : List Str} {sp : Sp} {ds : List Value} {dvs : List V} {pins : List (Addr × Obj)} {σ : L2.St} {H1 : Hp} {s1 : Shared} {vs : List V} {us : List Value} {Q : VK} (B : ExB bmB newId initId) (T : ExC X.K C bmB newId)
    (iC : findIn X.K (.ref C) "__init__" = some (some (.ref fI))) (tI : typeIn X.K (.ref fI) = some (.type "function")) (F1 : FnOk X.prog X.w X.K X.mg X.base CX k fI fd ps sp) (hr : Room (k + 1) X.A) (hb : Binds X.K fd ps ds) (hd : Vals dvs ds) (hx : Passes CX X (fun _ _ _ => False))
    (I1 : Inv X pins σ H1 s1) (r1 : Vals vs us) (hz : vs.length ≤ 1000)
    (q1 : ∀ a, H1 a = none → sp (.ref a :: (vs ++ dvs)) (upd H1 a (exo a C none)) (fun v H2 => v = .non ∧ Q (.ref a) H2) (fun _ _ _ => False)) : wpAny (model X.prog X.w) X.A (call (.ref C) us) (EP X pins σ Q) X.xe s1 := by
  obtain ⟨_, FB, _⟩ := B.ex
  obtain ⟨nm, N, qn, bs, bm, hdct, sn, sub, ab, col, dd, k0, k1, k2, k3, k5, hC, hT⟩ := exC_obj T I1
  have li := PySem.W.looks_findIn (M := model X.prog X.w) I1.kIn iC
  have lb := fun self => PySem.W.bind_fn (M := model X.prog X.w) I1.kIn self tI
  obtain ⟨hp, g, dr, tk, os⟩ := s1
  have next : hp.objs.size ≤ hp.objs.size + 1 := Nat.le_succ _
  have q2 := q1 (hp.objs.size + 1) (I1.hok.fresh next)
  have keep : ∀ b o, hp.get? b = some o → ((hp.push (PySem.W.kdv_tup us)).push (PySem.HandSPX.excO C hp.objs.size)).get? b = some o := fun b o e => Heap.get?_push_of_some _ (Heap.get?_push_of_some _ e)
  have there : ((hp.push (PySem.W.kdv_tup us)).push (PySem.HandSPX.excO C hp.objs.size)).get? (hp.objs.size + 1) = some (PySem.HandSPX.excO C hp.objs.size) := by heap_get
  have I2 : Inv X pins σ (upd H1 (hp.objs.size + 1) (exo (hp.objs.size + 1) C none)) ⟨(hp.push (PySem.W.kdv_tup us)).push (PySem.HandSPX.excO C hp.objs.size), g, dr, tk, os⟩ :=
    I1.laid (t' := tk) (a := hp.objs.size + 1) (o := exo (hp.objs.size + 1) C none) keep next (exo_ok there)
  have r2 : Vals (V.ref (hp.objs.size + 1) :: (vs ++ dvs)) (Value.ref (hp.objs.size + 1) :: (us ++ ds)) := .cons rfl (r1.append hd)
  have many : (Value.ref (hp.objs.size + 1) :: us ++ ds).length = ps.length := r2.length.symm.trans (F1.len _ _ _ _ q2)
  have small : us.length ≤ sizeLine := by
    rw [← Paired.length r1]
    exact Nat.le_trans hz (by decide)
  refine wpAny_call (PySem.HandSPX.call_own FB hT hC li lb small (codeAny_mono (F1.run _ X.stack _ _ ⟨Value.ref (hp.objs.size + 1) :: us, []⟩ _ _ _ (fun _ _ _ => False) (hr.make C us []) (I2.env0.make C us []) (hb _ (Value.ref (hp.objs.size + 1) :: us) I2.kIn many) r2 q2) ?_))
  intro r s' hq
  match r, hq with
  | .error er, hq => exact hx pins σ _ _ er s' I2 hq
  | .ok .next, hq => exact hq.elim
  | .ok .brk, hq => exact hq.elim
  | .ok .cont, hq => exact hq.elim
  | .ok (.ret u), hq =>
    obtain ⟨v, H2, J, rv, rfl, q⟩ := I2.after hq
    exact ⟨rv, .ref _, H2, J, rfl, q⟩
/-- C() -/
theorem pe_mkx0 {CX : CXT} {C fI : Addr} {k : Nat} {fd : FuncData} {ps : List Str} {sp : Sp} {ds : List Value} {dvs : List V} (B : ExB bmB newId initId) (T : ExC X.K C bmB newId) (iC : findIn X.K (.ref C) "__init__" = some (some (.ref fI)))
    (tI : typeIn X.K (.ref fI) = some (.type "function")) (F1 : FnOk X.prog X.w X.K X.mg X.base CX k fI fd ps sp) (hr : Room (k + 1) X.A) (hb : Binds X.K fd ps ds) (hd : Vals dvs ds) (hx : Passes CX X (fun _ _ _ => False)) (hg : Gl X x) (hm : X.mg x = some (.ref C))
    (hdb : (x == ("__debug__" : Str)) = false := by decide) : PE X (.Call (.Name x p) [] [] pos) (tMkX C sp dvs tNil) := by
  refine ⟨fun pins s σ H Q I h => ?_⟩
  refine wpAny_Call_Name_kw (ld_glob I hg hm ?_ hdb)
  exact PySem.W.callWith_K0 I.kIn T.kC (run_mkx (us := []) B T iC tI F1 hr hb hd hx I .nil (by decide) h.2)
/-- C(e, ..) -/
theorem pe_mkx1 {CX : CXT} {C fI : Addr} {k : Nat} {fd : FuncData} {ps : List Str} {sp : Sp} {ds : List Value} {dvs : List V} (B : ExB bmB newId initId) (T : ExC X.K C bmB newId) (iC : findIn X.K (.ref C) "__init__" = some (some (.ref fI)))
    (tI : typeIn X.K (.ref fI) = some (.type "function")) (F1 : FnOk X.prog X.w X.K X.mg X.base CX k fI fd ps sp) (hr : Room (k + 1) X.A) (hb : Binds X.K fd ps ds) (hd : Vals dvs ds) (hx : Passes CX X (fun _ _ _ => False)) (hg : Gl X x) (hm : X.mg x = some (.ref C))
    (ha : PA X (e :: es) ta) (hdb : (x == ("__debug__" : Str)) = false := by decide)
    (he : starEach (e :: es) X.env = (false, eval e X.env) :: starEach es X.env := by rfl) (hpl : (backTo pos (starEach es X.env)).any (·.1) = false := by rfl) : PE X (.Call (.Name x p) (e :: es) [] pos) (tMkX C sp dvs ta) :=
  ⟨fun pins s σ H Q I h => wpAny_Call_Name_kw (ld_glob I hg hm (PySem.W.callWith_K (h₀ := X.base) I.ok.mod.kin T.kC (thn (ha.run pos pins s σ H _ I h) fun us s1 ⟨vs, H1, I1, r1, hz, q1⟩ => ⟨I1.kIn, run_mkx B T iC tI F1 hr hb hd hx I1 r1 hz q1⟩) he hpl) hdb)⟩
end
/-! ### asking and reading -/
/-- what the top says of object.__class__ -/
structure ClsAttr (K : PySem.W.Frag) : Prop where
  hn : PySem.W.specialIn K (.builtin "object.__class__") "__get__" = some (some (.builtin "getset_descriptor.__get__"))
  ht : PySem.W.takesIn K (.builtin "object.__class__") = some true
/-- isinstance(x, c), x an exception of ours -/
def rIsX (K : PySem.W.Frag) : List V → Hp → VK → Prop := fun xs H Q => ∃ (bmB : List Value) (newId : String) (a C : Addr) (d : Option Addr) (c : V) (u : Value) (b : Bool), xs = [.ref a, c] ∧ ClsV c u ∧ ExC K C bmB newId ∧ H a = some (exo a C d) ∧
  (∀ dx, d = some dx → ∃ fs, H dx = some (exd dx fs)) ∧ PySem.W.kitOne K (.ref C) u = some b ∧ Q (.bl b) H
section
variable {X : Cx} {bmB : List Value} {newId : String}
/-- an exception of ours as an instance -/
theorem exo_inst {pins : List (Addr × Obj)} {σ : L2.St} {H : Hp} {s : Shared} {a C : Addr} {d : Option Addr} (I : Inv X pins σ H s) (e : H a = some (exo a C d)) (hd : ∀ dx, d = some dx → ∃ fs, H dx = some (exd dx fs)) : ∃ ox od, PySem.W.InstAt s.heap a ox C od := by
  obtain ⟨t1, ho⟩ := exo_at I.hok e
  cases d with
  | none => exact ⟨_, none, ho, rfl, rfl, trivial⟩
  | some dx =>
    obtain ⟨fs, ed⟩ := hd dx rfl
    obtain ⟨mA, ⟨oD, _, _, hD, _⟩, _⟩ := exd_at I.hok ed
    exact ⟨_, some oD, ho, rfl, rfl, hD⟩
theorem call_isX (A : ClsAttr X.K) : CallR X (.builtin "isinstance") (rIsX X.K) := by
  rintro pins s σ H xs us Q I r ⟨bmB, newId, a, C, d, c, u, b, rfl, k, T, ea, hd, e, q⟩
  obtain ⟨u1, u2, rfl, r1, r2⟩ := vals2 r
  obtain rfl := k.eq r2
  obtain rfl : u1 = Value.ref a := r1
  obtain ⟨ox, od, J⟩ := exo_inst I ea hd
  obtain ⟨cd, hcd, _⟩ := cls_dict T.dic
  exact PySem.W.kia_one (PySem.W.kitx_exc (by rw [hcd]; rfl) T.ga T.gg T.exC T.ha A.hn A.ht T.hm) I.kIn J e (fun z => nomatch z) fun tk => ⟨.bl b, H, I.tok tk, rfl, q⟩
/-- e.f, e an exception of ours -/
def tXf (K : PySem.W.Frag) (f : Str) (te : TE) : TE := fun σ H Q => te σ H fun x H1 => ∃ (bmB : List Value) (newId : String) (a C d : Addr) (fs : List (Str × V)) (v : V), x = .ref a ∧ ExC K C bmB newId ∧ findIn K (.ref C) f = some none ∧ H1 a = some (exo a C (some d)) ∧ H1 d = some (exd d fs) ∧ fs.lookup f = some v ∧ Q v H1
theorem pe_xfld {e : Expr} {te : TE} {f : Str} {pos : Pos} (he : PE X e te) (hb : attributeBase e f X.env (eval e X.env) = eval e X.env := by rfl) : PE X (.Attribute e f pos) (tXf X.K f te) := by
  refine ⟨fun pins s σ H Q I h => attr_of hb (thn (he.run pins s σ H _ I h) ?_)⟩
  rintro u s1 ⟨x, H1, I1, rx, bmB, newId, a, C, d, fs, v, rfl, T, hno, ea, ed, l, q⟩
  obtain rfl : u = Value.ref a := rx
  obtain ⟨t1, ho⟩ := exo_at I1.hok ea
  obtain ⟨mA, hns, hr⟩ := exd_at I1.hok ed
  obtain ⟨od, hod, hl⟩ := lookIn_ns hns
  obtain ⟨u, hu, ru⟩ := RelO.some_of (v := v) (o := mA f) (by rw [← l]; exact hr f)
  have J : PySem.W.InstAt s1.heap a { cls := .ref C, dict := some d, data := .fields #[.ref t1, .none, .none, .none, .bool false, .none] } C (some od) := ⟨ho, rfl, rfl, hod⟩
  exact PySem.HandSPX.exc_get I1.kIn J T.ga T.gg T.exC (PySem.W.findObj_own T.dic hno rfl (by rw [hl, hu])) (handed_of ru) ⟨v, H1, I1.tok _, ru, q⟩
theorem pe_xfldK {K : PySem.W.Frag} {e : Expr} {te : TE} {f : Str} {pos : Pos} (hK : X.K = K) (he : PE X e te) (hb : attributeBase e f X.env (eval e X.env) = eval e X.env := by rfl) : PE X (.Attribute e f pos) (tXf K f te) := by
  subst hK
  exact pe_xfld he hb
end
end Ver
/-! Ver, 8: which classes an own exception is of; texts shown; an exception's object with at most one field -/
namespace Ver
open PySem PySem.Spec PyProof.Rows L2
open PySem.W (clsIn typeIn kitOne kitCls kitMeta subIn mroIn findIn)
/-- the classes of C, itself ahead -/
def mroAt (K : PySem.W.Frag) (C : Addr) : Option (List Value) := (clsIn K C).map (·.mro)
theorem sub_mro {K : PySem.W.Frag} {C : Addr} {m : List Value} {v : Value} (h : mroAt K C = some (.ref C :: m)) : subIn K (.ref C) v = some ((Value.ref C :: m).contains v) := by
  obtain ⟨cd, h1, h2⟩ := Option.map_eq_some_iff.mp h
  show mroIn K C v = _
  unfold mroIn
  rw [h1, Option.bind_some, h2]
  rfl
theorem kit_own {K : PySem.W.Frag} {C D : Addr} {m : List Value} (h : mroAt K C = some (.ref C :: m)) (hD : (clsIn K D).isSome = true) (tD : typeIn K (.ref D) = some (.type "type")) :
    kitOne K (.ref C) (.ref D) = some ((Value.ref C :: m).contains (.ref D)) := by
  unfold kitOne
  split
  · rename_i e
    have e' : Value.ref C = Value.ref D := beq_iff_eq.mp e
    rw [← e', List.contains_cons, beq_self_eq_true, Bool.true_or]
  · show kitCls K (.ref C) (.ref D) = _
    unfold kitCls
    dsimp only
    rw [if_pos (by rw [hD, tD]; rfl), sub_mro h]
theorem kit_bi {K : PySem.W.Frag} {C : Addr} {T : String} {m : List Value} (h : mroAt K C = some (.ref C :: m)) (hT : kitMeta T = true) : kitOne K (.ref C) (.type T) = some ((Value.ref C :: m).contains (.type T)) := by
  unfold kitOne
  rw [if_neg (by show ¬ (Value.ref C == Value.type T) = true; intro e; cases (beq_iff_eq.mp e))]
  show kitCls K (.ref C) (.type T) = _
  unfold kitCls
  dsimp only
  rw [if_pos hT, sub_mro h]
/-- the object at a: of the class C, with at most one field -/
def Exn (H : Hp) (a C : Addr) : Option (Str × V) → Prop
  | none => H a = some (exo a C none)
  | some (f, v) => ∃ dx, H a = some (exo a C (some dx)) ∧ H dx = some (exd dx [(f, v)])
theorem Exn.same {H H' : Hp} {a C : Addr} (k : Same H H') : ∀ {o : Option (Str × V)}, Exn H a C o → Exn H' a C o
  | none, h => k _ _ h
  | some _, ⟨dx, h1, h2⟩ => ⟨dx, k _ _ h1, k _ _ h2⟩
theorem Exn.is {H : Hp} {a C : Addr} : ∀ {o : Option (Str × V)}, Exn H a C o → ∃ d, H a = some (exo a C d) ∧ ∀ dx, d = some dx → ∃ fs, H dx = some (exd dx fs)
  | none, h => ⟨none, h, fun _ z => nomatch z⟩
  | some _, ⟨dx, h1, h2⟩ => ⟨some dx, h1, fun y z => by cases z; exact ⟨_, h2⟩⟩
section
variable {X : Cx}
/-- repr(x), x a text -/
theorem call_reprT : CallR X (.builtin "repr") (fun xs H Q => ∃ x : Str, xs = [.str x] ∧ (reprText x).length ≤ sizeLine ∧ Q (.str (reprText x)) H) := by
  rintro pins s σ H xs us Q I r ⟨x, rfl, hz, q⟩
  obtain ⟨u, rfl, t, rfl⟩ := vals1 r
  exact PySem.P.repr_of_str ⟨.str _, H, I.tok _, ⟨_, rfl⟩, q⟩ hz
end
section
variable {X : Cx}
/-- tuple(x), x a list or a tuple: in one way -/
theorem call_tupU : CallR X (.type "tuple") (fun xs H Q => ∃ p ys, xs = [.ref p] ∧ (H p = some (.lst ys) ∨ H p = some (.tup ys)) ∧ ∀ t H', Same H H' → H' t = some (.tup ys) → (t = p ∨ H t = none) → Q (.ref t) H') := by
  rintro pins s σ H xs us Q I r ⟨p, ys, rfl, h, q⟩
  refine call_tuple_of pins s σ H _ us Q I r ⟨p, ys, rfl, ?_⟩
  rcases h with h | h
  · exact .inl ⟨SqL.of h, fun l hl => q l _ (same_new hl) upd_same (.inr hl)⟩
  · exact .inr ⟨SqT.of h, q p H (Same.refl H) h (.inl rfl)⟩
end
theorem fresh {H : Hp} {t : Addr} (n : H t = none) (o : HO) : ∃ H', upd H t o = H' ∧ Same H H' ∧ H' t = some o := ⟨_, rfl, same_new n, upd_same⟩
/-- what can be told in a text of at most a thousand signs -/
def TellOk : PyData → Prop
  | .str x => x.length ≤ 1000 ∧ (reprText x).length ≤ 1000
  | .bool _ => False
  | _ => True
/-- told(x): some text -/
def spTold : Sp := fun vs H Q _ => ∃ N v d, vs = [v] ∧ Da N H v d ∧ TellOk d ∧ ∀ t : Str, t.length ≤ 1000 → Q (.str t) H
theorem toldInt {i : Int} (h1 : -1000000 < i) (h2 : i < 1000000) : i.natAbs.log2 < 1920 ∧ (Str.ofString (toString i)).length ≤ 1000 := by
  have h3 : i.natAbs < 1000000 := by omega
  have h4 : i.natAbs.log2 < 20 := by
    rcases Nat.eq_zero_or_pos i.natAbs with z | z
    · rw [z]
      decide
    · exact (Nat.log2_lt (by omega)).mpr (by omega)
  refine ⟨by omega, ?_⟩
  have e := PySem.int_text_length_le (a := i) (k := 20) (by decide) h4
  rw [PySem.ofString_length]
  omega
theorem Das.fetch {N : Addr → Prop} {H : Hp} : ∀ {vs : List V} {ds : List PyData} {i : Nat} {v : V}, Das N H vs ds → vs[i]? = some v → ∃ d, ds[i]? = some d ∧ Da N H v d
  | _, _, _, _, .nil, e => by simp at e
  | _, _, 0, _, .cons h _, e => by
    simp at e
    subst e
    exact ⟨_, rfl, h⟩
  | _, _, i + 1, _, .cons _ t, e => by
    obtain ⟨v, h1, h2⟩ := Das.fetch (i := i) t (by simpa using e)
    exact ⟨v, by simpa using h1, h2⟩
theorem sum_le2 (l : List Str) (h : ∀ t ∈ l, t.length ≤ 1000) : (l.map (·.length)).sum ≤ 1000 * l.length := by
  induction l with
  | nil => simp
  | cons t r ih =>
    have h1 := h t (List.mem_cons_self ..)
    have h2 := ih fun u hu => h u (List.mem_cons_of_mem _ hu)
    simp only [List.map_cons, List.sum_cons, List.length_cons]
    omega
theorem join_le2 (a : Str) (ha : a.length ≤ 1000) (l : List Str) (h : ∀ t ∈ l, t.length ≤ 1000) : (Txt.join a l).length ≤ 2000 * l.length := by
  have e : (Txt.join a l).length ≤ (l.map (·.length)).sum + l.length * a.length := by
    unfold Txt.join
    rw [StrLaws.glued_eq_join]
    exact StrLaws.join_length_le a l
  have s : (l.map (·.length)).sum ≤ 1000 * l.length := by
    clear e
    induction l with
    | nil => simp
    | cons t r ih =>
      have h1 := h t (List.mem_cons_self ..)
      have h2 := ih fun u hu => h u (List.mem_cons_of_mem _ hu)
      simp only [List.map_cons, List.sum_cons, List.length_cons]
      omega
  have m : l.length * a.length ≤ l.length * 1000 := Nat.mul_le_mul_left _ ha
  omega
end Ver
/-! Ver, 9: repr of a list of plain data, wherever the list itself stands -/
namespace Ver
open PySem PySem.Spec PyProof.Rows L2
section
variable {X : Cx}
/-- repr(x), x a list of plain data, not empty; nothing is asked of where it stands -/
def rReprL (n k : Nat) : List V → Hp → VK → Prop := fun xs H Q => ∃ (N : Addr → Prop) (a : Addr) (vs : List V) (ds : List PyData), xs = [.ref a] ∧ H a = some (.lst vs) ∧ vs ≠ [] ∧ Das N H vs ds ∧ Fit n k (.list ds) ∧ Q (.str (PyData.list ds).shown) H
theorem call_reprL {n k : Nat} (hg : X.A.guards = some []) (hu : X.A.units + (k + 1) < cLine) (hn : n ≤ sizeLine) : CallR X (.builtin "repr") (rReprL n k) := by
  rintro pins s σ H xs us Q I r ⟨N, a, vs, ds, rfl, e, ne, hD, ⟨f1, f2, f3⟩, q⟩
  obtain ⟨u, rfl, ru⟩ := vals1 r
  cases ru
  obtain ⟨its, rv, ⟨o, m, ho, hc, _, hd⟩, _⟩ := I.list (SqL.of e)
  obtain ⟨as, h1, h2⟩ := hD.reads I rv
  have whole : Reads s.heap (.ref a) (.list ds) _ := .list ho hc hd h1
  have short : (listText (PyData.shownAll ds)).length ≤ sizeLine := Nat.le_trans f2 hn
  have able : PyData.showableAll ds = true := by simpa [PyData.showable] using f1
  obtain ⟨bs, most, parts⟩ := ReprAllK.of_readsAll (prog := X.prog) (w := X.w) h1 able (fun _ => h2) fun t ht => Nat.le_trans (listText_mem_le ht) short
  have apart : a ∉ bs := not_mem_of_deeper whole (by show PyData.depthAll ds < PyData.depthAll ds + 1; omega) most
  have deep : PyData.depthAll ds + 1 ≤ k := f3
  match its, rv, hd, parts with
  | [], rv, _, _ => exact (ne (by cases rv; rfl)).elim
  | x :: l, rv, hd, parts =>
    refine call_repr_slot (by omega) ⟨o, ho, hc⟩ F.slot_list_repr.toG (call_list_reprK ho hc hd apart (by simpa using parts.length_eq) (fun i y z => parts.item i y (by simpa using z)) hg (fun b _ => Clear.nil b)
      (by show X.A.units + 1 + (PyData.depthAll ds + 1) < cLine; omega) (fun _ _ z => z) (fun h' t tk kk => ⟨_, _, rfl, .str _, H, I.kept kk, ⟨_, rfl⟩, q⟩) short)
end
end Ver
/-! Ver, 10: own exceptions raised: raise C(e), C's __init__ a def that says Base.__init__(self, text) and keeps its argument -/
namespace Ver
open PySem PySem.Spec PyProof.Rows L2
open PySem.W (clsIn typeIn kitOne kitCls kitMeta subIn mroIn findIn)
section
variable {X : Cx} {e : Expr} {es : List Expr} {ta : TA} {x : Str} {p pos : Pos} {bmB : List Value} {newId initId : String}
/-- C(e, ..) as what is raised -/
theorem pmk_x {CX : CXT} {C fI : Addr} {k : Nat} {fd : FuncData} {ps : List Str} {sp : Sp} {ds : List Value} {dvs : List V} (B : ExB bmB newId initId) (T : ExC X.K C bmB newId) (iC : findIn X.K (.ref C) "__init__" = some (some (.ref fI)))
    (tI : typeIn X.K (.ref fI) = some (.type "function")) (F1 : FnOk X.prog X.w X.K X.mg X.base CX k fI fd ps sp) (hr : Room (k + 1) X.A) (hb : Binds X.K fd ps ds) (hd : Vals dvs ds) (hx : Passes CX X (fun _ _ _ => False)) (hg : Gl X x) (hm : X.mg x = some (.ref C))
    (ha : PA X (e :: es) ta) (hdb : (x == ("__debug__" : Str)) = false := by decide)
    (he : starEach (e :: es) X.env = (false, eval e X.env) :: starEach es X.env := by rfl) (hpl : (backTo pos (starEach es X.env)).any (·.1) = false := by rfl) :
    PMk X (.Call (.Name x p) (e :: es) [] pos) (tMkO C sp dvs ta) := by
  intro pins s σ H Q I h
  refine wpAny_Call_Name_kw (ld_glob I hg hm (PySem.W.callWith_K (h₀ := X.base) I.ok.mod.kin T.kC (thn (ha.run pos pins s σ H _ I h) ?_) he hpl) hdb)
  rintro us s1 ⟨vs, H1, I1, r1, hz, q1⟩
  refine ⟨I1.kIn, ?_⟩
  obtain ⟨_, FB, _⟩ := B.ex
  obtain ⟨nm, N, qn, bs, bm, hdct, sn, sub, ab, col, dd, k0, k1, k2, k3, k5, hC, hT⟩ := exC_obj T I1
  have li := PySem.W.looks_findIn (M := model X.prog X.w) I1.kIn iC
  have lb := fun self => PySem.W.bind_fn (M := model X.prog X.w) I1.kIn self tI
  obtain ⟨hp, g, dr, tk, os⟩ := s1
  have next : hp.objs.size ≤ hp.objs.size + 1 := Nat.le_succ _
  have q2 := q1 (hp.objs.size + 1) (I1.hok.fresh next)
  have keep : ∀ b o, hp.get? b = some o → ((hp.push (PySem.W.kdv_tup us)).push (PySem.HandSPX.excO C hp.objs.size)).get? b = some o := fun b o e => Heap.get?_push_of_some _ (Heap.get?_push_of_some _ e)
  have there : ((hp.push (PySem.W.kdv_tup us)).push (PySem.HandSPX.excO C hp.objs.size)).get? (hp.objs.size + 1) = some (PySem.HandSPX.excO C hp.objs.size) := by heap_get
  have I2 : Inv X pins σ (upd H1 (hp.objs.size + 1) (exo (hp.objs.size + 1) C none)) ⟨(hp.push (PySem.W.kdv_tup us)).push (PySem.HandSPX.excO C hp.objs.size), g, dr, tk, os⟩ :=
    I1.laid (t' := tk) (a := hp.objs.size + 1) (o := exo (hp.objs.size + 1) C none) keep next (exo_ok there)
  have r2 : Vals (V.ref (hp.objs.size + 1) :: (vs ++ dvs)) (Value.ref (hp.objs.size + 1) :: (us ++ ds)) := .cons rfl (r1.append hd)
  have many : (Value.ref (hp.objs.size + 1) :: us ++ ds).length = ps.length := r2.length.symm.trans (F1.len _ _ _ _ q2)
  have small : us.length ≤ sizeLine := by
    rw [← Paired.length r1]
    exact Nat.le_trans hz (by decide)
  refine wpAny_call (PySem.HandSPX.call_own FB hT hC li lb small (codeAny_mono (F1.run _ X.stack _ _ ⟨Value.ref (hp.objs.size + 1) :: us, []⟩ _ _ _ (fun _ _ _ => False) (hr.make C us []) (I2.env0.make C us []) (hb _ (Value.ref (hp.objs.size + 1) :: us) I2.kIn many) r2 q2) ?_))
  intro r s' hq
  match r, hq with
  | .error er, hq => exact hx pins σ _ _ er s' I2 hq
  | .ok .next, hq => exact hq.elim
  | .ok .brk, hq => exact hq.elim
  | .ok .cont, hq => exact hq.elim
  | .ok (.ret u), hq =>
    obtain ⟨v, H2, os2, bare2, un2, hok2, rv, rfl, d, fs, ea, ed, n1, q⟩ := hq
    obtain ⟨h2, g2, d2, t2, os'⟩ := s'
    exact ⟨rv, mk_end (raises_own T.exC T.tyC) I1 next keep un2 hok2 os2 bare2 ea ed n1 q⟩
end
/-- the heap behind such a making, without the object -/
theorem drop_made {H : Hp} {a d : Addr} {o1 o2 o3 : HO} {o : HO} (n : H a = none) (nd : upd H a o1 d = none) : upd (del (upd (upd (upd H a o1) d o2) a o3) a) d o = upd H d o := by
  have ne : d ≠ a := fun z => by
    rw [z, upd_same] at nd
    cases nd
  funext b
  by_cases hb : b = d
  · rw [hb, upd_same, upd_same]
  · rw [upd_ne hb, upd_ne hb]
    by_cases ha : b = a
    · rw [ha, del_same, n]
    · rw [del_ne ha, upd_ne ha, upd_ne hb, upd_ne ha]
end Ver
/-! Ver, 11: try: body, then several clauses 'except C as n: suite' -/
namespace Ver
open PySem PySem.Spec PyProof.Rows L2
/-- the ends of a suite: the name is gone behind it -/
def endsAs (D : Ends) (i : Nat) : Ends := ⟨fun σ H => D.nx (σ.set i none) H, D.rt, fun σ H => D.bk (σ.set i none) H, fun σ H => D.ct (σ.set i none) H⟩
/-- a clause: its class, its name's slot, its suite -/
structure Clause where
  c : Value
  i : Nat
  ts : Addr → Value → Option Addr → TS
/-- the first clause that takes it -/
def wClauses (K : PySem.W.Frag) (Wout : WX) (D : Ends) : List Clause → WX
  | [] => Wout
  | k :: r => fun cls d σ H => ∃ b, PySem.W.exmOne K cls k.c = some b ∧ (b = true → ∀ a, H a = none → k.ts a cls d (endsAs D k.i) (σ.set k.i (some (.ref a))) H) ∧ (b = false → wClauses K Wout D r cls d σ H)
inductive Clauses (X : Cx) : List ExceptHandler → List Clause → Prop
  | nil : Clauses X [] []
  | cons {x n : Str} {k : Clause} {b₀ : Stmt} {suite : List Stmt} {np pos' : Pos} {hds : List ExceptHandler} {l : List Clause} (hc : Names X x k.c) (hi : X.N[k.i]? = some n) (hln : X.env.kindOf n = some .local)
      (hsu : ∀ (a : Addr) (oe : Obj) (cls : Value) (d : Option Addr) (pn : List (Addr × Obj)), Zc cls d oe → (∃ vs, oe.data = .fields vs) → PSs (X.suite a ((a, oe) :: pn)) (b₀ :: suite) (k.ts a cls d)) (r : Clauses X hds l) :
      Clauses X (.ExceptHandler (some (.Name x np)) (some n) (b₀ :: suite) pos' :: hds) (k :: l)
section
variable {X : Cx} {body : List Stmt} {hd1 : ExceptHandler} {hds : List ExceptHandler} {l : List Clause} {pos : Pos} {tb : WX → TS} {Wout : WX}
theorem ps_try_clauses (st : X.stack = X.env :: X.outer) (fr : X.env.frame = some X.env.locals) (nd : X.N.Nodup) (tk : Takes X Wout)
    (hb : ∀ (W : WX) (pn : List (Addr × Obj)) (xe : Value → Shared → Prop), Takes (X.tr pn xe) W → PassesOwn (model X.prog X.w) X.A X.env xe → PSs (X.tr pn xe) body (tb W))
    (hh : Clauses X (hd1 :: hds) l) : PS X (.Try body (hd1 :: hds) [] [] pos) (fun D σ H => tb (wClauses X.K Wout D l) D σ H) := by
  refine ⟨fun pins s σ H D I want => ?_⟩
  have fine := I.ok
  have frames : X.A.frames = some (X.env :: X.outer) := fine.frames.trans (congrArg some st)
  have nested := (hb (wClauses X.K Wout D l) (X.pn ++ pins) (fun e t1 => wpAny (model X.prog X.w) X.A (noteFrame e X.env) (fun _ t2 => wpAny (model X.prog X.w) X.A (setFlight e none)
    (fun _ t3 => wpAny (model X.prog X.w) X.A (handleBy e X.env (hd1 :: hds)) (SP X pins D) X.xe t3) X.xe t2) X.xe t1) ?caught PassesOwn.looking).run [] s σ H D (I.toTry _) want
  case caught =>
    rintro u t1 ⟨a, B, sI, pins', σ', H', cls, d, rfl, inner, ground, moved, sky, free, sameOs, bare, wish⟩
    have J := Inv.ofTry (pins := pins) inner fine
    have sky1 : Sky B (X.env :: X.outer) a (Zc cls d) X.env.locals t1.heap := st ▸ (show Sky B X.stack a (Zc cls d) X.env.locals t1.heap from sky)
    refine Sky.land Zc.steady frames fr sky1 fun h3 fly3 moved3 => ?_
    have J3 := J.landed (s' := { t1 with heap := h3 }) ground fly3.1 (moved.trans moved3) sameOs bare
    obtain ⟨o3, v3, at3, keep3, data3⟩ := fly3.there
    -- the exception is no frame
    have apart : a ∉ frs (X.env :: X.outer) := fun hm => by
      obtain ⟨_, o', z, no⟩ := (fly3.2.2.1).mem hm
      obtain rfl := Option.some.inj (at3.symm.trans z)
      exact no _ data3
    have notHere : a ≠ X.env.locals := fun z => apart (List.mem_filterMap.mpr ⟨X.env, .head _, fr.trans (congrArg some z.symm)⟩)
    have notBelow : a ∉ X.fs := fun hm => by
      obtain ⟨e, he, z⟩ := List.mem_filterMap.mp hm
      exact apart (List.mem_filterMap.mpr ⟨e, .tail _ he, z⟩)
    have S3 := J3.suite at3 data3 free notHere notBelow
    have walk : ∀ {hs : List ExceptHandler} {ks : List Clause}, Clauses X hs ks → wClauses X.K Wout D ks cls d σ' H' → wpAny (model X.prog X.w) X.A (handleBy (.ref a) X.env hs) (SP X pins D) X.xe { t1 with heap := h3 } := by
      intro hs ks cs
      induction cs with
      | nil =>
        intro w
        refine wpAny_handleBy_nil ?_
        obtain ⟨-, -, -, oe, vs, T, -, -, he, -, hdat, h1, -⟩ := id fly3
        have onward : wpAny (model X.prog X.w) X.A (setFlight (.ref a) X.env.frame) (fun _ t4 => wpAny (model X.prog X.w) X.A (throw (.ref a) : Sem Flow) (SP X pins D) X.xe t4) X.xe { t1 with heap := h3 } := by
          rw [fr]
          exact HandSPX.setFlight_upZ fly3 fun h4 held4 moved4 => wpAny_throw (tk _ _ ⟨a, B, sI, pins, σ', H', cls, d, rfl, J, ground, (moved.trans moved3).trans moved4, .inr (.inr (st ▸ held4)), free, sameOs, bare, w⟩)
        unfold PySem.passOn
        refine wpAny_bind (wpAny_field he hdat h1 ?_)
        have nn : ¬ ((Value.ref T == Value.none) = true) := by simp
        rw [if_neg nn]
        first
          | exact wpAny_bind onward
          | exact wpAny_bind (wpAny_pure (wpAny_bind onward))
      | @cons x n k b₀ suite np pos' hs2 ks2 hc hi hln hsu r ih =>
        rintro ⟨b, isIt, yes, no⟩
        refine wpAny_handleBy_cons (codeAny_handlers_test ?_) fun q => by cases q
        have typ : PySem.W.Looks (model X.prog X.w) h3 (typeOf (.ref a)) cls := fun A Q E s kk q => wpAny_typeOf_ref (kk _ _ at3) (keep3.1.symm ▸ q)
        have answer := PySem.W.exm_one (M := model X.prog X.w) J3.kIn typ isIt
        have named : ∀ {Q E : Value → Shared → Prop}, Q k.c { t1 with heap := h3 } → wpAny (model X.prog X.w) (X.A.mark (some (.ref a))) (eval (.Name x np) X.env) Q E { t1 with heap := h3 } := by
          intro Q E q
          obtain ⟨hg, hdb, own | ⟨none, bi, nn⟩⟩ := hc
          · exact ld_glob (X := X.suite a ((a, o3) :: (X.pn ++ pins))) S3 hg own q hdb
          · exact ld_blt (X := X.suite a ((a, o3) :: (X.pn ++ pins))) S3 hg none bi q nn hdb
        refine named (answer.here ?_)
        cases b with
        | false => exact ih (no rfl)
        | true =>
          refine codeAny_handlers_suite_as (HandSPX.lands_againZ fly3 fun h4 fly4 moved4 => ?_)
          have J4 := J.landed (s' := { t1 with heap := h4 }) ground fly4.1 ((moved.trans moved3).trans moved4) sameOs bare
          obtain ⟨o4, v4, at4, keep4, data4⟩ := fly4.there
          have S4 := J4.suite at4 data4 free notHere notBelow
          refine store_ok (X := X.suite a ((a, o4) :: (X.pn ++ pins))) (v := .ref a) S4 nd hi (.inl hln) rfl (fun t5 S5 => ?_) (.inr hln)
          refine wpAny_mono ((hsu a o4 cls d (X.pn ++ pins) keep4 ⟨_, data4⟩).run [] t5 _ H' _ S5 (yes rfl a free)) (fun fl t6 done => ?_) fun _ _ z => z.elim
          have close : ∀ {σ6 : L2.St} {H6 : Hp} {Q : Shared → Prop}, Inv (X.suite a ((a, o4) :: (X.pn ++ pins))) [] σ6 H6 t6 → (∀ t7, Inv X pins (σ6.set k.i none) H6 t7 → Q t7) →
              wpAny (model X.prog X.w) X.A (do bindName X.env n .none; unbindBehindTheSuite X.env n pos') (fun _ t7 => Q t7) X.xe t6 := fun S6 q => gone_ok (S6.unsuite fine) nd hi hln q
          match fl, done with
          | .next, ⟨_, _, S6, q6⟩ => exact close S6 fun t7 J7 => ⟨_, _, J7, q6⟩
          | .brk, ⟨_, _, S6, q6⟩ => exact close S6 fun t7 J7 => ⟨_, _, J7, q6⟩
          | .cont, ⟨_, _, S6, q6⟩ => exact close S6 fun t7 J7 => ⟨_, _, J7, q6⟩
          | .ret u, ⟨_, _, _, S6, r6, q6⟩ => exact close S6 fun t7 J7 => ⟨_, _, _, J7, r6, q6⟩
    exact walk hh wish
  refine wpAny_Try_except (wpAny_mono nested (fun fl t1 done => ?_) fun e t1 z => z)
  match fl, done with
  | .next, ⟨_, _, J, q⟩ => exact wpAny_execs_nil ⟨_, _, J.ofTry fine, q⟩
  | .brk, ⟨_, _, J, q⟩ => exact ⟨_, _, J.ofTry fine, q⟩
  | .cont, ⟨_, _, J, q⟩ => exact ⟨_, _, J.ofTry fine, q⟩
  | .ret u, ⟨_, _, _, J, r, q⟩ => exact ⟨_, _, _, J.ofTry fine, r, q⟩
end
end Ver
/-! Ver, 12: data without dicts compared; walks over a list or a tuple, whichever a name holds; both forms of a binary rule -/
namespace Ver
open PySem PySem.Spec PyProof.Rows L2
section
variable {K : PySem.W.Frag} {H : Hp}
mutual
theorem dp_plain : ∀ {v : V} {d : PyData}, Dp K H v d → d.plain = true
  | _, _, .non => rfl
  | _, _, .bl _ => rfl
  | _, _, .int _ => rfl
  | _, _, .str _ => rfl
  | _, _, .lst _ q => dps_plain q
  | _, _, .tup _ q => dps_plain q
theorem dps_plain : ∀ {vs : List V} {ds : List PyData}, DpAll K H vs ds → PyData.plainAll ds = true
  | _, _, .nil => rfl
  | _, _, .cons h t => by
    show (PyData.plain _ && PyData.plainAll _) = true
    rw [dp_plain h, dps_plain t]
    rfl
end
theorem dps_strs : ∀ (ws : List Str), DpAll K H (ws.map V.str) (ws.map PyData.str)
  | [] => .nil
  | w :: r => .cons (.str w) (dps_strs r)
theorem dps_ints : ∀ (ns : List Int), DpAll K H (ns.map V.int) (ns.map PyData.int)
  | [] => .nil
  | n :: r => .cons (.int n) (dps_ints r)
theorem dp_tupS {a : Addr} {ws : List Str} (h : H a = some (.tup (ws.map V.str))) : Dp K H (.ref a) (.tuple (ws.map .str)) := .tup (SqT.of h) (dps_strs ws)
theorem dp_lstS {a : Addr} {ws : List Str} (h : H a = some (.lst (ws.map V.str))) : Dp K H (.ref a) (.list (ws.map .str)) := .lst (SqL.of h) (dps_strs ws)
end
/-- texts, as data -/
def txtsD (ws : List Str) : PyData := .tuple (ws.map .str)
theorem depth_strs : ∀ ws : List Str, PyData.depthAll (ws.map .str) = 0
  | [] => rfl
  | w :: r => by
    show max (PyData.depth (.str w)) (PyData.depthAll (r.map .str)) = 0
    rw [depth_strs r]
    rfl
theorem depth_ints : ∀ ws : List Int, PyData.depthAll (ws.map .int) = 0
  | [] => rfl
  | w :: r => by
    show max (PyData.depth (.int w)) (PyData.depthAll (r.map .int)) = 0
    rw [depth_ints r]
    rfl
theorem eqv_strs : ∀ ws us : List Str, PyData.eqvAll (ws.map .str) (us.map .str) = decide (ws = us)
  | [], [] => by simp [PyData.eqvAll]
  | [], _ :: _ => by simp [PyData.eqvAll]
  | _ :: _, [] => by simp [PyData.eqvAll]
  | w :: ws, u :: us => by
    show (PyData.eqv (.str w) (.str u) && PyData.eqvAll (ws.map .str) (us.map .str)) = _
    rw [eqv_strs ws us]
    show ((w == u) && decide (ws = us)) = _
    by_cases h : w = u
    · subst h
      simp
    · have h' : (w == u) = false := by simpa using h
      rw [h']
      simp [h]
theorem eqv_txts (ws us : List Str) : PyData.eqv (txtsD ws) (txtsD us) = decide (ws = us) := eqv_strs ws us
section
variable {X : Cx}
/-- x == y, data without dicts -/
def rEqP (K : PySem.W.Frag) : R2 := fun x y H Q => ∃ d e, Dp K H x d ∧ Dp K H y e ∧ d.depth ≤ 60 ∧ Q (.bl (PyData.eqv d e)) H
theorem op_eqP (hu : X.A.units + 64 < cLine) : OpR X (compareOp .Eq) (rEqP X.K) := by
  rintro pins s σ H x y v u Q I rx ry ⟨d, e, hd, he, hz, q⟩
  obtain ⟨as, r1⟩ := Dp.reads I d x v hd rx
  obtain ⟨bs, r2⟩ := Dp.reads I e y u he ry
  exact SeqAt.eq_plain r1 r2 (dp_plain hd) (dp_plain he) (by omega) ⟨.bl _, H, I, rfl, q⟩
def rNeP (K : PySem.W.Frag) : R2 := fun x y H Q => ∃ d e, Dp K H x d ∧ Dp K H y e ∧ d.depth ≤ 60 ∧ Q (.bl (!PyData.eqv d e)) H
theorem op_neP (hu : X.A.units + 64 < cLine) : OpR X (compareOp .NotEq) (rNeP X.K) := by
  rintro pins s σ H x y v u Q I rx ry ⟨d, e, hd, he, hz, q⟩
  obtain ⟨as, r1⟩ := Dp.reads I d x v hd rx
  obtain ⟨bs, r2⟩ := Dp.reads I e y u he ry
  exact SeqAt.ne_plain r1 r2 (dp_plain hd) (dp_plain he) (by omega) ⟨.bl _, H, I, rfl, q⟩
/-- x not in [..], data without dicts -/
def rNotInP (K : PySem.W.Frag) : R2 := fun x y H Q => ∃ l xs ds d, y = .ref l ∧ SqL K H l xs ∧ DpAll K H xs ds ∧ Dp K H x d ∧ d.depth ≤ 60 ∧ Q (.bl (!ds.any fun e => PyData.eqv e d)) H
theorem op_notInP (hu : X.A.units + 64 < cLine) : OpR X (compareOp .NotIn) (rNotInP X.K) := by
  rintro pins s σ H x y v u Q I rx ry ⟨l, xs, ds, d, rfl, hl, hD, hd, hz, q⟩
  have hc : Dp X.K H (.ref l) (.list ds) := .lst hl hD
  obtain ⟨as, r1⟩ := Dp.reads I _ _ u hc ry
  obtain ⟨bs, r2⟩ := Dp.reads I d x v hd rx
  exact SeqAt.notIn_list_data r1 r2 (dps_plain hD) (dp_plain hd) (by omega) ⟨.bl _, H, I, rfl, q⟩
end
/-! ### both ways of an expression -/
/-- what follows may be told apart -/
def Dist (t : TE) : Prop := ∀ (σ : L2.St) (H : Hp) (A B : VK), (t σ H fun x h => A x h ∨ B x h) → t σ H A ∨ t σ H B
theorem dist_var (i : Nat) : Dist (tVar i) := by
  rintro σ H A B ⟨v, e, q | q⟩
  · exact .inl ⟨v, e, q⟩
  · exact .inr ⟨v, e, q⟩
/-- a list or a tuple is walked -/
def iSeq (K : PySem.W.Frag) (tl : TE) : TI := fun σ H R => tl σ H fun x H1 => (∃ a, x = .ref a ∧ (∃ xs, SqL K H1 a xs) ∧ R (Itl K a) H1) ∨ ∃ a, x = .ref a ∧ (∃ xs, SqT K H1 a xs) ∧ R (Itt K a) H1
section
variable {X : Cx} {tg l : Expr} {tl : TE}
theorem pi_seq (d : Dist tl) (h : PE X l tl) : PI X tg l (iSeq X.K tl) :=
  ⟨fun pins s σ H R I w => (d σ H _ _ w).elim (fun w => (pi_list h).run pins s σ H R I w) fun w => (pi_tup h).run pins s σ H R I w⟩
end
/-- .. in one way: b tells a tuple -/
def SqB (K : PySem.W.Frag) (H : Hp) (b : Bool) (a : Addr) (xs : List V) : Prop := if b = true then SqT K H a xs else SqL K H a xs
section
variable {K : PySem.W.Frag} {a : Addr} {xs : List V} {b : Bool}
theorem SqB.orr {H : Hp} (h : SqB K H b a xs) : SqL K H a xs ∨ SqT K H a xs := by
  cases b
  · exact .inl h
  · exact .inr h
/-- the loop's reading, a list or a tuple -/
def Itb (K : PySem.W.Frag) (b : Bool) (a : Addr) : It := if b = true then Itt K a else Itl K a
theorem walk_seq : Walk (Itb K b a) xs.length (fun H => SqB K H b a xs) (YAt xs) := by
  cases b
  · exact walk_list
  · exact walk_tup
theorem iSeq_mk {H1 : Hp} {R : It → Hp → Prop} (h : SqB K H1 b a xs) (q : R (Itb K b a) H1) :
    (∃ a', (V.ref a) = .ref a' ∧ (∃ xs, SqL K H1 a' xs) ∧ R (Itl K a') H1) ∨ ∃ a', (V.ref a) = .ref a' ∧ (∃ xs, SqT K H1 a' xs) ∧ R (Itt K a') H1 := by
  cases b
  · exact .inl ⟨a, rfl, ⟨xs, h⟩, q⟩
  · exact .inr ⟨a, rfl, ⟨xs, h⟩, q⟩
end
end Ver
/-! Ver, 13: zip of two things, each a list or a tuple -/
namespace Ver
open PySem PySem.Spec PyProof.Rows L2
open PySem.Sem (wp)
/-- a list (no) or a tuple (yes) at a -/
def Sqq (h : Heap) (b : Bool) (a : Addr) (xs : Array Value) : Prop := match b with
  | true => h.IsTuple a xs
  | false => h.IsList a xs
/-- its iterator at it, i items told -/
def Itq (h : Heap) (b : Bool) (it a : Addr) (i : Nat) : Prop := match b with
  | true => h.IsTupleIter it a i
  | false => h.IsListIter it a i
section
variable {h h' : Heap} {b : Bool} {a it c : Addr} {i : Nat} {xs : Array Value}
theorem Sqq.but (x : Sqq h b a xs) (k : Heap.ExtBut c h h') (n : a ≠ c) : Sqq h' b a xs := match b, x with
  | true, x => Heap.IsTuple.extBut x k n
  | false, x => Heap.IsList.extBut x k n
theorem Itq.but (x : Itq h b it a i) (k : Heap.ExtBut c h h') (n : it ≠ c) : Itq h' b it a i := match b, x with
  | true, ⟨o, e, r⟩ => ⟨o, k _ _ n e, r⟩
  | false, ⟨o, e, r⟩ => ⟨o, k _ _ n e, r⟩
theorem Itq.at (x : Itq h b it a i) (k : ∀ o, h.get? it = some o → h'.get? it = some o) : Itq h' b it a i := match b, x with
  | true, ⟨o, e, r⟩ => ⟨o, k _ e, r⟩
  | false, ⟨o, e, r⟩ => ⟨o, k _ e, r⟩
theorem Itq.lt (x : Itq h b it a i) : it < h.objs.size := match b, x with
  | true, ⟨_, e, _⟩ => Heap.lt_size e
  | false, ⟨_, e, _⟩ => Heap.lt_size e
theorem Itq.rec_ (x : Itq h b it a i) : ∃ o vs, h.get? it = some o ∧ o.data = .fields vs := match b, x with
  | true, ⟨o, e, _, d⟩ => ⟨o, _, e, d⟩
  | false, ⟨o, e, _, d⟩ => ⟨o, _, e, d⟩
theorem Sqq.lt (x : Sqq h b a xs) : a < h.objs.size := match b, x with
  | true, ⟨_, e, _⟩ => Heap.lt_size e
  | false, ⟨_, e, _⟩ => Heap.lt_size e
end
section
variable {prog : Program} {w : World} {A : Around} {E : Value → Shared → Prop} {s : Shared} {b1 b2 : Bool}
theorem draw_one {b : Bool} {it a : Addr} {i : Nat} {xs : Array Value} {x : Value} {Q : Value → Shared → Prop} (t : Itq s.heap b it a i) (l : Sqq s.heap b a xs) (e : xs[i]? = some x)
    (q : ∀ h', Itq h' b it a (i + 1) → Heap.SameBut it s.heap h' → Q x { s with heap := h' }) : wpAny (model prog w) A (Builtin.SmallTypes.nextOf (.ref it)) Q E s := match b, t, l, q with
  | true, t, l, q => RZ.nextOf_tuple_item t l e q
  | false, t, l, q => wpAny_nextOf_list_item t l e q
theorem draw_none {b : Bool} {it a : Addr} {i : Nat} {xs : Array Value} {Q : Value → Shared → Prop} (calm : A.handled = none) (t : Itq s.heap b it a i) (l : Sqq s.heap b a xs) (e : xs[i]? = none)
    (q : ∀ h' e, Heap.ExtBut it s.heap h' → (∃ o, h'.get? e = some o ∧ o.cls = .type "StopIteration") → E (.ref e) { s with heap := h' }) : wpAny (model prog w) A (Builtin.SmallTypes.nextOf (.ref it)) Q E s := match b, t, l with
  | true, t, l => RZ.nextOf_tuple_end calm t l e q
  | false, t, l => wpAny_nextOf_list_end calm t l e q
/-- what stands at the five objects of a zip -/
structure Zq (h : Heap) (zp tI tO i1 i2 a1 a2 : Addr) (b1 b2 : Bool) (k : Nat) (f : Value) (u v : Value) : Prop where
  rec_ : IsZip h zp tI tO f
  its : IsPair h tI (.ref i1) (.ref i2)
  out : IsPair h tO u v
  t1 : Itq h b1 i1 a1 k
  t2 : Itq h b2 i2 a2 k
abbrev Off4 (zp tO i1 i2 : Addr) (h h' : Heap) : Prop := ∀ c o, c ≠ zp → c ≠ tO → c ≠ i1 → c ≠ i2 → h.get? c = some o → h'.get? c = some o
theorem zipq_some {zp tI tO i1 i2 a1 a2 : Addr} {k : Nat} {xs ys : Array Value} {x y u v : Value} {Q : Value → Shared → Prop} (D : ZipApart zp tI tO i1 i2 a1 a2) (Z : Zq s.heap zp tI tO i1 i2 a1 a2 b1 b2 k .none u v)
    (l1 : Sqq s.heap b1 a1 xs) (l2 : Sqq s.heap b2 a2 ys) (ex : xs[k]? = some x) (ey : ys[k]? = some y)
    (q : ∀ h', Zq h' zp tI tO i1 i2 a1 a2 b1 b2 (k + 1) (rawInt s.heap.objs.size) x y → IsPair h' s.heap.objs.size x y → h'.objs.size = s.heap.objs.size + 1 → Off4 zp tO i1 i2 s.heap h' → Q (.ref s.heap.objs.size) { s with heap := h' }) :
    wpAny (model prog w) A (Builtin.«zip.__next__» ⟨[.ref zp], []⟩) (fun fin s' => ∃ v, fin = .done (.ret v) ∧ Q v s') E s := by
  obtain ⟨hz, hI, hO, t1, t2⟩ := Z
  show wpAny _ _ (field (.ref zp) 2 >>= _) _ _ _
  refine wpAny_bind (wpAny_field hz rfl (x := .bool false) rfl (show wpAny _ _ (field (.ref zp) 3 >>= _) _ _ _ from ?_))
  refine wpAny_bind (wpAny_field hz rfl (x := .ref tI) rfl (wpAny_bind (wpAny_seqItems hI rfl (show wpAny _ _ (Builtin.SmallTypes.ownedTupleIsFree (.ref zp) >>= _) _ _ _ from ?_))))
  refine wpAny_bind ?_
  (unfold Builtin.SmallTypes.ownedTupleIsFree; refine wpAny_bind (wpAny_field hz rfl (x := .none) rfl (wpAny_pure ?_)))
  simp only [if_true]
  refine wpAny_bind (wpAny_rule (wpAny_bind (wpAny_field hz rfl (x := .ref tO) rfl (wpAny_bind (wpAny_setField_rec hz (by simp) fun g1 z1 m1 => ?_)))))
  replace z1 : IsZip g1 zp tI tO .ellipsis := z1
  refine wpAny_bind ?_
  (simp only [List.zipIdx_nil, List.forIn_nil, List.zipIdx_cons, List.forIn_cons])
  -- the first one's item
  refine wpAny_bind (wpAny_bind (wpAny_onRaise (show wpAny _ _ (Builtin.SmallTypes.nextOf (.ref i1) >>= _) _ _ _ from ?_)))
  refine wpAny_bind (draw_one (t1.but m1.extBut D.i1z) (l1.but m1.extBut D.l1z) ex fun g2 t1' m2 => wpAny_pure ?_)
  have o2 : IsPair g2 tO u v := m2.extBut _ _ D.TOi1 (m1.extBut _ _ D.TOz hO)
  refine wpAny_bind (wpAny_seqItems o2 rfl (wpAny_bind (wpAny_updateSeq_pair o2 fun g3 o3 m3 => ?_)))
  replace o3 : IsPair g3 tO x v := o3
  refine wpAny_bind (wpAny_letGo (wpAny_pure ?_))
  -- the second one's
  refine wpAny_bind (wpAny_bind (wpAny_onRaise (show wpAny _ _ (Builtin.SmallTypes.nextOf (.ref i2) >>= _) _ _ _ from ?_)))
  have t2' : Itq g3 b2 i2 a2 k := ((t2.but m1.extBut D.i2z).but m2.extBut D.i12.symm).but m3.extBut D.TOi2.symm
  have l2' : Sqq g3 b2 a2 ys := ((l2.but m1.extBut D.l2z).but m2.extBut D.l2i1).but m3.extBut D.l2TO
  refine wpAny_bind (draw_one t2' l2' ey fun g4 t2'' m4 => wpAny_pure ?_)
  have o4 : IsPair g4 tO x v := m4.extBut _ _ D.TOi2 o3
  refine wpAny_bind (wpAny_seqItems o4 rfl (wpAny_bind (wpAny_updateSeq_pair o4 fun g5 o5 m5 => ?_)))
  replace o5 : IsPair g5 tO x y := o5
  refine wpAny_bind (wpAny_letGo (wpAny_pure (wpAny_pure (wpAny_bind (wpAny_seqItems o5 rfl (wpAny_bind (wpAny_newTuple ?_)))))))
  -- what has been kept so far
  have size5 : g5.objs.size = s.heap.objs.size := m5.1.trans (m4.1.trans (m3.1.trans (m2.1.trans m1.1)))
  have z5 : IsZip g5 zp tI tO .ellipsis := m5.extBut _ _ D.TOz.symm (m4.extBut _ _ D.i2z.symm (m3.extBut _ _ D.TOz.symm (m2.extBut _ _ D.i1z.symm z1)))
  have kept5 : Off4 zp tO i1 i2 s.heap g5 := fun c o n1 n2 n3 n4 e => m5.extBut _ _ n2 (m4.extBut _ _ n4 (m3.extBut _ _ n2 (m2.extBut _ _ n3 (m1.extBut _ _ n1 e))))
  have u1 : Itq g5 b1 i1 a1 (k + 1) := ((t1'.but m3.extBut D.TOi1.symm).but m4.extBut D.i12).but m5.extBut D.TOi1.symm
  have u2 : Itq g5 b2 i2 a2 (k + 1) := t2''.but m5.extBut D.TOi2.symm
  refine wpAny_bind (show wpAny _ _ (Builtin.SmallTypes.ownedTupleHandOut (.ref zp) (.ref g5.objs.size)) _ _ _ from ?_)
  unfold Builtin.SmallTypes.ownedTupleHandOut
  have z6 : IsZip (g5.push { cls := .type "tuple", data := .seq #[x, y] }) zp tI tO .ellipsis := Heap.get?_push_of_some _ z5
  refine wpAny_bind (wpAny_setField_rec z6 (by simp) fun g7 z7 m7 => ?_)
  replace z7 : IsZip g7 zp tI tO (rawInt g5.objs.size) := z7
  refine wpAny_setField_rec z7 (by simp) fun g8 z8 m8 => ?_
  replace z8 : IsZip g8 zp tI tO (rawInt g5.objs.size) := z8
  have up : ∀ c o, c ≠ zp → g5.get? c = some o → g8.get? c = some o := fun c o n e => m8.extBut _ _ n (m7.extBut _ _ n (Heap.get?_push_of_some _ e))
  have new8 : IsPair g8 g5.objs.size x y := m8.extBut _ _ (Nat.ne_of_gt (Heap.lt_size z5)) (m7.extBut _ _ (Nat.ne_of_gt (Heap.lt_size z5)) (Heap.get?_push_size _ rfl))
  have size8 : g8.objs.size = g5.objs.size + 1 := m8.1.trans (m7.1.trans (Heap.size_push ..))
  rw [size5] at z8 new8 size8
  refine wpAny_pure ⟨_, rfl, ?_⟩
  show Q (.ref g5.objs.size) _
  rw [size5]
  have hI5 : IsPair g5 tI (.ref i1) (.ref i2) := kept5 _ _ D.TIz D.TITO D.TIi1 D.TIi2 hI
  exact q g8 ⟨z8, up _ _ D.TIz hI5, up _ _ D.TOz o5, u1.at fun o e => up _ o D.i1z e, u2.at fun o e => up _ o D.i2z e⟩ new8 size8 fun c o n1 n2 n3 n4 e => up c o n1 (kept5 c o n1 n2 n3 n4 e)
theorem zipq_none {zp tI tO i1 i2 a1 a2 : Addr} {k : Nat} {xs ys : Array Value} {u v : Value} {Q : Fin → Shared → Prop} (calm : A.handled = none) (D : ZipApart zp tI tO i1 i2 a1 a2) (Z : Zq s.heap zp tI tO i1 i2 a1 a2 b1 b2 k .none u v)
    (l1 : Sqq s.heap b1 a1 xs) (l2 : Sqq s.heap b2 a2 ys) (last : xs[k]? = none ∨ ys[k]? = none)
    (q : ∀ h' e, Off4 zp tO i1 i2 s.heap h' → (∃ o, h'.get? e = some o ∧ o.cls = .type "StopIteration") → E (.ref e) { s with heap := h' }) : wpAny (model prog w) A (Builtin.«zip.__next__» ⟨[.ref zp], []⟩) Q E s := by
  obtain ⟨hz, hI, hO, t1, t2⟩ := Z
  show wpAny _ _ (field (.ref zp) 2 >>= _) _ _ _
  refine wpAny_bind (wpAny_field hz rfl (x := .bool false) rfl (show wpAny _ _ (field (.ref zp) 3 >>= _) _ _ _ from ?_))
  refine wpAny_bind (wpAny_field hz rfl (x := .ref tI) rfl (wpAny_bind (wpAny_seqItems hI rfl (show wpAny _ _ (Builtin.SmallTypes.ownedTupleIsFree (.ref zp) >>= _) _ _ _ from ?_))))
  refine wpAny_bind ?_
  (unfold Builtin.SmallTypes.ownedTupleIsFree; refine wpAny_bind (wpAny_field hz rfl (x := .none) rfl (wpAny_pure ?_)))
  simp only [if_true]
  refine wpAny_bind (wpAny_rule (wpAny_bind (wpAny_field hz rfl (x := .ref tO) rfl (wpAny_bind (wpAny_setField_rec hz (by simp) fun g1 z1 m1 => ?_)))))
  replace z1 : IsZip g1 zp tI tO .ellipsis := z1
  refine wpAny_bind ?_
  (simp only [List.zipIdx_nil, List.forIn_nil, List.zipIdx_cons, List.forIn_cons])
  refine wpAny_bind (wpAny_bind (wpAny_onRaise (show wpAny _ _ (Builtin.SmallTypes.nextOf (.ref i1) >>= _) _ _ _ from ?_)))
  have stop : ∀ {g : Heap} {e : Addr}, IsZip g zp tI tO .ellipsis → (∃ o, g.get? e = some o ∧ o.cls = .type "StopIteration") → e ≠ zp := fun {g e} zz he n => by
    obtain ⟨o, e1, e2⟩ := he
    rw [n] at e1
    cases (zz.symm.trans e1)
    simp at e2
  cases ex : xs[k]? with
  | none =>
    refine wpAny_bind (draw_none calm (t1.but m1.extBut D.i1z) (l1.but m1.extBut D.l1z) ex fun g2 e m2 he => ?_)
    have z2 : IsZip g2 zp tI tO .ellipsis := m2 _ _ D.i1z.symm z1
    have ne := stop z2 he
    obtain ⟨oe, he1, he2⟩ := he
    exact wpAny_setField_rec z2 (by simp) fun g3 _ m3 => q g3 e (fun c o n1 _ n3 _ x => m3.extBut _ _ n1 (m2 _ _ n3 (m1.extBut _ _ n1 x))) ⟨oe, m3.extBut _ _ ne he1, he2⟩
  | some x =>
    have ey : ys[k]? = none := last.resolve_left fun z => by rw [ex] at z; cases z
    refine wpAny_bind (draw_one (t1.but m1.extBut D.i1z) (l1.but m1.extBut D.l1z) ex fun g2 t1' m2 => wpAny_pure ?_)
    have o2 : IsPair g2 tO u v := m2.extBut _ _ D.TOi1 (m1.extBut _ _ D.TOz hO)
    refine wpAny_bind (wpAny_seqItems o2 rfl (wpAny_bind (wpAny_updateSeq_pair o2 fun g3 o3 m3 => ?_)))
    refine wpAny_bind (wpAny_letGo (wpAny_pure ?_))
    refine wpAny_bind (wpAny_bind (wpAny_onRaise (show wpAny _ _ (Builtin.SmallTypes.nextOf (.ref i2) >>= _) _ _ _ from ?_)))
    have t2' : Itq g3 b2 i2 a2 k := ((t2.but m1.extBut D.i2z).but m2.extBut D.i12.symm).but m3.extBut D.TOi2.symm
    have l2' : Sqq g3 b2 a2 ys := ((l2.but m1.extBut D.l2z).but m2.extBut D.l2i1).but m3.extBut D.l2TO
    refine wpAny_bind (draw_none calm t2' l2' ey fun g4 e m4 he => ?_)
    have z4 : IsZip g4 zp tI tO .ellipsis := m4 _ _ D.i2z.symm (m3.extBut _ _ D.TOz.symm (m2.extBut _ _ D.i1z.symm z1))
    have ne := stop z4 he
    obtain ⟨oe, he1, he2⟩ := he
    exact wpAny_setField_rec z4 (by simp) fun g5 _ m5 => q g5 e (fun c o n1 n2 n3 n4 x => m5.extBut _ _ n1 (m4 _ _ n4 (m3.extBut _ _ n2 (m2.extBut _ _ n3 (m1.extBut _ _ n1 x))))) ⟨oe, m5.extBut _ _ ne he1, he2⟩
theorem next_some {zp tI tO i1 i2 a1 a2 : Addr} {k : Nat} {xs ys : Array Value} {x y u v : Value} {Q : Option Value → Shared → Prop} (D : ZipApart zp tI tO i1 i2 a1 a2) (Z : Zq s.heap zp tI tO i1 i2 a1 a2 b1 b2 k .none u v)
    (l1 : Sqq s.heap b1 a1 xs) (l2 : Sqq s.heap b2 a2 ys) (ex : xs[k]? = some x) (ey : ys[k]? = some y)
    (q : ∀ h', Zq h' zp tI tO i1 i2 a1 a2 b1 b2 (k + 1) (rawInt s.heap.objs.size) x y → IsPair h' s.heap.objs.size x y → h'.objs.size = s.heap.objs.size + 1 → Off4 zp tO i1 i2 s.heap h' → Q (some (.ref s.heap.objs.size)) { s with heap := h' }) :
    wpAny (model prog w) A (pyNext (.ref zp)) Q E s := by
  have ty : s.TypeIs (.ref zp) "zip" := ⟨_, Z.rec_, rfl⟩
  unfold pyNext
  exact wpAny_bind (wpAny_attempt (wpAny_callSpecial?_slot (name := Str.ofString "__next__") ty F.slot_zip_next (wpAny_call_entry F.slot_zip_next ty F.entry_zip_next
    (zipq_some D Z l1 l2 ex ey fun h' r1 r2 r3 r4 => wpAny_pure (q h' r1 r2 r3 r4)) (F.args_zip_next_1 _))))
theorem next_none {zp tI tO i1 i2 a1 a2 : Addr} {k : Nat} {xs ys : Array Value} {u v : Value} {Q : Option Value → Shared → Prop} (calm : A.handled = none) (D : ZipApart zp tI tO i1 i2 a1 a2) (Z : Zq s.heap zp tI tO i1 i2 a1 a2 b1 b2 k .none u v)
    (l1 : Sqq s.heap b1 a1 xs) (l2 : Sqq s.heap b2 a2 ys) (last : xs[k]? = none ∨ ys[k]? = none) (q : ∀ h', Off4 zp tO i1 i2 s.heap h' → Q none { s with heap := h' }) : wpAny (model prog w) A (pyNext (.ref zp)) Q E s := by
  have ty : s.TypeIs (.ref zp) "zip" := ⟨_, Z.rec_, rfl⟩
  unfold pyNext
  refine wpAny_bind (wpAny_attempt (wpAny_callSpecial?_slot (name := Str.ofString "__next__") ty F.slot_zip_next (wpAny_call_entry F.slot_zip_next ty F.entry_zip_next
    (zipq_none calm D Z l1 l2 last fun h' e off he => ?_) (F.args_zip_next_1 _))))
  obtain ⟨o, e1, e2⟩ := he
  exact wpAny_bind (wpAny_isInstance (T := "StopIteration") (b := true) ⟨o, e1, e2⟩ isSubtype_stop (wpAny_pure (q _ off)))
end
/-! ### zip(t, l): a tuple and a list -/
abbrev zq1 (h : Heap) (a1 : Addr) : Heap := h.push { cls := .type "tuple_iterator", data := .fields #[.ref a1, .int 0 0] }
abbrev zq2 (h : Heap) (a1 a2 : Addr) : Heap := (zq1 h a1).push { cls := .type "list_iterator", data := .fields #[.ref a2, .int 0 0] }
abbrev zq3 (h : Heap) (a1 a2 : Addr) : Heap := (zq2 h a1 a2).push { cls := .type "tuple", data := .seq #[.ref h.objs.size, .ref (zq1 h a1).objs.size] }
abbrev zq4 (h : Heap) (a1 a2 : Addr) : Heap := (zq3 h a1 a2).push { cls := .type "tuple", data := .seq #[.none, .none] }
abbrev zq5 (h : Heap) (a1 a2 : Addr) : Heap := (zq4 h a1 a2).push { cls := .type "zip", data := .fields #[.none, .bool false, .bool false, .ref (zq2 h a1 a2).objs.size, .ref (zq3 h a1 a2).objs.size] }
theorem meets_zipq (a1 a2 : Addr) (xs ys : Array Value) :
    Meets (Builtin.«zip.__new__» ⟨[.type "zip", .ref a1, .ref a2], []⟩) (fun _ R s => s.heap.IsTuple a1 xs ∧ s.heap.IsList a2 ys ∧ R (.ok (.ret (.ref (zq4 s.heap a1 a2).objs.size))) { s with heap := zq5 s.heap a1 a2 }) :=
  .of_wp fun prog w A R s h => by
    obtain ⟨hp, g, d, tk, os⟩ := s
    obtain ⟨p1, p2, h⟩ := h
    have sz := sub_zip
    have q1 : Heap.IsTuple (Shared.heap ⟨hp, g, d, tk, os⟩) a1 xs := p1
    have q2 : Heap.IsList (Shared.heap ⟨zq1 hp a1, g, d, tk, os⟩) a2 ys := Heap.IsList.push p2 _
    wp_walk using wpAny_pyIter_tuple q1, wpAny_pyIter_list q2
    exact ⟨_, rfl, h⟩
section
variable {prog : Program} {w : World} {A : Around} {E : Value → Shared → Prop} {s : Shared}
theorem call_zipq {a1 a2 : Addr} {xs ys : Array Value} {Q : Value → Shared → Prop} (p1 : s.heap.IsTuple a1 xs) (p2 : s.heap.IsList a2 ys)
    (q : ∀ h', Zq h' (s.heap.objs.size + 4) (s.heap.objs.size + 2) (s.heap.objs.size + 3) s.heap.objs.size (s.heap.objs.size + 1) a1 a2 true false 0 .none .none .none → (∀ c o, s.heap.get? c = some o → h'.get? c = some o) → Q (.ref (s.heap.objs.size + 4)) { s with heap := h' }) :
    wpAny (model prog w) A (call (.type "zip") [.ref a1, .ref a2]) Q E s := by
  refine callType_new F.called_zip (by decide) (F.typeCall_zip_2 _ _) (F.newCall_zip_2 _ _) (fun obj => F.args_object_init_3 obj _ _) F.entry_zip_new (meets_zipq a1 a2 xs ys) ⟨p1, p2, ?_⟩
  have n1 : (zq1 s.heap a1).objs.size = s.heap.objs.size + 1 := Heap.size_push ..
  have n2 : (zq2 s.heap a1 a2).objs.size = s.heap.objs.size + 2 := (Heap.size_push ..).trans (congrArg (· + 1) n1)
  have n3 : (zq3 s.heap a1 a2).objs.size = s.heap.objs.size + 3 := (Heap.size_push ..).trans (congrArg (· + 1) n2)
  have n4 : (zq4 s.heap a1 a2).objs.size = s.heap.objs.size + 4 := (Heap.size_push ..).trans (congrArg (· + 1) n3)
  have at4 : (zq5 s.heap a1 a2).get? (zq4 s.heap a1 a2).objs.size = some _ := Heap.get?_push_size _ rfl
  have up5 : ∀ {c : Addr} {o : Obj}, (zq4 s.heap a1 a2).get? c = some o → (zq5 s.heap a1 a2).get? c = some o := fun e => Heap.get?_push_of_some _ e
  have up4 : ∀ {c : Addr} {o : Obj}, (zq3 s.heap a1 a2).get? c = some o → (zq4 s.heap a1 a2).get? c = some o := fun e => Heap.get?_push_of_some _ e
  have up3 : ∀ {c : Addr} {o : Obj}, (zq2 s.heap a1 a2).get? c = some o → (zq3 s.heap a1 a2).get? c = some o := fun e => Heap.get?_push_of_some _ e
  have up2 : ∀ {c : Addr} {o : Obj}, (zq1 s.heap a1).get? c = some o → (zq2 s.heap a1 a2).get? c = some o := fun e => Heap.get?_push_of_some _ e
  have at3 : (zq5 s.heap a1 a2).get? (zq3 s.heap a1 a2).objs.size = some _ := up5 (Heap.get?_push_size _ rfl)
  have at2 : (zq5 s.heap a1 a2).get? (zq2 s.heap a1 a2).objs.size = some _ := up5 (up4 (Heap.get?_push_size _ rfl))
  have at1 : (zq5 s.heap a1 a2).get? (zq1 s.heap a1).objs.size = some _ := up5 (up4 (up3 (Heap.get?_push_size _ rfl)))
  have at0 : (zq5 s.heap a1 a2).get? s.heap.objs.size = some _ := up5 (up4 (up3 (up2 (Heap.get?_push_size _ rfl))))
  rw [n4] at at4
  rw [n3] at at3
  rw [n2] at at2
  rw [n1] at at1
  show _ ∧ _
  rw [n4]
  rw [n2, n3] at at4
  rw [n1] at at2
  exact ⟨⟨_, at4, rfl⟩, q _ ⟨at4, at2, at3, ⟨_, at0, rfl, rfl⟩, ⟨_, at1, rfl, rfl⟩⟩ fun c o e => up5 (up4 (up3 (up2 (Heap.get?_push_of_some _ e))))⟩
end
/-- the tuple at a, the list at b, as they stand at each turn -/
def ItzQ (K : PySem.W.Frag) (a b : Addr) : It :=
  ⟨fun i H => ∃ (xs ys : List V) (x y : V), SqT K H a xs ∧ SqL K H b ys ∧ xs[i]? = some x ∧ ys[i]? = some y,
    fun i H v H' => ∃ T x y, v = .ref T ∧ H T = none ∧ H' = upd H T (.tup [x, y]) ∧ (∀ xs, SqT K H a xs → xs[i]? = some x) ∧ ∀ ys, SqL K H b ys → ys[i]? = some y,
    fun i H => ∃ xs ys : List V, SqT K H a xs ∧ SqL K H b ys ∧ (xs.length ≤ i ∨ ys.length ≤ i)⟩
theorem turn_zipq {P : Program} {w : World} {K : PySem.W.Frag} {elts : List Expr} {kk : Nat} {tpos : Pos} {a b zp tI tO i1 i2 : Addr} (D : ZipApart zp tI tO i1 i2 a b) :
    Turn P w K (.Tuple elts kk tpos) (ItzQ K a b) [zp, tI, tO, i1, i2] zp (fun i h => ∃ u v, Zq h zp tI tO i1 i2 a b true false i .none u v) where
  mem := by simp
  obj := by
    rintro i h ⟨u, v, Z⟩ c hc
    simp only [List.mem_cons, List.not_mem_nil, or_false] at hc
    rcases hc with rfl | rfl | rfl | rfl | rfl
    · exact ⟨_, Z.rec_, fun v q => nomatch q⟩
    · exact ⟨_, Z.its, fun v q => nomatch q⟩
    · exact ⟨_, Z.out, fun v q => nomatch q⟩
    · obtain ⟨o, vs, e, d⟩ := Z.t1.rec_
      exact ⟨o, e, fun v q => by rw [d] at q; cases q⟩
    · obtain ⟨o, vs, e, d⟩ := Z.t2.rec_
      exact ⟨o, e, fun v q => by rw [d] at q; cases q⟩
  keep := fun i h h' ⟨u, v, Z⟩ k => ⟨u, v, k zp (by simp) _ Z.rec_, k tI (by simp) _ Z.its, k tO (by simp) _ Z.out, Z.t1.at fun o q => k i1 (by simp) o q, Z.t2.at fun o q => k i2 (by simp) o q⟩
  item := by
    intro X hP hw hK hc i pins s σ H E I hf st hg
    subst hP hw hK
    obtain ⟨u, v, Z⟩ := st
    obtain ⟨xs, ys, x, y, hx, hy, gx, gy⟩ := hg
    obtain ⟨its, rv, p, _⟩ := I.tuple hx
    obtain ⟨jts, rw', p', _⟩ := I.list hy
    obtain ⟨ux, e1, r1⟩ := rv.get gx
    obtain ⟨uy, e2, r2⟩ := rw'.get gy
    refine next_some D Z (xs := its.toArray) (ys := jts.toArray) p p'.isList (x := ux) (y := uy) (by simpa using e1) (by simpa using e2) fun h' Z' new size off => ?_
    refine ⟨_, rfl, wpAny_letOwnedTupleGo_zip (s := { s with heap := h' }) Z'.rec_ fun h'' z'' but => ?_⟩
    have zlt : zp < s.heap.objs.size := Heap.lt_size Z.rec_
    have new2 : h''.get? s.heap.objs.size = some { cls := .type "tuple", data := .seq #[ux, uy] } := (but.2 _ (Nat.ne_of_gt zlt)).trans new
    have ok2 : ObjOk X.prog X.w (upd H s.heap.objs.size (.tup [x, y])) h'' s.heap.objs.size (.tup [x, y]) := ⟨by show 2 ≤ sizeLine; decide, [ux, uy], .cons r1 (.cons r2 .nil), ⟨_, new2, rfl, _, rfl⟩⟩
    have J : Inv X pins σ (upd H s.heap.objs.size (.tup [x, y])) { s with heap := h'' } := I.turnedNew (t' := s.toks) (ch := [zp, tI, tO, i1, i2])
      (fun c o nc q => (but.2 c fun z => nc (by simp [z])).trans (off c o (fun z => nc (by simp [z])) (fun z => nc (by simp [z])) (fun z => nc (by simp [z])) (fun z => nc (by simp [z])) q)) hf (Nat.le_refl _) ok2
    refine ⟨.ref s.heap.objs.size, _, J, rfl, ⟨_, x, y, rfl, I.hok.fresh (Nat.le_refl _), rfl, fun l hl => by rw [I.tuple_inj hl hx]; exact gx, fun l hl => by rw [I.list_inj hl hy]; exact gy⟩, ⟨ux, uy, z'', ?_, ?_, ?_, ?_⟩, fun c hcm => ?_⟩
    · exact (but.2 _ D.TIz).trans Z'.its
    · exact (but.2 _ D.TOz).trans Z'.out
    · exact Z'.t1.at fun o q => (but.2 _ D.i1z).trans q
    · exact Z'.t2.at fun o q => (but.2 _ D.i2z).trans q
    · have low : c < s.heap.objs.size := by
        simp only [List.mem_cons, List.not_mem_nil, or_false] at hcm
        rcases hcm with rfl | rfl | rfl | rfl | rfl
        · exact zlt
        · exact Heap.lt_size Z.its
        · exact Heap.lt_size Z.out
        · exact Z.t1.lt
        · exact Z.t2.lt
      rw [upd_ne (Nat.ne_of_lt low)]
      exact (hf c hcm).1
  done := by
    intro X hP hw hK hc i pins s σ H E I hf st hg
    subst hP hw hK
    obtain ⟨u, v, Z⟩ := st
    obtain ⟨xs, ys, hx, hy, last⟩ := hg
    obtain ⟨its, rv, p, _⟩ := I.tuple hx
    obtain ⟨jts, rw', p', _⟩ := I.list hy
    have n1 := rv.length
    have n2 := rw'.length
    have stop : its.toArray[i]? = none ∨ jts.toArray[i]? = none := last.imp (fun q => by simp; omega) fun q => by simp; omega
    exact next_none (I.ok.hd hc) D Z (xs := its.toArray) (ys := jts.toArray) p p'.isList stop fun h' off => ⟨rfl, I.turnedL (t' := s.toks) (ch := [zp, tI, tO, i1, i2])
      (fun c o nc q => off c o (fun z => nc (by simp [z])) (fun z => nc (by simp [z])) (fun z => nc (by simp [z])) (fun z => nc (by simp [z])) q) hf⟩
  self := fun A i s Q E ⟨_, _, Z⟩ h => wpAny_pyIter_zip Z.rec_ h
/-- zip(t, l), both tuples or a tuple and a list -/
def iZipQ (K : PySem.W.Frag) (ta : TA) : TI := fun σ H R => ta σ H fun vs H1 => ∃ a b xs ys, vs = [.ref a, .ref b] ∧ SqT K H1 a xs ∧ ((SqT K H1 b ys ∧ R (RZ.ItzT K a b) H1) ∨ (SqL K H1 b ys ∧ R (ItzQ K a b) H1))
theorem five {n c : Nat} (h : c ∈ [n + 4, n + 2, n + 3, n, n + 1]) : n ≤ c := by
  simp only [List.mem_cons, List.not_mem_nil, or_false] at h
  omega
theorem pi_zipQ {X : Cx} {e e2 : Expr} {ta : TA} {p pos tpos : Pos} {elts : List Expr} {kk : Nat} (hg : Gl X "zip") (hm : X.mg "zip" = none) (ha : PA X [e, e2] ta)
    (hs : starEach [e, e2] X.env = (false, eval e X.env) :: starEach [e2] X.env := by rfl) (hpl : (backTo pos (starEach [e2] X.env)).any (·.1) = false := by rfl) :
    PI X (.Tuple elts kk tpos) (.Call (.Name "zip" p) [e, e2] [] pos) (iZipQ X.K ta) := by
  refine ⟨fun pins s σ H R I h => ?_⟩
  refine Call_ (ld_blt I hg hm PyProof.Rows.boot_zip (PyProof.Rows.callWith_type1 (thn (ha.run pos pins s σ H _ I h) ?_) hs hpl))
  rintro us s1 ⟨vs, H1, I1, r1, a, b, xs, ys, rfl, hx, q⟩
  obtain ⟨u1, u2, rfl, ra, rb⟩ := vals2 r1
  obtain rfl : u1 = Value.ref a := ra
  obtain rfl : u2 = Value.ref b := rb
  obtain ⟨its, rv, p1, _⟩ := I1.tuple hx
  have low1 : a < s1.heap.objs.size := by
    obtain ⟨o, e, _⟩ := p1
    exact Heap.lt_size e
  have ok5 : ∀ c, c ∈ [s1.heap.objs.size + 4, s1.heap.objs.size + 2, s1.heap.objs.size + 3, s1.heap.objs.size, s1.heap.objs.size + 1] → FpOk X pins H1 c := fun c hc => I1.fpOk (five hc) (I1.hok.fresh (five hc))
  rcases q with ⟨hy, q⟩ | ⟨hy, q⟩
  · obtain ⟨jts, rw', p2, _⟩ := I1.tuple hy
    have low2 : b < s1.heap.objs.size := by
      obtain ⟨o, e, _⟩ := p2
      exact Heap.lt_size e
    refine RZ.call_zipT (show s1.heap.IsTuple a its.toArray from p1) (show s1.heap.IsTuple b jts.toArray from p2) fun h' hz hI hO t1 t2 _ kept => wpAny_pyIter_zip hz ?_
    exact ⟨_, _, _, _, H1, rfl, I1.kept (t' := s1.toks) kept, RZ.turn_zipT (PySem.W.ktu_apart s1.heap.objs.size a b low1 low2), ⟨hz, hI, ⟨_, _, hO⟩, t1, t2⟩, ok5, q⟩
  · obtain ⟨jts, rw', p2, _⟩ := I1.list hy
    refine call_zipq (show s1.heap.IsTuple a its.toArray from p1) p2.isList fun h' Z kept => wpAny_pyIter_zip Z.rec_ ?_
    exact ⟨_, _, _, _, H1, rfl, I1.kept (t' := s1.toks) kept, turn_zipq (PySem.W.ktu_apart s1.heap.objs.size a b low1 p2.lt), ⟨_, _, Z⟩, ok5, q⟩
section
variable {K : PySem.W.Frag} {a b : Addr} {xs ys : List V}
theorem walk_zipT (hl : xs.length = ys.length) : Walk (RZ.ItzT K a b) xs.length (fun H => SqT K H a xs ∧ SqT K H b ys) (YPair (fun i => xs[i]?) (fun i => ys[i]?)) := by
  refine ⟨fun i H hi q => ⟨xs, ys, xs[i], ys[i]'(by omega), q.1, q.2, by simp [hi], by simp [hl ▸ hi]⟩, fun H q => ⟨xs, ys, q.1, q.2, .inl (Nat.le_refl _)⟩, fun i H v H' hi q y => ?_⟩
  obtain ⟨T, x, y, e1, e2, e3, e4, e5⟩ := y
  exact ⟨T, x, y, e1, e2, e3, e4 xs q.1, e5 ys q.2⟩
theorem walk_zipQ (hl : xs.length = ys.length) : Walk (ItzQ K a b) xs.length (fun H => SqT K H a xs ∧ SqL K H b ys) (YPair (fun i => xs[i]?) (fun i => ys[i]?)) := by
  refine ⟨fun i H hi q => ⟨xs, ys, xs[i], ys[i]'(by omega), q.1, q.2, by simp [hi], by simp [hl ▸ hi]⟩, fun H q => ⟨xs, ys, q.1, q.2, .inl (Nat.le_refl _)⟩, fun i H v H' hi q y => ?_⟩
  obtain ⟨T, x, y, e1, e2, e3, e4, e5⟩ := y
  exact ⟨T, x, y, e1, e2, e3, e4 xs q.1, e5 ys q.2⟩
end
end Ver
/-! Ver, 15: == and != of own objects by an own __eq__; in, of plain data among texts -/
namespace Ver
open PySem PySem.Spec PyProof.Rows L2
section
variable {X : Cx}
def eqW (d : PyData) : Value → Bool
  | .str y _ => eqS d y
  | _ => false
theorem any_eqW {d : PyData} : ∀ {ws : List Str} {us : List Value}, Vals (ws.map V.str) us → us.any (eqW d) = ws.any (eqS d)
  | [], _, .nil => rfl
  | w :: ws, _, .cons ⟨t, e⟩ r => by
    subst e
    rw [List.any_cons, List.any_cons, any_eqW r]
    rfl
/-- x in a list or a tuple of texts, x plain data -/
def rInA (K : PySem.W.Frag) (neg : Bool) : R2 := fun x y H Q => ∃ (N : Addr → Prop) (d : PyData) (p : Addr) (ws : List Str), Da N H x d ∧ y = .ref p ∧ (SqL K H p (ws.map V.str) ∨ SqT K H p (ws.map V.str)) ∧ Q (.bl (if neg = true then !ws.any (eqS d) else ws.any (eqS d))) H
theorem mem_vals {ws : List Str} : ∀ {us : List Value}, Vals (ws.map V.str) us → ∀ u ∈ us, ∃ y t, u = .str y t := by
  induction ws with
  | nil =>
    intro us h u hu
    cases h
    cases hu
  | cons w ws ih =>
    intro us h u hu
    cases h with
    | cons r rs =>
      obtain ⟨t, rfl⟩ := r
      rcases List.mem_cons.mp hu with rfl | hu
      · exact ⟨_, _, rfl⟩
      · exact ih rs u hu
theorem op_inA (hu : X.A.units + 1 < cLine) : OpR X (compareOp .In) (rInA X.K false) := by
  rintro pins s σ H x y v u Q I rx ry ⟨N, d, p, ws, hd, rfl, hq, q⟩
  cases ry
  have one : ∀ w, (∃ y t, w = Value.str y t) → PySem.SeqAt.EqAt X.A.in1 s w v (eqW d w) := fun w ⟨y, t, e⟩ => by
    subst e
    exact hd.textEq I rx y t hu
  rcases hq with hq | hq
  · obtain ⟨its, r, pl, _⟩ := I.list hq
    refine SeqAt.in_listAt (eqW d) pl.isList (fun w hw => one w (mem_vals r w (by simpa using hw))) ⟨.bl _, H, I, rfl, ?_⟩
    rw [show its.toArray.any (eqW d) = its.any (eqW d) by simp, any_eqW r]
    exact q
  · obtain ⟨its, r, pl, _⟩ := I.tuple hq
    refine SeqAt.in_tupleAt (eqW d) pl (fun w hw => one w (mem_vals r w (by simpa using hw))) ⟨.bl _, H, I, rfl, ?_⟩
    rw [show its.toArray.any (eqW d) = its.any (eqW d) by simp, any_eqW r]
    exact q
theorem op_notInA (hu : X.A.units + 1 < cLine) : OpR X (compareOp .NotIn) (rInA X.K true) := by
  rintro pins s σ H x y v u Q I rx ry ⟨N, d, p, ws, hd, rfl, hq, q⟩
  cases ry
  have one : ∀ w, (∃ y t, w = Value.str y t) → PySem.SeqAt.EqAt X.A.in1 s w v (eqW d w) := fun w ⟨y, t, e⟩ => by
    subst e
    exact hd.textEq I rx y t hu
  rcases hq with hq | hq
  · obtain ⟨its, r, pl, _⟩ := I.list hq
    refine SeqAt.notIn_listAt (eqW d) pl.isList (fun w hw => one w (mem_vals r w (by simpa using hw))) ⟨.bl _, H, I, rfl, ?_⟩
    rw [show its.toArray.any (eqW d) = its.any (eqW d) by simp, any_eqW r]
    exact q
  · obtain ⟨its, r, pl, _⟩ := I.tuple hq
    refine SeqAt.notIn_tupleAt (eqW d) pl (fun w hw => one w (mem_vals r w (by simpa using hw))) ⟨.bl _, H, I, rfl, ?_⟩
    rw [show its.toArray.any (eqW d) = its.any (eqW d) by simp, any_eqW r]
    exact q
end
/-! ### == and != by an own __eq__ -/
section
variable {prog : Program} {w : World} {A : Around} {E : Value → Shared → Prop} {s : Shared} {K : PySem.W.Frag} {x C L f : Addr} {h₀ : Heap} {m : Str → Option Value} {ox : Obj} {od : Option Obj} {name : Str} {b tb : Value}
open PySem.W
theorem ifBound_B {M : Model} {id : String} {args : List Value} {Q : Option Value → Shared → Prop} (X : K.In s.heap) (I : InstAt s.heap x ox C od) (hs : findIn K (.ref C) name = some (some (.builtin id))) (hbd : bindSpecial (.builtin id) (.ref x) = pure (.builtin id, [.ref x]))
    (h : wpAny M A (call (.builtin id) (.ref x :: args)) (fun v => Q (some v)) E s) : wpAny M A (callSpecialIfBound? (.ref x) name args) Q E s := by
  simp only [callSpecialIfBound?, bindSpecialIfBound?]
  refine wpAny_holding (wpAny_bind (wpAny_bind (wpAny_bind (I.type.here ((looks_findIn X hs).here ?_)))))
  simp only [hbd]
  refine wpAny_bind (wpAny_askSetting (wpAny_ite ?_))
  have fin : wpAny M A (call (.builtin id) ([.ref x] ++ args) >>= fun v => pure (some v)) Q E s := wpAny_bind (wpAny_mono h (fun v s' h' => wpAny_pure h') fun _ _ h' => h')
  split
  · exact wpAny_bind (wpAny_pure (wpAny_pure fin))
  · exact wpAny_tryCatch (wpAny_bind (wpAny_pure (wpAny_pure fin)))
theorem ne_entry {Q : Fin → Shared → Prop} (X : K.In s.heap) (I : InstAt s.heap x ox C od) (he : findIn K (.ref C) "__eq__" = some (some (.ref f))) (hf : isFn K (.ref f) = true) (hu : A.units < cLine)
    (hcall : wpAny (model prog w) A (call (.ref f) [.ref x, b]) (fun v s' => ∃ r, v = .bool r ∧ Q (.done (.ret (.bool (!r)))) s') E s) :
    wpAny (model prog w) A (Builtin.«object.__ne__» ⟨[.ref x, b], []⟩) Q E s := by
  obtain ⟨h, g, d, t, os⟩ := s
  unfold Builtin.«object.__ne__»
  repeat (first
    | with_reducible refine wpAny_cRoomFor hu ?_
    | (refine wpAny_bind (m := callSpecialIfBound? (.ref x) (Str.ofString "__eq__") [b])
        (ifBound_K X I he hf (wpAny_mono hcall (fun r s' hr => by
          obtain ⟨b, rfl, hq⟩ := hr
          repeat (first | exact hq | exact wpAny_pure hq | exact wpAny_truthy_bool hq | (refine wpAny_bind (m := truthy (.bool _)) (wpAny_truthy_bool ?_)) | wp_step)) fun _ _ e => e)))
    | wp_step)
theorem cmp_ne {Q : Value → Shared → Prop} (hu : A.units + 1 < cLine) (F' : Fr h₀ L s.heap m) (X₀ : K.In h₀) (I : InstAt s.heap x ox C od) (hb : Looks (model prog w) s.heap (typeOf b) tb) (hn : notFirst K C tb = true)
    (hs : findIn K (.ref C) "__ne__" = some (some (.builtin "object.__ne__"))) (he : findIn K (.ref C) "__eq__" = some (some (.ref f))) (hf : isFn K (.ref f) = true) (ho : subIn K (.ref C) (.type "object") = some true)
    (h : wpAny (model prog w) A.in1 (call (.ref f) [.ref x, b]) (fun v s' => ∃ r, v = .bool r ∧ Q (.bool (!r)) s') E s) : wpAny (model prog w) A (richCompare .NotEq (.ref x) b) Q E s := by
  have X := X₀.keeps F'.keep
  have one : wpAny (model prog w) A (tryCompare (.ref x) "__ne__" b) (fun r s' => ∃ v, r = some v ∧ Q v s') E s := by
    unfold tryCompare
    refine wpAny_bind (ifBound_B X I hs (F.cmp_object.ne.bind _) (wpAny_call (codeAny_call_builtin F.cmp_object.ne.plain F.cmpEntry_ne
      (check_slot F.cmpKind_ne F.cmpSplit_ne (I.type.andThen (looks_subIn X ho)) (F.cmpArgs_ne _ _) (ne_entry (A := A.in1) X I he hf hu (wpAny_mono h (fun v s' hv => ?_) fun _ _ e => e))))))
    obtain ⟨r, rfl, hq⟩ := hv
    first | exact ⟨r, rfl, wpAny_pure ⟨_, rfl, hq⟩⟩ | exact ⟨r, rfl, wpAny_pure (wpAny_pure ⟨_, rfl, hq⟩)⟩ | exact ⟨r, rfl, _, rfl, hq⟩
  unfold richCompare
  simp only [oneThing_ref]
  refine wpAny_holding (wpAny_bind (wpAny_cRoomFor (Nat.lt_of_succ_lt hu) ?_))
  refine wpAny_bind (I.type.here (wpAny_bind (hb.here ?_)))
  split
  · rename_i q
    have e : subIn K tb (.ref C) = some false := by
      rcases Bool.or_eq_true_iff.mp hn with e | e
      · rw [beq_iff_eq.mp e] at q; simp at q
      · exact beq_iff_eq.mp e
    refine wpAny_bind ((looks_subIn X e).here ?_)
    simp only [Bool.false_eq_true, if_false]
    refine wpAny_bind (wpAny_mono one (fun r s' z => ?_) fun _ _ e => e)
    obtain ⟨v, rfl, hq⟩ := z
    exact wpAny_pure hq
  · refine wpAny_bind (wpAny_pure ?_)
    simp only [Bool.false_eq_true, if_false]
    refine wpAny_bind (wpAny_mono one (fun r s' z => ?_) fun _ _ e => e)
    obtain ⟨v, rfl, hq⟩ := z
    exact wpAny_pure hq
end
/-- what the top says of a class with an own __eq__ -/
structure EqC (K : PySem.W.Frag) (C f : Addr) : Prop where
  e : PySem.W.findIn K (.ref C) "__eq__" = some (some (.ref f))
  fn : PySem.W.isFn K (.ref f) = true
  n : PySem.W.findIn K (.ref C) "__ne__" = some (some (.builtin "object.__ne__"))
  o : PySem.W.subIn K (.ref C) (.type "object") = some true
  i : PySem.W.notFirst K C (.type "int") = true
  l : PySem.W.notFirst K C (.type "list") = true
/-- the other side: of the same class, a number, a list -/
def OtherE (H : Hp) (C : Addr) (y : V) : Prop := (∃ b dy gs, y = .ref b ∧ H b = some (.ins C dy gs)) ∨ (∃ i, y = .int i)
def rOwnE (C : Addr) (sp : Sp) (g : Bool → Bool) : R2 := fun x y H Q => ∃ a dx fs, x = .ref a ∧ H a = some (.ins C dx fs) ∧ OtherE H C y ∧ sp [x, y] H (fun v H' => ∃ b, v = .bl b ∧ Q (.bl (g b)) H') (fun _ _ _ => False)
section
variable {X : Cx} {C f : Addr} {fd : FuncData} {ps : List Str} {sp : Sp} {k : Nat}
theorem other_type {pins : List (Addr × Obj)} {σ : L2.St} {H : Hp} {s : Shared} {y : V} {u : Value} (I : Inv X pins σ H s) (T : EqC X.K C f) (ry : RelV y u) (o : OtherE H C y) : ∃ t, PySem.W.Looks (model X.prog X.w) s.heap (typeOf u) t ∧ PySem.W.notFirst X.K C t = true := by
  rcases o with ⟨b, dy, gs, rfl, hb⟩ | ⟨i, rfl⟩
  · cases ry
    obtain ⟨mB, J, _⟩ := ins_get I.hok hb
    obtain ⟨od, J, _⟩ := J.look
    exact ⟨_, J.type, by simp [PySem.W.notFirst]⟩
  · obtain ⟨t, rfl⟩ := ry
    exact ⟨_, PySem.W.Looks.of_pure rfl, T.i⟩
theorem own_call {A : Around} {pins : List (Addr × Obj)} {σ : L2.St} {H : Hp} {s : Shared} {a : Addr} {y : V} {u : Value} {Q : Value → Shared → Prop} {R : Bool → Hp → Prop} (F : FnOk X.prog X.w X.K X.mg X.base CX0 k f fd ps sp) (hb : Binds X.K fd ps []) (hr : Room k A) (hf : A.frames = X.A.frames)
    (I : Inv X pins σ H s) (ry : RelV y u) (hsp : sp [.ref a, y] H (fun v H' => ∃ b, v = .bl b ∧ R b H') (fun _ _ _ => False)) (q : ∀ b s' H', Inv X pins σ H' s' → R b H' → Q (.bool b) s') :
    wpAny (model X.prog X.w) A (call (.ref f) [.ref a, u]) (fun v s' => ∃ r, v = .bool r ∧ Q (.bool r) s') X.xe s := by
  have e0 : Env0 X.prog X.w X.K X.mg X.base A X.stack s H := by
    have e := I.env0
    exact ⟨by rw [hf]; exact e.frames, e.mod, e.bs, e.bsz, e.funs, e.frf, e.hok, e.bare⟩
  have hl := F.len _ _ _ _ hsp
  have r2 : Vals [V.ref a, y] [Value.ref a, u] := .cons rfl (.cons ry .nil)
  refine wpAny_call (codeAny_mono (F.run A X.stack s H ⟨[.ref a, u], []⟩ [.ref a, u] [.ref a, y] _ _ hr e0 (by
    have := hb s [.ref a, u] I.kIn (by simpa using hl)
    simpa using this) r2 hsp) fun r s' hq => ?_)
  cases r with
  | error e => exact hq.elim
  | ok fl =>
    cases fl with
    | ret w =>
      obtain ⟨z, H', I', rz, b, ez, ex⟩ := I.after hq
      subst ez
      cases rz
      exact ⟨b, rfl, q b s' H' I' ex⟩
    | next => exact False.elim hq
    | brk => exact False.elim hq
    | cont => exact False.elim hq
theorem op_ownEq (F : FnOk X.prog X.w X.K X.mg X.base CX0 k f fd ps sp) (hb : Binds X.K fd ps []) (hr : Room k X.A) (T : EqC X.K C f) : OpR X (compareOp .Eq) (rOwnE C sp id) := by
  rintro pins s σ H x y v u Q I rx ry ⟨a, dx, fs, rfl, ha, o, hsp⟩
  cases rx
  obtain ⟨mA, J, _⟩ := ins_get I.hok ha
  obtain ⟨od, J, _⟩ := J.look
  obtain ⟨m, hF⟩ := I.fr
  obtain ⟨t, ht, hn⟩ := other_type I T ry o
  show wpAny (model X.prog X.w) X.A (richCompare .Eq (.ref a) u) (EP X pins σ Q) X.xe s
  refine PySem.W.cmp_K (op := .Eq) (tb := t) hr.units0 hF I.ok.mod.kin J ht hn T.e T.fn ?_
  refine wpAny_mono (own_call (R := fun b => Q (.bl b)) (Q := fun v s' => EP X pins σ Q v s') F hb hr rfl I ry hsp fun b s' H' I' hq => ⟨.bl b, H', I', rfl, hq⟩) (fun v s' hv => ?_) fun _ _ e => e
  obtain ⟨r, rfl, hq⟩ := hv
  exact hq
theorem op_ownNe (F : FnOk X.prog X.w X.K X.mg X.base CX0 k f fd ps sp) (hb : Binds X.K fd ps []) (hr : Room k X.A.in1) (T : EqC X.K C f) : OpR X (compareOp .NotEq) (rOwnE C sp fun b => !b) := by
  rintro pins s σ H x y v u Q I rx ry ⟨a, dx, fs, rfl, ha, o, hsp⟩
  cases rx
  obtain ⟨mA, J, _⟩ := ins_get I.hok ha
  obtain ⟨od, J, _⟩ := J.look
  obtain ⟨m, hF⟩ := I.fr
  obtain ⟨t, ht, hn⟩ := other_type I T ry o
  show wpAny (model X.prog X.w) X.A (richCompare .NotEq (.ref a) u) (EP X pins σ Q) X.xe s
  refine cmp_ne (tb := t) hr.units0 hF I.ok.mod.kin J ht hn T.n T.e T.fn T.o ?_
  refine wpAny_mono (own_call (R := fun b => Q (.bl (!b))) (Q := fun v s' => ∀ b, v = .bool b → EP X pins σ Q (.bool (!b)) s') F hb hr rfl I ry hsp fun b s' H' I' hq b' e => ?_) (fun v s' hv => ?_) fun _ _ e => e
  · cases e
    exact ⟨.bl (!b), H', I', rfl, hq⟩
  · obtain ⟨r, rfl, hq⟩ := hv
    exact ⟨r, rfl, hq r rfl⟩
end
end Ver
/-! Ver, 16: enumerate over a list or a tuple -/
namespace Ver
open PySem PySem.Spec PyProof.Rows L2
open PySem.Sem (wp)
section
variable {prog : Program} {w : World} {A : Around} {E : Value → Shared → Prop} {s : Shared} {b : Bool}
abbrev Off2 (e it : Addr) (h h' : Heap) : Prop := ∀ c o, c ≠ e → c ≠ it → h.get? c = some o → h'.get? c = some o
theorem enq_some {e it a : Addr} {i : Nat} {xs : Array Value} {x old : Value} {Q : Value → Shared → Prop} (en : IsEnum s.heap e it i old) (t : Itq s.heap b it a i) (l : Sqq s.heap b a xs) (hx : xs[i]? = some x) (ne : e ≠ it) (na : a ≠ it)
    (q : ∀ h', IsEnumOut h' e it ((i : Int) + 1) x s.heap.objs.size → Itq h' b it a (i + 1) → h'.get? s.heap.objs.size = some { cls := .type "tuple", data := .seq #[.int i s.toks, x] } → h'.objs.size = s.heap.objs.size + 1 → Off2 e it s.heap h' → Q (.ref s.heap.objs.size) { s with heap := h', toks := s.toks + 1 }) :
    wpAny (model prog w) A (Builtin.«enumerate.__next__» ⟨[.ref e], []⟩) (fun fin s' => ∃ v, fin = .done (.ret v) ∧ Q v s') E s := by
  obtain ⟨hp, gs, dr, tk, os⟩ := s
  show wpAny _ _ (field (.ref e) 2 >>= _) _ _ _
  refine wpAny_bind (wpAny_field en rfl (x := .ref it) rfl (wpAny_bind (draw_one t l hx fun g1 t1 m1 => ?_)))
  replace m1 : Heap.SameBut it hp g1 := m1
  have e1 : IsEnum g1 e it i old := (m1.2 e ne).trans en
  show wpAny _ _ (field (.ref e) 3 >>= _) _ _ ⟨g1, gs, dr, tk, os⟩
  refine wpAny_bind (wpAny_field e1 rfl (x := rawInt i) rfl (show wpAny _ _ (field (.ref e) 4 >>= _) _ _ ⟨g1, gs, dr, tk, os⟩ from ?_))
  refine wpAny_bind (wpAny_field e1 rfl (x := .none) rfl (show wpAny _ _ (mkInt i >>= _) _ _ ⟨g1, gs, dr, tk, os⟩ from wpAny_bind (wpAny_mkInt ?_)))
  show wpAny _ _ (setField (.ref e) 3 (rawInt ((i : Int) + 1)) >>= _) _ _ ⟨g1, gs, dr, tk + 1, os⟩
  refine wpAny_bind (wpAny_setField_rec e1 (by simp) fun g2 e2 m2 => ?_)
  replace m2 : Heap.SameBut e g1 g2 := m2
  replace e2 : IsEnum g2 e it ((i : Int) + 1) old := e2
  show wpAny _ _ (setField (.ref e) 4 .none >>= _) _ _ ⟨g2, gs, dr, tk + 1, os⟩
  refine wpAny_bind (wpAny_setField_rec e2 (by simp) fun g3 e3 m3 => ?_)
  replace m3 : Heap.SameBut e g2 g3 := m3
  replace e3 : IsEnum g3 e it ((i : Int) + 1) old := e3
  show wpAny _ _ (newTuple [.int i tk, x] >>= _) _ _ ⟨g3, gs, dr, tk + 1, os⟩
  refine wpAny_bind (wpAny_newTuple ?_)
  have size3 : g3.objs.size = hp.objs.size := m3.1.trans (m2.1.trans m1.1)
  have le : e < hp.objs.size := Heap.lt_size en
  have e4 : IsEnum (g3.push { cls := .type "tuple", data := .seq #[.int i tk, x] }) e it ((i : Int) + 1) old := Heap.get?_push_of_some _ e3
  have n4 : (g3.push { cls := .type "tuple", data := .seq #[.int i tk, x] }).get? hp.objs.size = some { cls := .type "tuple", data := .seq #[.int i tk, x] } := by
    rw [← size3]
    exact Heap.get?_push_size _ rfl
  have size4 : (g3.push { cls := .type "tuple", data := .seq #[.int i tk, x] }).objs.size = hp.objs.size + 1 := by rw [Heap.size_push, size3]
  have k4 : Off2 e it hp (g3.push { cls := .type "tuple", data := .seq #[.int i tk, x] }) := fun c o n1 n2 z => Heap.get?_push_of_some _ (m3.extBut c o n1 (m2.extBut c o n1 (m1.extBut c o n2 z)))
  have t4 : Itq (g3.push { cls := .type "tuple", data := .seq #[.int i tk, x] }) b it a (i + 1) := ((t1.but m2.extBut (Ne.symm ne)).but m3.extBut (Ne.symm ne)).at fun o z => Heap.get?_push_of_some _ z
  generalize g3.push { cls := .type "tuple", data := .seq #[.int i tk, x] } = g4 at e4 n4 size4 k4 t4
  show wpAny _ _ (Builtin.SmallTypes.ownedTupleIsFree (.ref e) >>= _) _ _ ⟨g4, gs, dr, tk + 1, os⟩
  rw [size3]
  refine wpAny_bind ?_
  (unfold Builtin.SmallTypes.ownedTupleIsFree; refine wpAny_bind (wpAny_field e4 rfl (x := .none) rfl (wpAny_pure ?_)))
  simp only [if_true]
  refine wpAny_bind (wpAny_rule (wpAny_bind (wpAny_field e4 rfl (x := old) rfl (wpAny_bind (wpAny_setField_rec e4 (by simp) fun g5 e5 m5 => ?_)))))
  replace m5 : Heap.SameBut e g4 g5 := m5
  replace e5 : IsEnum g5 e it ((i : Int) + 1) x := e5
  refine wpAny_bind (show wpAny _ _ (Builtin.SmallTypes.ownedTupleHandOut (.ref e) (.ref hp.objs.size)) _ _ ⟨g5, gs, dr, tk + 1, os⟩ from ?_)
  unfold Builtin.SmallTypes.ownedTupleHandOut
  refine wpAny_bind (wpAny_setField_rec e5 (by simp) fun g6 e6 m6 => ?_)
  replace m6 : Heap.SameBut e g5 g6 := m6
  replace e6 : IsEnumOut g6 e it ((i : Int) + 1) x hp.objs.size := e6
  refine wpAny_setField_rec e6 (by simp) fun g7 e7 m7 => ?_
  replace m7 : Heap.SameBut e g6 g7 := m7
  replace e7 : IsEnumOut g7 e it ((i : Int) + 1) x hp.objs.size := e7
  have up : ∀ c o, c ≠ e → g4.get? c = some o → g7.get? c = some o := fun c o n z => m7.extBut _ _ n (m6.extBut _ _ n (m5.extBut _ _ n z))
  refine wpAny_bind (wpAny_letGo (wpAny_pure ⟨_, rfl, q g7 e7 (t4.at fun o z => up _ o (Ne.symm ne) z) (up _ _ (Nat.ne_of_gt le) n4) ?_ fun c o n1 n2 z => up c o n1 (k4 c o n1 n2 z)⟩))
  rw [m7.1, m6.1, m5.1, size4]
theorem enq_next_some {e it a : Addr} {i : Nat} {xs : Array Value} {x old : Value} {Q : Option Value → Shared → Prop} (en : IsEnum s.heap e it i old) (t : Itq s.heap b it a i) (l : Sqq s.heap b a xs) (hx : xs[i]? = some x) (ne : e ≠ it) (na : a ≠ it)
    (q : ∀ h', IsEnumOut h' e it ((i : Int) + 1) x s.heap.objs.size → Itq h' b it a (i + 1) → h'.get? s.heap.objs.size = some { cls := .type "tuple", data := .seq #[.int i s.toks, x] } → h'.objs.size = s.heap.objs.size + 1 → Off2 e it s.heap h' → Q (some (.ref s.heap.objs.size)) { s with heap := h', toks := s.toks + 1 }) :
    wpAny (model prog w) A (pyNext (.ref e)) Q E s := by
  have ty : s.TypeIs (.ref e) "enumerate" := ⟨_, en, rfl⟩
  unfold pyNext
  exact wpAny_bind (wpAny_attempt (wpAny_callSpecial?_slot (name := Str.ofString "__next__") ty F.slot_enumerate_next (wpAny_call_entry F.slot_enumerate_next ty F.entry_enumerate_next (enq_some en t l hx ne na fun h' a b c d k => wpAny_pure (q h' a b c d k)) (F.args_enumerate_next_1 _))))
theorem enq_next_none {e it a : Addr} {i : Nat} {xs : Array Value} {old : Value} {Q : Option Value → Shared → Prop} (calm : A.handled = none) (en : IsEnum s.heap e it i old) (t : Itq s.heap b it a i) (l : Sqq s.heap b a xs) (hx : xs[i]? = none)
    (q : ∀ h', Heap.ExtBut it s.heap h' → Q none { s with heap := h' }) : wpAny (model prog w) A (pyNext (.ref e)) Q E s := by
  have ty : s.TypeIs (.ref e) "enumerate" := ⟨_, en, rfl⟩
  unfold pyNext
  refine wpAny_bind (wpAny_attempt (wpAny_callSpecial?_slot (name := Str.ofString "__next__") ty F.slot_enumerate_next (wpAny_call_entry F.slot_enumerate_next ty F.entry_enumerate_next ?_ (F.args_enumerate_next_1 _))))
  show wpAny _ _ (field (.ref e) 2 >>= _) _ _ _
  refine wpAny_bind (wpAny_field en rfl (x := .ref it) rfl (wpAny_bind (draw_none calm t l hx fun h' x kx ⟨o, ho, hc⟩ => ?_)))
  exact wpAny_bind (wpAny_isInstance (T := "StopIteration") (b := true) ⟨o, ho, hc⟩ isSubtype_stop (wpAny_pure (q _ kx)))
end
/-- the tuple at a as it stands at each turn, its items counted, in new pairs -/
def IteT (K : PySem.W.Frag) (a : Addr) : It :=
  ⟨fun i H => ∃ (xs : List V) (x : V), SqT K H a xs ∧ xs[i]? = some x, fun i H v H' => ∃ T x, v = .ref T ∧ H T = none ∧ H' = upd H T (.tup [.int (i : Nat), x]) ∧ ∀ ys, SqT K H a ys → ys[i]? = some x, fun i H => ∃ xs : List V, SqT K H a xs ∧ xs.length ≤ i⟩
theorem turn_enumT {P : Program} {w : World} {K : PySem.W.Frag} {elts : List Expr} {kk : Nat} {tpos : Pos} (a e it : Addr) :
    Turn P w K (.Tuple elts kk tpos) (IteT K a) [e, it] e (fun i h => (∃ old, IsEnum h e it ((i : Nat) : Int) old) ∧ Itq h true it a i ∧ e ≠ it ∧ a ≠ it) where
  mem := by simp
  obj := fun i h st c hc => by
    obtain ⟨⟨old, he⟩, ⟨o, ho, hc', hd⟩, _⟩ := st
    have two : c = e ∨ c = it := by simpa using hc
    rcases two with z | z
    · rw [z]; exact ⟨_, he, fun v q => nomatch q⟩
    · rw [z]; exact ⟨o, ho, fun v q => by rw [hd] at q; cases q⟩
  keep := fun i h h' st k => let ⟨⟨old, he⟩, hi, n1, n2⟩ := st; ⟨⟨old, k e (by simp) _ he⟩, hi.at fun o q => k it (by simp) o q, n1, n2⟩
  item := by
    intro X hP hw hK hc i pins s σ H E I hf st hg
    subst hP hw hK
    obtain ⟨⟨old, he⟩, hit, n1, n2⟩ := st
    obtain ⟨xs, x, hq, hx⟩ := hg
    obtain ⟨its, rv, p, hz⟩ := I.tuple hq
    obtain ⟨u, hu, ru⟩ := rv.get hx
    have le : e < s.heap.objs.size := Heap.lt_size he
    refine enq_next_some (b := true) he hit p (x := u) (by simpa using hu) n1 n2 fun h' ho hit' hT hsz hk => ?_
    refine ⟨_, rfl, wpAny_letOwnedTupleGo_enum (s := { s with heap := h', toks := s.toks + 1 }) ho fun h'' he' sb => ?_⟩
    have two : ∀ c ∈ [e, it], c < s.heap.objs.size := fun c hc => by
      have z : c = e ∨ c = it := by simpa using hc
      rcases z with z | z
      · exact z ▸ le
      · exact z ▸ hit.lt
    have hT2 : h''.get? s.heap.objs.size = some { cls := .type "tuple", data := .seq #[.int i s.toks, u] } := (sb.2 _ (Nat.ne_of_gt le)).trans hT
    have new : ObjOk X.prog X.w (upd H s.heap.objs.size (.tup [.int (i : Nat), x])) h'' s.heap.objs.size (.tup [.int (i : Nat), x]) :=
      ⟨by show 2 ≤ sizeLine; decide, [.int i s.toks, u], .cons ⟨_, rfl⟩ (.cons ru .nil), ⟨_, hT2, rfl, _, rfl⟩⟩
    have I1 : Inv X pins σ (upd H s.heap.objs.size (.tup [.int (i : Nat), x])) { s with heap := h'', toks := s.toks + 1 } :=
      I.turnedNew (ch := [e, it]) (fun c ob hb q => (sb.2 c (fun z => hb (by simp [z]))).trans (hk c ob (fun z => hb (by simp [z])) (fun z => hb (by simp [z])) q)) hf (Nat.le_refl _) new
    refine ⟨.ref s.heap.objs.size, _, I1, rfl, ⟨_, x, rfl, I.hok.fresh (Nat.le_refl _), rfl, fun ys hy => (I.tuple_inj hy hq) ▸ hx⟩, ⟨⟨u, ?_⟩, hit'.at fun o q => (sb.2 it (Ne.symm n1)).trans q, n1, n2⟩, fun c hc => ?_⟩
    · rw [show ((i + 1 : Nat) : Int) = (i : Int) + 1 by omega]
      exact he'
    · rw [upd_ne (Nat.ne_of_lt (two c hc))]
      exact (hf c hc).1
  done := by
    intro X hP hw hK hc i pins s σ H E I hf st hg
    subst hP hw hK
    obtain ⟨⟨old, he⟩, hit, n1, n2⟩ := st
    obtain ⟨xs, hq, hx⟩ := hg
    obtain ⟨its, rv, p, hz⟩ := I.tuple hq
    obtain ⟨f0, f1, f2, f3, f4, f5⟩ := hf it (by simp)
    have hl := rv.length
    exact enq_next_none (b := true) (I.ok.hd hc) he hit p (by simp; omega) fun h' eb => ⟨rfl, I.turned (t' := s.toks) (fun c o hb q => eb c o hb q) f0 f1 f3 f4 f5⟩
  self := fun A i s Q E st h => let ⟨⟨_, he⟩, _⟩ := st; wpAny_pyIter_enum he h
section
variable {prog : Program} {w : World} {A : Around} {E : Value → Shared → Prop} {s : Shared}
theorem meets_enq (l : Addr) (items : Array Value) (n : Nat) (dct : Option Addr) (sl : Array (Option Value)) :
    Meets (Builtin.«enumerate.__new__» ⟨[.type "enumerate", .ref l], []⟩) (fun _ R s => s.heap.get? l = some { cls := .type "tuple", dict := dct, data := .seq items n, slots := sl } ∧
      R (.ok (.ret (.ref (s.heap.push { cls := .type "tuple_iterator", data := .fields #[.ref l, .int 0 0] }).objs.size)))
        { s with heap := (s.heap.push { cls := .type "tuple_iterator", data := .fields #[.ref l, .int 0 0] }).push { cls := .type "enumerate", data := .fields #[.none, .bool false, .ref s.heap.objs.size, rawInt 0, .none, .none] } }) :=
  .of_wp fun prog w A R s h => by
    obtain ⟨hp, gs, dr, tk, os⟩ := s
    obtain ⟨hl, h⟩ := h
    have sub := sub_enumerate
    have tup : Heap.IsTuple (Shared.heap ⟨hp, gs, dr, tk, os⟩) l items := ⟨_, hl, rfl, n, rfl⟩
    wp_walk using PySem.AutoSeq1.wpAny_loadPart' hl
    refine wpAny_stack_any fun st => wpAny_pure ?_
    split
    · rename_i c _ _ _ _ _
      (cases (c == Value.type "enumerate") <;> (wp_walk using PySem.AutoSeq1.wpAny_loadPart' hl, wpAny_pyIter_tuple tup; exact ⟨_, rfl, h⟩))
    · (wp_walk using PySem.AutoSeq1.wpAny_loadPart' hl, wpAny_pyIter_tuple tup; exact ⟨_, rfl, h⟩)
theorem call_enq {l : Addr} {items : Array Value} {Q : Value → Shared → Prop} (hT : s.heap.IsTuple l items)
    (q : ∀ h', IsEnum h' (s.heap.objs.size + 1) s.heap.objs.size 0 .none → Itq h' true s.heap.objs.size l 0 → h'.objs.size = s.heap.objs.size + 2 → (∀ c o, s.heap.get? c = some o → h'.get? c = some o) → Q (.ref (s.heap.objs.size + 1)) { s with heap := h' }) :
    wpAny (model prog w) A (call (.type "enumerate") [.ref l]) Q E s := by
  obtain ⟨⟨c, dct, dt, sl⟩, hl, hc, n, hd⟩ := hT
  replace hc : c = .type "tuple" := hc
  replace hd : dt = .seq items n := hd
  subst hc hd
  refine callType_new F.called_enumerate (by decide) (F.typeCall_enumerate_1 _) (F.newCall_enumerate_1 _) (fun obj => F.args_object_init_2 obj _) F.entry_enumerate_new (meets_enq l items n dct sl) ⟨hl, ?_⟩
  have hz : (s.heap.push { cls := .type "tuple_iterator", data := .fields #[.ref l, .int 0 0] }).objs.size = s.heap.objs.size + 1 := Heap.size_push ..
  show _ ∧ _
  rw [hz]
  have en : IsEnum ((s.heap.push { cls := .type "tuple_iterator", data := .fields #[.ref l, .int 0 0] }).push { cls := .type "enumerate", data := .fields #[.none, .bool false, .ref s.heap.objs.size, rawInt 0, .none, .none] }) (s.heap.objs.size + 1) s.heap.objs.size 0 .none :=
    (congrArg (fun z => Heap.get? _ z) hz.symm).trans (Heap.get?_push_size (s.heap.push { cls := .type "tuple_iterator", data := .fields #[.ref l, .int 0 0] }) (o := { cls := .type "enumerate", data := .fields #[.none, .bool false, .ref s.heap.objs.size, rawInt 0, .none, .none] }) rfl)
  exact ⟨⟨_, en, rfl⟩, q _ en ⟨_, Heap.get?_push_of_some _ (Heap.get?_push_size _ rfl), rfl, rfl⟩ (by rw [Heap.size_push, hz]) fun c o z => Heap.get?_push_of_some _ (Heap.get?_push_of_some _ z)⟩
end
def iEnumT (K : PySem.W.Frag) (ta : TA) : TI := fun σ H R => ta σ H fun vs H1 => ∃ a xs, vs = [.ref a] ∧ SqT K H1 a xs ∧ R (IteT K a) H1
theorem pi_enumT {X : Cx} {e : Expr} {ta : TA} {p pos tpos : Pos} {elts : List Expr} {kk : Nat} (hg : Gl X "enumerate") (hm : X.mg "enumerate" = none) (ha : PA X [e] ta) (hs : starEach [e] X.env = [(false, eval e X.env)] := by rfl) :
    PI X (.Tuple elts kk tpos) (.Call (.Name "enumerate" p) [e] [] pos) (iEnumT X.K ta) := by
  refine ⟨fun pins s σ H R I h => Call_ (ld_blt I hg hm boot_enumerate (PyProof.Rows.callWith_type1 (thn (ha.run pos pins s σ H _ I h) fun us s1 ⟨vs, H1, I1, r1, q1⟩ => ?_) hs rfl))⟩
  obtain ⟨a, xs, rfl, hq, q⟩ := q1
  obtain ⟨u, rfl, rx⟩ := vals1 r1
  cases rx
  obtain ⟨its, rv, tp, hz⟩ := I1.tuple hq
  refine call_enq tp fun h' en t hsz kk => wpAny_pyIter_enum en ?_
  have I2 : Inv X pins σ H1 { s1 with heap := h' } := I1.kept (t' := s1.toks) kk
  have al : a < s1.heap.objs.size := by
    obtain ⟨_, z, _⟩ := tp
    exact Heap.lt_size z
  refine ⟨s1.heap.objs.size + 1, [s1.heap.objs.size + 1, s1.heap.objs.size], _, _, H1, rfl, I2, turn_enumT a (s1.heap.objs.size + 1) s1.heap.objs.size, ⟨⟨.none, en⟩, t, Nat.succ_ne_self _, Nat.ne_of_lt al⟩, fun c hc => ?_, q⟩
  have hle : s1.heap.objs.size ≤ c := by
    have two : c = s1.heap.objs.size + 1 ∨ c = s1.heap.objs.size := by simpa using hc
    rcases two with z | z
    · rw [z]; exact Nat.le_add_right _ _
    · rw [z]; exact Nat.le_refl _
  exact I1.fpOk hle (I1.hok.fresh hle)
theorem walk_enumT {K : PySem.W.Frag} {a : Addr} {xs : List V} : Walk (IteT K a) xs.length (fun H => SqT K H a xs) (YPair (fun i => some (.int (i : Nat))) (fun i => xs[i]?)) :=
  ⟨fun i _ hi q => ⟨xs, xs[i], q, by simp [hi]⟩, fun _ q => ⟨xs, q, Nat.le_refl _⟩, fun i H v H' _ q ⟨T, x, h1, h2, h3, h4⟩ => ⟨T, .int (i : Nat), x, h1, h2, h3, rfl, h4 xs q⟩⟩
end Ver
/-! Ver, 17: t[::-1] of a tuple; () * n -/
namespace Ver
open PySem PySem.Spec PyProof.Rows L2
section
variable {prog : Program} {w : World} {A : Around} {E : Value → Shared → Prop} {s : Shared}
theorem back_adjust (n : Nat) : Builtin.Slice.sliceAdjust none none (-1) (n : Int) = ((n : Int) - 1, -1) := by
  unfold Builtin.Slice.sliceAdjust
  simp
theorem back_places (n : Nat) : Builtin.Slice.slicePlaces ((n : Int) - 1) (-1) (-1) = n := by
  unfold Builtin.Slice.slicePlaces
  simp
  split <;> omega
theorem back_applied {sl : Addr} {n : Nat} {t : Tok} {Q : Int × Int × Nat → Shared → Prop} (hs : s.heap.IsSliceOf sl .none .none (.int (-1) t)) (h : Q ((n : Int) - 1, -1, n) s) : wpAny (model prog w) A (Builtin.Slice.sliceApplied (.ref sl) (pure (n : Int))) Q E s := by
  obtain ⟨os, hos, hcs, hds⟩ := id hs
  unfold Builtin.Slice.sliceApplied Builtin.Slice.sliceFields
  refine wpAny_bind (wpAny_bind (wpAny_field hos hds (x := .none) rfl (wpAny_bind (wpAny_field hos hds (x := .none) rfl (wpAny_bind (wpAny_field hos hds (x := .int (-1) t) rfl (wpAny_pure ?_)))))))
  refine wpAny_bind (HT.slicePart_ (.int (-1) t) ?_)
  show wpAny _ _ (if ((-1 : Int) == 0) = true then _ else _) _ _ s
  rw [if_neg (by decide)]
  refine wpAny_bind (HT.slicePart_ .none (wpAny_bind (HT.slicePart_ .none (wpAny_bind (wpAny_pure ?_)))))
  show wpAny _ _ (match Builtin.Slice.sliceAdjust none none (-1) (n : Int) with | (lo, hi) => pure (lo, (-1 : Int), Builtin.Slice.slicePlaces lo hi (-1))) _ _ s
  rw [back_adjust]
  show wpAny _ _ (pure ((n : Int) - 1, (-1 : Int), Builtin.Slice.slicePlaces ((n : Int) - 1) (-1) (-1))) _ _ s
  rw [back_places]
  exact wpAny_pure h
theorem back_pick (xs : Array Value) : ((List.range xs.size).filterMap fun (m : Nat) => xs[((xs.size : Int) - 1 + (m : Int) * (-1)).toNat]?).toArray = xs.toList.reverse.toArray := by
  congr 1
  refine List.ext_getElem? fun i => ?_
  by_cases hi : i < xs.size
  · have all : ∀ m ∈ List.range xs.size, xs[((xs.size : Int) - 1 + (m : Int) * (-1)).toNat]? = some (xs.toList.reverse.getD m .none) := fun m hm => by
      have hm' := List.mem_range.mp hm
      have e : ((xs.size : Int) - 1 + (m : Int) * (-1)).toNat = xs.size - 1 - m := by omega
      rw [e, List.getD_eq_getElem?_getD, List.getElem?_reverse (by simpa using hm')]
      simp
      rw [Array.getElem?_eq_getElem (by omega)]
      rfl
    have fm : ∀ (l : List Nat), (∀ m ∈ l, m < xs.size) → (l.filterMap fun (m : Nat) => xs[((xs.size : Int) - 1 + (m : Int) * (-1)).toNat]?) = l.map fun m => xs.toList.reverse.getD m .none := fun l hl => by
      induction l with
      | nil => rfl
      | cons a l ih =>
        rw [List.filterMap_cons, all a (List.mem_range.mpr (hl a (.head _))), List.map_cons, ih fun m hm => hl m (.tail _ hm)]
    rw [fm _ fun m hm => List.mem_range.mp hm, List.getElem?_map, List.getElem?_range hi]
    rw [List.getElem?_eq_getElem (by simpa using hi)]
    simp [List.getD_eq_getElem?_getD, hi]
  · rw [List.getElem?_eq_none (by
      refine Nat.le_trans (List.length_filterMap_le _ _) ?_
      rw [List.length_range]
      omega), List.getElem?_eq_none (by simp; omega)]
theorem back_item {t sl : Addr} {items : Array Value} {tk : Tok} {Q : Value → Shared → Prop} (ht : IsTup s.heap t items) (hs : s.heap.IsSliceOf sl .none .none (.int (-1) tk))
    (h : Q (.ref s.heap.objs.size) { s with heap := s.heap.push { cls := .type "tuple", data := .seq items.toList.reverse.toArray } }) (hsz : items.size ≤ sizeLine) : wpAny (model prog w) A (getItem (.ref t) (.ref sl)) Q E s := by
  have fits : sizeOk (.seq items.toList.reverse.toArray) := by
    show items.toList.reverse.toArray.size ≤ sizeLine
    simpa using hsz
  obtain ⟨os, hos, hcs, hds⟩ := id hs
  have ty : s.TypeIs (.ref sl) "slice" := ⟨os, hos, hcs⟩
  unfold getItem
  try with_reducible refine wpAny_holding ?_
  first | refine wpAny_bind (wpAny_pure ?_) | skip
  refine wpAny_bind (wpAny_sequenceKey ht.typeIs (by decide) (wpAny_bind (wpAny_callSpecial?_slot (name := Str.ofString "__getitem__") ht.typeIs PyProof.Rows.slot_tuple_getitem (wpAny_call_entry PyProof.Rows.slot_tuple_getitem ht.typeIs entry_tuple_getitem ?_ (args_tuple_getitem _ _)))))
  show wpAny _ _ (Builtin.Tuple.tupleItemsOf (.ref t) >>= _) _ _ s
  refine wpAny_bind (tupleItemsOf_ ht (wpAny_bind (wpAny_typeOf ty ?_)))
  rw [if_pos (by decide)]
  refine wpAny_bind (back_applied hs ?_)
  show wpAny _ _ (if (((items.size : Int) - 1) == 0 && (-1 : Int) == 1 && items.size == items.size) = true then _ else _) _ _ s
  rw [if_neg (by rw [show ((-1 : Int) == 1) = false from rfl, Bool.and_false, Bool.false_and]; decide), back_pick]
  first
    | exact wpAny_bind (m := Builtin.Tuple.tupleExact _) (wpAny_newObj_type (wpAny_pure ⟨_, rfl, wpAny_pure h⟩) fits)
    | exact wpAny_bind (m := Builtin.Tuple.tupleExact _) (wpAny_newObj_type (wpAny_bind (wpAny_pure (wpAny_pure ⟨_, rfl, wpAny_pure h⟩))) fits)
    | exact wpAny_bind (wpAny_bind (m := Builtin.Tuple.tupleExact _) (wpAny_newObj_type (wpAny_pure (wpAny_pure ⟨_, rfl, wpAny_pure h⟩)) fits))
    | exact wpAny_bind (wpAny_bind (m := Builtin.Tuple.tupleExact _) (wpAny_newObj_type (wpAny_pure ⟨_, rfl, wpAny_pure h⟩) fits))
end
section
variable {X : Cx}
/-- t[::-1] -/
def tRevT (K : PySem.W.Frag) (te : TE) : TE := fun σ H Q => te σ H fun x H1 => ∃ a xs, x = .ref a ∧ SqT K H1 a xs ∧ ∀ p, H1 p = none → Q (.ref p) (upd H1 p (.tup xs.reverse))
theorem pe_revT {e : Expr} {te : TE} {k : Nat} {p1 p2 p3 pos : Pos} (he : PE X e te) : PE X (.Subscript e (.Slice none none (some (.UnaryOp .USub (.Constant (.int 1) k p1) p2)) p3) pos) (tRevT X.K te) := by
  refine ⟨fun pins s σ H Q I h => Subscript_ (thn (he.run pins s σ H _ I h) fun v s1 ⟨x, H1, I1, r1, a, xs, ex, hx, q⟩ => ?_)⟩
  subst ex
  cases r1
  have hst : PO X (some (.UnaryOp .USub (.Constant (.int 1) k p1) p2)) (tPart (tUn (rU fun i => .int (-i)) (tC (.int 1)))) := po_some (pe_un un_neg pe_int)
  refine wpAny_Slice (thn (po_none.run pins s1 σ H1 (fun o G => o = none ∧ G = H1) I1 ⟨rfl, rfl⟩) fun vl s2 ⟨l, G, I2, pl, el, e2⟩ => ?_)
  subst el e2
  refine thn (po_none.run pins s2 σ G (fun o G' => o = none ∧ G' = G) I2 ⟨rfl, rfl⟩) fun vu s3 ⟨u, G', I3, pu, eu, e3⟩ => ?_
  subst eu e3
  refine thn (hst.run pins s3 σ G' (fun o G4 => o = some (-1) ∧ G4 = G') I3 ⟨1, rfl, -1, rfl, rfl, rfl⟩) fun vs s4 ⟨o, G4, I4, ps, eo, e4⟩ => ?_
  subst eo e4
  have I5 : Inv X pins σ G4 { s4 with heap := s4.heap.push { cls := .type "slice", data := .fields #[vl, vu, vs] } } := I4.kept (t' := s4.toks) fun b ob q => Heap.get?_push_of_some _ q
  obtain ⟨its, r, ht, hz⟩ := I5.tuple hx
  have many := r.length
  cases pl
  cases pu
  cases ps with
  | int i t =>
  refine tail_any (ops := [.ref a, .ref s4.heap.objs.size]) ht.typeIs PyProof.Rows.slot_tuple_getitem.lookup ?_ (by with_unfolding_all rfl)
  refine back_item ht (Heap.IsSliceOf.new _ .none .none (.int (-1) t)) ?_ (by rw [List.size_toArray]; omega)
  refine ⟨.ref _, _, I5.laid (t' := s4.toks) (o := .tup xs.reverse) (fun b ob q => Heap.get?_push_of_some _ q) (Nat.le_refl _) ?_, rfl, q _ (I5.hok.fresh (Nat.le_refl _))⟩
  exact ⟨by rw [List.length_reverse]; exact hz, _, r.reverse, IsTup.new _ _⟩
theorem mul_none (l : Addr) (items : Array Value) (n : Nat) (dd : Option Addr) (sl : Array (Option Value)) (x : Int) (u : Tok) (c0 : (decide (x < -(2 ^ 63)) || decide (x ≥ 2 ^ 63)) = false) (c1 : (items.isEmpty || x == 1) = true) :
    Meets (Builtin.«tuple.__mul__» ⟨[.ref l, .int x u], []⟩) (fun _ R s => s.heap.get? l = some { cls := .type "tuple", dict := dd, data := .seq items n, slots := sl } ∧ R (.ok (.ret (.ref l))) s) :=
  .of_wp fun prog w A R s h => by
    obtain ⟨hp, gs, dr, tk, os⟩ := s
    obtain ⟨hl, h⟩ := h
    have one := AutoSeq1.idx_int
    wp_walk using PySem.AutoSeq1.wpAny_loadPart' hl
    repeat (first
      | (refine wpAny_ite_false (decide_eq_false (by rw [c0]; exact Bool.false_ne_true)) ?_; wp_walk using PySem.AutoSeq1.wpAny_loadPart' hl)
      | (refine wpAny_ite_true (decide_eq_true (by rw [c1])) ?_; wp_walk using PySem.AutoSeq1.wpAny_loadPart' hl)
      | (simp only [c1, if_true]; wp_walk using PySem.AutoSeq1.wpAny_loadPart' hl))
    exact ⟨_, rfl, h⟩
/-- t * n, in one way -/
def rRepU : R2 := fun x y H Q => ∃ l k xs, x = .ref l ∧ y = .int k ∧ H l = some (.tup xs) ∧ 2 ≤ k ∧ k ≤ 1000 ∧ xs.length ≤ 1000 ∧ ∀ t H', Same H H' → H' t = some (.tup (List.replicate k.toNat xs).flatten) → Q (.ref t) H'
theorem op_repU : OpR X (binaryOp .Mult) rRepU := by
  rintro pins s σ H x y v u Q I rx ry ⟨l, k, xs, rfl, rfl, hT, h1, h2, hz, q⟩
  by_cases hx : xs = []
  · subst hx
    cases rx
    obtain ⟨t, rfl⟩ := ry
    obtain ⟨its, r, ⟨⟨cls, dd, data, sl⟩, ho, hc, n, hd⟩, hs⟩ := I.tuple (SqT.of hT)
    cases r
    simp only at hc hd
    subst hc hd
    have c0 : (decide (k < -(2 ^ 63)) || decide (k ≥ 2 ^ 63)) = false := by
      rw [decide_eq_false (by omega), decide_eq_false (by omega)] <;> rfl
    refine wpAny_binaryOp_repeat_ref (T := "tuple") (U := "int") (by decide) ⟨_, ho, rfl⟩ (fun s' => typeIs_int s' k t) noFill_tuple_mul PySem.F.fills_int_mul PySem.F.slot_int_rmul repeat_tuple PySem.F.slot_int_index.lookup
      (call_meets PySem.F.slot_int_rmul (typeIs_int s k t) PySem.F.entry_int_rmul (PySem.F.args_int_rmul_2 _ _) (int_rmul_tuple k t l _ n dd sl)
        ⟨ho, rfl, ⟨_, ho, rfl⟩, call_meets PySem.F.slot_tuple_mul ⟨_, ho, rfl⟩ PySem.F.entry_tuple_mul (PySem.F.args_tuple_mul_2 _ _) (mul_none l _ n dd sl k t c0 rfl) ⟨ho, ?_⟩⟩)
    exact ⟨.ref l, H, I, rfl, q l H (Same.refl H) (by rw [hT]; simp)⟩
  · exact op_repT pins s σ H _ _ v u Q I rx ry ⟨l, k, xs, rfl, rfl, SqT.of hT, hx, h1, h2, hz, fun p np => q p _ (same_new np) upd_same⟩
end
end Ver
/-! K10, 1: the draws -/
namespace K10
open PySem PySem.Spec PyProof.Rows L2 Ver
def top (i : Nat) : Stmt := PySem.Challenge.pw_shapeguess_k10_signatures_made.main.body.getD i (.Pass ⟨0, 0, 0, 0⟩)
abbrev sSource : Stmt := top 23
abbrev sPick : Stmt := top 24
abbrev sOf : Stmt := top 25
/-- the draws' dict -/
def dsrc (c : Addr) (l m t : Int) : List (Key × V) := [(Sum.inr "cells", .ref c), (Sum.inr "left", .int l), (Sum.inr "mixed", .int m), (Sum.inr "turn", .int t)]
/-- the draws' state: a dict at p, its list at c -/
def Src (p c : Addr) (H : Hp) : Prop := p ≠ c ∧ ∃ (ns : List Int) (l m t : Int), H p = some (.dK (dsrc c l m t)) ∧ H c = some (.lst (ns.map V.int)) ∧ ns.length ≤ 63
section
variable {H : Hp} {p c : Addr} {l m t : Int} (h : H p = some (.dK (dsrc c l m t)))
include h
theorem get_cells : DGet H p (.str "cells") (some (.ref c)) := DGet.k (k := Sum.inr "cells") h
theorem get_left : DGet H p (.str "left") (some (.int l)) := DGet.k (k := Sum.inr "left") h
theorem get_mixed : DGet H p (.str "mixed") (some (.int m)) := DGet.k (k := Sum.inr "mixed") h
theorem get_turn : DGet H p (.str "turn") (some (.int t)) := DGet.k (k := Sum.inr "turn") h
theorem put_left (z : Int) : DPut H p (.str "left") (.int z) (upd H p (.dK (dsrc c z m t))) := DPut.k (k := Sum.inr "left") (v := .int z) h (by show 4 < sizeLine; decide)
theorem put_turn (z : Int) : DPut H p (.str "turn") (.int z) (upd H p (.dK (dsrc c l m z))) := DPut.k (k := Sum.inr "turn") (v := .int z) h (by show 4 < sizeLine; decide)
end
/-- the two addresses that draws change -/
def Off (p c : Addr) : Addr → Prop := fun a => a = p ∨ a = c
/-- len(x), x a list or a tuple -/
def rLen (K : PySem.W.Frag) : List V → Hp → VK → Prop := fun xs H Q => ∃ p ys, xs = [V.ref p] ∧ (SqL K H p ys ∨ SqT K H p ys) ∧ Q (.int ys.length) H
theorem int_at {ns : List Int} {i : Nat} {y : V} (h : (ns.map V.int)[i]? = some y) : ∃ z, y = .int z := by
  rw [List.getElem?_map] at h
  obtain ⟨z, _, e⟩ := Option.map_eq_some_iff.mp h
  exact ⟨z, e.symm⟩
theorem merge4 (a b c d : V) : mergeK [] [(Sum.inr "cells", a), (Sum.inr "left", b), (Sum.inr "mixed", c), (Sum.inr "turn", d)] = ([(Sum.inr "cells", a), (Sum.inr "left", b), (Sum.inr "mixed", c), (Sum.inr "turn", d)] : List (Key × V)) := by
  rfl
def spSource (K : PySem.W.Frag) : Sp := fun vs H Q _ => ∃ (a : Addr) (ns : List Int), vs = [.ref a] ∧ SqL K H a (ns.map V.int) ∧ ns.length ≤ 63 ∧ ∀ p c H', Same H H' → H p = none → H c = none → Src p c H' → Q (.ref p) H'
def spPick : Sp := fun vs H Q _ => ∃ (p c : Addr) (many : Int), vs = [.ref p, .int many] ∧ Src p c H ∧ 1 ≤ many ∧ many ≤ 1000 ∧
  ∀ (r : Int) (H' : Hp), 0 ≤ r → r < many → Keep (Off p c) H H' → Src p c H' → Q (.int r) H'
structure Txt (mg : Str → Option Value) : Prop where
  len : mg "len" = none
  int : mg "int" = none
  abs : mg "abs" = none
  range : mg "range" = none
section
variable {P : Program} {w : World} {K : PySem.W.Frag} {mg : Str → Option Value} {base : Heap}
theorem scS : FnScope ["script", "mixed", "cell", "digits", "k"] ["script"] (defScope sSource) := ⟨rfl, rfl, rfl, by decide +kernel, rfl, by decide +kernel, by decide +kernel⟩
theorem ok_source {f : Addr} {fd : FuncData} (F : Fun K "_law_source" "_law_source" sSource f fd) (T : Txt mg) : FnOk P w K mg base CX0 1 f fd ["script"] (spSource K) := by
  refine F.ok scS (fun vs H Q E h => ?_) (fun cdv A outer s H vs Q E hr h => ?_)
  · obtain ⟨a, ns, rfl, _⟩ := h
    rfl
  · obtain ⟨a, ns, rfl, hS, hl, k⟩ := h
    refine ⟨_, pss_cons (ps_set (i := 1) scS.nd rfl (.inl rfl) pe_int)
      (pss_cons (ps_for PassesOwn.never rfl (pi_list (pv 0)) (pg_name (i := 2) scS.nd rfl (.inl rfl))
        (pss_one (ps_set (i := 1) scS.nd rfl (.inl rfl) (pe_op op_mod (pe_callTy call_int1 (by rfl) T.int (by decide +kernel)
          (pa_cons (pe_op op_add (pe_op op_add (pe_op op_mul (pv 1) pe_int) (pe_op op_mul (pv 2) pe_int)) pe_int) pa_nil)) pe_int))))
      (pss_cons (ps_set (i := 3) scS.nd rfl (.inr rfl) (pe_lc (own := [("cell", 2)]) (g := gName 2) (tt := tYes) rfl scS.nd (pi_list (pv 0))
        (blkOk_by (N := ["script", "mixed", "cell", "digits", "k"]) (sc := defScope sSource) (by decide +kernel)) (fun _ _ _ _ _ => pg_name (i := 2) scS.nd rfl (.inl rfl)) (fun _ _ _ _ _ => pts_nil)
        (fun _ _ _ _ _ => pe_callB call_abs (by rfl) T.abs (by decide +kernel) (pa_cons (pv 2) pa_nil))))
      (pss_one (ps_ret (pe_disp (pps_cons pe_str (pe_lc (own := [("k", 4)]) (g := gName 4) (tt := tYes) rfl scS.nd
          (pi_range1 (by rfl) T.range (pa_cons (pe_callB call_len_seq (by rfl) T.len PySem.boot_len (pa_cons (pv 3) pa_nil)) pa_nil))
          (blkOk_by (N := ["script", "mixed", "cell", "digits", "k"]) (sc := defScope sSource) (by decide +kernel)) (fun _ _ _ _ _ => pg_name (i := 4) scS.nd rfl (.inl rfl)) (fun _ _ _ _ _ => pts_nil)
          (fun _ _ _ _ _ => pe_ix (r := rIxL K) ix_list (pv 3) (pe_op op_sub (pe_op op_sub (pe_callB (r := rLen K) call_len_seq (by rfl) T.len PySem.boot_len (pa_cons (pv 3) pa_nil)) pe_int) (pv 4)) (fun _ _ => rfl)))
        (pps_cons pe_str pe_int (pps_cons pe_str (pv 1) (pps_cons pe_str pe_int pps_nil)))) (by rfl) (by rfl) (fun z => by cases z) (by decide)))))), ?_⟩
    -- mixed = 11; for cell in script
    refine ⟨_, rfl, a, rfl, ⟨_, hS⟩, for_list (K := K) (a := a) (xs := ns.map V.int) (fun i σ H2 => ∃ m v, σ = [some (.ref a), some (.int m), v, none, none] ∧ H2 = H ∧ 0 ≤ m ∧ m < 2147483629)
      ⟨11, none, rfl, rfl, by decide, by decide⟩ (fun i σ H2 _ ⟨_, _, _, e, _⟩ => e ▸ hS) ?_ ?_⟩
    · rintro i y σ H2 hi ⟨m, v, rfl, rfl, h0, h1⟩
      obtain ⟨z, rfl⟩ := int_at hi
      refine ⟨_, rfl, _, _, rfl, rfl, .inl ⟨by omega, by omega⟩, _, rfl, _, _, rfl, rfl, .inr ⟨by decide, by decide⟩, _, _, rfl, rfl, _, _, rfl, rfl, .inl ⟨_, rfl, _, _, rfl, rfl, by show (0 : Int) < 2147483629; decide, ?_⟩⟩
      exact ⟨_, _, rfl, rfl, Int.emod_nonneg _ (by decide), Int.emod_lt_of_pos _ (by decide)⟩
    · rintro σ H2 ⟨m, v, rfl, rfl, h0, h1⟩
      -- digits = [abs(cell) for cell in script]
      refine ⟨_, rfl, a, rfl, ⟨_, hS⟩, fun D nD => lc_list (K := K) (a := a) (xs := ns.map V.int) (fun i H3 => Same H2 H3 ∧ ∃ ms : List Int, H3 D = some (.lst (ms.map V.int)) ∧ ms.length = i)
        ⟨same_new nD, [], upd_same, rfl⟩ (fun i H3 _ ⟨sm, _⟩ => sm.seq hS) ?_ ?_⟩
      · rintro i y H3 hi ⟨sm, ms, hD, hm⟩
        obtain ⟨z, rfl⟩ := int_at hi
        have hil : i < ns.length := by
          have := (List.getElem?_eq_some_iff.mp hi).1
          rwa [List.length_map] at this
        refine ⟨rfl, _, rfl, _, rfl, _, hD, by rw [List.length_map]; exact small1000 (by omega), ?_⟩
        exact ⟨fun b o e => by rw [upd_ne (ne_of_none e nD)]; exact sm b o e, ms ++ [_], by rw [upd_same, List.map_append]; rfl, by rw [List.length_append, hm]; rfl⟩
      · rintro H3 ⟨sm, ms, hD, hm⟩
        rw [List.length_map] at hm
        -- the display
        intro p np
        have nDp : D ≠ p := ne_of_none hD np
        have hD' : (upd H3 p (.dK [])) D = some (.lst (ms.map V.int)) := by
          rw [upd_ne nDp]
          exact hD
        refine ⟨_, rfl, _, _, rfl, .inl (SqL.of hD'), _, rfl, by rw [List.length_map]; omega, by rw [List.length_map]; omega, fun C nC => ?_⟩
        have nCp : p ≠ C := ne_of_none (upd_same : (upd H3 p (.dK [])) p = _) nC
        have nCD : D ≠ C := ne_of_none hD' nC
        refine lc_range (lo := 0) (fun i H4 => Same (upd H3 p (.dK [])) H4 ∧ ∃ ks : List Int, H4 C = some (.lst (ks.map V.int)) ∧ ks.length = i) ⟨same_new nC, [], upd_same, rfl⟩ ?_ ?_
        · rintro i H4 hi ⟨sm4, ks, hC, hk⟩
          have hD4 := sm4 _ _ hD'
          have hi' : i < ms.length := by
            rw [List.length_map] at hi
            omega
          have hlt : ms.length - 1 - i < (ms.map V.int).length := by
            rw [List.length_map]
            omega
          refine ⟨rfl, _, rfl, _, rfl, _, _, rfl, .inl (SqL.of hD4), _, _, rfl, rfl, _, rfl, _, _, rfl, rfl, _, _, _, (ms.map V.int)[ms.length - 1 - i], rfl, rfl, SqL.of hD4, ?_, _, hC, by rw [List.length_map]; exact small1000 (by omega), ?_⟩
          · have e : (((ms.map V.int).length : Nat) : Int) - 1 - (0 + (i : Int)) = ((ms.length - 1 - i : Nat) : Int) := by
              rw [List.length_map]
              omega
            rw [e]
            exact atI_nat (List.getElem?_eq_getElem hlt)
          · refine ⟨fun b o e => by rw [upd_ne (ne_of_none e nC)]; exact sm4 b o e, ks ++ [ms[ms.length - 1 - i]], ?_, by rw [List.length_append, hk]; rfl⟩
            rw [upd_same, List.map_append, List.getElem_map]
            rfl
        · rintro H4 ⟨sm4, ks, hC, hk⟩
          rw [List.length_map] at hk
          have hp4 := sm4 _ _ (upd_same : (upd H3 p (.dK [])) p = _)
          refine ⟨_, rfl, hp4, [(Sum.inr "cells", .ref C), (Sum.inr "left", .int 1), (Sum.inr "mixed", .int m), (Sum.inr "turn", .int 0)], rfl, by show 4 ≤ 15; decide, ?_⟩
          have up : Same H3 (upd H3 p (.dK [])) := same_new np
          have s0 : Same H2 H4 := sm.trans (up.trans sm4)
          refine k p C _ (fun b o e => ?_) (sm.free np) (sm.free (up.free nC)) ⟨nCp, ks, 1, m, 0, ?_, ?_, by omega⟩
          · rw [upd_ne (ne_of_none e (sm.free np))]
            exact s0 b o e
          · rw [upd_same, merge4]
            rfl
          · rw [upd_ne nCp.symm]
            exact hC
theorem scP : FnScope ["source", "many", "digits", "left", "turn", "mixed"] ["source", "many"] (defScope sPick) := ⟨rfl, rfl, rfl, by decide +kernel, rfl, by decide +kernel, by decide +kernel⟩
theorem fmod_in {a b : Int} (hb : 1 ≤ b) : 0 ≤ a.fmod b ∧ a.fmod b < b := by
  rw [Int.fmod_eq_emod_of_nonneg _ (by omega)]
  exact ⟨Int.emod_nonneg _ (by omega), Int.emod_lt_of_pos _ (by omega)⟩
/-- a change at p or c -/
theorem keep_at {p c a : Addr} {H H' : Hp} {o : HO} (ha : Off p c a) (k : Keep (Off p c) H H') : Keep (Off p c) H (upd H' a o) := fun b x e n => by
  rw [upd_ne (fun z => n (by rw [z]; exact ha))]
  exact k b x e n
theorem ok_pick {f : Addr} {fd : FuncData} (F : Fun K "_law_pick" "_law_pick" sPick f fd) (T : Txt mg) : FnOk P w K mg base CX0 1 f fd ["source", "many"] spPick := by
  refine F.ok scP (fun vs H Q E h => ?_) (fun cdv A outer s H vs Q E hr h => ?_)
  · obtain ⟨p, c, many, rfl, _⟩ := h
    rfl
  · obtain ⟨p, c, many, rfl, ⟨npc, ns, l, m, t, hp, hc, hns⟩, h1, h2, k⟩ := h
    have hu := hu_of hr
    refine ⟨_, pss_cons (ps_if (pt_cmpR op_lt (pv 1) pe_int (nomark _)) (pss_one (ps_ret pe_int)) pss_nil)
      (pss_cons (ps_set (i := 2) scP.nd rfl (.inl rfl) (pe_dget hu (pv 0) pe_str (fun _ _ => rfl)))
      (pss_cons (ps_while PassesOwn.never (PW.pt (pw_and (pt_cmpR op_lt (pe_dget hu (pv 0) pe_str (fun _ _ => rfl)) pe_int (nomark _))
          (pw_and1 (pt_cmpR op_gt (pe_callB (r := rLen K) call_len_seq (by rfl) T.len PySem.boot_len (pa_cons (pv 2) pa_nil)) pe_int (nomark _)))))
        (pss_one (ps_dput hu (pv 0) pe_str (pe_bm0 PySem.F.plainAttrs_list PySem.F.slot_list_pop PySem.F.type_list_pop mt_pop (pv 2)) rfl)))
      (pss_cons (ps_set (i := 3) scP.nd rfl (.inl rfl) (pe_dget hu (pv 0) pe_str (fun _ _ => rfl)))
      (pss_cons (ps_if (pt_cmpR op_gt (pv 3) pe_int (nomark _))
        (pss_cons (ps_dput hu (pv 0) pe_str (pe_op op_fdivN (pv 3) (pv 1)) rfl)
          (pss_one (ps_ret (pe_op op_modN (pe_callTy call_int1 (by rfl) T.int (by decide +kernel) (pa_cons (pv 3) pa_nil)) (pv 1))))) pss_nil)
      (pss_cons (ps_dput hu (pv 0) pe_str (pe_op op_add (pe_dget hu (pv 0) pe_str (fun _ _ => rfl)) pe_int) rfl)
      (pss_cons (ps_set (i := 4) scP.nd rfl (.inl rfl) (pe_dget hu (pv 0) pe_str (fun _ _ => rfl)))
      (pss_cons (ps_set (i := 5) scP.nd rfl (.inl rfl) (pe_op op_mod (pe_callTy call_int1 (by rfl) T.int (by decide +kernel)
        (pa_cons (pe_op op_add (pe_dget hu (pv 0) pe_str (fun _ _ => rfl)) (pe_op op_mul (pv 4) pe_int)) pa_nil)) pe_int))
      (pss_cons (ps_set (i := 5) scP.nd rfl (.inl rfl) (pe_op op_mod (pe_callTy call_int1 (by rfl) T.int (by decide +kernel)
        (pa_cons (pe_op op_add (pe_op op_mul (pv 5) (pv 5)) (pe_op op_mul (pv 4) pe_int)) pa_nil)) pe_int))
      (pss_cons (ps_if (pt_cmpR op_gt (pv 1) (pe_op op_pow pe_int pe_int) (nomark _)) pss_never pss_nil)
      (pss_one (ps_ret (pe_op op_modN (pe_callTy call_int1 (by rfl) T.int (by decide +kernel) (pa_cons (pe_op op_fdiv (pv 5) pe_int) pa_nil)) (pv 1))))))))))))), ?_⟩
    -- if many < 2: return 0
    refine ⟨_, rfl, _, _, rfl, rfl, _, rfl, ite2 (fun _ => ?_) (fun _ => ?_)⟩
    · exact k 0 H (Int.le_refl _) (by omega) .refl ⟨npc, ns, l, m, t, hp, hc, hns⟩
    -- digits = source['cells']; while ..
    refine ⟨_, rfl, p, _, rfl, get_cells hp, fun j σ H2 => ∃ (ns : List Int) (l : Int), j = ns.length ∧ ns.length ≤ 63 ∧ σ = [some (.ref p), some (.int many), some (.ref c), none, none, none] ∧
      H2 p = some (.dK (dsrc c l m t)) ∧ H2 c = some (.lst (ns.map V.int)) ∧ Keep (Off p c) H H2, ⟨_, ns, l, rfl, hns, rfl, hp, hc, .refl⟩, ?_⟩
    rintro j σ H2 ⟨ns, l, rfl, hns, rfl, hp, hc, kp⟩
    refine ⟨_, rfl, p, _, rfl, get_left hp, _, _, rfl, rfl, _, rfl, ite2 (fun _ => ⟨_, rfl, _, _, rfl, .inl (SqL.of hc), _, _, rfl, rfl, _, rfl, ite2 (fun hpos => ?_) ?_⟩) ?_⟩
    · -- source['left'] = digits.pop()
      have hn0 : 0 < ns.length := by simpa using hpos
      have last : (ns.map V.int)[(ns.map V.int).length - 1]? = some (.int ns[ns.length - 1]) := by
        rw [List.length_map, List.getElem?_map, List.getElem?_eq_getElem (by omega)]
        rfl
      have hp' : (upd H2 c (.lst (ns.map V.int).dropLast)) p = some (.dK (dsrc c l m t)) := by
        rw [upd_ne npc]
        exact hp
      refine ⟨_, fun _ _ h => h, _, rfl, .inl ⟨rfl, _, SqL.of hc⟩, c, _, _, rfl, rfl, hc, last, _, rfl, p, _, rfl, put_left hp' _, ns.length - 1, by omega, ns.dropLast, _, by rw [List.length_dropLast], by rw [List.length_dropLast]; omega, rfl, upd_same, ?_, ?_⟩
      · rw [upd_ne npc.symm, upd_same, List.map_dropLast]
      · exact keep_at (.inl rfl) (keep_at (.inr rfl) kp)
    all_goals
      intro _
      -- left = source['left']; if left > 1
      refine ⟨_, rfl, p, _, rfl, get_left hp, _, rfl, _, _, rfl, rfl, _, rfl, ite2 (fun _ => ?_) (fun _ => ?_)⟩
      · refine ⟨_, rfl, _, rfl, _, _, rfl, rfl, ⟨by omega, by omega⟩, _, rfl, p, _, rfl, put_left hp _, _, rfl, .inl ⟨_, rfl, _, rfl, _, _, rfl, rfl, by omega, ?_⟩⟩
        exact k _ _ (fmod_in h1).1 (fmod_in h1).2 (keep_at (.inl rfl) kp) ⟨npc, ns, _, _, _, upd_same, by rw [upd_ne npc.symm]; exact hc, by omega⟩
      · -- source['turn'] = source['turn'] + 1; turn; mixed, twice
        have hp2 : (upd H2 p (.dK (dsrc c l m (t + 1)))) p = some (.dK (dsrc c l m (t + 1))) := upd_same
        have low : 0 ≤ (m + (t + 1) * 104729) % 998244353 := Int.emod_nonneg _ (by decide)
        have high : (m + (t + 1) * 104729) % 998244353 < 998244353 := Int.emod_lt_of_pos _ (by decide)
        refine ⟨_, rfl, p, _, rfl, get_turn hp, _, _, rfl, rfl, _, rfl, p, _, rfl, put_turn hp _, _, rfl, p, _, rfl, get_turn hp2, ?_⟩
        refine ⟨_, rfl, p, _, rfl, get_mixed hp2, _, rfl, _, _, rfl, rfl, .inr ⟨by decide, by decide⟩, _, _, rfl, rfl, .inl ⟨_, rfl, _, _, rfl, rfl, by show (0 : Int) < 998244353; decide, ?_⟩⟩
        refine ⟨_, rfl, _, rfl, _, _, rfl, rfl, .inl ⟨by omega, by omega⟩, _, rfl, _, _, rfl, rfl, .inr ⟨by decide, by decide⟩, _, _, rfl, rfl, .inl ⟨_, rfl, _, _, rfl, rfl, by show (0 : Int) < 2147483647; decide, ?_⟩⟩
        -- if many > 10 ** 7: never
        have e7 : (10 : Int) ^ ((7 : Int).toNat) = 10000000 := by decide
        refine ⟨_, rfl, _, _, rfl, rfl, ⟨by decide, by decide, by decide⟩, _, _, rfl, rfl, _, rfl, ite2 (fun z => ?_) (fun _ => ?_)⟩
        · have z' := of_decide_eq_true z
          rw [e7] at z'
          omega
        · refine ⟨_, rfl, _, _, rfl, rfl, ⟨by decide, by decide⟩, .inl ⟨_, rfl, _, rfl, _, _, rfl, rfl, by omega, ?_⟩⟩
          exact k _ _ (fmod_in h1).1 (fmod_in h1).2 (keep_at (.inl rfl) kp) ⟨npc, ns, _, _, _, upd_same, by rw [upd_ne npc.symm]; exact hc, by omega⟩
end
/-- a new address is none of the draws' -/
theorem Src.off {p c : Addr} {H : Hp} (S : Src p c H) {a : Addr} (h : H a = none) : ¬ Off p c a := by
  obtain ⟨_, ns, l, m, t, hp, hc, _⟩ := S
  rintro (e | e)
  · rw [e, hp] at h
    cases h
  · rw [e, hc] at h
    cases h
/-- a new object leaves the draws' state -/
theorem Src.new {p c : Addr} {H : Hp} (S : Src p c H) {a : Addr} {o : HO} (h : H a = none) : Src p c (upd H a o) := by
  obtain ⟨n, ns, l, m, t, hp, hc, hl⟩ := S
  exact ⟨n, ns, l, m, t, by rw [upd_ne (ne_of_none hp h)]; exact hp, by rw [upd_ne (ne_of_none hc h)]; exact hc, hl⟩
theorem Src.same {p c : Addr} {H H' : Hp} (S : Src p c H) (k : Same H H') : Src p c H' := by
  obtain ⟨n, ns, l, m, t, hp, hc, hl⟩ := S
  exact ⟨n, ns, l, m, t, k _ _ hp, k _ _ hc, hl⟩
theorem keep_new {N : Addr → Prop} {H H' : Hp} {a : Addr} {o : HO} (k : Keep N H H') (h : H' a = none) : Keep N H (upd H' a o) := fun b x e n => by
  rw [upd_ne (ne_of_none (k b x e n) h)]
  exact k b x e n
/-- what is new behind was not there ahead -/
theorem keep_none {p c : Addr} {H H' : Hp} (S : Src p c H) (k : Keep (Off p c) H H') {a : Addr} (h : H' a = none) (n : ¬ Off p c a) : H a = none := by
  cases e : H a with
  | none => rfl
  | some o =>
    rw [k a o e n] at h
    cases h
theorem at_int {α : Type} {xs : List α} {r : Int} (h0 : 0 ≤ r) (h1 : r < xs.length) : ∃ v, atI xs r = some v ∧ v ∈ xs := by
  obtain ⟨n, rfl⟩ := Int.eq_ofNat_of_zero_le h0
  have hi : n < xs.length := by omega
  exact ⟨xs[n], atI_nat (List.getElem?_eq_getElem hi), List.getElem_mem hi⟩
/-- a def of the top, by its name -/
structure Def (K : PySem.W.Frag) (mg : Str → Option Value) (x : Str) (f : Addr) : Prop where
  gl : mg x = some (.ref f)
  kp : PySem.W.keepIn K (.ref f) = true
theorem new_obj {p c t : Addr} {H : Hp} (S : Src p c H) (n : H t = none) (o : HO) : ∃ H', upd H t o = H' ∧ Same H H' ∧ Src p c H' ∧ H' t = some o ∧ ¬ Off p c t := ⟨_, rfl, same_new n, S.new n, upd_same, S.off n⟩
def spOf : Sp := fun vs H Q _ => ∃ (p c l : Addr) (xs : List V), vs = [.ref p, .ref l] ∧ Src p c H ∧ H l = some (.lst xs) ∧ ¬ Off p c l ∧ 1 ≤ xs.length ∧ xs.length ≤ 1000 ∧ ∀ v H', v ∈ xs → Keep (Off p c) H H' → Src p c H' → Q v H'
section
variable {P : Program} {w : World} {K : PySem.W.Frag} {mg : Str → Option Value} {base : Heap}
theorem scO : FnScope ["source", "some"] ["source", "some"] (defScope sOf) := ⟨rfl, rfl, rfl, by decide +kernel, rfl, by decide +kernel, by decide +kernel⟩
theorem ok_of {f fP : Addr} {fd fdP : FuncData} (F : Fun K "_law_of" "_law_of" sOf f fd) (T : Txt mg) (GP : FnOk P w K mg base CX0 1 fP fdP ["source", "many"] spPick) (DP : Def K mg "_law_pick" fP) (bP : Binds K fdP ["source", "many"] []) :
    FnOk P w K mg base CX0 2 f fd ["source", "some"] spOf := by
  refine F.ok scO (fun vs H Q E h => ?_) (fun cdv A outer s H vs Q E hr h => ?_)
  · obtain ⟨p, c, l, xs, rfl, _⟩ := h
    rfl
  · obtain ⟨p, c, l, xs, rfl, S, hl, nl, h1, h2, k⟩ := h
    refine ⟨_, pss_one (ps_ret (pe_ix ix_list (pv 1) (pe_call GP hr (by rfl) DP.gl DP.kp bP .nil pass0 (pa_cons (pv 0) (pa_cons (pe_callB call_len_seq (by rfl) T.len PySem.boot_len (pa_cons (pv 1) pa_nil)) pa_nil))) (fun _ _ => rfl))), ?_⟩
    refine ⟨_, rfl, _, rfl, _, rfl, _, _, rfl, .inl (SqL.of hl), p, c, _, rfl, S, by omega, by omega, fun r H' r0 r1 kp S' => ?_⟩
    obtain ⟨v, e, hv⟩ := at_int r0 r1
    exact ⟨l, xs, r, v, rfl, rfl, SqL.of (kp _ _ hl nl), e, k _ H' hv kp S'⟩
end
end K10
/-! K10, 2: told, the inits, words -/
namespace K10
open PySem PySem.Spec PyProof.Rows L2 Ver
open PySem.W (findIn)
abbrev sTold : Stmt := top 1
def ini (i : Nat) : Stmt := match top i with
  | .ClassDef _ _ _ b _ _ _ _ _ _ _ => b.getD 0 (.Pass ⟨0, 0, 0, 0⟩)
  | _ => .Pass ⟨0, 0, 0, 0⟩
structure Glob (mg : Str → Option Value) : Prop where
  len : mg "len" = none
  isinstance : mg "isinstance" = none
  str : mg "str" = none
  int : mg "int" = none
  repr : mg "repr" = none
  tuple : mg "tuple" = none
abbrev bmV : List Value := [.type "ValueError", .type "Exception", .type "BaseException", .type "object"]
abbrev bmL : List Value := [.type "LookupError", .type "Exception", .type "BaseException", .type "object"]
/-- what the inits lean on -/
structure Up (P : Program) (w : World) (K : PySem.W.Frag) (mg : Str → Option Value) (base : Heap) (G M fT : Addr) (qT : FuncData) : Prop where
  gG : mg "GuessError" = some (.ref G)
  bG : BaseC K G "ValueError.__init__"
  gM : mg "NameMissing" = some (.ref M)
  bM : BaseC K M "LookupError.__init__"
  gT : FnOk P w K mg base CX0 1 fT qT ["value"] spTold
  dT : Def K mg "told" fT
  bT : Binds K qT ["value"] []
theorem cat1000 {x y : Str} (h1 : x.length ≤ 1000) (h2 : y.length ≤ 1000) : (x ++ y).length ≤ sizeLine := by
  rw [PySem.Str.length_append]
  exact Nat.le_trans (Nat.add_le_add h1 h2) (by decide)
theorem hV : PySem.W.handedIn (.builtin "ValueError.__init__") = true := by kernel_rfl
theorem hL : PySem.W.handedIn (.builtin "LookupError.__init__") = true := by kernel_rfl
theorem tV : typeOf (.builtin "ValueError.__init__") = pure (.type "wrapper_descriptor") := by kernel_rfl
theorem tL : typeOf (.builtin "LookupError.__init__") = pure (.type "wrapper_descriptor") := by kernel_rfl
/-- one argument, kept as the only field -/
def spIni (K : PySem.W.Frag) (bmB : List Value) (newId : String) (f : Str) : Sp := fun vs H Q _ => ∃ (N : Addr → Prop) (a C : Addr) (v : V) (d : PyData), vs = [.ref a, v] ∧ H a = some (exo a C none) ∧ ExC K C bmB newId ∧ findIn K (.ref C) f = some none ∧ Da N H v d ∧ TellOk d ∧
  ∀ dx, H dx = none → dx ≠ a → Q .non (upd (upd H dx (exd dx [(f, v)])) a (exo a C (some dx)))
/-- a list or a tuple, kept as a tuple -/
def spIniT (K : PySem.W.Frag) (bmB : List Value) (newId : String) : Sp := fun vs H Q _ => ∃ (N : Addr → Prop) (a C b : Addr) (xs : List V) (ds : List PyData), vs = [.ref a, .ref b] ∧ H a = some (exo a C none) ∧ ExC K C bmB newId ∧ findIn K (.ref C) "path" = some none ∧
  (H b = some (.lst xs) ∨ H b = some (.tup xs)) ∧ Das N H xs ds ∧ (∀ d ∈ ds, TellOk d) ∧ ds.length ≤ 1000 ∧ ∀ t dx H', H' t = some (.tup xs) → (t = b ∨ H t = none) → (∀ c o, c ≠ a → H c = some o → H' c = some o) → H' a = some (exo a C (some dx)) → H' dx = some (exd dx [("path", .ref t)]) → Q .non H'
def spIni0 (K : PySem.W.Frag) (bmB : List Value) (newId : String) : Sp := fun vs H Q _ => ∃ (a C : Addr), vs = [.ref a] ∧ H a = some (exo a C none) ∧ ExC K C bmB newId ∧ Q .non H
section
variable {P : Program} {w : World} {K : PySem.W.Frag} {mg : Str → Option Value} {base : Heap}
theorem scT : FnScope ["value"] ["value"] (defScope sTold) := ⟨rfl, rfl, rfl, by decide +kernel, rfl, by decide +kernel, by decide +kernel⟩
theorem ok_told {f : Addr} {fd : FuncData} (F : Fun K "told" "told" sTold f fd) (T : Glob mg) : FnOk P w K mg base CX0 1 f fd ["value"] spTold := by
  refine F.ok scT (fun vs H Q E h => ?_) (fun cdv A outer s H vs Q E hr h => ?_)
  · obtain ⟨N, v, d, rfl, _⟩ := h
    rfl
  · obtain ⟨N, v, d, rfl, hv, hs, k⟩ := h
    refine ⟨_, pss_cons (ps_if (PW.pt (pw_and (pt_val (pe_callB call_isi (by rfl) T.isinstance (by decide +kernel) (pa_cons (pv 0) (pa_cons (pe_bltn (v := .ty "str") (by rfl) T.str (by decide +kernel) rfl) pa_nil))))
          (pw_and1 (pt_cmpR op_le (pe_callB call_len_str (by rfl) T.len PySem.boot_len (pa_cons (pv 0) pa_nil)) pe_int (nomark _)))))
        (pss_one (ps_ret (pe_callB call_reprT (by rfl) T.repr (by decide +kernel) (pa_cons (pv 0) pa_nil)))) pss_nil)
      (pss_cons (ps_if (PW.pt (pw_and (pt_val (pe_callB call_isi (by rfl) T.isinstance (by decide +kernel) (pa_cons (pv 0) (pa_cons (pe_bltn (v := .ty "int") (by rfl) T.int (by decide +kernel) rfl) pa_nil))))
          (pw_and1 (pt_chain op_lt op_lt (pe_un un_neg pe_int) (pv 0) pe_int))))
        (pss_one (ps_ret (pe_callTy call_str_int (by rfl) T.str (by decide +kernel) (pa_cons (pv 0) pa_nil)))) pss_nil)
      (pss_one (ps_ret pe_str))), ?_⟩
    refine ⟨_, rfl, v, .ty "str", _, _, _, rfl, .ty _, Da.ty hv, kit_str d, _, rfl, ?_⟩
    cases d with
    | str x =>
      cases hv
      obtain ⟨hs1, hs2⟩ := hs
      have e1000 : 1000 ≤ sizeLine := by decide
      refine ⟨_, rfl, x, rfl, Nat.le_trans hs1 e1000, _, _, rfl, rfl, _, rfl, ite2 (fun _ => ?_) (fun _ => ?_)⟩
      · exact ⟨_, rfl, x, rfl, Nat.le_trans hs2 e1000, k _ hs2⟩
      · refine ⟨_, rfl, .str x, .ty "int", _, _, _, rfl, .ty _, .base (.str x), kit_int (.str x), _, rfl, ?_⟩
        exact k _ (by decide)
    | int i =>
      cases hv
      refine ⟨_, rfl, .int i, .ty "int", _, _, _, rfl, .ty _, .base (.int i), kit_int (.int i), _, rfl, ?_⟩
      refine ⟨_, rfl, _, rfl, _, _, rfl, rfl, _, rfl, ?_⟩
      refine ite2 (fun h1 => ⟨_, _, rfl, rfl, _, rfl, ite2 (fun h2 => ?_) (fun _ => ?_)⟩) (fun _ => ⟨_, rfl, ?_⟩)
      · have q := toldInt (of_decide_eq_true h1) (of_decide_eq_true h2)
        exact ⟨_, rfl, i, rfl, q.1, k _ q.2⟩
      · exact k _ (by decide)
      · exact k _ (by decide)
    | bool b => exact hs.elim
    | _ =>
      refine ⟨_, rfl, v, .ty "int", _, _, _, rfl, .ty _, Da.ty hv, kit_int _, _, rfl, ?_⟩
      exact k _ (by decide)
variable {G M fT : Addr} {qT : FuncData}
theorem sc0 : FnScope ["self", "name"] ["self", "name"] (defScope (ini 4)) := ⟨rfl, rfl, rfl, by decide +kernel, rfl, by decide +kernel, by decide +kernel⟩
theorem ok_i0 {f : Addr} {fd : FuncData} (F : Fun K "__init__" "BadName.__init__" (ini 4) f fd) (U : Up P w K mg base G M fT qT) : FnOk P w K mg base CX0 2 f fd ["self", "name"] (spIni K bmV "ValueError.__new__" "name") := by
  refine F.ok sc0 (fun vs H Q E h => ?_) (fun cdv A outer s H vs Q E hr h => ?_)
  · obtain ⟨N, a, C, v, d, rfl, _⟩ := h
    rfl
  · obtain ⟨N, a, C, v, d, rfl, ha, T, hf, hv, ht, q⟩ := h
    refine ⟨_, pss_cons (ps_expr (pe_binit exB_VE (by rfl) U.gG U.bG hV tV (pa_cons (pv 0) (pa_cons (pe_joined (.cons pe_str (.cons (pe_fmt (pe_call U.gT hr (by rfl) U.dT.gl U.dT.kp U.bT .nil pass0 (pa_cons (pv 1) pa_nil))) .nil))) pa_nil)))) (pss_one (ps_st1 exB_VE (pv 0) (pv 1))), ?_⟩
    refine ⟨_, rfl, _, rfl, by decide, _, rfl, N, v, d, rfl, hv, ht, fun t tz => .inl ⟨t, rfl, Nat.le_of_lt (small1000 tz), t, rfl, cat1000 (by decide) tz, a, C, _, rfl, by show 1 ≤ 1000; decide, T, ha, _, rfl, _, rfl, a, C, rfl, T, hf, ha, q⟩⟩
theorem sc1 : FnScope ["self", "name"] ["self", "name"] (defScope (ini 5)) := ⟨rfl, rfl, rfl, by decide +kernel, rfl, by decide +kernel, by decide +kernel⟩
theorem ok_i1 {f : Addr} {fd : FuncData} (F : Fun K "__init__" "TwiceTold.__init__" (ini 5) f fd) (U : Up P w K mg base G M fT qT) : FnOk P w K mg base CX0 2 f fd ["self", "name"] (spIni K bmV "ValueError.__new__" "name") := by
  refine F.ok sc1 (fun vs H Q E h => ?_) (fun cdv A outer s H vs Q E hr h => ?_)
  · obtain ⟨N, a, C, v, d, rfl, _⟩ := h
    rfl
  · obtain ⟨N, a, C, v, d, rfl, ha, T, hf, hv, ht, q⟩ := h
    refine ⟨_, pss_cons (ps_expr (pe_binit exB_VE (by rfl) U.gG U.bG hV tV (pa_cons (pv 0) (pa_cons (pe_joined (.cons pe_str (.cons (pe_fmt (pe_call U.gT hr (by rfl) U.dT.gl U.dT.kp U.bT .nil pass0 (pa_cons (pv 1) pa_nil))) .nil))) pa_nil)))) (pss_one (ps_st1 exB_VE (pv 0) (pv 1))), ?_⟩
    refine ⟨_, rfl, _, rfl, by decide, _, rfl, N, v, d, rfl, hv, ht, fun t tz => .inl ⟨t, rfl, Nat.le_of_lt (small1000 tz), t, rfl, cat1000 (by decide) tz, a, C, _, rfl, by show 1 ≤ 1000; decide, T, ha, _, rfl, _, rfl, a, C, rfl, T, hf, ha, q⟩⟩
theorem sc2 : FnScope ["self", "name"] ["self", "name"] (defScope (ini 6)) := ⟨rfl, rfl, rfl, by decide +kernel, rfl, by decide +kernel, by decide +kernel⟩
theorem ok_i2 {f : Addr} {fd : FuncData} (F : Fun K "__init__" "BadVariant.__init__" (ini 6) f fd) (U : Up P w K mg base G M fT qT) : FnOk P w K mg base CX0 2 f fd ["self", "name"] (spIni K bmV "ValueError.__new__" "name") := by
  refine F.ok sc2 (fun vs H Q E h => ?_) (fun cdv A outer s H vs Q E hr h => ?_)
  · obtain ⟨N, a, C, v, d, rfl, _⟩ := h
    rfl
  · obtain ⟨N, a, C, v, d, rfl, ha, T, hf, hv, ht, q⟩ := h
    refine ⟨_, pss_cons (ps_expr (pe_binit exB_VE (by rfl) U.gG U.bG hV tV (pa_cons (pv 0) (pa_cons (pe_joined (.cons pe_str (.cons (pe_fmt (pe_call U.gT hr (by rfl) U.dT.gl U.dT.kp U.bT .nil pass0 (pa_cons (pv 1) pa_nil))) .nil))) pa_nil)))) (pss_one (ps_st1 exB_VE (pv 0) (pv 1))), ?_⟩
    refine ⟨_, rfl, _, rfl, by decide, _, rfl, N, v, d, rfl, hv, ht, fun t tz => .inl ⟨t, rfl, Nat.le_of_lt (small1000 tz), t, rfl, cat1000 (by decide) tz, a, C, _, rfl, by show 1 ≤ 1000; decide, T, ha, _, rfl, _, rfl, a, C, rfl, T, hf, ha, q⟩⟩
theorem sc3 : FnScope ["self", "name"] ["self", "name"] (defScope (ini 7)) := ⟨rfl, rfl, rfl, by decide +kernel, rfl, by decide +kernel, by decide +kernel⟩
theorem ok_i3 {f : Addr} {fd : FuncData} (F : Fun K "__init__" "UnknownName.__init__" (ini 7) f fd) (U : Up P w K mg base G M fT qT) : FnOk P w K mg base CX0 2 f fd ["self", "name"] (spIni K bmL "LookupError.__new__" "name") := by
  refine F.ok sc3 (fun vs H Q E h => ?_) (fun cdv A outer s H vs Q E hr h => ?_)
  · obtain ⟨N, a, C, v, d, rfl, _⟩ := h
    rfl
  · obtain ⟨N, a, C, v, d, rfl, ha, T, hf, hv, ht, q⟩ := h
    refine ⟨_, pss_cons (ps_expr (pe_binit exB_LE (by rfl) U.gM U.bM hL tL (pa_cons (pv 0) (pa_cons (pe_joined (.cons pe_str (.cons (pe_fmt (pe_call U.gT hr (by rfl) U.dT.gl U.dT.kp U.bT .nil pass0 (pa_cons (pv 1) pa_nil))) .nil))) pa_nil)))) (pss_one (ps_st1 exB_LE (pv 0) (pv 1))), ?_⟩
    refine ⟨_, rfl, _, rfl, by decide, _, rfl, N, v, d, rfl, hv, ht, fun t tz => .inl ⟨t, rfl, Nat.le_of_lt (small1000 tz), t, rfl, cat1000 (by decide) tz, a, C, _, rfl, by show 1 ≤ 1000; decide, T, ha, _, rfl, _, rfl, a, C, rfl, T, hf, ha, q⟩⟩
end
abbrev sWord : Stmt := top 13
abbrev sKind : Stmt := top 14
def lets : Str := "abcdefghijklmnopqrstuvwxyz"
def sgns : Str := "abcdefghijklmnopqrstuvwxyz0123456789"
/-! ### the mathematics -/
def inLets (c : Nat) : Bool := decide (c ∈ lets.cps.toList)
def inSgns (c : Nat) : Bool := decide (c ∈ sgns.cps.toList)
def wordL : List Nat → Bool
  | [] => false
  | c :: r => decide (r.length + 1 ≤ 12) && (inLets c && (c :: r).all inSgns)
def wordS (x : Str) : Bool := wordL x.cps.toList
def wordD : PyData → Bool
  | .str x => wordS x
  | _ => false
def resv : List Str := ["none", "bit", "err", "fun", "obj"]
def kindD : PyData → Bool
  | .str x => wordS x && !resv.any fun y => y == x
  | _ => false
/-! ### promises -/
/-- a question about one datum, answered by g; the heap is as it was but for new objects -/
def spAsk (ok : PyData → Prop) (g : PyData → Bool) : Sp := fun vs H Q _ => ∃ (N : Addr → Prop) (v : V) (d : PyData), vs = [v] ∧ Da N H v d ∧ ok d ∧ ∀ H', Same H H' → Q (.bl (g d)) H'
/-- texts are of a length that can be told -/
def Short : PyData → Prop
  | .str x => x.length ≤ 1000
  | _ => True
structure GlobW (mg : Str → Option Value) : Prop where
  len : mg "len" = none
  isinstance : mg "isinstance" = none
  str : mg "str" = none
  all : mg "all" = none
  letters : ∃ t, mg "LETTERS" = some (.str lets t)
  signs : ∃ t, mg "WORD_SIGNS" = some (.str sgns t)
  longest : ∃ t, mg "LONGEST_WORD" = some (.int 12 t)
section
variable {P : Program} {w : World} {K : PySem.W.Frag} {mg : Str → Option Value} {base : Heap}
theorem scW : FnScope ["value", "sign"] ["value"] (defScope sWord) := ⟨rfl, rfl, rfl, by decide +kernel, rfl, by decide +kernel, by decide +kernel⟩
theorem ok_word {f : Addr} {fd : FuncData} (F : Fun K "is_word" "is_word" sWord f fd) (T : GlobW mg) : FnOk P w K mg base CX0 1 f fd ["value"] (spAsk Short wordD) := by
  refine F.ok scW (fun vs H Q E h => ?_) (fun cdv A outer s H vs Q E hr h => ?_)
  · obtain ⟨N, v, d, rfl, _⟩ := h
    rfl
  · obtain ⟨N, v, d, rfl, hv, hs, k⟩ := h
    obtain ⟨_, mL⟩ := T.letters
    obtain ⟨_, mS⟩ := T.signs
    obtain ⟨_, mG⟩ := T.longest
    refine ⟨_, pss_cons (ps_if (PW.pt (pw_or (pt_not (pt_val (pe_callB call_isi (by rfl) T.isinstance (by decide +kernel) (pa_cons (pv 0) (pa_cons (pe_bltn (v := .ty "str") (by rfl) T.str (by decide +kernel) rfl) pa_nil)))))
        (pw_or1 (pt_not (pt_chain op_lt op_le pe_int (pe_callB call_len_str (by rfl) T.len PySem.boot_len (pa_cons (pv 0) pa_nil)) (pe_glob (v := .int 12) rfl mG ⟨_, rfl⟩))))))
        (pss_one (ps_ret pe_bl)) pss_nil)
      (pss_one (ps_ret (pe_and (pe_cmpR op_in_sign (pe_ix ix_str (pv 0) pe_int (fun _ _ => rfl)) (pe_glob (v := .str lets) rfl mL ⟨_, rfl⟩) (by rfl))
        (pe_one (pe_callB (cr_all rfl) (by rfl) T.all (by decide +kernel) (pa_cons (pe_lc (own := [("sign", 1)]) (g := gName 1) (tt := tYes) rfl scW.nd (pi_str (pv 0))
          (blkOk_by (N := ["value", "sign"]) (sc := defScope sWord) (by decide +kernel)) (fun _ _ _ _ _ => pg_name (i := 1) scW.nd rfl (.inl rfl)) (fun _ _ _ _ _ => pts_nil)
          (fun _ _ _ _ _ => pe_cmpR op_in_sign (pv 1) (pe_glob (v := .str sgns) rfl mS ⟨_, rfl⟩) (by rfl))) pa_nil)))))), ?_⟩
    refine ⟨_, rfl, v, .ty "str", _, _, _, rfl, .ty _, Da.ty hv, kit_str d, _, rfl, ?_⟩
    cases d with
    | str x =>
      cases hv
      have hx : x.length = x.cps.toList.length := by simp [Str.length]
      have hs' : x.length ≤ 1000 := hs
      have hz : x.length ≤ sizeLine := Nat.le_trans hs' (by decide)
      refine ⟨_, rfl, x, rfl, hz, _, _, rfl, rfl, _, rfl, ?_⟩
      -- 0 < len(value) <= LONGEST_WORD
      cases el : x.cps.toList with
      | nil =>
        rw [el] at hx
        have e0 : decide ((0 : Int) < (x.length : Int)) = false := decide_eq_false (by rw [hx]; decide)
        rw [e0]
        refine ⟨_, rfl, ?_⟩
        have q := k H (Same.refl H)
        have e1 : wordD (.str x) = false := by
          show wordL x.cps.toList = false
          rw [el]
          rfl
        rwa [e1] at q
      | cons c r =>
        rw [el] at hx
        have e0 : decide ((0 : Int) < (x.length : Int)) = true := decide_eq_true (by rw [hx, List.length_cons]; omega)
        rw [e0]
        refine ⟨_, _, rfl, rfl, _, rfl, ?_⟩
        have ew : wordD (.str x) = (decide (r.length + 1 ≤ 12) && (inLets c && (c :: r).all inSgns)) := by
          show wordL x.cps.toList = _
          rw [el]
          rfl
        rw [ew] at k
        rw [hx, List.length_cons]
        by_cases h12 : r.length + 1 ≤ 12
        · have e2 : decide (((r.length + 1 : Nat) : Int) ≤ 12) = true := decide_eq_true (by omega)
          rw [e2]
          have e3 : decide (r.length + 1 ≤ 12) = true := decide_eq_true h12
          rw [e3, Bool.true_and] at k
          -- value[0] in LETTERS and all([..])
          refine ⟨_, rfl, _, _, c, rfl, rfl, hz, by rw [el]; exact atI_nat (j := 0) rfl, c, lets, rfl, rfl, _, rfl, ?_⟩
          refine ite2 (fun hc => ?_) (fun hc => ?_)
          · have hc' : inLets c = true := hc
            rw [hc', Bool.true_and] at k
            refine ⟨_, rfl, x, rfl, fun D nD => lc_it (walk_str (z := x)) (fun i H2 => Same H H2 ∧ H2 D = some (.lst (((x.cps.toList.take i).map inSgns).map V.bl))) ⟨same_new nD, upd_same⟩ (fun _ _ _ _ => trivial) ?_ ?_⟩
            · rintro i y H2 H3 hi ⟨sm, hD⟩ ⟨rfl, z, hz1, rfl⟩
              have hz2 : x.cps.toList[i]? = some z := by simpa using hz1
              refine ⟨rfl, _, rfl, z, sgns, rfl, rfl, _, hD, ?_, fun b o e => ?_, ?_⟩
              · refine small1000 ?_
                rw [List.length_map, List.length_map, List.length_take]
                exact Nat.le_trans (Nat.min_le_right _ _) (by rw [el, List.length_cons]; omega)
              · rw [upd_ne (ne_of_none e nD)]
                exact sm b o e
              · rw [upd_same, List.take_add_one, hz2, List.map_append, List.map_append]
                rfl
            · rintro H2 ⟨sm, hD⟩
              have ex : x.cps.toList.take x.cps.size = c :: r := by
                rw [← el]
                exact List.take_of_length_le (by simp)
              rw [ex] at hD
              refine ⟨D, (c :: r).map inSgns, rfl, SqL.of hD, ?_⟩
              have q := k H2 sm
              rw [List.all_map]
              exact q
          · have hc' : inLets c = false := by simpa [inLets] using hc
            rw [hc', Bool.false_and] at k
            exact k H (Same.refl H)
        · have e2 : decide (((r.length + 1 : Nat) : Int) ≤ 12) = false := decide_eq_false (by omega)
          rw [e2]
          have e3 : decide (r.length + 1 ≤ 12) = false := decide_eq_false h12
          rw [e3, Bool.false_and] at k
          exact k H (Same.refl H)
    | _ => exact k H (Same.refl H)
end
end K10
/-! K10, 3: words for rows, dicts, signatures -/
namespace Ver
open PySem PySem.Spec PyProof.Rows L2
/-- a dict comprehension over any walk -/
theorem dc_it {J : It} {n : Nat} {G : Hp → Prop} {Y : Nat → Hp → V → Hp → Prop} (w : Walk J n G Y) {g : TG} {tt : TT} {tk tv : TE} {vs : List Nat} {σ : L2.St} {H1 : Hp} {D : Addr} {Qd : Hp → Prop} (Pv : Nat → Hp → Prop) (h0 : Pv 0 (upd H1 D (.dK []))) (hG : ∀ i H, i ≤ n → Pv i H → G H)
    (hs : ∀ i x H H', i < n → Pv i H → Y i H x H' → g x (wipe σ vs) H' fun σ2 H2 => wipe σ2 vs = wipe σ vs ∧ tt σ2 H2 fun b H3 =>
      if b = true then tk σ2 H3 fun y H4 => tv σ2 H4 fun z H5 => ∃ kvs k, y = kV k ∧ H5 D = some (.dK kvs) ∧ kvs.length < sizeLine ∧ Pv (i + 1) (upd H5 D (.dK (putK kvs k z))) else Pv (i + 1) H3) (hd : ∀ H, Pv n H → Qd H) :
    ∃ W : Nat → Nat → Hp → Prop, (∃ m, W 0 m (upd H1 D (.dK []))) ∧ ∀ i m H, W i m H →
      (J.stop i H ∧ Qd H) ∨ (J.go i H ∧ ∃ Nx : Hp → Prop, (∀ H', Nx H' → ∃ m', m' < m ∧ W (i + 1) m' H') ∧ ∀ x H', J.yld i H x H' → g x (wipe σ vs) H' fun σ2 H2 => wipe σ2 vs = wipe σ vs ∧ tt σ2 H2 fun b H3 =>
        if b = true then tk σ2 H3 fun y H4 => tv σ2 H4 fun z H5 => ∃ kvs k, y = kV k ∧ H5 D = some (.dK kvs) ∧ kvs.length < sizeLine ∧ Nx (upd H5 D (.dK (putK kvs k z))) else Nx H3) := by
  refine ⟨fun i m H => i + m = n ∧ Pv i H, ⟨n, Nat.zero_add n, h0⟩, fun i m H ⟨e, p⟩ => ?_⟩
  have q := hG i H (by omega) p
  cases m with
  | zero =>
    have z : i = n := e
    subst z
    exact .inl ⟨w.stops H q, hd H p⟩
  | succ m => exact .inr ⟨w.goes i H (by omega) q, Pv (i + 1), fun H' p' => ⟨m, Nat.lt_succ_self m, by omega, p'⟩, fun x H' y => hs i x H H' (by omega) p (w.yields i H x H' (by omega) q y)⟩
end Ver
namespace K10
open PySem PySem.Spec PyProof.Rows L2 Ver
/-- a variant: its name, the kinds it takes, what it gives -/
abbrev Row := Str × List Str × Str
/-- which kinds may be told -/
structure KindsOk (ks : List Str) : Prop where
  word : ∀ k ∈ ks, kindD (.str k) = true
  short : ∀ k ∈ ks, TellOk (.str k)
  nod : ks.Nodup
  few : ks.length ≤ 100
theorem inV_strs (k : Str) : ∀ ks : List Str, inV (.str k) (ks.map V.str) = decide (k ∈ ks)
  | [] => by simp [inV]
  | x :: r => by
    have ih := inV_strs k r
    show (eqV (.str x) (.str k) || inV (.str k) (r.map V.str)) = _
    rw [ih]
    show ((x == k) || decide (k ∈ r)) = _
    by_cases h : x = k
    · subst h
      simp
    · have h' : (x == k) = false := by simpa using h
      have h2 : k ≠ x := Ne.symm h
      rw [h']
      simp [h2]
theorem flat_strs : ∀ ks : List Str, (ks.map V.str).all flatV = true
  | [] => rfl
  | _ :: r => by
    show (true && (r.map V.str).all flatV) = true
    rw [flat_strs r]
    rfl
theorem cut_take {xs : List V} {i : Nat} (h : i ≤ xs.length) : cutV xs none (some (i : Int)) = xs.take i := by
  have e0 : HT.sIx xs.length 0 none = 0 := rfl
  have e1 : HT.sIx xs.length xs.length (some (i : Int)) = i := by
    show (if (i : Int) < 0 then ((i : Int) + xs.length).toNat else min (i : Int).toNat xs.length) = i
    rw [if_neg (by omega)]
    simp
    omega
  unfold cutV
  rw [e0, e1]
  simp
structure GlobS (mg : Str → Option Value) : Prop where
  enumerate : mg "enumerate" = none
  len : mg "len" = none
  isinstance : mg "isinstance" = none
  tuple : mg "tuple" = none
  list : mg "list" = none
  str : mg "str" = none
  all : mg "all" = none
  any : mg "any" = none
/-- a row of a variant stands at r -/
def RowAt (H : Hp) (r : Addr) (row : Row) : Prop := ∃ o, H r = some (.tup [.str row.1, .ref o, .str row.2.2]) ∧ H o = some (.tup (row.2.1.map V.str))
/-- tuples stay -/
def Tups (H H' : Hp) : Prop := ∀ b xs, H b = some (.tup xs) → H' b = some (.tup xs)
theorem Tups.of {H H' : Hp} (k : Same H H') : Tups H H' := fun b xs e => k b _ e
theorem Tups.trans {H H1 H2 : Hp} (a : Tups H H1) (b : Tups H1 H2) : Tups H H2 := fun c xs e => b c xs (a c xs e)
theorem Tups.lock {H : Hp} {d : Addr} {u o : HO} (e : H d = some u) (n : ∀ xs, u ≠ .tup xs) : Tups H (upd H d o) := fun b xs q => by
  have ne : b ≠ d := fun z => by
    rw [z, e] at q
    exact n xs (Option.some.inj q)
  rw [upd_ne ne]
  exact q
theorem RowAt.tups {H H' : Hp} (k : Tups H H') {r : Addr} {row : Row} : RowAt H r row → RowAt H' r row := fun ⟨o, h1, h2⟩ => ⟨o, k _ _ h1, k _ _ h2⟩
/-- rows, one by one -/
abbrev RowsAt (H : Hp) (rs : List Addr) (rows : List Row) : Prop := Paired (RowAt H) rs rows
theorem RowsAt.tups {H H' : Hp} (k : Tups H H') : ∀ {rs : List Addr} {rows : List Row}, RowsAt H rs rows → RowsAt H' rs rows
  | _, _, .nil => .nil
  | _, _, .cons h t => .cons (h.tups k) (RowsAt.tups k t)
theorem Paired.at {α β : Type} {R : α → β → Prop} : ∀ {as : List α} {bs : List β} {i : Nat} {a : α}, Paired R as bs → as[i]? = some a → ∃ b, bs[i]? = some b ∧ R a b
  | _, _, _, _, .nil, e => by simp at e
  | _, _, 0, _, .cons h _, e => by
    simp at e
    subst e
    exact ⟨_, rfl, h⟩
  | _, _, i + 1, _, .cons _ t, e => by
    obtain ⟨b, h1, h2⟩ := Paired.at (i := i) t (by simpa using e)
    exact ⟨b, by simpa using h1, h2⟩
theorem Paired.snoc {α β : Type} {R : α → β → Prop} : ∀ {as : List α} {bs : List β} {a : α} {b : β}, Paired R as bs → R a b → Paired R (as ++ [a]) (bs ++ [b])
  | _, _, _, _, .nil, h => .cons h .nil
  | _, _, _, _, .cons g t, h => .cons g (Paired.snoc t h)
/-- an entry of a dict of rows by texts -/
def Ent (H : Hp) (kv : Key × V) (e : Str × Row) : Prop := kv.1 = .inr e.1 ∧ ∃ a, kv.2 = .ref a ∧ RowAt H a e.2
abbrev Ents (H : Hp) (kvs : List (Key × V)) (es : List (Str × Row)) : Prop := Paired (Ent H) kvs es
theorem Ents.tups {H H' : Hp} (k : Tups H H') : ∀ {kvs : List (Key × V)} {es : List (Str × Row)}, Ents H kvs es → Ents H' kvs es
  | _, _, .nil => .nil
  | _, _, .cons ⟨h1, a, h2, h3⟩ t => .cons ⟨h1, a, h2, h3.tups k⟩ (Ents.tups k t)
theorem Ents.none {H : Hp} {n : Str} : ∀ {kvs : List (Key × V)} {es : List (Str × Row)}, Ents H kvs es → n ∉ es.map Prod.fst → valV kvs (Sum.inr n : Key) = none
  | _, _, .nil, _ => rfl
  | kv :: kvs, e :: es, .cons ⟨h1, _⟩ t, h => by
    rw [List.map_cons, List.mem_cons, not_or] at h
    rw [valV_neg (by rw [h1]; intro z; exact h.1 (Sum.inr.inj z).symm)]
    exact Ents.none t h.2
theorem Ents.some {H : Hp} {n : Str} {row : Row} : ∀ {kvs : List (Key × V)} {es : List (Str × Row)}, Ents H kvs es → es.lookup n = some row → ∃ a, valV kvs (Sum.inr n : Key) = some (.ref a) ∧ RowAt H a row
  | _, _, .nil, h => by simp at h
  | kv :: kvs, (m, r) :: es, .cons ⟨h1, a, h2, h3⟩ t, h => by
    rw [List.lookup_cons] at h
    by_cases e : n = m
    · subst e
      rw [beq_self_eq_true] at h
      cases h
      exact ⟨a, by rw [valV_pos h1, h2], h3⟩
    · rw [beq_eq_false_iff_ne.mpr e] at h
      obtain ⟨b, q1, q2⟩ := Ents.some t h
      exact ⟨b, by rw [valV_neg (by rw [h1]; intro z; exact e (Sum.inr.inj z).symm)]; exact q1, q2⟩
theorem nw3 : ¬ (HT.sIx 3 0 none = 0 ∧ HT.sIx 3 3 (some 2) = 3) := by decide
/-- a signature's primitives: their names, their variants -/
abbrev Prims := List (Str × List Row)
def ownersOf (ps : Prims) : List (Str × Row) := ps.flatMap fun p => p.2.map fun r => (r.1, (p.1, r.2.1, r.2.2))
/-- lists and tuples stay -/
structure Std (H H' : Hp) : Prop where
  t : Tups H H'
  l : ∀ b xs, H b = some (.lst xs) → H' b = some (.lst xs)
theorem Std.of {H H' : Hp} (k : Same H H') : Std H H' := ⟨Tups.of k, fun b _ e => k b _ e⟩
theorem Std.trans {H H1 H2 : Hp} (a : Std H H1) (b : Std H1 H2) : Std H H2 := ⟨a.t.trans b.t, fun c xs e => b.l c xs (a.l c xs e)⟩
/-- all but x stays, and no list, no tuple stands there -/
theorem Std.but {H H' : Hp} {x : Addr} {u : HO} (k : Keep (· = x) H H') (e : H x = some u) (n1 : ∀ xs, u ≠ .tup xs) (n2 : ∀ xs, u ≠ .lst xs) : Std H H' :=
  ⟨fun b xs q => k b _ q fun z => by
      rw [z, e] at q
      exact n1 xs (Option.some.inj q),
    fun b xs q => k b _ q fun z => by
      rw [z, e] at q
      exact n2 xs (Option.some.inj q)⟩
theorem keep_upd {H : Hp} {x : Addr} {o : HO} : Keep (· = x) H (upd H x o) := fun b u e n => by
  rw [upd_ne n]
  exact e
/-- an entry of a dict of lists of rows by texts -/
def PEnt (H : Hp) (kv : Key × V) (e : Str × List Row) : Prop := kv.1 = .inr e.1 ∧ ∃ l as, kv.2 = .ref l ∧ H l = some (.lst (as.map V.ref)) ∧ RowsAt H as e.2
abbrev PEnts (H : Hp) (kvs : List (Key × V)) (ps : Prims) : Prop := Paired (PEnt H) kvs ps
theorem PEnt.std {H H' : Hp} (k : Std H H') {kv : Key × V} {e : Str × List Row} : PEnt H kv e → PEnt H' kv e := fun ⟨h1, l, as, h2, h3, h4⟩ => ⟨h1, l, as, h2, k.l _ _ h3, h4.tups k.t⟩
theorem PEnts.std {H H' : Hp} (k : Std H H') : ∀ {kvs : List (Key × V)} {ps : Prims}, PEnts H kvs ps → PEnts H' kvs ps
  | _, _, .nil => .nil
  | _, _, .cons h t => .cons (h.std k) (PEnts.std k t)
/-- the value of a key that stands at place i, where no key stands twice -/
theorem val_at {kvs : List (Key × V)} {i : Nat} {k : Key} {v : V} (nod : (kvs.map (·.1)).Nodup) (e : kvs[i]? = some (k, v)) : valV kvs k = some v := by
  induction kvs generalizing i with
  | nil => simp at e
  | cons p r ih =>
    rw [List.map_cons, List.nodup_cons] at nod
    cases i with
    | zero =>
      simp at e
      subst e
      exact valV_pos rfl
    | succ i =>
      have e' : r[i]? = some (k, v) := by simpa using e
      have hm : k ∈ r.map (·.1) := List.mem_map.mpr ⟨(k, v), List.mem_of_getElem? e', rfl⟩
      rw [valV_neg fun z => nod.1 (z ▸ hm)]
      exact ih nod.2 e'
theorem pents_keys {H : Hp} : ∀ {kvs : List (Key × V)} {ps : Prims}, PEnts H kvs ps → kvs.map (·.1) = ps.map fun p => (.inr p.1 : Key)
  | _, _, .nil => rfl
  | kv :: kvs, p :: ps, .cons ⟨h, _⟩ t => by
    rw [List.map_cons, List.map_cons, h, pents_keys t]
theorem nod_inr : ∀ {ns : List Str}, ns.Nodup → (ns.map fun n => (.inr n : Key)).Nodup
  | [], _ => List.nodup_nil
  | n :: r, h => by
    rw [List.nodup_cons] at h
    rw [List.map_cons, List.nodup_cons]
    refine ⟨fun m => ?_, nod_inr h.2⟩
    obtain ⟨x, hx, e⟩ := List.mem_map.mp m
    cases e
    exact h.1 hx
/-- what may be told of primitives and their variants -/
structure PrimsOk (ks : List Str) (ps : Prims) : Prop where
  names : (ps.map Prod.fst).Nodup
  word : ∀ p ∈ ps, wordS p.1 = true ∧ TellOk (.str p.1)
  vnames : ((ownersOf ps).map Prod.fst).Nodup
  vword : ∀ p ∈ ps, ∀ r ∈ p.2, wordS r.1 = true ∧ TellOk (.str r.1)
  own : ∀ p ∈ ps, ∀ r ∈ p.2, (r.2.1.length = 1 ∨ r.2.1.length = 2) ∧ (∀ w ∈ r.2.1, w ∈ ks) ∧ (r.2.2 = "bit" ∨ r.2.2 ∈ ks)
  owns : ∀ p ∈ ps, (p.2.map fun r => r.2.1).Nodup
  few : (ownersOf ps).length ≤ 900
  fewP : ps.length ≤ 100
theorem owners_take {ps : Prims} {i : Nat} {p : Str × List Row} (e : ps[i]? = some p) : ownersOf (ps.take (i + 1)) = ownersOf (ps.take i) ++ p.2.map fun r => (r.1, (p.1, r.2.1, r.2.2)) := by
  unfold ownersOf
  rw [List.take_add_one, e, List.flatMap_append]
  simp
theorem owners_split {ps : Prims} {i : Nat} {p : Str × List Row} (e : ps[i]? = some p) : ownersOf ps = ownersOf (ps.take i) ++ ((p.2.map fun r => (r.1, (p.1, r.2.1, r.2.2))) ++ ownersOf (ps.drop (i + 1))) := by
  have h : ps = ps.take (i + 1) ++ ps.drop (i + 1) := (List.take_append_drop _ _).symm
  have e2 : ownersOf ps = ownersOf (ps.take (i + 1)) ++ ownersOf (ps.drop (i + 1)) := by
    conv => lhs; rw [h]
    unfold ownersOf
    rw [List.flatMap_append]
  rw [e2, owners_take e, List.append_assoc]
/-- the next variant is none of those so far -/
theorem next_new {ks : List Str} {ps : Prims} (ok : PrimsOk ks ps) {i j : Nat} {p : Str × List Row} {r : Row} (e : ps[i]? = some p) (er : p.2[j]? = some r) :
    r.1 ∉ (ownersOf (ps.take i) ++ (p.2.take j).map fun r => (r.1, (p.1, r.2.1, r.2.2))).map Prod.fst := by
  have nod := ok.vnames
  obtain ⟨h1, h2⟩ := List.getElem?_eq_some_iff.mp er
  have hs : p.2 = p.2.take j ++ r :: p.2.drop (j + 1) := by
    conv => lhs; rw [← List.take_append_drop j p.2, List.drop_eq_getElem_cons h1, h2]
  have hw : ownersOf ps = (ownersOf (ps.take i) ++ (p.2.take j).map fun r => (r.1, (p.1, r.2.1, r.2.2))) ++ ((r.1, (p.1, r.2.1, r.2.2)) :: ((p.2.drop (j + 1)).map (fun r => (r.1, (p.1, r.2.1, r.2.2))) ++ ownersOf (ps.drop (i + 1)))) := by
    rw [owners_split e]
    conv => lhs; rw [hs]
    simp
  rw [hw, List.map_append, List.map_cons] at nod
  have d := (List.nodup_append.mp nod).2.2
  intro hm
  exact d r.1 hm r.1 (List.mem_cons_self ..) rfl
theorem next_apart {ks : List Str} {ps : Prims} (ok : PrimsOk ks ps) {i j : Nat} {p : Str × List Row} {r : Row} (e : ps[i]? = some p) (er : p.2[j]? = some r) :
    ∀ en ∈ ownersOf (ps.take i) ++ (p.2.take j).map (fun r => (r.1, (p.1, r.2.1, r.2.2))), ¬ (en.2.1 = p.1 ∧ en.2.2.1 = r.2.1) := by
  rintro en hm ⟨h1, h2⟩
  rcases List.mem_append.mp hm with hm | hm
  · obtain ⟨p', hp', hm⟩ := List.mem_flatMap.mp hm
    obtain ⟨r', _, rfl⟩ := List.mem_map.mp hm
    have hp1 : p'.1 = p.1 := h1
    obtain ⟨k, hk, ek⟩ := List.getElem_of_mem hp'
    rw [List.length_take] at hk
    rw [List.getElem_take] at ek
    have hi := (List.getElem?_eq_some_iff.mp e)
    obtain ⟨hi1, hi2⟩ := hi
    have nod := ok.names
    have a1 : (ps.map Prod.fst)[k]'(by rw [List.length_map]; omega) = p'.1 := by rw [List.getElem_map, ek]
    have a2 : (ps.map Prod.fst)[i]'(by rw [List.length_map]; omega) = p.1 := by rw [List.getElem_map, hi2]
    have := (List.getElem_inj nod).mp (a1.trans (hp1.trans a2.symm))
    omega
  · obtain ⟨r', hr', rfl⟩ := List.mem_map.mp hm
    have h2' : r'.2.1 = r.2.1 := h2
    obtain ⟨k, hk, ek⟩ := List.getElem_of_mem hr'
    rw [List.length_take] at hk
    rw [List.getElem_take] at ek
    obtain ⟨hj1, hj2⟩ := List.getElem?_eq_some_iff.mp er
    have nod := ok.owns p (List.mem_of_getElem? e)
    have a1 : (p.2.map fun r => r.2.1)[k]'(by rw [List.length_map]; omega) = r'.2.1 := by rw [List.getElem_map, ek]
    have a2 : (p.2.map fun r => r.2.1)[j]'(by rw [List.length_map]; omega) = r.2.1 := by rw [List.getElem_map, hj2]
    have := (List.getElem_inj nod).mp (a1.trans (h2'.trans a2.symm))
    omega
theorem Tups.of_keepD {H H' : Hp} {d : Addr} {kvs : List (Key × V)} (k : Keep (· = d) H H') (e : H d = some (.dK kvs)) : Tups H H' := (Std.but k e (fun _ z => nomatch z) fun _ z => nomatch z).t
/-- a method of the class that stands at place i of the top -/
def meth (i j : Nat) : Stmt := match top i with
  | .ClassDef _ _ _ b _ _ _ _ _ _ _ => b.getD j (.Pass ⟨0, 0, 0, 0⟩)
  | _ => .Pass ⟨0, 0, 0, 0⟩
/-- an entry of a dict of tuples of rows by texts -/
def TEnt (H : Hp) (kv : Key × V) (e : Str × List Row) : Prop := kv.1 = .inr e.1 ∧ ∃ t as, kv.2 = .ref t ∧ H t = some (.tup (as.map V.ref)) ∧ RowsAt H as e.2
abbrev TEnts (H : Hp) (kvs : List (Key × V)) (ps : Prims) : Prop := Paired (TEnt H) kvs ps
theorem TEnts.tups {H H' : Hp} (k : Tups H H') : ∀ {kvs : List (Key × V)} {ps : Prims}, TEnts H kvs ps → TEnts H' kvs ps
  | _, _, .nil => .nil
  | _, _, .cons ⟨h1, t, as, h2, h3, h4⟩ r => .cons ⟨h1, t, as, h2, k _ _ h3, h4.tups k⟩ (TEnts.tups k r)
theorem tents_keys {H : Hp} : ∀ {kvs : List (Key × V)} {ps : Prims}, TEnts H kvs ps → kvs.map (·.1) = ps.map fun p => (.inr p.1 : Key)
  | _, _, .nil => rfl
  | kv :: kvs, p :: ps, .cons ⟨h, _⟩ t => by
    rw [List.map_cons, List.map_cons, h, tents_keys t]
theorem TEnts.some {H : Hp} {n : Str} {rows : List Row} : ∀ {kvs : List (Key × V)} {es : Prims}, TEnts H kvs es → es.lookup n = some rows → ∃ t as, valV kvs (Sum.inr n : Key) = some (.ref t) ∧ H t = some (.tup (as.map V.ref)) ∧ RowsAt H as rows
  | _, _, .nil, h => by simp at h
  | kv :: kvs, (m, r) :: es, .cons ⟨h1, t, as, h2, h3, h4⟩ tl, h => by
    rw [List.lookup_cons] at h
    by_cases e : n = m
    · subst e
      rw [beq_self_eq_true] at h
      cases h
      exact ⟨t, as, by rw [valV_pos h1, h2], h3, h4⟩
    · rw [beq_eq_false_iff_ne.mpr e] at h
      obtain ⟨t', as', q1, q2⟩ := TEnts.some tl h
      exact ⟨t', as', by rw [valV_neg (by rw [h1]; intro z; exact e (Sum.inr.inj z).symm)]; exact q1, q2⟩
abbrev sigF (ka ow pr : Addr) : List (Str × V) := [("_kinds", .ref ka), ("_owners", .ref ow), ("_primitives", .ref pr)]
/-- a signature stands at g -/
structure SigAt (N : Addr → Prop) (H : Hp) (C g : Addr) (ks : List Str) (ps : Prims) : Prop where
  ex : ∃ dx ka ow pr es kvs, H g = some (.ins C dx (sigF ka ow pr)) ∧ H ka = some (.tup (ks.map V.str)) ∧ H ow = some (.dK es) ∧ Ents H es (ownersOf ps) ∧ H pr = some (.dK kvs) ∧ TEnts H kvs ps ∧ ¬ N g ∧ ¬ N ow ∧ ¬ N pr
theorem SigAt.keep {N : Addr → Prop} {H H' : Hp} {C g : Addr} {ks : List Str} {ps : Prims} (k : Keep N H H') (t : Tups H H') : SigAt N H C g ks ps → SigAt N H' C g ks ps
  | ⟨dx, ka, ow, pr, es, kvs, h1, h2, h3, h4, h5, h6, n1, n2, n3⟩ => ⟨dx, ka, ow, pr, es, kvs, k _ _ h1 n1, t _ _ h2, k _ _ h3 n2, h4.tups t, k _ _ h5 n3, h6.tups t, n1, n2, n3⟩
theorem SigAt.same {N : Addr → Prop} {H H' : Hp} {C g : Addr} {ks : List Str} {ps : Prims} (s : Same H H') (h : SigAt N H C g ks ps) : SigAt N H' C g ks ps := h.keep (Same.keep s) (Tups.of s)
/-- what the top says of the class of signatures -/
structure SigC (K : PySem.W.Frag) (C : Addr) : Prop where
  cl : Cls K C
  nk : NoAttr K C "_kinds"
  no : NoAttr K C "_owners"
  np : NoAttr K C "_primitives"
/-- is the datum the name of a variant -/
def named (ps : Prims) : PyData → Option Row
  | .str n => (ownersOf ps).lookup n
  | _ => none
/-- the way out of a refusal: the class, the name kept -/
def Refused (CE : Addr) (v : V) (H : Hp) (E : XK) : Prop := ∀ d, H d = none → E (.ref CE) (some d) (upd H d (.xd [("name", v)]))
/-- what a def that refuses leans on: how its exception is made -/
structure MkE (P : Program) (w : World) (K : PySem.W.Frag) (mg : Str → Option Value) (base : Heap) (nm : Str) (CE fE : Addr) (qE : FuncData) (bm : List Value) (new : String) : Prop where
  x : ExC K CE bm new
  i : PySem.W.findIn K (.ref CE) "__init__" = some (some (.ref fE))
  t : PySem.W.typeIn K (.ref fE) = some (.type "function")
  F : FnOk P w K mg base CX0 2 fE qE ["self", "name"] (spIni K bm new "name")
  b : Binds K qE ["self", "name"] []
  g : mg nm = some (.ref CE)
  nf : PySem.W.findIn K (.ref CE) "name" = some none
/-- the reading of raise C(e) -/
theorem raised {K : PySem.W.Frag} {CE : Addr} {bm : List Value} {new : String} {N : Addr → Prop} {H : Hp} {v : V} {d : PyData} {W : XK} (x : ExC K CE bm new) (nf : PySem.W.findIn K (.ref CE) "name" = some none) (hv : Da N H v d) (ht : TellOk d) (q : Refused CE v H W) :
    ∀ a, H a = none → spIni K bm new "name" (.ref a :: ([v] ++ [])) (upd H a (exo a CE none)) (fun v' H2 => v' = .non ∧ ∃ (d' : Addr) (fs : List (Str × V)), H2 a = some (exo a CE (some d')) ∧ H2 d' = some (exd d' fs) ∧ H d' = none ∧ W (.ref CE) (some d') (upd (del H2 a) d' (.xd fs))) (fun _ _ _ => False) := by
  intro a na
  refine ⟨N, a, CE, v, d, rfl, upd_same, x, nf, hv.keep (Same.keep (same_new na)), ht, fun dx nd ne => ⟨rfl, dx, [("name", v)], upd_same, ?_, ?_, ?_⟩⟩
  · rw [upd_ne ne, upd_same]
  · rw [upd_ne ne] at nd
    exact nd
  · rw [drop_made na nd]
    refine q dx ?_
    rw [upd_ne ne] at nd
    exact nd
end K10
/-! K10, 4: lists or tuples; what is due; kinds checked, rows judged -/
namespace Ver
open PySem PySem.Spec PyProof.Rows L2
def Iteb (K : PySem.W.Frag) (b : Bool) (a : Addr) : It := if b = true then IteT K a else Ite K a
/-- a list or a tuple is walked: b tells which -/
def iSeqB (K : PySem.W.Frag) (b : Bool) (tl : TE) : TI := fun σ H R => tl σ H fun x H1 => ∃ a, x = .ref a ∧ (∃ xs, SqB K H1 b a xs) ∧ R (Itb K b a) H1
theorem pi_seqB {X : Cx} {tg l : Expr} {tl : TE} {b : Bool} (h : PE X l tl) : PI X tg l (iSeqB X.K b tl) := by
  cases b
  · exact pi_list h
  · exact pi_tup h
def iEnumB (K : PySem.W.Frag) (b : Bool) (ta : TA) : TI := fun σ H R => ta σ H fun vs H1 => ∃ a xs, vs = [.ref a] ∧ SqB K H1 b a xs ∧ R (Iteb K b a) H1
theorem pi_enumB {X : Cx} {e : Expr} {ta : TA} {b : Bool} {p pos tpos : Pos} {elts : List Expr} {kk : Nat} (hg : Gl X "enumerate") (hm : X.mg "enumerate" = none) (ha : PA X [e] ta) (hs : starEach [e] X.env = [(false, eval e X.env)] := by rfl) :
    PI X (.Tuple elts kk tpos) (.Call (.Name "enumerate" p) [e] [] pos) (iEnumB X.K b ta) := by
  cases b
  · exact pi_enum hg hm ha hs
  · exact pi_enumT hg hm ha hs
/-- a list or a tuple stands at a -/
def SqH (b : Bool) (H : Hp) (a : Addr) (xs : List V) : Prop := H a = some (if b = true then .tup xs else .lst xs)
theorem SqH.b {K : PySem.W.Frag} {b : Bool} {H : Hp} {a : Addr} {xs : List V} (h : SqH b H a xs) : SqB K H b a xs := by
  cases b
  · exact SqL.of h
  · exact SqT.of h
theorem SqH.orr {K : PySem.W.Frag} {b : Bool} {H : Hp} {a : Addr} {xs : List V} (h : SqH b H a xs) : SqL K H a xs ∨ SqT K H a xs := h.b.orr
theorem SqH.lt {b : Bool} {H : Hp} {a : Addr} {xs : List V} (h : SqH b H a xs) : H a = some (.lst xs) ∨ H a = some (.tup xs) := by
  cases b
  · exact .inl h
  · exact .inr h
theorem walk_enumS {K : PySem.W.Frag} {b : Bool} {a : Addr} {xs : List V} : Walk (Iteb K b a) xs.length (fun H => SqB K H b a xs) (YPair (fun i => some (.int (i : Nat))) (fun i => xs[i]?)) := by
  cases b
  · exact walk_enum
  · exact walk_enumT
/-- xs[lo:hi], a list or a tuple -/
def rSlS : V → Option Int → Option Int → Hp → VK → Prop := fun x lo hi H Q => ∃ b a xs, x = .ref a ∧ SqH b H a xs ∧ ∀ t H', Same H H' → SqH b H' t (cutV xs lo hi) → (b = false → H t = none) → Q (.ref t) H'
theorem sl_seqS {X : Cx} : SlR X rSlS := by
  intro pins s σ H x v vl vu lo hi sl Q I rx hs pl pu h
  obtain ⟨b, a, xs, rfl, hx, q⟩ := h
  cases b with
  | false => exact sl_list pins s σ H _ v vl vu lo hi sl Q I rx hs pl pu ⟨a, xs, rfl, SqL.of hx, fun p np => q p _ (same_new np) upd_same fun _ => np⟩
  | true =>
    refine sl_tupA pins s σ H _ v vl vu lo hi sl Q I rx hs pl pu ⟨a, xs, rfl, SqT.of hx, fun ⟨z1, z2⟩ => q a H (Same.refl H) ?_ (fun z => nomatch z), fun _ t n => q t _ (same_new n) upd_same fun _ => n⟩
    show H a = some (.tup (cutV xs lo hi))
    unfold cutV
    rw [z1, z2, Nat.sub_zero, List.drop_zero, List.take_length]
    exact hx
end Ver
namespace K10
open PySem PySem.Spec PyProof.Rows L2 Ver
abbrev sCheckKinds : Stmt := top 17
abbrev sOwners : Stmt := top 18
abbrev sKnown : Stmt := top 19
abbrev sAmbig : Stmt := top 20
abbrev sVFor : Stmt := top 21
/-! ### what is handed in -/
/-- what stands in the place of a variant's kinds: a tuple (or a list), and its texts -/
abbrev Own := Bool × List Str
abbrev BRow := Str × Own × Str
abbrev BPrims := List (Str × List BRow)
def knownB (ks : List Str) (w : Own) (r : Str) : Bool := w.1 && (decide (w.2.length = 1 ∨ w.2.length = 2) && (w.2.all (fun k => decide (k ∈ ks)) && (decide (r = "bit") || decide (r ∈ ks))))
/-- a refusal: which of the three classes, and the name -/
abbrev Due := Nat × Str
def rowBad (ks seen : List Str) (earlier : List Own) (r : BRow) : Option Due :=
  if wordS r.1 = false then some (0, r.1) else if r.1 ∈ seen then some (1, r.1) else if knownB ks r.2.1 r.2.2 = false ∨ r.2.1 ∈ earlier then some (2, r.1) else none
def rowsDue (ks : List Str) : List Str → List Own → List BRow → Option Due
  | _, _, [] => none
  | seen, earlier, r :: rs => match rowBad ks seen earlier r with
    | some e => some e
    | none => rowsDue ks (seen ++ [r.1]) (earlier ++ [r.2.1]) rs
def primsDue (ks : List Str) : List Str → BPrims → Option Due
  | _, [] => none
  | seen, p :: rest => if wordS p.1 = false then some (0, p.1) else match rowsDue ks seen [] p.2 with
    | some e => some e
    | none => primsDue ks (seen ++ p.2.map (·.1)) rest
def wordDue : List Str → Option Due
  | [] => none
  | k :: r => if kindD (.str k) = false then some (0, k) else wordDue r
def twiceDue : List Str → List Str → Option Due
  | _, [] => none
  | seen, k :: r => if k ∈ seen then some (1, k) else twiceDue (seen ++ [k]) r
def kindsDue (ks : List Str) : Option Due := match wordDue ks with
  | some e => some e
  | none => twiceDue [] ks
def dueOf (ks : List Str) (ps : BPrims) : Option Due := match kindsDue ks with
  | some e => some e
  | none => primsDue ks [] ps
/-- the way out -/
def RefusedD (CN CT CV : Addr) (e : Due) (H : Hp) (E : XK) : Prop := Refused (match e.1 with | 0 => CN | 1 => CT | _ => CV) (.str e.2) H E
def spCheckKinds (CN CT CV : Addr) : Sp := fun vs H Q E => ∃ (b : Bool) (a : Addr) (ks : List Str), vs = [.ref a] ∧ SqH b H a (ks.map V.str) ∧ (∀ k ∈ ks, TellOk (.str k)) ∧ ∀ H', Same H H' → match kindsDue ks with
  | none => Q .non H'
  | some e => RefusedD CN CT CV e H' E
def spKnown : Sp := fun vs H Q _ => ∃ (a o : Addr) (ks : List Str) (w : Own) (r : Str), vs = [.ref a, .ref o, .str r] ∧ H a = some (.tup (ks.map V.str)) ∧ SqH w.1 H o (w.2.map V.str) ∧ w.2.length ≤ 1000 ∧
  ∀ H', Same H H' → Q (.bl (knownB ks w r)) H'
def spAmbig : Sp := fun vs H Q _ => ∃ (d r : Addr) (kvs : List (Key × V)) (es : List (Str × Row)) (row : Row), vs = [.ref d, .ref r] ∧ H d = some (.dK kvs) ∧ Ents H kvs es ∧ RowAt H r row ∧ es.length ≤ 1000 ∧
  ∀ H', Same H H' → Q (.bl (es.any fun e => decide (e.2.1 = row.1) && decide (e.2.2.1 = row.2.1))) H'
section
variable {P : Program} {w : World} {K : PySem.W.Frag} {mg : Str → Option Value} {base : Heap} {CN CT CV : Addr}
theorem scCk : FnScope ["kinds", "kind", "number"] ["kinds"] (defScope sCheckKinds) := ⟨rfl, rfl, rfl, by decide +kernel, rfl, by decide +kernel, by decide +kernel⟩
theorem ok_checkKinds {f fK fN fT : Addr} {fd fdK qN qT : FuncData} (F : Fun K "check_kinds" "check_kinds" sCheckKinds f fd) (T : GlobS mg) (GK : FnOk P w K mg base CX0 2 fK fdK ["value"] (spAsk Short kindD)) (DK : Def K mg "is_kind_word" fK) (bK : Binds K fdK ["value"] [])
    (MN : MkE P w K mg base "BadName" CN fN qN bmV "ValueError.__new__") (MT : MkE P w K mg base "TwiceTold" CT fT qT bmV "ValueError.__new__") :
    FnOk P w K mg base (L2.CX P w) 4 f fd ["kinds"] (spCheckKinds CN CT CV) := by
  refine F.okX scCk (fun vs H Q E h => ?_) (fun cdv A outer s H vs Q E hr h => ?_)
  · obtain ⟨b, a, ks, rfl, _⟩ := h
    rfl
  · obtain ⟨b, a, ks, rfl, ha, tell, q⟩ := h
    have hr2 : Room 2 _ := hr.mono (by decide)
    refine ⟨_, pss_cons (ps_for (passes_of rfl) rfl (pi_seqB (b := b) (pv 0)) (pg_name (i := 1) scCk.nd rfl (.inl rfl))
        (pss_one (ps_if (pt_not (pt_val (pe_call GK hr2 (by rfl) DK.gl DK.kp bK .nil pass0 (pa_cons (pv 1) pa_nil)))) (pss_one (ps_raise rfl (takes_of rfl rfl rfl rfl) (pmk_x exB_VE MN.x MN.i MN.t MN.F hr MN.b .nil pass0 (by rfl) MN.g (pa_cons (pv 1) pa_nil)))) pss_nil)))
      (pss_one (ps_for (passes_of rfl) rfl (pi_enumB (b := b) (by rfl) T.enumerate (pa_cons (pv 0) pa_nil)) (pg_tup (by rfl) (pgs_cons (pg_name (i := 2) scCk.nd rfl (.inl rfl)) (pgs_cons (pg_name (i := 1) scCk.nd rfl (.inl rfl)) pgs_nil)))
        (pss_one (ps_if (pt_cmpR op_in_seq (pv 1) (pe_slice sl_seqS (pv 0) po_none (po_some (pv 2))) (by rfl)) (pss_one (ps_raise rfl (takes_of rfl rfl rfl rfl) (pmk_x exB_VE MT.x MT.i MT.t MT.F hr MT.b .nil pass0 (by rfl) MT.g (pa_cons (pv 1) pa_nil)))) pss_nil)))), ?_⟩
    have keepS : ∀ {H'}, Same H H' → SqH b H' a (ks.map V.str) := fun s => s _ _ ha
    refine ⟨_, rfl, a, rfl, ⟨_, ha.b⟩, for_it (walk_seq (K := K) (b := b) (a := a) (xs := ks.map V.str)) (fun i σ H2 => Same H H2 ∧ wordDue (ks.drop i) = wordDue ks ∧ ∃ v1, σ = [some (.ref a), v1, none]) ⟨Same.refl H, rfl, _, rfl⟩ (fun i σ H2 _ ⟨sm, _⟩ => (keepS sm).b) ?_ ?_⟩
    · rintro i x σ H2 H3 hi ⟨sm, wd, v1, rfl⟩ ⟨rfl, hx⟩
      rw [List.getElem?_map] at hx
      obtain ⟨k, hk, rfl⟩ := Option.map_eq_some_iff.mp hx
      have tk := tell k (List.mem_of_getElem? hk)
      obtain ⟨hi1, hi2⟩ := List.getElem?_eq_some_iff.mp hk
      rw [List.drop_eq_getElem_cons hi1, hi2] at wd
      refine ⟨_, rfl, fun _ => False, .str k, .str k, rfl, .str k, tk.1, fun H4 s4 => ⟨_, rfl, ?_⟩⟩
      have s24 := sm.trans s4
      cases hkd : kindD (.str k) with
      | true =>
        refine ⟨s24, ?_, _, rfl⟩
        rw [← wd]
        show _ = (if kindD (.str k) = false then some (0, k) else wordDue (ks.drop (i + 1)))
        rw [hkd]
        rfl
      | false =>
        have due : kindsDue ks = some (0, k) := by
          unfold kindsDue
          rw [← wd]
          show (match (if kindD (.str k) = false then some ((0, k) : Due) else wordDue (ks.drop (i + 1))) with | some e => some e | none => twiceDue [] ks) = _
          rw [hkd]
          rfl
        have q' := q H4 s24
        rw [due] at q'
        exact ⟨.str k, rfl, by show 1 ≤ 1000; decide, raised (N := fun _ => False) MN.x MN.nf (.str k) tk q'⟩
    · rintro σ H2 ⟨sm, wd, v1, rfl⟩
      rw [List.length_map, List.drop_length] at wd
      have due0 : kindsDue ks = twiceDue [] ks := by
        unfold kindsDue
        rw [← wd]
        rfl
      refine ⟨_, rfl, a, _, rfl, (keepS sm).b, for_it (walk_enumS (K := K) (b := b) (a := a) (xs := ks.map V.str)) (fun i σ H3 => Same H H3 ∧ twiceDue (ks.take i) (ks.drop i) = twiceDue [] ks ∧ ∃ v1 v2, σ = [some (.ref a), v1, v2]) ⟨sm, rfl, _, _, rfl⟩ (fun i σ H3 _ ⟨s3, _⟩ => (keepS s3).b) ?_ ?_⟩
      · rintro i x σ H3 H4 hi ⟨s3, td, v1, v2, rfl⟩ ⟨T', x1, x2, rfl, nT, rfl, e1, e2⟩
        have e2' : (ks.map V.str)[i]? = some x2 := e2
        rw [List.getElem?_map] at e2'
        obtain ⟨k, hk, rfl⟩ := Option.map_eq_some_iff.mp e2'
        obtain rfl : V.int (i : Nat) = x1 := Option.some.inj e1
        have tk := tell k (List.mem_of_getElem? hk)
        have s4 : Same H (upd H3 T' (.tup [.int (i : Nat), .str k])) := s3.trans (same_new nT)
        obtain ⟨hi1, hi2⟩ := List.getElem?_eq_some_iff.mp hk
        rw [List.drop_eq_getElem_cons hi1, hi2] at td
        refine ⟨T', _, rfl, SqT.of upd_same, rfl, _, _, rfl, _, _, rfl, rfl, _, rfl, _, rfl, _, rfl, ((i : Nat) : Int), rfl, b, a, _, rfl, keepS s4, fun p H5 s5 hp _ => ?_⟩
        rw [cut_take (by rw [List.length_map]; omega), ← List.map_take] at hp
        refine ⟨p, (ks.take i).map V.str, rfl, hp.orr, rfl, flat_strs _, _, rfl, ?_⟩
        rw [show (if false = true then !inV (.str k) ((ks.take i).map V.str) else inV (.str k) ((ks.take i).map V.str)) = decide (k ∈ ks.take i) from inV_strs _ _]
        have s45 := s4.trans s5
        refine ite2 (fun hb => ?_) (fun hb => ?_)
        · have hm : k ∈ ks.take i := of_decide_eq_true hb
          have due : kindsDue ks = some (1, k) := by
            rw [due0, ← td]
            show (if k ∈ ks.take i then some ((1, k) : Due) else _) = _
            rw [if_pos hm]
          have q' := q H5 s45
          rw [due] at q'
          exact ⟨.str k, rfl, by show 1 ≤ 1000; decide, raised (N := fun _ => False) MT.x MT.nf (.str k) tk q'⟩
        · have hm : ¬ k ∈ ks.take i := fun z => hb (decide_eq_true z)
          refine ⟨s45, ?_, _, _, rfl⟩
          rw [← td]
          show _ = (if k ∈ ks.take i then some ((1, k) : Due) else twiceDue (ks.take i ++ [k]) (ks.drop (i + 1)))
          rw [if_neg hm, List.take_add_one, hk]
          rfl
      · rintro σ H3 ⟨s3, td, v1, v2, rfl⟩
        rw [List.length_map, List.drop_length] at td
        have q' := q H3 s3
        rw [due0, ← td] at q'
        exact q'
theorem scKn : FnScope ["kinds", "wanted", "result", "kind"] ["kinds", "wanted", "result"] (defScope sKnown) := ⟨rfl, rfl, rfl, by decide +kernel, rfl, by decide +kernel, by decide +kernel⟩
theorem ok_known {f : Addr} {fd : FuncData} (F : Fun K "are_known" "are_known" sKnown f fd) (T : GlobS mg) : FnOk P w K mg base CX0 1 f fd ["kinds", "wanted", "result"] spKnown := by
  refine F.ok scKn (fun vs H Q E h => ?_) (fun cdv A outer s H vs Q E hr h => ?_)
  · obtain ⟨a, o, ks, w', r, rfl, _⟩ := h
    rfl
  · obtain ⟨a, o, ks, ⟨wt, ws⟩, r, rfl, ha, ho, hl, q⟩ := h
    refine ⟨_, pss_cons (ps_if (PW.pt (pw_or (pt_not (pt_val (pe_callB call_isi (by rfl) T.isinstance (by decide +kernel) (pa_cons (pv 1) (pa_cons (pe_bltn (v := .ty "tuple") (by rfl) T.tuple (by decide +kernel) rfl) pa_nil)))))
        (pw_or1 (pt_cmpR op_notIn_seq (pe_callB (r := rLen K) call_len_seq (by rfl) T.len PySem.boot_len (pa_cons (pv 1) pa_nil)) (pe_tup (pa_cons pe_int (pa_cons pe_int pa_nil))) (by rfl))))) (pss_one (ps_ret pe_bl)) pss_nil)
      (pss_one (ps_ret (pe_and (pe_callB (cr_all rfl) (by rfl) T.all (by decide +kernel) (pa_cons (pe_lc (own := [("kind", 3)]) (g := gName 3) (tt := tYes) rfl scKn.nd (pi_tup (pv 1))
          (blkOk_by (N := ["kinds", "wanted", "result", "kind"]) (sc := defScope sKnown) (by decide +kernel)) (fun _ _ _ _ _ => pg_name (i := 3) scKn.nd rfl (.inl rfl)) (fun _ _ _ _ _ => pts_nil)
          (fun _ _ _ _ _ => pe_cmpR (r := rIn K false) op_in_seq (pv 3) (pv 0) (by rfl))) pa_nil))
        (pe_one (pe_or (pe_cmpR op_eq (pv 2) pe_str (nomark _)) (pe_one (pe_cmpR op_in_seq (pv 2) (pv 0) (by rfl)))))))), ?_⟩
    cases wt with
    | false =>
      have ho' : H o = some (.lst (ws.map V.str)) := ho
      exact ⟨_, rfl, .ref o, .ty "tuple", _, _, false, rfl, .ty _, .base (.lst ho'), kit_ty (by decide +kernel), _, rfl, q H (Same.refl H)⟩
    | true =>
    have ho : H o = some (.tup (ws.map V.str)) := ho
    refine ⟨_, rfl, .ref o, .ty "tuple", _, _, true, rfl, .ty _, .base (.tup ho), kit_ty (by decide +kernel), _, rfl, _, rfl, o, _, rfl, .inr (SqT.of ho), by show 2 ≤ sizeLine; decide, fun t nt => ?_⟩
    obtain ⟨H1, z, s1, e1⟩ := fresh nt (.tup [.int 1, .int 2])
    rw [z]
    clear z
    have il : inV (.int (ws.map V.str).length) [.int 1, .int 2] = decide (ws.length = 1 ∨ ws.length = 2) := by
      rw [List.length_map]
      show (((1 : Int) == (ws.length : Int)) || (((2 : Int) == (ws.length : Int)) || false)) = _
      rw [Bool.eq_iff_iff]
      simp only [Bool.or_eq_true, beq_iff_eq, Bool.or_false, decide_eq_true_eq]
      omega
    refine ⟨t, _, rfl, .inr (SqT.of e1), rfl, rfl, _, rfl, ?_⟩
    rw [show (if true = true then !inV (.int (ws.map V.str).length) [.int 1, .int 2] else inV (.int (ws.map V.str).length) [.int 1, .int 2]) = !decide (ws.length = 1 ∨ ws.length = 2) by rw [il]; rfl]
    by_cases hw : ws.length = 1 ∨ ws.length = 2
    case neg =>
      have kb : knownB ks (true, ws) r = false := by
        unfold knownB
        rw [decide_eq_false hw]
        rfl
      have q' := q H1 s1
      rw [kb] at q'
      rw [decide_eq_false hw]
      exact q'
    have kb : knownB ks (true, ws) r = (ws.all (fun k => decide (k ∈ ks)) && (decide (r = "bit") || decide (r ∈ ks))) := by
      unfold knownB
      rw [decide_eq_true hw]
      rfl
    rw [kb] at q
    rw [decide_eq_true hw]
    refine ⟨_, rfl, o, rfl, ⟨_, SqT.of (s1 _ _ ho)⟩, fun D nD => lc_it (walk_tup (K := K) (a := o) (xs := ws.map V.str)) (fun i H2 => Same H1 H2 ∧ H2 D = some (.lst (((ws.take i).map fun k => decide (k ∈ ks)).map V.bl))) ⟨same_new nD, upd_same⟩ (fun i H2 _ ⟨sm, _⟩ => SqT.of (sm _ _ (s1 _ _ ho))) ?_ ?_⟩
    · rintro i x H2 H3 hi ⟨sm, eD⟩ ⟨rfl, hx⟩
      rw [List.getElem?_map] at hx
      obtain ⟨k, hk, rfl⟩ := Option.map_eq_some_iff.mp hx
      have hi' : i < ws.length := by rwa [List.length_map] at hi
      refine ⟨rfl, _, rfl, _, rfl, a, _, rfl, .inr (SqT.of (sm _ _ (s1 _ _ ha))), rfl, flat_strs _, _, eD, by rw [List.length_map, List.length_map, List.length_take]; exact small1000 (by omega), fun b ob e => by rw [upd_ne (ne_of_none e nD)]; exact sm b ob e, ?_⟩
      rw [upd_same, show (if false = true then !inV (.str k) (ks.map V.str) else inV (.str k) (ks.map V.str)) = decide (k ∈ ks) from inV_strs _ _, List.take_add_one, hk, List.map_append, List.map_append]
      rfl
    · rintro H2 ⟨sm, eD⟩
      rw [List.length_map, List.take_length] at eD
      refine ⟨D, ws.map fun k => decide (k ∈ ks), rfl, SqL.of eD, ?_⟩
      rw [show (ws.map fun k => decide (k ∈ ks)).all id = ws.all fun k => decide (k ∈ ks) by rw [List.all_map]; rfl]
      have S2 := s1.trans sm
      have q' := q H2 S2
      cases hall : ws.all fun k => decide (k ∈ ks) with
      | false =>
        rw [hall] at q'
        exact ⟨_, rfl, q'⟩
      | true =>
        rw [hall] at q'
        refine ⟨_, rfl, _, rfl, rfl, _, rfl, ?_⟩
        by_cases hb : r = "bit"
        · subst hb
          rw [show (true && (decide (("bit" : Str) = "bit") || decide (("bit" : Str) ∈ ks))) = true by simp] at q'
          exact ite2 (fun _ => q') (fun z => absurd (by simp) z)
        · refine ite2 (fun z => absurd (by simpa using z) hb) (fun _ => ?_)
          rw [decide_eq_false hb, Bool.true_and, Bool.false_or] at q'
          refine ⟨_, rfl, _, rfl, a, _, rfl, .inr (SqT.of (S2 _ _ ha)), rfl, flat_strs _, ?_⟩
          rw [show (if false = true then !inV (.str r) (ks.map V.str) else inV (.str r) (ks.map V.str)) = decide (r ∈ ks) from inV_strs _ _]
          exact q'
end
end K10
/-! K10, 5: the owners, or the first refusal -/
namespace Ver
open PySem PySem.Spec PyProof.Rows L2
/-- a block that is left for good: what was locked at d is unlocked ahead of it -/
theorem pss_unlock {X : Cx} {st : List Stmt} {t : TS} {d : Addr} (h : PSs X st t) (hn : ∀ o u, X.H_0 d ≠ some (.frz o u)) : PSs X st (fun D σ H => ∃ od u, H d = some (.frz od u) ∧ t D σ (upd H d u)) :=
  ⟨fun pins s σ H D I ⟨_, u, e, q⟩ => h.run pins s σ (upd H d u) D (I.unlock e hn) q⟩
end Ver
namespace K10
open PySem PySem.Spec PyProof.Rows L2 Ver
/-- the rows as right ones would be -/
def unR (r : BRow) : Row := (r.1, r.2.1.2, r.2.2)
def unP (ps : BPrims) : Prims := ps.map fun p => (p.1, p.2.map unR)
def BRowAt (H : Hp) (r : Addr) (row : BRow) : Prop := ∃ o, H r = some (.tup [.str row.1, .ref o, .str row.2.2]) ∧ SqH row.2.1.1 H o (row.2.1.2.map V.str)
abbrev BRowsAt (H : Hp) (rs : List Addr) (rows : List BRow) : Prop := Paired (BRowAt H) rs rows
theorem SqH.std {b : Bool} {H H' : Hp} {a : Addr} {xs : List V} (k : Std H H') (h : SqH b H a xs) : SqH b H' a xs := by
  cases b
  · exact k.l _ _ h
  · exact k.t _ _ h
theorem BRowAt.std {H H' : Hp} (k : Std H H') {r : Addr} {row : BRow} : BRowAt H r row → BRowAt H' r row := fun ⟨o, h1, h2⟩ => ⟨o, k.t _ _ h1, SqH.std k h2⟩
theorem BRowsAt.std {H H' : Hp} (k : Std H H') : ∀ {rs : List Addr} {rows : List BRow}, BRowsAt H rs rows → BRowsAt H' rs rows
  | _, _, .nil => .nil
  | _, _, .cons h t => .cons (h.std k) (BRowsAt.std k t)
def BPEnt (b : Bool) (H : Hp) (kv : Key × V) (e : Str × List BRow) : Prop := kv.1 = .inr e.1 ∧ ∃ l as, kv.2 = .ref l ∧ SqH b H l (as.map V.ref) ∧ BRowsAt H as e.2
abbrev BPEnts (b : Bool) (H : Hp) (kvs : List (Key × V)) (ps : BPrims) : Prop := Paired (BPEnt b H) kvs ps
theorem BPEnts.std {b : Bool} {H H' : Hp} (k : Std H H') : ∀ {kvs : List (Key × V)} {ps : BPrims}, BPEnts b H kvs ps → BPEnts b H' kvs ps
  | _, _, .nil => .nil
  | _, _, .cons ⟨h1, l, as, h2, h3, h4⟩ t => .cons ⟨h1, l, as, h2, SqH.std k h3, h4.std k⟩ (BPEnts.std k t)
theorem bpents_keys {b : Bool} {H : Hp} : ∀ {kvs : List (Key × V)} {ps : BPrims}, BPEnts b H kvs ps → kvs.map (·.1) = ps.map fun p => (.inr p.1 : Key)
  | _, _, .nil => rfl
  | kv :: kvs, p :: ps, .cons ⟨h, _⟩ t => by
    rw [List.map_cons, List.map_cons, h, bpents_keys t]
/-- names that can be told; not too many -/
structure Tells (ps : BPrims) : Prop where
  nod : (ps.map Prod.fst).Nodup
  name : ∀ p ∈ ps, TellOk (.str p.1)
  rows : ∀ p ∈ ps, ∀ r ∈ p.2, TellOk (.str r.1) ∧ r.2.1.2.length ≤ 1000
  few : (ownersOf (unP ps)).length ≤ 900
  fewP : ps.length ≤ 100
def inner (p : Str × List BRow) (rows : List BRow) : List (Str × Row) := rows.map fun r => (r.1, (p.1, r.2.1.2, r.2.2))
theorem unP_take (ps : BPrims) (i : Nat) : unP (ps.take i) = (unP ps).take i := by
  unfold unP
  rw [List.map_take]
theorem own_next {ps : BPrims} {i : Nat} {p : Str × List BRow} (e : ps[i]? = some p) : ownersOf (unP (ps.take (i + 1))) = ownersOf (unP (ps.take i)) ++ inner p p.2 := by
  have e' : (unP ps)[i]? = some (p.1, p.2.map unR) := by
    unfold unP
    rw [List.getElem?_map, e]
    rfl
  rw [unP_take, unP_take, owners_take e']
  unfold inner
  rw [List.map_map]
  rfl
theorem own_le {ps : BPrims} {i : Nat} {p : Str × List BRow} (e : ps[i]? = some p) (j : Nat) : (ownersOf (unP (ps.take i)) ++ inner p (p.2.take j)).length ≤ (ownersOf (unP ps)).length := by
  have e' : (unP ps)[i]? = some (p.1, p.2.map unR) := by
    unfold unP
    rw [List.getElem?_map, e]
    rfl
  rw [owners_split e', ← unP_take]
  unfold inner
  simp only [List.length_append, List.length_map, List.length_take]
  omega
theorem Ents.has {H : Hp} {n : Str} {kvs : List (Key × V)} {es : List (Str × Row)} (h : Ents H kvs es) : (valV kvs (Sum.inr n : Key)).isSome = decide (n ∈ es.map Prod.fst) := by
  by_cases hm : n ∈ es.map Prod.fst
  · rw [decide_eq_true hm]
    have : ∃ row, es.lookup n = Option.some row := by
      cases el : es.lookup n with
      | some row => exact ⟨row, rfl⟩
      | none =>
        obtain ⟨e, he, e1⟩ := List.mem_map.mp hm
        have := List.lookup_eq_none_iff.mp el e he
        simp [e1] at this
    obtain ⟨row, el⟩ := this
    obtain ⟨a, hv, _⟩ := h.some el
    rw [hv]
    rfl
  · rw [decide_eq_false hm, h.none hm]
    rfl
/-- an earlier variant of the same primitive -/
theorem any_earlier {ps : BPrims} {i : Nat} {p : Str × List BRow} (nod : (ps.map Prod.fst).Nodup) (e : ps[i]? = some p) {l : List BRow} (tl : ∀ r ∈ l, r.2.1.1 = true) {w : Own} (hw : w.1 = true) :
    ((ownersOf (unP (ps.take i)) ++ inner p l).any fun e => decide (e.2.1 = p.1) && decide (e.2.2.1 = w.2)) = decide (w ∈ l.map (·.2.1)) := by
  rw [Bool.eq_iff_iff, List.any_eq_true, decide_eq_true_eq]
  constructor
  · rintro ⟨en, hm, h⟩
    rw [Bool.and_eq_true, decide_eq_true_eq, decide_eq_true_eq] at h
    rcases List.mem_append.mp hm with hm | hm
    · exfalso
      obtain ⟨p', hp', hm⟩ := List.mem_flatMap.mp hm
      obtain ⟨q, hq, rfl⟩ := List.mem_map.mp hp'
      obtain ⟨r', _, rfl⟩ := List.mem_map.mp hm
      have hp1 : q.1 = p.1 := h.1
      obtain ⟨k, hk, ek⟩ := List.getElem_of_mem hq
      rw [List.length_take] at hk
      rw [List.getElem_take] at ek
      obtain ⟨hi1, hi2⟩ := List.getElem?_eq_some_iff.mp e
      have a1 : (ps.map Prod.fst)[k]'(by rw [List.length_map]; omega) = q.1 := by rw [List.getElem_map, ek]
      have a2 : (ps.map Prod.fst)[i]'(by rw [List.length_map]; omega) = p.1 := by rw [List.getElem_map, hi2]
      have := (List.getElem_inj nod).mp (a1.trans (hp1.trans a2.symm))
      omega
    · obtain ⟨r, hr, rfl⟩ := List.mem_map.mp hm
      refine List.mem_map.mpr ⟨r, hr, ?_⟩
      have h1 := tl r hr
      have h2 : r.2.1.2 = w.2 := h.2
      exact Prod.ext (h1.trans hw.symm) h2
  · intro hm
    obtain ⟨r, hr, rfl⟩ := List.mem_map.mp hm
    exact ⟨_, List.mem_append_right _ (List.mem_map.mpr ⟨r, hr, rfl⟩), by simp⟩
def spOwners (CN CT CV : Addr) : Sp := fun vs H Q E => ∃ (b : Bool) (a d : Addr) (ks : List Str) (kvs : List (Key × V)) (ps : BPrims), vs = [.ref a, .ref d] ∧ H a = some (.tup (ks.map V.str)) ∧ H d = some (.dK kvs) ∧ BPEnts b H kvs ps ∧ Tells ps ∧
  match primsDue ks [] ps with
  | none => ∀ ow H' es, Same H H' → H ow = none → H' ow = some (.dK es) → Ents H' es (ownersOf (unP ps)) → Q (.ref ow) H'
  | some e => ∀ H', Same H H' → RefusedD CN CT CV e H' E
abbrev nOwn : List Str := ["kinds", "primitives", "owners", "primitive", "name", "wanted", "result", "row"]
section
variable {P : Program} {w : World} {K : PySem.W.Frag} {mg : Str → Option Value} {base : Heap} {CN CT CV : Addr}
theorem scAm : FnScope ["owners", "row", "earlier"] ["owners", "row"] (defScope sAmbig) := ⟨rfl, rfl, rfl, by decide +kernel, rfl, by decide +kernel, by decide +kernel⟩
theorem ok_ambig {f : Addr} {fd : FuncData} (F : Fun K "is_ambiguous" "is_ambiguous" sAmbig f fd) (T : GlobS mg) : FnOk P w K mg base CX0 1 f fd ["owners", "row"] spAmbig := by
  refine F.ok scAm (fun vs H Q E h => ?_) (fun cdv A outer s H vs Q E hr h => ?_)
  · obtain ⟨d, r, kvs, es, row, rfl, _⟩ := h
    rfl
  · obtain ⟨d, r, kvs, es, row, rfl, hd, he, hrow, few, q⟩ := h
    refine ⟨_, pss_one (ps_ret (pe_callB (cr_any rfl) (by rfl) T.any (by decide +kernel) (pa_cons (pe_lock (pe_lc (own := [("earlier", 2)]) (g := gName 2) (tt := tYes) rfl scAm.nd (pi_values (pv 0))
        (blkOk_by (N := ["owners", "row", "earlier"]) (sc := defScope sAmbig) (by decide +kernel)) (fun _ _ _ _ _ => pg_name (i := 2) scAm.nd rfl (.inl rfl)) (fun _ _ _ _ _ => pts_nil)
        (fun _ _ _ _ _ => pe_cmpR (r := rEqP K) (op_eqP hr.units) (pe_slice (r := rSlT K) sl_tup (pv 2) po_none (po_some pe_int)) (pe_slice (r := rSlT K) sl_tup (pv 1) po_none (po_some pe_int)) (nomark _)))) pa_nil))), ?_⟩
    refine ⟨d, _, hd, trivial, fun od => ?_⟩
    have lk : Tups H (upd H d (.frz od (.dK kvs))) := Tups.lock hd fun xs z => nomatch z
    generalize hH0 : upd H d (.frz od (.dK kvs)) = H0 at lk
    have d0 : H0 d = some (.frz od (.dK kvs)) := by rw [← hH0]; exact upd_same
    have he0 := he.tups lk
    have hrow0 := hrow.tups lk
    have spl : kvs.length = es.length := Paired.length he
    refine ⟨_, rfl, d, od, kvs, rfl, d0, fun D nD => lc_it (walk_values (d := d) (o := od) (kvs := kvs)) (fun i H2 => Same H0 H2 ∧ H2 D = some (.lst (((es.take i).map fun e => decide (e.2.1 = row.1) && decide (e.2.2.1 = row.2.1)).map V.bl))) ⟨same_new nD, upd_same⟩ (fun i H2 _ ⟨sm, _⟩ => sm _ _ d0) ?_ ?_⟩
    · rintro i x H2 H3 hi ⟨sm, eD⟩ ⟨rfl, k, hk⟩
      obtain ⟨e, ee, h1, a, rfl, o1, t1, t2⟩ := Paired.at he0 hk
      obtain ⟨o2, t3, t4⟩ := hrow0
      have hi' : i < 1000 := by
        have : i < es.length := (List.getElem?_eq_some_iff.mp ee).1
        omega
      refine ⟨rfl, _, rfl, 2, rfl, a, _, rfl, SqT.of (sm _ _ t1), nw3, fun p np => ?_⟩
      obtain ⟨H4, z, s4, e4⟩ := fresh np (.tup [.str e.2.1, .ref o1])
      erw [z]
      clear z
      refine ⟨_, rfl, 2, rfl, r, _, rfl, SqT.of (s4 _ _ (sm _ _ t3)), nw3, fun p' np' => ?_⟩
      obtain ⟨H5, z, s5, e5⟩ := fresh np' (.tup [.str row.1, .ref o2])
      erw [z]
      clear z
      have s35 := s4.trans s5
      have q1 : Dp K H5 (.ref p) (.tuple [.str e.2.1, txtsD e.2.2.1]) := .tup (SqT.of (s5 _ _ e4)) (.cons (.str _) (.cons (dp_tupS (s35 _ _ (sm _ _ t2))) .nil))
      have q2 : Dp K H5 (.ref p') (.tuple [.str row.1, txtsD row.2.1]) := .tup (SqT.of e5) (.cons (.str _) (.cons (dp_tupS (s35 _ _ (sm _ _ t4))) .nil))
      have dz : (PyData.tuple [.str e.2.1, txtsD e.2.2.1]).depth ≤ 60 := by
        show max (PyData.depth (.str e.2.1)) (max (PyData.depthAll (e.2.2.1.map .str) + 1) 0) + 1 ≤ 60
        rw [depth_strs]
        show max 0 (max (0 + 1) 0) + 1 ≤ 60
        decide
      have ev : PyData.eqv (.tuple [.str e.2.1, txtsD e.2.2.1]) (.tuple [.str row.1, txtsD row.2.1]) = (decide (e.2.1 = row.1) && decide (e.2.2.1 = row.2.1)) := by
        show ((e.2.1 == row.1) && (PyData.eqv (txtsD e.2.2.1) (txtsD row.2.1) && true)) = _
        rw [eqv_txts, Bool.and_true]
        congr 1
      refine ⟨_, _, q1, q2, dz, _, s35 _ _ eD, by rw [List.length_map, List.length_map, List.length_take]; exact small1000 (by omega), fun b ob e => ?_, ?_⟩
      · have e3 := s35 _ _ (sm _ _ e)
        rw [upd_ne (ne_of_none e nD)]
        exact e3
      · rw [upd_same, ev, List.take_add_one, ee, List.map_append, List.map_append]
        rfl
    · rintro H2 ⟨sm, eD⟩
      refine ⟨sm _ _ d0, ?_⟩
      rw [spl, List.take_length] at eD
      have hD : upd H2 d (.dK kvs) D = some (.lst ((es.map fun e => decide (e.2.1 = row.1) && decide (e.2.2.1 = row.2.1)).map V.bl)) := by
        rw [upd_ne (ne_of_none d0 nD).symm]
        exact eD
      refine ⟨D, _, rfl, SqL.of hD, ?_⟩
      rw [show (es.map fun e => decide (e.2.1 = row.1) && decide (e.2.2.1 = row.2.1)).any id = es.any (fun e => decide (e.2.1 = row.1) && decide (e.2.2.1 = row.2.1)) by rw [List.any_map]; rfl]
      refine q _ fun b o e => ?_
      by_cases hb : b = d
      · subst hb
        rw [hd] at e
        cases e
        exact upd_same
      · rw [upd_ne hb]
        refine sm _ _ ?_
        rw [← hH0, upd_ne hb]
        exact e
theorem scOw : FnScope nOwn ["kinds", "primitives"] (defScope sOwners) := ⟨rfl, rfl, rfl, by decide +kernel, rfl, by decide +kernel, by decide +kernel⟩
theorem ok_owners {f fW fN fA gN gT gV : Addr} {fd fdW fdN fdA qN qT qV : FuncData} (F : Fun K "owners_of" "owners_of" sOwners f fd) (GW : FnOk P w K mg base CX0 1 fW fdW ["value"] (spAsk Short wordD)) (DW : Def K mg "is_word" fW) (bW : Binds K fdW ["value"] [])
    (GN : FnOk P w K mg base CX0 1 fN fdN ["kinds", "wanted", "result"] spKnown) (DN : Def K mg "are_known" fN) (bN : Binds K fdN ["kinds", "wanted", "result"] [])
    (GA : FnOk P w K mg base CX0 1 fA fdA ["owners", "row"] spAmbig) (DA : Def K mg "is_ambiguous" fA) (bA : Binds K fdA ["owners", "row"] [])
    (MN : MkE P w K mg base "BadName" CN gN qN bmV "ValueError.__new__") (MT : MkE P w K mg base "TwiceTold" CT gT qT bmV "ValueError.__new__") (MV : MkE P w K mg base "BadVariant" CV gV qV bmV "ValueError.__new__") :
    FnOk P w K mg base (L2.CX P w) 4 f fd ["kinds", "primitives"] (spOwners CN CT CV) := by
  refine F.okX scOw (fun vs H Q E h => ?_) (fun cdv A outer s H vs Q E hr h => ?_)
  · obtain ⟨b, a, d, ks, kvs, ps, rfl, _⟩ := h
    rfl
  · obtain ⟨b, a, d, ks, kvs, ps, rfl, ha, hd, hp, tells, q⟩ := h
    have hu := hu_of hr
    have hr1 : Room 1 _ := hr.mono (by decide)
    have hn : ∀ o u, H d ≠ some (.frz o u) := fun o u z => by
      rw [hd] at z
      cases z
    refine ⟨_, pss_cons (ps_set (i := 2) scOw.nd rfl (.inl rfl) pe_dnewK)
      (pss_cons (ps_lock (ps_for (passes_of rfl) rfl (pi_keys (pv 1)) (pg_name (i := 3) scOw.nd rfl (.inl rfl))
        (pss_cons (ps_if (pt_not (pt_val (pe_call GW hr1 (by rfl) DW.gl DW.kp bW .nil pass0 (pa_cons (pv 3) pa_nil)))) (pss_unlock (d := d) (pss_one (ps_raise rfl (takes_of rfl rfl rfl rfl) (pmk_x exB_VE MN.x MN.i MN.t MN.F hr MN.b .nil pass0 (by rfl) MN.g (pa_cons (pv 3) pa_nil)))) hn) pss_nil)
        (pss_one (ps_for (passes_of rfl) rfl (pi_seqB (b := b) (pe_dget hu (pv 1) (pv 3) (fun _ _ => rfl))) (pg_tup (by rfl) (pgs_cons (pg_name (i := 4) scOw.nd rfl (.inl rfl)) (pgs_cons (pg_name (i := 5) scOw.nd rfl (.inl rfl)) (pgs_cons (pg_name (i := 6) scOw.nd rfl (.inl rfl)) pgs_nil))))
          (pss_cons (ps_if (pt_not (pt_val (pe_call GW hr1 (by rfl) DW.gl DW.kp bW .nil pass0 (pa_cons (pv 4) pa_nil)))) (pss_unlock (d := d) (pss_one (ps_raise rfl (takes_of rfl rfl rfl rfl) (pmk_x exB_VE MN.x MN.i MN.t MN.F hr MN.b .nil pass0 (by rfl) MN.g (pa_cons (pv 4) pa_nil)))) hn) pss_nil)
          (pss_cons (ps_if (pt_cmp (pc_din hu (pv 4) (pv 2))) (pss_unlock (d := d) (pss_one (ps_raise rfl (takes_of rfl rfl rfl rfl) (pmk_x exB_VE MT.x MT.i MT.t MT.F hr MT.b .nil pass0 (by rfl) MT.g (pa_cons (pv 4) pa_nil)))) hn) pss_nil)
          (pss_cons (ps_set (i := 7) scOw.nd rfl (.inl rfl) (pe_tup (pa_cons (pv 3) (pa_cons (pv 5) (pa_cons (pv 6) pa_nil)))))
          (pss_cons (ps_if (PW.pt (pw_or (pt_not (pt_val (pe_call GN hr1 (by rfl) DN.gl DN.kp bN .nil pass0 (pa_cons (pv 0) (pa_cons (pv 5) (pa_cons (pv 6) pa_nil))))))
              (pw_or1 (pt_val (pe_call GA hr1 (by rfl) DA.gl DA.kp bA .nil pass0 (pa_cons (pv 2) (pa_cons (pv 7) pa_nil))))))) (pss_unlock (d := d) (pss_one (ps_raise rfl (takes_of rfl rfl rfl rfl) (pmk_x exB_VE MV.x MV.i MV.t MV.F hr MV.b .nil pass0 (by rfl) MV.g (pa_cons (pv 4) pa_nil)))) hn) pss_nil)
          (pss_one (ps_dput hu (pv 2) (pv 4) (pv 7) rfl)))))))))))
      (pss_one (ps_ret (pv 2)))), ?_⟩
    refine fun ow now => ?_
    obtain ⟨H1, z, s1, e1⟩ := fresh now (.dK [])
    rw [z]
    clear z
    have dow : d ≠ ow := ne_of_none hd now
    have hd1 := s1 _ _ hd
    refine ⟨d, _, hd1, trivial, fun od => ?_⟩
    have k0 : Keep (· = d) H1 (upd H1 d (.frz od (.dK kvs))) := keep_upd
    generalize hH0 : upd H1 d (.frz od (.dK kvs)) = H0 at k0
    have d0 : H0 d = some (.frz od (.dK kvs)) := by rw [← hH0]; exact upd_same
    have st0 : Std H H0 := (Std.of s1).trans (Std.but k0 hd1 (fun _ z => nomatch z) fun _ z => nomatch z)
    have ow0 : H0 ow = some (.dK []) := k0 _ _ e1 dow.symm
    have hp0 := hp.std st0
    have ha0 := st0.t _ _ ha
    have nodK : (kvs.map (·.1)).Nodup := by
      have e := bpents_keys hp
      rw [e]
      have := nod_inr tells.nod
      rwa [List.map_map] at this
    have spl : kvs.length = ps.length := Paired.length hp
    -- behind the lock
    have behind : ∀ {H2 : Hp}, Keep (· = ow) H0 H2 → Same H (upd H2 d (.dK kvs)) := fun {H2} k2 c o e => by
      by_cases hb : c = d
      · subst hb
        rw [hd] at e
        cases e
        exact upd_same
      · rw [upd_ne hb]
        refine k2 _ _ ?_ (ne_of_none e now)
        rw [← hH0, upd_ne hb]
        exact s1 _ _ e
    refine ⟨_, rfl, d, od, rfl, .inl ⟨kvs, d0, for_it (walk_keys (d := d) (o := od) (kvs := kvs)) (fun i σ H2 => ∃ es v3 v4 v5 v6 v7, σ = [some (.ref a), some (.ref d), some (.ref ow), v3, v4, v5, v6, v7] ∧ Keep (· = ow) H0 H2 ∧ H2 ow = some (.dK es) ∧ Ents H2 es (ownersOf (unP (ps.take i))) ∧
        primsDue ks ((ownersOf (unP (ps.take i))).map Prod.fst) (ps.drop i) = primsDue ks [] ps)
      ⟨[], _, _, _, _, _, rfl, .refl, ow0, .nil, rfl⟩ (fun i σ H2 _ ⟨_, _, _, _, _, _, _, k2, _⟩ => k2 _ _ d0 dow) ?_ ?_⟩⟩
    · rintro i x σ H2 H3 hi ⟨es, v3, v4, v5, v6, v7, rfl, k2, ow2, en2, pd⟩ ⟨rfl, k, v, hk, rfl⟩
      obtain ⟨p, ep, hk1, l, as, rfl, hl, hrows⟩ := Paired.at hp0 hk
      have hk1' : k = .inr p.1 := hk1
      subst hk1'
      have pm := List.mem_of_getElem? ep
      have tp := tells.name p pm
      obtain ⟨hi1, hi2⟩ := List.getElem?_eq_some_iff.mp ep
      rw [List.drop_eq_getElem_cons hi1, hi2] at pd
      refine ⟨_, rfl, fun _ => False, .str p.1, .str p.1, rfl, .str p.1, tp.1, fun H4 s4 => ⟨_, rfl, ?_⟩⟩
      have k4 : Keep (· = ow) H0 H4 := k2.trans (Same.keep s4)
      have d4 := k4 _ _ d0 dow
      cases hw : wordS p.1 with
      | false =>
        have due : primsDue ks [] ps = some (0, p.1) := by
          rw [← pd]
          show (if wordS p.1 = false then some ((0, p.1) : Due) else _) = _
          rw [if_pos hw]
        rw [due] at q
        rw [show wordD (.str p.1) = false from hw]
        exact ⟨od, _, d4, .str p.1, rfl, by show 1 ≤ 1000; decide, raised (N := fun _ => False) MN.x MN.nf (.str p.1) tp (q _ (behind k4))⟩
      | true =>
      rw [show wordD (.str p.1) = true from hw]
      have st4 : Std H0 H4 := Std.but k4 ow0 (fun _ z => nomatch z) fun _ z => nomatch z
      have pd1 : (match rowsDue ks ((ownersOf (unP (ps.take i))).map Prod.fst) [] p.2 with
          | some e => some e
          | none => primsDue ks ((ownersOf (unP (ps.take i))).map Prod.fst ++ p.2.map (·.1)) (ps.drop (i + 1))) = primsDue ks [] ps := by
        rw [← pd]
        show _ = (if wordS p.1 = false then some ((0, p.1) : Due) else _)
        rw [if_neg (by rw [hw]; decide)]
        try rfl
      clear pd
      refine ⟨_, rfl, _, rfl, d, .ref l, rfl, .inl ⟨kvs, .inr p.1, .inr ⟨od, d4⟩, rfl, (val_at nodK hk).symm⟩, l, rfl, ⟨_, (SqH.std st4 hl).b⟩, ?_⟩
      refine for_it (walk_seq (K := K) (b := b) (a := l) (xs := as.map V.ref)) (fun j σ H5 => ∃ es v4 v5 v6 v7, σ = [some (.ref a), some (.ref d), some (.ref ow), some (.str p.1), v4, v5, v6, v7] ∧ Keep (· = ow) H0 H5 ∧ H5 ow = some (.dK es) ∧ Ents H5 es (ownersOf (unP (ps.take i)) ++ inner p (p.2.take j)) ∧
          (∀ r ∈ p.2.take j, r.2.1.1 = true) ∧ rowsDue ks ((ownersOf (unP (ps.take i))).map Prod.fst ++ (p.2.take j).map (·.1)) ((p.2.take j).map (·.2.1)) (p.2.drop j) = rowsDue ks ((ownersOf (unP (ps.take i))).map Prod.fst) [] p.2)
        ⟨es, _, _, _, _, rfl, k4, s4 _ _ ow2, by simpa [inner] using en2.tups (Tups.of s4), (fun r z => by simp at z), by rw [List.take_zero, List.map_nil, List.append_nil]; rfl⟩ (fun j σ H5 _ ⟨_, _, _, _, _, _, k5, _⟩ => (SqH.std (Std.but k5 ow0 (fun _ z => nomatch z) fun _ z => nomatch z) hl).b) ?_ ?_
      · rintro j x σ H5 H6 hj ⟨es, v4, v5, v6, v7, rfl, k5, ow5, en5, tl, rd⟩ ⟨rfl, hx⟩
        rw [List.getElem?_map] at hx
        obtain ⟨ra, hra, rfl⟩ := Option.map_eq_some_iff.mp hx
        obtain ⟨r, er, o, t1, t2⟩ := Paired.at hrows hra
        have rm := List.mem_of_getElem? er
        obtain ⟨tr, lr⟩ := tells.rows p pm r rm
        have st5 : Std H0 _ := Std.but k5 ow0 (fun _ z => nomatch z) fun _ z => nomatch z
        obtain ⟨hj1, hj2⟩ := List.getElem?_eq_some_iff.mp er
        rw [List.drop_eq_getElem_cons hj1, hj2] at rd
        have rd1 : (match rowBad ks ((ownersOf (unP (ps.take i))).map Prod.fst ++ (p.2.take j).map (·.1)) ((p.2.take j).map (·.2.1)) r with
          | some e => some e
          | none => rowsDue ks ((ownersOf (unP (ps.take i))).map Prod.fst ++ (p.2.take j).map (·.1) ++ [r.1]) ((p.2.take j).map (·.2.1) ++ [r.2.1]) (p.2.drop (j + 1))) = rowsDue ks ((ownersOf (unP (ps.take i))).map Prod.fst) [] p.2 := rd
        clear rd
        have out : ∀ {e : Due} {H2 : Hp}, rowBad ks ((ownersOf (unP (ps.take i))).map Prod.fst ++ (p.2.take j).map (·.1)) ((p.2.take j).map (·.2.1)) r = some e → Keep (· = ow) H0 H2 → RefusedD CN CT CV e (upd H2 d (.dK kvs)) E := fun {e H2} he k2 => by
          rw [he] at rd1
          have rd2 : some e = rowsDue ks ((ownersOf (unP (ps.take i))).map Prod.fst) [] p.2 := rd1
          rw [← rd2] at pd1
          have pd2 : some e = primsDue ks [] ps := pd1
          rw [← pd2] at q
          exact q _ (behind k2)
        have names : (ownersOf (unP (ps.take i)) ++ inner p (p.2.take j)).map Prod.fst = (ownersOf (unP (ps.take i))).map Prod.fst ++ (p.2.take j).map (·.1) := by
          rw [List.map_append]
          unfold inner
          rw [List.map_map]
          rfl
        refine ⟨ra, _, rfl, SqT.of (st5.t _ _ t1), rfl, _, _, rfl, _, _, rfl, _, _, rfl, rfl, ?_⟩
        refine ⟨_, rfl, fun _ => False, .str r.1, .str r.1, rfl, .str r.1, tr.1, fun H7 s7 => ⟨_, rfl, ?_⟩⟩
        have k7 : Keep (· = ow) H0 H7 := k5.trans (Same.keep s7)
        have d7 := k7 _ _ d0 dow
        cases hwr : wordS r.1 with
        | false =>
          have bad : rowBad ks ((ownersOf (unP (ps.take i))).map Prod.fst ++ (p.2.take j).map (·.1)) ((p.2.take j).map (·.2.1)) r = some (0, r.1) := if_pos hwr
          rw [show wordD (.str r.1) = false from hwr]
          exact ⟨od, _, d7, .str r.1, rfl, by show 1 ≤ 1000; decide, raised (N := fun _ => False) MN.x MN.nf (.str r.1) tr (out bad k7)⟩
        | true =>
        rw [show wordD (.str r.1) = true from hwr]
        have en7 := en5.tups (Tups.of s7)
        have has := en7.has (n := r.1)
        rw [names] at has
        refine ⟨_, rfl, _, rfl, ow, _, rfl, DGet.k (k := Sum.inr r.1) (s7 _ _ ow5), _, rfl, ?_⟩
        rw [has]
        by_cases hm : r.1 ∈ (ownersOf (unP (ps.take i))).map Prod.fst ++ (p.2.take j).map (·.1)
        · have bad : rowBad ks ((ownersOf (unP (ps.take i))).map Prod.fst ++ (p.2.take j).map (·.1)) ((p.2.take j).map (·.2.1)) r = some (1, r.1) := by
            unfold rowBad
            rw [if_neg (by rw [hwr]; decide), if_pos hm]
          rw [decide_eq_true hm]
          exact ⟨od, _, d7, .str r.1, rfl, by show 1 ≤ 1000; decide, raised (N := fun _ => False) MT.x MT.nf (.str r.1) tr (out bad k7)⟩
        rw [decide_eq_false hm] at has ⊢
        have vn : valV es (Sum.inr r.1 : Key) = none := by
          cases e : valV es (Sum.inr r.1 : Key) with
          | none => rfl
          | some v =>
            rw [e] at has
            cases has
        refine ⟨_, rfl, _, rfl, _, rfl, by show 3 ≤ sizeLine; decide, fun t nt => ?_⟩
        obtain ⟨H8, z, s8, e8⟩ := fresh nt (.tup [.str p.1, .ref o, .str r.2.2])
        rw [z]
        clear z
        have s58 := s7.trans s8
        refine ⟨_, rfl, _, rfl, _, rfl, a, o, ks, r.2.1, r.2.2, rfl, s58 _ _ (st5.t _ _ ha0), SqH.std (st5.trans (Std.of s58)) t2, lr, fun H9 s9 => ⟨_, rfl, ?_⟩⟩
        have s59 := s58.trans s9
        have k9 : Keep (· = ow) H0 H9 := k5.trans (Same.keep s59)
        have d9 := k9 _ _ d0 dow
        have ow9 := s59 _ _ ow5
        have lenL : (ownersOf (unP (ps.take i)) ++ inner p (p.2.take j)).length ≤ 900 := Nat.le_trans (own_le ep j) tells.few
        cases hkn : knownB ks r.2.1 r.2.2 with
        | false =>
          have bad : rowBad ks ((ownersOf (unP (ps.take i))).map Prod.fst ++ (p.2.take j).map (·.1)) ((p.2.take j).map (·.2.1)) r = some (2, r.1) := by
            unfold rowBad
            rw [if_neg (by rw [hwr]; decide), if_neg hm, if_pos (.inl hkn)]
          exact ⟨od, _, d9, .str r.1, rfl, by show 1 ≤ 1000; decide, raised (N := fun _ => False) MV.x MV.nf (.str r.1) tr (out bad k9)⟩
        | true =>
        have rt : r.2.1.1 = true := by
          cases hrt : r.2.1.1 with
          | true => rfl
          | false =>
            unfold knownB at hkn
            rw [hrt] at hkn
            cases hkn
        have t2' : H0 o = some (.tup (r.2.1.2.map V.str)) := by
          unfold SqH at t2
          rw [rt] at t2
          exact t2
        have en9 := en5.tups (Tups.of s59)
        have rowt : RowAt H9 t (p.1, r.2.1.2, r.2.2) := ⟨o, s9 _ _ e8, s59 _ _ (st5.t _ _ t2')⟩
        refine ⟨_, rfl, _, rfl, ow, t, es, _, (p.1, r.2.1.2, r.2.2), rfl, ow9, en9, rowt, by omega, fun Ha sa => ⟨_, rfl, ?_⟩⟩
        have s5a := s59.trans sa
        have ka : Keep (· = ow) H0 Ha := k5.trans (Same.keep s5a)
        have da := ka _ _ d0 dow
        have amb := any_earlier tells.nod ep tl rt
        rw [show ((ownersOf (unP (ps.take i)) ++ inner p (p.2.take j)).any fun e => decide (e.2.1 = ((p.1, r.2.1.2, r.2.2) : Row).1) && decide (e.2.2.1 = ((p.1, r.2.1.2, r.2.2) : Row).2.1)) = decide (r.2.1 ∈ (p.2.take j).map (·.2.1)) from amb]
        by_cases ham : r.2.1 ∈ (p.2.take j).map (·.2.1)
        · have bad : rowBad ks ((ownersOf (unP (ps.take i))).map Prod.fst ++ (p.2.take j).map (·.1)) ((p.2.take j).map (·.2.1)) r = some (2, r.1) := by
            unfold rowBad
            rw [if_neg (by rw [hwr]; decide), if_neg hm, if_pos (.inr ham)]
          rw [decide_eq_true ham]
          exact ⟨od, _, da, .str r.1, rfl, by show 1 ≤ 1000; decide, raised (N := fun _ => False) MV.x MV.nf (.str r.1) tr (out bad ka)⟩
        rw [decide_eq_false ham]
        have good : rowBad ks ((ownersOf (unP (ps.take i))).map Prod.fst ++ (p.2.take j).map (·.1)) ((p.2.take j).map (·.2.1)) r = none := by
          unfold rowBad
          rw [if_neg (by rw [hwr]; decide), if_neg hm, if_neg (by rintro (z | z); rw [hkn] at z; cases z; exact ham z)]
        rw [good] at rd1
        have owa := s5a _ _ ow5
        have esl : es.length < sizeLine := by
          rw [Paired.length en9]
          exact small1000 (by omega)
        refine ⟨_, rfl, _, rfl, _, rfl, ow, _, rfl, DPut.k (k := Sum.inr r.1) owa esl, ?_⟩
        rw [putK_new _ vn]
        have kb : Keep (· = ow) H0 (upd Ha ow (.dK (es ++ [(Sum.inr r.1, .ref t)]))) := ka.trans keep_upd
        have stb : Tups Ha (upd Ha ow (.dK (es ++ [(Sum.inr r.1, .ref t)]))) := (Std.but keep_upd owa (fun _ z => nomatch z) fun _ z => nomatch z).t
        have tk : p.2.take (j + 1) = p.2.take j ++ [r] := by
          rw [List.take_add_one, er]
          rfl
        refine ⟨_, _, _, _, _, rfl, kb, upd_same, ?_, fun r' hr' => ?_, ?_⟩
        · rw [tk]
          have ia : inner p (p.2.take j ++ [r]) = inner p (p.2.take j) ++ [(r.1, (p.1, r.2.1.2, r.2.2))] := by
            unfold inner
            rw [List.map_append]
            rfl
          rw [ia, ← List.append_assoc]
          exact Paired.snoc ((en9.tups (Tups.of sa)).tups stb) ⟨rfl, t, rfl, (rowt.tups (Tups.of sa)).tups stb⟩
        · rw [tk] at hr'
          rcases List.mem_append.mp hr' with z | z
          · exact tl r' z
          · cases List.mem_singleton.mp z
            exact rt
        · rw [tk, List.map_append, List.map_append, ← List.append_assoc]
          exact rd1
      · rintro σ H5 ⟨es, v4, v5, v6, v7, rfl, k5, ow5, en5, tl, rd⟩
        have e1 : (as.map V.ref).length = p.2.length := by rw [List.length_map]; exact Paired.length hrows
        rw [e1, List.take_length, List.drop_length] at rd
        rw [e1, List.take_length] at en5
        have rd' : none = rowsDue ks ((ownersOf (unP (ps.take i))).map Prod.fst) [] p.2 := rd
        rw [← rd'] at pd1
        refine ⟨es, _, _, _, _, _, rfl, k5, ow5, ?_, ?_⟩
        · rw [own_next ep]
          exact en5
        · rw [own_next ep, List.map_append, ← pd1]
          unfold inner
          rw [List.map_map]
          rfl
    · rintro σ H2 ⟨es, v3, v4, v5, v6, v7, rfl, k2, ow2, en2, pd⟩
      have d2 := k2 _ _ d0 dow
      refine ⟨d2, ?_⟩
      rw [spl, List.take_length] at en2
      rw [spl, List.drop_length] at pd
      have pd' : none = primsDue ks [] ps := pd
      rw [← pd'] at q
      have ow3 : upd H2 d (.dK kvs) ow = some (.dK es) := by
        rw [upd_ne dow.symm]
        exact ow2
      exact ⟨_, rfl, q ow _ es (behind k2) now ow3 (en2.tups (Tups.lock d2 fun _ z => nomatch z))⟩
end
end K10
/-! K10, 6: what is right where nothing is due; a signature made, or refused -/
namespace K10
open PySem PySem.Spec PyProof.Rows L2 Ver
theorem bad_none {ks seen : List Str} {earlier : List Own} {r : BRow} (h : rowBad ks seen earlier r = none) : wordS r.1 = true ∧ r.1 ∉ seen ∧ knownB ks r.2.1 r.2.2 = true ∧ r.2.1 ∉ earlier := by
  unfold rowBad at h
  by_cases h1 : wordS r.1 = false
  · rw [if_pos h1] at h
    cases h
  rw [if_neg h1] at h
  by_cases h2 : r.1 ∈ seen
  · rw [if_pos h2] at h
    cases h
  rw [if_neg h2] at h
  by_cases h3 : knownB ks r.2.1 r.2.2 = false ∨ r.2.1 ∈ earlier
  · rw [if_pos h3] at h
    cases h
  exact ⟨by simpa using h1, h2, by simpa using fun z => h3 (.inl z), fun z => h3 (.inr z)⟩
theorem rows_none {ks : List Str} : ∀ {rows : List BRow} {seen : List Str} {earlier : List Own}, rowsDue ks seen earlier rows = none →
    (rows.map (·.1)).Nodup ∧ (∀ n ∈ rows.map (·.1), n ∉ seen) ∧ (rows.map (·.2.1)).Nodup ∧ (∀ w ∈ rows.map (·.2.1), w ∉ earlier) ∧ ∀ r ∈ rows, wordS r.1 = true ∧ knownB ks r.2.1 r.2.2 = true
  | [], _, _, _ => ⟨List.nodup_nil, by simp, List.nodup_nil, by simp, by simp⟩
  | r :: rows, seen, earlier, h => by
    have h' : (match rowBad ks seen earlier r with
      | some e => some e
      | none => rowsDue ks (seen ++ [r.1]) (earlier ++ [r.2.1]) rows) = none := h
    cases hb : rowBad ks seen earlier r with
    | some e =>
      rw [hb] at h'
      cases h'
    | none =>
      rw [hb] at h'
      obtain ⟨b1, b2, b3, b4⟩ := bad_none hb
      obtain ⟨i1, i2, i3, i4, i5⟩ := rows_none (rows := rows) h'
      refine ⟨?_, ?_, ?_, ?_, ?_⟩
      · rw [List.map_cons, List.nodup_cons]
        exact ⟨fun m => i2 _ m (by simp), i1⟩
      · intro n hn
        rw [List.map_cons, List.mem_cons] at hn
        rcases hn with rfl | hn
        · exact b2
        · exact fun m => i2 n hn (List.mem_append_left _ m)
      · rw [List.map_cons, List.nodup_cons]
        exact ⟨fun m => i4 _ m (by simp), i3⟩
      · intro n hn
        rw [List.map_cons, List.mem_cons] at hn
        rcases hn with rfl | hn
        · exact b4
        · exact fun m => i4 n hn (List.mem_append_left _ m)
      · intro x hx
        rcases List.mem_cons.mp hx with rfl | hx
        · exact ⟨b1, b3⟩
        · exact i5 x hx
def namesOf (ps : BPrims) : List Str := ps.flatMap fun p => p.2.map (·.1)
theorem names_own (ps : BPrims) : (ownersOf (unP ps)).map Prod.fst = namesOf ps := by
  induction ps with
  | nil => rfl
  | cons p ps ih =>
    show ((((p.2.map unR).map fun r => (r.1, (p.1, r.2.1, r.2.2))) ++ ownersOf (unP ps)).map Prod.fst) = p.2.map (·.1) ++ namesOf ps
    rw [List.map_append, ih, List.map_map, List.map_map]
    rfl
theorem prims_none {ks : List Str} : ∀ {ps : BPrims} {seen : List Str}, primsDue ks seen ps = none →
    (∀ p ∈ ps, wordS p.1 = true ∧ (p.2.map (·.2.1)).Nodup ∧ ∀ r ∈ p.2, wordS r.1 = true ∧ knownB ks r.2.1 r.2.2 = true) ∧ (namesOf ps).Nodup ∧ ∀ n ∈ namesOf ps, n ∉ seen
  | [], _, _ => ⟨by simp, List.nodup_nil, by simp [namesOf]⟩
  | p :: ps, seen, h => by
    have h' : (if wordS p.1 = false then some ((0, p.1) : Due) else match rowsDue ks seen [] p.2 with
      | some e => some e
      | none => primsDue ks (seen ++ p.2.map (·.1)) ps) = none := h
    by_cases hw : wordS p.1 = false
    · rw [if_pos hw] at h'
      cases h'
    rw [if_neg hw] at h'
    cases hr : rowsDue ks seen [] p.2 with
    | some e =>
      rw [hr] at h'
      cases h'
    | none =>
      rw [hr] at h'
      obtain ⟨r1, r2, r3, _, r5⟩ := rows_none hr
      obtain ⟨i1, i2, i3⟩ := prims_none (ps := ps) h'
      refine ⟨fun q hq => ?_, ?_, fun n hn => ?_⟩
      · rcases List.mem_cons.mp hq with rfl | hq
        · exact ⟨by simpa using hw, r3, r5⟩
        · exact i1 q hq
      · show (p.2.map (·.1) ++ namesOf ps).Nodup
        exact List.nodup_append.mpr ⟨r1, i2, fun a ha b hb e => i3 b hb (List.mem_append_right _ (e ▸ ha))⟩
      · have hn' : n ∈ p.2.map (·.1) ++ namesOf ps := hn
        rcases List.mem_append.mp hn' with hn | hn
        · exact r2 n hn
        · exact fun m => i3 n hn (List.mem_append_left _ m)
theorem known_iff {ks : List Str} {w : Own} {r : Str} (h : knownB ks w r = true) : w.1 = true ∧ (w.2.length = 1 ∨ w.2.length = 2) ∧ (∀ k ∈ w.2, k ∈ ks) ∧ (r = "bit" ∨ r ∈ ks) := by
  unfold knownB at h
  rw [Bool.and_eq_true, Bool.and_eq_true, Bool.and_eq_true, Bool.or_eq_true, decide_eq_true_eq, decide_eq_true_eq, decide_eq_true_eq, List.all_eq_true] at h
  exact ⟨h.1, h.2.1, fun k hk => of_decide_eq_true (h.2.2.1 k hk), h.2.2.2⟩
theorem prims_ok {ks : List Str} {ps : BPrims} (h : primsDue ks [] ps = none) (t : Tells ps) : PrimsOk ks (unP ps) := by
  obtain ⟨h1, h2, _⟩ := prims_none h
  have un : ∀ p ∈ unP ps, ∃ q ∈ ps, p = (q.1, q.2.map unR) := fun p hp => by
    obtain ⟨q, hq, e⟩ := List.mem_map.mp hp
    exact ⟨q, hq, e.symm⟩
  refine ⟨?_, fun p hp => ?_, ?_, fun p hp r hr => ?_, fun p hp r hr => ?_, fun p hp => ?_, t.few, ?_⟩
  · have : (unP ps).map Prod.fst = ps.map Prod.fst := by
      unfold unP
      rw [List.map_map]
      rfl
    rw [this]
    exact t.nod
  · obtain ⟨q, hq, rfl⟩ := un p hp
    exact ⟨(h1 q hq).1, t.name q hq⟩
  · rw [names_own]
    exact h2
  · obtain ⟨q, hq, rfl⟩ := un p hp
    obtain ⟨x, hx, rfl⟩ := List.mem_map.mp hr
    exact ⟨((h1 q hq).2.2 x hx).1, (t.rows q hq x hx).1⟩
  · obtain ⟨q, hq, rfl⟩ := un p hp
    obtain ⟨x, hx, rfl⟩ := List.mem_map.mp hr
    exact (known_iff ((h1 q hq).2.2 x hx).2).2
  · obtain ⟨q, hq, rfl⟩ := un p hp
    have e : (q.2.map unR).map (fun r => r.2.1) = (q.2.map (·.2.1)).map Prod.snd := by
      rw [List.map_map, List.map_map]
      rfl
    rw [e]
    refine List.Pairwise.map _ (fun a b hab => hab) ?_
    refine List.Pairwise.imp_of_mem ?_ (h1 q hq).2.1
    intro a b ha hb hab e'
    obtain ⟨x, hx, rfl⟩ := List.mem_map.mp ha
    obtain ⟨y, hy, rfl⟩ := List.mem_map.mp hb
    exact hab (Prod.ext ((known_iff ((h1 q hq).2.2 x hx).2).1.trans (known_iff ((h1 q hq).2.2 y hy).2).1.symm) e')
  · show (ps.map _).length ≤ 100
    rw [List.length_map]
    exact t.fewP
theorem word_none : ∀ {ks : List Str}, wordDue ks = none → ∀ k ∈ ks, kindD (.str k) = true
  | [], _, k, hk => by cases hk
  | x :: r, h, k, hk => by
    have h' : (if kindD (.str x) = false then some ((0, x) : Due) else wordDue r) = none := h
    by_cases hx : kindD (.str x) = false
    · rw [if_pos hx] at h'
      cases h'
    · rw [if_neg hx] at h'
      rcases List.mem_cons.mp hk with rfl | hk
      · simpa using hx
      · exact word_none h' k hk
theorem twice_none : ∀ {ks seen : List Str}, twiceDue seen ks = none → ks.Nodup ∧ ∀ k ∈ ks, k ∉ seen
  | [], _, _ => ⟨List.nodup_nil, by simp⟩
  | x :: r, seen, h => by
    have h' : (if x ∈ seen then some ((1, x) : Due) else twiceDue (seen ++ [x]) r) = none := h
    by_cases hx : x ∈ seen
    · rw [if_pos hx] at h'
      cases h'
    · rw [if_neg hx] at h'
      obtain ⟨i1, i2⟩ := twice_none h'
      refine ⟨List.nodup_cons.mpr ⟨fun m => i2 x m (by simp), i1⟩, fun k hk => ?_⟩
      rcases List.mem_cons.mp hk with rfl | hk
      · exact hx
      · exact fun m => i2 k hk (List.mem_append_left _ m)
theorem kinds_none {ks : List Str} (h : kindsDue ks = none) (t : ∀ k ∈ ks, TellOk (.str k)) (few : ks.length ≤ 100) : KindsOk ks := by
  unfold kindsDue at h
  cases hw : wordDue ks with
  | some e =>
    rw [hw] at h
    cases h
  | none =>
    rw [hw] at h
    exact ⟨word_none hw, fun k hk => t k hk, (twice_none h).1, few⟩
theorem due_split {ks : List Str} {ps : BPrims} : dueOf ks ps = match kindsDue ks with
  | some e => some e
  | none => primsDue ks [] ps := rfl
theorem rows_un {H : Hp} : ∀ {as : List Addr} {rows : List BRow}, BRowsAt H as rows → (∀ r ∈ rows, r.2.1.1 = true) → RowsAt H as (rows.map unR)
  | _, _, .nil, _ => .nil
  | _, r :: rows, .cons ⟨o, h1, h2⟩ t, h => by
    refine .cons ⟨o, h1, ?_⟩ (rows_un t fun x hx => h x (.tail _ hx))
    unfold SqH at h2
    rw [h r (.head _)] at h2
    exact h2
def spSigInit (C CN CT CV : Addr) : Sp := fun vs H Q E => ∃ (bk bv : Bool) (g dx a d : Addr) (ks : List Str) (kvs : List (Key × V)) (ps : BPrims), vs = [.ref g, .ref a, .ref d] ∧ H g = some (.ins C dx []) ∧ SqH bk H a (ks.map V.str) ∧ (∀ k ∈ ks, TellOk (.str k)) ∧ H d = some (.dK kvs) ∧ BPEnts bv H kvs ps ∧ Tells ps ∧
  match dueOf ks ps with
  | none => ∀ H' dx ka ow pr es kvs', (∀ b o, b ≠ g → H b = some o → H' b = some o) → H' g = some (.ins C dx (sigF ka ow pr)) → H' ka = some (.tup (ks.map V.str)) → H' ow = some (.dK es) → Ents H' es (ownersOf (unP ps)) → H' pr = some (.dK kvs') → TEnts H' kvs' (unP ps) → H ow = none → H pr = none → Q .non H'
  | some e => ∀ H', (∀ b o, b ≠ g → H b = some o → H' b = some o) → RefusedD CN CT CV e H' E
section
variable {P : Program} {w : World} {K : PySem.W.Frag} {mg : Str → Option Value} {base : Heap} {CN CT CV : Addr}
abbrev nSi : List Str := ["self", "kinds", "primitives", "name"]
theorem scSi : FnScope nSi ["self", "kinds", "primitives"] (defScope (meth 16 0)) := ⟨rfl, rfl, rfl, by decide +kernel, rfl, by decide +kernel, by decide +kernel⟩
theorem ok_sigInit {f C fC fO : Addr} {fd fdC fdO : FuncData} (F : Fun K "__init__" "Signature.__init__" (meth 16 0) f fd) (S : SigC K C) (T : GlobS mg) (GC : FnOk P w K mg base (L2.CX P w) 4 fC fdC ["kinds"] (spCheckKinds CN CT CV)) (DC : Def K mg "check_kinds" fC) (bC : Binds K fdC ["kinds"] [])
    (GO : FnOk P w K mg base (L2.CX P w) 4 fO fdO ["kinds", "primitives"] (spOwners CN CT CV)) (DO : Def K mg "owners_of" fO) (bO : Binds K fdO ["kinds", "primitives"] []) : FnOk P w K mg base (L2.CX P w) 5 f fd ["self", "kinds", "primitives"] (spSigInit C CN CT CV) := by
  refine F.okX scSi (fun vs H Q E h => ?_) (fun cdv A outer s H vs Q E hr h => ?_)
  · obtain ⟨bk, bv, g, dx, a, d, ks, kvs, ps, rfl, _⟩ := h
    rfl
  · obtain ⟨bk, bv, g, dx, a, d, ks, kvs, ps, rfl, hg, ha, tk, hd, hp, tells, q⟩ := h
    have hu := hu_of hr
    refine ⟨_, pss_cons (ps_expr (pe_call GC hr (by rfl) DC.gl DC.kp bC .nil (passes_call (takes_of rfl rfl rfl rfl) fun _ _ _ _ h => h) (pa_cons (pv 1) pa_nil)))
      (pss_cons (ps_fld (pv 0) (pe_callTy call_tupU (by rfl) T.tuple (by decide +kernel) (pa_cons (pv 1) pa_nil)) rfl)
      (pss_cons (ps_fld (pv 0) (pe_call GO hr (by rfl) DO.gl DO.kp bO .nil (passes_call (takes_of rfl rfl rfl rfl) fun _ _ _ _ h => h) (pa_cons (pe_fld (pv 0) rfl) (pa_cons (pv 2) pa_nil))) rfl)
      (pss_one (ps_fld (pv 0) (pe_lock (pe_dc (own := [("name", 3)]) (g := gName 3) (tt := tYes) rfl scSi.nd (pi_keys (pv 2))
        (blkOk_by (N := nSi) (sc := defScope (meth 16 0)) (by decide +kernel)) (fun _ _ _ _ _ => pg_name (i := 3) scSi.nd rfl (.inl rfl)) (fun _ _ _ _ _ => pts_nil)
        (fun _ _ _ _ _ => pv 3) (fun _ _ _ _ _ => pe_callTy call_tupU (by rfl) T.tuple (by decide +kernel) (pa_cons (pe_dget hu (pv 2) (pv 3) (fun _ _ => rfl)) pa_nil)))) rfl)))), ?_⟩
    refine ⟨_, rfl, bk, a, ks, rfl, ha, tk, fun H1 s1 => ?_⟩
    cases hkd : kindsDue ks with
    | some e =>
      have due : dueOf ks ps = some e := by rw [due_split, hkd]
      rw [due] at q
      exact q H1 fun b o _ h => s1 _ _ h
    | none =>
    have due1 : dueOf ks ps = primsDue ks [] ps := by rw [due_split, hkd]
    rw [due1] at q
    refine ⟨_, rfl, a, _, rfl, (SqH.std (Std.of s1) ha).lt, fun t H2 s2 et _ => ?_⟩
    have g2 := s2 _ _ (s1 _ _ hg)
    refine ⟨_, rfl, g, C, dx, [], rfl, g2, S.cl, S.nk, by show 0 < 1000; decide, ?_⟩
    have k3 : Keep (· = g) H (upd H2 g (.ins C dx (putF "_kinds" (.ref t) []))) := (Same.keep (s1.trans s2)).trans keep_upd
    have g3 : upd H2 g (.ins C dx (putF "_kinds" (.ref t) [])) g = some (.ins C dx [("_kinds", .ref t)]) := upd_same
    have t3 : upd H2 g (.ins C dx (putF "_kinds" (.ref t) [])) t = some (.tup (ks.map V.str)) := (Std.but keep_upd g2 (fun _ z => nomatch z) fun _ z => nomatch z).t _ _ et
    generalize upd H2 g (.ins C dx (putF "_kinds" (.ref t) [])) = H3 at k3 g3 t3
    have dg : d ≠ g := fun z => by
      rw [z, hg] at hd
      cases hd
    have st3 : Std H H3 := Std.but k3 hg (fun _ z => nomatch z) fun _ z => nomatch z
    have d3 := k3 _ _ hd dg
    refine ⟨_, rfl, g, C, dx, _, _, rfl, g3, S.cl, S.nk, rfl, _, rfl, bv, t, d, ks, kvs, ps, rfl, t3, d3, hp.std st3, tells, ?_⟩
    cases hpd : primsDue ks [] ps with
    | some e =>
      rw [hpd] at q
      exact fun H4 s4 => q H4 fun b o n h => s4 _ _ (k3 _ _ h n)
    | none =>
    rw [hpd] at q
    have okP := prims_ok hpd tells
    have tup : ∀ p ∈ ps, ∀ r ∈ p.2, r.2.1.1 = true := fun p hp r hr => (known_iff (((prims_none hpd).1 p hp).2.2 r hr).2).1
    intro ow H4 es s4 now how hes
    have g4 := s4 _ _ g3
    refine ⟨_, rfl, g, C, dx, _, rfl, g4, S.cl, S.no, by show 1 < 1000; decide, ?_⟩
    have b5 : Std H4 (upd H4 g (.ins C dx (putF "_owners" (.ref ow) [("_kinds", .ref t)]))) := Std.but keep_upd g4 (fun _ z => nomatch z) fun _ z => nomatch z
    have k5 : Keep (· = g) H (upd H4 g (.ins C dx (putF "_owners" (.ref ow) [("_kinds", .ref t)]))) := (k3.trans (Same.keep s4)).trans keep_upd
    have g5 : upd H4 g (.ins C dx (putF "_owners" (.ref ow) [("_kinds", .ref t)])) g = some (.ins C dx [("_kinds", .ref t), ("_owners", .ref ow)]) := upd_same
    have owg : ow ≠ g := (ne_of_none g3 now).symm
    have ow5 : upd H4 g (.ins C dx (putF "_owners" (.ref ow) [("_kinds", .ref t)])) ow = some (.dK es) := by
      rw [upd_ne owg]
      exact how
    have t5 := b5.t _ _ (s4 _ _ t3)
    have hes5 := hes.tups b5.t
    generalize upd H4 g (.ins C dx (putF "_owners" (.ref ow) [("_kinds", .ref t)])) = H5 at b5 k5 g5 ow5 t5 hes5
    have d5 := k5 _ _ hd dg
    have st5 : Std H H5 := Std.but k5 hg (fun _ z => nomatch z) fun _ z => nomatch z
    refine ⟨d, _, d5, trivial, fun od => ?_⟩
    have k6 : Keep (· = d) H5 (upd H5 d (.frz od (.dK kvs))) := keep_upd
    generalize hH6 : upd H5 d (.frz od (.dK kvs)) = H6 at k6
    have d6 : H6 d = some (.frz od (.dK kvs)) := by rw [← hH6]; exact upd_same
    have st6 : Std H H6 := st5.trans (Std.but k6 d5 (fun _ z => nomatch z) fun _ z => nomatch z)
    have hp6 := hp.std st6
    have nodK : (kvs.map (·.1)).Nodup := by
      have e := bpents_keys hp
      rw [e]
      have := nod_inr tells.nod
      rwa [List.map_map] at this
    have spl : kvs.length = ps.length := Paired.length hp
    have few := tells.fewP
    refine ⟨_, rfl, d, od, rfl, .inl ⟨kvs, d6, fun D nD => ?_⟩⟩
    have dD : d ≠ D := ne_of_none d6 nD
    refine dc_it (walk_keys (d := d) (o := od) (kvs := kvs)) (fun i H7 => Keep (· = D) H6 H7 ∧ ∃ kvs', H7 D = some (.dK kvs') ∧ TEnts H7 kvs' (unP (ps.take i))) ⟨keep_upd, [], upd_same, .nil⟩ (fun i H7 _ ⟨k7, _⟩ => k7 _ _ d6 dD) ?_ ?_
    · rintro i x H7 H8 hi ⟨k7, kvs', eD, en⟩ ⟨rfl, k, v, hk, rfl⟩
      obtain ⟨p, ep, hk1, l, as, rfl, hl, hrows⟩ := Paired.at hp6 hk
      have hk1' : k = .inr p.1 := hk1
      subst hk1'
      have k7' := k7
      have l7 : SqH bv _ l (as.map V.ref) := k7 _ _ hl (ne_of_none hl nD)
      refine ⟨rfl, _, rfl, _, rfl, _, rfl, d, .ref l, rfl, .inl ⟨kvs, .inr p.1, .inr ⟨od, k7 _ _ d6 dD⟩, rfl, (val_at nodK hk).symm⟩, l, _, rfl, l7.lt, fun t' H9 s9 et' _ => ?_⟩
      have D9 := s9 _ _ eD
      have l9 : kvs'.length < sizeLine := by
        rw [Paired.length en, unP_take, List.length_take]
        have : (unP ps).length = ps.length := List.length_map _
        exact small1000 (by omega)
      refine ⟨kvs', .inr p.1, rfl, D9, l9, ?_⟩
      have nk : valV kvs' (.inr p.1 : Key) = none := by
        cases e : valV kvs' (.inr p.1 : Key) with
        | none => rfl
        | some v =>
          have m := valV_in e
          rw [tents_keys en] at m
          obtain ⟨p', hp', e'⟩ := List.mem_map.mp m
          have e2' : p'.1 = p.1 := Sum.inr.inj e'
          obtain ⟨p2, hp2, rfl⟩ := List.mem_map.mp hp'
          have e2 : p2.1 = p.1 := e2'
          obtain ⟨j, hj, ej⟩ := List.getElem_of_mem hp2
          rw [List.length_take] at hj
          rw [List.getElem_take] at ej
          obtain ⟨hi1, hi2⟩ := List.getElem?_eq_some_iff.mp ep
          have a1 : (ps.map Prod.fst)[j]'(by rw [List.length_map]; omega) = p2.1 := by rw [List.getElem_map, ej]
          have a2 : (ps.map Prod.fst)[i]'(by rw [List.length_map]; omega) = p.1 := by rw [List.getElem_map, hi2]
          have := (List.getElem_inj tells.nod).mp (a1.trans (e2.trans a2.symm))
          omega
      rw [putK_new _ nk]
      have kb : Keep (· = D) H6 (upd H9 D (.dK (kvs' ++ [(.inr p.1, .ref t')]))) := (k7.trans (Same.keep s9)).trans keep_upd
      have stb : Std H9 (upd H9 D (.dK (kvs' ++ [(.inr p.1, .ref t')]))) := Std.but keep_upd D9 (fun _ z => nomatch z) fun _ z => nomatch z
      refine ⟨kb, _, upd_same, ?_⟩
      rw [List.take_add_one, ep]
      have uq : unP (ps.take i ++ (some p).toList) = unP (ps.take i) ++ [(p.1, p.2.map unR)] := by
        unfold unP
        rw [List.map_append]
        rfl
      rw [uq]
      have tb : Tups H6 (upd H9 D (.dK (kvs' ++ [(.inr p.1, .ref t')]))) := fun b xs e => kb b _ e (ne_of_none e nD)
      exact Paired.snoc ((en.tups (Tups.of s9)).tups stb.t) ⟨rfl, t', as, rfl, stb.t _ _ et', (rows_un hrows fun r hr => tup p (List.mem_of_getElem? ep) r hr).tups tb⟩
    · rintro H7 ⟨k7, kvs', eD, en⟩
      have d7 := k7 _ _ d6 dD
      refine ⟨d7, ?_⟩
      rw [spl, List.take_length] at en
      have b8 : Tups H7 (upd H7 d (.dK kvs)) := Tups.lock d7 fun _ z => nomatch z
      have gD : g ≠ D := fun z => by
        have e6 : H6 g = some (.ins C dx [("_kinds", .ref t), ("_owners", .ref ow)]) := k6 _ _ g5 dg.symm
        rw [z, nD] at e6
        cases e6
      have g8 : upd H7 d (.dK kvs) g = some (.ins C dx [("_kinds", .ref t), ("_owners", .ref ow)]) := by
        rw [upd_ne dg.symm]
        exact k7 _ _ (k6 _ _ g5 dg.symm) gD
      have D8 : upd H7 d (.dK kvs) D = some (.dK kvs') := by
        rw [upd_ne dD.symm]
        exact eD
      have back : Keep (· = g) H (upd H7 d (.dK kvs)) := fun b o e n => by
        by_cases hb : b = d
        · rw [hb, hd] at e
          cases e
          rw [hb]
          exact upd_same
        · rw [upd_ne hb]
          have e6 := k6 _ _ (k5 _ _ e n) hb
          exact k7 _ _ e6 (ne_of_none e6 nD)
      have ow6 : H6 ow = some (.dK es) := by
        refine k6 _ _ ow5 fun z => ?_
        rw [z] at now
        exact absurd d3 (by rw [now]; exact fun y => nomatch y)
      have ow8 : upd H7 d (.dK kvs) ow = some (.dK es) := by
        have nd : ow ≠ d := fun z => by
          rw [z] at now
          rw [now] at d3
          cases d3
        rw [upd_ne nd]
        exact k7 _ _ ow6 (ne_of_none ow6 nD)
      have st7 : Tups H6 H7 := fun b xs e => k7 b _ e (ne_of_none e nD)
      have t56 : Tups H5 H6 := Tups.of_keepD k6 d5
      have t58 : Tups H5 (upd H7 d (.dK kvs)) := (t56.trans st7).trans b8
      have en8 := en.tups b8
      clear b8
      generalize upd H7 d (.dK kvs) = H8 at g8 D8 back ow8 t58 en8
      refine ⟨_, rfl, g, C, dx, _, rfl, g8, S.cl, S.np, by show 2 < 1000; decide, ?_⟩
      have b9 : Std H8 (upd H8 g (.ins C dx (putF "_primitives" (.ref D) [("_kinds", .ref t), ("_owners", .ref ow)]))) := Std.but keep_upd g8 (fun _ z => nomatch z) fun _ z => nomatch z
      have nDH : H D = none := by
        cases e : H D with
        | none => rfl
        | some o =>
          have n1 : D ≠ d := dD.symm
          have e6 := k6 _ _ (k5 _ _ e gD.symm) n1
          rw [nD] at e6
          cases e6
      have nowH : H ow = none := by
        cases e : H ow with
        | none => rfl
        | some o =>
          have e3 := k3 _ _ e owg
          rw [now] at e3
          cases e3
      refine q _ dx t ow D es kvs' (fun b o n e => ?_) upd_same (b9.t _ _ (t58 _ _ t5)) ?_ ((hes5.tups t58).tups b9.t) ?_ (en8.tups b9.t) nowH nDH
      · rw [upd_ne n]
        exact back b o e n
      · rw [upd_ne owg]
        exact ow8
      · rw [upd_ne gD.symm]
        exact D8
end
end K10
/-! K10, 7: a signature asked, compared -/
namespace Ver
open PySem PySem.Spec PyProof.Rows L2
theorem sq_l {K : PySem.W.Frag} {H H' : Hp} {a : Addr} {xs : List V} (k : Same H H') (h : SqL K H a xs) : SqL K H' a xs := by
  rcases h with (h | ⟨o, h⟩) | h
  · exact .inl (.inl (k _ _ h))
  · exact .inl (.inr ⟨o, k _ _ h⟩)
  · exact .inr h
theorem sq_t {K : PySem.W.Frag} {H H' : Hp} {a : Addr} {xs : List V} (k : Same H H') (h : SqT K H a xs) : SqT K H' a xs := by
  rcases h with (h | ⟨o, h⟩) | h
  · exact .inl (.inl (k _ _ h))
  · exact .inl (.inr ⟨o, k _ _ h⟩)
  · exact .inr h
mutual
theorem dp_same {K : PySem.W.Frag} {H H' : Hp} (k : Same H H') : ∀ {v : V} {d : PyData}, Dp K H v d → Dp K H' v d
  | _, _, .non => .non
  | _, _, .bl b => .bl b
  | _, _, .int i => .int i
  | _, _, .str x => .str x
  | _, _, .lst h q => .lst (sq_l k h) (dps_same k q)
  | _, _, .tup h q => .tup (sq_t k h) (dps_same k q)
theorem dps_same {K : PySem.W.Frag} {H H' : Hp} (k : Same H H') : ∀ {vs : List V} {ds : List PyData}, DpAll K H vs ds → DpAll K H' vs ds
  | _, _, .nil => .nil
  | _, _, .cons h t => .cons (dp_same k h) (dps_same k t)
end
end Ver
namespace K10
open PySem PySem.Spec PyProof.Rows L2 Ver
def spKinds (C : Addr) : Sp := fun vs H Q _ => ∃ (N : Addr → Prop) (g : Addr) (ks : List Str) (ps : Prims), vs = [.ref g] ∧ SigAt N H C g ks ps ∧ ∀ L, H L = none → Q (.ref L) (upd H L (.lst (ks.map V.str)))
def spPrimitives (C : Addr) : Sp := fun vs H Q _ => ∃ (N : Addr → Prop) (g : Addr) (ks : List Str) (ps : Prims), vs = [.ref g] ∧ SigAt N H C g ks ps ∧ ∀ L, H L = none → Q (.ref L) (upd H L (.lst ((ps.map Prod.fst).map V.str)))
/-- the variants of a primitive -/
def primed (ps : Prims) : PyData → Option (List Row)
  | .str n => ps.lookup n
  | _ => none
def spVariants (C CU : Addr) : Sp := fun vs H Q E => ∃ (N M : Addr → Prop) (g : Addr) (ks : List Str) (ps : Prims) (v : V) (d : PyData), vs = [.ref g, v] ∧ SigAt N H C g ks ps ∧ Da M H v d ∧ TellOk d ∧
  match primed ps d with
  | some rows => ∀ L as, H L = none → RowsAt H as rows → Q (.ref L) (upd H L (.lst (as.map V.ref)))
  | none => Refused CU v H E
def spVariant (C CU : Addr) : Sp := fun vs H Q E => ∃ (N M : Addr → Prop) (g : Addr) (ks : List Str) (ps : Prims) (v : V) (d : PyData), vs = [.ref g, v] ∧ SigAt N H C g ks ps ∧ Da M H v d ∧ TellOk d ∧
  match named ps d with
  | some row => ∀ a, RowAt H a row → Q (.ref a) H
  | none => Refused CU v H E
def spHasKind (C : Addr) : Sp := fun vs H Q _ => ∃ (N M : Addr → Prop) (g : Addr) (ks : List Str) (ps : Prims) (v : V) (d : PyData), vs = [.ref g, v] ∧ SigAt N H C g ks ps ∧ Da M H v d ∧ Q (.bl (ks.any (eqS d))) H
def spVFor (C CU : Addr) : Sp := fun vs H Q E => ∃ (N M : Addr → Prop) (g : Addr) (ks : List Str) (ps : Prims) (v o : V) (d e : PyData), vs = [.ref g, v, o] ∧ SigAt N H C g ks ps ∧ Da M H v d ∧ TellOk d ∧ (∀ K, Dp K H o e) ∧
  match primed ps d with
  | some rows => rows.length ≤ 900 ∧ ∀ H', Same H H' → Q (match rows.find? (fun r => PyData.eqv (txtsD r.2.1) e) with | some r => .str r.1 | none => .non) H'
  | none => Refused CU v H E
/-- the other side: a signature, or a number -/
def spEqS (C : Addr) : Sp := fun vs H Q _ => ∃ (N : Addr → Prop) (g : Addr) (ks : List Str) (ps : Prims) (y : V), vs = [.ref g, y] ∧ SigAt N H C g ks ps ∧ ps.length ≤ 1000 ∧
  ((∃ M g2 ks2 ps2, y = .ref g2 ∧ SigAt M H C g2 ks2 ps2 ∧ ∀ H', Same H H' → Q (.bl (decide (ks = ks2 ∧ ps = ps2))) H') ∨ ∃ i, y = .int i ∧ Q (.bl false) H)
/-- rows as data -/
def rowD (r : Row) : PyData := .tuple [.str r.1, txtsD r.2.1, .str r.2.2]
def primD (p : Str × List Row) : PyData := .tuple [.str p.1, .tuple (p.2.map rowD)]
theorem dp_row {K : PySem.W.Frag} {H : Hp} {a : Addr} {r : Row} (h : RowAt H a r) : Dp K H (.ref a) (rowD r) := by
  obtain ⟨o, h1, h2⟩ := h
  exact .tup (SqT.of h1) (.cons (.str _) (.cons (dp_tupS h2) (.cons (.str _) .nil)))
theorem dps_rowsR {K : PySem.W.Frag} {H : Hp} : ∀ {as : List Addr} {rows : List Row}, RowsAt H as rows → DpAll K H (as.map V.ref) (rows.map rowD)
  | _, _, .nil => .nil
  | _, _, .cons h t => .cons (dp_row h) (dps_rowsR t)
theorem row_depth (r : Row) : (rowD r).depth = 2 := by
  show max (PyData.depth (.str r.1)) (max (PyData.depthAll (r.2.1.map .str) + 1) (max (PyData.depth (.str r.2.2)) 0)) + 1 = 2
  rw [depth_strs]
  rfl
theorem rows_depth : ∀ rows : List Row, PyData.depthAll (rows.map rowD) ≤ 2
  | [] => Nat.zero_le _
  | r :: rows => by
    show max (rowD r).depth (PyData.depthAll (rows.map rowD)) ≤ 2
    have := rows_depth rows
    rw [row_depth]
    omega
theorem prim_depth (p : Str × List Row) : (primD p).depth ≤ 4 := by
  show max (PyData.depth (.str p.1)) (max (PyData.depthAll (p.2.map rowD) + 1) 0) + 1 ≤ 4
  have := rows_depth p.2
  have e : PyData.depth (.str p.1) = 0 := rfl
  rw [e]
  omega
theorem prims_depth : ∀ ps : Prims, PyData.depthAll (ps.map primD) ≤ 4
  | [] => Nat.zero_le _
  | p :: ps => by
    show max (primD p).depth (PyData.depthAll (ps.map primD)) ≤ 4
    have := prims_depth ps
    have := prim_depth p
    omega
theorem eqv_row (r q : Row) : PyData.eqv (rowD r) (rowD q) = decide (r = q) := by
  show ((r.1 == q.1) && (PyData.eqv (txtsD r.2.1) (txtsD q.2.1) && ((r.2.2 == q.2.2) && true))) = _
  rw [eqv_txts, Bool.eq_iff_iff]
  simp only [Bool.and_eq_true, beq_iff_eq, decide_eq_true_eq, and_true]
  exact ⟨fun ⟨a, b, c⟩ => Prod.ext a (Prod.ext b c), fun e => e ▸ ⟨rfl, rfl, rfl⟩⟩
theorem eqv_rows : ∀ rows qs : List Row, PyData.eqvAll (rows.map rowD) (qs.map rowD) = decide (rows = qs)
  | [], [] => rfl
  | [], _ :: _ => rfl
  | _ :: _, [] => rfl
  | r :: rows, q :: qs => by
    show (PyData.eqv (rowD r) (rowD q) && PyData.eqvAll (rows.map rowD) (qs.map rowD)) = _
    rw [eqv_row, eqv_rows rows qs, Bool.eq_iff_iff]
    simp
theorem eqv_prim (p q : Str × List Row) : PyData.eqv (primD p) (primD q) = decide (p = q) := by
  show ((p.1 == q.1) && (PyData.eqvAll (p.2.map rowD) (q.2.map rowD) && true)) = _
  rw [eqv_rows, Bool.eq_iff_iff]
  simp only [Bool.and_eq_true, beq_iff_eq, decide_eq_true_eq, and_true]
  exact ⟨fun ⟨a, b⟩ => Prod.ext a b, fun e => e ▸ ⟨rfl, rfl⟩⟩
theorem eqv_prims : ∀ ps qs : Prims, PyData.eqvAll (ps.map primD) (qs.map primD) = decide (ps = qs)
  | [], [] => rfl
  | [], _ :: _ => rfl
  | _ :: _, [] => rfl
  | r :: rows, q :: qs => by
    show (PyData.eqv (primD r) (primD q) && PyData.eqvAll (rows.map primD) (qs.map primD)) = _
    rw [eqv_prim, eqv_prims rows qs, Bool.eq_iff_iff]
    simp
theorem items_dp {K : PySem.W.Frag} {H : Hp} : ∀ {ts : List Addr} {kvs : List (Key × V)} {ps : Prims}, Paired (fun (t : Addr) (q : Key × V) => H t = some (.tup [kV q.1, q.2])) ts kvs → TEnts H kvs ps → DpAll K H (ts.map V.ref) (ps.map primD)
  | _, _, _, .nil, .nil => .nil
  | _, _, _, .cons (b := kv) h t, .cons ⟨e1, a, as, e2, e3, e4⟩ r => by
    rw [e1, e2] at h
    exact .cons (.tup (SqT.of h) (.cons (.str _) (.cons (.tup (SqT.of e3) (dps_rowsR e4)) .nil))) (items_dp t r)
theorem paired_imp {α β : Type} {R S : α → β → Prop} (h : ∀ a b, R a b → S a b) : ∀ {as : List α} {bs : List β}, Paired R as bs → Paired S as bs
  | _, _, .nil => .nil
  | _, _, .cons g t => .cons (h _ _ g) (paired_imp h t)
section
variable {P : Program} {w : World} {K : PySem.W.Frag} {mg : Str → Option Value} {base : Heap} {C CU : Addr}
theorem sc1k : FnScope ["self"] ["self"] (defScope (meth 16 1)) := ⟨rfl, rfl, rfl, by decide +kernel, rfl, by decide +kernel, by decide +kernel⟩
theorem ok_kinds {f : Addr} {fd : FuncData} (F : Fun K "kinds" "Signature.kinds" (meth 16 1) f fd) (S : SigC K C) (T : GlobS mg) : FnOk P w K mg base CX0 1 f fd ["self"] (spKinds C) := by
  refine F.ok sc1k (fun vs H Q E h => ?_) (fun cdv A outer s H vs Q E hr h => ?_)
  · obtain ⟨N, g, ks, ps, rfl, _⟩ := h
    rfl
  · obtain ⟨N, g, ks, ps, rfl, ⟨dx, ka, ow, pr, es, kvs, h1, h2, h3, h4, h5, h6, n1, n2, n3⟩, q⟩ := h
    refine ⟨_, pss_one (ps_ret (pe_callTy call_list_tupB (by rfl) T.list (by decide +kernel) (pa_cons (pe_fld (pv 0) rfl) pa_nil))), ?_⟩
    exact ⟨_, rfl, g, C, dx, _, _, rfl, h1, S.cl, S.nk, rfl, ka, _, rfl, SqT.of h2, fun L nL _ => q L nL⟩
theorem sc2k : FnScope ["self"] ["self"] (defScope (meth 16 2)) := ⟨rfl, rfl, rfl, by decide +kernel, rfl, by decide +kernel, by decide +kernel⟩
theorem ok_primitives {f : Addr} {fd : FuncData} (F : Fun K "primitives" "Signature.primitives" (meth 16 2) f fd) (S : SigC K C) (T : GlobS mg) : FnOk P w K mg base CX0 1 f fd ["self"] (spPrimitives C) := by
  refine F.ok sc2k (fun vs H Q E h => ?_) (fun cdv A outer s H vs Q E hr h => ?_)
  · obtain ⟨N, g, ks, ps, rfl, _⟩ := h
    rfl
  · obtain ⟨N, g, ks, ps, rfl, ⟨dx, ka, ow, pr, es, kvs, h1, h2, h3, h4, h5, h6, n1, n2, n3⟩, q⟩ := h
    refine ⟨_, pss_one (ps_ret (pe_callTy (call_list_dK rfl) (by rfl) T.list (by decide +kernel) (pa_cons (pe_fld (pv 0) rfl) pa_nil))), ?_⟩
    refine ⟨_, rfl, g, C, dx, _, _, rfl, h1, S.cl, S.np, rfl, pr, kvs, rfl, h5, fun L nL => ?_⟩
    have e : (kvs.map fun kv => kV kv.1) = (ps.map Prod.fst).map V.str := by
      have := congrArg (List.map kV) (tents_keys h6)
      rw [List.map_map, List.map_map] at this
      rw [List.map_map]
      exact this
    rw [e]
    exact q L nL
theorem sc4k : FnScope ["self", "name"] ["self", "name"] (defScope (meth 16 4)) := ⟨rfl, rfl, rfl, by decide +kernel, rfl, by decide +kernel, by decide +kernel⟩
theorem ok_variant {f fE : Addr} {fd qE : FuncData} (F : Fun K "variant" "Signature.variant" (meth 16 4) f fd) (S : SigC K C) (T : GlobS mg) (U : MkE P w K mg base "UnknownName" CU fE qE bmL "LookupError.__new__") : FnOk P w K mg base (L2.CX P w) 4 f fd ["self", "name"] (spVariant C CU) := by
  refine F.okX sc4k (fun vs H Q E h => ?_) (fun cdv A outer s H vs Q E hr h => ?_)
  · obtain ⟨N, M, g, ks, ps, v, d, rfl, _⟩ := h
    rfl
  · obtain ⟨N, M, g, ks, ps, v, d, rfl, ⟨dx, ka, ow, pr, es, kvs, h1, h2, h3, h4, h5, h6, n1, n2, n3⟩, hv, ht, q⟩ := h
    have hu := hu_of hr
    refine ⟨_, pss_cons (ps_if (PW.pt (pw_or (pt_not (pt_val (pe_callB call_isi (by rfl) T.isinstance (by decide +kernel) (pa_cons (pv 1) (pa_cons (pe_bltn (v := .ty "str") (by rfl) T.str (by decide +kernel) rfl) pa_nil)))))
        (pw_or1 (pt_cmp (pc_dnotin hu (pv 1) (pe_fld (pv 0) rfl))))))
          (pss_one (ps_raise rfl (takes_of rfl rfl rfl rfl) (pmk_x exB_LE U.x U.i U.t U.F hr U.b .nil pass0 (by rfl) U.g (pa_cons (pv 1) pa_nil)))) pss_nil)
      (pss_one (ps_ret (pe_dget hu (pe_fld (pv 0) rfl) (pv 1) (fun _ _ => rfl)))), ?_⟩
    refine ⟨_, rfl, v, .ty "str", _, _, _, rfl, .ty _, Da.ty hv, kit_str d, _, rfl, ?_⟩
    have refuse : Refused CU v H E → tMkO CU (spIni K bmL "LookupError.__new__" "name") [] (tCons (tVar 1) tNil) (L2.start ["self", "name"] [.ref g, v]) H E := fun r => ⟨v, rfl, by show 1 ≤ 1000; decide, raised U.x U.nf hv ht r⟩
    cases d with
    | str n =>
      cases hv
      refine ⟨_, rfl, _, rfl, g, C, dx, _, _, rfl, h1, S.cl, S.no, rfl, ow, _, rfl, DGet.k (k := Sum.inr n) h3, _, rfl, ?_⟩
      have q' : (match (ownersOf ps).lookup n with
        | some row => ∀ a, RowAt H a row → Q (.ref a) H
        | none => Refused CU (.str n) H E) := q
      cases el : (ownersOf ps).lookup n with
      | some row =>
        rw [el] at q'
        obtain ⟨a, hva, hra⟩ := h4.some el
        rw [hva]
        have gt : DGet H ow (.str n) (some (.ref a)) := hva ▸ DGet.k (k := Sum.inr n) h3
        exact ⟨_, rfl, g, C, dx, _, _, rfl, h1, S.cl, S.no, rfl, _, rfl, ow, .ref a, rfl, gt, q' a hra⟩
      | none =>
        rw [el] at q'
        have hm : n ∉ (ownersOf ps).map Prod.fst := fun m => by
          obtain ⟨e, he, e1⟩ := List.mem_map.mp m
          have := List.lookup_eq_none_iff.mp el e he
          simp [e1] at this
        rw [h4.none hm]
        exact refuse q'
    | _ => exact refuse q
theorem sc3k : FnScope ["self", "name"] ["self", "name"] (defScope (meth 16 3)) := ⟨rfl, rfl, rfl, by decide +kernel, rfl, by decide +kernel, by decide +kernel⟩
theorem ok_variants {f fE : Addr} {fd qE : FuncData} (F : Fun K "variants" "Signature.variants" (meth 16 3) f fd) (S : SigC K C) (T : GlobS mg) (U : MkE P w K mg base "UnknownName" CU fE qE bmL "LookupError.__new__") : FnOk P w K mg base (L2.CX P w) 4 f fd ["self", "name"] (spVariants C CU) := by
  refine F.okX sc3k (fun vs H Q E h => ?_) (fun cdv A outer s H vs Q E hr h => ?_)
  · obtain ⟨N, M, g, ks, ps, v, d, rfl, _⟩ := h
    rfl
  · obtain ⟨N, M, g, ks, ps, v, d, rfl, ⟨dx, ka, ow, pr, es, kvs, h1, h2, h3, h4, h5, h6, n1, n2, n3⟩, hv, ht, q⟩ := h
    have hu := hu_of hr
    refine ⟨_, pss_cons (ps_if (PW.pt (pw_or (pt_not (pt_val (pe_callB call_isi (by rfl) T.isinstance (by decide +kernel) (pa_cons (pv 1) (pa_cons (pe_bltn (v := .ty "str") (by rfl) T.str (by decide +kernel) rfl) pa_nil)))))
        (pw_or1 (pt_cmp (pc_dnotin hu (pv 1) (pe_fld (pv 0) rfl))))))
          (pss_one (ps_raise rfl (takes_of rfl rfl rfl rfl) (pmk_x exB_LE U.x U.i U.t U.F hr U.b .nil pass0 (by rfl) U.g (pa_cons (pv 1) pa_nil)))) pss_nil)
      (pss_one (ps_ret (pe_callTy call_list_tupB (by rfl) T.list (by decide +kernel) (pa_cons (pe_dget hu (pe_fld (pv 0) rfl) (pv 1) (fun _ _ => rfl)) pa_nil)))), ?_⟩
    refine ⟨_, rfl, v, .ty "str", _, _, _, rfl, .ty _, Da.ty hv, kit_str d, _, rfl, ?_⟩
    have refuse : Refused CU v H E → tMkO CU (spIni K bmL "LookupError.__new__" "name") [] (tCons (tVar 1) tNil) (L2.start ["self", "name"] [.ref g, v]) H E := fun r => ⟨v, rfl, by show 1 ≤ 1000; decide, raised U.x U.nf hv ht r⟩
    cases d with
    | str n =>
      cases hv
      refine ⟨_, rfl, _, rfl, g, C, dx, _, _, rfl, h1, S.cl, S.np, rfl, pr, _, rfl, DGet.k (k := Sum.inr n) h5, _, rfl, ?_⟩
      have q' : (match ps.lookup n with
        | some rows => ∀ L as, H L = none → RowsAt H as rows → Q (.ref L) (upd H L (.lst (as.map V.ref)))
        | none => Refused CU (.str n) H E) := q
      cases el : ps.lookup n with
      | some rows =>
        rw [el] at q'
        obtain ⟨t, as, hv, ht', hrows⟩ := h6.some el
        rw [hv]
        have gt : DGet H pr (.str n) (some (.ref t)) := hv ▸ DGet.k (k := Sum.inr n) h5
        exact ⟨_, rfl, g, C, dx, _, _, rfl, h1, S.cl, S.np, rfl, _, rfl, pr, .ref t, rfl, gt, t, _, rfl, SqT.of ht', fun L nL _ => q' L as nL hrows⟩
      | none =>
        rw [el] at q'
        have hv : valV kvs (Sum.inr n : Key) = none := by
          cases e : valV kvs (Sum.inr n : Key) with
          | none => rfl
          | some v =>
            exfalso
            have m := valV_in e
            rw [tents_keys h6] at m
            obtain ⟨p', hp', e'⟩ := List.mem_map.mp m
            have := List.lookup_eq_none_iff.mp el p' hp'
            have e2 : p'.1 = n := Sum.inr.inj e'
            simp [e2] at this
        rw [hv]
        exact refuse q'
    | _ => exact refuse q
theorem sc5k : FnScope ["self", "value"] ["self", "value"] (defScope (meth 16 5)) := ⟨rfl, rfl, rfl, by decide +kernel, rfl, by decide +kernel, by decide +kernel⟩
theorem ok_hasKind {f : Addr} {fd : FuncData} (F : Fun K "has_kind" "Signature.has_kind" (meth 16 5) f fd) (S : SigC K C) : FnOk P w K mg base CX0 1 f fd ["self", "value"] (spHasKind C) := by
  refine F.ok sc5k (fun vs H Q E h => ?_) (fun cdv A outer s H vs Q E hr h => ?_)
  · obtain ⟨N, M, g, ks, ps, v, d, rfl, _⟩ := h
    rfl
  · obtain ⟨N, M, g, ks, ps, v, d, rfl, ⟨dx, ka, ow, pr, es, kvs, h1, h2, h3, h4, h5, h6, n1, n2, n3⟩, hv, q⟩ := h
    refine ⟨_, pss_one (ps_ret (pe_cmpR (r := rInA K false) (op_inA (hu_of hr)) (pv 1) (pe_fld (pv 0) rfl) (by rfl))), ?_⟩
    exact ⟨_, rfl, _, rfl, g, C, dx, _, _, rfl, h1, S.cl, S.nk, rfl, M, d, ka, ks, hv, rfl, .inr (SqT.of h2), q⟩
/-- what the top says besides of the class -/
structure IsC (K : PySem.W.Frag) (C : Addr) : Prop where
  ha : PySem.W.findIn K (.ref C) "__class__" = some (some (.builtin "object.__class__"))
  hn : PySem.W.specialIn K (.builtin "object.__class__") "__get__" = some (some (.builtin "getset_descriptor.__get__"))
  htk : PySem.W.takesIn K (.builtin "object.__class__") = some true
  hm : PySem.W.mroIn K C (.type "object") = some true
  me : PySem.W.kitOne K (.ref C) (.ref C) = some true
  int : PySem.W.kitOne K (.type "int") (.ref C) = some false
  list : PySem.W.kitOne K (.ref C) (.type "list") = some false
theorem scEq : FnScope ["self", "other"] ["self", "other"] (defScope (meth 16 6)) := ⟨rfl, rfl, rfl, by decide +kernel, rfl, by decide +kernel, by decide +kernel⟩
theorem ok_eqS {f : Addr} {fd : FuncData} (F : Fun K "__eq__" "Signature.__eq__" (meth 16 6) f fd) (S : SigC K C) (T : GlobS mg) (I : IsC K C) (gC : mg "Signature" = some (.ref C)) : FnOk P w K mg base CX0 1 f fd ["self", "other"] (spEqS C) := by
  refine F.ok scEq (fun vs H Q E h => ?_) (fun cdv A outer s H vs Q E hr h => ?_)
  · obtain ⟨N, g, ks, ps, y, rfl, _⟩ := h
    rfl
  · obtain ⟨N, g, ks, ps, y, rfl, ⟨dx, ka, ow, pr, es, kvs, h1, h2, h3, h4, h5, h6, n1, n2, n3⟩, few, h⟩ := h
    refine ⟨_, pss_cons (ps_if (PW.pt (pw_or (pt_not (pt_val (pe_callB call_isi (by rfl) T.isinstance (by decide +kernel) (pa_cons (pv 1) (pa_cons (pe_glob (v := .ref C) (by rfl) gC rfl) pa_nil)))))
        (pw_or1 (pt_cmpR (r := rNeP K) (op_neP hr.units) (pe_fld (pv 0) rfl) (pe_fld (pv 1) rfl) (nomark _))))) (pss_one (ps_ret pe_bl)) pss_nil)
      (pss_one (ps_ret (pe_cmpR (r := rEqP K) (op_eqP hr.units) (LiI.pe_listItems rfl (pe_fld (pv 0) rfl) (by rfl) T.list (by decide +kernel)) (LiI.pe_listItems rfl (pe_fld (pv 1) rfl) (by rfl) T.list (by decide +kernel)) (nomark _)))), ?_⟩
    rcases h with ⟨M, g', ks', ps', rfl, ⟨dx', ka', ow', pr', es', kvs', h1', h2', h3', h4', h5', h6', n1', n2', n3'⟩, q⟩ | ⟨i, rfl, q⟩
    · refine ⟨_, rfl, .ref g', .ref C, _, _, true, rfl, .own _, .base (.ins h1' S.cl I.ha I.hn I.htk I.hm), I.me, _, rfl, ?_⟩
      have dz : ∀ l : List Str, (txtsD l).depth ≤ 60 := fun l => by
        show PyData.depthAll (l.map .str) + 1 ≤ 60
        rw [depth_strs]
        decide
      refine ⟨_, rfl, g, C, dx, _, _, rfl, h1, S.cl, S.nk, rfl, _, rfl, g', C, dx', _, _, rfl, h1', S.cl, S.nk, rfl, txtsD ks, txtsD ks', dp_tupS h2, dp_tupS h2', dz _, _, rfl, ?_⟩
      rw [eqv_txts]
      by_cases hk : ks = ks'
      · rw [decide_eq_true hk]
        refine ⟨_, rfl, g, C, dx, _, _, rfl, h1, S.cl, S.np, rfl, pr, kvs, rfl, h5, fun H1 p ts s1 np _ _ ep hp => ?_⟩
        have s1' : Same H H1 := s1
        refine ⟨_, rfl, g', C, dx', _, _, rfl, s1 _ _ h1', S.cl, S.np, rfl, pr', kvs', rfl, s1 _ _ h5', fun H2 p' ts' s2 np' _ _ ep' hp' => ?_⟩
        have s2' : Same H1 H2 := s2
        have t02 := Tups.of (s1'.trans s2')
        have hp2 : Paired (fun (t : Addr) (q : Key × V) => H2 t = some (.tup [kV q.1, q.2])) ts kvs := paired_imp (fun _ _ z => s2 _ _ z) hp
        have q1 : Dp K H2 (.ref p) (.list (ps.map primD)) := .lst (SqL.of (s2 _ _ ep)) (items_dp hp2 (h6.tups t02))
        have q2 : Dp K H2 (.ref p') (.list (ps'.map primD)) := .lst (SqL.of ep') (items_dp hp' (h6'.tups t02))
        have dq : (PyData.list (ps.map primD)).depth ≤ 60 := by
          show PyData.depthAll (ps.map primD) + 1 ≤ 60
          have := prims_depth ps
          omega
        refine ⟨_, _, q1, q2, dq, ?_⟩
        rw [show PyData.eqv (.list (ps.map primD)) (.list (ps'.map primD)) = decide (ps = ps') from eqv_prims ps ps']
        have := q H2 (s1'.trans s2')
        rw [show decide (ks = ks' ∧ ps = ps') = decide (ps = ps') by simp [hk]] at this
        exact this
      · rw [decide_eq_false hk]
        have := q H (Same.refl H)
        rw [decide_eq_false (fun z => hk z.1)] at this
        exact this
    · exact ⟨_, rfl, .int i, .ref C, _, _, false, rfl, .own _, .base (.int i), I.int, _, rfl, q⟩
theorem scVF : FnScope ["signature", "name", "kinds", "variant", "wanted", "_"] ["signature", "name", "kinds"] (defScope sVFor) := ⟨rfl, rfl, rfl, by decide +kernel, rfl, by decide +kernel, by decide +kernel⟩
theorem ok_vFor {f fV : Addr} {fd qV : FuncData} (F : Fun K "variant_for" "variant_for" sVFor f fd) (S : SigC K C) (mV : Meth K C "variants" fV) (GV : FnOk P w K mg base (L2.CX P w) 4 fV qV ["self", "name"] (spVariants C CU)) (bV : Binds K qV ["self", "name"] []) : FnOk P w K mg base (L2.CX P w) 5 f fd ["signature", "name", "kinds"] (spVFor C CU) := by
  refine F.okX scVF (fun vs H Q E h => ?_) (fun cdv A outer s H vs Q E hr h => ?_)
  · obtain ⟨N, M, g, ks, ps, v, o, d, e, rfl, _⟩ := h
    rfl
  · obtain ⟨N, M, g, ks, ps, v, o, d, e, rfl, sig, hv, ht, ho, q⟩ := h
    refine ⟨_, pss_cons (ps_for (passes_of rfl) rfl (pi_list (pe_meth (pv 0) S.cl mV GV hr bV .nil (passes_call (takes_of rfl rfl rfl rfl) fun _ _ _ _ h => h) (pa_cons (pv 1) pa_nil)))
        (pg_tup (by rfl) (pgs_cons (pg_name (i := 3) scVF.nd rfl (.inl rfl)) (pgs_cons (pg_name (i := 4) scVF.nd rfl (.inl rfl)) (pgs_cons (pg_name (i := 5) scVF.nd rfl (.inl rfl)) pgs_nil))))
        (pss_one (ps_if (pt_cmpR (r := rEqP K) (op_eqP hr.units) (pv 4) (pv 2) (nomark _)) (pss_one (ps_ret (pv 3))) pss_nil)))
      (pss_one (ps_ret pe_non)), ?_⟩
    obtain ⟨dx, ka, ow, pr, es, kvs, hg, _⟩ := id sig
    refine ⟨_, rfl, g, dx, _, rfl, hg, rfl, _, rfl, N, M, g, ks, ps, v, d, rfl, sig, hv, ht, ?_⟩
    cases hp : primed ps d with
    | none =>
      rw [hp] at q
      exact q
    | some rows =>
    rw [hp] at q
    obtain ⟨few, q⟩ := q
    intro L as nL hrows
    obtain ⟨H1, z, s1, e1⟩ := fresh nL (.lst (as.map V.ref))
    rw [z]
    clear z
    have spl : as.length = rows.length := Paired.length hrows
    refine ⟨L, rfl, ⟨_, SqL.of e1⟩, for_it (walk_list (K := K) (a := L) (xs := as.map V.ref)) (fun i σ H2 => H2 = H1 ∧ (rows.take i).find? (fun r => PyData.eqv (txtsD r.2.1) e) = none ∧ ∃ v3 v4 v5, σ = [some (.ref g), some v, some o, v3, v4, v5]) ⟨rfl, rfl, _, _, _, rfl⟩ (fun i σ H2 _ ⟨e, _⟩ => e ▸ SqL.of e1) ?_ ?_⟩
    · rintro i x σ H2 H3 hi ⟨rfl, nf, v3, v4, v5, rfl⟩ ⟨rfl, hx⟩
      rw [List.getElem?_map] at hx
      obtain ⟨ra, hra, rfl⟩ := Option.map_eq_some_iff.mp hx
      obtain ⟨r, er, o', t1, t2⟩ := Paired.at (hrows.tups (Tups.of s1)) hra
      refine ⟨ra, _, rfl, SqT.of t1, rfl, _, _, rfl, _, _, rfl, _, _, rfl, rfl, ?_⟩
      have q1 : Dp K H3 (.ref o') (txtsD r.2.1) := dp_tupS t2
      have q2 : Dp K H3 o e := dp_same s1 (ho K)
      have dz : (txtsD r.2.1).depth ≤ 60 := by
        show PyData.depthAll (r.2.1.map .str) + 1 ≤ 60
        rw [depth_strs]
        decide
      refine ⟨_, rfl, _, rfl, _, _, q1, q2, dz, _, rfl, ?_⟩
      have et : rows.take (i + 1) = rows.take i ++ [r] := by rw [List.take_add_one, er]; rfl
      cases hq : PyData.eqv (txtsD r.2.1) e with
      | true =>
        have fd : rows.find? (fun r => PyData.eqv (txtsD r.2.1) e) = some r := by
          obtain ⟨hi1, hi2⟩ := List.getElem?_eq_some_iff.mp er
          have hs : rows = rows.take i ++ r :: rows.drop (i + 1) := by
            conv => lhs; rw [← List.take_append_drop i rows, List.drop_eq_getElem_cons hi1, hi2]
          rw [hs, List.find?_append, nf]
          simp [hq]
        have := q H3 s1
        rw [fd] at this
        exact ⟨_, rfl, this⟩
      | false =>
        refine ⟨rfl, ?_, _, _, _, rfl⟩
        rw [et, List.find?_append, nf]
        simp [hq]
    · rintro σ H2 ⟨rfl, nf, v3, v4, v5, rfl⟩
      rw [List.length_map, spl, List.take_length] at nf
      have := q H2 s1
      rw [nf] at this
      exact this
end
end K10
/-! K10, 8: what the law's signatures are drawn of -/
namespace K10
open PySem PySem.Spec PyProof.Rows L2 Ver
abbrev sSig : Stmt := top 26
theorem Src.tups {p c : Addr} {H H' : Hp} (S : Src p c H) (k : Keep (Off p c) H H') : Tups H H' := fun b xs e => k b _ e fun n => by
  obtain ⟨_, ns, l, m, t, hp, hc, _⟩ := S
  rcases n with n | n
  · rw [n, hp] at e
    cases e
  · rw [n, hc] at e
    cases e
/-- a primitive and its variants, as drawn -/
def GPair (N : Addr → Prop) (H : Hp) (a : Addr) (p : Str × List Row) : Prop := ∃ l as, H a = some (.tup [.str p.1, .ref l]) ∧ H l = some (.lst (as.map V.ref)) ∧ RowsAt H as p.2 ∧ ¬ N l
abbrev GPairs (N : Addr → Prop) (H : Hp) (as : List Addr) (ps : Prims) : Prop := Paired (GPair N H) as ps
theorem GPairs.keep {N : Addr → Prop} {H H' : Hp} (k : Keep N H H') (t : Tups H H') : ∀ {as : List Addr} {ps : Prims}, GPairs N H as ps → GPairs N H' as ps
  | _, _, .nil => .nil
  | _, _, .cons ⟨l, as, h1, h2, h3, h4⟩ r => .cons ⟨l, as, t _ _ h1, k _ _ h2 h4, h3.tups t, h4⟩ (GPairs.keep k t r)
abbrev grD (l f g : Addr) : List (Key × V) := [(Sum.inr "kinds", .ref l), (Sum.inr "primitives", .ref f), (Sum.inr "made", .ref g)]
/-- what the law drew of a signature stands at gr -/
structure GroundAt (N : Addr → Prop) (H : Hp) (C gr : Addr) (ks : List Str) (ps : Prims) : Prop where
  ex : ∃ l f g as, H gr = some (.dK (grD l f g)) ∧ H l = some (.lst (ks.map V.str)) ∧ H f = some (.lst (as.map V.ref)) ∧ GPairs N H as ps ∧ SigAt N H C g ks ps ∧ ¬ N gr ∧ ¬ N l ∧ ¬ N f
theorem GroundAt.keep {N : Addr → Prop} {H H' : Hp} {C gr : Addr} {ks : List Str} {ps : Prims} (k : Keep N H H') (t : Tups H H') : GroundAt N H C gr ks ps → GroundAt N H' C gr ks ps
  | ⟨l, f, g, as, h1, h2, h3, h4, h5, n1, n2, n3⟩ => ⟨l, f, g, as, k _ _ h1 n1, k _ _ h2 n2, k _ _ h3 n3, h4.keep k t, h5.keep k t, n1, n2, n3⟩
theorem Paired.app {α β : Type} {R : α → β → Prop} : ∀ {as cs : List α} {bs ds : List β}, Paired R as bs → Paired R cs ds → Paired R (as ++ cs) (bs ++ ds)
  | _, _, _, _, .nil, h => h
  | _, _, _, _, .cons h t, g => .cons h (Paired.app t g)
/-- the state of the draws behind, from H0 on -/
structure Dr (p c : Addr) (H0 H : Hp) : Prop where
  k : Keep (Off p c) H0 H
  s : Src p c H
theorem Dr.refl {p c : Addr} {H : Hp} (S : Src p c H) : Dr p c H H := ⟨Keep.refl, S⟩
theorem Src.at {p c : Addr} {H : Hp} (S : Src p c H) {a : Addr} {o : HO} (n : ¬ Off p c a) : Src p c (upd H a o) := by
  obtain ⟨n0, ns, l, m, t, hp, hc, hl⟩ := S
  exact ⟨n0, ns, l, m, t, by rw [upd_ne fun z => n (.inl z.symm)]; exact hp, by rw [upd_ne fun z => n (.inr z.symm)]; exact hc, hl⟩
theorem Dr.none {p c : Addr} {H0 H : Hp} (d : Dr p c H0 H) {a : Addr} (h : H a = none) : H0 a = none := by
  cases e : H0 a with
  | none => rfl
  | some o =>
    rw [d.k a o e (d.s.off h)] at h
    cases h
theorem Dr.same {p c : Addr} {H0 H H' : Hp} (d : Dr p c H0 H) (s : Same H H') : Dr p c H0 H' := ⟨d.k.trans (Same.keep s), d.s.same s⟩
theorem Dr.trans {p c : Addr} {H0 H H' : Hp} (d : Dr p c H0 H) (e : Dr p c H H') : Dr p c H0 H' := ⟨d.k.trans e.k, e.s⟩
/-- a change at what is newer than H0 -/
theorem Dr.at {p c : Addr} {H0 H : Hp} (d : Dr p c H0 H) {a : Addr} {o : HO} (h0 : H0 a = .none) (n : ¬ Off p c a) : Dr p c H0 (upd H a o) := ⟨fun b x e nb => by
  rw [upd_ne (ne_of_none e h0)]
  exact d.k b x e nb, d.s.at n⟩
theorem Keep.mono {N N' : Addr → Prop} {H H' : Hp} (h : ∀ a, N a → N' a) (k : Keep N H H') : Keep N' H H' := fun b o e n => k b o e fun z => n (h b z)
abbrev Or1 (N : Addr → Prop) (x : Addr) : Addr → Prop := fun a => N a ∨ a = x
theorem GPairs.wide {N : Addr → Prop} {H : Hp} {x : Addr} (n : H x = none) : ∀ {as : List Addr} {ps : Prims}, GPairs N H as ps → GPairs (Or1 N x) H as ps
  | _, _, .nil => .nil
  | _, _, .cons ⟨l, as, h1, h2, h3, h4⟩ r => .cons ⟨l, as, h1, h2, h3, fun z => z.elim h4 (ne_of_none h2 n)⟩ (GPairs.wide n r)
theorem GPairs.narrow {N N' : Addr → Prop} {H : Hp} (h : ∀ a, N' a → N a) : ∀ {as : List Addr} {ps : Prims}, GPairs N H as ps → GPairs N' H as ps
  | _, _, .nil => .nil
  | _, _, .cons ⟨l, as, h1, h2, h3, h4⟩ r => .cons ⟨l, as, h1, h2, h3, fun z => h4 (h l z)⟩ (GPairs.narrow h r)
/-! ### names of variants, as drawn -/
def vaw : List Str := ["v", "a", "w"]
def base3 : List Str := ["p", "a", "add"]
def kin3 : List Str := ["k", "num", "a"]
def nmV (x : Str) (j : Nat) : Str := x ++ Str.ofString (toString (j : Int))
theorem nm_all : (vaw.all fun x => vaw.all fun y => (List.range 9).all fun i => (List.range 9).all fun j => (!(nmV x i == nmV y j) || i == j)) = true := by decide +kernel
theorem nm_word : (vaw.all fun x => (List.range 9).all fun i => wordS (nmV x i) && decide ((nmV x i).length ≤ 1000 ∧ (reprText (nmV x i)).length ≤ 1000)) = true := by decide +kernel
theorem nm_inj {x y : Str} {i j : Nat} (hx : x ∈ vaw) (hy : y ∈ vaw) (hi : i < 9) (hj : j < 9) (e : nmV x i = nmV y j) : i = j := by
  have h1 := List.all_eq_true.mp nm_all x hx
  have h2 := List.all_eq_true.mp h1 y hy
  have h3 := List.all_eq_true.mp h2 i (List.mem_range.mpr hi)
  have h4 := List.all_eq_true.mp h3 j (List.mem_range.mpr hj)
  rw [e, beq_self_eq_true] at h4
  simpa using h4
/-- the names, one by one -/
def NamesOk (l : List Str) : Prop := ∀ (j : Nat) y, l[j]? = some y → ∃ x ∈ vaw, y = nmV x j
theorem NamesOk.nil : NamesOk [] := fun j y h => by simp at h
theorem NamesOk.snoc {l : List Str} {x : Str} (h : NamesOk l) (hx : x ∈ vaw) : NamesOk (l ++ [nmV x l.length]) := fun j y e => by
  by_cases hj : j < l.length
  · rw [List.getElem?_append_left hj] at e
    exact h j y e
  · rw [List.getElem?_append_right (by omega)] at e
    have : j - l.length = 0 := by
      have := (List.getElem?_eq_some_iff.mp e).1
      simp at this
      omega
    rw [this] at e
    have e' : y = nmV x l.length := by simpa using e.symm
    exact ⟨x, hx, by rw [e', show j = l.length by omega]⟩
theorem NamesOk.nod {l : List Str} (h : NamesOk l) (h9 : l.length ≤ 9) : l.Nodup := by
  refine List.pairwise_iff_getElem.mpr fun i j hi hj hij e => ?_
  obtain ⟨x, hx, e1⟩ := h i _ (List.getElem?_eq_getElem hi)
  obtain ⟨y, hy, e2⟩ := h j _ (List.getElem?_eq_getElem hj)
  have := nm_inj hx hy (by omega) (by omega) (e1.symm.trans (e.trans e2))
  omega
theorem NamesOk.word {l : List Str} (h : NamesOk l) (h9 : l.length ≤ 9) : ∀ y ∈ l, wordS y = true ∧ TellOk (.str y) := fun y hy => by
  obtain ⟨j, hj, e⟩ := List.getElem_of_mem hy
  obtain ⟨x, hx, e1⟩ := h j y (by rw [List.getElem?_eq_getElem hj, e])
  have h2 := List.all_eq_true.mp nm_word x hx
  have h3 := List.all_eq_true.mp h2 j (List.mem_range.mpr (by omega))
  rw [Bool.and_eq_true, decide_eq_true_eq] at h3
  rw [e1]
  exact h3
/-- a row, as drawn -/
def RowOk (ks : List Str) (r : Row) : Prop := (r.2.1.length = 1 ∨ r.2.1.length = 2) ∧ (∀ w ∈ r.2.1, w ∈ ks) ∧ (r.2.2 = "bit" ∨ r.2.2 ∈ ks)
structure RowsIn (ks : List Str) (rows : List Row) : Prop where
  own : ∀ r ∈ rows, RowOk ks r
  nod : (rows.map fun r => r.2.1).Nodup
  few : rows.length ≤ 3
/-- primitives, as drawn: the first i -/
structure Drawn (ks : List Str) (ps : Prims) (i : Nat) : Prop where
  names : ps.map Prod.fst = base3.take i
  vn : NamesOk ((ownersOf ps).map Prod.fst)
  few : (ownersOf ps).length ≤ 3 * i
  rows : ∀ p ∈ ps, RowsIn ks p.2
theorem Drawn.nil (ks : List Str) : Drawn ks [] 0 := ⟨rfl, .nil, by decide, fun p h => by cases h⟩
theorem owners_snoc (ps : Prims) (p : Str × List Row) : ownersOf (ps ++ [p]) = ownersOf ps ++ p.2.map fun r => (r.1, (p.1, r.2.1, r.2.2)) := by
  unfold ownersOf
  rw [List.flatMap_append]
  simp
theorem Drawn.snoc {ks : List Str} {ps : Prims} {i : Nat} {x : Str} {rows : List Row} (d : Drawn ks ps i) (hx : base3[i]? = some x) (r : RowsIn ks rows) (h : NamesOk ((ownersOf ps).map Prod.fst ++ rows.map (·.1))) : Drawn ks (ps ++ [(x, rows)]) (i + 1) := by
  refine ⟨?_, ?_, ?_, fun p hp => ?_⟩
  · rw [List.map_append, d.names, List.take_add_one, hx]
    rfl
  · rw [owners_snoc, List.map_append, List.map_map]
    exact h
  · rw [owners_snoc, List.length_append, List.length_map]
    have := d.few
    have := r.few
    show _ + rows.length ≤ _
    omega
  · rcases List.mem_append.mp hp with hp | hp
    · exact d.rows p hp
    · cases List.mem_singleton.mp hp
      exact r
theorem Drawn.ok {ks : List Str} {ps : Prims} {i : Nat} (d : Drawn ks ps i) (hi : i ≤ 3) : PrimsOk ks ps := by
  have few := d.few
  have lv : ((ownersOf ps).map Prod.fst).length ≤ 9 := by
    rw [List.length_map]
    omega
  have b3 : base3.Nodup ∧ ∀ x ∈ base3, wordS x = true ∧ (x.length ≤ 1000 ∧ (reprText x).length ≤ 1000) := by decide +kernel
  have sub : ∀ x ∈ base3.take i, x ∈ base3 := fun x h => List.mem_of_mem_take h
  have lp : ps.length ≤ 3 := by
    have := congrArg List.length d.names
    rw [List.length_map, List.length_take] at this
    have : base3.length = 3 := rfl
    omega
  refine ⟨?_, fun p hp => ?_, d.vn.nod lv, fun p hp r hr => ?_, fun p hp r hr => (d.rows p hp).own r hr, fun p hp => (d.rows p hp).nod, by omega, by omega⟩
  · rw [d.names]
    exact b3.1.sublist (List.take_sublist _ _)
  · exact b3.2 _ (sub _ (by rw [← d.names]; exact List.mem_map.mpr ⟨p, hp, rfl⟩))
  · refine d.vn.word lv _ (List.mem_map.mpr ⟨(r.1, (p.1, r.2.1, r.2.2)), List.mem_flatMap.mpr ⟨p, hp, List.mem_map.mpr ⟨r, hr, rfl⟩⟩, rfl⟩)
theorem kinds_all : ∀ r < 3, (∀ k ∈ kin3.take (1 + r), kindD (.str k) = true ∧ (k.length ≤ 1000 ∧ (reprText k).length ≤ 1000)) ∧ (kin3.take (1 + r)).Nodup := by decide +kernel
theorem kinds_ok {r : Nat} (h : r < 3) : KindsOk (kin3.take (1 + r)) := ⟨fun k hk => ((kinds_all r h).1 k hk).1, fun k hk => ((kinds_all r h).1 k hk).2, (kinds_all r h).2, by rw [List.length_take]; omega⟩
theorem kinds_rev {ks : List Str} (h : KindsOk ks) : KindsOk ks.reverse := ⟨fun k hk => h.word k (List.mem_reverse.mp hk), fun k hk => h.short k (List.mem_reverse.mp hk), List.pairwise_reverse.mpr (h.nod.imp fun z => z.symm), by rw [List.length_reverse]; exact h.few⟩
/-! ### dict(pairs) -/
theorem merge_nod : ∀ {kvs acc : List (Key × V)}, ((acc ++ kvs).map (·.1)).Nodup → mergeK acc kvs = acc ++ kvs
  | [], acc, _ => (List.append_nil _).symm
  | kv :: kvs, acc, h => by
    have e : acc ++ kv :: kvs = (acc ++ [kv]) ++ kvs := by simp
    rw [e] at h
    have nk : valV acc kv.1 = none := by
      cases ev : valV acc kv.1 with
      | none => rfl
      | some v =>
        have m := valV_in ev
        rw [List.map_append, List.map_append] at h
        have := (List.nodup_append.mp (List.nodup_append.mp h).1).2.2
        exact absurd rfl (this _ m _ (by simp))
    show mergeK (putK acc kv.1 kv.2) kvs = _
    rw [putK_new _ nk, e]
    exact merge_nod h
theorem pairs_dict {N : Addr → Prop} {K : PySem.W.Frag} {H : Hp} : ∀ {as : List Addr} {ps : Prims}, GPairs N H as ps → ∃ kvs, Paired (fun p kv => SqT K H p [kV kv.1, kv.2]) as kvs ∧ PEnts H kvs ps
  | _, _, .nil => ⟨[], .nil, .nil⟩
  | a :: as, p :: ps, .cons ⟨l, xs, h1, h2, h3, h4⟩ r => by
    obtain ⟨kvs, g1, g2⟩ := pairs_dict r
    exact ⟨(Sum.inr p.1, .ref l) :: kvs, .cons (SqT.of h1) g1, .cons ⟨rfl, l, xs, rfl, h2, h3⟩ g2⟩
/-! ### a right signature is made -/
def emR (r : Row) : BRow := (r.1, (true, r.2.1), r.2.2)
def emb (ps : Prims) : BPrims := ps.map fun p => (p.1, p.2.map emR)
theorem un_emb (ps : Prims) : unP (emb ps) = ps := by
  unfold unP emb
  rw [List.map_map]
  have : ∀ p : Str × List Row, ((fun p : Str × List BRow => (p.1, p.2.map unR)) ∘ fun p : Str × List Row => (p.1, p.2.map emR)) p = p := fun p => by
    show (p.1, (p.2.map emR).map unR) = p
    rw [List.map_map, show unR ∘ emR = id from rfl, List.map_id]
  rw [show ((fun p : Str × List BRow => (p.1, p.2.map unR)) ∘ fun p : Str × List Row => (p.1, p.2.map emR)) = id from funext this, List.map_id]
theorem word_due : ∀ {ks : List Str}, (∀ k ∈ ks, kindD (.str k) = true) → wordDue ks = none
  | [], _ => rfl
  | x :: r, h => by
    show (if kindD (.str x) = false then some ((0, x) : Due) else wordDue r) = none
    rw [if_neg (by rw [h x (.head _)]; decide)]
    exact word_due fun k hk => h k (.tail _ hk)
theorem twice_due : ∀ {ks seen : List Str}, ks.Nodup → (∀ k ∈ ks, k ∉ seen) → twiceDue seen ks = none
  | [], _, _, _ => rfl
  | x :: r, seen, h, hs => by
    show (if x ∈ seen then some ((1, x) : Due) else twiceDue (seen ++ [x]) r) = none
    rw [if_neg (hs x (.head _))]
    rw [List.nodup_cons] at h
    refine twice_due h.2 fun k hk m => ?_
    rcases List.mem_append.mp m with m | m
    · exact hs k (.tail _ hk) m
    · cases List.mem_singleton.mp m
      exact h.1 hk
theorem kinds_due {ks : List Str} (h : KindsOk ks) : kindsDue ks = none := by
  unfold kindsDue
  rw [word_due h.word]
  exact twice_due h.nod fun k _ m => nomatch m
theorem known_ok {ks : List Str} {ws : List Str} {r : Str} (h : (ws.length = 1 ∨ ws.length = 2) ∧ (∀ k ∈ ws, k ∈ ks) ∧ (r = "bit" ∨ r ∈ ks)) : knownB ks (true, ws) r = true := by
  unfold knownB
  rw [Bool.and_eq_true, Bool.and_eq_true, Bool.and_eq_true, Bool.or_eq_true, decide_eq_true_eq, decide_eq_true_eq, decide_eq_true_eq, List.all_eq_true]
  exact ⟨rfl, h.1, fun k hk => decide_eq_true (h.2.1 k hk), h.2.2⟩
theorem rows_due {ks : List Str} : ∀ {rows : List Row} {seen : List Str} {earlier : List Own}, (rows.map (·.1)).Nodup → (∀ n ∈ rows.map (·.1), n ∉ seen) → (rows.map (·.2.1)).Nodup → (∀ w ∈ rows.map (·.2.1), (true, w) ∉ earlier) →
    (∀ r ∈ rows, wordS r.1 = true ∧ ((r.2.1.length = 1 ∨ r.2.1.length = 2) ∧ (∀ k ∈ r.2.1, k ∈ ks) ∧ (r.2.2 = "bit" ∨ r.2.2 ∈ ks))) → rowsDue ks seen earlier (rows.map emR) = none
  | [], _, _, _, _, _, _, _ => rfl
  | r :: rows, seen, earlier, n1, n2, n3, n4, ok => by
    show (match rowBad ks seen earlier (emR r) with
      | some e => some e
      | none => rowsDue ks (seen ++ [r.1]) (earlier ++ [(true, r.2.1)]) (rows.map emR)) = none
    obtain ⟨o1, o2⟩ := ok r (.head _)
    have hb : rowBad ks seen earlier (emR r) = none := by
      unfold rowBad
      rw [if_neg (by show ¬ wordS r.1 = false; rw [o1]; decide), if_neg (show ¬ (emR r).1 ∈ seen from n2 r.1 (by simp)), if_neg]
      rintro (z | z)
      · have : knownB ks (true, r.2.1) r.2.2 = false := z
        rw [known_ok o2] at this
        cases this
      · exact n4 r.2.1 (by simp) z
    rw [hb]
    rw [List.map_cons, List.nodup_cons] at n1 n3
    refine rows_due n1.2 (fun n hn m => ?_) n3.2 (fun w hw m => ?_) fun x hx => ok x (.tail _ hx)
    · rcases List.mem_append.mp m with m | m
      · exact n2 n (by rw [List.map_cons]; exact .tail _ hn) m
      · cases List.mem_singleton.mp m
        exact n1.1 hn
    · rcases List.mem_append.mp m with m | m
      · exact n4 w (by rw [List.map_cons]; exact .tail _ hw) m
      · have e := (Prod.ext_iff.mp (List.mem_singleton.mp m)).2
        have e' : w = r.2.1 := e
        exact n3.1 (e' ▸ hw)
theorem prims_due {ks : List Str} : ∀ {ps : Prims} {seen : List Str}, (∀ p ∈ ps, wordS p.1 = true ∧ (p.2.map (·.2.1)).Nodup ∧ ∀ r ∈ p.2, wordS r.1 = true ∧ ((r.2.1.length = 1 ∨ r.2.1.length = 2) ∧ (∀ k ∈ r.2.1, k ∈ ks) ∧ (r.2.2 = "bit" ∨ r.2.2 ∈ ks))) →
    (ps.flatMap fun p => p.2.map (·.1)).Nodup → (∀ n ∈ ps.flatMap fun p => p.2.map (·.1), n ∉ seen) → primsDue ks seen (emb ps) = none
  | [], _, _, _, _ => rfl
  | p :: ps, seen, ok, nod, dis => by
    obtain ⟨o1, o2, o3⟩ := ok p (.head _)
    have e : (p :: ps).flatMap (fun p => p.2.map (·.1)) = p.2.map (·.1) ++ ps.flatMap fun p => p.2.map (·.1) := rfl
    rw [e] at nod dis
    obtain ⟨n1, n2, n3⟩ := List.nodup_append.mp nod
    show (if wordS p.1 = false then some ((0, p.1) : Due) else match rowsDue ks seen [] (p.2.map emR) with
      | some e => some e
      | none => primsDue ks (seen ++ (p.2.map emR).map (·.1)) (emb ps)) = none
    rw [if_neg (by rw [o1]; decide), rows_due n1 (fun n hn => dis n (List.mem_append_left _ hn)) o2 (fun w _ m => by cases m) o3]
    refine prims_due (fun q hq => ok q (.tail _ hq)) n2 fun n hn m => ?_
    have e2 : (p.2.map emR).map (·.1) = p.2.map (·.1) := by
      rw [List.map_map]
      rfl
    rw [e2] at m
    rcases List.mem_append.mp m with m | m
    · exact dis n (List.mem_append_right _ hn) m
    · exact n3 n m n hn rfl
theorem own_names (ps : Prims) : (ownersOf ps).map Prod.fst = ps.flatMap fun p => p.2.map (·.1) := by
  unfold ownersOf
  rw [List.map_flatMap]
  exact congrArg (fun f : (Str × List Row) → List Str => List.flatMap f ps) (funext fun p => by rw [List.map_map]; rfl)
theorem due_emb {ks : List Str} {ps : Prims} (okK : KindsOk ks) (okP : PrimsOk ks ps) : dueOf ks (emb ps) = none := by
  rw [due_split, kinds_due okK]
  refine prims_due (fun p hp => ⟨(okP.word p hp).1, okP.owns p hp, fun r hr => ⟨(okP.vword p hp r hr).1, okP.own p hp r hr⟩⟩) ?_ fun n _ m => nomatch m
  rw [← own_names]
  exact okP.vnames
theorem emb_rows {H : Hp} : ∀ {as : List Addr} {rows : List Row}, RowsAt H as rows → BRowsAt H as (rows.map emR)
  | _, _, .nil => .nil
  | _, _, .cons ⟨o, h1, h2⟩ t => .cons ⟨o, h1, h2⟩ (emb_rows t)
theorem emb_ents {H : Hp} : ∀ {kvs : List (Key × V)} {ps : Prims}, PEnts H kvs ps → BPEnts false H kvs (emb ps)
  | _, _, .nil => .nil
  | _, _, .cons ⟨h1, l, as, h2, h3, h4⟩ t => .cons ⟨h1, l, as, h2, h3, emb_rows h4⟩ (emb_ents t)
theorem emb_tells {ks : List Str} {ps : Prims} (okP : PrimsOk ks ps) : Tells (emb ps) := by
  have un : ∀ p ∈ emb ps, ∃ q ∈ ps, p = (q.1, q.2.map emR) := fun p hp => by
    obtain ⟨q, hq, e⟩ := List.mem_map.mp hp
    exact ⟨q, hq, e.symm⟩
  refine ⟨?_, fun p hp => ?_, fun p hp r hr => ?_, ?_, ?_⟩
  · have : (emb ps).map Prod.fst = ps.map Prod.fst := by
      unfold emb
      rw [List.map_map]
      rfl
    rw [this]
    exact okP.names
  · obtain ⟨q, hq, rfl⟩ := un p hp
    exact (okP.word q hq).2
  · obtain ⟨q, hq, rfl⟩ := un p hp
    obtain ⟨x, hx, rfl⟩ := List.mem_map.mp hr
    have := (okP.own q hq x hx).1
    exact ⟨(okP.vword q hq x hx).2, by show x.2.1.length ≤ 1000; omega⟩
  · rw [un_emb]
    exact okP.few
  · show (ps.map _).length ≤ 100
    rw [List.length_map]
    exact okP.fewP
def spSigRight (C : Addr) : Sp := fun vs H Q _ => ∃ (g dx a d : Addr) (ks : List Str) (kvs : List (Key × V)) (ps : Prims), vs = [.ref g, .ref a, .ref d] ∧ H g = some (.ins C dx []) ∧ H a = some (.lst (ks.map V.str)) ∧ KindsOk ks ∧ H d = some (.dK kvs) ∧ PEnts H kvs ps ∧ PrimsOk ks ps ∧
  ∀ H' dx ka ow pr es kvs', (∀ b o, b ≠ g → H b = some o → H' b = some o) → H' g = some (.ins C dx (sigF ka ow pr)) → H' ka = some (.tup (ks.map V.str)) → H' ow = some (.dK es) → Ents H' es (ownersOf ps) → H' pr = some (.dK kvs') → TEnts H' kvs' ps → H ow = none → H pr = none → Q .non H'
/-- of a def that may raise, where nothing is to be raised -/
theorem fnOk_calm {P : Program} {w : World} {K : PySem.W.Frag} {mg : Str → Option Value} {base : Heap} {k : Nat} {f : Addr} {fd : FuncData} {ps : List Str} {sp : Sp} (F : FnOk P w K mg base (L2.CX P w) k f fd ps sp) :
    FnOk P w K mg base CX0 k f fd ps (fun vs H Q _ => sp vs H Q fun _ _ _ => False) :=
  ⟨fun vs H Q E h => F.len vs H Q _ h, fun A outer s H args us vs Q E hr he hb hv hs => codeAny_mono (F.run A outer s H args us vs Q _ hr he hb hv hs) fun r s' h => by
    match r, h with
    | .ok (.ret u), h => exact h
    | .ok .next, h => exact h.elim
    | .ok .brk, h => exact h.elim
    | .ok .cont, h => exact h.elim
    | .error e, h =>
      obtain ⟨_, _, _, _, _, _, _, _, _, _, _, _, z⟩ := h
      exact z.elim⟩
theorem right_of {P : Program} {w : World} {K : PySem.W.Frag} {mg : Str → Option Value} {base : Heap} {C CN CT CV f : Addr} {q : FuncData} {n : List Str} (G : FnOk P w K mg base (L2.CX P w) 5 f q n (spSigInit C CN CT CV)) : FnOk P w K mg base CX0 5 f q n (spSigRight C) :=
  (fnOk_calm G).imp fun vs H Q E h => by
    obtain ⟨g, dx, a, d, ks, kvs, ps, rfl, hg, ha, okK, hd, hp, okP, q⟩ := h
    refine ⟨false, false, g, dx, a, d, ks, kvs, emb ps, rfl, hg, ha, okK.short, hd, emb_ents hp, emb_tells okP, ?_⟩
    rw [due_emb okK okP, un_emb]
    exact q
end K10
/-! K10, 9: the law's signature, drawn -/
namespace K10
open PySem PySem.Spec PyProof.Rows L2 Ver
abbrev nSg : List Str := ["source", "kinds", "found", "many", "name", "rows", "turn", "own", "k", "row"]
def spLSig (C : Addr) : Sp := fun vs H Q _ => ∃ (p c : Addr), vs = [.ref p] ∧ Src p c H ∧
  ∀ gr ks ps i H', KindsOk ks → ("zz" : Str) ∉ ks → (ks ≠ [] ∧ ks.length ≤ 3) → 1 ≤ i → i ≤ 3 → Drawn ks ps i → GroundAt (Off p c) H' C gr ks ps → Dr p c H H' → ¬ Off p c gr → Q (.ref gr) H'
theorem cut_strs {l : List Str} {r : Int} (h : 0 ≤ r) (hl : 1 + r.toNat ≤ l.length) : cutV (l.map V.str) none (some (1 + r)) = (l.take (1 + r.toNat)).map V.str := by
  have e : (1 + r : Int) = ((1 + r.toNat : Nat) : Int) := by omega
  rw [e, cut_take (by rw [List.length_map]; exact hl), List.map_take]
theorem str_in {l : List Str} {v : V} (h : v ∈ l.map V.str) : ∃ x ∈ l, v = .str x := by
  obtain ⟨x, hx, e⟩ := List.mem_map.mp h
  exact ⟨x, hx, e.symm⟩
theorem Paired.imp {α β : Type} {R S : α → β → Prop} (h : ∀ a b, R a b → S a b) : ∀ {as : List α} {bs : List β}, Paired R as bs → Paired S as bs
  | _, _, .nil => .nil
  | _, _, .cons g t => .cons (h _ _ g) (Paired.imp h t)
theorem dps_rows {K : PySem.W.Frag} {H : Hp} : ∀ {os : List Addr} {rows : List Row}, Paired (fun o r => H o = some (.tup (r.2.1.map V.str))) os rows → DpAll K H (os.map V.ref) (rows.map fun r => txtsD r.2.1)
  | _, _, .nil => .nil
  | _, _, .cons h t => .cons (dp_tupS h) (dps_rows t)
theorem any_rows (rows : List Row) (us : List Str) : ((rows.map fun r => txtsD r.2.1).any fun e => PyData.eqv e (txtsD us)) = rows.any fun r => decide (r.2.1 = us) := by
  rw [List.any_map]
  exact congrArg rows.any (funext fun r => eqv_txts r.2.1 us)
section
variable {P : Program} {w : World} {K : PySem.W.Frag} {mg : Str → Option Value} {base : Heap} {C : Addr}
theorem scSg : FnScope nSg ["source"] (defScope sSig) := ⟨rfl, rfl, rfl, by decide +kernel, rfl, by decide +kernel, by decide +kernel⟩
theorem ok_lsig {f fP fO fI : Addr} {fd qP qO qI : FuncData} (F : Fun K "_law_signature" "_law_signature" sSig f fd) (T : Txt mg) (Gs : GlobS mg) (dictN : mg "dict" = none) (GP : FnOk P w K mg base CX0 1 fP qP ["source", "many"] spPick) (DP : Def K mg "_law_pick" fP) (bP : Binds K qP ["source", "many"] [])
    (GO : FnOk P w K mg base CX0 2 fO qO ["source", "some"] spOf) (DO : Def K mg "_law_of" fO) (bO : Binds K qO ["source", "some"] []) (M : Mk K C fI) (mSig : mg "Signature" = some (.ref C)) (GI : FnOk P w K mg base CX0 5 fI qI ["self", "kinds", "primitives"] (spSigRight C)) (bI : Binds K qI ["self", "kinds", "primitives"] []) :
    FnOk P w K mg base CX0 7 f fd ["source"] (spLSig C) := by
  refine F.ok scSg (fun vs H Q E h => ?_) (fun cdv A outer s H vs Q E hr h => ?_)
  · obtain ⟨p, c, rfl, _⟩ := h
    rfl
  · obtain ⟨p, c, rfl, S, q⟩ := h
    have hr1 : Room 1 _ := hr.mono (by decide)
    have hr2 : Room 2 _ := hr.mono (by decide)
    refine ⟨_, pss_cons (ps_asg (pe_tup (pa_cons (pe_slice sl_list (pe_lst (pa_cons pe_str (pa_cons pe_str (pa_cons pe_str pa_nil)))) po_none (po_some (pe_op op_add pe_int (pe_call GP hr1 (by rfl) DP.gl DP.kp bP .nil pass0 (pa_cons (pv 0) (pa_cons pe_int pa_nil)))))) (pa_cons (pe_lst pa_nil) (pa_cons pe_int pa_nil)))) (pg_tup (by rfl) (pgs_cons (pg_name (i := 1) scSg.nd rfl (.inr rfl)) (pgs_cons (pg_name (i := 2) scSg.nd rfl (.inl rfl)) (pgs_cons (pg_name (i := 3) scSg.nd rfl (.inl rfl)) pgs_nil)))))
      (pss_cons (ps_if (pt_cmpR op_eq (pe_call GP hr1 (by rfl) DP.gl DP.kp bP .nil pass0 (pa_cons (pv 0) (pa_cons pe_int pa_nil))) pe_int (nomark _)) (pss_one (ps_set (i := 1) scSg.nd rfl (.inr rfl) (pe_revL (pv 1)))) pss_nil)
      (pss_cons (ps_for PassesOwn.never rfl (pi_list (pe_slice sl_list (pe_lst (pa_cons pe_str (pa_cons pe_str (pa_cons pe_str pa_nil)))) po_none (po_some (pe_op op_add pe_int (pe_call GP hr1 (by rfl) DP.gl DP.kp bP .nil pass0 (pa_cons (pv 0) (pa_cons pe_int pa_nil))))))) (pg_name (i := 4) scSg.nd rfl (.inl rfl))
        (pss_cons (ps_set (i := 5) scSg.nd rfl (.inl rfl) (pe_lst pa_nil))
        (pss_cons (ps_for PassesOwn.never rfl (pi_range1 (by rfl) T.range (pa_cons (pe_call GP hr1 (by rfl) DP.gl DP.kp bP .nil pass0 (pa_cons (pv 0) (pa_cons pe_int pa_nil))) pa_nil)) (pg_name (i := 6) scSg.nd rfl (.inl rfl))
          (pss_cons (ps_set (i := 7) scSg.nd rfl (.inl rfl) (pe_callTy call_tupU (by rfl) Gs.tuple (by decide +kernel) (pa_cons (pe_lc (own := [("k", 8)]) (g := gName 8) (tt := tYes) rfl scSg.nd (pi_range1 (by rfl) T.range (pa_cons (pe_op op_add pe_int (pe_call GP hr1 (by rfl) DP.gl DP.kp bP .nil pass0 (pa_cons (pv 0) (pa_cons pe_int pa_nil)))) pa_nil)) (blkOk_by (N := nSg) (sc := defScope sSig) (by decide +kernel)) (fun _ _ _ _ _ => pg_name (i := 8) scSg.nd rfl (.inl rfl)) (fun _ _ _ _ _ => pts_nil)
              (fun _ _ _ _ _ => pe_call GO hr2 (by rfl) DO.gl DO.kp bO .nil pass0 (pa_cons (pv 0) (pa_cons (pv 1) pa_nil)))) pa_nil)))
          (pss_one (ps_if (pt_cmpR (r := rNotInP K) (op_notInP hr.units) (pv 7) (pe_lc (own := [("row", 9)]) (g := gName 9) (tt := tYes) rfl scSg.nd (pi_list (pv 5)) (blkOk_by (N := nSg) (sc := defScope sSig) (by decide +kernel)) (fun _ _ _ _ _ => pg_name (i := 9) scSg.nd rfl (.inl rfl)) (fun _ _ _ _ _ => pts_nil) (fun _ _ _ _ _ => pe_ix (r := rIxT K) ix_tup (pv 9) pe_int (fun _ _ => rfl))) (by rfl))
            (pss_cons (ps_expr (pe_bm PySem.F.plainAttrs_list PySem.F.slot_list_append PySem.F.type_list_append mt_append (pv 5) (pa_cons (pe_tup (pa_cons (pe_op op_add_str (pe_ix ix_list (pe_lst (pa_cons pe_str (pa_cons pe_str (pa_cons pe_str pa_nil)))) (pe_call GP hr1 (by rfl) DP.gl DP.kp bP .nil pass0 (pa_cons (pv 0) (pa_cons pe_int pa_nil))) (fun _ _ => rfl)) (pe_callTy call_str_int (by rfl) Gs.str (by decide +kernel) (pa_cons (pv 3) pa_nil))) (pa_cons (pv 7)
                (pa_cons (pe_call GO hr2 (by rfl) DO.gl DO.kp bO .nil pass0 (pa_cons (pv 0) (pa_cons (pe_op op_cat (pv 1) (pe_lst (pa_cons pe_str pa_nil))) pa_nil))) pa_nil)))) pa_nil)))
            (pss_one (ps_set (i := 3) scSg.nd rfl (.inl rfl) (pe_op op_add (pv 3) pe_int)))) pss_nil))))
        (pss_one (ps_expr (pe_bm PySem.F.plainAttrs_list PySem.F.slot_list_append PySem.F.type_list_append mt_append (pv 2) (pa_cons (pe_tup (pa_cons (pv 4) (pa_cons (pv 5) pa_nil))) pa_nil))))))
      ) (pss_one (ps_ret (pe_disp (pps_cons pe_str (pv 1) (pps_cons pe_str (pv 2) (pps_cons pe_str (pe_make M GI hr (by rfl) mSig bI .nil pass0 (pa_cons (pv 1) (pa_cons (pe_callTy (call_dictP rfl) (by rfl) dictN (by decide +kernel) (pa_cons (pv 2) pa_nil)) pa_nil))) pps_nil))) (by rfl) (by rfl) (fun z => by cases z) (by decide)))))), ?_⟩
    have d0 : Dr p c H H := Dr.refl S
    refine ⟨by show 3 ≤ sizeLine; decide, fun l0 nl0 => ?_⟩
    obtain ⟨H1, z, s1, e1⟩ := fresh nl0 (.lst (kin3.map V.str))
    erw [z]
    clear z
    have d1 := d0.same s1
    have ol0 := S.off nl0
    refine ⟨_, rfl, p, c, 3, rfl, d1.s, by decide, by decide, fun r H2 r0 r1 k2 S2 => ?_⟩
    have d2 : Dr p c H H2 := d1.trans ⟨k2, S2⟩
    refine ⟨_, _, rfl, rfl, _, rfl, l0, _, rfl, SqL.of (k2 _ _ e1 ol0), fun l nl => ?_⟩
    rw [cut_strs r0 (by show 1 + r.toNat ≤ 3; omega)]
    have okK0 : KindsOk (kin3.take (1 + r.toNat)) := kinds_ok (by omega)
    have ks10 : 1 ≤ (kin3.take (1 + r.toNat)).length := by
      rw [List.length_take]
      show 1 ≤ min _ 3
      omega
    have ks30 : (kin3.take (1 + r.toNat)).length ≤ 3 := by
      rw [List.length_take]
      show min _ 3 ≤ 3
      omega
    have okZ0 : ("zz" : Str) ∉ kin3.take (1 + r.toNat) := fun h => absurd (List.mem_of_mem_take h) (by decide +kernel)
    generalize kin3.take (1 + r.toNat) = ks at okK0 ks10 ks30 okZ0
    obtain ⟨H3, z, s3, hl3⟩ := fresh nl (.lst (ks.map V.str))
    rw [z]
    clear z
    have d3 := d2.same s3
    have ol := d2.s.off nl
    have nlH := d2.none nl
    refine ⟨by show 0 ≤ sizeLine; decide, fun fa nfa => ?_⟩
    obtain ⟨H4, z, s4, hf4⟩ := fresh nfa (.lst [])
    rw [z]
    clear z
    have d4 := d3.same s4
    have ofa := d3.s.off nfa
    have nfaH := d3.none nfa
    have lfa : l ≠ fa := ne_of_none hl3 nfa
    refine ⟨by show 3 ≤ sizeLine; decide, fun t nt => ?_⟩
    obtain ⟨H5, z, s5, e5⟩ := fresh nt (.tup [.ref l, .ref fa, .int 0])
    erw [z]
    clear z
    have d5 := d4.same s5
    refine ⟨t, _, rfl, SqT.of e5, rfl, _, _, rfl, _, _, rfl, _, _, rfl, rfl, ?_⟩
    refine ⟨_, rfl, p, c, 2, rfl, d5.s, by decide, by decide, fun r2 H6 _ _ k6 S6 => ?_⟩
    have d6 : Dr p c H H6 := d5.trans ⟨k6, S6⟩
    have hl6 := k6 _ _ (s5 _ _ (s4 _ _ hl3)) ol
    have hf6 := k6 _ _ (s5 _ _ hf4) ofa
    clear k6 S6 d5 d4 d3 d2 d1 d0 hf4 hl3 s5 s4 s3 e5 k2 S2 e1 s1 nfa nl nt nl0 ol0
    refine ⟨rfl, _, rfl, ite2 (fun _ => ?_) (fun _ => ?_)⟩
    · refine ⟨_, rfl, l, _, rfl, SqL.of hl6, fun l' nl' => ?_⟩
      rw [← List.map_reverse]
      have okK := kinds_rev okK0
      have ks1 : 1 ≤ ks.reverse.length := by rw [List.length_reverse]; exact ks10
      have ks3 : ks.reverse.length ≤ 3 := by rw [List.length_reverse]; exact ks30
      have okZ : ("zz" : Str) ∉ ks.reverse := fun h => okZ0 (List.mem_reverse.mp h)
      clear okK0 ks10 ks30 okZ0
      obtain ⟨H7, z, s7, hl7⟩ := fresh nl' (.lst (ks.reverse.map V.str))
      rw [z]
      clear z
      have d7 := d6.same s7
      have ol' := d6.s.off nl'
      have nlH' := d6.none nl'
      have lfa' : l' ≠ fa := (ne_of_none hf6 nl').symm
      have hf7 := s7 _ _ hf6
      clear hl6 nl' s7 hf6 lfa d6 ol nlH
      generalize ks.reverse = ks' at okK ks1 ks3 okZ hl7
      clear ks
      refine ⟨by show 3 ≤ sizeLine; decide, fun b0 nb0 => ?_⟩
      obtain ⟨H8, z, s8, e8⟩ := fresh nb0 (.lst (base3.map V.str))
      erw [z]
      clear z
      have d8 := d7.same s8
      have ob0 := d7.s.off nb0
      refine ⟨_, rfl, p, c, 3, rfl, d8.s, by decide, by decide, fun r3 H9 r30 r31 k9 S9 => ?_⟩
      have d9 : Dr p c H H9 := d8.trans ⟨k9, S9⟩
      refine ⟨_, _, rfl, rfl, _, rfl, b0, _, rfl, SqL.of (k9 _ _ e8 ob0), fun nq nnq => ?_⟩
      rw [cut_strs r30 (by show 1 + r3.toNat ≤ 3; omega)]
      obtain ⟨n3, hn3⟩ : ∃ n3, n3 = 1 + r3.toNat := ⟨_, rfl⟩
      rw [← hn3]
      have n3le : n3 ≤ 3 := by omega
      obtain ⟨H10, z, s10, hq10⟩ := fresh nnq (.lst ((base3.take n3).map V.str))
      rw [z]
      clear z
      have d10 := d9.same s10
      have oq := d9.s.off nnq
      have hl10 := s10 _ _ (k9 _ _ (s8 _ _ hl7) ol')
      have hf10 := s10 _ _ (k9 _ _ (s8 _ _ hf7) ofa)
      have qfa : nq ≠ fa := (ne_of_none (k9 _ _ (s8 _ _ hf7) ofa) nnq).symm
      clear s10 k9 S9 s8 e8 d9 d8 nnq nb0 ob0 hl7 hf7 d7
      have nlen : ((base3.take n3).map V.str).length = n3 := by
        rw [List.length_map, List.length_take]
        show min n3 3 = n3
        omega
      refine ⟨nq, rfl, ⟨_, SqL.of hq10⟩, for_it (walk_list (K := K) (a := nq) (xs := (base3.take n3).map V.str)) (fun i σ H6 => Dr p c H H6 ∧ H6 nq = some (.lst ((base3.take n3).map V.str)) ∧ H6 l' = some (.lst (ks'.map V.str)) ∧ ∃ as ps v4 v5 v6 v7, σ = [some (.ref p), some (.ref l'), some (.ref fa), some (.int ((ownersOf ps).map Prod.fst).length), v4, v5, v6, v7, none, none] ∧
          H6 fa = some (.lst (as.map V.ref)) ∧ GPairs (Or1 (Off p c) fa) H6 as ps ∧ Drawn ks' ps i)
        ⟨d10, hq10, hl10, [], [], _, _, _, _, rfl, hf10, .nil, Drawn.nil _⟩ (fun i σ H6 _ ⟨_, e, _⟩ => SqL.of e) ?_ ?_⟩
      · clear d10 hq10 hl10 hf10 H10
        rintro i x σ H6 H7 hi ⟨d7, hq7, hl7, as, ps, v4, v5, v6, v7, rfl, hf7, hps, dr⟩ ⟨rfl, hx⟩
        rw [List.getElem?_map] at hx
        obtain ⟨nm, hnm, rfl⟩ := Option.map_eq_some_iff.mp hx
        have hnm3 : base3[i]? = some nm := by
          rw [nlen] at hi
          rw [List.getElem?_take, if_pos (by omega)] at hnm
          exact hnm
        refine ⟨by show 0 ≤ sizeLine; decide, fun ra nra => ?_⟩
        obtain ⟨H8, z, s8, hra8⟩ := fresh nra (.lst [])
        rw [z]
        clear z
        have d8 := d7.same s8
        have ora := d7.s.off nra
        have nraH := d7.none nra
        have rafa : ra ≠ fa := (ne_of_none hf7 nra).symm
        have ral : ra ≠ l' := (ne_of_none hl7 nra).symm
        have raq : ra ≠ nq := (ne_of_none hq7 nra).symm
        have hps8 : GPairs (Or1 (Or1 (Off p c) fa) ra) H8 as ps := (hps.wide nra).keep (Same.keep s8) (Tups.of s8)
        refine ⟨_, rfl, p, c, 4, rfl, d8.s, by decide, by decide, fun r4 H9 r40 r41 k9 S9 => ?_⟩
        have d9 : Dr p c H H9 := d8.trans ⟨k9, S9⟩
        have hps9 := hps8.keep (Keep.mono (fun a h => .inl (.inl h)) k9) (d8.s.tups k9)
        have hra9 := k9 _ _ hra8 ora
        have hf9 := k9 _ _ (s8 _ _ hf7) ofa
        have hl9 := k9 _ _ (s8 _ _ hl7) ol'
        have hq9 := k9 _ _ (s8 _ _ hq7) oq
        refine ⟨r4, rfl, by omega, by omega, for_it (walk_range (lo := 0) (n := r4.toNat)) (fun j σ Hx => Dr p c H Hx ∧ Keep (Or1 (Off p c) ra) H9 Hx ∧ ∃ rs rows v6 v7, σ = [some (.ref p), some (.ref l'), some (.ref fa), some (.int ((ownersOf ps).map Prod.fst ++ rows.map (·.1)).length), some (.str nm), some (.ref ra), v6, v7, none, none] ∧
            Hx ra = some (.lst (rs.map V.ref)) ∧ RowsAt Hx rs rows ∧ NamesOk ((ownersOf ps).map Prod.fst ++ rows.map (·.1)) ∧ (∀ r ∈ rows, RowOk ks' r) ∧ (rows.map fun r => r.2.1).Nodup ∧ rows.length ≤ j)
          ⟨d9, Keep.refl, [], [], _, _, by rw [List.map_nil, List.append_nil]; rfl, hra9, .nil, by rw [List.map_nil, List.append_nil]; exact dr.vn, (fun r h => nomatch h), List.nodup_nil, Nat.le_refl _⟩ (fun _ _ _ _ _ => trivial) ?_ ?_⟩
        · rintro j x σ Hx Hy hj ⟨dx, kx, rs, rows, v6, v7, rfl, hrax, hrows, nok, own, nod, few⟩ ⟨rfl, rfl⟩
          have j3 : j < 3 := by omega
          refine ⟨_, rfl, p, c, 2, rfl, dx.s, by decide, by decide, fun r5 Ha r50 r51 ka Sa => ?_⟩
          have da : Dr p c H Ha := dx.trans ⟨ka, Sa⟩
          have kxa : Keep (Or1 (Off p c) ra) H9 Ha := kx.trans (Keep.mono (fun a h => .inl h) ka)
          have hlx : Ha l' = some (.lst (ks'.map V.str)) := kxa _ _ hl9 (fun z => z.elim ol' ral.symm)
          refine ⟨_, _, rfl, rfl, _, rfl, by omega, by omega, fun D nD => lc_it (walk_range (lo := 0) (n := (1 + r5).toNat)) (fun t Hb => Dr p c Ha Hb ∧ ∃ us : List Str, Hb D = some (.lst (us.map V.str)) ∧ us.length = t ∧ ∀ u ∈ us, u ∈ ks') ⟨(Dr.refl Sa).same (same_new nD), [], upd_same, rfl, (fun u h => nomatch h)⟩ (fun _ _ _ _ => trivial) ?_ ?_⟩
          · rintro t x Hb Hc ht ⟨db, us, eD, lu, mu⟩ ⟨rfl, rfl⟩
            have oD := Sa.off nD
            refine ⟨rfl, _, rfl, _, rfl, p, c, l', _, rfl, db.s, db.k _ _ hlx ol', ol', by rw [List.length_map]; exact ks1, by rw [List.length_map]; have := okK.few; omega, fun v Hd hv kd Sd => ?_⟩
            obtain ⟨u, hu, rfl⟩ := str_in hv
            refine ⟨_, kd _ _ eD oD, ?_, (db.trans ⟨kd, Sd⟩).at nD oD, us ++ [u], ?_, ?_, ?_⟩
            · rw [List.length_map]
              exact small1000 (by omega)
            · rw [upd_same, List.map_append]
              rfl
            · rw [List.length_append, lu]
              rfl
            · intro y hy
              rcases List.mem_append.mp hy with hy | hy
              · exact mu y hy
              · cases List.mem_singleton.mp hy
                exact hu
          · rintro Hb ⟨db, us, eD, lu, mu⟩
            refine ⟨D, _, rfl, .inl eD, fun ot Hc sc eot _ => ?_⟩
            have dc : Dr p c H Hc := (da.trans db).same sc
            have kc : Keep (Or1 (Off p c) ra) H9 Hc := kxa.trans ((Keep.mono (fun a h => .inl h) db.k).trans (Same.keep sc))
            have tc : Tups Hy Hc := (dx.s.tups ka).trans ((Sa.tups db.k).trans (Tups.of sc))
            have hrac : Hc ra = some (.lst (rs.map V.ref)) := sc _ _ (db.k _ _ (ka _ _ hrax ora) ora)
            have hrowsc := hrows.tups tc
            have spl : rs.length = rows.length := Paired.length hrows
            have lus : us.length = 1 ∨ us.length = 2 := by omega
            clear db sc
            refine ⟨_, rfl, _, rfl, ra, rfl, ⟨_, SqL.of hrac⟩, fun D2 nD2 => lc_it (walk_list (K := K) (a := ra) (xs := rs.map V.ref)) (fun t Hd => Same Hc Hd ∧ ∃ os, Hd D2 = some (.lst (os.map V.ref)) ∧ Paired (fun o (r : Row) => Hc o = some (.tup (r.2.1.map V.str))) os (rows.take t)) ⟨same_new nD2, [], upd_same, .nil⟩ (fun t Hd _ ⟨sm, _⟩ => SqL.of (sm _ _ hrac)) ?_ ?_⟩
            · rintro t x Hd He ht ⟨sd, os, eD2, hos⟩ ⟨rfl, hx⟩
              rw [List.getElem?_map] at hx
              obtain ⟨a, ha, rfl⟩ := Option.map_eq_some_iff.mp hx
              obtain ⟨row, er, o, t1, t2⟩ := Paired.at hrowsc ha
              refine ⟨rfl, _, rfl, a, _, _, .ref o, rfl, rfl, SqT.of (sd _ _ t1), atI_nat (j := 1) rfl, _, eD2, ?_, fun b ob e => ?_, os ++ [o], ?_, ?_⟩
              · rw [List.length_map, Paired.length hos, List.length_take]
                exact small1000 (by omega)
              · rw [upd_ne (ne_of_none e nD2)]
                exact sd _ _ e
              · rw [upd_same, List.map_append]
                rfl
              · rw [List.take_add_one, er]
                exact Paired.snoc hos t2
            · rintro Hd ⟨sd, os, eD2, hos⟩
              rw [List.length_map, spl, List.take_length] at hos
              have hos' : Paired (fun o (r : Row) => Hd o = some (.tup (r.2.1.map V.str))) os rows := Paired.imp (fun _ _ h => sd _ _ h) hos
              have dz : (txtsD us).depth ≤ 60 := by
                show PyData.depthAll (us.map .str) + 1 ≤ 60
                rw [depth_strs]
                decide
              refine ⟨D2, _, _, txtsD us, rfl, SqL.of eD2, dps_rows hos', dp_tupS (sd _ _ eot), dz, _, rfl, ?_⟩
              rw [any_rows]
              have dd := dc.same sd
              have kd := kc.trans (Same.keep sd)
              have hrad := sd _ _ hrac
              have hrowsd := hrowsc.tups (Tups.of sd)
              have eotd := sd _ _ eot
              have hld : Hd l' = some (.lst (ks'.map V.str)) := kd _ _ hl9 (fun z => z.elim ol' ral.symm)
              clear sd dc kc hrac hrowsc eD2 hos hos' nD2 eot tc eD
              refine ite2 (fun hno => ?_) (fun _ => ?_)
              · have new : ∀ r ∈ rows, r.2.1 ≠ us := fun r hr e => by
                  have : rows.any (fun r => decide (r.2.1 = us)) = true := List.any_eq_true.mpr ⟨r, hr, decide_eq_true e⟩
                  rw [this] at hno
                  cases hno
                refine ⟨_, rfl, .inl ⟨rfl, _, SqL.of hrad⟩, by show 3 ≤ sizeLine; decide, fun g1 ng1 => ?_⟩
                obtain ⟨He, z, se, eg1⟩ := fresh ng1 (.lst (vaw.map V.str))
                erw [z]
                clear z
                have og1 := dd.s.off ng1
                have de := dd.same se
                refine ⟨_, rfl, p, c, 3, rfl, de.s, by decide, by decide, fun r6 Hf r60 r61 kf Sf => ?_⟩
                obtain ⟨vx, hvx, mvx⟩ := at_int (xs := vaw.map V.str) r60 r61
                obtain ⟨vn, hvn, rfl⟩ := str_in mvx
                have df : Dr p c H Hf := de.trans ⟨kf, Sf⟩
                have lvn : vn.length ≤ 1 := by
                  have h1 : ∀ y ∈ vaw, y.length ≤ 1 := by decide +kernel
                  exact h1 vn hvn
                have l9 : ((ownersOf ps).map Prod.fst ++ rows.map (·.1)).length ≤ 900 := by
                  rw [List.length_append, List.length_map, List.length_map]
                  have := dr.few
                  have : i < 3 := by rw [nlen] at hi; omega
                  omega
                refine ⟨g1, _, r6, _, rfl, rfl, SqL.of (kf _ _ eg1 og1), hvx, _, rfl, _, rfl, (toldInt (by omega) (by omega)).1, _, _, rfl, rfl, ?_, _, rfl, _, rfl, _, rfl, by show 1 ≤ sizeLine; decide, fun g2 ng2 => ?_⟩
                · have := (toldInt (i := (((ownersOf ps).map Prod.fst ++ rows.map (·.1)).length : Int)) (by omega) (by omega)).2
                  exact Nat.le_trans (Nat.add_le_add lvn this) (by decide)
                · obtain ⟨Hg, z, sg, eg2⟩ := fresh ng2 (.lst [.str "bit"])
                  rw [z]
                  clear z
                  have dg := df.same sg
                  have hlg : Hg l' = some (.lst (ks'.map V.str)) := sg _ _ (kf _ _ (se _ _ hld) ol')
                  refine ⟨l', g2, _, _, rfl, rfl, hlg, eg2, by rw [List.length_map]; exact Nat.le_trans (Nat.add_le_add okK.few (Nat.le_refl 1)) (by decide), fun g3 ng3 => ?_⟩
                  obtain ⟨Hh, z, sh, eg3⟩ := fresh ng3 (.lst (ks'.map V.str ++ [.str "bit"]))
                  rw [z]
                  clear z
                  have dh := dg.same sh
                  refine ⟨p, c, g3, _, rfl, dh.s, eg3, dg.s.off ng3, by rw [List.length_append]; exact Nat.le_add_left 1 _, ?_, fun v Hi hv ki Si => ?_⟩
                  · rw [List.length_append, List.length_map]
                    have := okK.few
                    show _ + 1 ≤ 1000
                    omega
                  · have di : Dr p c H Hi := dh.trans ⟨ki, Si⟩
                    obtain ⟨res, hres, rfl⟩ : ∃ res : Str, (res = "bit" ∨ res ∈ ks') ∧ v = .str res := by
                      rcases List.mem_append.mp hv with hv | hv
                      · obtain ⟨u, hu, rfl⟩ := str_in hv
                        exact ⟨u, .inr hu, rfl⟩
                      · exact ⟨"bit", .inl rfl, List.mem_singleton.mp hv⟩
                    have tdi : Tups Hd Hi := (Tups.of se).trans ((de.s.tups kf).trans ((Tups.of sg).trans ((Tups.of sh).trans (dh.s.tups ki))))
                    have kdi : Keep (Off p c) Hd Hi := (Same.keep se).trans (kf.trans ((Same.keep sg).trans ((Same.keep sh).trans ki)))
                    have nme : vn ++ Str.ofString (toString ((((ownersOf ps).map Prod.fst ++ rows.map (·.1)).length : Nat) : Int)) = nmV vn ((ownersOf ps).map Prod.fst ++ rows.map (·.1)).length := rfl
                    rw [nme]
                    refine ⟨by show 3 ≤ sizeLine; decide, fun rt nrt => ?_⟩
                    obtain ⟨Hj, z, sj, ert⟩ := fresh nrt (.tup [.str (nmV vn ((ownersOf ps).map Prod.fst ++ rows.map (·.1)).length), .ref ot, .str res])
                    rw [z]
                    clear z
                    have dj := di.same sj
                    have hraj : Hj ra = some (.lst (rs.map V.ref)) := sj _ _ (kdi _ _ hrad ora)
                    have tdj : Tups Hd Hj := tdi.trans (Tups.of sj)
                    refine ⟨ra, _, _, rfl, rfl, hraj, by rw [List.length_map, spl]; exact small1000 (by omega), _, rfl, _, _, rfl, rfl, ?_⟩
                    have tk : Tups Hj (upd Hj ra (.lst (rs.map V.ref ++ [.ref rt]))) := Tups.lock hraj fun _ z => nomatch z
                    refine ⟨dj.at nraH ora, (kd.trans (Keep.mono (fun a h => .inl h) kdi)).trans ((Same.keep sj).trans (Keep.mono (fun a h => .inr h) keep_upd)), rs ++ [rt], rows ++ [(nmV vn ((ownersOf ps).map Prod.fst ++ rows.map (·.1)).length, us, res)], some (.int (0 + (j : Int))), some (.ref ot), ?_, ?_, ?_, ?_, ?_, ?_, ?_⟩
                    · rw [List.map_append, ← List.append_assoc, List.length_append (as := (ownersOf ps).map Prod.fst ++ rows.map (·.1))]
                      rfl
                    · rw [upd_same, List.map_append]
                      rfl
                    · exact Paired.snoc (hrowsd.tups (tdj.trans tk)) ⟨ot, tk _ _ ert, tk _ _ (tdj _ _ eotd)⟩
                    · rw [List.map_append, ← List.append_assoc]
                      exact nok.snoc hvn
                    · intro r' hr'
                      rcases List.mem_append.mp hr' with hr' | hr'
                      · exact own r' hr'
                      · cases List.mem_singleton.mp hr'
                        exact ⟨lus, mu, hres⟩
                    · rw [List.map_append]
                      refine List.nodup_append.mpr ⟨nod, by simp, ?_⟩
                      rintro a ha b hb rfl
                      obtain ⟨r', hr', rfl⟩ := List.mem_map.mp ha
                      exact new r' hr' (List.mem_singleton.mp hb)
                    · rw [List.length_append]
                      show rows.length + 1 ≤ j + 1
                      omega
              · exact ⟨dd, kd, rs, rows, _, _, rfl, hrad, hrowsd, nok, own, nod, by omega⟩
        · rintro σ Hx ⟨dx, kx, rs, rows, v6, v7, rfl, hrax, hrows, nok, own, nod, few⟩
          have hfx : Hx fa = some (.lst (as.map V.ref)) := kx _ _ hf9 (fun z => z.elim ofa rafa.symm)
          have tx : Tups H9 Hx := fun b xs e => kx _ _ e (fun z => by
            rcases z with z | z
            · have := d9.s.tups (H' := H9) Keep.refl
              obtain ⟨_, ns, l1, m1, t1, hp1, hc1, _⟩ := d9.s
              rcases z with z | z
              · rw [z, hp1] at e
                cases e
              · rw [z, hc1] at e
                cases e
            · rw [z, hra9] at e
              cases e)
          have hpsx : GPairs (Or1 (Or1 (Off p c) fa) ra) Hx as ps := hps9.keep (Keep.mono (fun a h => h.elim (fun h => .inl (.inl h)) .inr) kx) tx
          have spl : as.length = ps.length := Paired.length hps
          have lps : ps.length ≤ 3 := by
            have := congrArg List.length dr.names
            rw [List.length_map, List.length_take] at this
            have b3 : base3.length = 3 := rfl
            omega
          refine ⟨_, rfl, .inl ⟨rfl, _, SqL.of hfx⟩, _, rfl, _, rfl, by show 2 ≤ sizeLine; decide, fun pt npt => ?_⟩
          obtain ⟨Hy, z, sy, ept⟩ := fresh npt (.tup [.str nm, .ref ra])
          rw [z]
          clear z
          have dy := dx.same sy
          have hfy := sy _ _ hfx
          refine ⟨fa, _, _, rfl, rfl, hfy, by rw [List.length_map, spl]; exact small1000 (by omega), ?_⟩
          have ty : Tups Hy (upd Hy fa (.lst (as.map V.ref ++ [.ref pt]))) := Tups.lock hfy fun _ z => nomatch z
          refine ⟨dy.at nfaH ofa, ?_, ?_, as ++ [pt], ps ++ [(nm, rows)], some (.str nm), some (.ref ra), v6, v7, ?_, ?_, ?_, ?_⟩
          · rw [upd_ne qfa]
            exact sy _ _ (kx _ _ hq9 (fun z => z.elim oq raq.symm))
          · rw [upd_ne lfa']
            exact sy _ _ (kx _ _ hl9 (fun z => z.elim ol' ral.symm))
          · rw [owners_snoc, List.map_append, List.map_map]
            rfl
          · rw [upd_same, List.map_append]
            rfl
          · refine Paired.snoc ((((hpsx.keep (Same.keep sy) (Tups.of sy)).narrow fun a h => .inl h)).keep (Keep.mono (fun a h => .inr h) keep_upd) ty) ⟨ra, rs, ty _ _ ept, ?_, (hrows.tups (Tups.of sy)).tups ty, fun z => z.elim ora rafa⟩
            rw [upd_ne rafa]
            exact sy _ _ hrax
          · exact dr.snoc hnm3 ⟨own, nod, by omega⟩ nok
      · rintro σ H6 ⟨d7, hq7, hl7, as, ps, v4, v5, v6, v7, rfl, hf7, hps, dr⟩
        rw [nlen] at dr
        have okP := dr.ok n3le
        intro gr ngr
        obtain ⟨H8, z, s8, eg8⟩ := fresh ngr (.dK [])
        rw [z]
        clear z
        have d8 := d7.same s8
        have hps8 := hps.keep (Same.keep s8) (Tups.of s8)
        obtain ⟨kvs, pk, pe⟩ := pairs_dict (K := K) hps8
        refine ⟨_, rfl, _, rfl, _, rfl, _, rfl, fa, as, kvs, rfl, SqL.of (s8 _ _ hf7), pk, fun dd ndd => ?_⟩
        have nodk : ((([] : List (Key × V)) ++ kvs).map (·.1)).Nodup := by
          rw [List.nil_append, pents_keys pe]
          have := nod_inr okP.names
          rwa [List.map_map] at this
        rw [merge_nod nodk, List.nil_append]
        obtain ⟨H9, z, s9, ed9⟩ := fresh ndd (.dK kvs)
        rw [z]
        clear z
        have d9 := d8.same s9
        intro x dx nx ndx ne
        have s10 : Same H9 (upd (upd H9 dx (.own x)) x (.ins C dx [])) := (same_new ndx).trans (same_new (by rw [upd_ne ne.symm]; exact nx))
        have x10 : upd (upd H9 dx (.own x)) x (.ins C dx []) x = some (.ins C dx []) := upd_same
        generalize upd (upd H9 dx (.own x)) x (.ins C dx []) = H10 at s10 x10
        have d10 := d9.same s10
        refine ⟨x, dx, l', dd, ks', kvs, ps, rfl, x10, s10 _ _ (s9 _ _ (s8 _ _ hl7)), okK, s10 _ _ ed9, (pe.std (Std.of s9)).std (Std.of s10), okP, fun H' dx' ka ow pr es kvs' back eg eka eow hes epr hpr now npr => ?_⟩
        have sb : Same H9 H' := fun b o e => back b o (ne_of_none e nx) (s10 _ _ e)
        have eg' := sb _ _ (s9 _ _ eg8)
        refine ⟨rfl, eg', [(Sum.inr "kinds", .ref l'), (Sum.inr "primitives", .ref fa), (Sum.inr "made", .ref x)], rfl, by show 3 ≤ 15; decide, ?_⟩
        have ogr := d7.s.off ngr
        have ngrH := d7.none ngr
        have S' : Same H8 H' := s9.trans sb
        have tg : Tups H' (upd H' gr (.dK (mergeK [] [(Sum.inr "kinds", .ref l'), (Sum.inr "primitives", .ref fa), (Sum.inr "made", .ref x)]))) := Tups.lock eg' fun _ z => nomatch z
        have kg : Keep (· = gr) H' (upd H' gr (.dK (mergeK [] [(Sum.inr "kinds", .ref l'), (Sum.inr "primitives", .ref fa), (Sum.inr "made", .ref x)]))) := keep_upd
        have g10 := s10 _ _ (s9 _ _ eg8)
        have lg : l' ≠ gr := ne_of_none hl7 ngr
        have fg : fa ≠ gr := ne_of_none hf7 ngr
        have hgps : GPairs (Or1 (Off p c) gr) H' as ps := ((hps.narrow fun a h => .inl h).wide ngr).keep (Same.keep (s8.trans S')) (Tups.of (s8.trans S'))
        refine q gr ks' ps n3 _ okK okZ ⟨fun z => by rw [z] at ks1; exact absurd ks1 (by decide), ks3⟩ (by omega) n3le dr ⟨l', fa, x, as, upd_same, ?_, ?_, (hgps.keep (Keep.mono (fun a h => .inr h) kg) tg).narrow fun a h => .inl h, ⟨dx', ka, ow, pr, es, kvs', ?_, tg _ _ eka, ?_, hes.tups tg, ?_, hpr.tups tg, ?_, ?_, ?_⟩, ogr, ol', ofa⟩ ((d9.same sb).at ngrH ogr) ogr
        · rw [upd_ne lg]
          exact S' _ _ (s8 _ _ hl7)
        · rw [upd_ne fg]
          exact S' _ _ (s8 _ _ hf7)
        · exact kg _ _ eg (ne_of_none (s9 _ _ eg8) nx).symm
        · exact kg _ _ eow (ne_of_none g10 now).symm
        · exact kg _ _ epr (ne_of_none g10 npr).symm
        · exact d9.s.off nx
        · exact d10.s.off now
        · exact d10.s.off npr
    · have okK := okK0
      have ks1 := ks10
      have ks3 := ks30
      have okZ := okZ0
      have hl7 := hl6
      have d7 := d6
      have hf7 := hf6
      have ol' := ol
      have nlH' := nlH
      have lfa' := lfa
      refine ⟨by show 3 ≤ sizeLine; decide, fun b0 nb0 => ?_⟩
      obtain ⟨H8, z, s8, e8⟩ := fresh nb0 (.lst (base3.map V.str))
      erw [z]
      clear z
      have d8 := d7.same s8
      have ob0 := d7.s.off nb0
      refine ⟨_, rfl, p, c, 3, rfl, d8.s, by decide, by decide, fun r3 H9 r30 r31 k9 S9 => ?_⟩
      have d9 : Dr p c H H9 := d8.trans ⟨k9, S9⟩
      refine ⟨_, _, rfl, rfl, _, rfl, b0, _, rfl, SqL.of (k9 _ _ e8 ob0), fun nq nnq => ?_⟩
      rw [cut_strs r30 (by show 1 + r3.toNat ≤ 3; omega)]
      obtain ⟨n3, hn3⟩ : ∃ n3, n3 = 1 + r3.toNat := ⟨_, rfl⟩
      rw [← hn3]
      have n3le : n3 ≤ 3 := by omega
      obtain ⟨H10, z, s10, hq10⟩ := fresh nnq (.lst ((base3.take n3).map V.str))
      rw [z]
      clear z
      have d10 := d9.same s10
      have oq := d9.s.off nnq
      have hl10 := s10 _ _ (k9 _ _ (s8 _ _ hl7) ol')
      have hf10 := s10 _ _ (k9 _ _ (s8 _ _ hf7) ofa)
      have qfa : nq ≠ fa := (ne_of_none (k9 _ _ (s8 _ _ hf7) ofa) nnq).symm
      clear s10 k9 S9 s8 e8 d9 d8 nnq nb0 ob0 hl7 hf7 d7
      have nlen : ((base3.take n3).map V.str).length = n3 := by
        rw [List.length_map, List.length_take]
        show min n3 3 = n3
        omega
      refine ⟨nq, rfl, ⟨_, SqL.of hq10⟩, for_it (walk_list (K := K) (a := nq) (xs := (base3.take n3).map V.str)) (fun i σ H6 => Dr p c H H6 ∧ H6 nq = some (.lst ((base3.take n3).map V.str)) ∧ H6 l = some (.lst (ks.map V.str)) ∧ ∃ as ps v4 v5 v6 v7, σ = [some (.ref p), some (.ref l), some (.ref fa), some (.int ((ownersOf ps).map Prod.fst).length), v4, v5, v6, v7, none, none] ∧
          H6 fa = some (.lst (as.map V.ref)) ∧ GPairs (Or1 (Off p c) fa) H6 as ps ∧ Drawn ks ps i)
        ⟨d10, hq10, hl10, [], [], _, _, _, _, rfl, hf10, .nil, Drawn.nil _⟩ (fun i σ H6 _ ⟨_, e, _⟩ => SqL.of e) ?_ ?_⟩
      · clear d10 hq10 hl10 hf10 H10
        rintro i x σ H6 H7 hi ⟨d7, hq7, hl7, as, ps, v4, v5, v6, v7, rfl, hf7, hps, dr⟩ ⟨rfl, hx⟩
        rw [List.getElem?_map] at hx
        obtain ⟨nm, hnm, rfl⟩ := Option.map_eq_some_iff.mp hx
        have hnm3 : base3[i]? = some nm := by
          rw [nlen] at hi
          rw [List.getElem?_take, if_pos (by omega)] at hnm
          exact hnm
        refine ⟨by show 0 ≤ sizeLine; decide, fun ra nra => ?_⟩
        obtain ⟨H8, z, s8, hra8⟩ := fresh nra (.lst [])
        rw [z]
        clear z
        have d8 := d7.same s8
        have ora := d7.s.off nra
        have nraH := d7.none nra
        have rafa : ra ≠ fa := (ne_of_none hf7 nra).symm
        have ral : ra ≠ l := (ne_of_none hl7 nra).symm
        have raq : ra ≠ nq := (ne_of_none hq7 nra).symm
        have hps8 : GPairs (Or1 (Or1 (Off p c) fa) ra) H8 as ps := (hps.wide nra).keep (Same.keep s8) (Tups.of s8)
        refine ⟨_, rfl, p, c, 4, rfl, d8.s, by decide, by decide, fun r4 H9 r40 r41 k9 S9 => ?_⟩
        have d9 : Dr p c H H9 := d8.trans ⟨k9, S9⟩
        have hps9 := hps8.keep (Keep.mono (fun a h => .inl (.inl h)) k9) (d8.s.tups k9)
        have hra9 := k9 _ _ hra8 ora
        have hf9 := k9 _ _ (s8 _ _ hf7) ofa
        have hl9 := k9 _ _ (s8 _ _ hl7) ol'
        have hq9 := k9 _ _ (s8 _ _ hq7) oq
        refine ⟨r4, rfl, by omega, by omega, for_it (walk_range (lo := 0) (n := r4.toNat)) (fun j σ Hx => Dr p c H Hx ∧ Keep (Or1 (Off p c) ra) H9 Hx ∧ ∃ rs rows v6 v7, σ = [some (.ref p), some (.ref l), some (.ref fa), some (.int ((ownersOf ps).map Prod.fst ++ rows.map (·.1)).length), some (.str nm), some (.ref ra), v6, v7, none, none] ∧
            Hx ra = some (.lst (rs.map V.ref)) ∧ RowsAt Hx rs rows ∧ NamesOk ((ownersOf ps).map Prod.fst ++ rows.map (·.1)) ∧ (∀ r ∈ rows, RowOk ks r) ∧ (rows.map fun r => r.2.1).Nodup ∧ rows.length ≤ j)
          ⟨d9, Keep.refl, [], [], _, _, by rw [List.map_nil, List.append_nil]; rfl, hra9, .nil, by rw [List.map_nil, List.append_nil]; exact dr.vn, (fun r h => nomatch h), List.nodup_nil, Nat.le_refl _⟩ (fun _ _ _ _ _ => trivial) ?_ ?_⟩
        · rintro j x σ Hx Hy hj ⟨dx, kx, rs, rows, v6, v7, rfl, hrax, hrows, nok, own, nod, few⟩ ⟨rfl, rfl⟩
          have j3 : j < 3 := by omega
          refine ⟨_, rfl, p, c, 2, rfl, dx.s, by decide, by decide, fun r5 Ha r50 r51 ka Sa => ?_⟩
          have da : Dr p c H Ha := dx.trans ⟨ka, Sa⟩
          have kxa : Keep (Or1 (Off p c) ra) H9 Ha := kx.trans (Keep.mono (fun a h => .inl h) ka)
          have hlx : Ha l = some (.lst (ks.map V.str)) := kxa _ _ hl9 (fun z => z.elim ol' ral.symm)
          refine ⟨_, _, rfl, rfl, _, rfl, by omega, by omega, fun D nD => lc_it (walk_range (lo := 0) (n := (1 + r5).toNat)) (fun t Hb => Dr p c Ha Hb ∧ ∃ us : List Str, Hb D = some (.lst (us.map V.str)) ∧ us.length = t ∧ ∀ u ∈ us, u ∈ ks) ⟨(Dr.refl Sa).same (same_new nD), [], upd_same, rfl, (fun u h => nomatch h)⟩ (fun _ _ _ _ => trivial) ?_ ?_⟩
          · rintro t x Hb Hc ht ⟨db, us, eD, lu, mu⟩ ⟨rfl, rfl⟩
            have oD := Sa.off nD
            refine ⟨rfl, _, rfl, _, rfl, p, c, l, _, rfl, db.s, db.k _ _ hlx ol', ol', by rw [List.length_map]; exact ks1, by rw [List.length_map]; have := okK.few; omega, fun v Hd hv kd Sd => ?_⟩
            obtain ⟨u, hu, rfl⟩ := str_in hv
            refine ⟨_, kd _ _ eD oD, ?_, (db.trans ⟨kd, Sd⟩).at nD oD, us ++ [u], ?_, ?_, ?_⟩
            · rw [List.length_map]
              exact small1000 (by omega)
            · rw [upd_same, List.map_append]
              rfl
            · rw [List.length_append, lu]
              rfl
            · intro y hy
              rcases List.mem_append.mp hy with hy | hy
              · exact mu y hy
              · cases List.mem_singleton.mp hy
                exact hu
          · rintro Hb ⟨db, us, eD, lu, mu⟩
            refine ⟨D, _, rfl, .inl eD, fun ot Hc sc eot _ => ?_⟩
            have dc : Dr p c H Hc := (da.trans db).same sc
            have kc : Keep (Or1 (Off p c) ra) H9 Hc := kxa.trans ((Keep.mono (fun a h => .inl h) db.k).trans (Same.keep sc))
            have tc : Tups Hy Hc := (dx.s.tups ka).trans ((Sa.tups db.k).trans (Tups.of sc))
            have hrac : Hc ra = some (.lst (rs.map V.ref)) := sc _ _ (db.k _ _ (ka _ _ hrax ora) ora)
            have hrowsc := hrows.tups tc
            have spl : rs.length = rows.length := Paired.length hrows
            have lus : us.length = 1 ∨ us.length = 2 := by omega
            clear db sc
            refine ⟨_, rfl, _, rfl, ra, rfl, ⟨_, SqL.of hrac⟩, fun D2 nD2 => lc_it (walk_list (K := K) (a := ra) (xs := rs.map V.ref)) (fun t Hd => Same Hc Hd ∧ ∃ os, Hd D2 = some (.lst (os.map V.ref)) ∧ Paired (fun o (r : Row) => Hc o = some (.tup (r.2.1.map V.str))) os (rows.take t)) ⟨same_new nD2, [], upd_same, .nil⟩ (fun t Hd _ ⟨sm, _⟩ => SqL.of (sm _ _ hrac)) ?_ ?_⟩
            · rintro t x Hd He ht ⟨sd, os, eD2, hos⟩ ⟨rfl, hx⟩
              rw [List.getElem?_map] at hx
              obtain ⟨a, ha, rfl⟩ := Option.map_eq_some_iff.mp hx
              obtain ⟨row, er, o, t1, t2⟩ := Paired.at hrowsc ha
              refine ⟨rfl, _, rfl, a, _, _, .ref o, rfl, rfl, SqT.of (sd _ _ t1), atI_nat (j := 1) rfl, _, eD2, ?_, fun b ob e => ?_, os ++ [o], ?_, ?_⟩
              · rw [List.length_map, Paired.length hos, List.length_take]
                exact small1000 (by omega)
              · rw [upd_ne (ne_of_none e nD2)]
                exact sd _ _ e
              · rw [upd_same, List.map_append]
                rfl
              · rw [List.take_add_one, er]
                exact Paired.snoc hos t2
            · rintro Hd ⟨sd, os, eD2, hos⟩
              rw [List.length_map, spl, List.take_length] at hos
              have hos' : Paired (fun o (r : Row) => Hd o = some (.tup (r.2.1.map V.str))) os rows := Paired.imp (fun _ _ h => sd _ _ h) hos
              have dz : (txtsD us).depth ≤ 60 := by
                show PyData.depthAll (us.map .str) + 1 ≤ 60
                rw [depth_strs]
                decide
              refine ⟨D2, _, _, txtsD us, rfl, SqL.of eD2, dps_rows hos', dp_tupS (sd _ _ eot), dz, _, rfl, ?_⟩
              rw [any_rows]
              have dd := dc.same sd
              have kd := kc.trans (Same.keep sd)
              have hrad := sd _ _ hrac
              have hrowsd := hrowsc.tups (Tups.of sd)
              have eotd := sd _ _ eot
              have hld : Hd l = some (.lst (ks.map V.str)) := kd _ _ hl9 (fun z => z.elim ol' ral.symm)
              clear sd dc kc hrac hrowsc eD2 hos hos' nD2 eot tc eD
              refine ite2 (fun hno => ?_) (fun _ => ?_)
              · have new : ∀ r ∈ rows, r.2.1 ≠ us := fun r hr e => by
                  have : rows.any (fun r => decide (r.2.1 = us)) = true := List.any_eq_true.mpr ⟨r, hr, decide_eq_true e⟩
                  rw [this] at hno
                  cases hno
                refine ⟨_, rfl, .inl ⟨rfl, _, SqL.of hrad⟩, by show 3 ≤ sizeLine; decide, fun g1 ng1 => ?_⟩
                obtain ⟨He, z, se, eg1⟩ := fresh ng1 (.lst (vaw.map V.str))
                erw [z]
                clear z
                have og1 := dd.s.off ng1
                have de := dd.same se
                refine ⟨_, rfl, p, c, 3, rfl, de.s, by decide, by decide, fun r6 Hf r60 r61 kf Sf => ?_⟩
                obtain ⟨vx, hvx, mvx⟩ := at_int (xs := vaw.map V.str) r60 r61
                obtain ⟨vn, hvn, rfl⟩ := str_in mvx
                have df : Dr p c H Hf := de.trans ⟨kf, Sf⟩
                have lvn : vn.length ≤ 1 := by
                  have h1 : ∀ y ∈ vaw, y.length ≤ 1 := by decide +kernel
                  exact h1 vn hvn
                have l9 : ((ownersOf ps).map Prod.fst ++ rows.map (·.1)).length ≤ 900 := by
                  rw [List.length_append, List.length_map, List.length_map]
                  have := dr.few
                  have : i < 3 := by rw [nlen] at hi; omega
                  omega
                refine ⟨g1, _, r6, _, rfl, rfl, SqL.of (kf _ _ eg1 og1), hvx, _, rfl, _, rfl, (toldInt (by omega) (by omega)).1, _, _, rfl, rfl, ?_, _, rfl, _, rfl, _, rfl, by show 1 ≤ sizeLine; decide, fun g2 ng2 => ?_⟩
                · have := (toldInt (i := (((ownersOf ps).map Prod.fst ++ rows.map (·.1)).length : Int)) (by omega) (by omega)).2
                  exact Nat.le_trans (Nat.add_le_add lvn this) (by decide)
                · obtain ⟨Hg, z, sg, eg2⟩ := fresh ng2 (.lst [.str "bit"])
                  rw [z]
                  clear z
                  have dg := df.same sg
                  have hlg : Hg l = some (.lst (ks.map V.str)) := sg _ _ (kf _ _ (se _ _ hld) ol')
                  refine ⟨l, g2, _, _, rfl, rfl, hlg, eg2, by rw [List.length_map]; exact Nat.le_trans (Nat.add_le_add okK.few (Nat.le_refl 1)) (by decide), fun g3 ng3 => ?_⟩
                  obtain ⟨Hh, z, sh, eg3⟩ := fresh ng3 (.lst (ks.map V.str ++ [.str "bit"]))
                  rw [z]
                  clear z
                  have dh := dg.same sh
                  refine ⟨p, c, g3, _, rfl, dh.s, eg3, dg.s.off ng3, by rw [List.length_append]; exact Nat.le_add_left 1 _, ?_, fun v Hi hv ki Si => ?_⟩
                  · rw [List.length_append, List.length_map]
                    have := okK.few
                    show _ + 1 ≤ 1000
                    omega
                  · have di : Dr p c H Hi := dh.trans ⟨ki, Si⟩
                    obtain ⟨res, hres, rfl⟩ : ∃ res : Str, (res = "bit" ∨ res ∈ ks) ∧ v = .str res := by
                      rcases List.mem_append.mp hv with hv | hv
                      · obtain ⟨u, hu, rfl⟩ := str_in hv
                        exact ⟨u, .inr hu, rfl⟩
                      · exact ⟨"bit", .inl rfl, List.mem_singleton.mp hv⟩
                    have tdi : Tups Hd Hi := (Tups.of se).trans ((de.s.tups kf).trans ((Tups.of sg).trans ((Tups.of sh).trans (dh.s.tups ki))))
                    have kdi : Keep (Off p c) Hd Hi := (Same.keep se).trans (kf.trans ((Same.keep sg).trans ((Same.keep sh).trans ki)))
                    have nme : vn ++ Str.ofString (toString ((((ownersOf ps).map Prod.fst ++ rows.map (·.1)).length : Nat) : Int)) = nmV vn ((ownersOf ps).map Prod.fst ++ rows.map (·.1)).length := rfl
                    rw [nme]
                    refine ⟨by show 3 ≤ sizeLine; decide, fun rt nrt => ?_⟩
                    obtain ⟨Hj, z, sj, ert⟩ := fresh nrt (.tup [.str (nmV vn ((ownersOf ps).map Prod.fst ++ rows.map (·.1)).length), .ref ot, .str res])
                    rw [z]
                    clear z
                    have dj := di.same sj
                    have hraj : Hj ra = some (.lst (rs.map V.ref)) := sj _ _ (kdi _ _ hrad ora)
                    have tdj : Tups Hd Hj := tdi.trans (Tups.of sj)
                    refine ⟨ra, _, _, rfl, rfl, hraj, by rw [List.length_map, spl]; exact small1000 (by omega), _, rfl, _, _, rfl, rfl, ?_⟩
                    have tk : Tups Hj (upd Hj ra (.lst (rs.map V.ref ++ [.ref rt]))) := Tups.lock hraj fun _ z => nomatch z
                    refine ⟨dj.at nraH ora, (kd.trans (Keep.mono (fun a h => .inl h) kdi)).trans ((Same.keep sj).trans (Keep.mono (fun a h => .inr h) keep_upd)), rs ++ [rt], rows ++ [(nmV vn ((ownersOf ps).map Prod.fst ++ rows.map (·.1)).length, us, res)], some (.int (0 + (j : Int))), some (.ref ot), ?_, ?_, ?_, ?_, ?_, ?_, ?_⟩
                    · rw [List.map_append, ← List.append_assoc, List.length_append (as := (ownersOf ps).map Prod.fst ++ rows.map (·.1))]
                      rfl
                    · rw [upd_same, List.map_append]
                      rfl
                    · exact Paired.snoc (hrowsd.tups (tdj.trans tk)) ⟨ot, tk _ _ ert, tk _ _ (tdj _ _ eotd)⟩
                    · rw [List.map_append, ← List.append_assoc]
                      exact nok.snoc hvn
                    · intro r' hr'
                      rcases List.mem_append.mp hr' with hr' | hr'
                      · exact own r' hr'
                      · cases List.mem_singleton.mp hr'
                        exact ⟨lus, mu, hres⟩
                    · rw [List.map_append]
                      refine List.nodup_append.mpr ⟨nod, by simp, ?_⟩
                      rintro a ha b hb rfl
                      obtain ⟨r', hr', rfl⟩ := List.mem_map.mp ha
                      exact new r' hr' (List.mem_singleton.mp hb)
                    · rw [List.length_append]
                      show rows.length + 1 ≤ j + 1
                      omega
              · exact ⟨dd, kd, rs, rows, _, _, rfl, hrad, hrowsd, nok, own, nod, by omega⟩
        · rintro σ Hx ⟨dx, kx, rs, rows, v6, v7, rfl, hrax, hrows, nok, own, nod, few⟩
          have hfx : Hx fa = some (.lst (as.map V.ref)) := kx _ _ hf9 (fun z => z.elim ofa rafa.symm)
          have tx : Tups H9 Hx := fun b xs e => kx _ _ e (fun z => by
            rcases z with z | z
            · have := d9.s.tups (H' := H9) Keep.refl
              obtain ⟨_, ns, l1, m1, t1, hp1, hc1, _⟩ := d9.s
              rcases z with z | z
              · rw [z, hp1] at e
                cases e
              · rw [z, hc1] at e
                cases e
            · rw [z, hra9] at e
              cases e)
          have hpsx : GPairs (Or1 (Or1 (Off p c) fa) ra) Hx as ps := hps9.keep (Keep.mono (fun a h => h.elim (fun h => .inl (.inl h)) .inr) kx) tx
          have spl : as.length = ps.length := Paired.length hps
          have lps : ps.length ≤ 3 := by
            have := congrArg List.length dr.names
            rw [List.length_map, List.length_take] at this
            have b3 : base3.length = 3 := rfl
            omega
          refine ⟨_, rfl, .inl ⟨rfl, _, SqL.of hfx⟩, _, rfl, _, rfl, by show 2 ≤ sizeLine; decide, fun pt npt => ?_⟩
          obtain ⟨Hy, z, sy, ept⟩ := fresh npt (.tup [.str nm, .ref ra])
          rw [z]
          clear z
          have dy := dx.same sy
          have hfy := sy _ _ hfx
          refine ⟨fa, _, _, rfl, rfl, hfy, by rw [List.length_map, spl]; exact small1000 (by omega), ?_⟩
          have ty : Tups Hy (upd Hy fa (.lst (as.map V.ref ++ [.ref pt]))) := Tups.lock hfy fun _ z => nomatch z
          refine ⟨dy.at nfaH ofa, ?_, ?_, as ++ [pt], ps ++ [(nm, rows)], some (.str nm), some (.ref ra), v6, v7, ?_, ?_, ?_, ?_⟩
          · rw [upd_ne qfa]
            exact sy _ _ (kx _ _ hq9 (fun z => z.elim oq raq.symm))
          · rw [upd_ne lfa']
            exact sy _ _ (kx _ _ hl9 (fun z => z.elim ol' ral.symm))
          · rw [owners_snoc, List.map_append, List.map_map]
            rfl
          · rw [upd_same, List.map_append]
            rfl
          · refine Paired.snoc ((((hpsx.keep (Same.keep sy) (Tups.of sy)).narrow fun a h => .inl h)).keep (Keep.mono (fun a h => .inr h) keep_upd) ty) ⟨ra, rs, ty _ _ ept, ?_, (hrows.tups (Tups.of sy)).tups ty, fun z => z.elim ora rafa⟩
            rw [upd_ne rafa]
            exact sy _ _ hrax
          · exact dr.snoc hnm3 ⟨own, nod, by omega⟩ nok
      · rintro σ H6 ⟨d7, hq7, hl7, as, ps, v4, v5, v6, v7, rfl, hf7, hps, dr⟩
        rw [nlen] at dr
        have okP := dr.ok n3le
        intro gr ngr
        obtain ⟨H8, z, s8, eg8⟩ := fresh ngr (.dK [])
        rw [z]
        clear z
        have d8 := d7.same s8
        have hps8 := hps.keep (Same.keep s8) (Tups.of s8)
        obtain ⟨kvs, pk, pe⟩ := pairs_dict (K := K) hps8
        refine ⟨_, rfl, _, rfl, _, rfl, _, rfl, fa, as, kvs, rfl, SqL.of (s8 _ _ hf7), pk, fun dd ndd => ?_⟩
        have nodk : ((([] : List (Key × V)) ++ kvs).map (·.1)).Nodup := by
          rw [List.nil_append, pents_keys pe]
          have := nod_inr okP.names
          rwa [List.map_map] at this
        rw [merge_nod nodk, List.nil_append]
        obtain ⟨H9, z, s9, ed9⟩ := fresh ndd (.dK kvs)
        rw [z]
        clear z
        have d9 := d8.same s9
        intro x dx nx ndx ne
        have s10 : Same H9 (upd (upd H9 dx (.own x)) x (.ins C dx [])) := (same_new ndx).trans (same_new (by rw [upd_ne ne.symm]; exact nx))
        have x10 : upd (upd H9 dx (.own x)) x (.ins C dx []) x = some (.ins C dx []) := upd_same
        generalize upd (upd H9 dx (.own x)) x (.ins C dx []) = H10 at s10 x10
        have d10 := d9.same s10
        refine ⟨x, dx, l, dd, ks, kvs, ps, rfl, x10, s10 _ _ (s9 _ _ (s8 _ _ hl7)), okK, s10 _ _ ed9, (pe.std (Std.of s9)).std (Std.of s10), okP, fun H' dx' ka ow pr es kvs' back eg eka eow hes epr hpr now npr => ?_⟩
        have sb : Same H9 H' := fun b o e => back b o (ne_of_none e nx) (s10 _ _ e)
        have eg' := sb _ _ (s9 _ _ eg8)
        refine ⟨rfl, eg', [(Sum.inr "kinds", .ref l), (Sum.inr "primitives", .ref fa), (Sum.inr "made", .ref x)], rfl, by show 3 ≤ 15; decide, ?_⟩
        have ogr := d7.s.off ngr
        have ngrH := d7.none ngr
        have S' : Same H8 H' := s9.trans sb
        have tg : Tups H' (upd H' gr (.dK (mergeK [] [(Sum.inr "kinds", .ref l), (Sum.inr "primitives", .ref fa), (Sum.inr "made", .ref x)]))) := Tups.lock eg' fun _ z => nomatch z
        have kg : Keep (· = gr) H' (upd H' gr (.dK (mergeK [] [(Sum.inr "kinds", .ref l), (Sum.inr "primitives", .ref fa), (Sum.inr "made", .ref x)]))) := keep_upd
        have g10 := s10 _ _ (s9 _ _ eg8)
        have lg : l ≠ gr := ne_of_none hl7 ngr
        have fg : fa ≠ gr := ne_of_none hf7 ngr
        have hgps : GPairs (Or1 (Off p c) gr) H' as ps := ((hps.narrow fun a h => .inl h).wide ngr).keep (Same.keep (s8.trans S')) (Tups.of (s8.trans S'))
        refine q gr ks ps n3 _ okK okZ ⟨fun z => by rw [z] at ks1; exact absurd ks1 (by decide), ks3⟩ (by omega) n3le dr ⟨l, fa, x, as, upd_same, ?_, ?_, (hgps.keep (Keep.mono (fun a h => .inr h) kg) tg).narrow fun a h => .inl h, ⟨dx', ka, ow, pr, es, kvs', ?_, tg _ _ eka, ?_, hes.tups tg, ?_, hpr.tups tg, ?_, ?_, ?_⟩, ogr, ol', ofa⟩ ((d9.same sb).at ngrH ogr) ogr
        · rw [upd_ne lg]
          exact S' _ _ (s8 _ _ hl7)
        · rw [upd_ne fg]
          exact S' _ _ (s8 _ _ hf7)
        · exact kg _ _ eg (ne_of_none (s9 _ _ eg8) nx).symm
        · exact kg _ _ eow (ne_of_none g10 now).symm
        · exact kg _ _ epr (ne_of_none g10 npr).symm
        · exact d9.s.off nx
        · exact d10.s.off now
        · exact d10.s.off npr
end
end K10
/-! K10, 10: the law's words; a list against an empty one; membership of plain data -/
namespace Ver
open PySem PySem.Spec PyProof.Rows L2
open PySem.SeqAt (RcAt)
/-- a list of ours against an empty one -/
theorem op_eqNil {X : Cx} (hu : X.A.units < cLine) : OpR X (compareOp .Eq) (fun x y H Q => ∃ a b xs, x = .ref a ∧ y = .ref b ∧ H a = some (.lst xs) ∧ H b = some (.lst []) ∧ Q (.bl xs.isEmpty) H) := by
  rintro pins s σ H x y v u Q I rx ry ⟨a, b, xs, rfl, rfl, ha, hb, q⟩
  cases rx
  cases ry
  obtain ⟨its, rv, p, _⟩ := I.list (SqL.of ha)
  obtain ⟨jts, rw', p', _⟩ := I.list (SqL.of hb)
  cases rw'
  cases rv with
  | nil => exact RcAt.lists (e := fun _ => true) p.isList p'.isList rfl hu (fun j h1 _ => absurd h1 (Nat.not_lt_zero _)) _ _ _ _ ⟨.bl true, H, I, rfl, q⟩
  | cons r1 r2 => exact RcAt.lists_lengths p.isList p'.isList (by simp) hu _ _ _ _ ⟨.bl false, H, I, rfl, q⟩
/-- [] == xs -/
theorem op_nilEq {X : Cx} (hu : X.A.units < cLine) : OpR X (compareOp .Eq) (fun x y H Q => ∃ a b xs, x = .ref a ∧ y = .ref b ∧ H a = some (.lst []) ∧ H b = some (.lst xs) ∧ Q (.bl xs.isEmpty) H) := by
  rintro pins s σ H x y v u Q I rx ry ⟨a, b, xs, rfl, rfl, ha, hb, q⟩
  cases rx
  cases ry
  obtain ⟨its, rv, p, _⟩ := I.list (SqL.of ha)
  obtain ⟨jts, rw', p', _⟩ := I.list (SqL.of hb)
  cases rv
  cases rw' with
  | nil => exact RcAt.lists (e := fun _ => true) p.isList p'.isList rfl hu (fun j h1 _ => absurd h1 (Nat.not_lt_zero _)) _ _ _ _ ⟨.bl true, H, I, rfl, q⟩
  | cons r1 r2 => exact RcAt.lists_lengths p.isList p'.isList (by simp) hu _ _ _ _ ⟨.bl false, H, I, rfl, q⟩
/-- x in [..], data without dicts -/
def rInP (K : PySem.W.Frag) : R2 := fun x y H Q => ∃ l xs ds d, y = .ref l ∧ SqL K H l xs ∧ DpAll K H xs ds ∧ Dp K H x d ∧ d.depth ≤ 60 ∧ Q (.bl (ds.any fun e => PyData.eqv e d)) H
theorem op_inP {X : Cx} (hu : X.A.units + 64 < cLine) : OpR X (compareOp .In) (rInP X.K) := by
  rintro pins s σ H x y v u Q I rx ry ⟨l, xs, ds, d, rfl, hl, hD, hd, hz, q⟩
  have hc : Dp X.K H (.ref l) (.list ds) := .lst hl hD
  obtain ⟨as, r1⟩ := Dp.reads I _ _ u hc ry
  obtain ⟨bs, r2⟩ := Dp.reads I d x v hd rx
  exact SeqAt.in_list_data r1 r2 (dps_plain hD) (dp_plain hd) (by omega) ⟨.bl _, H, I, rfl, q⟩
end Ver
namespace K10
open PySem PySem.Spec PyProof.Rows L2 Ver
abbrev sLWord : Stmt := top 27
abbrev sDue : Stmt := top 28
theorem str_of_nil {x : Str} (h : x.cps.toList = []) : x = "" := by
  obtain ⟨c⟩ := x
  have : c = #[] := by simpa using h
  subst this
  rfl
theorem filter_nil (l : List Nat) : ((l.filter fun c => !inSgns c).map fun c => V.str ⟨#[c]⟩).isEmpty = l.all inSgns := by
  induction l with
  | nil => rfl
  | cons c r ih =>
    cases h : inSgns c with
    | true => simp [h, ← ih]
    | false => simp [h]
def spLWord : Sp := fun vs H Q _ => ∃ x : Str, vs = [.str x] ∧ x.length ≤ 1000 ∧ ∀ H', Same H H' → Q (.bl (wordS x)) H'
section
variable {P : Program} {w : World} {K : PySem.W.Frag} {mg : Str → Option Value} {base : Heap}
theorem scLW : FnScope ["value", "letters", "sign"] ["value"] (defScope sLWord) := ⟨rfl, rfl, rfl, by decide +kernel, rfl, by decide +kernel, by decide +kernel⟩
theorem ok_lword {f : Addr} {fd : FuncData} (F : Fun K "_law_is_word" "_law_is_word" sLWord f fd) (T : GlobS mg) : FnOk P w K mg base CX0 1 f fd ["value"] spLWord := by
  refine F.ok scLW (fun vs H Q E h => ?_) (fun cdv A outer s H vs Q E hr h => ?_)
  · obtain ⟨x, rfl, _⟩ := h
    rfl
  · obtain ⟨x, rfl, hs', k⟩ := h
    refine ⟨_, pss_cons (ps_set (i := 1) scLW.nd rfl (.inr rfl) pe_str)
      (pss_cons (ps_if (PW.pt (pw_or (pt_cmpR op_eq (pv 0) pe_str (nomark _))
        (pw_or (pt_cmpR op_gt (pe_callB call_len_str (by rfl) T.len PySem.boot_len (pa_cons (pv 0) pa_nil)) pe_int (nomark _))
        (pw_or1 (pt_cmpR op_notIn_sign (pe_ix ix_str (pv 0) pe_int (fun _ _ => rfl)) (pv 1) (by rfl))))))
        (pss_one (ps_ret pe_bl)) pss_nil)
      (pss_one (ps_ret (pe_cmpR (op_eqNil hr.units0) (pe_lc (own := [("sign", 2)]) (g := gName 2) rfl scLW.nd (pi_str (pv 0))
        (blkOk_by (N := ["value", "letters", "sign"]) (sc := defScope sLWord) (by decide +kernel)) (fun _ _ _ _ _ => pg_name (i := 2) scLW.nd rfl (.inl rfl))
        (fun _ _ _ _ _ => pts_one (pt_cmpR op_notIn_sign (pv 2) (pe_op op_add_str (pv 1) pe_str) (by rfl))) (fun _ _ _ _ _ => pv 2)) (pe_lst pa_nil) (nomark _))))), ?_⟩
    have hx : x.length = x.cps.toList.length := by simp [Str.length]
    have hz : x.length ≤ sizeLine := Nat.le_trans hs' (by decide)
    refine ⟨_, rfl, rfl, _, rfl, ite2 (fun h0 => ?_) (fun h0 => ?_)⟩
    · have e : x = "" := V.str.inj (of_decide_eq_true h0)
      subst e
      exact k H (Same.refl H)
    · cases el : x.cps.toList with
      | nil => exact absurd (decide_eq_true (congrArg V.str (str_of_nil el))) h0
      | cons c r =>
        have ew : wordS x = (decide (r.length + 1 ≤ 12) && (inLets c && (c :: r).all inSgns)) := by
          show wordL x.cps.toList = _
          rw [el]
          rfl
        rw [ew] at k
        rw [el, List.length_cons] at hx
        refine ⟨_, rfl, x, rfl, hz, _, _, rfl, rfl, _, rfl, ite2 (fun h1 => ?_) (fun h1 => ?_)⟩
        · have h1' : (12 : Int) < (x.length : Int) := of_decide_eq_true h1
          have e3 : decide (r.length + 1 ≤ 12) = false := decide_eq_false (by omega)
          rw [e3, Bool.false_and] at k
          exact k H (Same.refl H)
        · have h1' : ¬ (12 : Int) < (x.length : Int) := fun z => h1 (decide_eq_true z)
          have e3 : decide (r.length + 1 ≤ 12) = true := decide_eq_true (by omega)
          rw [e3, Bool.true_and] at k
          refine ⟨_, rfl, _, _, c, rfl, rfl, hz, by rw [el]; exact atI_nat (j := 0) rfl, _, rfl, c, lets, rfl, rfl, _, rfl, ite2 (fun h2 => ?_) (fun h2 => ?_)⟩
          · have h2' : inLets c = false := by simpa [inLets] using h2
            rw [h2', Bool.false_and] at k
            exact k H (Same.refl H)
          · have h2' : inLets c = true := by simpa [inLets] using h2
            rw [h2', Bool.true_and] at k
            refine ⟨_, rfl, x, rfl, fun D nD => lc_it (walk_str (z := x)) (fun i H2 => Same H H2 ∧ H2 D = some (.lst (((x.cps.toList.take i).filter fun c => !inSgns c).map fun c => V.str ⟨#[c]⟩))) ⟨same_new nD, upd_same⟩ (fun _ _ _ _ => trivial) ?_ ?_⟩
            · rintro i y H2 H3 hi ⟨sm, hD⟩ ⟨rfl, z, hz1, rfl⟩
              have hz2 : x.cps.toList[i]? = some z := by simpa using hz1
              refine ⟨rfl, _, rfl, _, rfl, _, _, rfl, rfl, by decide, z, sgns, rfl, rfl, _, rfl, ?_⟩
              rw [List.take_add_one, hz2, List.filter_append, List.map_append]
              refine ite2 (fun h3 => ?_) (fun h3 => ?_)
              · have h3' : inSgns z = false := by simpa [inSgns] using h3
                refine ⟨_, rfl, _, hD, small1000 ?_, fun b o e => ?_, ?_⟩
                · rw [List.length_map]
                  refine Nat.le_trans (List.length_filter_le _ _) ?_
                  rw [List.length_take]
                  exact Nat.le_trans (Nat.min_le_right _ _) (by rw [el, List.length_cons]; omega)
                · rw [upd_ne (ne_of_none e nD)]
                  exact sm b o e
                · rw [upd_same]
                  simp [h3']
              · have h3' : inSgns z = true := by simpa [inSgns] using h3
                refine ⟨sm, ?_⟩
                rw [hD]
                simp [h3']
            · rintro H2 ⟨sm, hD⟩
              have ex : x.cps.toList.take x.cps.size = c :: r := by
                rw [← el]
                exact List.take_of_length_le (by simp)
              rw [ex] at hD
              refine ⟨Nat.zero_le _, fun p np => ⟨D, p, _, rfl, rfl, by rw [upd_ne (ne_of_none hD np)]; exact hD, upd_same, ?_⟩⟩
              rw [filter_nil]
              exact k _ (sm.trans (same_new np))
end
end K10
/-! K10, 11: what is due, by the law's own reckoning -/
namespace K10
open PySem PySem.Spec PyProof.Rows L2 Ver
/-- a primitive and its rows, right or wrong, as the law holds them -/
def BPair (N : Addr → Prop) (H : Hp) (a : Addr) (p : Str × List BRow) : Prop := ∃ l as, H a = some (.tup [.str p.1, .ref l]) ∧ H l = some (.lst (as.map V.ref)) ∧ BRowsAt H as p.2 ∧ ¬ N l
abbrev BPairs (N : Addr → Prop) (H : Hp) (as : List Addr) (ps : BPrims) : Prop := Paired (BPair N H) as ps
/-- sizes -/
structure Lim (ps : BPrims) : Prop where
  name : ∀ p ∈ ps, TellOk (.str p.1)
  rows : ∀ p ∈ ps, ∀ r ∈ p.2, TellOk (.str r.1) ∧ r.2.1.2.length ≤ 1000
  few : (namesOf ps).length ≤ 900
  fewP : ps.length ≤ 100
def dueW : Nat → Str
  | 0 => "name"
  | 1 => "twice"
  | _ => "variant"
def ownD (w : Own) : PyData := if w.1 = true then .tuple (w.2.map .str) else .list (w.2.map .str)
theorem own_depth (w : Own) : (ownD w).depth ≤ 60 := by
  obtain ⟨b, us⟩ := w
  cases b
  · show PyData.depthAll (us.map .str) + 1 ≤ 60
    rw [depth_strs]
    decide
  · show PyData.depthAll (us.map .str) + 1 ≤ 60
    rw [depth_strs]
    decide
theorem dps_strs {K : PySem.W.Frag} {H : Hp} : ∀ us : List Str, DpAll K H (us.map V.str) (us.map .str)
  | [] => .nil
  | u :: us => .cons (.str u) (dps_strs us)
theorem dp_own {K : PySem.W.Frag} {H : Hp} {o : Addr} {w : Own} (h : SqH w.1 H o (w.2.map V.str)) : Dp K H (.ref o) (ownD w) := by
  obtain ⟨b, us⟩ := w
  cases b
  · exact .lst (SqL.of h) (dps_strs us)
  · exact .tup (SqT.of h) (dps_strs us)
theorem eqv_own (w u : Own) : PyData.eqv (ownD w) (ownD u) = decide (w = u) := by
  obtain ⟨a, ws⟩ := w
  obtain ⟨b, us⟩ := u
  cases a <;> cases b
  · show PyData.eqvAll (ws.map .str) (us.map .str) = _
    rw [eqv_strs, Bool.eq_iff_iff]
    simp
  · show false = _
    simp
  · show false = _
    simp
  · show PyData.eqvAll (ws.map .str) (us.map .str) = _
    rw [eqv_strs, Bool.eq_iff_iff]
    simp
theorem any_own (rows : List BRow) (w : Own) : ((rows.map fun r => ownD r.2.1).any fun e => PyData.eqv e (ownD w)) = decide (w ∈ rows.map (·.2.1)) := by
  rw [Bool.eq_iff_iff, List.any_eq_true, decide_eq_true_eq]
  constructor
  · rintro ⟨e, he, h⟩
    obtain ⟨r, hr, rfl⟩ := List.mem_map.mp he
    rw [eqv_own, decide_eq_true_eq] at h
    exact List.mem_map.mpr ⟨r, hr, h⟩
  · intro h
    obtain ⟨r, hr, e⟩ := List.mem_map.mp h
    exact ⟨_, List.mem_map.mpr ⟨r, hr, rfl⟩, by rw [eqv_own, decide_eq_true_eq]; exact e⟩
theorem dps_owns {K : PySem.W.Frag} {H : Hp} : ∀ {os : List Addr} {rows : List BRow}, Paired (fun o (r : BRow) => SqH r.2.1.1 H o (r.2.1.2.map V.str)) os rows → DpAll K H (os.map V.ref) (rows.map fun r => ownD r.2.1)
  | _, _, .nil => .nil
  | _, _, .cons h t => .cons (dp_own h) (dps_owns t)
theorem kind_resv (k : Str) : kindD (.str k) = (wordS k && !decide (k ∈ resv)) := by
  show (wordS k && !resv.any fun y => y == k) = _
  congr 2
  rw [Bool.eq_iff_iff, List.any_eq_true, decide_eq_true_eq]
  constructor
  · rintro ⟨y, hy, e⟩
    rw [beq_iff_eq] at e
    exact e ▸ hy
  · intro h
    exact ⟨k, h, beq_self_eq_true k⟩
theorem names_next {ps : BPrims} {i : Nat} {p : Str × List BRow} (e : ps[i]? = some p) : namesOf (ps.take (i + 1)) = namesOf (ps.take i) ++ p.2.map (·.1) := by
  unfold namesOf
  rw [List.take_add_one, e, List.flatMap_append]
  simp
theorem names_le {ps : BPrims} {i : Nat} {p : Str × List BRow} (e : ps[i]? = some p) (j : Nat) : (namesOf (ps.take i) ++ (p.2.take j).map (·.1)).length ≤ (namesOf ps).length := by
  have h : namesOf ps = namesOf (ps.take (i + 1)) ++ namesOf (ps.drop (i + 1)) := by
    unfold namesOf
    rw [← List.flatMap_append, List.take_append_drop]
  rw [h, names_next e]
  simp only [List.length_append, List.length_map, List.length_take]
  omega
theorem rows_le {ps : BPrims} {p : Str × List BRow} (h : p ∈ ps) : p.2.length ≤ (namesOf ps).length := by
  obtain ⟨i, hi, e⟩ := List.getElem_of_mem h
  have := names_le (ps := ps) (i := i) (p := p) (by rw [List.getElem?_eq_getElem hi, e]) p.2.length
  rw [List.take_length, List.length_append, List.length_map] at this
  omega
def spDue : Sp := fun vs H Q _ => ∃ (N : Addr → Prop) (a r : Addr) (ks : List Str) (as : List Addr) (ps : BPrims), vs = [.ref a, .ref r] ∧ H a = some (.lst (ks.map V.str)) ∧ H r = some (.lst (as.map V.ref)) ∧ BPairs N H as ps ∧ (∀ k ∈ ks, TellOk (.str k)) ∧ ks.length ≤ 900 ∧ Lim ps ∧
  match dueOf ks ps with
  | none => ∀ H', Same H H' → Q .non H'
  | some e => ∀ L H', Same H H' → H L = none → H' L = some (.lst [.str (dueW e.1), .str e.2]) → Q (.ref L) H'
abbrev nDu : List Str := ["kinds", "rows", "name", "at", "seen", "variants", "variant", "own", "result", "suits", "kind", "row"]
section
variable {P : Program} {w : World} {K : PySem.W.Frag} {mg : Str → Option Value} {base : Heap}
theorem scDu : FnScope nDu ["kinds", "rows"] (defScope sDue) := ⟨rfl, rfl, rfl, by decide +kernel, rfl, by decide +kernel, by decide +kernel⟩
theorem ok_due {f fW : Addr} {fd qW : FuncData} (F : Fun K "_law_due" "_law_due" sDue f fd) (T : GlobS mg) (Tx : Txt mg) (GW : FnOk P w K mg base CX0 1 fW qW ["value"] spLWord) (DW : Def K mg "_law_is_word" fW) (bW : Binds K qW ["value"] []) : FnOk P w K mg base CX0 2 f fd ["kinds", "rows"] spDue := by
  refine F.ok scDu (fun vs H Q E h => ?_) (fun cdv A outer s H vs Q E hr h => ?_)
  · obtain ⟨N, a, r, ks, as, ps, rfl, _⟩ := h
    rfl
  · obtain ⟨N, a, r, ks, as, ps, rfl, ha, hrr, hps, tellK, fewK, lim, q⟩ := h
    have hu := hu_of hr
    refine ⟨_, pss_cons (ps_for PassesOwn.never rfl (pi_list (pv 0)) (pg_name (i := 2) scDu.nd rfl (.inl rfl))
        (pss_one (ps_if (PW.pt (pw_or (pt_not (pt_val (pe_call GW hr (by rfl) DW.gl DW.kp bW .nil pass0 (pa_cons (pv 2) pa_nil)))) (pw_or1 (pt_cmpR op_in_seq (pv 2) (pe_lst (pa_cons pe_str (pa_cons pe_str (pa_cons pe_str (pa_cons pe_str (pa_cons pe_str pa_nil)))))) (by rfl)))))
          (pss_one (ps_ret (pe_lst (pa_cons pe_str (pa_cons (pv 2) pa_nil))))) pss_nil)))
      (pss_cons (ps_for PassesOwn.never rfl (pi_range1 (by rfl) Tx.range (pa_cons (pe_callB (r := rLen K) call_len_seq (by rfl) T.len PySem.boot_len (pa_cons (pv 0) pa_nil)) pa_nil)) (pg_name (i := 3) scDu.nd rfl (.inl rfl))
        (pss_one (ps_if (pt_cmpR op_in_seq (pe_ix ix_list (pv 0) (pv 3) (fun _ _ => rfl)) (pe_slice sl_list (pv 0) po_none (po_some (pv 3))) (by rfl))
          (pss_one (ps_ret (pe_lst (pa_cons pe_str (pa_cons (pe_ix ix_list (pv 0) (pv 3) (fun _ _ => rfl)) pa_nil))))) pss_nil)))
      (pss_cons (ps_set (i := 4) scDu.nd rfl (.inl rfl) (pe_lst pa_nil))
      (pss_cons (ps_for PassesOwn.never rfl (pi_list (pv 1)) (pg_tup (by rfl) (pgs_cons (pg_name (i := 2) scDu.nd rfl (.inl rfl)) (pgs_cons (pg_name (i := 5) scDu.nd rfl (.inl rfl)) pgs_nil)))
        (pss_cons (ps_if (pt_not (pt_val (pe_call GW hr (by rfl) DW.gl DW.kp bW .nil pass0 (pa_cons (pv 2) pa_nil)))) (pss_one (ps_ret (pe_lst (pa_cons pe_str (pa_cons (pv 2) pa_nil))))) pss_nil)
        (pss_one (ps_for PassesOwn.never rfl (pi_range1 (by rfl) Tx.range (pa_cons (pe_callB (r := rLen K) call_len_seq (by rfl) T.len PySem.boot_len (pa_cons (pv 5) pa_nil)) pa_nil)) (pg_name (i := 3) scDu.nd rfl (.inl rfl))
          (pss_cons (ps_asg (pe_ix ix_list (pv 5) (pv 3) (fun _ _ => rfl)) (pg_tup (by rfl) (pgs_cons (pg_name (i := 6) scDu.nd rfl (.inl rfl)) (pgs_cons (pg_name (i := 7) scDu.nd rfl (.inl rfl)) (pgs_cons (pg_name (i := 8) scDu.nd rfl (.inl rfl)) pgs_nil)))))
          (pss_cons (ps_if (pt_not (pt_val (pe_call GW hr (by rfl) DW.gl DW.kp bW .nil pass0 (pa_cons (pv 6) pa_nil)))) (pss_one (ps_ret (pe_lst (pa_cons pe_str (pa_cons (pv 6) pa_nil))))) pss_nil)
          (pss_cons (ps_if (pt_cmpR op_in_seq (pv 6) (pv 4) (by rfl)) (pss_one (ps_ret (pe_lst (pa_cons pe_str (pa_cons (pv 6) pa_nil))))) pss_nil)
          (pss_cons (ps_set (i := 9) scDu.nd rfl (.inl rfl) (pe_and (pe_callB call_isi (by rfl) T.isinstance (by decide +kernel) (pa_cons (pv 7) (pa_cons (pe_bltn (v := .ty "tuple") (by rfl) T.tuple (by decide +kernel) rfl) pa_nil)))
            (pe_and (pe_cmpR op_in_seq (pe_callB (r := rLen K) call_len_seq (by rfl) T.len PySem.boot_len (pa_cons (pv 7) pa_nil)) (pe_lst (pa_cons pe_int (pa_cons pe_int pa_nil))) (by rfl))
            (pe_one (pe_cmpR (op_eqNil hr.units0) (pe_lc (own := [("kind", 10)]) (g := gName 10) rfl scDu.nd (pi_tup (pv 7)) (blkOk_by (N := nDu) (sc := defScope sDue) (by decide +kernel)) (fun _ _ _ _ _ => pg_name (i := 10) scDu.nd rfl (.inl rfl))
              (fun _ _ _ _ _ => pts_one (pt_cmpR (r := rIn K true) op_notIn_seq (pv 10) (pv 0) (by rfl))) (fun _ _ _ _ _ => pv 10)) (pe_lst pa_nil) (nomark _))))))
          (pss_cons (ps_if (PW.pt (pw_or (pt_not (pt_val (pv 9))) (pw_or (pt_cmpR op_notIn_seq (pv 8) (pe_op op_cat (pv 0) (pe_lst (pa_cons pe_str pa_nil))) (by rfl))
              (pw_or1 (pt_cmpR (r := rInP K) (op_inP hr.units) (pv 7) (pe_lc (own := [("row", 11)]) (g := gName 11) (tt := tYes) rfl scDu.nd (pi_list (pe_slice sl_list (pv 5) po_none (po_some (pv 3)))) (blkOk_by (N := nDu) (sc := defScope sDue) (by decide +kernel)) (fun _ _ _ _ _ => pg_name (i := 11) scDu.nd rfl (.inl rfl)) (fun _ _ _ _ _ => pts_nil)
                (fun _ _ _ _ _ => pe_ix (r := rIxT K) ix_tup (pv 11) pe_int (fun _ _ => rfl))) (by rfl))))))
            (pss_one (ps_ret (pe_lst (pa_cons pe_str (pa_cons (pv 6) pa_nil))))) pss_nil)
          (pss_one (ps_expr (pe_bm PySem.F.plainAttrs_list PySem.F.slot_list_append PySem.F.type_list_append mt_append (pv 4) (pa_cons (pv 6) pa_nil)))))))))))))
      (pss_one (ps_ret pe_non))))), ?_⟩
    have out : ∀ {e : Due} {H2 : Hp}, dueOf ks ps = some e → Same H H2 → 2 ≤ sizeLine ∧ ∀ L, H2 L = none → Q (.ref L) (upd H2 L (.lst [.str (dueW e.1), .str e.2])) := fun {e H2} he s2 => by
      rw [he] at q
      exact ⟨by decide, fun L nL => q L _ (s2.trans (same_new nL)) (s2.free nL) upd_same⟩
    have kind1 : ∀ {e : Due}, kindsDue ks = some e → dueOf ks ps = some e := fun h => by
      unfold dueOf
      rw [h]
    refine ⟨_, rfl, a, rfl, ⟨_, SqL.of ha⟩, for_it (walk_list (K := K) (a := a) (xs := ks.map V.str)) (fun i σ H2 => Same H H2 ∧ wordDue (ks.drop i) = wordDue ks ∧ ∃ v2, σ = [some (.ref a), some (.ref r), v2, none, none, none, none, none, none, none, none, none]) ⟨Same.refl H, rfl, _, rfl⟩ (fun i σ H2 _ ⟨sm, _⟩ => SqL.of (sm _ _ ha)) ?_ ?_⟩
    · rintro i x σ H2 H3 hi ⟨sm, wd, v2, rfl⟩ ⟨rfl, hx⟩
      rw [List.getElem?_map] at hx
      obtain ⟨k, hk, rfl⟩ := Option.map_eq_some_iff.mp hx
      obtain ⟨hi1, hi2⟩ := List.getElem?_eq_some_iff.mp hk
      rw [List.drop_eq_getElem_cons hi1, hi2] at wd
      have bad : kindD (.str k) = false → kindsDue ks = some (0, k) := fun hkd => by
        unfold kindsDue
        rw [← wd]
        show (match (if kindD (.str k) = false then some ((0, k) : Due) else wordDue (ks.drop (i + 1))) with | some e => some e | none => twiceDue [] ks) = _
        rw [hkd]
        rfl
      refine ⟨_, rfl, k, rfl, (tellK k (List.mem_of_getElem? hk)).1, fun H4 s4 => ⟨_, rfl, ?_⟩⟩
      have s24 := sm.trans s4
      cases hw : wordS k with
      | false => exact ⟨_, rfl, out (kind1 (bad (by rw [kind_resv, hw]; rfl))) s24⟩
      | true =>
        refine ⟨_, rfl, by show 5 ≤ sizeLine; decide, fun l nl => ?_⟩
        obtain ⟨H5, z, s5, e5⟩ := fresh nl (.lst (resv.map V.str))
        erw [z]
        clear z
        have s25 := s24.trans s5
        refine ⟨l, resv.map V.str, rfl, .inl (SqL.of e5), rfl, flat_strs _, _, rfl, ?_⟩
        rw [show (if false = true then !inV (.str k) (resv.map V.str) else inV (.str k) (resv.map V.str)) = decide (k ∈ resv) from inV_strs _ _]
        refine ite2 (fun hb => ⟨_, rfl, out (kind1 (bad (by rw [kind_resv, hw, hb]; rfl))) s25⟩) (fun hb => ?_)
        have hb' : decide (k ∈ resv) = false := by simpa using hb
        refine ⟨s25, ?_, _, rfl⟩
        rw [← wd]
        show _ = (if kindD (.str k) = false then some (0, k) else wordDue (ks.drop (i + 1)))
        rw [kind_resv, hw, hb']
        rfl
    rintro σ H2 ⟨sm, wd, v2, rfl⟩
    rw [List.length_map, List.drop_length] at wd
    have due0 : kindsDue ks = twiceDue [] ks := by
      unfold kindsDue
      rw [← wd]
      rfl
    refine ⟨_, rfl, a, _, rfl, .inl (SqL.of (sm _ _ ha)), _, rfl, by rw [List.length_map]; omega, by rw [List.length_map]; omega, ?_⟩
    rw [List.length_map, Int.toNat_natCast]
    refine for_it (walk_range (lo := 0) (n := ks.length)) (fun i σ H3 => Same H H3 ∧ twiceDue (ks.take i) (ks.drop i) = twiceDue [] ks ∧ ∃ v2 v3, σ = [some (.ref a), some (.ref r), v2, v3, none, none, none, none, none, none, none, none]) ⟨sm, rfl, _, _, rfl⟩ (fun _ _ _ _ _ => trivial) ?_ ?_
    · rintro i x σ H3 H4 hi ⟨s3, td, v2, v3, rfl⟩ ⟨rfl, rfl⟩
      have hk : ks[i]? = some ks[i] := List.getElem?_eq_getElem hi
      generalize ks[i] = k at hk
      obtain ⟨hi1, hi2⟩ := List.getElem?_eq_some_iff.mp hk
      rw [List.drop_eq_getElem_cons hi1, hi2] at td
      have hkv : (ks.map V.str)[i]? = some (.str k) := by rw [List.getElem?_map, hk]; rfl
      refine ⟨_, rfl, _, rfl, a, _, _, .str k, rfl, rfl, SqL.of (s3 _ _ ha), by rw [Int.zero_add]; exact atI_nat hkv, _, rfl, _, rfl, _, rfl, a, _, rfl, SqL.of (s3 _ _ ha), fun p np => ?_⟩
      have ec : cutV (ks.map V.str) none (some ((0 : Int) + ((i : Nat) : Int))) = (ks.take i).map V.str := by rw [Int.zero_add, cut_take (by rw [List.length_map]; omega), List.map_take]
      rw [ec]
      obtain ⟨H5, z, s5, e5⟩ := fresh np (.lst ((ks.take i).map V.str))
      rw [z]
      clear z
      have s35 := s3.trans s5
      refine ⟨p, (ks.take i).map V.str, rfl, .inl (SqL.of e5), rfl, flat_strs _, _, rfl, ?_⟩
      rw [show (if false = true then !inV (.str k) ((ks.take i).map V.str) else inV (.str k) ((ks.take i).map V.str)) = decide (k ∈ ks.take i) from inV_strs _ _]
      refine ite2 (fun hb => ?_) (fun hb => ?_)
      · have hm : k ∈ ks.take i := of_decide_eq_true hb
        have due : kindsDue ks = some (1, k) := by
          rw [due0, ← td]
          show (if k ∈ ks.take i then some ((1, k) : Due) else _) = _
          rw [if_pos hm]
        exact ⟨_, rfl, _, rfl, a, _, _, .str k, rfl, rfl, SqL.of (s35 _ _ ha), by rw [Int.zero_add]; exact atI_nat hkv, out (kind1 due) s35⟩
      · have hm : ¬ k ∈ ks.take i := fun z => hb (decide_eq_true z)
        refine ⟨s35, ?_, _, _, rfl⟩
        rw [← td]
        show _ = (if k ∈ ks.take i then some ((1, k) : Due) else twiceDue (ks.take i ++ [k]) (ks.drop (i + 1)))
        rw [if_neg hm, List.take_add_one, hk]
        rfl
    rintro σ H3 ⟨s3, td, v2, v3, rfl⟩
    rw [List.drop_length] at td
    have due1 : dueOf ks ps = primsDue ks [] ps := by
      unfold dueOf
      rw [due0, ← td]
      rfl
    clear td due0 wd sm kind1
    rw [due1] at q
    replace out : ∀ {e : Due} {H2 : Hp}, primsDue ks [] ps = some e → Same H H2 → 2 ≤ sizeLine ∧ ∀ L, H2 L = none → Q (.ref L) (upd H2 L (.lst [.str (dueW e.1), .str e.2])) := fun h => out (due1.trans h)
    refine ⟨by show 0 ≤ sizeLine; decide, fun sn nsn => ?_⟩
    obtain ⟨H4, z, s4, e4⟩ := fresh nsn (.lst [])
    rw [z]
    clear z
    have nsnH := s3.free nsn
    have s04 := s3.trans s4
    have spl : as.length = ps.length := Paired.length hps
    refine ⟨_, rfl, r, rfl, ⟨_, SqL.of (s04 _ _ hrr)⟩, for_it (walk_list (K := K) (a := r) (xs := as.map V.ref)) (fun i σ Hx => Same H Hx ∧ Hx sn = some (.lst ((namesOf (ps.take i)).map V.str)) ∧ primsDue ks (namesOf (ps.take i)) (ps.drop i) = primsDue ks [] ps ∧
        ∃ v2 v3 v5 v6 v7 v8 v9, σ = [some (.ref a), some (.ref r), v2, v3, some (.ref sn), v5, v6, v7, v8, v9, none, none])
      ⟨s04, e4, rfl, _, _, _, _, _, _, _, rfl⟩ (fun i σ Hx _ ⟨sx, _⟩ => SqL.of (sx _ _ hrr)) ?_ ?_⟩
    case refine_2 =>
      rintro σ Hx ⟨sx, _, pd, v2, v3, v5, v6, v7, v8, v9, rfl⟩
      rw [List.length_map, spl, List.drop_length] at pd
      have pd' : none = primsDue ks [] ps := pd
      rw [← pd'] at q
      exact q Hx sx
    clear e4 s04 s4 H4
    rintro i x σ Hx Hy hi ⟨sx, esn, pd, v2, v3, v5, v6, v7, v8, v9, rfl⟩ ⟨rfl, hx⟩
    rw [List.getElem?_map] at hx
    obtain ⟨pa, hpa, rfl⟩ := Option.map_eq_some_iff.mp hx
    obtain ⟨p, ep, l, rs, t1, t2, hrows, _⟩ := Paired.at hps hpa
    have pm := List.mem_of_getElem? ep
    have tp := lim.name p pm
    obtain ⟨hi1, hi2⟩ := List.getElem?_eq_some_iff.mp ep
    rw [List.drop_eq_getElem_cons hi1, hi2] at pd
    refine ⟨pa, _, rfl, SqT.of (sx _ _ t1), rfl, _, _, rfl, _, _, rfl, rfl, ?_⟩
    refine ⟨_, rfl, p.1, rfl, tp.1, fun H4 s4 => ⟨_, rfl, ?_⟩⟩
    have s04 := sx.trans s4
    cases hw : wordS p.1 with
    | false =>
      have due : primsDue ks [] ps = some (0, p.1) := by
        rw [← pd]
        show (if wordS p.1 = false then some ((0, p.1) : Due) else _) = _
        rw [if_pos hw]
      exact ⟨_, rfl, out due s04⟩
    | true =>
    have pd1 : (match rowsDue ks (namesOf (ps.take i)) [] p.2 with
        | some e => some e
        | none => primsDue ks (namesOf (ps.take i) ++ p.2.map (·.1)) (ps.drop (i + 1))) = primsDue ks [] ps := by
      rw [← pd]
      show _ = (if wordS p.1 = false then some ((0, p.1) : Due) else _)
      rw [if_neg (by rw [hw]; decide)]
      try rfl
    clear pd
    have spr : rs.length = p.2.length := Paired.length hrows
    have rle := rows_le pm
    have few := lim.few
    refine ⟨_, rfl, l, _, rfl, .inl (SqL.of (s04 _ _ t2)), _, rfl, by rw [List.length_map]; omega, by rw [List.length_map]; omega, ?_⟩
    rw [List.length_map, Int.toNat_natCast, spr]
    refine for_it (walk_range (lo := 0) (n := p.2.length)) (fun j σ H5 => Same H H5 ∧ H5 sn = some (.lst ((namesOf (ps.take i) ++ (p.2.take j).map (·.1)).map V.str)) ∧ rowsDue ks (namesOf (ps.take i) ++ (p.2.take j).map (·.1)) ((p.2.take j).map (·.2.1)) (p.2.drop j) = rowsDue ks (namesOf (ps.take i)) [] p.2 ∧
        ∃ v3 v6 v7 v8 v9, σ = [some (.ref a), some (.ref r), some (.str p.1), v3, some (.ref sn), some (.ref l), v6, v7, v8, v9, none, none])
      ⟨s04, by rw [List.take_zero, List.map_nil, List.append_nil]; exact s4 _ _ esn, by rw [List.take_zero, List.map_nil, List.append_nil]; rfl, _, _, _, _, _, rfl⟩ (fun _ _ _ _ _ => trivial) ?_ ?_
    case refine_2 =>
      rintro σ H5 ⟨s5, e5, rd, v3, v6, v7, v8, v9, rfl⟩
      rw [List.take_length] at e5
      rw [List.take_length, List.drop_length] at rd
      have rd' : none = rowsDue ks (namesOf (ps.take i)) [] p.2 := rd
      rw [← rd'] at pd1
      rw [← names_next ep] at e5 pd1
      exact ⟨s5, e5, pd1, _, _, _, _, _, _, _, rfl⟩
    clear esn s04 s4 H4
    rintro j x σ H4 H5 hj ⟨s5, esn, rd, v3, v6, v7, v8, v9, rfl⟩ ⟨rfl, rfl⟩
    have er : p.2[j]? = some p.2[j] := List.getElem?_eq_getElem hj
    generalize p.2[j] = row at er
    have rm := List.mem_of_getElem? er
    obtain ⟨tr, lr⟩ := lim.rows p pm row rm
    obtain ⟨ra, hra, o, t3, t4⟩ : ∃ ra, rs[j]? = some ra ∧ BRowAt H ra row := by
      have hr' : rs[j]? = some rs[j] := List.getElem?_eq_getElem (by omega)
      obtain ⟨row', er', h⟩ := Paired.at hrows hr'
      rw [er] at er'
      cases er'
      exact ⟨_, hr', h⟩
    have hkv : (rs.map V.ref)[j]? = some (.ref ra) := by rw [List.getElem?_map, hra]; rfl
    obtain ⟨hj1, hj2⟩ := List.getElem?_eq_some_iff.mp er
    rw [List.drop_eq_getElem_cons hj1, hj2] at rd
    have rd1 : (match rowBad ks (namesOf (ps.take i) ++ (p.2.take j).map (·.1)) ((p.2.take j).map (·.2.1)) row with
      | some e => some e
      | none => rowsDue ks (namesOf (ps.take i) ++ (p.2.take j).map (·.1) ++ [row.1]) ((p.2.take j).map (·.2.1) ++ [row.2.1]) (p.2.drop (j + 1))) = rowsDue ks (namesOf (ps.take i)) [] p.2 := rd
    clear rd
    have bad : ∀ {e : Due} {H2 : Hp}, rowBad ks (namesOf (ps.take i) ++ (p.2.take j).map (·.1)) ((p.2.take j).map (·.2.1)) row = some e → Same H H2 → 2 ≤ sizeLine ∧ ∀ L, H2 L = none → Q (.ref L) (upd H2 L (.lst [.str (dueW e.1), .str e.2])) := fun {e H2} he s2 => by
      rw [he] at rd1
      have rd2 : some e = rowsDue ks (namesOf (ps.take i)) [] p.2 := rd1
      rw [← rd2] at pd1
      have pd2 : some e = primsDue ks [] ps := pd1
      exact out pd2.symm s2
    refine ⟨_, rfl, _, rfl, l, _, _, .ref ra, rfl, rfl, SqL.of (s5 _ _ t2), by rw [Int.zero_add]; exact atI_nat hkv, ra, _, rfl, SqT.of (s5 _ _ t3), rfl, _, _, rfl, _, _, rfl, _, _, rfl, rfl, ?_⟩
    refine ⟨_, rfl, row.1, rfl, tr.1, fun H6 s6 => ⟨_, rfl, ?_⟩⟩
    have s06 := s5.trans s6
    cases hwr : wordS row.1 with
    | false => exact ⟨_, rfl, bad (if_pos hwr) s06⟩
    | true =>
    have e6 := s6 _ _ esn
    refine ⟨_, rfl, _, rfl, sn, _, rfl, .inl (SqL.of e6), rfl, flat_strs _, _, rfl, ?_⟩
    rw [show (if false = true then !inV (.str row.1) ((namesOf (ps.take i) ++ (p.2.take j).map (·.1)).map V.str) else inV (.str row.1) ((namesOf (ps.take i) ++ (p.2.take j).map (·.1)).map V.str)) = decide (row.1 ∈ namesOf (ps.take i) ++ (p.2.take j).map (·.1)) from inV_strs _ _]
    refine ite2 (fun hb => ?_) (fun hb => ?_)
    · have hm : row.1 ∈ namesOf (ps.take i) ++ (p.2.take j).map (·.1) := of_decide_eq_true hb
      exact ⟨_, rfl, bad (e := (1, row.1)) (by unfold rowBad; rw [if_neg (by rw [hwr]; decide), if_pos hm]) s06⟩
    have hm : ¬ row.1 ∈ namesOf (ps.take i) ++ (p.2.take j).map (·.1) := fun z => hb (decide_eq_true z)
    have rb : rowBad ks (namesOf (ps.take i) ++ (p.2.take j).map (·.1)) ((p.2.take j).map (·.2.1)) row = if knownB ks row.2.1 row.2.2 = false ∨ row.2.1 ∈ (p.2.take j).map (·.2.1) then some (2, row.1) else none := by
      unfold rowBad
      rw [if_neg (by rw [hwr]; decide), if_neg hm]
    have bad2 : ∀ {H2 : Hp}, knownB ks row.2.1 row.2.2 = false ∨ row.2.1 ∈ (p.2.take j).map (·.2.1) → Same H H2 → 2 ≤ sizeLine ∧ ∀ L, H2 L = none → Q (.ref L) (upd H2 L (.lst [.str "variant", .str row.1])) := fun h s2 => bad (e := (2, row.1)) (by rw [rb, if_pos h]) s2
    have t36 := s06 _ _ t3
    have t46 : SqH row.2.1.1 H6 o (row.2.1.2.map V.str) := s06 _ _ t4
    obtain ⟨vn, ⟨wt, ws⟩, res⟩ := row
    have lws : ws.length ≤ 1000 := lr
    cases wt with
    | false =>
      have ho : H6 o = some (.lst (ws.map V.str)) := t46
      exact ⟨_, rfl, .ref o, .ty "tuple", _, _, false, rfl, .ty _, .base (.lst ho), kit_ty (by decide +kernel), _, rfl, _, rfl, _, rfl, _, rfl, bad2 (.inl rfl) s06⟩
    | true =>
    have ho : H6 o = some (.tup (ws.map V.str)) := t46
    refine ⟨_, rfl, .ref o, .ty "tuple", _, _, true, rfl, .ty _, .base (.tup ho), kit_ty (by decide +kernel), _, rfl, _, rfl, o, _, rfl, .inr (SqT.of ho), by show 2 ≤ sizeLine; decide, fun t nt => ?_⟩
    obtain ⟨H7, z, s7, e7⟩ := fresh nt (.lst [.int 1, .int 2])
    erw [z]
    clear z
    have s07 := s06.trans s7
    have il : inV (.int (ws.map V.str).length) [.int 1, .int 2] = decide (ws.length = 1 ∨ ws.length = 2) := by
      rw [List.length_map]
      show (((1 : Int) == (ws.length : Int)) || (((2 : Int) == (ws.length : Int)) || false)) = _
      rw [Bool.eq_iff_iff]
      simp only [Bool.or_eq_true, beq_iff_eq, Bool.or_false, decide_eq_true_eq]
      omega
    refine ⟨t, _, rfl, .inl (SqL.of e7), rfl, rfl, ?_⟩
    rw [show (if false = true then !inV (.int (ws.map V.str).length) [.int 1, .int 2] else inV (.int (ws.map V.str).length) [.int 1, .int 2]) = decide (ws.length = 1 ∨ ws.length = 2) from il]
    by_cases hlw : ws.length = 1 ∨ ws.length = 2
    case neg =>
      have kb : knownB ks (true, ws) res = false := by
        unfold knownB
        rw [decide_eq_false hlw]
        rfl
      rw [decide_eq_false hlw]
      exact ⟨_, rfl, _, rfl, _, rfl, _, rfl, bad2 (.inl kb) s07⟩
    have kb : knownB ks (true, ws) res = (ws.all (fun k => decide (k ∈ ks)) && (decide (res = "bit") || decide (res ∈ ks))) := by
      unfold knownB
      rw [decide_eq_true hlw]
      rfl
    rw [decide_eq_true hlw]
    have ho7 := s7 _ _ ho
    have ha7 := s07 _ _ ha
    refine ⟨_, rfl, _, rfl, o, rfl, ⟨_, SqT.of ho7⟩, fun D nD => lc_it (walk_tup (K := K) (a := o) (xs := ws.map V.str)) (fun t H2 => Same H7 H2 ∧ H2 D = some (.lst (((ws.take t).filter fun k => !decide (k ∈ ks)).map V.str))) ⟨same_new nD, upd_same⟩ (fun t H2 _ ⟨sm, _⟩ => SqT.of (sm _ _ ho7)) ?_ ?_⟩
    · rintro t x H2 H3 ht ⟨sm, eD⟩ ⟨rfl, hx⟩
      rw [List.getElem?_map] at hx
      obtain ⟨k, hk, rfl⟩ := Option.map_eq_some_iff.mp hx
      refine ⟨rfl, _, rfl, _, rfl, a, _, rfl, .inl (SqL.of (sm _ _ ha7)), rfl, flat_strs _, _, rfl, ?_⟩
      rw [show (if true = true then !inV (.str k) (ks.map V.str) else inV (.str k) (ks.map V.str)) = !decide (k ∈ ks) by rw [← inV_strs]; rfl, List.take_add_one, hk, List.filter_append, List.map_append]
      cases hin : decide (k ∈ ks) with
      | false =>
        refine ⟨_, rfl, _, eD, small1000 ?_, fun b ob e => ?_, ?_⟩
        · rw [List.length_map]
          refine Nat.le_trans (List.length_filter_le _ _) ?_
          rw [List.length_take]
          have : t < ws.length := (List.getElem?_eq_some_iff.mp hk).1
          omega
        · rw [upd_ne (ne_of_none e nD)]
          exact sm _ _ e
        · rw [upd_same]
          simp [of_decide_eq_false hin]
      | true =>
        refine ⟨sm, ?_⟩
        rw [eD]
        simp [of_decide_eq_true hin]
    rintro H2 ⟨sm, eD⟩
    rw [List.length_map, List.take_length] at eD
    refine ⟨Nat.zero_le _, fun np nnp => ⟨D, np, _, rfl, rfl, by rw [upd_ne (ne_of_none eD nnp)]; exact eD, upd_same, ?_⟩⟩
    obtain ⟨H8, z, s8, e8⟩ := fresh nnp (.lst [])
    rw [z]
    clear z
    have s08 := (s07.trans sm).trans s8
    have s68 := (s7.trans sm).trans s8
    have allB : ((ws.filter fun k => !decide (k ∈ ks)).map V.str).isEmpty = ws.all fun k => decide (k ∈ ks) := by
      rw [Bool.eq_iff_iff, List.isEmpty_iff, List.map_eq_nil_iff, List.filter_eq_nil_iff, List.all_eq_true]
      simp
    rw [allB]
    refine ⟨_, rfl, _, rfl, ?_⟩
    cases hall : ws.all fun k => decide (k ∈ ks) with
    | false => exact ⟨_, rfl, bad2 (.inl (by show knownB ks (true, ws) res = false; rw [kb, hall]; rfl)) s08⟩
    | true =>
    rw [hall, Bool.true_and] at kb
    refine ⟨_, rfl, _, rfl, by show 1 ≤ sizeLine; decide, fun g1 ng1 => ?_⟩
    obtain ⟨H9, z, s9, e9⟩ := fresh ng1 (.lst [.str "bit"])
    rw [z]
    clear z
    have s09 := s08.trans s9
    refine ⟨a, g1, _, _, rfl, rfl, s09 _ _ ha, e9, by rw [List.length_map]; exact Nat.le_trans (Nat.add_le_add fewK (Nat.le_refl 1)) (by decide), fun g2 ng2 => ?_⟩
    obtain ⟨H10, z, s10, e10⟩ := fresh ng2 (.lst (ks.map V.str ++ [.str "bit"]))
    rw [z]
    clear z
    have s010 := s09.trans s10
    have ekb : ks.map V.str ++ [V.str "bit"] = (ks ++ [("bit" : Str)]).map V.str := by rw [List.map_append]; rfl
    rw [ekb] at e10
    refine ⟨g2, _, rfl, .inl (SqL.of e10), rfl, flat_strs _, _, rfl, ?_⟩
    rw [show (if true = true then !inV (.str res) ((ks ++ [("bit" : Str)]).map V.str) else inV (.str res) ((ks ++ [("bit" : Str)]).map V.str)) = !decide (res ∈ ks ++ [("bit" : Str)]) by rw [← inV_strs]; rfl]
    have kb2 : knownB ks (true, ws) res = decide (res ∈ ks ++ [("bit" : Str)]) := by
      rw [kb, Bool.eq_iff_iff]
      simp only [Bool.or_eq_true, decide_eq_true_eq, List.mem_append, List.mem_singleton]
      exact or_comm
    rw [← kb2]
    cases hkb : knownB ks (true, ws) res with
    | false => exact ⟨_, rfl, bad2 (.inl hkb) s010⟩
    | true =>
    have hj7 : j ≤ (rs.map V.ref).length := by rw [List.length_map]; omega
    refine ⟨_, rfl, _, rfl, _, rfl, _, rfl, l, _, rfl, SqL.of (s010 _ _ t2), fun cu ncu => ?_⟩
    have ec : cutV (rs.map V.ref) none (some ((0 : Int) + ((j : Nat) : Int))) = (rs.take j).map V.ref := by rw [Int.zero_add, cut_take hj7, List.map_take]
    rw [ec]
    obtain ⟨H11, z, s11, e11⟩ := fresh ncu (.lst ((rs.take j).map V.ref))
    rw [z]
    clear z
    have s011 := s010.trans s11
    refine ⟨cu, rfl, ⟨_, SqL.of e11⟩, fun D2 nD2 => lc_it (walk_list (K := K) (a := cu) (xs := (rs.take j).map V.ref)) (fun t Hd => Same H11 Hd ∧ ∃ os, Hd D2 = some (.lst (os.map V.ref)) ∧ Paired (fun o (r : BRow) => SqH r.2.1.1 H o (r.2.1.2.map V.str)) os (p.2.take t)) ⟨same_new nD2, [], upd_same, .nil⟩ (fun t Hd _ ⟨sm, _⟩ => SqL.of (sm _ _ e11)) ?_ ?_⟩
    · rintro t x Hd He ht ⟨sd, os, eD2, hos⟩ ⟨rfl, hx⟩
      rw [List.getElem?_map] at hx
      obtain ⟨a', ha', rfl⟩ := Option.map_eq_some_iff.mp hx
      rw [List.getElem?_take] at ha'
      have htj : t < j := by
        by_cases h : t < j
        · exact h
        · rw [if_neg h] at ha'
          cases ha'
      rw [if_pos htj] at ha'
      obtain ⟨row', er', o', u1, u2⟩ := Paired.at hrows ha'
      refine ⟨rfl, _, rfl, a', _, _, .ref o', rfl, rfl, SqT.of (sd _ _ (s011 _ _ u1)), atI_nat (j := 1) rfl, _, eD2, ?_, fun b ob e => ?_, os ++ [o'], ?_, ?_⟩
      · rw [List.length_map, Paired.length hos, List.length_take]
        exact small1000 (by omega)
      · rw [upd_ne (ne_of_none e nD2)]
        exact sd _ _ e
      · rw [upd_same, List.map_append]
        rfl
      · rw [List.take_add_one, er']
        exact Paired.snoc hos u2
    rintro Hd ⟨sd, os, eD2, hos⟩
    rw [List.length_map, List.length_take, spr, Nat.min_eq_left (by omega)] at hos
    have s0d := s011.trans sd
    have hos' : Paired (fun o (r : BRow) => SqH r.2.1.1 Hd o (r.2.1.2.map V.str)) os (p.2.take j) := Paired.imp (fun _ _ h => s0d _ _ h) hos
    have hod : SqH true Hd o (ws.map V.str) := s0d _ _ t4
    refine ⟨D2, _, _, ownD (true, ws), rfl, SqL.of eD2, dps_owns hos', dp_own (w := (true, ws)) hod, own_depth _, _, rfl, ?_⟩
    rw [any_own]
    cases hin : decide ((true, ws) ∈ (p.2.take j).map (·.2.1)) with
    | true => exact ⟨_, rfl, bad2 (.inr (of_decide_eq_true hin)) s0d⟩
    | false =>
    have hin' : ¬ (true, ws) ∈ (p.2.take j).map (·.2.1) := of_decide_eq_false hin
    have rb' : rowBad ks (namesOf (ps.take i) ++ (p.2.take j).map (·.1)) ((p.2.take j).map (·.2.1)) (vn, (true, ws), res) = none := by
      rw [rb, if_neg]
      rintro (h | h)
      · have h' : knownB ks (true, ws) res = false := h
        rw [hkb] at h'
        cases h'
      · exact hin' h
    rw [rb'] at rd1
    have nle := names_le ep j
    refine ⟨_, rfl, .inl ⟨rfl, _, SqL.of (sd _ _ (s11 _ _ (s10 _ _ (s9 _ _ (s68 _ _ e6)))))⟩, _, rfl, sn, _, _, rfl, rfl, sd _ _ (s11 _ _ (s10 _ _ (s9 _ _ (s68 _ _ e6)))), by rw [List.length_map]; exact small1000 (by omega), ?_⟩
    refine ⟨fun b ob e => ?_, ?_, ?_, _, _, _, _, _, rfl⟩
    · rw [upd_ne (ne_of_none e nsnH)]
      exact s0d _ _ e
    · rw [upd_same, List.take_add_one, er]
      simp
    · rw [List.take_add_one, er, List.map_append, List.map_append, ← List.append_assoc]
      exact rd1
end
end K10
/-! K10, 12: calls whose raising is wished for at the caller's slots; the law's try around a signature -/
namespace Ver
open PySem PySem.Spec PyProof.Rows L2
section
variable {X : Cx} {CX : CXT} {k : Nat} {f C : Addr} {fd : FuncData} {ps : List Str} {sp : Sp} {dvs : List V} {ds : List Value} {E : L2.St → XK} {x m : Str} {p pos apos : Pos} {e o : Expr} {es : List Expr} {ta : TE} {t : TA}
/-- o.m(e, ..), in a try -/
def tMethA (C : Addr) (m : Str) (sp : Sp) (E : L2.St → XK) (ta : TE) (t : TA) : TE := fun σ H Q => ta σ H fun y H1 => ∃ b dx fs, y = .ref b ∧ H1 b = some (.ins C dx fs) ∧ fs.lookup m = none ∧ t σ H1 fun vs H2 => sp (y :: vs) H2 Q (E σ)
theorem pe_methA {pl : Sem Bool} (ho : PE X o ta) (cls : Cls X.K C) (mth : Meth X.K C m f) (F : FnOk X.prog X.w X.K X.mg X.base CX k f fd ps sp) (room : Room k X.A) (bnd : Binds X.K fd ps []) (lets : ∀ σ, PassesAt CX X σ (E σ)) (args : PA X (e :: es) t)
    (plain : starEach (e :: es) X.env = (false, eval e X.env) :: starEach es X.env := by rfl) (none : (backTo pos (starEach es X.env)).any (·.1) = false := by rfl)
    (shape : eval (.Call (.Attribute o m apos) (e :: es) [] pos) X.env = (do
      let it ← eval o X.env
      standAt apos.atName
      let (fn, fst) ← holding [it] (getMethod it m pl)
      callWith pos fn fst (backTo pos (starEach (e :: es) X.env)) (backToKw pos (keywordEach [] X.env))) := by rfl) :
    PE X (.Call (.Attribute o m apos) (e :: es) [] pos) (tMethA C m sp E ta t) := by
  constructor
  intro pins s σ H Q I want
  refine PySem.W.methodCall_KW (pl := pl) (thn (ho.run pins s σ H _ I want) ?_) shape
  rintro u s1 ⟨y, H1, I1, ry, b, dx, fs, rfl, eb, nol, next⟩
  cases ry
  refine getmeth_ok I1 eb cls mth nol ?_
  refine PySem.W.callWith_K (first := [.ref b]) (h₀ := X.base) I.ok.mod.kin mth.kp (thn (args.run pos pins s1 σ H1 _ I1 next) ?_) plain none
  rintro us s2 ⟨vs, H2, I2, r2, want2⟩
  exact ⟨I2.kIn, run_fnS (vs := .ref b :: vs) (us := .ref b :: us) F room bnd (lets σ) I2 (.cons rfl r2) want2⟩
/-- C(e, ..), in a try -/
def tMakeA (C : Addr) (sp : Sp) (E : L2.St → XK) (t : TA) : TE := fun σ H Q => t σ H fun vs H1 => ∀ y dx, H1 y = none → H1 dx = none → dx ≠ y →
  sp (.ref y :: vs) (upd (upd H1 dx (.own y)) y (.ins C dx [])) (fun v H2 => v = .non ∧ Q (.ref y) H2) (E σ)
theorem run_makeA {pins : List (Addr × Obj)} {σ : L2.St} {H : Hp} {s : Shared} {Q : VK} {us : List Value} {vs : List V} (M : Mk X.K C f) (F : FnOk X.prog X.w X.K X.mg X.base CX k f fd ps sp) (room : Room (k + 1) X.A) (bnd : Binds X.K fd ps [])
    (lets : PassesAt CX X σ (E σ)) (I : Inv X pins σ H s) (r : Vals vs us)
    (want : ∀ y dx, H y = none → H dx = none → dx ≠ y → sp (.ref y :: vs) (upd (upd H dx (.own y)) y (.ins C dx [])) (fun v H2 => v = .non ∧ Q (.ref y) H2) (E σ)) :
    wpAny (model X.prog X.w) X.A (call (.ref C) us) (EP X pins σ Q) X.xe s := by
  have here := want (s.heap.objs.size + 1) s.heap.objs.size (I.hok.fresh (Nat.le_succ _)) (I.hok.fresh (Nat.le_refl _)) (Nat.ne_of_lt (Nat.lt_succ_self _))
  have J := Inv.made (C := C) I
  have all : Vals (V.ref (s.heap.objs.size + 1) :: vs) (Value.ref (s.heap.objs.size + 1) :: us) := .cons rfl r
  have many : (Value.ref (s.heap.objs.size + 1) :: us ++ []).length = ps.length := by
    rw [List.append_nil, ← all.length]
    exact F.len _ _ _ _ here
  have bound := bnd _ (Value.ref (s.heap.objs.size + 1) :: us) J.kIn many
  rw [List.append_nil] at bound
  refine wpAny_call (make_map (f := f) I.kIn M.makes M.init (beq_iff_eq.mp M.fn) (codeAny_mono (F.run _ X.stack _ _ ⟨Value.ref (s.heap.objs.size + 1) :: us, []⟩ (Value.ref (s.heap.objs.size + 1) :: us) _ _ (E σ) (room.make C us [])
    (J.env0.make C us []) bound all here) ?_))
  intro res s' post
  match res, post with
  | .error er, post => exact lets pins _ _ er s' J post
  | .ok (.ret u), post =>
    obtain ⟨v, H', J3, rv, rfl, q3⟩ := J.after post
    exact ⟨rv, ⟨V.ref (s.heap.objs.size + 1), H', J3, rfl, q3⟩⟩
  | .ok .next, post => exact post.elim
  | .ok .brk, post => exact post.elim
  | .ok .cont, post => exact post.elim
theorem pe_makeA (M : Mk X.K C f) (F : FnOk X.prog X.w X.K X.mg X.base CX k f fd ps sp) (room : Room (k + 1) X.A) (glo : Gl X x) (isC : X.mg x = some (.ref C)) (bnd : Binds X.K fd ps []) (lets : ∀ σ, PassesAt CX X σ (E σ))
    (args : PA X (e :: es) t) (nodbg : (x == ("__debug__" : Str)) = false := by decide) (plain : starEach (e :: es) X.env = (false, eval e X.env) :: starEach es X.env := by rfl) (none : (backTo pos (starEach es X.env)).any (·.1) = false := by rfl) :
    PE X (.Call (.Name x p) (e :: es) [] pos) (tMakeA C sp E t) := by
  constructor
  intro pins s σ H Q I want
  refine wpAny_Call_Name_kw (ld_glob I glo isC ?_ nodbg)
  refine PySem.W.callWith_K (h₀ := X.base) I.ok.mod.kin M.kp (thn (args.run pos pins s σ H _ I want) ?_) plain none
  rintro us s1 ⟨vs, H1, I1, r1, want1⟩
  exact ⟨I1.kIn, run_makeA M F room bnd (lets σ) I1 r1 want1⟩
end
/-- o.append(e), its kit told apart -/
theorem pe_app {X : Cx} {K : PySem.W.Frag} {o e : Expr} {to : TE} {t : TA} {apos cpos : Pos} (hK : X.K = K) (ho : PE X o to) (ha : PA X [e] t) (b1 : attributeBase o "append" X.env (eval o X.env) = eval o X.env := by rfl)
    (b2 : ((backTo cpos (starEach [e] X.env)).all (fun z => !z.1) && (backToKw cpos (keywordEach [] X.env)).all (fun z => z.1.isSome) && decide ([e].length + ([] : List Keyword).length + (if ([] : List Keyword).isEmpty then 0 else 1) < 30)) = true := by rfl)
    (b3 : (apos.endLine == cpos.line) = true := by rfl) (b4 : starEach [e] X.env = (false, eval e X.env) :: starEach [] X.env := by rfl) (b5 : (backTo cpos (starEach [] X.env)).any (·.1) = false := by rfl) :
    PE X (.Call (.Attribute o "append" apos) [e] [] cpos) (tBM K "list" rAppend to t) := by
  subst hK
  exact pe_bm PySem.F.plainAttrs_list PySem.F.slot_list_append PySem.F.type_list_append mt_append ho ha b1 b2 b3 b4 b5
/-- a try with clauses, its reading by a name (a loop around it reads it so) -/
def tTry (K : PySem.W.Frag) (Wout : WX) (l : List Clause) (tb : WX → TS) : TS := fun D σ H => tb (wClauses K Wout D l) D σ H
theorem ps_tryC {X : Cx} {body : List Stmt} {hd1 : ExceptHandler} {hds : List ExceptHandler} {l : List Clause} {pos : Pos} {tb : WX → TS} {Wout : WX} (st : X.stack = X.env :: X.outer) (fr : X.env.frame = some X.env.locals) (nd : X.N.Nodup) (tk : Takes X Wout)
    (hb : ∀ (W : WX) (pn : List (Addr × Obj)) (xe : Value → Shared → Prop), Takes (X.tr pn xe) W → PassesOwn (model X.prog X.w) X.A X.env xe → PSs (X.tr pn xe) body (tb W)) (hh : Clauses X (hd1 :: hds) l) :
    PS X (.Try body (hd1 :: hds) [] [] pos) (tTry X.K Wout l tb) := ps_try_clauses st fr nd tk hb hh
end Ver
namespace K10
open PySem PySem.Spec PyProof.Rows L2 Ver
abbrev sLTold : Stmt := top 29
def spLTold (C : Addr) : Sp := fun vs H Q _ => ∃ (bk bv : Bool) (a d : Addr) (ks : List Str) (kvs : List (Key × V)) (ps : BPrims), vs = [.ref a, .ref d] ∧ SqH bk H a (ks.map V.str) ∧ (∀ k ∈ ks, TellOk (.str k)) ∧ H d = some (.dK kvs) ∧ BPEnts bv H kvs ps ∧ Tells ps ∧
  match dueOf ks ps with
  | none => ∀ H' g, Same H H' → H g = none → (∀ N : Addr → Prop, (∀ a, H a = none → ¬ N a) → SigAt N H' C g ks (unP ps)) → Q (.ref g) H'
  | some e => ∀ L H', Same H H' → H L = none → H' L = some (.lst [.str (dueW e.1), .str e.2]) → Q (.ref L) H'
section
variable {P : Program} {w : World} {K : PySem.W.Frag} {mg : Str → Option Value} {base : Heap} {C CN CT CV : Addr}
/-- which clause takes which exception -/
structure Takes3 (K : PySem.W.Frag) (CN CT CV : Addr) : Prop where
  nn : PySem.W.exmOne K (.ref CN) (.ref CN) = some true
  tn : PySem.W.exmOne K (.ref CT) (.ref CN) = some false
  tt : PySem.W.exmOne K (.ref CT) (.ref CT) = some true
  vn : PySem.W.exmOne K (.ref CV) (.ref CN) = some false
  vt : PySem.W.exmOne K (.ref CV) (.ref CT) = some false
  vv : PySem.W.exmOne K (.ref CV) (.ref CV) = some true
theorem scLt : FnScope ["kinds", "rows", "error"] ["kinds", "rows"] (defScope sLTold) := ⟨rfl, rfl, rfl, by decide +kernel, rfl, by decide +kernel, by decide +kernel⟩
theorem ok_ltold {f fI : Addr} {fd qI : FuncData} (F : Fun K "_law_told" "_law_told" sLTold f fd) (M : Mk K C fI) (mSig : mg "Signature" = some (.ref C)) (GI : FnOk P w K mg base (L2.CX P w) 5 fI qI ["self", "kinds", "primitives"] (spSigInit C CN CT CV)) (bI : Binds K qI ["self", "kinds", "primitives"] [])
    (gN : mg "BadName" = some (.ref CN)) (gT : mg "TwiceTold" = some (.ref CT)) (gV : mg "BadVariant" = some (.ref CV)) (xN : XfC K CN) (xT : XfC K CT) (xV : XfC K CV)
    (nN : PySem.W.findIn K (.ref CN) "name" = some none) (nT : PySem.W.findIn K (.ref CT) "name" = some none) (nV : PySem.W.findIn K (.ref CV) "name" = some none) (T3 : Takes3 K CN CT CV) :
    FnOk P w K mg base CX0 7 f fd ["kinds", "rows"] (spLTold C) := by
  refine F.ok scLt (fun vs H Q E h => ?_) (fun cdv A outer s H vs Q E hr h => ?_)
  · obtain ⟨bk, bv, a, d, ks, kvs, ps, rfl, _⟩ := h
    rfl
  · obtain ⟨bk, bv, a, d, ks, kvs, ps, rfl, ha, tellK, hd, hp, tells, q⟩ := h
    refine ⟨_, pss_one (ps_try_clauses rfl rfl scLt.nd takes0 (fun W pn xe tk _ => pss_one (ps_ret (pe_makeA M GI hr rfl mSig bI (fun σ => passAt tk σ) (pa_cons (pv 0) (pa_cons (pv 1) pa_nil)))))
        (.cons (k := ⟨.ref CN, 2, _⟩) ⟨rfl, by decide, .inl gN⟩ rfl rfl (fun a oe cls d pn hz hf => pss_one (ps_ret (pe_lst (pa_cons pe_str (pa_cons (pe_xf xN nN hz hf (pv 2)) pa_nil)))))
        (.cons (k := ⟨.ref CT, 2, _⟩) ⟨rfl, by decide, .inl gT⟩ rfl rfl (fun a oe cls d pn hz hf => pss_one (ps_ret (pe_lst (pa_cons pe_str (pa_cons (pe_xf xT nT hz hf (pv 2)) pa_nil)))))
        (.cons (k := ⟨.ref CV, 2, _⟩) ⟨rfl, by decide, .inl gV⟩ rfl rfl (fun a oe cls d pn hz hf => pss_one (ps_ret (pe_lst (pa_cons pe_str (pa_cons (pe_xf xV nV hz hf (pv 2)) pa_nil))))) .nil)))), ?_⟩
    refine ⟨_, rfl, _, rfl, fun x dx nx ndx ne => ?_⟩
    have s1 : Same H (upd (upd H dx (.own x)) x (.ins C dx [])) := (same_new ndx).trans (same_new (by rw [upd_ne ne.symm]; exact nx))
    have x1 : upd (upd H dx (.own x)) x (.ins C dx []) x = some (.ins C dx []) := upd_same
    generalize upd (upd H dx (.own x)) x (.ins C dx []) = H1 at s1 x1
    refine ⟨bk, bv, x, dx, a, d, ks, kvs, ps, rfl, x1, s1 _ _ ha, tellK, s1 _ _ hd, hp.std (Std.of s1), tells, ?_⟩
    cases ed : dueOf ks ps with
    | none =>
      rw [ed] at q
      intro H' dx' ka ow pr es kvs' back eg eka eow hes epr hpr now npr
      have sb : Same H H' := fun b o e => back b o (ne_of_none e nx) (s1 _ _ e)
      exact ⟨rfl, q H' x sb nx fun N hN => ⟨dx', ka, ow, pr, es, kvs', eg, eka, eow, hes, epr, hpr, hN _ nx, hN _ (s1.free now), hN _ (s1.free npr)⟩⟩
    | some e =>
      rw [ed] at q
      obtain ⟨n, word⟩ := e
      intro H' back d' nd'
      have sb : Same H H' := fun b o e => back b o (ne_of_none e nx) (s1 _ _ e)
      have sm : Same H (upd H' d' (.xd [("name", .str word)])) := sb.trans (same_new nd')
      match n with
      | 0 =>
        refine ⟨true, T3.nn, fun _ a na => ?_, (fun z => by cases z)⟩
        exact ⟨_, rfl, rfl, rfl, d', _, .str word, rfl, upd_same, rfl, by show 2 ≤ sizeLine; decide, fun L nL => q L _ (sm.trans (same_new nL)) (sm.free nL) upd_same⟩
      | 1 =>
        refine ⟨false, T3.tn, (fun z => by cases z), fun _ => ⟨true, T3.tt, fun _ a na => ?_, (fun z => by cases z)⟩⟩
        exact ⟨_, rfl, rfl, rfl, d', _, .str word, rfl, upd_same, rfl, by show 2 ≤ sizeLine; decide, fun L nL => q L _ (sm.trans (same_new nL)) (sm.free nL) upd_same⟩
      | n + 2 =>
        refine ⟨false, T3.vn, (fun z => by cases z), fun _ => ⟨false, T3.vt, (fun z => by cases z), fun _ => ⟨true, T3.vv, fun _ a na => ?_, (fun z => by cases z)⟩⟩⟩
        exact ⟨_, rfl, rfl, rfl, d', _, .str word, rfl, upd_same, rfl, by show 2 ≤ sizeLine; decide, fun L nL => q L _ (sm.trans (same_new nL)) (sm.free nL) upd_same⟩
end
end K10
/-! K10, 13: what is unknown -/
namespace K10
open PySem PySem.Spec PyProof.Rows L2 Ver
abbrev sUnk : Stmt := top 32
theorem das_rep {N : Addr → Prop} {H : Hp} {v : V} {d : PyData} (h : Da N H v d) : ∀ m, Das N H (List.replicate m v) (List.replicate m d)
  | 0 => .nil
  | m + 1 => .cons h (das_rep h m)
theorem eq_same {x : V} : decide (x = x) = true := by simp
def spUnk (C : Addr) : Sp := fun vs H Q _ => ∃ (N M : Addr → Prop) (g : Addr) (ks : List Str) (ps : Prims) (v : V) (d : PyData), vs = [.ref g, v] ∧ SigAt N H C g ks ps ∧ Da M H v d ∧ TellOk d ∧ Fit 100000 3 (.list [d, d, d]) ∧ primed ps d = none ∧ named ps d = none ∧ ∀ H', Same H H' → Q (.bl true) H'
section
variable {P : Program} {w : World} {K : PySem.W.Frag} {mg : Str → Option Value} {base : Heap} {C CU : Addr}
/-- what the top says of the exception of unknown names -/
structure UnkC (K : PySem.W.Frag) (mg : Str → Option Value) (CU : Addr) : Prop where
  g : mg "UnknownName" = some (.ref CU)
  x : XfC K CU
  n : PySem.W.findIn K (.ref CU) "name" = some none
  e : PySem.W.exmOne K (.ref CU) (.ref CU) = some true
/-- the methods that are asked -/
structure Asks (P : Program) (w : World) (K : PySem.W.Frag) (mg : Str → Option Value) (base : Heap) (C CU fV fW fF : Addr) (qV qW qF : FuncData) : Prop where
  cl : SigC K C
  mV : Meth K C "variants" fV
  GV : FnOk P w K mg base (L2.CX P w) 4 fV qV ["self", "name"] (spVariants C CU)
  bV : Binds K qV ["self", "name"] []
  mW : Meth K C "variant" fW
  GW : FnOk P w K mg base (L2.CX P w) 4 fW qW ["self", "name"] (spVariant C CU)
  bW : Binds K qW ["self", "name"] []
  GF : FnOk P w K mg base (L2.CX P w) 5 fF qF ["signature", "name", "kinds"] (spVFor C CU)
  DF : Def K mg "variant_for" fF
  bF : Binds K qF ["signature", "name", "kinds"] []
abbrev nUn : List Str := ["ground", "odd", "found", "way", "error"]
theorem scUn : FnScope nUn ["ground", "odd"] (defScope sUnk) := ⟨rfl, rfl, rfl, by decide +kernel, rfl, by decide +kernel, by decide +kernel⟩
theorem ok_unknown {f fV fW fF : Addr} {fd qV qW qF : FuncData} (F : Fun K "_law_unknown" "_law_unknown" sUnk f fd) (Tx : Txt mg) (gR : mg "repr" = none) (U : UnkC K mg CU) (Y : Asks P w K mg base C CU fV fW fF qV qW qF) :
    FnQ P w K mg base CX0 6 f fd ["ground", "odd"] (spUnk C) := by
  refine fnQ_ok F scUn (fun vs H Q E h => ?_) (fun cdv A outer s H vs Q E hg hr h => ?_)
  · obtain ⟨N, M, g, ks, ps, v, d, rfl, _⟩ := h
    rfl
  · obtain ⟨N, M, g, ks, ps, v, d, rfl, sig, hv, ht, fit, np, nn, q⟩ := h
    have hq : (A.deeper (envOfC "_law_unknown" (defScope sUnk) s.heap.objs.size f cdv)).guards = some [] := hg
    have hu4 : (A.deeper (envOfC "_law_unknown" (defScope sUnk) s.heap.objs.size f cdv)).units + (3 + 1) < cLine := Nat.lt_of_le_of_lt (Nat.add_le_add_left (by decide) _) hr.units
    have nb : 100000 ≤ sizeLine := by decide
    have hr4 : Room 4 (A.deeper (envOfC "_law_unknown" (defScope sUnk) s.heap.objs.size f cdv)) := hr.mono (by decide)
    refine ⟨_, pss_cons (ps_set (i := 2) scUn.nd rfl (.inl rfl) (pe_lst pa_nil))
      (pss_cons (ps_for PassesOwn.never rfl (pi_range1 (by rfl) Tx.range (pa_cons pe_int pa_nil)) (pg_name (i := 3) scUn.nd rfl (.inl rfl))
        (pss_one (ps_tryC rfl rfl scUn.nd takes0 (fun W pn xe tk _ => pss_one (ps_if (pt_cmpR op_eq (pv 3) pe_int (nomark _)) (pss_one (ps_expr (pe_methA (pv 0) Y.cl.cl Y.mV Y.GV hr4 Y.bV (fun σ => passAt tk σ) (pa_cons (pv 1) pa_nil))))
            (pss_one (ps_if (pt_cmpR op_eq (pv 3) pe_int (nomark _)) (pss_one (ps_expr (pe_methA (pv 0) Y.cl.cl Y.mW Y.GW hr4 Y.bW (fun σ => passAt tk σ) (pa_cons (pv 1) pa_nil))))
              (pss_one (ps_expr (pe_callS Y.GF hr rfl Y.DF.gl Y.DF.kp Y.bF (fun σ => passAt tk σ) (pa_cons (pv 0) (pa_cons (pv 1) (pa_cons (pe_tup (pa_cons pe_str pa_nil)) pa_nil))))))))))
          (.cons (k := ⟨.ref CU, 4, _⟩) ⟨rfl, by decide, .inl U.g⟩ rfl rfl (fun a oe cls d pn hz hf => pss_one (ps_expr (pe_app (K := K) rfl (pv 2) (pa_cons (pe_xf U.x U.n hz hf (pv 4)) pa_nil)))) .nil))))
      (pss_one (ps_ret (pe_cmpR op_eq (pe_callB (call_reprL hq hu4 nb) (by rfl) gR (by decide +kernel) (pa_cons (pv 2) pa_nil)) (pe_callB (call_reprL hq hu4 nb) (by rfl) gR (by decide +kernel) (pa_cons (pe_op op_rep (pe_lst (pa_cons (pv 1) pa_nil)) pe_int) pa_nil)) (nomark _))))), ?_⟩
    refine ⟨by show 0 ≤ sizeLine; decide, fun fa nfa => ?_⟩
    obtain ⟨H1, z, s1, e1⟩ := fresh nfa (.lst [])
    rw [z]
    clear z
    refine ⟨3, rfl, by decide, by decide, ?_⟩
    refine for_it (walk_range (lo := 0) (n := 3)) (fun i σ Hx => Same H Hx ∧ Hx fa = some (.lst (List.replicate i v)) ∧ ∃ v3, σ = [some (.ref g), some v, some (.ref fa), v3, none]) ⟨s1, e1, _, rfl⟩ (fun _ _ _ _ _ => trivial) ?_ ?_
    · rintro i x σ Hy Hx hi ⟨sx, ex, v3, rfl⟩ ⟨rfl, rfl⟩
      have lt : (List.replicate i v).length < sizeLine := by
        rw [List.length_replicate]
        exact Nat.lt_of_lt_of_le hi (by decide)
      -- an unknown name, told and kept
      have app : ∀ {d' : Addr} {H' : Hp}, Same Hx H' → H' d' = none → upd H' d' (.xd [("name", v)]) fa = some (.lst (List.replicate i v)) ∧ Same H (upd (upd H' d' (.xd [("name", v)])) fa (.lst (List.replicate i v ++ [v]))) ∧
          upd (upd H' d' (.xd [("name", v)])) fa (.lst (List.replicate i v ++ [v])) fa = some (.lst (List.replicate (i + 1) v)) := fun {d' H'} sh nd => by
        refine ⟨same_new nd _ _ (sh _ _ ex), fun b o e => ?_, ?_⟩
        · rw [upd_ne (ne_of_none e nfa)]
          exact same_new nd _ _ (sh _ _ (sx _ _ e))
        · rw [upd_same, List.replicate_succ']
      have hvx := hv.keep (Same.keep (N := M) sx)
      have sgx := sig.same sx
      obtain ⟨dx, ka, ow, pr, es, kvs, hg', _⟩ := id sgx
      have i3 : i = 0 ∨ i = 1 ∨ i = 2 := by omega
      rcases i3 with rfl | rfl | rfl
      · refine ⟨_, rfl, rfl, _, rfl, ite2 (fun _ => ?_) (fun z => absurd (by rfl) z)⟩
        refine ⟨_, rfl, g, dx, _, rfl, hg', rfl, _, rfl, N, M, g, ks, ps, v, d, rfl, sgx, hvx, ht, ?_⟩
        rw [np]
        intro d' nd'
        refine ⟨true, U.e, fun _ a na => ?_, (fun z => by cases z)⟩
        obtain ⟨a1, a2, a3⟩ := app (Same.refl Hx) nd'
        exact ⟨_, rfl, .inl ⟨rfl, _, SqL.of a1⟩, _, rfl, rfl, rfl, d', _, v, rfl, upd_same, rfl, fa, _, _, rfl, rfl, a1, lt, a2, a3, _, rfl⟩
      · refine ⟨_, rfl, rfl, _, rfl, ite2 (fun z => absurd z (by decide)) (fun _ => ?_)⟩
        refine ⟨_, rfl, rfl, _, rfl, ite2 (fun _ => ?_) (fun z => absurd (by rfl) z)⟩
        refine ⟨_, rfl, g, dx, _, rfl, hg', rfl, _, rfl, N, M, g, ks, ps, v, d, rfl, sgx, hvx, ht, ?_⟩
        rw [nn]
        intro d' nd'
        refine ⟨true, U.e, fun _ a na => ?_, (fun z => by cases z)⟩
        obtain ⟨a1, a2, a3⟩ := app (Same.refl Hx) nd'
        exact ⟨_, rfl, .inl ⟨rfl, _, SqL.of a1⟩, _, rfl, rfl, rfl, d', _, v, rfl, upd_same, rfl, fa, _, _, rfl, rfl, a1, lt, a2, a3, _, rfl⟩
      · refine ⟨_, rfl, rfl, _, rfl, ite2 (fun z => absurd z (by decide)) (fun _ => ?_)⟩
        refine ⟨_, rfl, rfl, _, rfl, ite2 (fun z => absurd z (by decide)) (fun _ => ?_)⟩
        refine ⟨_, rfl, _, rfl, by show 1 ≤ sizeLine; decide, fun t nt => ?_⟩
        obtain ⟨H2, z, s2, e2⟩ := fresh nt (.tup [.str "k"])
        rw [z]
        clear z
        refine ⟨N, M, g, ks, ps, v, .ref t, d, txtsD ["k"], rfl, sgx.same s2, hvx.keep (Same.keep s2), ht, fun K => dp_tupS (ws := ["k"]) e2, ?_⟩
        rw [np]
        intro d' nd'
        refine ⟨true, U.e, fun _ a na => ?_, (fun z => by cases z)⟩
        obtain ⟨a1, a2, a3⟩ := app s2 nd'
        exact ⟨_, rfl, .inl ⟨rfl, _, SqL.of a1⟩, _, rfl, rfl, rfl, d', _, v, rfl, upd_same, rfl, fa, _, _, rfl, rfl, a1, lt, a2, a3, _, rfl⟩
    · rintro σ Hx ⟨sx, ex, v3, rfl⟩
      refine ⟨_, rfl, M, fa, _, [d, d, d], rfl, ex, by simp, das_rep (hv.keep (Same.keep sx)) 3, fit, _, rfl, by show 1 ≤ sizeLine; decide, fun l nl => ?_⟩
      obtain ⟨H3, z, s3, e3⟩ := fresh nl (.lst [v])
      rw [z]
      clear z
      refine ⟨l, 3, [v], rfl, rfl, e3, by decide, by decide, by show 3 ≤ sizeLine; decide, fun p np => ?_⟩
      obtain ⟨H4, z, s4, e4⟩ := fresh np (.lst [v, v, v])
      erw [z]
      clear z
      have S4 : Same H H4 := sx.trans (s3.trans s4)
      refine ⟨M, p, _, [d, d, d], rfl, e4, by simp, das_rep (hv.keep (Same.keep S4)) 3, fit, rfl, ?_⟩
      rw [eq_same]
      exact q _ S4
end
end K10
/-! K10, 14: names of primitives and of variants are kept apart -/
namespace K10
open PySem PySem.Spec PyProof.Rows L2 Ver
abbrev sApart : Stmt := top 33
theorem look_some {α : Type} {l : List (Str × α)} {k : Str} (h : k ∈ l.map Prod.fst) : ∃ v, l.lookup k = some v := by
  cases e : l.lookup k with
  | some v => exact ⟨v, rfl⟩
  | none =>
    obtain ⟨x, hx, e1⟩ := List.mem_map.mp h
    have := List.lookup_eq_none_iff.mp e x hx
    simp [e1] at this
theorem look_none {α : Type} {l : List (Str × α)} {k : Str} (h : k ∉ l.map Prod.fst) : l.lookup k = none := by
  cases e : l.lookup k with
  | none => rfl
  | some v =>
    exfalso
    obtain ⟨l1, l2, rfl, _⟩ := List.lookup_eq_some_iff.mp e
    exact h (by simp)
theorem tell_names {ks : List Str} {ps : Prims} (ok : PrimsOk ks ps) : ∀ n ∈ ps.map Prod.fst ++ (ownersOf ps).map Prod.fst, TellOk (.str n) := fun n h => by
  rcases List.mem_append.mp h with h | h
  · obtain ⟨p, hp, rfl⟩ := List.mem_map.mp h
    exact (ok.word p hp).2
  · obtain ⟨e, he, rfl⟩ := List.mem_map.mp h
    obtain ⟨p, hp, hm⟩ := List.mem_flatMap.mp he
    obtain ⟨r, hr, rfl⟩ := List.mem_map.mp hm
    exact (ok.vword p hp r hr).2
def spApart (C : Addr) : Sp := fun vs H Q _ => ∃ (N M : Addr → Prop) (g r : Addr) (ks : List Str) (as : List Addr) (ps : Prims), vs = [.ref g, .ref r] ∧ SigAt N H C g ks ps ∧ H r = some (.lst (as.map V.ref)) ∧ GPairs M H as ps ∧ PrimsOk ks ps ∧ ∀ H', Same H H' → Q (.bl true) H'
abbrev nAp : List Str := ["ground", "rows", "names", "variants", "name", "some", "word", "found", "way", "error", "row"]
theorem le1000 {n : Nat} (h : n ≤ 1000) : n ≤ sizeLine := Nat.le_trans h (by decide)
/-- what is found of a word -/
def foundV (b : Bool) (i : Int) (n : Str) : V := if b = true then .int i else .str n
def foundD (b : Bool) (i : Int) (n : Str) : PyData := if b = true then .int i else .str n
theorem found_dp {K : PySem.W.Frag} {H : Hp} (b : Bool) (i : Int) (n : Str) : Dp K H (foundV b i n) (foundD b i n) := by
  cases b
  · exact .str n
  · exact .int i
theorem found_eq (a b : Bool) (n : Str) : PyData.eqv (.list [foundD a 0 n, foundD b 1 n]) (.list [foundD a 0 n, foundD b 1 n]) = true := by
  have e : PyData.eqv (.str n) (.str n) = true := beq_self_eq_true n
  have e0 : PyData.eqv (.int 0) (.int 0) = true := by decide +kernel
  have e1 : PyData.eqv (.int 1) (.int 1) = true := by decide +kernel
  cases a <;> cases b
  · show (PyData.eqv (.str n) (.str n) && (PyData.eqv (.str n) (.str n) && true)) = true
    rw [e]
    rfl
  · show (PyData.eqv (.str n) (.str n) && (PyData.eqv (.int 1) (.int 1) && true)) = true
    rw [e, e1]
    rfl
  · show (PyData.eqv (.int 0) (.int 0) && (PyData.eqv (.str n) (.str n) && true)) = true
    rw [e, e0]
    rfl
  · show (PyData.eqv (.int 0) (.int 0) && (PyData.eqv (.int 1) (.int 1) && true)) = true
    rw [e0, e1]
    rfl
theorem found_depth (a b : Bool) (n : Str) : (PyData.list [foundD a 0 n, foundD b 1 n]).depth ≤ 60 := by
  cases a <;> cases b <;> (show max 0 (max 0 0) + 1 ≤ 60; decide)
section
variable {P : Program} {w : World} {K : PySem.W.Frag} {mg : Str → Option Value} {base : Heap} {C CU : Addr}
theorem scAp : FnScope nAp ["ground", "rows"] (defScope sApart) := ⟨rfl, rfl, rfl, by decide +kernel, rfl, by decide +kernel, by decide +kernel⟩
theorem ok_apart {f fV fW fF : Addr} {fd qV qW qF : FuncData} (F : Fun K "_law_kept_apart" "_law_kept_apart" sApart f fd) (Tx : Txt mg) (U : UnkC K mg CU) (Y : Asks P w K mg base C CU fV fW fF qV qW qF) :
    FnOk P w K mg base CX0 5 f fd ["ground", "rows"] (spApart C) := by
  refine F.ok scAp (fun vs H Q E h => ?_) (fun cdv A outer s H vs Q E hr h => ?_)
  · obtain ⟨N, M, g, r, ks, as, ps, rfl, _⟩ := h
    rfl
  · obtain ⟨N, M, g, r, ks, as, ps, rfl, sig, hrr, hps, ok, q⟩ := h
    refine ⟨_, pss_cons (ps_par (i := 2) (j := 3) rfl scAp.nd rfl rfl (by decide) rfl rfl (pa_cons (pe_lc (own := [("row", 10)]) (g := gName 10) (tt := tYes) rfl scAp.nd (pi_list (pv 1)) (blkOk_by (N := nAp) (sc := defScope sApart) (by decide +kernel)) (fun _ _ _ _ _ => pg_name (i := 10) scAp.nd rfl (.inl rfl)) (fun _ _ _ _ _ => pts_nil)
          (fun _ _ _ _ _ => pe_ix (r := rIxT K) ix_tup (pv 10) pe_int (fun _ _ => rfl))) (pa_cons (pe_lst pa_nil) pa_nil)) rfl)
      (pss_cons (ps_for PassesOwn.never rfl (pi_list (pv 1)) (pg_tup (by rfl) (pgs_cons (pg_name (i := 4) scAp.nd rfl (.inl rfl)) (pgs_cons (pg_name (i := 5) scAp.nd rfl (.inl rfl)) pgs_nil)))
        (pss_one (ps_set (i := 3) scAp.nd rfl (.inl rfl) (pe_op op_cat (pv 3) (pe_lc (own := [("row", 10)]) (g := gName 10) (tt := tYes) rfl scAp.nd (pi_list (pv 5)) (blkOk_by (N := nAp) (sc := defScope sApart) (by decide +kernel)) (fun _ _ _ _ _ => pg_name (i := 10) scAp.nd rfl (.inl rfl)) (fun _ _ _ _ _ => pts_nil)
          (fun _ _ _ _ _ => pe_ix (r := rIxT K) ix_tup (pv 10) pe_int (fun _ _ => rfl)))))))
      (pss_cons (ps_for PassesOwn.never rfl (pi_list (pe_op op_cat (pv 2) (pv 3))) (pg_name (i := 6) scAp.nd rfl (.inl rfl))
        (pss_cons (ps_set (i := 7) scAp.nd rfl (.inl rfl) (pe_lst pa_nil))
        (pss_cons (ps_for PassesOwn.never rfl (pi_range1 (by rfl) Tx.range (pa_cons pe_int pa_nil)) (pg_name (i := 8) scAp.nd rfl (.inl rfl))
          (pss_one (ps_tryC rfl rfl scAp.nd takes0 (fun W pn xe tk _ => pss_cons (ps_if (pt_cmpR op_eq (pv 8) pe_int (nomark _)) (pss_one (ps_expr (pe_methA (pv 0) Y.cl.cl Y.mV Y.GV hr Y.bV (fun σ => passAt tk σ) (pa_cons (pv 6) pa_nil))))
              (pss_one (ps_expr (pe_methA (pv 0) Y.cl.cl Y.mW Y.GW hr Y.bW (fun σ => passAt tk σ) (pa_cons (pv 6) pa_nil)))))
              (pss_one (ps_expr (pe_app (K := K) rfl (pv 7) (pa_cons (pv 8) pa_nil)))))
            (.cons (k := ⟨.ref CU, 9, _⟩) ⟨rfl, by decide, .inl U.g⟩ rfl rfl (fun a oe cls d pn hz hf => pss_one (ps_expr (pe_app (K := K) rfl (pv 7) (pa_cons (pe_xf U.x U.n hz hf (pv 9)) pa_nil)))) .nil))))
        (pss_one (ps_if (pt_cmpR (r := rNeP K) (op_neP hr.units) (pv 7) (pe_lst (pa_cons (pe_ifExp (pt_cmpR op_in_seq (pv 6) (pv 2) (by rfl)) pe_int (pv 6)) (pa_cons (pe_ifExp (pt_cmpR op_in_seq (pv 6) (pv 3) (by rfl)) pe_int (pv 6)) pa_nil))) (nomark _)) (pss_one (ps_ret pe_bl)) pss_nil)))))
      (pss_one (ps_ret pe_bl)))), ?_⟩
    have spl : as.length = ps.length := Paired.length hps
    have own_le := ok.few
    have fewP := ok.fewP
    have col : ∀ {H2 : Hp} {l : Addr} {rs : List Addr} {rows : List Row}, True := trivial
    -- the names of the primitives
    refine ⟨_, rfl, r, rfl, ⟨_, SqL.of hrr⟩, fun D nD => lc_it (walk_list (K := K) (a := r) (xs := as.map V.ref)) (fun i H2 => Same H H2 ∧ H2 D = some (.lst (((ps.take i).map Prod.fst).map V.str))) ⟨same_new nD, upd_same⟩ (fun i H2 _ ⟨sm, _⟩ => SqL.of (sm _ _ hrr)) ?_ ?_⟩
    · rintro i x H2 H3 hi ⟨sm, eD⟩ ⟨rfl, hx⟩
      rw [List.getElem?_map] at hx
      obtain ⟨a, ha, rfl⟩ := Option.map_eq_some_iff.mp hx
      obtain ⟨p, ep, l, rs, t1, _⟩ := Paired.at hps ha
      refine ⟨rfl, _, rfl, a, _, _, .str p.1, rfl, rfl, SqT.of (sm _ _ t1), atI_nat (j := 0) rfl, _, eD, ?_, fun b o e => ?_, ?_⟩
      · rw [List.length_map, List.length_map, List.length_take]
        exact small1000 (by omega)
      · rw [upd_ne (ne_of_none e nD)]
        exact sm _ _ e
      · rw [upd_same, List.take_add_one, ep]
        simp
    rintro H1 ⟨s1, e1⟩
    rw [List.length_map, spl, List.take_length] at e1
    refine ⟨by show 0 ≤ sizeLine; decide, fun v0 nv0 => ?_⟩
    obtain ⟨H2, z, s2, e2⟩ := fresh nv0 (.lst [])
    rw [z]
    clear z
    refine ⟨_, _, rfl, ?_⟩
    have s02 : Same H H2 := s1.trans s2
    have eD2 := s2 _ _ e1
    have own_cut : ∀ i, (ownersOf (ps.take i)).length ≤ (ownersOf ps).length := fun i => by
      have h : ownersOf ps = ownersOf (ps.take i) ++ ownersOf (ps.drop i) := by
        unfold ownersOf
        rw [← List.flatMap_append, List.take_append_drop]
      rw [h, List.length_append]
      omega
    refine ⟨_, rfl, r, rfl, ⟨_, SqL.of (s02 _ _ hrr)⟩, for_it (walk_list (K := K) (a := r) (xs := as.map V.ref)) (fun i σ Hx => Same H2 Hx ∧ ∃ vl v4 v5, σ = [some (.ref g), some (.ref r), some (.ref D), some (.ref vl), v4, v5, none, none, none, none, none] ∧ Hx vl = some (.lst (((ownersOf (ps.take i)).map Prod.fst).map V.str)))
      ⟨Same.refl H2, v0, _, _, rfl, e2⟩ (fun i σ Hx _ ⟨sm, _⟩ => SqL.of (sm _ _ (s02 _ _ hrr))) ?_ ?_⟩
    · rintro i x σ Hx Hy hi ⟨sm, vl, v4, v5, rfl, ev⟩ ⟨rfl, hx⟩
      rw [List.getElem?_map] at hx
      obtain ⟨a, ha, rfl⟩ := Option.map_eq_some_iff.mp hx
      obtain ⟨p, ep, l, rs, t1, t2, hrows, _⟩ := Paired.at hps ha
      have sx := s02.trans sm
      have nle := own_cut (i + 1)
      rw [owners_take ep, List.length_append, List.length_map] at nle
      refine ⟨a, _, rfl, SqT.of (sx _ _ t1), rfl, _, _, rfl, _, _, rfl, rfl, ?_⟩
      refine ⟨_, rfl, _, rfl, l, rfl, ⟨_, SqL.of (sx _ _ t2)⟩, fun D2 nD2 => lc_it (walk_list (K := K) (a := l) (xs := rs.map V.ref)) (fun j H4 => Same Hy H4 ∧ H4 D2 = some (.lst (((p.2.take j).map fun r => r.1).map V.str))) ⟨same_new nD2, upd_same⟩ (fun j H4 _ ⟨sj, _⟩ => SqL.of (sj _ _ (sx _ _ t2))) ?_ ?_⟩
      · rintro j y H4 H5 hj ⟨sj, eD⟩ ⟨rfl, hy⟩
        rw [List.getElem?_map] at hy
        obtain ⟨a', ha', rfl⟩ := Option.map_eq_some_iff.mp hy
        obtain ⟨row, er, o, u1, u2⟩ := Paired.at hrows ha'
        have hj1 : j < p.2.length := (List.getElem?_eq_some_iff.mp er).1
        refine ⟨rfl, _, rfl, a', _, _, .str row.1, rfl, rfl, SqT.of (sj _ _ (sx _ _ u1)), atI_nat (j := 0) rfl, _, eD, ?_, fun b o e => ?_, ?_⟩
        · rw [List.length_map, List.length_map, List.length_take]
          exact small1000 (by omega)
        · rw [upd_ne (ne_of_none e nD2)]
          exact sj _ _ e
        · rw [upd_same, List.take_add_one, er]
          simp
      rintro H4 ⟨sj, eD⟩
      rw [List.length_map, Paired.length hrows, List.take_length] at eD
      refine ⟨vl, D2, _, _, rfl, rfl, sj _ _ ev, eD, ?_, fun p' np' => ?_⟩
      · rw [List.length_map, List.length_map, List.length_map, List.length_map]
        exact le1000 (by omega)
      · obtain ⟨H5, z, s5, e5⟩ := fresh np' (.lst (((ownersOf (ps.take i)).map Prod.fst).map V.str ++ (p.2.map fun r => r.1).map V.str))
        rw [z]
        clear z
        refine ⟨(sm.trans sj).trans s5, p', _, _, rfl, ?_⟩
        rw [e5, owners_take ep]
        simp
    rintro σ Hx ⟨sm, vl, v4, v5, rfl, ev⟩
    rw [List.length_map, spl, List.take_length] at ev
    have eDx := sm _ _ eD2
    have s0x := s02.trans sm
    clear eD2 s02 sm e2 e1 s1 s2
    refine ⟨_, rfl, _, rfl, D, vl, _, _, rfl, rfl, eDx, ev, by rw [List.length_map, List.length_map, List.length_map, List.length_map]; exact le1000 (by omega), fun nw nnw => ?_⟩
    obtain ⟨H3, z, s3, e3⟩ := fresh nnw (.lst ((ps.map Prod.fst).map V.str ++ ((ownersOf ps).map Prod.fst).map V.str))
    rw [z]
    clear z
    rw [← List.map_append] at e3
    have s03 := s0x.trans s3
    have eD3 := s3 _ _ eDx
    have ev3 := s3 _ _ ev
    have tell := tell_names ok
    generalize hW : ps.map Prod.fst ++ (ownersOf ps).map Prod.fst = ws at e3 tell
    refine ⟨nw, rfl, ⟨_, SqL.of e3⟩, for_it (walk_list (K := K) (a := nw) (xs := ws.map V.str)) (fun i σ Hx => Same H3 Hx ∧ ∃ v4 v5 v6 v7 v8, σ = [some (.ref g), some (.ref r), some (.ref D), some (.ref vl), v4, v5, v6, v7, v8, none, none])
      ⟨Same.refl H3, _, _, _, _, _, rfl⟩ (fun i σ Hx _ ⟨sm, _⟩ => SqL.of (sm _ _ e3)) ?_ ?_⟩
    case refine_2 =>
      rintro σ Hx ⟨sm, v4, v5, v6, v7, v8, rfl⟩
      exact q _ (s03.trans sm)
    clear v4 v5
    rintro i x σ Hx Hy hi ⟨sm, v4, v5, v6, v7, v8, rfl⟩ ⟨rfl, hx⟩
    rw [List.getElem?_map] at hx
    obtain ⟨word, hwd, rfl⟩ := Option.map_eq_some_iff.mp hx
    have tw := tell word (List.mem_of_getElem? hwd)
    refine ⟨by show 0 ≤ sizeLine; decide, fun fa nfa => ?_⟩
    obtain ⟨H4, z, s4, e4⟩ := fresh nfa (.lst [])
    rw [z]
    clear z
    have s34 := sm.trans s4
    have s04 := s03.trans s34
    have lkP : (∃ rows, ps.lookup word = some rows ∧ decide (word ∈ ps.map Prod.fst) = true) ∨ (ps.lookup word = none ∧ decide (word ∈ ps.map Prod.fst) = false) := by
      by_cases h : word ∈ ps.map Prod.fst
      · obtain ⟨rows, e⟩ := look_some h
        exact .inl ⟨rows, e, decide_eq_true h⟩
      · exact .inr ⟨look_none h, decide_eq_false h⟩
    have lkV : (∃ row, (ownersOf ps).lookup word = some row ∧ decide (word ∈ (ownersOf ps).map Prod.fst) = true) ∨ ((ownersOf ps).lookup word = none ∧ decide (word ∈ (ownersOf ps).map Prod.fst) = false) := by
      by_cases h : word ∈ (ownersOf ps).map Prod.fst
      · obtain ⟨row, e⟩ := look_some h
        exact .inl ⟨row, e, decide_eq_true h⟩
      · exact .inr ⟨look_none h, decide_eq_false h⟩
    generalize hb0 : decide (word ∈ ps.map Prod.fst) = b0 at lkP
    generalize hb1 : decide (word ∈ (ownersOf ps).map Prod.fst) = b1 at lkV
    refine ⟨2, rfl, by decide, by decide, ?_⟩
    refine for_it (walk_range (lo := 0) (n := 2)) (fun j σ Hz => Same Hy Hz ∧ Hz fa = some (.lst (([foundV b0 0 word, foundV b1 1 word]).take j)) ∧ ∃ v8, σ = [some (.ref g), some (.ref r), some (.ref D), some (.ref vl), v4, v5, some (.str word), some (.ref fa), v8, none, none])
      ⟨s4, e4, _, rfl⟩ (fun _ _ _ _ _ => trivial) ?_ ?_
    · rintro j x σ Hw Hz hj ⟨sz, ez, v8', rfl⟩ ⟨rfl, rfl⟩
      have lt : ([foundV b0 0 word, foundV b1 1 word].take j).length < sizeLine := Nat.lt_of_le_of_lt (List.length_take_le _ _) (Nat.lt_of_lt_of_le hj (by decide))
      have sgz := sig.same (s03.trans (sm.trans sz))
      obtain ⟨dx, ka, ow, pr, es, kvs, hg', _⟩ := id sgz
      -- what is told is kept
      have app : ∀ {H' : Hp} {y : V}, Same Hz H' → [foundV b0 0 word, foundV b1 1 word][j]? = some y → H' fa = some (.lst (([foundV b0 0 word, foundV b1 1 word]).take j)) ∧ Same Hy (upd H' fa (.lst ([foundV b0 0 word, foundV b1 1 word].take j ++ [y]))) ∧
          upd H' fa (.lst ([foundV b0 0 word, foundV b1 1 word].take j ++ [y])) fa = some (.lst ([foundV b0 0 word, foundV b1 1 word].take (j + 1))) := fun {H' y} sh hy => by
        refine ⟨sh _ _ ez, fun b o e => ?_, ?_⟩
        · rw [upd_ne (ne_of_none e nfa)]
          exact sh _ _ (sz _ _ e)
        · rw [upd_same, List.take_add_one, hy]
          rfl
      have j2 : j = 0 ∨ j = 1 := by omega
      rcases j2 with rfl | rfl
      · refine ⟨_, rfl, rfl, _, rfl, ite2 (fun _ => ?_) (fun z => absurd (by rfl) z)⟩
        refine ⟨_, rfl, g, dx, _, rfl, hg', rfl, _, rfl, N, fun _ => False, g, ks, ps, .str word, .str word, rfl, sgz, .str word, tw, ?_⟩
        rcases lkP with ⟨rows, e, rfl⟩ | ⟨e, rfl⟩
        · rw [show primed ps (.str word) = some rows from e]
          intro L rs nL hrows
          obtain ⟨a1, a2, a3⟩ := app (y := .int 0) (same_new (o := .lst (rs.map V.ref)) nL) rfl
          exact ⟨_, rfl, .inl ⟨rfl, _, SqL.of a1⟩, _, rfl, fa, _, _, rfl, rfl, a1, lt, a2, a3, _, rfl⟩
        · rw [show primed ps (.str word) = none from e]
          intro d' nd'
          refine ⟨true, U.e, fun _ a na => ?_, (fun z => by cases z)⟩
          obtain ⟨a1, a2, a3⟩ := app (y := .str word) (same_new (o := .xd [("name", .str word)]) nd') rfl
          exact ⟨_, rfl, .inl ⟨rfl, _, SqL.of a1⟩, _, rfl, rfl, rfl, d', _, .str word, rfl, upd_same, rfl, fa, _, _, rfl, rfl, a1, lt, a2, a3, _, rfl⟩
      · refine ⟨_, rfl, rfl, _, rfl, ite2 (fun z => absurd z (by decide)) (fun _ => ?_)⟩
        refine ⟨_, rfl, g, dx, _, rfl, hg', rfl, _, rfl, N, fun _ => False, g, ks, ps, .str word, .str word, rfl, sgz, .str word, tw, ?_⟩
        rcases lkV with ⟨row, e, rfl⟩ | ⟨e, rfl⟩
        · rw [show named ps (.str word) = some row from e]
          intro L hrow
          obtain ⟨a1, a2, a3⟩ := app (y := .int 1) (Same.refl Hz) rfl
          exact ⟨_, rfl, .inl ⟨rfl, _, SqL.of a1⟩, _, rfl, fa, _, _, rfl, rfl, a1, lt, a2, a3, _, rfl⟩
        · rw [show named ps (.str word) = none from e]
          intro d' nd'
          refine ⟨true, U.e, fun _ a na => ?_, (fun z => by cases z)⟩
          obtain ⟨a1, a2, a3⟩ := app (y := .str word) (same_new (o := .xd [("name", .str word)]) nd') rfl
          exact ⟨_, rfl, .inl ⟨rfl, _, SqL.of a1⟩, _, rfl, rfl, rfl, d', _, .str word, rfl, upd_same, rfl, fa, _, _, rfl, rfl, a1, lt, a2, a3, _, rfl⟩
    · rintro σ Hz ⟨sz, ez, v8', rfl⟩
      have s3z := sm.trans sz
      have eDz := s3z _ _ eD3
      have evz := s3z _ _ ev3
      have ez' : Hz fa = some (.lst [foundV b0 0 word, foundV b1 1 word]) := ez
      have tail : ∀ (x0 x1 : V) (L : Addr), x0 = foundV b0 0 word → x1 = foundV b1 1 word → Hz L = none → ∃ d e, Dp K (upd Hz L (.lst [x0, x1])) (.ref fa) d ∧ Dp K (upd Hz L (.lst [x0, x1])) (.ref L) e ∧ d.depth ≤ 60 ∧ PyData.eqv d e = true ∧ Same Hy (upd Hz L (.lst [x0, x1])) := by
        rintro x0 x1 L rfl rfl nL
        refine ⟨.list [foundD b0 0 word, foundD b1 1 word], .list [foundD b0 0 word, foundD b1 1 word], .lst (SqL.of (same_new nL _ _ ez')) (.cons (found_dp ..) (.cons (found_dp ..) .nil)), .lst (SqL.of upd_same) (.cons (found_dp ..) (.cons (found_dp ..) .nil)), found_depth .., found_eq .., sz.trans (same_new nL)⟩
      clear lkP lkV
      have z0 : (if false = true then !inV (.str word) ((ps.map Prod.fst).map V.str) else inV (.str word) ((ps.map Prod.fst).map V.str)) = b0 := by rw [← hb0, ← inV_strs]; rfl
      have z1 : (if false = true then !inV (.str word) (((ownersOf ps).map Prod.fst).map V.str) else inV (.str word) (((ownersOf ps).map Prod.fst).map V.str)) = b1 := by rw [← hb1, ← inV_strs]; rfl
      refine ⟨_, rfl, _, rfl, _, rfl, D, _, rfl, .inl (SqL.of eDz), rfl, flat_strs _, _, rfl, ?_⟩
      rw [z0]
      cases b0 with
      | true =>
        refine ⟨_, rfl, _, rfl, vl, _, rfl, .inl (SqL.of evz), rfl, flat_strs _, _, rfl, ?_⟩
        rw [z1]
        cases b1 with
        | true =>
          refine ⟨by show 2 ≤ sizeLine; decide, fun L nL => ?_⟩
          obtain ⟨d, e, q1, q2, q3, q4, q5⟩ := tail _ _ L rfl rfl nL
          refine ⟨d, e, q1, q2, q3, _, rfl, ?_⟩
          rw [q4]
          exact ⟨sm.trans q5, _, _, _, _, _, rfl⟩
        | false =>
          refine ⟨_, rfl, by show 2 ≤ sizeLine; decide, fun L nL => ?_⟩
          obtain ⟨d, e, q1, q2, q3, q4, q5⟩ := tail _ _ L rfl rfl nL
          refine ⟨d, e, q1, q2, q3, _, rfl, ?_⟩
          rw [q4]
          exact ⟨sm.trans q5, _, _, _, _, _, rfl⟩
      | false =>
        refine ⟨_, rfl, _, rfl, _, rfl, vl, _, rfl, .inl (SqL.of evz), rfl, flat_strs _, _, rfl, ?_⟩
        rw [z1]
        cases b1 with
        | true =>
          refine ⟨by show 2 ≤ sizeLine; decide, fun L nL => ?_⟩
          obtain ⟨d, e, q1, q2, q3, q4, q5⟩ := tail _ _ L rfl rfl nL
          refine ⟨d, e, q1, q2, q3, _, rfl, ?_⟩
          rw [q4]
          exact ⟨sm.trans q5, _, _, _, _, _, rfl⟩
        | false =>
          refine ⟨_, rfl, by show 2 ≤ sizeLine; decide, fun L nL => ?_⟩
          obtain ⟨d, e, q1, q2, q3, q4, q5⟩ := tail _ _ L rfl rfl nL
          refine ⟨d, e, q1, q2, q3, _, rfl, ?_⟩
          rw [q4]
          exact ⟨sm.trans q5, _, _, _, _, _, rfl⟩
end
end K10
/-! K10, 15: a signature is right -/
namespace K10
open PySem PySem.Spec PyProof.Rows L2 Ver
abbrev sRight : Stmt := top 34
def spRight (C : Addr) : Sp := fun vs H Q _ => ∃ (N M : Addr → Prop) (v0 : V) (g a r : Addr) (ks : List Str) (as : List Addr) (ps : Prims), vs = [v0, .ref g, .ref a, .ref r] ∧ SigAt N H C g ks ps ∧ H a = some (.lst (ks.map V.str)) ∧ H r = some (.lst (as.map V.ref)) ∧ GPairs M H as ps ∧
  KindsOk ks ∧ PrimsOk ks ps ∧ ks ≠ [] ∧ ("zz" : Str) ∉ ks ∧ ∀ H', Same H H' → Q (.bl true) H'
abbrev nRi : List Str := ["source", "ground", "kinds", "rows", "name", "variants", "variant", "own", "result", "taken", "odd", "row", "kind"]
/-! ### the mathematics -/
theorem look_mem {α : Type} : ∀ {l : List (Str × α)} {k : Str} {v : α}, (l.map Prod.fst).Nodup → (k, v) ∈ l → l.lookup k = some v
  | (k', v') :: l, k, v, nd, h => by
    rw [List.map_cons, List.nodup_cons] at nd
    rcases List.mem_cons.mp h with e | h
    · cases e
      simp
    · have ne : k ≠ k' := fun e => nd.1 (e ▸ List.mem_map.mpr ⟨(k, v), h, rfl⟩)
      rw [List.lookup_cons, show (k == k') = false by simpa using ne]
      exact look_mem nd.2 h
theorem own_mem {ps : Prims} {p : Str × List Row} {r : Row} (hp : p ∈ ps) (hr : r ∈ p.2) : (r.1, (p.1, r.2.1, r.2.2)) ∈ ownersOf ps := List.mem_flatMap.mpr ⟨p, hp, List.mem_map.mpr ⟨r, hr, rfl⟩⟩
theorem find_own : ∀ {rows : List Row} {r : Row}, (rows.map fun r => r.2.1).Nodup → r ∈ rows → rows.find? (fun q => PyData.eqv (txtsD q.2.1) (txtsD r.2.1)) = some r
  | q :: rows, r, nd, h => by
    rw [List.map_cons, List.nodup_cons] at nd
    rcases List.mem_cons.mp h with rfl | h
    · rw [List.find?_cons, eqv_txts, decide_eq_true rfl]
    · have ne : q.2.1 ≠ r.2.1 := fun e => nd.1 (e ▸ List.mem_map.mpr ⟨r, h, rfl⟩)
      rw [List.find?_cons, eqv_txts, decide_eq_false ne]
      exact find_own nd.2 h
theorem find_odd {rows : List Row} {e : PyData} (h : ∀ r ∈ rows, PyData.eqv (txtsD r.2.1) e = false) : rows.find? (fun q => PyData.eqv (txtsD q.2.1) e) = none := List.find?_eq_none.mpr fun r hr => by rw [h r hr]; decide
/-- what no variant takes -/
theorem odd_txts {us ws : List Str} (h : us ≠ ws) : PyData.eqv (txtsD us) (txtsD ws) = false := by
  rw [eqv_txts, decide_eq_false h]
theorem odd_none : ∀ {us : List Str} {d : PyData}, PyData.eqv (txtsD us) (.tuple [.none, d]) = false
  | [], _ => rfl
  | _ :: _, _ => rfl
theorem strs_depth (l : List Str) : (PyData.list (l.map .str)).depth ≤ 60 := by
  show PyData.depthAll (l.map .str) + 1 ≤ 60
  rw [depth_strs]
  decide
theorem strs_eq (l : List Str) : PyData.eqv (.list (l.map .str)) (.list (l.map .str)) = true := by
  show PyData.eqvAll (l.map .str) (l.map .str) = true
  rw [eqv_strs]
  simp
theorem dp_strs {K : PySem.W.Frag} {H : Hp} {a : Addr} {l : List Str} (h : H a = some (.lst (l.map V.str))) : Dp K H (.ref a) (.list (l.map .str)) := .lst (SqL.of h) (dps_strs l)
theorem dp_rows {K : PySem.W.Frag} {H : Hp} {a : Addr} {as : List Addr} {rows : List Row} (h : H a = some (.lst (as.map V.ref))) (q : RowsAt H as rows) : Dp K H (.ref a) (.list (rows.map rowD)) := .lst (SqL.of h) (dps_rowsR q)
theorem rows_deep (rows : List Row) : (PyData.list (rows.map rowD)).depth ≤ 60 := by
  show PyData.depthAll (rows.map rowD) + 1 ≤ 60
  have := rows_depth rows
  omega
theorem rows_eq (rows : List Row) : PyData.eqv (.list (rows.map rowD)) (.list (rows.map rowD)) = true := by
  show PyData.eqvAll (rows.map rowD) (rows.map rowD) = true
  rw [eqv_rows]
  simp
theorem same_app {H : Hp} {L : Addr} {o o' : HO} (n : H L = none) : Same H (upd (upd H L o) L o') := fun b x e => by
  rw [upd_ne (ne_of_none e n), upd_ne (ne_of_none e n)]
  exact e
theorem rows_same {H H' : Hp} (s : Same H H') {as : List Addr} {rows : List Row} (h : RowsAt H as rows) : RowsAt H' as rows := h.tups (Tups.of s)
/-- what is odd -/
def No : Addr → Prop := fun _ => False
structure Odd (ks : List Str) (H : Hp) (v : V) (d : PyData) : Prop where
  da : Da No H v d
  tell : TellOk d
  fit : Fit 100000 3 (.list [d, d, d])
  off : ks.any (eqS d) = false
theorem Odd.same {ks : List Str} {H H' : Hp} {v : V} {d : PyData} (s : Same H H') (o : Odd ks H v d) : Odd ks H' v d := ⟨o.da.keep (Same.keep s), o.tell, o.fit, o.off⟩
theorem off_str {ks : List Str} {x : Str} (h : x ∉ ks) : ks.any (eqS (.str x)) = false := List.any_eq_false.mpr fun y hy z => by
  have e : x = y := by simpa [eqS] using z
  exact h (e ▸ hy)
theorem on_str {ks : List Str} {x : Str} (h : x ∈ ks) : ks.any (eqS (.str x)) = true := List.any_eq_true.mpr ⟨x, h, by simp [eqS]⟩
theorem odd_str {ks : List Str} {H : Hp} {x : Str} (h : x ∉ ks) (t : (decide (x.length ≤ 1000 ∧ (reprText x).length ≤ 1000) && ((PyData.list [.str x, .str x, .str x]).showable && (decide ((PyData.list [.str x, .str x, .str x]).shown.length ≤ 100000) && decide ((PyData.list [.str x, .str x, .str x]).depth ≤ 3)))) = true) : Odd ks H (.str x) (.str x) := by
  rw [Bool.and_eq_true, Bool.and_eq_true, Bool.and_eq_true, decide_eq_true_eq, decide_eq_true_eq, decide_eq_true_eq] at t
  exact ⟨.str x, t.1, ⟨t.2.1, t.2.2.1, t.2.2.2⟩, off_str h⟩
theorem off_any {ks : List Str} {d : PyData} (h : ∀ y, eqS d y = false) : ks.any (eqS d) = false := List.any_eq_false.mpr fun y _ z => by
  rw [h y] at z
  cases z
theorem none_taken {ps : Prims} {d : PyData} (h : (ps.map Prod.fst ++ (ownersOf ps).map Prod.fst).any (eqS d) = false) : primed ps d = none ∧ named ps d = none := by
  cases d with
  | str x =>
    have nx : x ∉ ps.map Prod.fst ++ (ownersOf ps).map Prod.fst := fun m => by
      rw [on_str m] at h
      cases h
    rw [List.mem_append, not_or] at nx
    exact ⟨look_none nx.1, look_none nx.2⟩
  | _ => exact ⟨rfl, rfl⟩
section
variable {P : Program} {w : World} {K : PySem.W.Frag} {mg : Str → Option Value} {base : Heap} {C CU : Addr}
/-- the other methods, and the law's own questions -/
structure Asks2 (P : Program) (w : World) (K : PySem.W.Frag) (mg : Str → Option Value) (base : Heap) (C fK fP fH fU fA : Addr) (qK qP qH qU qA : FuncData) : Prop where
  mK : Meth K C "kinds" fK
  GK : FnOk P w K mg base CX0 1 fK qK ["self"] (spKinds C)
  bK : Binds K qK ["self"] []
  mP : Meth K C "primitives" fP
  GP : FnOk P w K mg base CX0 1 fP qP ["self"] (spPrimitives C)
  bP : Binds K qP ["self"] []
  mH : Meth K C "has_kind" fH
  GH : FnOk P w K mg base CX0 1 fH qH ["self", "value"] (spHasKind C)
  bH : Binds K qH ["self", "value"] []
  GU : FnQ P w K mg base CX0 6 fU qU ["ground", "odd"] (spUnk C)
  DU : Def K mg "_law_unknown" fU
  bU : Binds K qU ["ground", "odd"] []
  GA : FnOk P w K mg base CX0 5 fA qA ["ground", "rows"] (spApart C)
  DA : Def K mg "_law_kept_apart" fA
  bA : Binds K qA ["ground", "rows"] []
theorem scRi : FnScope nRi ["source", "ground", "kinds", "rows"] (defScope sRight) := ⟨rfl, rfl, rfl, by decide +kernel, rfl, by decide +kernel, by decide +kernel⟩
theorem ok_right {f fV fW fF fK fP fH fU fA : Addr} {fd qV qW qF qK qP qH qU qA : FuncData} (F : Fun K "_law_right" "_law_right" sRight f fd) (Tx : Txt mg) (Y : Asks P w K mg base C CU fV fW fF qV qW qF) (Z : Asks2 P w K mg base C fK fP fH fU fA qK qP qH qU qA) :
    FnQ P w K mg base CX0 7 f fd ["source", "ground", "kinds", "rows"] (spRight C) := by
  refine fnQ_ok F scRi (fun vs H Q E h => ?_) (fun cdv A outer s H vs Q E hg hr h => ?_)
  · obtain ⟨N, M, v0, g, a, r, ks, as, ps, rfl, _⟩ := h
    rfl
  · obtain ⟨N, M, v0, g, a, r, ks, as, ps, rfl, sig, ha, hrr, hps, okK, okP, kne, nzz, q⟩ := h
    have hq : (A.deeper (envOfC "_law_right" (defScope sRight) s.heap.objs.size f cdv)).guards = some [] := hg
    have hr1 : Room 1 (A.deeper (envOfC "_law_right" (defScope sRight) s.heap.objs.size f cdv)) := hr.mono (by decide)
    have hr4 : Room 4 (A.deeper (envOfC "_law_right" (defScope sRight) s.heap.objs.size f cdv)) := hr.mono (by decide)
    have hr5 : Room 5 (A.deeper (envOfC "_law_right" (defScope sRight) s.heap.objs.size f cdv)) := hr.mono (by decide)
    have hu := hu_of hr
    have cl := Y.cl.cl
    have GV0 := fnOk_calm Y.GV
    have GW0 := fnOk_calm Y.GW
    have GF0 := fnOk_calm Y.GF
    refine ⟨_, pss_cons (ps_if (PW.pt (pw_or (pt_cmpR (r := rNeP K) (op_neP hr.units) (pe_meth0 (pv 1) cl Z.mK Z.GK hr1 Z.bK .nil pass0) (pv 2) (nomark _))
        (pw_or1 (pt_cmpR (r := rNeP K) (op_neP hr.units) (pe_meth0 (pv 1) cl Z.mP Z.GP hr1 Z.bP .nil pass0) (pe_lc (own := [("name", 4), ("variants", 5)]) (g := gTup K 2 (gCons (gName 4) (gCons (gName 5) gNil))) (tt := tYes) rfl scRi.nd (pi_list (pv 3)) (blkOk_by (N := nRi) (sc := defScope sRight) (by decide +kernel))
          (fun _ _ _ _ _ => pg_tup (by rfl) (pgs_cons (pg_name (i := 4) scRi.nd rfl (.inl rfl)) (pgs_cons (pg_name (i := 5) scRi.nd rfl (.inl rfl)) pgs_nil))) (fun _ _ _ _ _ => pts_nil) (fun _ _ _ _ _ => pv 4)) (nomark _)))))
        (pss_one (ps_ret pe_bl)) pss_nil)
      (pss_cons (ps_expr (pe_bm PySem.F.plainAttrs_list PySem.F.slot_list_append PySem.F.type_list_append mt_append (pe_meth0 (pv 1) cl Z.mK Z.GK hr1 Z.bK .nil pass0) (pa_cons pe_str pa_nil)))
      (pss_cons (ps_expr (pe_bm PySem.F.plainAttrs_list PySem.F.slot_list_append PySem.F.type_list_append mt_append (pe_meth0 (pv 1) cl Z.mP Z.GP hr1 Z.bP .nil pass0) (pa_cons pe_str pa_nil)))
      (pss_cons (ps_for PassesOwn.never rfl (pi_list (pv 3)) (pg_tup (by rfl) (pgs_cons (pg_name (i := 4) scRi.nd rfl (.inl rfl)) (pgs_cons (pg_name (i := 5) scRi.nd rfl (.inl rfl)) pgs_nil)))
        (pss_cons (ps_if (pt_cmpR (r := rNeP K) (op_neP hr.units) (pe_meth (pv 1) cl Y.mV GV0 hr4 Y.bV .nil pass0 (pa_cons (pv 4) pa_nil)) (pv 5) (nomark _)) (pss_one (ps_ret pe_bl)) pss_nil)
        (pss_cons (ps_expr (pe_bm PySem.F.plainAttrs_list PySem.F.slot_list_append PySem.F.type_list_append mt_append (pe_meth (pv 1) cl Y.mV GV0 hr4 Y.bV .nil pass0 (pa_cons (pv 4) pa_nil)) (pa_cons pe_str pa_nil)))
        (pss_cons (ps_for PassesOwn.never rfl (pi_list (pv 5)) (pg_tup (by rfl) (pgs_cons (pg_name (i := 6) scRi.nd rfl (.inl rfl)) (pgs_cons (pg_name (i := 7) scRi.nd rfl (.inl rfl)) (pgs_cons (pg_name (i := 8) scRi.nd rfl (.inl rfl)) pgs_nil))))
          (pss_one (ps_if (PW.pt (pw_or (pt_cmpR (r := rNeP K) (op_neP hr.units) (pe_meth (pv 1) cl Y.mW GW0 hr4 Y.bW .nil pass0 (pa_cons (pv 6) pa_nil)) (pe_tup (pa_cons (pv 4) (pa_cons (pv 7) (pa_cons (pv 8) pa_nil)))) (nomark _))
              (pw_or1 (pt_cmpR op_ne (pe_call GF0 hr5 (by rfl) Y.DF.gl Y.DF.kp Y.bF .nil pass0 (pa_cons (pv 1) (pa_cons (pv 4) (pa_cons (pv 7) pa_nil)))) (pv 6) (nomark _))))) (pss_one (ps_ret pe_bl)) pss_nil)))
        (pss_one (ps_for PassesOwn.never rfl (pi_list (pe_lst (pa_cons (pe_tup pa_nil) (pa_cons (pe_tup (pa_cons pe_str pa_nil)) (pa_cons (pe_op (r := rRepU) op_repU (pe_tup (pa_cons (pe_ix ix_list (pv 2) pe_int (fun _ _ => rfl)) pa_nil)) pe_int) (pa_cons (pe_tup (pa_cons pe_non (pa_cons (pe_lst pa_nil) pa_nil))) (pa_cons (pe_tup (pa_cons pe_str pa_nil)) pa_nil)))))))
          (pg_name (i := 7) scRi.nd rfl (.inl rfl)) (pss_one (ps_if (pt_cmpR op_notN (pe_call GF0 hr5 (by rfl) Y.DF.gl Y.DF.kp Y.bF .nil pass0 (pa_cons (pv 1) (pa_cons (pv 4) (pa_cons (pv 7) pa_nil)))) pe_non (nomark _)) (pss_one (ps_ret pe_bl)) pss_nil))))))))
      (pss_cons (ps_setLc (i := 9) (own := [("name", 4), ("variants", 5)]) (g := gTup K 2 (gCons (gName 4) (gCons (gName 5) gNil))) (tt := tYes) rfl scRi.nd rfl rfl rfl (pi_list (pv 3)) (blkOk_by (N := nRi) (sc := defScope sRight) (by decide +kernel))
          (fun _ _ _ _ _ => pg_tup (by rfl) (pgs_cons (pg_name (i := 4) scRi.nd rfl (.inl rfl)) (pgs_cons (pg_name (i := 5) scRi.nd rfl (.inl rfl)) pgs_nil))) (fun _ _ _ _ _ => pts_nil) (fun _ _ _ _ _ => pv 4))
      (pss_cons (ps_for PassesOwn.never rfl (pi_list (pv 3)) (pg_tup (by rfl) (pgs_cons (pg_name (i := 4) scRi.nd rfl (.inl rfl)) (pgs_cons (pg_name (i := 5) scRi.nd rfl (.inl rfl)) pgs_nil)))
        (pss_one (ps_set (i := 9) scRi.nd rfl (.inl rfl) (pe_op op_cat (pv 9) (pe_lc (own := [("row", 11)]) (g := gName 11) (tt := tYes) rfl scRi.nd (pi_list (pv 5)) (blkOk_by (N := nRi) (sc := defScope sRight) (by decide +kernel)) (fun _ _ _ _ _ => pg_name (i := 11) scRi.nd rfl (.inl rfl)) (fun _ _ _ _ _ => pts_nil)
          (fun _ _ _ _ _ => pe_ix (r := rIxT K) ix_tup (pv 11) pe_int (fun _ _ => rfl)))))))
      (pss_cons (ps_for PassesOwn.never rfl (pi_list (pe_lst (pa_cons pe_str (pa_cons pe_non (pa_cons pe_int (pa_cons (pe_lstB (pa_cons pe_str pa_nil)) (pa_cons pe_dnewK (pa_cons (pe_tup (pa_cons pe_str pa_nil)) (pa_cons pe_str (pa_cons pe_str (pa_cons pe_str (pa_cons pe_str (pa_cons pe_str (pa_cons pe_str pa_nil)))))))))))))) (pg_name (i := 10) scRi.nd rfl (.inl rfl))
        (pss_one (ps_if (PW.pt (pw_or (pt_cmpR op_isnot_bl (pe_meth (pv 1) cl Z.mH Z.GH hr1 Z.bH .nil pass0 (pa_cons (pv 10) pa_nil)) pe_bl (nomark _))
            (pw_or1 (PW.pt (pw_and (pt_cmpR (r := rInA K true) (op_notInA hu) (pv 10) (pv 9) (by rfl)) (pw_and1 (pt_not (pt_val (pe_callQ hq Z.GU hr (by rfl) Z.DU.gl Z.DU.kp Z.bU .nil pass0 (pa_cons (pv 1) (pa_cons (pv 10) pa_nil))))))))))) (pss_one (ps_ret pe_bl)) pss_nil)))
      (pss_one (ps_ret (pe_and (pe_call Z.GA hr5 (by rfl) Z.DA.gl Z.DA.kp Z.bA .nil pass0 (pa_cons (pv 1) (pa_cons (pv 3) pa_nil)))
        (pe_one (pe_cmpR (op_eqNil hr.units0) (pe_lc (own := [("kind", 12)]) (g := gName 12) rfl scRi.nd (pi_list (pv 2)) (blkOk_by (N := nRi) (sc := defScope sRight) (by decide +kernel)) (fun _ _ _ _ _ => pg_name (i := 12) scRi.nd rfl (.inl rfl))
          (fun _ _ _ _ _ => pts_one (pt_cmpR op_isnot_bl (pe_meth (pv 1) cl Z.mH Z.GH hr1 Z.bH .nil pass0 (pa_cons (pv 12) pa_nil)) pe_bl (nomark _))) (fun _ _ _ _ _ => pv 12)) (pe_lst pa_nil) (nomark _)))))))))))), ?_⟩
    obtain ⟨dx, ka, ow, pr, es, kvs, hg', _⟩ := id sig
    have spl : as.length = ps.length := Paired.length hps
    have fewP := okP.fewP
    have few := okP.few
    -- the kinds
    refine ⟨_, rfl, g, dx, _, rfl, hg', rfl, N, g, ks, ps, rfl, sig, fun L1 nL1 => ?_⟩
    obtain ⟨H1, z, s1, e1⟩ := fresh nL1 (.lst (ks.map V.str))
    rw [z]
    clear z
    refine ⟨_, rfl, _, _, dp_strs e1, dp_strs (s1 _ _ ha), strs_depth _, _, rfl, ?_⟩
    rw [strs_eq]
    -- the primitives
    refine ⟨_, rfl, g, dx, _, rfl, s1 _ _ hg', rfl, N, g, ks, ps, rfl, sig.same s1, fun L2 nL2 => ?_⟩
    obtain ⟨H2, z, s2, e2⟩ := fresh nL2 (.lst ((ps.map Prod.fst).map V.str))
    rw [z]
    clear z
    have s02 := s1.trans s2
    have names : ∀ {Hb : Hp} {D : Addr}, Same H Hb → Hb D = none → True := fun _ _ => trivial
    refine ⟨_, rfl, r, rfl, ⟨_, SqL.of (s02 _ _ hrr)⟩, fun D nD => lc_it (walk_list (K := K) (a := r) (xs := as.map V.ref)) (fun i Hx => Same H2 Hx ∧ Hx D = some (.lst (((ps.take i).map Prod.fst).map V.str))) ⟨same_new nD, upd_same⟩ (fun i Hx _ ⟨sm, _⟩ => SqL.of (sm _ _ (s02 _ _ hrr))) ?_ ?_⟩
    · rintro i x Hx Hy hi ⟨sm, eD⟩ ⟨rfl, hx⟩
      rw [List.getElem?_map] at hx
      obtain ⟨pa, hpa, rfl⟩ := Option.map_eq_some_iff.mp hx
      obtain ⟨p, ep, l, rs, t1, _⟩ := Paired.at hps hpa
      refine ⟨pa, _, rfl, SqT.of (sm _ _ (s02 _ _ t1)), rfl, _, _, rfl, _, _, rfl, rfl, rfl, _, rfl, _, eD, ?_, fun b o e => ?_, ?_⟩
      · rw [List.length_map, List.length_map, List.length_take]
        exact small1000 (by omega)
      · rw [upd_ne (ne_of_none e nD)]
        exact sm _ _ e
      · rw [upd_same, List.take_add_one, ep]
        simp
    rintro H3 ⟨s3, e3⟩
    rw [List.length_map, spl, List.take_length] at e3
    refine ⟨_, _, dp_strs (s3 _ _ e2), dp_strs e3, strs_depth _, _, rfl, ?_⟩
    rw [strs_eq]
    have s03 := s02.trans s3
    clear names e3 e2 s3 s02 s2 e1 s1 nL1 nL2
    -- the lists told are new
    refine ⟨_, rfl, g, dx, _, rfl, s03 _ _ hg', rfl, N, g, ks, ps, rfl, sig.same s03, fun L1 nL1 => ⟨.inl ⟨rfl, _, SqL.of upd_same⟩, L1, _, _, rfl, rfl, upd_same, by rw [List.length_map]; exact Nat.lt_of_le_of_lt okK.few (by decide), ?_⟩⟩
    have s04 := s03.trans (same_app (o := .lst (ks.map V.str)) (o' := .lst (ks.map V.str ++ [.str "zz"])) nL1)
    generalize upd (upd H3 L1 (.lst (ks.map V.str))) L1 (.lst (ks.map V.str ++ [.str "zz"])) = H4 at s04
    refine ⟨_, rfl, g, dx, _, rfl, s04 _ _ hg', rfl, N, g, ks, ps, rfl, sig.same s04, fun L2 nL2 => ⟨.inl ⟨rfl, _, SqL.of upd_same⟩, L2, _, _, rfl, rfl, upd_same, by rw [List.length_map, List.length_map]; exact Nat.lt_of_le_of_lt fewP (by decide), ?_⟩⟩
    have s05 := s04.trans (same_app (o := .lst ((ps.map Prod.fst).map V.str)) (o' := .lst ((ps.map Prod.fst).map V.str ++ [.str "zz"])) nL2)
    generalize upd (upd H4 L2 (.lst ((ps.map Prod.fst).map V.str))) L2 (.lst ((ps.map Prod.fst).map V.str ++ [.str "zz"])) = H5 at s05
    clear s03 s04 nL1 nL2
    -- the rows
    refine ⟨_, rfl, r, rfl, ⟨_, SqL.of (s05 _ _ hrr)⟩, for_it (walk_list (K := K) (a := r) (xs := as.map V.ref)) (fun i σ Hx => Same H Hx ∧ ∃ v4 v5 v6 v7 v8, σ = [some v0, some (.ref g), some (.ref a), some (.ref r), v4, v5, v6, v7, v8, none, none, none, none])
      ⟨s05, _, _, _, _, _, rfl⟩ (fun i σ Hx _ ⟨sm, _⟩ => SqL.of (sm _ _ hrr)) ?_ ?_⟩
    · rintro i x σ Hx Hy hi ⟨sx, v4, v5, v6, v7, v8, rfl⟩ ⟨rfl, hx⟩
      rw [List.getElem?_map] at hx
      obtain ⟨pa, hpa, rfl⟩ := Option.map_eq_some_iff.mp hx
      obtain ⟨p, ep, l, rs, t1, t2, hrows, _⟩ := Paired.at hps hpa
      have pm := List.mem_of_getElem? ep
      have tp := (okP.word p pm).2
      have look : primed ps (.str p.1) = some p.2 := look_mem okP.names pm
      have few2 : p.2.length ≤ 900 := Nat.le_trans (by
        have e : (ownersOf ps).length = (ps.flatMap fun p => p.2.map (·.1)).length := by rw [← own_names, List.length_map]
        rw [e]
        obtain ⟨l1, l2, e2⟩ := List.append_of_mem pm
        rw [e2, List.flatMap_append, List.flatMap_cons, List.length_append, List.length_append, List.length_map]
        omega) few
      refine ⟨pa, _, rfl, SqT.of (sx _ _ t1), rfl, _, _, rfl, _, _, rfl, rfl, ?_⟩
      refine ⟨_, rfl, g, dx, _, rfl, sx _ _ hg', rfl, _, rfl, N, fun _ => False, g, ks, ps, .str p.1, .str p.1, rfl, sig.same sx, .str p.1, tp, ?_⟩
      rw [look]
      intro L3 rs3 nL3 hrows3
      obtain ⟨H6, z, s6, e6⟩ := fresh nL3 (.lst (rs3.map V.ref))
      rw [z]
      clear z
      have s06 := sx.trans s6
      refine ⟨_, rfl, _, _, dp_rows e6 (rows_same s6 hrows3), dp_rows (s06 _ _ t2) (rows_same s06 hrows), rows_deep _, _, rfl, ?_⟩
      rw [rows_eq]
      refine ⟨_, rfl, g, dx, _, rfl, s06 _ _ hg', rfl, _, rfl, N, fun _ => False, g, ks, ps, .str p.1, .str p.1, rfl, sig.same s06, .str p.1, tp, ?_⟩
      rw [look]
      intro L4 rs4 nL4 hrows4
      refine ⟨.inl ⟨rfl, _, SqL.of upd_same⟩, L4, _, _, rfl, rfl, upd_same, by rw [List.length_map, Paired.length hrows4]; exact Nat.lt_of_le_of_lt few2 (by decide), ?_⟩
      have s07 := s06.trans (same_app (o := .lst (rs4.map V.ref)) (o' := .lst (rs4.map V.ref ++ [.str "zz"])) nL4)
      generalize upd (upd H6 L4 (.lst (rs4.map V.ref))) L4 (.lst (rs4.map V.ref ++ [.str "zz"])) = H7 at s07
      clear s06 e6 s6 nL3 nL4 hrows3 hrows4 sx
      have spr : rs.length = p.2.length := Paired.length hrows
      refine ⟨_, rfl, l, rfl, ⟨_, SqL.of (s07 _ _ t2)⟩, for_it (walk_list (K := K) (a := l) (xs := rs.map V.ref)) (fun j σ Hx => Same H Hx ∧ ∃ v6 v7 v8, σ = [some v0, some (.ref g), some (.ref a), some (.ref r), some (.str p.1), some (.ref l), v6, v7, v8, none, none, none, none])
        ⟨s07, _, _, _, rfl⟩ (fun j σ Hx _ ⟨sm, _⟩ => SqL.of (sm _ _ t2)) ?_ ?_⟩
      · clear s07
        rintro j x σ Hw Hx hj ⟨sx, v6, v7, v8, rfl⟩ ⟨rfl, hx⟩
        rw [List.getElem?_map] at hx
        obtain ⟨ra, hra, rfl⟩ := Option.map_eq_some_iff.mp hx
        obtain ⟨row, er, o, u1, u2⟩ := Paired.at hrows hra
        have rm := List.mem_of_getElem? er
        have tr := (okP.vword p pm row rm).2
        have nam : named ps (.str row.1) = some (p.1, row.2.1, row.2.2) := look_mem okP.vnames (own_mem pm rm)
        refine ⟨ra, _, rfl, SqT.of (sx _ _ u1), rfl, _, _, rfl, _, _, rfl, _, _, rfl, rfl, ?_⟩
        refine ⟨_, rfl, g, dx, _, rfl, sx _ _ hg', rfl, _, rfl, N, fun _ => False, g, ks, ps, .str row.1, .str row.1, rfl, sig.same sx, .str row.1, tr, ?_⟩
        rw [nam]
        intro a2 hrow2
        refine ⟨_, rfl, _, rfl, _, rfl, by show 3 ≤ sizeLine; decide, fun t nt => ?_⟩
        obtain ⟨H8, z, s8, e8⟩ := fresh nt (.tup [.str p.1, .ref o, .str row.2.2])
        rw [z]
        clear z
        have s08 := sx.trans s8
        have r1 : RowAt H8 t (p.1, row.2.1, row.2.2) := ⟨o, e8, s08 _ _ u2⟩
        obtain ⟨o2, w1, w2⟩ := hrow2
        have r2 : RowAt H8 a2 (p.1, row.2.1, row.2.2) := ⟨o2, s8 _ _ w1, s8 _ _ w2⟩
        refine ⟨_, _, dp_row r2, dp_row r1, by rw [row_depth]; decide, _, rfl, ?_⟩
        rw [eqv_row, decide_eq_true rfl]
        refine ⟨_, rfl, _, rfl, _, rfl, N, fun _ => False, g, ks, ps, .str p.1, .ref o, .str p.1, txtsD row.2.1, rfl, sig.same s08, .str p.1, tp, fun K => dp_tupS (s08 _ _ u2), ?_⟩
        rw [look]
        refine ⟨few2, fun H9 s9 => ?_⟩
        rw [find_own (okP.owns p pm) rm]
        refine ⟨_, rfl, rfl, _, rfl, ?_⟩
        refine ite2 (fun z => absurd z (by simp)) (fun _ => ?_)
        exact ⟨s08.trans s9, _, _, _, rfl⟩
      · rintro σ Hx ⟨sx, v6, v7, v8, rfl⟩
        clear s07
        obtain ⟨k0, kr, rfl⟩ : ∃ k0 kr, ks = k0 :: kr := by
          cases ks with
          | nil => exact absurd rfl kne
          | cons k0 kr => exact ⟨k0, kr, rfl⟩
        refine ⟨by show 0 ≤ sizeLine; decide, fun t1' n1 => ?_⟩
        obtain ⟨G1, z, g1, f1⟩ := fresh n1 (.tup (([] : List Str).map V.str))
        erw [z]
        clear z
        refine ⟨by show 1 ≤ sizeLine; decide, fun t2' n2 => ?_⟩
        obtain ⟨G2, z, g2, f2⟩ := fresh n2 (.tup ([("zz" : Str)].map V.str))
        erw [z]
        clear z
        have x2 := sx.trans (g1.trans g2)
        refine ⟨_, rfl, a, _, _, .str k0, rfl, rfl, SqL.of (x2 _ _ ha), atI_nat (j := 0) rfl, by show 1 ≤ sizeLine; decide, fun t3' n3 => ?_⟩
        obtain ⟨G3, z, g3, f3⟩ := fresh n3 (.tup [.str k0])
        rw [z]
        clear z
        refine ⟨t3', 3, _, rfl, rfl, f3, by decide, by decide, by show 1 ≤ 1000; decide, fun t3 G4 g4 f4 => ?_⟩
        have f4' : G4 t3 = some (.tup ([k0, k0, k0].map V.str)) := f4
        refine ⟨by show 0 ≤ sizeLine; decide, fun l4 m4 => ?_⟩
        obtain ⟨G5, z, g5, f5⟩ := fresh m4 (.lst [])
        rw [z]
        clear z
        refine ⟨by show 2 ≤ sizeLine; decide, fun t4 n4 => ?_⟩
        obtain ⟨G6, z, g6, f6⟩ := fresh n4 (.tup [.non, .ref l4])
        rw [z]
        clear z
        refine ⟨by show 1 ≤ sizeLine; decide, fun t5 n5 => ?_⟩
        obtain ⟨G7, z, g7, f7⟩ := fresh n5 (.tup ([("bit" : Str)].map V.str))
        erw [z]
        clear z
        refine ⟨by show 5 ≤ sizeLine; decide, fun L nL => ?_⟩
        obtain ⟨G8, z, g8, f8⟩ := fresh nL (.lst [.ref t1', .ref t2', .ref t3, .ref t4, .ref t5])
        rw [z]
        clear z
        have x8 : Same Hx G8 := g1.trans (g2.trans (g3.trans (g4.trans (g5.trans (g6.trans (g7.trans g8))))))
        have ownok := okP.own p pm
        have bitk : ("bit" : Str) ∉ k0 :: kr := fun m => by
          have := okK.word _ m
          rw [show kindD (.str "bit") = false by decide +kernel] at this
          cases this
        have items : ∀ (j : Nat) (y : V), ([.ref t1', .ref t2', .ref t3, .ref t4, .ref t5] : List V)[j]? = some y → ∃ (o : Addr) (e : PyData), y = .ref o ∧ (∀ K, Dp K G8 (.ref o) e) ∧ ∀ r ∈ p.2, PyData.eqv (txtsD r.2.1) e = false := fun j y hy => by
          match j, hy with
          | 0, hy =>
            cases hy
            exact ⟨t1', txtsD [], rfl, fun K => dp_tupS (g8 _ _ (g7 _ _ (g6 _ _ (g5 _ _ (g4 _ _ (g3 _ _ (g2 _ _ f1))))))), fun r hr => odd_txts fun e => by
              have := (ownok r hr).1
              rw [e] at this
              simp at this⟩
          | 1, hy =>
            cases hy
            exact ⟨t2', txtsD ["zz"], rfl, fun K => dp_tupS (g8 _ _ (g7 _ _ (g6 _ _ (g5 _ _ (g4 _ _ (g3 _ _ f2)))))), fun r hr => odd_txts fun e => nzz ((ownok r hr).2.1 _ (by rw [e]; simp))⟩
          | 2, hy =>
            cases hy
            exact ⟨t3, txtsD [k0, k0, k0], rfl, fun K => dp_tupS (g8 _ _ (g7 _ _ (g6 _ _ (g5 _ _ f4')))), fun r hr => odd_txts fun e => by
              have := (ownok r hr).1
              rw [e] at this
              simp at this⟩
          | 3, hy =>
            cases hy
            exact ⟨t4, .tuple [.none, .list []], rfl, fun K => .tup (SqT.of (g8 _ _ (g7 _ _ f6))) (.cons .non (.cons (.lst (SqL.of (g8 _ _ (g7 _ _ (g6 _ _ f5)))) .nil) .nil)), fun r hr => odd_none⟩
          | 4, hy =>
            cases hy
            exact ⟨t5, txtsD ["bit"], rfl, fun K => dp_tupS (g8 _ _ f7), fun r hr => odd_txts fun e => bitk ((ownok r hr).2.1 _ (by rw [e]; simp))⟩
          | n + 5, hy => simp at hy
        refine ⟨L, rfl, ⟨_, SqL.of f8⟩, for_it (walk_list (K := K) (a := L) (xs := [.ref t1', .ref t2', .ref t3, .ref t4, .ref t5])) (fun j σ Hz => Same G8 Hz ∧ ∃ v6 v7 v8, σ = [some v0, some (.ref g), some (.ref a), some (.ref r), some (.str p.1), some (.ref l), v6, v7, v8, none, none, none, none])
          ⟨Same.refl G8, _, _, _, rfl⟩ (fun j σ Hz _ ⟨sm, _⟩ => SqL.of (sm _ _ f8)) ?_ ?_⟩
        · rintro j x σ Hw Hz hj ⟨sz, v6, v7, v8, rfl⟩ ⟨rfl, hx⟩
          obtain ⟨o, e, rfl, ho, odd⟩ := items j x hx
          have s0z := sx.trans (x8.trans sz)
          refine ⟨_, rfl, _, rfl, _, rfl, N, fun _ => False, g, _, ps, .str p.1, .ref o, .str p.1, e, rfl, sig.same s0z, .str p.1, tp, fun K => dp_same sz (ho K), ?_⟩
          rw [look]
          refine ⟨few2, fun H9 s9 => ?_⟩
          rw [find_odd odd]
          exact ⟨rfl, _, rfl, sz.trans s9, _, _, _, rfl⟩
        · rintro σ Hz ⟨sz, v6, v7, v8, rfl⟩
          exact ⟨sx.trans (x8.trans sz), _, _, _, _, _, rfl⟩
    · rintro σ Hx ⟨sx, v4, v5, v6, v7, v8, rfl⟩
      clear s05
      -- taken = [..]
      refine ⟨_, rfl, r, rfl, ⟨_, SqL.of (sx _ _ hrr)⟩, fun D nD => lc_it (walk_list (K := K) (a := r) (xs := as.map V.ref)) (fun i Hy => Same Hx Hy ∧ Hy D = some (.lst (((ps.take i).map Prod.fst).map V.str))) ⟨same_new nD, upd_same⟩ (fun i Hy _ ⟨sm, _⟩ => SqL.of (sm _ _ (sx _ _ hrr))) ?_ ?_⟩
      · rintro i x Hy Hz hi ⟨sm, eD⟩ ⟨rfl, hx⟩
        rw [List.getElem?_map] at hx
        obtain ⟨pa, hpa, rfl⟩ := Option.map_eq_some_iff.mp hx
        obtain ⟨p, ep, l, rs, t1, _⟩ := Paired.at hps hpa
        refine ⟨pa, _, rfl, SqT.of (sm _ _ (sx _ _ t1)), rfl, _, _, rfl, _, _, rfl, rfl, rfl, _, rfl, _, eD, ?_, fun b o e => ?_, ?_⟩
        · rw [List.length_map, List.length_map, List.length_take]
          exact small1000 (by omega)
        · rw [upd_ne (ne_of_none e nD)]
          exact sm _ _ e
        · rw [upd_same, List.take_add_one, ep]
          simp
      rintro H1 ⟨s1, e1⟩
      rw [List.length_map, spl, List.take_length] at e1
      have s01 := sx.trans s1
      have own_cut : ∀ i, (ownersOf (ps.take i)).length ≤ (ownersOf ps).length := fun i => by
        have h : ownersOf ps = ownersOf (ps.take i) ++ ownersOf (ps.drop i) := by
          unfold ownersOf
          rw [← List.flatMap_append, List.take_append_drop]
        rw [h, List.length_append]
        omega
      refine ⟨_, rfl, r, rfl, ⟨_, SqL.of (s01 _ _ hrr)⟩, for_it (walk_list (K := K) (a := r) (xs := as.map V.ref)) (fun i σ Hx => Same H Hx ∧ ∃ tk v4 v5, σ = [some v0, some (.ref g), some (.ref a), some (.ref r), v4, v5, v6, v7, v8, some (.ref tk), none, none, none] ∧ Hx tk = some (.lst ((ps.map Prod.fst ++ (ownersOf (ps.take i)).map Prod.fst).map V.str)))
        ⟨s01, D, _, _, rfl, by rw [List.take_zero, show ownersOf [] = [] from rfl, List.map_nil, List.append_nil]; exact e1⟩ (fun i σ Hx _ ⟨sm, _⟩ => SqL.of (sm _ _ hrr)) ?_ ?_⟩
      · clear sx
        rintro i x σ Hw Hy hi ⟨sx, tk, v4, v5, rfl, ev⟩ ⟨rfl, hx⟩
        rw [List.getElem?_map] at hx
        obtain ⟨pa, hpa, rfl⟩ := Option.map_eq_some_iff.mp hx
        obtain ⟨p, ep, l, rs, t1, t2, hrows, _⟩ := Paired.at hps hpa
        have nle := own_cut (i + 1)
        rw [owners_take ep, List.length_append, List.length_map] at nle
        refine ⟨pa, _, rfl, SqT.of (sx _ _ t1), rfl, _, _, rfl, _, _, rfl, rfl, ?_⟩
        refine ⟨_, rfl, _, rfl, l, rfl, ⟨_, SqL.of (sx _ _ t2)⟩, fun D2 nD2 => lc_it (walk_list (K := K) (a := l) (xs := rs.map V.ref)) (fun j H4 => Same Hy H4 ∧ H4 D2 = some (.lst (((p.2.take j).map fun r => r.1).map V.str))) ⟨same_new nD2, upd_same⟩ (fun j H4 _ ⟨sj, _⟩ => SqL.of (sj _ _ (sx _ _ t2))) ?_ ?_⟩
        · rintro j y H4 H5 hj ⟨sj, eD⟩ ⟨rfl, hy⟩
          rw [List.getElem?_map] at hy
          obtain ⟨a', ha', rfl⟩ := Option.map_eq_some_iff.mp hy
          obtain ⟨row, er, o, u1, u2⟩ := Paired.at hrows ha'
          have hj1 : j < p.2.length := (List.getElem?_eq_some_iff.mp er).1
          refine ⟨rfl, _, rfl, a', _, _, .str row.1, rfl, rfl, SqT.of (sj _ _ (sx _ _ u1)), atI_nat (j := 0) rfl, _, eD, ?_, fun b o e => ?_, ?_⟩
          · rw [List.length_map, List.length_map, List.length_take]
            exact small1000 (by omega)
          · rw [upd_ne (ne_of_none e nD2)]
            exact sj _ _ e
          · rw [upd_same, List.take_add_one, er]
            simp
        rintro H4 ⟨sj, eD⟩
        rw [List.length_map, Paired.length hrows, List.take_length] at eD
        refine ⟨tk, D2, _, _, rfl, rfl, sj _ _ ev, eD, ?_, fun p' np' => ?_⟩
        · rw [List.length_map, List.length_append, List.length_map, List.length_map, List.length_map, List.length_map]
          exact le1000 (by omega)
        · obtain ⟨H5, z, s5, e5⟩ := fresh np' (.lst ((ps.map Prod.fst ++ (ownersOf (ps.take i)).map Prod.fst).map V.str ++ (p.2.map fun r => r.1).map V.str))
          rw [z]
          clear z
          refine ⟨(sx.trans sj).trans s5, p', _, _, rfl, ?_⟩
          rw [e5, owners_take ep]
          simp
      rintro σ Hy ⟨sy, tk, v4', v5', rfl, ev⟩
      rw [List.length_map, spl, List.take_length] at ev
      clear own_cut s01 e1 s1 sx
      -- the odd ones
      refine ⟨by show 1 ≤ sizeLine; decide, fun l1 m1 big1 => ?_⟩
      obtain ⟨G1, z, g1, f1⟩ := fresh m1 (.lst [.str "p"])
      rw [z]
      clear z
      refine fun l2 m2 => ?_
      obtain ⟨G2, z, g2, f2⟩ := fresh m2 (.dK [])
      rw [z]
      clear z
      refine ⟨by show 1 ≤ sizeLine; decide, fun l3 m3 => ?_⟩
      obtain ⟨G3, z, g3, f3⟩ := fresh m3 (.tup [.str "p"])
      rw [z]
      clear z
      refine ⟨by show 12 ≤ sizeLine; decide, fun L nL => ?_⟩
      obtain ⟨G4, z, g4, f4⟩ := fresh nL (.lst [.str "zz", .non, .int 0, .ref l1, .ref l2, .ref l3, .str "", .str "none", .str "bit", .str "err", .str "fun", .str "obj"])
      rw [z]
      clear z
      have y4 : Same Hy G4 := g1.trans (g2.trans (g3.trans g4))
      have no : ∀ {x : Str}, kindD (.str x) = false → x ∉ ks := fun hx m => by
        rw [okK.word _ m] at hx
        cases hx
      have odds : ∀ (j : Nat) (y : V), ([.str "zz", .non, .int 0, .ref l1, .ref l2, .ref l3, .str "", .str "none", .str "bit", .str "err", .str "fun", .str "obj"] : List V)[j]? = some y → ∃ d, Odd ks G4 y d := fun j y hy => by
        match j, hy with
        | 0, hy => cases hy; exact ⟨_, odd_str nzz (by decide +kernel)⟩
        | 1, hy => cases hy; exact ⟨.none, .non, trivial, ⟨by decide +kernel, by decide +kernel, by decide +kernel⟩, off_any fun _ => rfl⟩
        | 2, hy => cases hy; exact ⟨.int 0, .int 0, trivial, ⟨by decide +kernel, by decide +kernel, by decide +kernel⟩, off_any fun _ => rfl⟩
        | 3, hy => cases hy; exact ⟨.list [.str "p"], .lst (g4 _ _ (g3 _ _ (g2 _ _ f1))) (fun z => z) big1 (.cons (.str _) .nil), trivial, ⟨by decide +kernel, by decide +kernel, by decide +kernel⟩, off_any fun _ => rfl⟩
        | 4, hy => cases hy; exact ⟨.dict [], .emp (g4 _ _ (g3 _ _ f2)) (fun z => z), trivial, ⟨by decide +kernel, by decide +kernel, by decide +kernel⟩, off_any fun _ => rfl⟩
        | 5, hy => cases hy; exact ⟨.tuple [.str "p"], .tup (g4 _ _ f3) (fun z => z) (.cons (.str _) .nil), trivial, ⟨by decide +kernel, by decide +kernel, by decide +kernel⟩, off_any fun _ => rfl⟩
        | 6, hy => cases hy; exact ⟨_, odd_str (no (by decide +kernel)) (by decide +kernel)⟩
        | 7, hy => cases hy; exact ⟨_, odd_str (no (by decide +kernel)) (by decide +kernel)⟩
        | 8, hy => cases hy; exact ⟨_, odd_str (no (by decide +kernel)) (by decide +kernel)⟩
        | 9, hy => cases hy; exact ⟨_, odd_str (no (by decide +kernel)) (by decide +kernel)⟩
        | 10, hy => cases hy; exact ⟨_, odd_str (no (by decide +kernel)) (by decide +kernel)⟩
        | 11, hy => cases hy; exact ⟨_, odd_str (no (by decide +kernel)) (by decide +kernel)⟩
        | n + 12, hy => simp at hy
      have evG := y4 _ _ ev
      have s0G := sy.trans y4
      clear y4 f1 f2 f3 g1 g2 g3 g4 ev sy
      refine ⟨L, rfl, ⟨_, SqL.of f4⟩, for_it (walk_list (K := K) (a := L) (xs := [.str "zz", .non, .int 0, .ref l1, .ref l2, .ref l3, .str "", .str "none", .str "bit", .str "err", .str "fun", .str "obj"])) (fun j σ Hz => Same G4 Hz ∧ ∃ v10, σ = [some v0, some (.ref g), some (.ref a), some (.ref r), v4', v5', v6, v7, v8, some (.ref tk), v10, none, none])
        ⟨Same.refl G4, _, rfl⟩ (fun j σ Hz _ ⟨sm, _⟩ => SqL.of (sm _ _ f4)) ?_ ?_⟩
      · rintro j x σ Hw Hz hj ⟨sz, v10, rfl⟩ ⟨rfl, hx⟩
        obtain ⟨d, od⟩ := odds j x hx
        replace od := od.same sz
        have s0z := s0G.trans sz
        refine ⟨_, rfl, g, dx, _, rfl, s0z _ _ hg', rfl, _, rfl, N, No, g, ks, ps, x, d, rfl, sig.same s0z, od.da, ?_⟩
        rw [od.off]
        refine ⟨false, false, rfl, rfl, _, rfl, ?_⟩
        refine ⟨_, rfl, _, rfl, No, d, tk, _, od.da, rfl, .inl (SqL.of (sz _ _ evG)), _, rfl, ?_⟩
        cases hin : (ps.map Prod.fst ++ (ownersOf ps).map Prod.fst).any (eqS d) with
        | true => exact ⟨sz, _, rfl⟩
        | false =>
          obtain ⟨n1, n2⟩ := none_taken hin
          exact ⟨_, rfl, _, rfl, N, No, g, ks, ps, x, d, rfl, sig.same s0z, od.da, od.tell, od.fit, n1, n2, fun H' s' => ⟨_, rfl, sz.trans s', _, rfl⟩⟩
      · rintro σ Hz ⟨sz, v10, rfl⟩
        have s0z := s0G.trans sz
        refine ⟨_, rfl, _, rfl, N, M, g, r, ks, as, ps, rfl, sig.same s0z, s0z _ _ hrr, hps.keep (Same.keep s0z) (Tups.of s0z), okP, fun H5 s5 => ⟨_, rfl, ?_⟩⟩
        have s05 := s0z.trans s5
        refine ⟨_, rfl, a, rfl, ⟨_, SqL.of (s05 _ _ ha)⟩, fun D nD => lc_it (walk_list (K := K) (a := a) (xs := ks.map V.str)) (fun i Hx => Same H5 Hx ∧ Hx D = some (.lst [])) ⟨same_new nD, upd_same⟩ (fun i Hx _ ⟨sm, _⟩ => SqL.of (sm _ _ (s05 _ _ ha))) ?_ ?_⟩
        · rintro i x Hx Hy hi ⟨sm, eD⟩ ⟨rfl, hx⟩
          rw [List.getElem?_map] at hx
          obtain ⟨k, hk, rfl⟩ := Option.map_eq_some_iff.mp hx
          have s0y := s05.trans sm
          refine ⟨rfl, _, rfl, g, dx, _, rfl, s0y _ _ hg', rfl, _, rfl, N, No, g, ks, ps, .str k, .str k, rfl, sig.same s0y, .str k, ?_⟩
          rw [on_str (List.mem_of_getElem? hk)]
          exact ⟨true, true, rfl, rfl, _, rfl, sm, eD⟩
        · rintro Hx ⟨sm, eD⟩
          refine ⟨Nat.zero_le _, fun p np => ⟨D, p, [], rfl, rfl, by rw [upd_ne (ne_of_none eD np)]; exact eD, upd_same, ?_⟩⟩
          exact q _ ((s05.trans sm).trans (same_new np))
end
end K10
/-! K10, 16: lists or tuples, told apart by a bit; a variant bent -/
namespace Ver
open PySem PySem.Spec PyProof.Rows L2
section
variable {X : Cx}
def rRepS : R2 := fun x y H Q => ∃ b l k xs, x = .ref l ∧ y = .int k ∧ SqH b H l xs ∧ 2 ≤ k ∧ k ≤ 1000 ∧ xs.length ≤ 1000 ∧ ∀ t H', Same H H' → SqH b H' t (List.replicate k.toNat xs).flatten → (b = false → H t = none) → Q (.ref t) H'
theorem op_repS : OpR X (binaryOp .Mult) rRepS := by
  rintro pins s σ H x y v u Q I rx ry ⟨b, l, k, xs, rfl, rfl, hx, h1, h2, hz, q⟩
  cases b with
  | false =>
    refine op_rep pins s σ H _ _ v u Q I rx ry ⟨l, k, xs, rfl, rfl, hx, by omega, by omega, ?_, fun p np => q p _ (same_new np) upd_same fun _ => np⟩
    have h3 : k.toNat ≤ 1000 := by omega
    exact Nat.le_trans (Nat.mul_le_mul hz h3) (by decide)
  | true => exact op_repU pins s σ H _ _ v u Q I rx ry ⟨l, k, xs, rfl, rfl, hx, h1, h2, hz, fun t H' s' e => q t H' s' e fun z => nomatch z⟩
def rCatS : R2 := fun x y H Q => ∃ b l m xs ys, x = .ref l ∧ y = .ref m ∧ SqH b H l xs ∧ SqH b H m ys ∧ xs.length + ys.length ≤ 1000 ∧ ∀ t H', Same H H' → SqH b H' t (xs ++ ys) → (b = false → H t = none) → Q (.ref t) H'
theorem op_catS : OpR X (binaryOp .Add) rCatS := by
  rintro pins s σ H x y v u Q I rx ry ⟨b, l, m, xs, ys, rfl, rfl, hx, hy, hz, q⟩
  have hz' : xs.length + ys.length ≤ sizeLine := Nat.le_trans hz (by decide)
  cases b with
  | false => exact op_cat pins s σ H _ _ v u Q I rx ry ⟨l, m, xs, ys, rfl, rfl, hx, hy, hz', fun p np => q p _ (same_new np) upd_same fun _ => np⟩
  | true =>
    have hx' : H l = some (.tup xs) := hx
    have hy' : H m = some (.tup ys) := hy
    refine op_catA pins s σ H _ _ v u Q I rx ry ⟨l, m, xs, ys, rfl, rfl, SqT.of hx', SqT.of hy', hz', fun z => ?_, fun _ z => ?_, fun _ _ t n => q t _ (same_new n) upd_same fun z => nomatch z⟩
    · exact q m H (Same.refl H) (by rw [z]; exact hy') fun z => nomatch z
    · exact q l H (Same.refl H) (by rw [z, List.append_nil]; exact hx') fun z => nomatch z
def tRevB (K : PySem.W.Frag) (b : Bool) (te : TE) : TE := if b = true then tRevT K te else tRevL K te
theorem pe_revB {b : Bool} {e : Expr} {te : TE} {k : Nat} {p1 p2 p3 pos : Pos} (he : PE X e te) : PE X (.Subscript e (.Slice none none (some (.UnaryOp .USub (.Constant (.int 1) k p1) p2)) p3) pos) (tRevB X.K b te) := by
  cases b
  · exact pe_revL he
  · exact pe_revT he
theorem rd_revB {K : PySem.W.Frag} {b : Bool} {te : TE} {σ : L2.St} {H : Hp} {Q : VK} (h : te σ H fun x H1 => ∃ a xs, x = .ref a ∧ SqH b H1 a xs ∧ ∀ t H', Same H1 H' → SqH b H' t xs.reverse → (b = false → H1 t = none) → Q (.ref t) H') (m : ∀ (R S : VK), (∀ x h, R x h → S x h) → te σ H R → te σ H S) : tRevB K b te σ H Q := by
  cases b with
  | false => exact m _ _ (fun x h ⟨a, xs, e, hx, q⟩ => ⟨a, xs, e, SqL.of hx, fun p np => q p _ (same_new np) upd_same fun _ => np⟩) h
  | true => exact m _ _ (fun x h ⟨a, xs, e, hx, q⟩ => ⟨a, xs, e, SqT.of hx, fun p np => q p _ (same_new np) upd_same fun z => nomatch z⟩) h
end
end Ver
namespace K10
open PySem PySem.Spec PyProof.Rows L2 Ver
abbrev sBentV : Stmt := top 30
/-- a row that draws leave -/
def BRowN (N : Addr → Prop) (H : Hp) (r : Addr) (row : BRow) : Prop := ∃ o, H r = some (.tup [.str row.1, .ref o, .str row.2.2]) ∧ SqH row.2.1.1 H o (row.2.1.2.map V.str) ∧ ¬ N o
theorem SqH.keep {N : Addr → Prop} {b : Bool} {H H' : Hp} {o : Addr} {xs : List V} (k : Keep N H H') (n : ¬ N o) (h : SqH b H o xs) : SqH b H' o xs := k _ _ h n
theorem BRowN.keep {N : Addr → Prop} {H H' : Hp} (k : Keep N H H') (t : Tups H H') {r : Addr} {row : BRow} : BRowN N H r row → BRowN N H' r row := fun ⟨o, h1, h2, n⟩ => ⟨o, t _ _ h1, SqH.keep k n h2, n⟩
theorem BRowN.at {N : Addr → Prop} {H : Hp} {r : Addr} {row : BRow} : BRowN N H r row → BRowAt H r row := fun ⟨o, h1, h2, _⟩ => ⟨o, h1, h2⟩
/-- what may stand in the place of a variant's kinds -/
def OwnAt (N : Addr → Prop) (m : Nat) (H : Hp) (v : V) (w : Own) : Prop := ∃ o, v = .ref o ∧ SqH w.1 H o (w.2.map V.str) ∧ ¬ N o ∧ w.2.length ≤ m
theorem OwnAt.keep {N : Addr → Prop} {m : Nat} {H H' : Hp} (k : Keep N H H') {v : V} {w : Own} : OwnAt N m H v w → OwnAt N m H' v w := fun ⟨o, e, h, n, l⟩ => ⟨o, e, SqH.keep k n h, n, l⟩
theorem cut_one (us : List Str) : cutV (us.map V.str) none (some 1) = (us.take 1).map V.str := by
  cases us with
  | nil => rfl
  | cons u us =>
    rw [show (some (1 : Int)) = some ((1 : Nat) : Int) from rfl, cut_take (by rw [List.length_map, List.length_cons]; omega), List.map_take]
theorem rep_two (us : List Str) : (List.replicate (2 : Int).toNat (us.map V.str)).flatten = (us ++ us).map V.str := by
  rw [show (2 : Int).toNat = 2 from rfl, List.map_append]
  simp [List.replicate]
theorem Src.offT {p c : Addr} {H : Hp} (S : Src p c H) {t : Addr} {xs : List V} (e : H t = some (.tup xs)) : ¬ Off p c t := by
  obtain ⟨_, ns, l, m, u, hp, hc, _⟩ := S
  rintro (z | z)
  · rw [z, hp] at e
    cases e
  · rw [z, hc] at e
    cases e
/-- the place of what was made -/
theorem Src.offB {p c : Addr} {H H' : Hp} (S : Src p c H) (s : Same H H') {b : Bool} {t : Addr} {xs : List V} (h : SqH b H' t xs) (n : b = false → H t = none) : ¬ Off p c t := by
  cases b with
  | false => exact S.off (n rfl)
  | true => exact (S.same s).offT h
theorem own_add {N : Addr → Prop} {m : Nat} {H H' : Hp} {vs : List V} {ws : List Own} {v : V} {w : Own} (s : Same H H') (P : Paired (OwnAt N m H) vs ws) (h : OwnAt N m H' v w) : Paired (OwnAt N m H') (vs ++ [v]) (ws ++ [w]) := Paired.snoc (Paired.imp (fun _ _ z => z.keep (Same.keep s)) P) h
theorem own_same {N : Addr → Prop} {m : Nat} {H H' : Hp} {vs : List V} {ws : List Own} (s : Same H H') (P : Paired (OwnAt N m H) vs ws) : Paired (OwnAt N m H') vs ws := Paired.imp (fun _ _ z => z.keep (Same.keep s)) P
def bentN : List Str := ["V", "", "9", Txt.mul "a" 12, Txt.mul "a" 13, "v-1", "none"]
theorem bent_tell : ∀ n ∈ bentN, n.length ≤ 1000 ∧ (reprText n).length ≤ 1000 := by decide +kernel
theorem SqH.tup {H : Hp} {t : Addr} {xs : List V} (h : H t = some (.tup xs)) : SqH true H t xs := h
def spBentV (m : Nat) : Sp := fun vs H Q _ => ∃ (p c a sn ra : Addr) (ks seen : List Str) (row : BRow), vs = [.ref p, .ref a, .ref sn, .ref ra] ∧ Src p c H ∧ H a = some (.lst (ks.map V.str)) ∧ ks ≠ [] ∧ ¬ Off p c a ∧ ks.length ≤ 900 ∧ H sn = some (.lst (seen.map V.str)) ∧ (∀ n ∈ seen, TellOk (.str n)) ∧ seen.length ≤ 900 ∧
  BRowN (Off p c) H ra row ∧ TellOk (.str row.1) ∧ row.2.1.2.length ≤ m ∧ ∀ t row' H', Dr p c H H' → BRowN (Off p c) H' t row' → TellOk (.str row'.1) → row'.2.1.2.length ≤ 4 * m → Q (.ref t) H'
abbrev nBv : List Str := ["source", "kinds", "seen", "row", "variant", "own", "result", "names", "others", "way"]
section
variable {P : Program} {w : World} {K : PySem.W.Frag} {mg : Str → Option Value} {base : Heap}
theorem scBv : FnScope nBv ["source", "kinds", "seen", "row"] (defScope sBentV) := ⟨rfl, rfl, rfl, by decide +kernel, rfl, by decide +kernel, by decide +kernel⟩
theorem ok_bentV {m : Nat} (m1 : 1 ≤ m) (m2 : m ≤ 100) {f fP fO : Addr} {fd qP qO : FuncData} (F : Fun K "_law_bent_variant" "_law_bent_variant" sBentV f fd) (T : GlobS mg) (GP : FnOk P w K mg base CX0 1 fP qP ["source", "many"] spPick) (DP : Def K mg "_law_pick" fP) (bP : Binds K qP ["source", "many"] [])
    (GO : FnOk P w K mg base CX0 2 fO qO ["source", "some"] spOf) (DO : Def K mg "_law_of" fO) (bO : Binds K qO ["source", "some"] []) : FnOk P w K mg base CX0 3 f fd ["source", "kinds", "seen", "row"] (spBentV m) := by
  refine F.ok scBv (fun vs H Q E h => ?_) (fun cdv A outer s H vs Q E hr h => ?_)
  · obtain ⟨p, c, a, sn, ra, ks, seen, row, rfl, _⟩ := h
    rfl
  · obtain ⟨p, c, a, sn, ra, ks, seen, row, rfl, S, ha, kne, na, fewK, hsn, tellS, fewS, hrow, tellR, lw, q⟩ := h
    obtain ⟨vn, ⟨b, ws⟩, res⟩ := row
    have hr1 : Room 1 _ := hr.mono (by decide)
    have lw : ws.length ≤ m := lw
    refine ⟨_, pss_cons (ps_asg (pv 3) (pg_tup (by rfl) (pgs_cons (pg_name (i := 4) scBv.nd rfl (.inl rfl)) (pgs_cons (pg_name (i := 5) scBv.nd rfl (.inl rfl)) (pgs_cons (pg_name (i := 6) scBv.nd rfl (.inl rfl)) pgs_nil)))))
      (pss_cons (ps_set (i := 7) scBv.nd rfl (.inl rfl) (pe_op op_cat (pe_lst (pa_cons pe_str (pa_cons pe_str (pa_cons pe_str (pa_cons (pe_op op_times pe_str pe_int) (pa_cons (pe_op op_times pe_str pe_int) (pa_cons pe_str (pa_cons pe_str pa_nil)))))))) (pv 2)))
      (pss_cons (ps_set (i := 8) scBv.nd rfl (.inl rfl) (pe_lst (pa_cons (pe_tup pa_nil) (pa_cons (pe_op (r := rRepS) op_repS (pv 5) pe_int) (pa_cons (pe_op (r := rCatS) op_catS (pv 5) (pe_slice sl_seqS (pv 5) po_none (po_some pe_int)))
          (pa_cons (pe_callTy call_list_of (by rfl) T.list (by decide +kernel) (pa_cons (pv 5) pa_nil)) (pa_cons (pe_tup (pa_cons pe_str pa_nil)) (pa_cons (pe_slice sl_seqS (pv 5) po_none (po_some pe_int)) (pa_cons (pe_revB (b := b) (pv 5)) (pa_cons (pe_tup (pa_cons (pe_ix ix_list (pv 1) pe_int (fun _ _ => rfl)) pa_nil)) (pa_cons (pe_tup (pa_cons pe_str pa_nil)) pa_nil)))))))))))
      (pss_cons (ps_set (i := 8) scBv.nd rfl (.inl rfl) (pe_op op_cat (pv 8) (pe_lst (pa_cons (pe_op (r := rCatS) op_catS (pe_callTy call_tupU (by rfl) T.tuple (by decide +kernel) (pa_cons (pe_slice sl_seqS (pv 5) po_none (po_some pe_int)) pa_nil)) (pe_tup (pa_cons pe_str pa_nil)))
          (pa_cons (pe_op (r := rCatS) op_catS (pe_tup (pa_cons pe_str pa_nil)) (pe_callTy call_tupU (by rfl) T.tuple (by decide +kernel) (pa_cons (pe_slice sl_seqS (pv 5) po_none (po_some pe_int)) pa_nil))) (pa_cons (pe_op (r := rCatS) op_catS (pe_callTy call_tupU (by rfl) T.tuple (by decide +kernel) (pa_cons (pe_slice sl_seqS (pv 5) po_none (po_some pe_int)) pa_nil)) (pe_tup (pa_cons pe_str pa_nil))) pa_nil))))))
      (pss_cons (ps_set (i := 9) scBv.nd rfl (.inl rfl) (pe_call GP hr1 (by rfl) DP.gl DP.kp bP .nil pass0 (pa_cons (pv 0) (pa_cons pe_int pa_nil))))
      (pss_cons (ps_if (pt_cmpR op_eq (pv 9) pe_int (nomark _)) (pss_one (ps_ret (pe_tup (pa_cons (pe_call GO hr (by rfl) DO.gl DO.kp bO .nil pass0 (pa_cons (pv 0) (pa_cons (pv 7) pa_nil))) (pa_cons (pv 5) (pa_cons (pv 6) pa_nil)))))) pss_nil)
      (pss_cons (ps_if (pt_cmpR op_eq (pv 9) pe_int (nomark _)) (pss_one (ps_ret (pe_tup (pa_cons (pv 4) (pa_cons (pe_call GO hr (by rfl) DO.gl DO.kp bO .nil pass0 (pa_cons (pv 0) (pa_cons (pv 8) pa_nil))) (pa_cons (pv 6) pa_nil)))))) pss_nil)
      (pss_one (ps_ret (pe_tup (pa_cons (pv 4) (pa_cons (pv 5) (pa_cons (pe_call GO hr (by rfl) DO.gl DO.kp bO .nil pass0 (pa_cons (pv 0) (pa_cons (pe_lst (pa_cons pe_str (pa_cons pe_str (pa_cons pe_str (pa_cons pe_str (pa_cons (pe_ix ix_list (pv 1) (pe_un un_neg pe_int) (fun _ _ => rfl)) pa_nil)))))) pa_nil))) pa_nil)))))))))))), ?_⟩
    obtain ⟨o, t1, t2, no⟩ := hrow
    have t2 : SqH b H o (ws.map V.str) := t2
    have hb0 : ∀ {xs : List V}, H o = some (.tup xs) → True := fun _ => trivial
    obtain ⟨k0, kr, rfl⟩ : ∃ k0 kr, ks = k0 :: kr := by
      cases ks with
      | nil => exact absurd rfl kne
      | cons k0 kr => exact ⟨k0, kr, rfl⟩
    have lw1 : (ws.take 1).length ≤ 1 := List.length_take_le _ _
    refine ⟨_, rfl, ra, _, rfl, SqT.of t1, rfl, _, _, rfl, _, _, rfl, _, _, rfl, rfl, ?_⟩
    -- the names
    have m12 : MulOk "a" 12 := ⟨by decide +kernel, by decide +kernel, by decide +kernel⟩
    have m13 : MulOk "a" 13 := ⟨by decide +kernel, by decide +kernel, by decide +kernel⟩
    refine ⟨"a", 12, rfl, rfl, m12, "a", 13, rfl, rfl, m13, by show 7 ≤ sizeLine; decide, fun l7 n7 => ?_⟩
    obtain ⟨H1, z, s1, e1⟩ := fresh n7 (.lst (bentN.map V.str))
    erw [z]
    clear z
    refine ⟨_, rfl, l7, sn, _, _, rfl, rfl, e1, s1 _ _ hsn, by rw [List.length_map, List.length_map]; exact le1000 (Nat.le_trans (Nat.add_le_add_left fewS _) (by show 7 + 900 ≤ 1000; decide)), fun nl nnl => ?_⟩
    rw [← List.map_append]
    obtain ⟨H2, z, s2, e2⟩ := fresh nnl (.lst ((bentN ++ seen).map V.str))
    rw [z]
    clear z
    have x := s1.trans s2
    have nlo : ¬ Off p c nl := (S.same s1).off nnl
    clear e1 s2 s1
    -- the places: ()
    refine ⟨by show 0 ≤ sizeLine; decide, fun a1 m1' => ?_⟩
    obtain ⟨G1, z, g, f⟩ := fresh m1' (.tup (([] : List Str).map V.str))
    erw [z]
    clear z
    have e2 := g _ _ e2
    replace x := x.trans g
    have P : Paired (OwnAt (Off p c) (4 * m) G1) [.ref a1] [(true, [])] := .cons ⟨a1, rfl, f, (S.same x).offT f, Nat.zero_le _⟩ .nil
    clear f g m1'
    -- own * 2
    refine ⟨_, rfl, b, o, 2, _, rfl, rfl, x _ _ t2, by decide, by decide, by rw [List.length_map]; omega, fun a2 G2 g f n => ?_⟩
    rw [rep_two] at f
    have no2 := (S.same x).offB g f n
    have e2 := g _ _ e2
    replace x := x.trans g
    replace P := own_add (w := (b, ws ++ ws)) g P ⟨a2, rfl, f, no2, by show (ws ++ ws).length ≤ _; rw [List.length_append]; omega⟩
    clear f g n no2
    -- own + own[:1]
    refine ⟨_, rfl, _, rfl, 1, rfl, b, o, _, rfl, x _ _ t2, fun a3' G3' g' f' n' => ?_⟩
    rw [cut_one] at f'
    have e2 := g' _ _ e2
    replace x := x.trans g'
    replace P := own_same g' P
    refine ⟨b, o, a3', _, _, rfl, rfl, x _ _ t2, f', by rw [List.length_map, List.length_map]; omega, fun a3 G3 g f n => ?_⟩
    rw [← List.map_append] at f
    have no2 := (S.same x).offB g f n
    have e2 := g _ _ e2
    replace x := x.trans g
    replace P := own_add (w := (b, ws ++ ws.take 1)) g P ⟨a3, rfl, f, no2, by show (ws ++ ws.take 1).length ≤ _; rw [List.length_append]; omega⟩
    clear f g n no2 f' g' n'
    -- list(own)
    refine ⟨_, rfl, o, _, rfl, SqH.orr (b := b) (x _ _ t2), fun a4 n => ?_⟩
    have no2 := (S.same x).off n
    obtain ⟨G4, z, g, f⟩ := fresh n (.lst (ws.map V.str))
    rw [z]
    clear z
    have e2 := g _ _ e2
    replace x := x.trans g
    replace P := own_add (w := (false, ws)) g P ⟨a4, rfl, f, no2, by show ws.length ≤ _; omega⟩
    clear f g n no2
    -- ('zz',)
    refine ⟨by show 1 ≤ sizeLine; decide, fun a5 n => ?_⟩
    obtain ⟨G5, z, g, f⟩ := fresh n (.tup ([("zz" : Str)].map V.str))
    erw [z]
    clear z
    have e2 := g _ _ e2
    replace x := x.trans g
    replace P := own_add (w := (true, ["zz"])) g P ⟨a5, rfl, f, (S.same x).offT f, by show 1 ≤ _; omega⟩
    clear f g n
    -- own[:1]
    refine ⟨_, rfl, 1, rfl, b, o, _, rfl, x _ _ t2, fun a6 G6 g f n => ?_⟩
    rw [cut_one] at f
    have no2 := (S.same x).offB g f n
    have e2 := g _ _ e2
    replace x := x.trans g
    replace P := own_add (w := (b, ws.take 1)) g P ⟨a6, rfl, f, no2, by show (ws.take 1).length ≤ _; omega⟩
    clear f g n no2
    -- own[::-1]
    refine rd_revB ⟨_, rfl, o, _, rfl, x _ _ t2, fun a7 G7 g f n => ?_⟩ (fun R S' z ⟨v, e, q⟩ => ⟨v, e, z _ _ q⟩)
    rw [← List.map_reverse] at f
    have no2 := (S.same x).offB g f n
    have e2 := g _ _ e2
    replace x := x.trans g
    replace P := own_add (w := (b, ws.reverse)) g P ⟨a7, rfl, f, no2, by show ws.reverse.length ≤ _; rw [List.length_reverse]; omega⟩
    clear f g n no2
    -- (kinds[0],)
    refine ⟨_, rfl, a, _, _, .str k0, rfl, rfl, SqL.of (x _ _ ha), atI_nat (j := 0) rfl, by show 1 ≤ sizeLine; decide, fun a8 n => ?_⟩
    obtain ⟨G8, z, g, f⟩ := fresh n (.tup ([k0].map V.str))
    erw [z]
    clear z
    have e2 := g _ _ e2
    replace x := x.trans g
    replace P := own_add (w := (true, [k0])) g P ⟨a8, rfl, f, (S.same x).offT f, by show 1 ≤ _; omega⟩
    clear f g n
    -- ('bit',)
    refine ⟨by show 1 ≤ sizeLine; decide, fun a9 n => ?_⟩
    obtain ⟨G9, z, g, f⟩ := fresh n (.tup ([("bit" : Str)].map V.str))
    erw [z]
    clear z
    have e2 := g _ _ e2
    replace x := x.trans g
    replace P := own_add (w := (true, ["bit"])) g P ⟨a9, rfl, f, (S.same x).offT f, by show 1 ≤ _; omega⟩
    clear f g n
    refine ⟨by show 9 ≤ sizeLine; decide, fun L nL => ?_⟩
    obtain ⟨Ga, z, g, eL⟩ := fresh nL (.lst [.ref a1, .ref a2, .ref a3, .ref a4, .ref a5, .ref a6, .ref a7, .ref a8, .ref a9])
    erw [z]
    clear z
    have e2 := g _ _ e2
    replace x := x.trans g
    replace P := own_same g P
    clear g
    have stepT : ∀ {G G' : Hp}, Same G G' → True := fun _ => trivial
    clear stepT
    refine ⟨_, rfl, ?_⟩
    -- tuple(own[:1]) + ('zz',)
    refine ⟨_, rfl, 1, rfl, b, o, _, rfl, x _ _ t2, fun b1' Gb g f _ => ?_⟩
    rw [cut_one] at f
    replace x := x.trans g
    refine ⟨b1', _, rfl, SqH.lt f, fun b1 Gc g2 fb _ => ?_⟩
    replace x := x.trans g2
    refine ⟨by show 1 ≤ sizeLine; decide, fun c1 n => ?_⟩
    obtain ⟨Gd, z, g3, fc⟩ := fresh n (.tup ([("zz" : Str)].map V.str))
    erw [z]
    clear z
    replace x := x.trans g3
    refine ⟨true, b1, c1, _, _, rfl, rfl, g3 _ _ fb, fc, by rw [List.length_map, List.length_map]; show (ws.take 1).length + 1 ≤ 1000; omega, fun d1 Ge g4 fd _ => ?_⟩
    rw [← List.map_append] at fd
    replace x := x.trans g4
    have gg := (g.trans g2).trans (g3.trans g4)
    have e2 := gg _ _ e2
    have eL := gg _ _ eL
    replace P := own_add (w := (true, ws.take 1 ++ [("zz" : Str)])) gg P ⟨d1, rfl, fd, (S.same x).offT fd, by show (ws.take 1 ++ [("zz" : Str)]).length ≤ _; rw [List.length_append]; show _ + 1 ≤ _; omega⟩
    clear fd fc fb f g g2 g3 g4 gg n
    -- ('bit',) + tuple(own[:1])
    refine ⟨by show 1 ≤ sizeLine; decide, fun c2 n => ?_⟩
    obtain ⟨Gf, z, g, fc⟩ := fresh n (.tup ([("bit" : Str)].map V.str))
    erw [z]
    clear z
    replace x := x.trans g
    refine ⟨_, rfl, 1, rfl, b, o, _, rfl, x _ _ t2, fun b2' Gg g2 f _ => ?_⟩
    rw [cut_one] at f
    replace x := x.trans g2
    refine ⟨b2', _, rfl, SqH.lt f, fun b2 Gh g3 fb _ => ?_⟩
    replace x := x.trans g3
    refine ⟨true, c2, b2, _, _, rfl, rfl, g3 _ _ (g2 _ _ fc), fb, by rw [List.length_map, List.length_map]; show 1 + (ws.take 1).length ≤ 1000; omega, fun d2 Gi g4 fd _ => ?_⟩
    rw [← List.map_append] at fd
    replace x := x.trans g4
    have gg := (g.trans g2).trans (g3.trans g4)
    have e2 := gg _ _ e2
    have eL := gg _ _ eL
    replace P := own_add (w := (true, [("bit" : Str)] ++ ws.take 1)) gg P ⟨d2, rfl, fd, (S.same x).offT fd, by show ([("bit" : Str)] ++ ws.take 1).length ≤ _; rw [List.length_append]; show 1 + _ ≤ _; omega⟩
    clear fd fc fb f g g2 g3 g4 gg n
    -- tuple(own[:1]) + ('bit',)
    refine ⟨_, rfl, 1, rfl, b, o, _, rfl, x _ _ t2, fun b3' Gj g f _ => ?_⟩
    rw [cut_one] at f
    replace x := x.trans g
    refine ⟨b3', _, rfl, SqH.lt f, fun b3 Gk g2 fb _ => ?_⟩
    replace x := x.trans g2
    refine ⟨by show 1 ≤ sizeLine; decide, fun c3 n => ?_⟩
    obtain ⟨Gl', z, g3, fc⟩ := fresh n (.tup ([("bit" : Str)].map V.str))
    erw [z]
    clear z
    replace x := x.trans g3
    refine ⟨true, b3, c3, _, _, rfl, rfl, g3 _ _ fb, fc, by rw [List.length_map, List.length_map]; show (ws.take 1).length + 1 ≤ 1000; omega, fun d3 Gm g4 fd _ => ?_⟩
    rw [← List.map_append] at fd
    replace x := x.trans g4
    have gg := (g.trans g2).trans (g3.trans g4)
    have e2 := gg _ _ e2
    have eL := gg _ _ eL
    replace P := own_add (w := (true, ws.take 1 ++ [("bit" : Str)])) gg P ⟨d3, rfl, fd, (S.same x).offT fd, by show (ws.take 1 ++ [("bit" : Str)]).length ≤ _; rw [List.length_append]; show _ + 1 ≤ _; omega⟩
    clear fd fc fb f g g2 g3 g4 gg n
    refine ⟨by show 3 ≤ sizeLine; decide, fun L2 n => ?_⟩
    obtain ⟨Gn, z, g, eL2⟩ := fresh n (.lst [.ref d1, .ref d2, .ref d3])
    erw [z]
    clear z
    replace x := x.trans g
    have e2 := g _ _ e2
    have eL := g _ _ eL
    replace P := own_same g P
    clear g n
    refine ⟨L, L2, _, _, rfl, rfl, eL, eL2, by show 12 ≤ sizeLine; decide, fun L3 n => ?_⟩
    have noL3 := (S.same x).off n
    obtain ⟨Go, z, g, eL3⟩ := fresh n (.lst [.ref a1, .ref a2, .ref a3, .ref a4, .ref a5, .ref a6, .ref a7, .ref a8, .ref a9, .ref d1, .ref d2, .ref d3])
    erw [z]
    clear z
    replace x := x.trans g
    have e2 := g _ _ e2
    replace P := own_same g P
    clear g n eL eL2
    have D : Dr p c H Go := (Dr.refl S).same x
    -- which way
    refine ⟨_, rfl, p, c, 3, rfl, D.s, by decide, by decide, fun r Gp r0 r1 k1 S1 => ?_⟩
    have D1 : Dr p c H Gp := D.trans ⟨k1, S1⟩
    have e3 := k1 _ _ e2 nlo
    have eL4 := k1 _ _ eL3 noL3
    have P1 := Paired.imp (fun _ _ z => OwnAt.keep k1 z) P
    have ho : SqH b Gp o (ws.map V.str) := k1 _ _ (x _ _ t2) no
    clear P e2 eL3 k1 S1 x D
    refine ⟨_, rfl, rfl, _, rfl, ite2 (fun _ => ?_) (fun _ => ?_)⟩
    · refine ⟨_, rfl, _, rfl, p, c, nl, _, rfl, D1.s, e3, nlo, by rw [List.length_map, List.length_append]; exact Nat.le_trans (by decide : 1 ≤ 7) (Nat.le_add_right _ _), by rw [List.length_map, List.length_append]; exact Nat.le_trans (Nat.add_le_add_left fewS _) (by show 7 + 900 ≤ 1000; decide), fun v Gq hv k2 S2 => ?_⟩
      obtain ⟨nm, hnm, rfl⟩ := str_in hv
      have D2 : Dr p c H Gq := D1.trans ⟨k2, S2⟩
      refine ⟨_, rfl, _, rfl, by show 3 ≤ sizeLine; decide, fun t nt => ?_⟩
      refine q t (nm, (b, ws), res) _ (D2.same (same_new nt)) ⟨o, upd_same, same_new nt _ _ (k2 _ _ ho no), no⟩ ?_ (by show ws.length ≤ _; omega)
      rcases List.mem_append.mp hnm with h | h
      · exact bent_tell nm h
      · exact tellS nm h
    refine ⟨_, rfl, rfl, _, rfl, ite2 (fun _ => ?_) (fun _ => ?_)⟩
    · refine ⟨_, rfl, _, rfl, _, rfl, p, c, L3, _, rfl, D1.s, eL4, noL3, by show 1 ≤ 12; decide, by show 12 ≤ 1000; decide, fun v Gq hv k2 S2 => ?_⟩
      obtain ⟨j, hj, ej⟩ := List.getElem_of_mem hv
      have ej' := (List.getElem?_eq_getElem hj).trans (congrArg some ej)
      obtain ⟨w', _, o', rfl, h1, h2, h3⟩ := Paired.at P1 ej'
      have D2 : Dr p c H Gq := D1.trans ⟨k2, S2⟩
      refine ⟨_, rfl, by show 3 ≤ sizeLine; decide, fun t nt => ?_⟩
      exact q t (vn, w', res) _ (D2.same (same_new nt)) ⟨o', upd_same, same_new nt _ _ (k2 _ _ h1 h2), h2⟩ tellR h3
    · obtain ⟨kl, hkl⟩ : ∃ kl : Str, atI ((k0 :: kr).map V.str) (-1) = some (.str kl) := by
        obtain ⟨ini, kl, e⟩ : ∃ ini kl, k0 :: kr = ini ++ [kl] := ⟨_, _, (List.dropLast_concat_getLast (by simp)).symm⟩
        refine ⟨kl, ?_⟩
        rw [e, List.map_append]
        exact atI_last _ _
      have ha' : Gp a = some (.lst ((k0 :: kr).map V.str)) := D1.k _ _ ha na
      refine ⟨_, rfl, _, rfl, _, rfl, _, rfl, 1, rfl, a, _, _, .str kl, rfl, rfl, SqL.of ha', hkl, by show 5 ≤ sizeLine; decide, fun l6 n6 => ?_⟩
      obtain ⟨Gq, z, g, e6⟩ := fresh n6 (.lst ([("zz" : Str), "none", "bit", "bits", kl].map V.str))
      erw [z]
      clear z
      have D2 := D1.same g
      refine ⟨p, c, l6, _, rfl, D2.s, e6, D1.s.off n6, by show 1 ≤ 5; decide, by show 5 ≤ 1000; decide, fun v Gr hv k2 S2 => ?_⟩
      obtain ⟨rs, hrs, rfl⟩ := str_in hv
      have D3 : Dr p c H Gr := D2.trans ⟨k2, S2⟩
      refine ⟨by show 3 ≤ sizeLine; decide, fun t nt => ?_⟩
      exact q t (vn, (b, ws), rs) _ (D3.same (same_new nt)) ⟨o, upd_same, same_new nt _ _ (k2 _ _ (g _ _ ho) no), no⟩ tellR (by show ws.length ≤ _; omega)
end
end K10
/-! K10, 17: kinds or rows bent -/
namespace K10
open PySem PySem.Spec PyProof.Rows L2 Ver
abbrev sBent : Stmt := top 31
def BPairN (N : Addr → Prop) (H : Hp) (a : Addr) (p : Str × List BRow) : Prop := ∃ l as, H a = some (.tup [.str p.1, .ref l]) ∧ H l = some (.lst (as.map V.ref)) ∧ Paired (BRowN N H) as p.2 ∧ ¬ N l
theorem brows_keep {N : Addr → Prop} {H H' : Hp} (k : Keep N H H') (t : Tups H H') {as : List Addr} {rows : List BRow} (h : Paired (BRowN N H) as rows) : Paired (BRowN N H') as rows := Paired.imp (fun _ _ z => z.keep k t) h
theorem BPairN.keep {N : Addr → Prop} {H H' : Hp} (k : Keep N H H') (t : Tups H H') {a : Addr} {p : Str × List BRow} : BPairN N H a p → BPairN N H' a p := fun ⟨l, as, h1, h2, h3, h4⟩ => ⟨l, as, t _ _ h1, k _ _ h2 h4, brows_keep k t h3, h4⟩
/-- the law's kinds and rows -/
structure LS (N : Addr → Prop) (H : Hp) (a r : Addr) (ks : List Str) (ps : BPrims) : Prop where
  ex : ∃ as, H a = some (.lst (ks.map V.str)) ∧ ¬ N a ∧ H r = some (.lst (as.map V.ref)) ∧ ¬ N r ∧ Paired (BPairN N H) as ps
theorem LS.keep {N : Addr → Prop} {H H' : Hp} (k : Keep N H H') (t : Tups H H') {a r : Addr} {ks : List Str} {ps : BPrims} : LS N H a r ks ps → LS N H' a r ks ps :=
  fun ⟨as, h1, h2, h3, h4, h5⟩ => ⟨as, k _ _ h1 h2, h2, k _ _ h3 h4, h4, Paired.imp (fun _ _ z => z.keep k t) h5⟩
theorem Dr.tups {p c : Addr} {H H' : Hp} (S : Src p c H) (d : Dr p c H H') : Tups H H' := S.tups d.k
/-- sizes; names that can be told -/
structure Shape (t m : Nat) (ks : List Str) (ps : BPrims) : Prop where
  kne : ks ≠ []
  kzz : ("zz" : Str) ∉ ks
  kt : ∀ k ∈ ks, TellOk (.str k)
  kf : ks.length ≤ 3 + t
  pne : ps ≠ []
  pf : ps.length ≤ 3
  pt : ∀ p ∈ ps, TellOk (.str p.1)
  rt : ∀ p ∈ ps, ∀ r ∈ p.2, TellOk (.str r.1) ∧ r.2.1.2.length ≤ m
  few : (namesOf ps).length ≤ 9 + 2 * t
def spBent (t m : Nat) : Sp := fun vs H Q _ => ∃ (p c a r : Addr) (ks : List Str) (ps : BPrims), vs = [.ref p, .ref a, .ref r] ∧ Src p c H ∧ LS (Off p c) H a r ks ps ∧ Shape t m ks ps ∧
  ∀ x a' r' ks' ps' H', Dr p c H H' → H' x = some (.tup [.ref a', .ref r']) → LS (Off p c) H' a' r' ks' ps' → Shape (t + 1) (4 * m) ks' ps' → Q (.ref x) H'
theorem cut_drop {xs : List V} {i : Nat} (h : i ≤ xs.length) : cutV xs (some (i : Int)) none = xs.drop i := by
  unfold cutV
  have e : HT.sIx xs.length 0 (some (i : Int)) = i := by
    rw [HT.sIx_nat]
    omega
  have e2 : HT.sIx xs.length xs.length none = xs.length := rfl
  rw [e, e2, List.take_of_length_le (by rw [List.length_drop]; omega)]
theorem swap_names {ps : BPrims} {i : Nat} {p q : Str × List BRow} (e : ps[i]? = some p) : (namesOf (ps.take i ++ [q] ++ ps.drop (i + 1))).length + p.2.length = (namesOf ps).length + q.2.length := by
  have h : namesOf ps = namesOf (ps.take (i + 1)) ++ namesOf (ps.drop (i + 1)) := by
    unfold namesOf
    rw [← List.flatMap_append, List.take_append_drop]
  have h2 : namesOf (ps.take i ++ [q] ++ ps.drop (i + 1)) = namesOf (ps.take i) ++ q.2.map (·.1) ++ namesOf (ps.drop (i + 1)) := by
    unfold namesOf
    rw [List.flatMap_append, List.flatMap_append]
    simp
  rw [h, names_next e, h2]
  simp only [List.length_append, List.length_map]
  omega
theorem swap_mem {ps : BPrims} {i : Nat} {q x : Str × List BRow} (h : x ∈ ps.take i ++ [q] ++ ps.drop (i + 1)) : x = q ∨ x ∈ ps := by
  rcases List.mem_append.mp h with h | h
  · rcases List.mem_append.mp h with h | h
    · exact .inr (List.mem_of_mem_take h)
    · exact .inl (List.mem_singleton.mp h)
  · exact .inr (List.mem_of_mem_drop h)
theorem swap_len {α : Type} {l : List α} {i : Nat} {q : α} (h : i < l.length) : (l.take i ++ [q] ++ l.drop (i + 1)).length = l.length := by
  simp only [List.length_append, List.length_take, List.length_drop, List.length_cons, List.length_nil]
  omega
theorem Paired.cut {α β : Type} {R : α → β → Prop} : ∀ {as : List α} {bs : List β} (i : Nat), Paired R as bs → Paired R (as.take i) (bs.take i)
  | _, _, 0, _ => .nil
  | _, _, _ + 1, .nil => .nil
  | _, _, i + 1, .cons h t => .cons h (Paired.cut i t)
theorem Paired.off {α β : Type} {R : α → β → Prop} : ∀ {as : List α} {bs : List β} (i : Nat), Paired R as bs → Paired R (as.drop i) (bs.drop i)
  | _, _, 0, h => h
  | _, _, _ + 1, .nil => .nil
  | _, _, i + 1, .cons _ t => Paired.off i t
/-- a primitive exchanged -/
theorem Shape.swap {t m : Nat} {ks : List Str} {ps : BPrims} (s : Shape t m ks ps) {i : Nat} {p q : Str × List BRow} (e : ps[i]? = some p) (qt : TellOk (.str q.1)) (qr : ∀ r ∈ q.2, TellOk (.str r.1) ∧ r.2.1.2.length ≤ 4 * m) (ql : q.2.length ≤ p.2.length + 2) :
    Shape (t + 1) (4 * m) ks (ps.take i ++ [q] ++ ps.drop (i + 1)) := by
  have hi : i < ps.length := (List.getElem?_eq_some_iff.mp e).1
  refine ⟨s.kne, s.kzz, s.kt, by have := s.kf; omega, by simp, by rw [swap_len hi]; exact s.pf, fun x hx => ?_, fun x hx r hr => ?_, ?_⟩
  · rcases swap_mem hx with rfl | hx
    · exact qt
    · exact s.pt x hx
  · rcases swap_mem hx with rfl | hx
    · exact qr r hr
    · have := s.rt x hx r hr
      exact ⟨this.1, by omega⟩
  · have := swap_names (q := q) e
    have := s.few
    omega
def bentK : List Str := ["none", "bit", "obj", "K", "", Txt.mul "a" 12, Txt.mul "a" 13, "a_b", "fun", "err", "z9"]
theorem bentK_tell : (∀ n ∈ bentK, n.length ≤ 1000 ∧ (reprText n).length ≤ 1000) ∧ ("zz" : Str) ∉ bentK := by decide +kernel
def bentP : List Str := ["P", "", "0p", Txt.mul "b" 13, "bit"]
theorem bentP_tell : ∀ n ∈ bentP, n.length ≤ 1000 ∧ (reprText n).length ≤ 1000 := by decide +kernel
theorem Shape.kinds {t m : Nat} {ks : List Str} {ps : BPrims} (s : Shape t m ks ps) {i : Nat} {k : Str} (hk : k ∈ bentK ++ ks) : Shape (t + 1) (4 * m) (ks.take i ++ [k] ++ ks.drop i) ps := by
  have mem : ∀ x ∈ ks.take i ++ [k] ++ ks.drop i, x = k ∨ x ∈ ks := fun x hx => by
    rcases List.mem_append.mp hx with hx | hx
    · rcases List.mem_append.mp hx with hx | hx
      · exact .inr (List.mem_of_mem_take hx)
      · exact .inl (List.mem_singleton.mp hx)
    · exact .inr (List.mem_of_mem_drop hx)
  refine ⟨by simp, fun hz => ?_, fun x hx => ?_, ?_, s.pne, s.pf, s.pt, fun p hp r hr => ⟨(s.rt p hp r hr).1, by have := (s.rt p hp r hr).2; omega⟩, by have := s.few; omega⟩
  · rcases mem _ hz with rfl | hz
    · rcases List.mem_append.mp hk with hk | hk
      · exact bentK_tell.2 hk
      · exact s.kzz hk
    · exact s.kzz hz
  · rcases mem x hx with rfl | hx
    · rcases List.mem_append.mp hk with hk | hk
      · exact bentK_tell.1 _ hk
      · exact s.kt _ hk
    · exact s.kt x hx
  · have := s.kf
    simp only [List.length_append, List.length_take, List.length_drop, List.length_cons, List.length_nil]
    omega
abbrev nBe : List Str := ["source", "kinds", "rows", "way", "new", "at", "name", "variants", "seen", "own", "some", "spot", "more", "row"]
abbrev AtS (σ : L2.St) (i : Nat) (v : V) : Prop := σ[i]? = some (some v)
def newRow (k0 : Str) : BRow := ("new", (true, [k0]), "bit")
/-- variants, not empty -/
def tFill : TS := fun D σ H => ∃ (p c a l : Addr) (k0 : Str) (kr : List Str) (rs : List Addr) (rows : List BRow), AtS σ 1 (.ref a) ∧ AtS σ 7 (.ref l) ∧ Src p c H ∧ H a = some (.lst ((k0 :: kr).map V.str)) ∧ H l = some (.lst (rs.map V.ref)) ∧ ¬ Off p c l ∧ Paired (BRowN (Off p c) H) rs rows ∧
  ∀ l' rs' rows' H', Same H H' → H' l' = some (.lst (rs'.map V.ref)) → ¬ Off p c l' → Paired (BRowN (Off p c) H') rs' rows' → rows' ≠ [] → (rows' = rows ∨ (rows = [] ∧ rows' = [newRow k0])) → D.nx (σ.set 7 (some (.ref l'))) H'
theorem set_at {σ : L2.St} {i : Nat} {v : V} (h : AtS σ i v) : σ.set i (some v) = σ := by
  apply List.ext_getElem?
  intro j
  rw [List.getElem?_set]
  by_cases e : i = j
  · subst e
    rw [if_pos rfl, h]
    have : i < σ.length := (List.getElem?_eq_some_iff.mp h).1
    rw [if_pos this]
  · rw [if_neg e]
/-- what follows the spot -/
def tMore : TS := fun D σ H => ∃ (way spot : Int) (l : Addr) (rs : List Addr), AtS σ 3 (.int way) ∧ AtS σ 7 (.ref l) ∧ AtS σ 11 (.int spot) ∧ 0 ≤ spot ∧ spot.toNat < rs.length ∧ H l = some (.lst (rs.map V.ref)) ∧
  ∀ l2 d, (d = spot.toNat ∨ d = spot.toNat + 1) → H l2 = none → D.nx (σ.set 12 (some (.ref l2))) (upd H l2 (.lst ((rs.drop d).map V.ref)))
theorem cut_refs {as : List Addr} {i : Int} (h0 : 0 ≤ i) (h : i.toNat ≤ as.length) : cutV (as.map V.ref) none (some i) = (as.take i.toNat).map V.ref := by
  conv => lhs; rw [show i = ((i.toNat : Nat) : Int) by omega]
  rw [cut_take (by rw [List.length_map]; omega), List.map_take]
theorem off_refs {as : List Addr} {i : Int} (h0 : 0 ≤ i) (h : i.toNat ≤ as.length) : cutV (as.map V.ref) (some i) none = (as.drop i.toNat).map V.ref := by
  conv => lhs; rw [show i = ((i.toNat : Nat) : Int) by omega]
  rw [cut_drop (by rw [List.length_map]; omega), List.map_drop]
theorem off_refs1 {as : List Addr} {i : Int} (h0 : 0 ≤ i) (h : i.toNat < as.length) : cutV (as.map V.ref) (some (i + 1)) none = (as.drop (i.toNat + 1)).map V.ref := by
  have := off_refs (as := as) (i := i + 1) (by omega) (by omega)
  rwa [show (i + 1).toNat = i.toNat + 1 by omega] at this
theorem cut_txts {as : List Str} {i : Int} (h0 : 0 ≤ i) (h : i.toNat ≤ as.length) : cutV (as.map V.str) none (some i) = (as.take i.toNat).map V.str := by
  conv => lhs; rw [show i = ((i.toNat : Nat) : Int) by omega]
  rw [cut_take (by rw [List.length_map]; omega), List.map_take]
theorem off_txts {as : List Str} {i : Int} (h0 : 0 ≤ i) (h : i.toNat ≤ as.length) : cutV (as.map V.str) (some i) none = (as.drop i.toNat).map V.str := by
  conv => lhs; rw [show i = ((i.toNat : Nat) : Int) by omega]
  rw [cut_drop (by rw [List.length_map]; omega), List.map_drop]
section
variable {P : Program} {w : World} {K : PySem.W.Frag} {mg : Str → Option Value} {base : Heap}
theorem scBe : FnScope nBe ["source", "kinds", "rows"] (defScope sBent) := ⟨rfl, rfl, rfl, by decide +kernel, rfl, by decide +kernel, by decide +kernel⟩
theorem pe_w {X : Cx} {e : Expr} {t t' : TE} (h : PE X e t) (g : ∀ σ H Q, t' σ H Q → t σ H Q) : PE X e t' := ⟨fun pins s σ H Q I q => h.run pins s σ H Q I (g σ H Q q)⟩
theorem ps_w {X : Cx} {st : Stmt} {t t' : TS} (h : PS X st t) (g : ∀ D σ H, t' D σ H → t D σ H) : PS X st t' := ⟨fun pins s σ H D I q => h.run pins s σ H D I (g D σ H q)⟩
theorem ok_bent {t m : Nat} (m1 : 1 ≤ m) (m2 : m ≤ 100) (t2 : t ≤ 2) {f fP fO fB : Addr} {fd qP qO qB : FuncData} (F : Fun K "_law_bent" "_law_bent" sBent f fd) (T : GlobS mg) (GP : FnOk P w K mg base CX0 1 fP qP ["source", "many"] spPick) (DP : Def K mg "_law_pick" fP) (bP : Binds K qP ["source", "many"] [])
    (GO : FnOk P w K mg base CX0 2 fO qO ["source", "some"] spOf) (DO : Def K mg "_law_of" fO) (bO : Binds K qO ["source", "some"] []) (GB : FnOk P w K mg base CX0 3 fB qB ["source", "kinds", "seen", "row"] (spBentV m)) (DB : Def K mg "_law_bent_variant" fB) (bB : Binds K qB ["source", "kinds", "seen", "row"] []) :
    FnOk P w K mg base CX0 4 f fd ["source", "kinds", "rows"] (spBent t m) := by
  refine F.ok scBe (fun vs H Q E h => ?_) (fun cdv A outer s H vs Q E hr h => ?_)
  · obtain ⟨p, c, a, r, ks, ps, rfl, _⟩ := h
    rfl
  · obtain ⟨p, c, a, r, ks, ps, rfl, S, ls, sh, q⟩ := h
    have hr1 : Room 1 _ := hr.mono (by decide)
    have hr2 : Room 2 _ := hr.mono (by decide)
    refine ⟨_, pss_cons (ps_set (i := 3) scBe.nd rfl (.inl rfl) (pe_call GP hr1 (by rfl) DP.gl DP.kp bP .nil pass0 (pa_cons (pv 0) (pa_cons pe_int pa_nil))))
      (pss_cons (ps_if (pt_cmpR op_eq (pv 3) pe_int (nomark _))
        (pss_cons (ps_set (i := 4) scBe.nd rfl (.inl rfl) (pe_call GO hr2 (by rfl) DO.gl DO.kp bO .nil pass0 (pa_cons (pv 0) (pa_cons (pe_op op_cat (pe_lst (pa_cons pe_str (pa_cons pe_str (pa_cons pe_str (pa_cons pe_str (pa_cons pe_str (pa_cons (pe_op op_times pe_str pe_int) (pa_cons (pe_op op_times pe_str pe_int)
            (pa_cons pe_str (pa_cons pe_str (pa_cons pe_str (pa_cons pe_str pa_nil)))))))))))) (pv 1)) pa_nil))))
        (pss_cons (ps_set (i := 5) scBe.nd rfl (.inl rfl) (pe_call GP hr1 (by rfl) DP.gl DP.kp bP .nil pass0 (pa_cons (pv 0) (pa_cons (pe_op op_add (pe_callB (r := rLen K) call_len_seq (by rfl) T.len PySem.boot_len (pa_cons (pv 1) pa_nil)) pe_int) pa_nil))))
        (pss_one (ps_ret (pe_tup (pa_cons (pe_op op_cat (pe_op op_cat (pe_slice sl_list (pv 1) po_none (po_some (pv 5))) (pe_lst (pa_cons (pv 4) pa_nil))) (pe_slice sl_list (pv 1) (po_some (pv 5)) po_none)) (pa_cons (pv 2) pa_nil))))))) pss_nil)
      (pss_cons (ps_set (i := 5) scBe.nd rfl (.inl rfl) (pe_call GP hr1 (by rfl) DP.gl DP.kp bP .nil pass0 (pa_cons (pv 0) (pa_cons (pe_callB (r := rLen K) call_len_seq (by rfl) T.len PySem.boot_len (pa_cons (pv 2) pa_nil)) pa_nil))))
      (pss_cons (ps_asg (pe_ix ix_list (pv 2) (pv 5) (fun _ _ => rfl)) (pg_tup (by rfl) (pgs_cons (pg_name (i := 6) scBe.nd rfl (.inl rfl)) (pgs_cons (pg_name (i := 7) scBe.nd rfl (.inl rfl)) pgs_nil))))
      (pss_cons (ps_if (pt_cmpR op_eq (pv 3) pe_int (nomark _))
        (pss_one (ps_ret (pe_tup (pa_cons (pv 1) (pa_cons (pe_op op_cat (pe_op op_cat (pe_slice sl_list (pv 2) po_none (po_some (pv 5))) (pe_lst (pa_cons (pe_tup (pa_cons (pe_call GO hr2 (by rfl) DO.gl DO.kp bO .nil pass0 (pa_cons (pv 0) (pa_cons (pe_lst (pa_cons pe_str (pa_cons pe_str (pa_cons pe_str (pa_cons (pe_op op_times pe_str pe_int) (pa_cons pe_str pa_nil)))))) pa_nil))) (pa_cons (pv 7) pa_nil))) pa_nil)))
            (pe_slice sl_list (pv 2) (po_some (pe_op op_add (pv 5) pe_int)) po_none)) pa_nil))))) pss_nil)
      (pss_cons (ps_set (i := 8) scBe.nd rfl (.inl rfl) (pe_lst pa_nil))
      (pss_cons (ps_for PassesOwn.never rfl (pi_list (pv 2)) (pg_tup (by rfl) (pgs_cons (pg_name (i := 9) scBe.nd rfl (.inl rfl)) (pgs_cons (pg_name (i := 10) scBe.nd rfl (.inl rfl)) pgs_nil)))
        (pss_one (ps_set (i := 8) scBe.nd rfl (.inl rfl) (pe_op op_cat (pv 8) (pe_lc (own := [("row", 13)]) (g := gName 13) (tt := tYes) rfl scBe.nd (pi_list (pv 10)) (blkOk_by (N := nBe) (sc := defScope sBent) (by decide +kernel)) (fun _ _ _ _ _ => pg_name (i := 13) scBe.nd rfl (.inl rfl)) (fun _ _ _ _ _ => pts_nil)
          (fun _ _ _ _ _ => pe_ix (r := rIxT K) ix_tup (pv 13) pe_int (fun _ _ => rfl)))))))
      (pss_cons (ps_w (t' := tFill) (ps_if (pt_cmpR (op_eqNil hr.units0) (pv 7) (pe_lst pa_nil) (nomark _)) (pss_one (ps_set (i := 7) scBe.nd rfl (.inl rfl) (pe_lst (pa_cons (pe_tup (pa_cons pe_str (pa_cons (pe_tup (pa_cons (pe_ix ix_list (pv 1) pe_int (fun _ _ => rfl)) pa_nil)) (pa_cons pe_str pa_nil)))) pa_nil)))) pss_nil) ?fill)
      (pss_cons (ps_set (i := 11) scBe.nd rfl (.inl rfl) (pe_call GP hr1 (by rfl) DP.gl DP.kp bP .nil pass0 (pa_cons (pv 0) (pa_cons (pe_callB (r := rLen K) call_len_seq (by rfl) T.len PySem.boot_len (pa_cons (pv 7) pa_nil)) pa_nil))))
      (pss_cons (ps_set (i := 4) scBe.nd rfl (.inl rfl) (pe_call GB hr (by rfl) DB.gl DB.kp bB .nil pass0 (pa_cons (pv 0) (pa_cons (pv 1) (pa_cons (pv 8) (pa_cons (pe_ix ix_list (pv 7) (pv 11) (fun _ _ => rfl)) pa_nil))))))
      (pss_cons (ps_w (t' := tMore) (ps_set (i := 12) scBe.nd rfl (.inl rfl) (pe_ifExp (pt_cmpR op_eq (pv 3) pe_int (nomark _)) (pe_slice sl_list (pv 7) (po_some (pv 11)) po_none) (pe_slice sl_list (pv 7) (po_some (pe_op op_add (pv 11) pe_int)) po_none))) ?more)
      (pss_one (ps_ret (pe_tup (pa_cons (pv 1) (pa_cons (pe_op op_cat (pe_op op_cat (pe_slice sl_list (pv 2) po_none (po_some (pv 5))) (pe_lst (pa_cons (pe_tup (pa_cons (pv 6) (pa_cons (pe_op op_cat (pe_op op_cat (pe_slice sl_list (pv 7) po_none (po_some (pv 11))) (pe_lst (pa_cons (pv 4) pa_nil))) (pv 12)) pa_nil))) pa_nil)))
          (pe_slice sl_list (pv 2) (po_some (pe_op op_add (pv 5) pe_int)) po_none)) pa_nil))))))))))))))), ?_⟩
    case fill =>
      rintro D σ H ⟨p, c, a, l, k0, kr, rs, rows, i1, i7, S, ha, hl, nl, hrows, q⟩
      refine ⟨_, i7, by show 0 ≤ sizeLine; decide, fun e ne => ?_⟩
      obtain ⟨H1, z, s1, e1⟩ := fresh ne (.lst [])
      rw [z]
      clear z
      refine ⟨l, e, _, rfl, rfl, s1 _ _ hl, e1, _, rfl, ?_⟩
      cases hrows with
      | nil =>
        refine ⟨_, i1, a, _, _, .str k0, rfl, rfl, SqL.of (s1 _ _ ha), atI_nat (j := 0) rfl, by show 1 ≤ sizeLine; decide, fun t1 n1 => ?_⟩
        obtain ⟨H2, z, s2, e2⟩ := fresh n1 (.tup ([k0].map V.str))
        erw [z]
        clear z
        refine ⟨by show 3 ≤ sizeLine; decide, fun t2 n2 => ?_⟩
        obtain ⟨H3, z, s3, e3⟩ := fresh n2 (.tup [.str "new", .ref t1, .str "bit"])
        erw [z]
        clear z
        refine ⟨by show 1 ≤ sizeLine; decide, fun l' n' => ?_⟩
        have s13 := s1.trans (s2.trans s3)
        obtain ⟨H4, z, s4, e4⟩ := fresh n' (.lst [.ref t2])
        rw [z]
        clear z
        have e24 := s4 _ _ (s3 _ _ e2)
        exact q l' [t2] [newRow k0] H4 (s13.trans s4) e4 ((S.same s13).off n') (.cons ⟨t1, s4 _ _ e3, e24, (S.same (s13.trans s4)).offT e24⟩ .nil) (by simp) (.inr ⟨rfl, rfl⟩)
      | cons h1 h2 =>
        have := q l _ _ H1 s1 (s1 _ _ hl) nl (brows_keep (Same.keep s1) (Tups.of s1) (.cons h1 h2)) (by simp) (.inl rfl)
        rw [set_at i7] at this
        exact this
    case more =>
      rintro D σ H ⟨way, spot, l, rs, i3, i7, i11, h0, h1, hl, q⟩
      refine ⟨_, i3, rfl, _, rfl, ite2 (fun _ => ?_) (fun _ => ?_)⟩
      · refine ⟨_, i7, _, i11, _, rfl, l, _, rfl, SqL.of hl, fun l2 n2 => ?_⟩
        rw [off_refs h0 (by omega)]
        exact q l2 _ (.inl rfl) n2
      · refine ⟨_, i7, _, i11, _, _, rfl, rfl, _, rfl, l, _, rfl, SqL.of hl, fun l2 n2 => ?_⟩
        rw [off_refs1 h0 h1]
        exact q l2 _ (.inr rfl) n2
    obtain ⟨as, ha, na, hrr, nr, hps⟩ := ls
    have m12 : MulOk "a" 12 := ⟨by decide +kernel, by decide +kernel, by decide +kernel⟩
    have m13 : MulOk "a" 13 := ⟨by decide +kernel, by decide +kernel, by decide +kernel⟩
    have m13b : MulOk "b" 13 := ⟨by decide +kernel, by decide +kernel, by decide +kernel⟩
    have kf := sh.kf
    have pf := sh.pf
    have spl : as.length = ps.length := Paired.length hps
    have d0 := Dr.refl S
    refine ⟨_, rfl, p, c, 4, rfl, S, by decide, by decide, fun way H1 w0 w1 k1 S1 => ?_⟩
    have d1 : Dr p c H H1 := ⟨k1, S1⟩
    have st : ∀ {G : Hp}, Dr p c H G → G a = some (.lst (ks.map V.str)) ∧ G r = some (.lst (as.map V.ref)) ∧ Paired (BPairN (Off p c) G) as ps := fun d => ⟨d.k _ _ ha na, d.k _ _ hrr nr, Paired.imp (fun _ _ z => z.keep d.k (S.tups d.k)) hps⟩
    refine ⟨_, rfl, rfl, _, rfl, ite2 (fun _ => ?_) (fun _ => ?_)⟩
    · -- a kind put in
      refine ⟨_, rfl, "a", 12, rfl, rfl, m12, "a", 13, rfl, rfl, m13, by show 11 ≤ sizeLine; decide, fun l n => ?_⟩
      obtain ⟨H2, z, s2, e2⟩ := fresh n (.lst (bentK.map V.str))
      erw [z]
      clear z
      refine ⟨_, rfl, l, a, _, _, rfl, rfl, e2, s2 _ _ (st d1).1, by rw [List.length_map, List.length_map]; exact le1000 (by show 11 + ks.length ≤ 1000; omega), fun l2 n2 => ?_⟩
      rw [← List.map_append]
      have no2 := (S1.same s2).off n2
      obtain ⟨H3, z, s3, e3⟩ := fresh n2 (.lst ((bentK ++ ks).map V.str))
      rw [z]
      clear z
      have d3 := d1.same (s2.trans s3)
      refine ⟨p, c, l2, _, rfl, d3.s, e3, no2, by rw [List.length_map, List.length_append]; show 1 ≤ 11 + _; omega, by rw [List.length_map, List.length_append]; show 11 + _ ≤ _; omega, fun v H4 hv k4 S4 => ?_⟩
      obtain ⟨k, hk, rfl⟩ := str_in hv
      have d4 : Dr p c H H4 := d3.trans ⟨k4, S4⟩
      refine ⟨_, rfl, _, rfl, a, _, rfl, .inl (SqL.of (st d4).1), _, _, rfl, rfl, p, c, _, rfl, S4, by rw [List.length_map]; omega, by rw [List.length_map]; omega, fun at' H5 a0 a1 k5 S5 => ?_⟩
      rw [List.length_map] at a1
      have d5 : Dr p c H H5 := d4.trans ⟨k5, S5⟩
      have ai : at'.toNat ≤ ks.length := by omega
      refine ⟨_, rfl, _, rfl, _, rfl, a, _, rfl, SqL.of (st d5).1, fun c1 n1 => ?_⟩
      rw [cut_txts a0 ai]
      obtain ⟨H6, z, s6, e6⟩ := fresh n1 (.lst ((ks.take at'.toNat).map V.str))
      rw [z]
      clear z
      refine ⟨_, rfl, by show 1 ≤ sizeLine; decide, fun c2 n2 => ?_⟩
      obtain ⟨H7, z, s7, e7⟩ := fresh n2 (.lst ([k].map V.str))
      erw [z]
      clear z
      refine ⟨c1, c2, _, _, rfl, rfl, s7 _ _ e6, e7, by rw [List.length_map, List.length_map, List.length_take]; exact le1000 (by show _ + 1 ≤ 1000; omega), fun c3 n3 => ?_⟩
      rw [← List.map_append]
      obtain ⟨H8, z, s8, e8⟩ := fresh n3 (.lst ((ks.take at'.toNat ++ [k]).map V.str))
      rw [z]
      clear z
      have s58 := s6.trans (s7.trans s8)
      refine ⟨_, rfl, _, rfl, _, rfl, a, _, rfl, SqL.of (st (d5.same s58)).1, fun c4 n4 => ?_⟩
      rw [off_txts a0 ai]
      obtain ⟨H9, z, s9, e9⟩ := fresh n4 (.lst ((ks.drop at'.toNat).map V.str))
      rw [z]
      clear z
      refine ⟨c3, c4, _, _, rfl, rfl, s9 _ _ e8, e9, by rw [List.length_map, List.length_map, List.length_append, List.length_take, List.length_drop]; exact le1000 (by show _ + 1 + _ ≤ 1000; omega), fun c5 n5 => ?_⟩
      rw [← List.map_append]
      have d9 := d5.same (s58.trans s9)
      have no5 := d9.s.off n5
      obtain ⟨H10, z, s10, e10⟩ := fresh n5 (.lst ((ks.take at'.toNat ++ [k] ++ ks.drop at'.toNat).map V.str))
      rw [z]
      clear z
      have d10 := d9.same s10
      refine ⟨_, rfl, by show 2 ≤ sizeLine; decide, fun x nx => ?_⟩
      have d11 := d10.same (same_new (o := .tup [.ref c5, .ref r]) nx)
      exact q x c5 r _ ps _ d11 upd_same ⟨as, same_new nx _ _ e10, no5, (st d11).2.1, nr, (st d11).2.2⟩ (sh.kinds hk)
    -- a primitive
    refine ⟨_, rfl, _, rfl, r, _, rfl, .inl (SqL.of (st d1).2.1), p, c, _, rfl, S1, ?_, ?_, fun at' H2 a0 a1 k2 S2 => ?_⟩
    · rw [List.length_map, spl]
      have := List.length_pos_iff.mpr sh.pne
      omega
    · rw [List.length_map, spl]
      omega
    rw [List.length_map, spl] at a1
    have d2 : Dr p c H H2 := d1.trans ⟨k2, S2⟩
    have ai : at'.toNat < ps.length := by omega
    have epa : as[at'.toNat]? = some as[at'.toNat] := List.getElem?_eq_getElem (by omega)
    generalize as[at'.toNat] = pa at epa
    obtain ⟨pr, ep, l, rs, t1, t2', hrows, nl⟩ := Paired.at hps epa
    have pm := List.mem_of_getElem? ep
    have hat : atI (as.map V.ref) at' = some (.ref pa) := by
      have e : (as.map V.ref)[at'.toNat]? = some (.ref pa) := by rw [List.getElem?_map, epa]; rfl
      have := atI_nat e
      rwa [show ((at'.toNat : Nat) : Int) = at' by omega] at this
    have tup : ∀ {G : Hp}, Dr p c H G → G pa = some (.tup [.str pr.1, .ref l]) ∧ G l = some (.lst (rs.map V.ref)) ∧ Paired (BRowN (Off p c) G) rs pr.2 := fun d => ⟨S.tups d.k _ _ t1, d.k _ _ t2' nl, brows_keep d.k (S.tups d.k) hrows⟩
    refine ⟨_, rfl, _, rfl, r, _, _, .ref pa, rfl, rfl, SqL.of (st d2).2.1, hat, pa, _, rfl, SqT.of (tup d2).1, rfl, _, _, rfl, _, _, rfl, rfl, ?_⟩
    refine ⟨_, rfl, rfl, _, rfl, ite2 (fun _ => ?_) (fun _ => ?_)⟩
    · -- its name
      refine ⟨_, rfl, _, rfl, _, rfl, _, rfl, r, _, rfl, SqL.of (st d2).2.1, fun c1 n1 => ?_⟩
      rw [cut_refs a0 (by omega)]
      have no1 := S2.off n1
      obtain ⟨H3, z, s3, e3⟩ := fresh n1 (.lst ((as.take at'.toNat).map V.ref))
      rw [z]
      clear z
      have d3 := d2.same s3
      refine ⟨_, rfl, "b", 13, rfl, rfl, m13b, by show 5 ≤ sizeLine; decide, fun l5 n5 => ?_⟩
      have no5 := d3.s.off n5
      obtain ⟨H4, z, s4, e4⟩ := fresh n5 (.lst (bentP.map V.str))
      erw [z]
      clear z
      have d4 := d3.same s4
      refine ⟨p, c, l5, _, rfl, d4.s, e4, no5, by show 1 ≤ 5; decide, by show 5 ≤ 1000; decide, fun v H5 hv k5 S5 => ?_⟩
      obtain ⟨nm, hnm, rfl⟩ := str_in hv
      have d5 : Dr p c H H5 := d4.trans ⟨k5, S5⟩
      have e35 := k5 _ _ (s4 _ _ e3) no1
      refine ⟨_, rfl, by show 2 ≤ sizeLine; decide, fun tt ntt => ?_⟩
      obtain ⟨H6, z, s6, e6⟩ := fresh ntt (.tup [.str nm, .ref l])
      rw [z]
      clear z
      refine ⟨by show 1 ≤ sizeLine; decide, fun c2 n2 => ?_⟩
      obtain ⟨H7, z, s7, e7⟩ := fresh n2 (.lst ([tt].map V.ref))
      erw [z]
      clear z
      refine ⟨c1, c2, _, _, rfl, rfl, s7 _ _ (s6 _ _ e35), e7, by rw [List.length_map, List.length_map, List.length_take]; exact le1000 (by show _ + 1 ≤ 1000; omega), fun c3 n3 => ?_⟩
      rw [← List.map_append]
      obtain ⟨H8, z, s8, e8⟩ := fresh n3 (.lst ((as.take at'.toNat ++ [tt]).map V.ref))
      rw [z]
      clear z
      have d8 := d5.same (s6.trans (s7.trans s8))
      refine ⟨_, rfl, _, rfl, _, _, rfl, rfl, _, rfl, r, _, rfl, SqL.of (st d8).2.1, fun c4 n4 => ?_⟩
      rw [off_refs1 a0 (by omega)]
      obtain ⟨H9, z, s9, e9⟩ := fresh n4 (.lst ((as.drop (at'.toNat + 1)).map V.ref))
      rw [z]
      clear z
      refine ⟨c3, c4, _, _, rfl, rfl, s9 _ _ e8, e9, by rw [List.length_map, List.length_map, List.length_append, List.length_take, List.length_drop]; exact le1000 (by show _ + 1 + _ ≤ 1000; omega), fun c5 n5' => ?_⟩
      rw [← List.map_append]
      have d9 := d8.same s9
      have no5' := d9.s.off n5'
      obtain ⟨H10, z, s10, e10⟩ := fresh n5' (.lst ((as.take at'.toNat ++ [tt] ++ as.drop (at'.toNat + 1)).map V.ref))
      rw [z]
      clear z
      have d10 := d9.same s10
      refine ⟨by show 2 ≤ sizeLine; decide, fun x nx => ?_⟩
      have d11 := d10.same (same_new (o := .tup [.ref a, .ref c5]) nx)
      have ett := same_new (o := .tup [.ref a, .ref c5]) nx _ _ (s10 _ _ (s9 _ _ (s8 _ _ (s7 _ _ e6))))
      exact q x a c5 ks (ps.take at'.toNat ++ [(nm, pr.2)] ++ ps.drop (at'.toNat + 1)) _ d11 upd_same ⟨_, (st d11).1, na, same_new nx _ _ e10, no5', Paired.app (Paired.app (Paired.cut _ (st d11).2.2) (.cons ⟨l, rs, ett, (tup d11).2.1, (tup d11).2.2, nl⟩ .nil)) (Paired.off _ (st d11).2.2)⟩
        (sh.swap (q := (nm, pr.2)) ep (bentP_tell nm hnm) (fun r hr => ⟨(sh.rt _ pm r hr).1, by have := (sh.rt _ pm r hr).2; omega⟩) (by show pr.2.length ≤ _; omega))
    -- the names seen
    have few := sh.few
    refine ⟨by show 0 ≤ sizeLine; decide, fun s0 m0 => ?_⟩
    have nos0 := d2.s.off m0
    obtain ⟨H3, z, s3, e3⟩ := fresh m0 (.lst [])
    rw [z]
    clear z
    have d3 := d2.same s3
    refine ⟨_, rfl, r, rfl, ⟨_, SqL.of (st d3).2.1⟩, for_it (walk_list (K := K) (a := r) (xs := as.map V.ref)) (fun i σ Hx => Same H3 Hx ∧ ∃ sn v9 v10, σ = [some (.ref p), some (.ref a), some (.ref r), some (.int way), none, some (.int at'), some (.str pr.1), some (.ref l), some (.ref sn), v9, v10, none, none, none] ∧ Hx sn = some (.lst ((namesOf (ps.take i)).map V.str)) ∧ ¬ Off p c sn)
      ⟨Same.refl H3, s0, _, _, rfl, e3, nos0⟩ (fun i σ Hx _ ⟨sm, _⟩ => SqL.of (st (d3.same sm)).2.1) ?_ ?_⟩
    · rintro i x σ Hw Hx hi ⟨sx, sn, v9, v10, rfl, esn, nosn⟩ ⟨rfl, hx⟩
      rw [List.getElem?_map] at hx
      obtain ⟨qa, hqa, rfl⟩ := Option.map_eq_some_iff.mp hx
      have dx := d3.same sx
      obtain ⟨pq, eq', lq, rq, u1, u2, urows, _⟩ := Paired.at (st dx).2.2 hqa
      have nle := names_le eq' pq.2.length
      rw [List.take_length, List.length_append, List.length_map] at nle
      refine ⟨qa, _, rfl, SqT.of u1, rfl, _, _, rfl, _, _, rfl, rfl, ?_⟩
      refine ⟨_, rfl, _, rfl, lq, rfl, ⟨_, SqL.of u2⟩, fun D2 nD2 => lc_it (walk_list (K := K) (a := lq) (xs := rq.map V.ref)) (fun j H4 => Same Hx H4 ∧ H4 D2 = some (.lst (((pq.2.take j).map fun r => r.1).map V.str))) ⟨same_new nD2, upd_same⟩ (fun j H4 _ ⟨sj, _⟩ => SqL.of (sj _ _ u2)) ?_ ?_⟩
      · rintro j y H4 H5 hj ⟨sj, eD⟩ ⟨rfl, hy⟩
        rw [List.getElem?_map] at hy
        obtain ⟨a', ha', rfl⟩ := Option.map_eq_some_iff.mp hy
        obtain ⟨row, er, o, w1', w2'⟩ := Paired.at urows ha'
        have hj1 : j < pq.2.length := (List.getElem?_eq_some_iff.mp er).1
        refine ⟨rfl, _, rfl, a', _, _, .str row.1, rfl, rfl, SqT.of (sj _ _ w1'), atI_nat (j := 0) rfl, _, eD, ?_, fun b o e => ?_, ?_⟩
        · rw [List.length_map, List.length_map, List.length_take]
          exact small1000 (by omega)
        · rw [upd_ne (ne_of_none e nD2)]
          exact sj _ _ e
        · rw [upd_same, List.take_add_one, er]
          simp
      rintro H4 ⟨sj, eD⟩
      rw [List.length_map, Paired.length urows, List.take_length] at eD
      refine ⟨sn, D2, _, _, rfl, rfl, sj _ _ esn, eD, ?_, fun p' np' => ?_⟩
      · rw [List.length_map, List.length_map, List.length_map]
        exact le1000 (by omega)
      · have noff := (dx.same sj).s.off np'
        obtain ⟨H5, z, s5, e5⟩ := fresh np' (.lst ((namesOf (ps.take i)).map V.str ++ (pq.2.map fun r => r.1).map V.str))
        rw [z]
        clear z
        refine ⟨(sx.trans sj).trans s5, p', _, _, rfl, ?_, noff⟩
        rw [e5, names_next eq', List.map_append]
    rintro σ Hx ⟨sx, sn, v9, v10, rfl, esn, nosn⟩
    rw [List.length_map, spl, List.take_length] at esn
    have d4 := d3.same sx
    obtain ⟨k0, kr, ek⟩ : ∃ k0 kr, ks = k0 :: kr := by
      cases ks with
      | nil => exact absurd rfl sh.kne
      | cons k0 kr => exact ⟨k0, kr, rfl⟩
    refine ⟨p, c, a, l, k0, kr, rs, pr.2, rfl, rfl, d4.s, by rw [← ek]; exact (st d4).1, (tup d4).2.1, nl, (tup d4).2.2, fun l' rs' rows' H5 s5 el' nl' hrows' ne' alt => ?_⟩
    have d5 := d4.same s5
    have esn5 := s5 _ _ esn
    have rl : rows'.length ≤ pr.2.length + 1 := by
      rcases alt with rfl | ⟨e, rfl⟩
      · omega
      · show 1 ≤ _
        omega
    have rtell : ∀ r ∈ rows', TellOk (.str r.1) ∧ r.2.1.2.length ≤ m := by
      rcases alt with rfl | ⟨e, rfl⟩
      · exact sh.rt _ pm
      · intro x hx
        cases List.mem_singleton.mp hx
        exact ⟨by show (("new" : Str).length ≤ 1000 ∧ (reprText "new").length ≤ 1000); decide +kernel, by show 1 ≤ m; exact m1⟩
    have prl := rows_le pm
    have spr : rs'.length = rows'.length := Paired.length hrows'
    have rpos := List.length_pos_iff.mpr ne'
    refine ⟨_, rfl, _, rfl, l', _, rfl, .inl (SqL.of el'), p, c, _, rfl, d5.s, by rw [List.length_map]; omega, by rw [List.length_map]; omega, fun sp H6 p0 p1 k6 S6 => ?_⟩
    rw [List.length_map] at p1
    have d6 : Dr p c H H6 := d5.trans ⟨k6, S6⟩
    have el6 := k6 _ _ el' nl'
    have hr6 := brows_keep k6 (d5.s.tups k6) hrows'
    have era : rs'[sp.toNat]? = some rs'[sp.toNat] := List.getElem?_eq_getElem (by omega)
    generalize rs'[sp.toNat] = ra at era
    obtain ⟨row, erow, hrow⟩ := Paired.at hr6 era
    have rm := List.mem_of_getElem? erow
    have hsp : atI (rs'.map V.ref) sp = some (.ref ra) := by
      have e : (rs'.map V.ref)[sp.toNat]? = some (.ref ra) := by rw [List.getElem?_map, era]; rfl
      have := atI_nat e
      rwa [show ((sp.toNat : Nat) : Int) = sp by omega] at this
    refine ⟨_, rfl, _, rfl, _, rfl, _, rfl, _, rfl, l', _, _, .ref ra, rfl, rfl, SqL.of el6, hsp, p, c, a, sn, ra, ks, namesOf ps, row, rfl, d6.s, (st d6).1, sh.kne, na, by omega, k6 _ _ esn5 nosn, fun n hn => ?_, by omega, hrow, (rtell row rm).1, (rtell row rm).2, fun tn row' H7 d67 hrow' tell' len' => ?_⟩
    · obtain ⟨p', hp', hn'⟩ := List.mem_flatMap.mp hn
      obtain ⟨r', hr'', rfl⟩ := List.mem_map.mp hn'
      exact (sh.rt p' hp' r' hr'').1
    have d7 := d6.trans d67
    have el7 := d67.k _ _ el6 nl'
    have hr7 := brows_keep d67.k (d6.s.tups d67.k) hr6
    refine ⟨way, sp, l', rs', rfl, rfl, rfl, p0, by omega, el7, fun l2 d hd n2 => ?_⟩
    have nol2 := d7.s.off n2
    obtain ⟨H8, z, s8, e8⟩ := fresh n2 (.lst ((rs'.drop d).map V.ref))
    rw [z]
    clear z
    have d8 := d7.same s8
    refine ⟨_, rfl, _, rfl, _, rfl, _, rfl, r, _, rfl, SqL.of (st d8).2.1, fun c1 n1 => ?_⟩
    rw [cut_refs a0 (by omega)]
    obtain ⟨H9, z, s9, e9⟩ := fresh n1 (.lst ((as.take at'.toNat).map V.ref))
    rw [z]
    clear z
    refine ⟨_, rfl, _, rfl, _, rfl, _, rfl, l', _, rfl, SqL.of (s9 _ _ (s8 _ _ el7)), fun c2 n2' => ?_⟩
    rw [cut_refs p0 (by omega)]
    obtain ⟨H10, z, s10, e10⟩ := fresh n2' (.lst ((rs'.take sp.toNat).map V.ref))
    rw [z]
    clear z
    refine ⟨_, rfl, by show 1 ≤ sizeLine; decide, fun c3 n3 => ?_⟩
    obtain ⟨H11, z, s11, e11⟩ := fresh n3 (.lst ([tn].map V.ref))
    erw [z]
    clear z
    refine ⟨c2, c3, _, _, rfl, rfl, s11 _ _ e10, e11, by rw [List.length_map, List.length_map, List.length_take]; exact le1000 (by show _ + 1 ≤ 1000; omega), fun c4 n4 => ?_⟩
    rw [← List.map_append]
    obtain ⟨H12, z, s12, e12⟩ := fresh n4 (.lst ((rs'.take sp.toNat ++ [tn]).map V.ref))
    rw [z]
    clear z
    refine ⟨_, rfl, c4, l2, _, _, rfl, rfl, e12, s12 _ _ (s11 _ _ (s10 _ _ (s9 _ _ e8))), by rw [List.length_map, List.length_map, List.length_append, List.length_take, List.length_drop]; exact le1000 (by show _ + 1 + _ ≤ 1000; omega), fun c5 n5 => ?_⟩
    rw [← List.map_append]
    have s812 := s9.trans (s10.trans (s11.trans s12))
    have d12 := d8.same s812
    have no5 := d12.s.off n5
    obtain ⟨H13, z, s13, e13⟩ := fresh n5 (.lst ((rs'.take sp.toNat ++ [tn] ++ rs'.drop d).map V.ref))
    rw [z]
    clear z
    refine ⟨by show 2 ≤ sizeLine; decide, fun tt ntt => ?_⟩
    obtain ⟨H14, z, s14, e14⟩ := fresh ntt (.tup [.str pr.1, .ref c5])
    rw [z]
    clear z
    refine ⟨by show 1 ≤ sizeLine; decide, fun c6 n6 => ?_⟩
    obtain ⟨H15, z, s15, e15⟩ := fresh n6 (.lst ([tt].map V.ref))
    erw [z]
    clear z
    have s915 := s10.trans (s11.trans (s12.trans (s13.trans (s14.trans s15))))
    refine ⟨c1, c6, _, _, rfl, rfl, s915 _ _ e9, e15, by rw [List.length_map, List.length_map, List.length_take]; exact le1000 (by show _ + 1 ≤ 1000; omega), fun c7 n7 => ?_⟩
    rw [← List.map_append]
    obtain ⟨H16, z, s16, e16⟩ := fresh n7 (.lst ((as.take at'.toNat ++ [tt]).map V.ref))
    rw [z]
    clear z
    have s816 := (s9.trans s915).trans s16
    have d16 := d8.same s816
    refine ⟨_, rfl, _, rfl, _, _, rfl, rfl, _, rfl, r, _, rfl, SqL.of (st d16).2.1, fun c8 n8 => ?_⟩
    rw [off_refs1 a0 (by omega)]
    obtain ⟨H17, z, s17, e17⟩ := fresh n8 (.lst ((as.drop (at'.toNat + 1)).map V.ref))
    rw [z]
    clear z
    refine ⟨c7, c8, _, _, rfl, rfl, s17 _ _ e16, e17, by rw [List.length_map, List.length_map, List.length_append, List.length_take, List.length_drop]; exact le1000 (by show _ + 1 + _ ≤ 1000; omega), fun c9 n9 => ?_⟩
    rw [← List.map_append]
    have d17 := d16.same s17
    have no9 := d17.s.off n9
    obtain ⟨H18, z, s18, e18⟩ := fresh n9 (.lst ((as.take at'.toNat ++ [tt] ++ as.drop (at'.toNat + 1)).map V.ref))
    rw [z]
    clear z
    refine ⟨by show 2 ≤ sizeLine; decide, fun x nx => ?_⟩
    have sl : Same H14 (upd H18 x (.tup [.ref a, .ref c9])) := s15.trans (s16.trans (s17.trans (s18.trans (same_new nx))))
    have s8l : Same H8 (upd H18 x (.tup [.ref a, .ref c9])) := s816.trans (s17.trans (s18.trans (same_new nx)))
    have dl := d8.same s8l
    have s7l := s8.trans s8l
    have hr8 : Paired (BRowN (Off p c) (upd H18 x (.tup [.ref a, .ref c9]))) rs' rows' := brows_keep (Same.keep s7l) (Tups.of s7l) hr7
    have hrn : BRowN (Off p c) (upd H18 x (.tup [.ref a, .ref c9])) tn row' := hrow'.keep (Same.keep s7l) (Tups.of s7l)
    exact q x a c9 ks (ps.take at'.toNat ++ [(pr.1, rows'.take sp.toNat ++ [row'] ++ rows'.drop d)] ++ ps.drop (at'.toNat + 1)) _ dl upd_same ⟨_, (st dl).1, na, same_new nx _ _ e18, no9, Paired.app (Paired.app (Paired.cut _ (st dl).2.2) (.cons ⟨c5, _, sl _ _ e14, sl _ _ (s14 _ _ e13), Paired.app (Paired.app (Paired.cut _ hr8) (.cons hrn .nil)) (Paired.off _ hr8), no5⟩ .nil)) (Paired.off _ (st dl).2.2)⟩
      (sh.swap (q := (pr.1, rows'.take sp.toNat ++ [row'] ++ rows'.drop d)) ep (show TellOk (.str pr.1) from sh.pt pr pm) (fun x hx => by
        rcases List.mem_append.mp hx with hx | hx
        · rcases List.mem_append.mp hx with hx | hx
          · have := rtell x (List.mem_of_mem_take hx)
            exact ⟨this.1, by omega⟩
          · cases List.mem_singleton.mp hx
            exact ⟨tell', len'⟩
        · have := rtell x (List.mem_of_mem_drop hx)
          exact ⟨this.1, by omega⟩) (by
        show (rows'.take sp.toNat ++ [row'] ++ rows'.drop d).length ≤ _
        simp only [List.length_append, List.length_take, List.length_drop, List.length_cons, List.length_nil]
        omega))
end
end K10
/-! K10, 18: what the law leans on -/
namespace Ver
open PySem PySem.Spec PyProof.Rows L2
/-- list(x), x a list or a tuple -/
def rLstA (K : PySem.W.Frag) : List V → Hp → VK → Prop := fun xs H Q => ∃ p ys, xs = [.ref p] ∧ (SqL K H p ys ∨ SqT K H p ys) ∧ ∀ l, H l = none → Q (.ref l) (upd H l (.lst ys))
theorem call_lstA {X : Cx} : CallR X (.type "list") (rLstA X.K) := call_list_of
theorem pe_revLK {X : Cx} {K : PySem.W.Frag} (hK : X.K = K) {e : Expr} {te : TE} {k : Nat} {p1 p2 p3 pos : Pos} (he : PE X e te) : PE X (.Subscript e (.Slice none none (some (.UnaryOp .USub (.Constant (.int 1) k p1) p2)) p3) pos) (tRevL K te) := by
  subst hK
  exact pe_revL he
/-- one promise of many -/
theorem fnOk_ex {ι : Type} {P : Program} {w : World} {K : PySem.W.Frag} {mg : Str → Option Value} {base : Heap} {CX : CXT} {k : Nat} {f : Addr} {fd : FuncData} {ps : List Str} {sp : ι → Sp} (F : ∀ i, FnOk P w K mg base CX k f fd ps (sp i)) : FnOk P w K mg base CX k f fd ps (fun vs H Q E => ∃ i, sp i vs H Q E) :=
  ⟨fun vs H Q E ⟨i, h⟩ => (F i).len vs H Q E h, fun A outer s H args us vs Q E hr he hb hv ⟨i, hs⟩ => (F i).run A outer s H args us vs Q E hr he hb hv hs⟩
theorem putK_old {kvs : List (Key × V)} {k : Key} (v : V) (h : valV kvs k ≠ none) : (putK kvs k v).map (·.1) = kvs.map (·.1) := by
  unfold putK
  have hb : (kvs.any fun kv => decide (kv.1 = k)) = true := by
    rw [List.any_eq_true]
    obtain ⟨x, hx⟩ := Option.ne_none_iff_exists'.mp h
    have hm := valV_in hx
    obtain ⟨kv, h1, h2⟩ := List.mem_map.mp hm
    exact ⟨kv, h1, by simpa using h2⟩
  rw [if_pos hb, List.map_map]
  refine List.map_congr_left fun kv _ => ?_
  show (if kv.1 = k then (kv.1, v) else kv).1 = kv.1
  by_cases e : kv.1 = k
  · rw [if_pos e]
  · rw [if_neg e]
theorem val_none {kvs : List (Key × V)} {k : Key} (h : valV kvs k = none) : k ∉ kvs.map (·.1) := by
  intro m
  obtain ⟨kv, h1, h2⟩ := List.mem_map.mp m
  unfold valV at h
  rw [Option.map_eq_none_iff, List.find?_eq_none] at h
  have := h kv h1
  exact this (by simpa using h2)
theorem merge_len : ∀ {kvs acc : List (Key × V)}, (acc.map (·.1)).Nodup → (mergeK acc kvs).length ≤ acc.length + kvs.length ∧ ((mergeK acc kvs).length = acc.length + kvs.length → ((acc ++ kvs).map (·.1)).Nodup)
  | [], acc, h => ⟨Nat.le_refl _, fun _ => by rwa [List.append_nil]⟩
  | kv :: kvs, acc, h => by
    show (mergeK (putK acc kv.1 kv.2) kvs).length ≤ _ ∧ ((mergeK (putK acc kv.1 kv.2) kvs).length = _ → _)
    rw [List.length_cons]
    cases hv : valV acc kv.1 with
    | none =>
      rw [putK_new _ hv]
      have nod : ((acc ++ [(kv.1, kv.2)]).map (·.1)).Nodup := by
        rw [List.map_append]
        refine List.nodup_append.mpr ⟨h, by simp, ?_⟩
        rintro a ha b hb rfl
        have : a = kv.1 := by simpa using hb
        exact val_none hv (this ▸ ha)
      obtain ⟨i1, i2⟩ := merge_len (kvs := kvs) nod
      rw [List.length_append] at i1 i2
      refine ⟨by simp at i1; omega, fun e => ?_⟩
      have := i2 (by simp; omega)
      simpa using this
    | some x =>
      have ks := putK_old (kvs := acc) kv.2 (by rw [hv]; simp)
      have nod : ((putK acc kv.1 kv.2).map (·.1)).Nodup := by rw [ks]; exact h
      have lz : (putK acc kv.1 kv.2).length = acc.length := by
        have := congrArg List.length ks
        rwa [List.length_map, List.length_map] at this
      obtain ⟨i1, _⟩ := merge_len (kvs := kvs) nod
      rw [lz] at i1
      exact ⟨by omega, fun e => by omega⟩
end Ver
namespace K10
open PySem PySem.Spec PyProof.Rows L2 Ver
/-! ### signatures turned about -/
theorem KindsOk.rev {ks : List Str} (h : KindsOk ks) : KindsOk ks.reverse := kinds_rev h
theorem PrimsOk.krev {ks : List Str} {ps : Prims} (h : PrimsOk ks ps) : PrimsOk ks.reverse ps :=
  ⟨h.names, h.word, h.vnames, h.vword, fun p hp r hr => ⟨(h.own p hp r hr).1, fun w hw => List.mem_reverse.mpr ((h.own p hp r hr).2.1 w hw), (h.own p hp r hr).2.2.imp id fun z => List.mem_reverse.mpr z⟩, h.owns, h.few, h.fewP⟩
def turn (ps : Prims) : Prims := ps.map fun p => (p.1, p.2.reverse)
theorem own_turn : ∀ ps : Prims, ((ownersOf (turn ps)).map Prod.fst).Perm ((ownersOf ps).map Prod.fst)
  | [] => List.Perm.refl _
  | p :: ps => by
    have e1 : ownersOf (turn (p :: ps)) = (p.2.reverse.map fun r => (r.1, (p.1, r.2.1, r.2.2))) ++ ownersOf (turn ps) := rfl
    have e2 : ownersOf (p :: ps) = (p.2.map fun r => (r.1, (p.1, r.2.1, r.2.2))) ++ ownersOf ps := rfl
    rw [e1, e2, List.map_append, List.map_append]
    exact (((List.reverse_perm p.2).map _).map _).append (own_turn ps)
theorem PrimsOk.turn {ks : List Str} {ps : Prims} (h : PrimsOk ks ps) : PrimsOk ks (turn ps) := by
  have un : ∀ p ∈ K10.turn ps, ∃ q ∈ ps, p = (q.1, q.2.reverse) := fun p hp => by
    obtain ⟨q, hq, e⟩ := List.mem_map.mp hp
    exact ⟨q, hq, e.symm⟩
  refine ⟨?_, fun p hp => ?_, (own_turn ps).nodup_iff.mpr h.vnames, fun p hp r hr => ?_, fun p hp r hr => ?_, fun p hp => ?_, ?_, ?_⟩
  · have : (K10.turn ps).map Prod.fst = ps.map Prod.fst := by
      unfold K10.turn
      rw [List.map_map]
      rfl
    rw [this]
    exact h.names
  · obtain ⟨q, hq, rfl⟩ := un p hp
    exact h.word q hq
  · obtain ⟨q, hq, rfl⟩ := un p hp
    exact h.vword q hq r (List.mem_reverse.mp hr)
  · obtain ⟨q, hq, rfl⟩ := un p hp
    exact h.own q hq r (List.mem_reverse.mp hr)
  · obtain ⟨q, hq, rfl⟩ := un p hp
    show (q.2.reverse.map _).Nodup
    rw [List.map_reverse]
    exact List.pairwise_reverse.mpr ((h.owns q hq).imp fun z => z.symm)
  · have := (own_turn ps).length_eq
    rw [List.length_map, List.length_map] at this
    rw [this]
    exact h.few
  · show (ps.map _).length ≤ 100
    rw [List.length_map]
    exact h.fewP
theorem own_rev (ps : Prims) : ((ownersOf ps.reverse).map Prod.fst).Perm ((ownersOf ps).map Prod.fst) := by
  unfold ownersOf
  exact ((List.reverse_perm ps).flatMap_right _).map _
theorem PrimsOk.rev {ks : List Str} {ps : Prims} (h : PrimsOk ks ps) : PrimsOk ks ps.reverse := by
  refine ⟨?_, fun p hp => h.word p (List.mem_reverse.mp hp), (own_rev ps).nodup_iff.mpr h.vnames, fun p hp => h.vword p (List.mem_reverse.mp hp), fun p hp => h.own p (List.mem_reverse.mp hp), fun p hp => h.owns p (List.mem_reverse.mp hp), ?_, ?_⟩
  · rw [List.map_reverse]
    exact List.pairwise_reverse.mpr (h.names.imp fun z => z.symm)
  · have := (own_rev ps).length_eq
    rw [List.length_map, List.length_map] at this
    rw [this]
    exact h.few
  · rw [List.length_reverse]
    exact h.fewP
theorem rev_short {α β : Type} {f : α → β} {l : List α} (nd : (l.map f).Nodup) (e : l = l.reverse) : l.length ≤ 1 := by
  match l, nd, e with
  | [], _, _ => exact Nat.zero_le _
  | [_], _, _ => exact Nat.le_refl _
  | x :: y :: r, nd, e =>
    exfalso
    have h0 : (x :: y :: r)[0]? = some x := rfl
    rw [e, List.getElem?_reverse (by simp)] at h0
    have hl : (x :: y :: r)[(y :: r).length]? = some x := h0
    have nd' : ((x :: y :: r).map f).Nodup := nd
    have m : x ∈ y :: r := by
      have : (x :: y :: r)[r.length + 1]? = some x := hl
      rw [List.getElem?_cons_succ] at this
      exact List.mem_of_getElem? this
    rw [List.map_cons, List.nodup_cons] at nd'
    exact nd'.1 (List.mem_map.mpr ⟨x, m, rfl⟩)
theorem short_rev {α : Type} {l : List α} (h : l.length ≤ 1) : l = l.reverse := by
  match l, h with
  | [], _ => rfl
  | [_], _ => rfl
theorem rows_nod {ks : List Str} {ps : Prims} (h : PrimsOk ks ps) : ∀ p ∈ ps, (p.2.map (·.2.1)).Nodup := fun p hp => h.owns p hp
theorem turn_same {ks : List Str} {ps : Prims} (h : PrimsOk ks ps) : decide (ks = ks ∧ ps = turn ps) = ps.all fun p => decide (p.2.length ≤ 1) := by
  rw [Bool.eq_iff_iff, decide_eq_true_eq, List.all_eq_true]
  constructor
  · rintro ⟨_, e⟩ p hp
    rw [decide_eq_true_eq]
    obtain ⟨i, hi, ei⟩ := List.getElem_of_mem hp
    have e2 : ps[i]? = (turn ps)[i]? := congrArg (fun l => l[i]?) e
    rw [List.getElem?_eq_getElem hi, ei] at e2
    unfold turn at e2
    rw [List.getElem?_map, List.getElem?_eq_getElem hi, ei] at e2
    have e3 : p = (p.1, p.2.reverse) := Option.some.inj e2
    exact rev_short (h.owns p hp) (congrArg Prod.snd e3)
  · intro hs
    refine ⟨rfl, ?_⟩
    unfold turn
    conv => lhs; rw [← List.map_id ps]
    refine List.map_congr_left fun p hp => ?_
    have := hs p hp
    rw [decide_eq_true_eq] at this
    exact Prod.ext rfl (short_rev this)
/-! ### rows as data -/
def pD (p : Str × List Row) : PyData := .tuple [.str p.1, .list (p.2.map rowD)]
theorem pD_depth (p : Str × List Row) : (pD p).depth ≤ 4 := by
  show max (PyData.depth (.str p.1)) (max (PyData.depthAll (p.2.map rowD) + 1) 0) + 1 ≤ 4
  have := rows_depth p.2
  have e : PyData.depth (.str p.1) = 0 := rfl
  rw [e]
  omega
theorem pDs_depth : ∀ ps : Prims, PyData.depthAll (ps.map pD) ≤ 4
  | [] => Nat.zero_le _
  | p :: ps => by
    show max (pD p).depth (PyData.depthAll (ps.map pD)) ≤ 4
    have := pDs_depth ps
    have := pD_depth p
    omega
theorem pDl_depth (ps : Prims) : (PyData.list (ps.map pD)).depth ≤ 60 := by
  show PyData.depthAll (ps.map pD) + 1 ≤ 60
  have := pDs_depth ps
  omega
theorem eqv_pD (p q : Str × List Row) : PyData.eqv (pD p) (pD q) = decide (p = q) := by
  show ((p.1 == q.1) && (PyData.eqvAll (p.2.map rowD) (q.2.map rowD) && true)) = _
  rw [eqv_rows, Bool.eq_iff_iff]
  simp only [Bool.and_eq_true, beq_iff_eq, decide_eq_true_eq, and_true]
  exact ⟨fun ⟨a, b⟩ => Prod.ext a b, fun e => e ▸ ⟨rfl, rfl⟩⟩
theorem eqv_pDs : ∀ ps qs : Prims, PyData.eqv (.list (ps.map pD)) (.list (qs.map pD)) = decide (ps = qs)
  | [], [] => rfl
  | [], _ :: _ => rfl
  | _ :: _, [] => rfl
  | r :: rows, q :: qs => by
    show (PyData.eqv (pD r) (pD q) && PyData.eqv (.list (rows.map pD)) (.list (qs.map pD))) = _
    rw [eqv_pD, eqv_pDs rows qs, Bool.eq_iff_iff]
    simp
theorem dps_pairs {K : PySem.W.Frag} {N : Addr → Prop} {H : Hp} : ∀ {as : List Addr} {ps : Prims}, GPairs N H as ps → DpAll K H (as.map V.ref) (ps.map pD)
  | _, _, .nil => .nil
  | _, _, .cons ⟨l, xs, h1, h2, h3, h4⟩ r => .cons (.tup (SqT.of h1) (.cons (.str _) (.cons (.lst (SqL.of h2) (dps_rowsR h3)) .nil))) (dps_pairs r)
theorem dp_pairs {K : PySem.W.Frag} {N : Addr → Prop} {H : Hp} {r : Addr} {as : List Addr} {ps : Prims} (h : H r = some (.lst (as.map V.ref))) (g : GPairs N H as ps) : Dp K H (.ref r) (.list (ps.map pD)) := .lst (SqL.of h) (dps_pairs g)
/-! ### a signature, made -/
theorem sig_made {C CN CT CV : Addr} {H1 : Hp} {Q : VK} {E : XK} {bk bv : Bool} {a d : Addr} {ks : List Str} {kvs : List (Key × V)} {ps : Prims} (ha : SqH bk H1 a (ks.map V.str)) (hd : H1 d = some (.dK kvs)) (hp : BPEnts bv H1 kvs (emb ps)) (okK : KindsOk ks) (okP : PrimsOk ks ps)
    (q : ∀ g H', Same H1 H' → H1 g = none → (∀ N : Addr → Prop, (∀ a, H1 a = none → ¬ N a) → SigAt N H' C g ks ps) → Q (.ref g) H') :
    ∀ y dx, H1 y = none → H1 dx = none → dx ≠ y → spSigInit C CN CT CV (.ref y :: ([.ref a, .ref d] ++ [])) (upd (upd H1 dx (.own y)) y (.ins C dx [])) (fun v H2 => v = .non ∧ Q (.ref y) H2) E := by
  intro x dx nx ndx ne
  have s1 : Same H1 (upd (upd H1 dx (.own x)) x (.ins C dx [])) := (same_new ndx).trans (same_new (by rw [upd_ne ne.symm]; exact nx))
  have x1 : upd (upd H1 dx (.own x)) x (.ins C dx []) x = some (.ins C dx []) := upd_same
  generalize upd (upd H1 dx (.own x)) x (.ins C dx []) = H2 at s1 x1
  refine ⟨bk, bv, x, dx, a, d, ks, kvs, emb ps, rfl, x1, s1 _ _ ha, okK.short, s1 _ _ hd, hp.std (Std.of s1), emb_tells okP, ?_⟩
  rw [due_emb okK okP, un_emb]
  intro H' dx' ka ow pr es kvs' back eg eka eow hes epr hpr now npr
  have sb : Same H1 H' := fun b o e => back b o (ne_of_none e nx) (s1 _ _ e)
  exact ⟨rfl, q x H' sb nx fun N hN => ⟨dx', ka, ow, pr, es, kvs', eg, eka, eow, hes, epr, hpr, hN _ nx, hN _ (s1.free now), hN _ (s1.free npr)⟩⟩
/-- pairs of names and lists (or tuples) of rows, for dict(..) -/
def PLs (b : Bool) (H : Hp) (as : List Addr) (ps : BPrims) : Prop := Paired (fun a (p : Str × List BRow) => ∃ l xs, H a = some (.tup [.str p.1, .ref l]) ∧ SqH b H l (xs.map V.ref) ∧ BRowsAt H xs p.2) as ps
theorem pls_same {b : Bool} {H H' : Hp} (s : Same H H') {as : List Addr} {ps : BPrims} (h : PLs b H as ps) : PLs b H' as ps := Paired.imp (fun _ _ ⟨l, xs, h1, h2, h3⟩ => ⟨l, xs, s _ _ h1, SqH.std (Std.of s) h2, BRowsAt.std (Std.of s) h3⟩) h
theorem pls_dict {b : Bool} {K : PySem.W.Frag} {H : Hp} : ∀ {as : List Addr} {ps : BPrims}, PLs b H as ps → ∃ kvs, Paired (fun p kv => SqT K H p [kV kv.1, kv.2]) as kvs ∧ BPEnts b H kvs ps
  | _, _, .nil => ⟨[], .nil, .nil⟩
  | a :: as, p :: ps, .cons ⟨l, xs, h1, h2, h3⟩ r => by
    obtain ⟨kvs, g1, g2⟩ := pls_dict r
    exact ⟨(Sum.inr p.1, .ref l) :: kvs, .cons (SqT.of h1) g1, .cons ⟨rfl, l, xs, rfl, h2, h3⟩ g2⟩
/-- right rows, as the law holds them -/
theorem due_right {ks : List Str} {ps : BPrims} (h : dueOf ks ps = none) (t : ∀ k ∈ ks, TellOk (.str k)) (few : ks.length ≤ 100) (tl : Tells ps) : KindsOk ks ∧ PrimsOk ks (unP ps) ∧ (∀ p ∈ ps, ∀ r ∈ p.2, r.2.1.1 = true) := by
  rw [due_split] at h
  cases hk : kindsDue ks with
  | some e =>
    rw [hk] at h
    cases h
  | none =>
    rw [hk] at h
    have h' : primsDue ks [] ps = none := h
    refine ⟨kinds_none hk t few, prims_ok h' tl, fun p hp r hr => ?_⟩
    have := ((prims_none h').1 p hp).2.2 r hr
    have kb := this.2
    unfold knownB at kb
    rw [Bool.and_eq_true] at kb
    exact kb.1
theorem g_of_b {N : Addr → Prop} {H : Hp} : ∀ {as : List Addr} {ps : BPrims}, Paired (BPairN N H) as ps → (∀ p ∈ ps, ∀ r ∈ p.2, r.2.1.1 = true) → GPairs N H as (unP ps)
  | _, _, .nil, _ => .nil
  | _, _, .cons (b := p) ⟨l, xs, h1, h2, h3, h4⟩ r, tl => .cons ⟨l, xs, h1, h2, rows_un (Paired.imp (fun _ _ z => z.at) h3) (tl p (.head _)), h4⟩ (g_of_b r fun q hq => tl q (.tail _ hq))
theorem emb_un {ps : BPrims} (tl : ∀ p ∈ ps, ∀ r ∈ p.2, r.2.1.1 = true) : emb (unP ps) = ps := by
  unfold emb unP
  rw [List.map_map]
  conv => rhs; rw [← List.map_id ps]
  refine List.map_congr_left fun p hp => ?_
  show (p.1, (p.2.map unR).map emR) = p
  rw [List.map_map]
  refine Prod.ext rfl ?_
  show p.2.map (emR ∘ unR) = p.2
  conv => rhs; rw [← List.map_id p.2]
  refine List.map_congr_left fun r hr => ?_
  have := tl p hp r hr
  show (r.1, (true, r.2.1.2), r.2.2) = r
  exact Prod.ext rfl (Prod.ext (Prod.ext this.symm rfl) rfl)
end K10
/-! K10, 19: the law -/
namespace K10
open PySem PySem.Spec PyProof.Rows L2 Ver
abbrev sLaw : Stmt := top 35
abbrev nLw : List Str := ["script", "source", "lap", "base", "kinds", "rows", "turn", "due", "handed", "told_v", "is_base", "other", "turned", "name", "variants", "row"]
def spBentE : Sp := fun vs H Q E => ∃ i : {x : Nat × Nat // 1 ≤ x.2 ∧ x.2 ≤ 100 ∧ x.1 ≤ 2}, spBent i.1.1 i.1.2 vs H Q E
structure Env (P : Program) (w : World) (K : PySem.W.Frag) (mg : Str → Option Value) (base : Heap) (C CN CT CV fS fP fG fB fD fT fR fI fE : Addr) (qS qP qG qB qD qT qR qI qE : FuncData) : Prop where
  gS : FnOk P w K mg base CX0 1 fS qS ["script"] (spSource K)
  dS : Def K mg "_law_source" fS
  bS : Binds K qS ["script"] []
  gP : FnOk P w K mg base CX0 1 fP qP ["source", "many"] spPick
  dP : Def K mg "_law_pick" fP
  bP : Binds K qP ["source", "many"] []
  gG : FnOk P w K mg base CX0 7 fG qG ["source"] (spLSig C)
  dG : Def K mg "_law_signature" fG
  bG : Binds K qG ["source"] []
  gB : FnOk P w K mg base CX0 4 fB qB ["source", "kinds", "rows"] spBentE
  dB : Def K mg "_law_bent" fB
  bB : Binds K qB ["source", "kinds", "rows"] []
  gD : FnOk P w K mg base CX0 2 fD qD ["kinds", "rows"] spDue
  dD : Def K mg "_law_due" fD
  bD : Binds K qD ["kinds", "rows"] []
  gT : FnOk P w K mg base CX0 7 fT qT ["kinds", "rows"] (spLTold C)
  dT : Def K mg "_law_told" fT
  bT : Binds K qT ["kinds", "rows"] []
  gR : FnQ P w K mg base CX0 7 fR qR ["source", "ground", "kinds", "rows"] (spRight C)
  dR : Def K mg "_law_right" fR
  bR : Binds K qR ["source", "ground", "kinds", "rows"] []
  M : Mk K C fI
  gI : FnOk P w K mg base (L2.CX P w) 5 fI qI ["self", "kinds", "primitives"] (spSigInit C CN CT CV)
  bI : Binds K qI ["self", "kinds", "primitives"] []
  gC : mg "Signature" = some (.ref C)
  gE : FnOk P w K mg base CX0 1 fE qE ["self", "other"] (spEqS C)
  bE : Binds K qE ["self", "other"] []
  eC : EqC K C fE
  iC : IsC K C
  sC : SigC K C
  T : GlobS mg
  Tx : Txt mg
  dict : mg "dict" = none
def spLaw (K : PySem.W.Frag) : Sp := fun vs H Q _ => ∃ (a : Addr) (ns : List Int), vs = [.ref a] ∧ SqL K H a (ns.map V.int) ∧ ns.length ≤ 63 ∧ ∀ H', Q (.bl true) H'
theorem rows_n {N : Addr → Prop} {H : Hp} (hN : ∀ t xs, H t = some (.tup xs) → ¬ N t) : ∀ {rs : List Addr} {rows : List Row}, RowsAt H rs rows → Paired (BRowN N H) rs (rows.map emR)
  | _, _, .nil => .nil
  | _, _, .cons ⟨o, h1, h2⟩ t => .cons ⟨o, h1, h2, hN _ _ h2⟩ (rows_n hN t)
theorem BPairN.narrow {N N' : Addr → Prop} {H : Hp} (h : ∀ a, N' a → N a) {a : Addr} {p : Str × List BRow} : BPairN N H a p → BPairN N' H a p := fun ⟨l, as, h1, h2, h3, h4⟩ => ⟨l, as, h1, h2, Paired.imp (fun _ _ ⟨o, u1, u2, u3⟩ => ⟨o, u1, u2, fun z => u3 (h _ z)⟩) h3, fun z => h4 (h _ z)⟩
theorem brow_wide {N : Addr → Prop} {H : Hp} {x : Addr} (n : H x = none) {r : Addr} {row : BRow} : BRowN N H r row → BRowN (Or1 N x) H r row := fun ⟨o, h1, h2, h3⟩ => ⟨o, h1, h2, fun z => z.elim h3 (ne_of_none h2 n)⟩
/-- a primitive with a list that is newer than Z -/
def BPairF (Z : Hp) (N : Addr → Prop) (H : Hp) (a : Addr) (p : Str × List BRow) : Prop := ∃ l as, H a = some (.tup [.str p.1, .ref l]) ∧ H l = some (.lst (as.map V.ref)) ∧ Paired (BRowN N H) as p.2 ∧ ¬ N l ∧ Z l = none
theorem BPairF.keep {Z : Hp} {N : Addr → Prop} {H H' : Hp} (k : Keep N H H') (t : Tups H H') {a : Addr} {p : Str × List BRow} : BPairF Z N H a p → BPairF Z N H' a p := fun ⟨l, as, h1, h2, h3, h4, h5⟩ => ⟨l, as, t _ _ h1, k _ _ h2 h4, brows_keep k t h3, h4, h5⟩
def EntF (Z H : Hp) (kv : Key × V) (p : Str × List BRow) : Prop := kv.1 = .inr p.1 ∧ ∃ (l : Addr) (xs : List Addr), kv.2 = .ref l ∧ H l = some (.lst (xs.map V.ref)) ∧ xs.length = p.2.length ∧ Z l = none
theorem plf_dict {K : PySem.W.Frag} {Z H : Hp} {N : Addr → Prop} : ∀ {as : List Addr} {ps : BPrims}, Paired (BPairF Z N H) as ps → ∃ kvs, Paired (fun p kv => SqT K H p [kV kv.1, kv.2]) as kvs ∧ BPEnts false H kvs ps ∧ Paired (EntF Z H) kvs ps
  | _, _, .nil => ⟨[], .nil, .nil, .nil⟩
  | a :: as, p :: ps, .cons ⟨l, xs, h1, h2, h3, h4, h5⟩ r => by
    obtain ⟨kvs, g1, g2, g3⟩ := plf_dict (K := K) r
    exact ⟨(Sum.inr p.1, .ref l) :: kvs, .cons (SqT.of h1) g1, .cons ⟨rfl, l, xs, rfl, h2, Paired.imp (fun _ _ z => z.at) h3⟩ g2, .cons ⟨rfl, l, xs, rfl, h2, Paired.length h3, h5⟩ g3⟩
/-- what is older than Z is not among what is named -/
theorem LS.to {N N' : Addr → Prop} {H : Hp} (h : ∀ a, N' a → N a ∨ H a = none) {a r : Addr} {ks : List Str} {ps : BPrims} : LS N H a r ks ps → LS N' H a r ks ps := fun ⟨as, h1, h2, h3, h4, h5⟩ =>
  have no : ∀ {b : Addr} {o : HO}, H b = some o → ¬ N b → ¬ N' b := fun e n z => (h _ z).elim n fun w => by rw [e] at w; cases w
  ⟨as, h1, no h1 h2, h3, no h3 h4, Paired.imp (fun _ _ ⟨l, bs, u1, u2, u3, u4⟩ => ⟨l, bs, u1, u2, Paired.imp (fun _ _ ⟨o, w1, w2, w3⟩ => ⟨o, w1, w2, no w2 w3⟩) u3, no u2 u4⟩) h5⟩
theorem GroundAt.to {N N' : Addr → Prop} {H : Hp} (h : ∀ a, N' a → N a ∨ H a = none) {C gr : Addr} {ks : List Str} {ps : Prims} : GroundAt N H C gr ks ps → GroundAt N' H C gr ks ps := fun ⟨l, f, g, as, h1, h2, h3, h4, h5, n1, n2, n3⟩ =>
  have no : ∀ {b : Addr} {o : HO}, H b = some o → ¬ N b → ¬ N' b := fun e n z => (h _ z).elim n fun w => by rw [e] at w; cases w
  ⟨l, f, g, as, h1, h2, h3, Paired.imp (fun _ _ ⟨l, bs, u1, u2, u3, u4⟩ => ⟨l, bs, u1, u2, u3, no u2 u4⟩) h4, by
    obtain ⟨dx, ka, ow, pr, es, kvs, w1, w2, w3, w4, w5, w6, m1, m2, m3⟩ := h5
    exact ⟨dx, ka, ow, pr, es, kvs, w1, w2, w3, w4, w5, w6, no w1 m1, no w3 m2, no w5 m3⟩, no h1 n1, no h2 n2, no h3 n3⟩
theorem pls_of {N : Addr → Prop} {H : Hp} {as : List Addr} {ps : BPrims} (h : Paired (BPairN N H) as ps) : PLs false H as ps := Paired.imp (fun _ _ ⟨l, xs, h1, h2, h3, _⟩ => ⟨l, xs, h1, h2, Paired.imp (fun _ _ z => z.at) h3⟩) h
def emR' (q : Str × List Row) : Str × List BRow := (q.1, q.2.map emR)
theorem shape0 {ks : List Str} {ps : Prims} {i : Nat} (okK : KindsOk ks) (z : ("zz" : Str) ∉ ks) (kn : ks ≠ [] ∧ ks.length ≤ 3) (i1 : 1 ≤ i) (i3 : i ≤ 3) (d : Drawn ks ps i) : Shape 0 2 ks (emb ps) := by
  have okP := d.ok i3
  have lp : ps.length = i := by
    have := congrArg List.length d.names
    rw [List.length_map, List.length_take] at this
    have e : base3.length = 3 := rfl
    omega
  have un : ∀ p ∈ emb ps, ∃ q ∈ ps, p = (q.1, q.2.map emR) := fun p hp => by
    obtain ⟨q, hq, e⟩ := List.mem_map.mp hp
    exact ⟨q, hq, e.symm⟩
  refine ⟨kn.1, z, okK.short, by omega, fun e => ?_, by show (ps.map _).length ≤ 3; rw [List.length_map]; omega, fun p hp => ?_, fun p hp r hr => ?_, ?_⟩
  · have : (ps.map fun p => (p.1, p.2.map emR)) = [] := e
    rw [List.map_eq_nil_iff] at this
    rw [this] at lp
    have e0 : ([] : Prims).length = 0 := rfl
    omega
  · obtain ⟨q, hq, rfl⟩ := un p hp
    exact (okP.word q hq).2
  · obtain ⟨q, hq, rfl⟩ := un p hp
    obtain ⟨x, hx, rfl⟩ := List.mem_map.mp hr
    have := (okP.own q hq x hx).1
    exact ⟨(okP.vword q hq x hx).2, by show x.2.1.length ≤ 2; omega⟩
  · rw [← names_own, un_emb, List.length_map]
    have := d.few
    omega
def DueV (H : Hp) (dv : V) : Option Due → Prop
  | none => dv = .non
  | some e => ∃ L, dv = .ref L ∧ H L = some (.lst [.str (dueW e.1), .str e.2])
/-- what is due -/
def tDueS : TS := fun D σ H => ∃ (N : Addr → Prop) (k1 r1 : Addr) (ks : List Str) (as : List Addr) (ps : BPrims), AtS σ 4 (.ref k1) ∧ AtS σ 5 (.ref r1) ∧ H k1 = some (.lst (ks.map V.str)) ∧ H r1 = some (.lst (as.map V.ref)) ∧ BPairs N H as ps ∧ (∀ k ∈ ks, TellOk (.str k)) ∧ ks.length ≤ 900 ∧ Lim ps ∧
  ∀ dv H', Same H H' → DueV H' dv (dueOf ks ps) → D.nx (σ.set 7 (some dv)) H'
/-- is it what was drawn -/
def tBaseS : TS := fun D σ H => ∃ (N N' : Addr → Prop) (k1 r1 gr l f m : Addr) (ks ks0 : List Str) (as as0 : List Addr) (ps ps0 : Prims), AtS σ 3 (.ref gr) ∧ AtS σ 4 (.ref k1) ∧ AtS σ 5 (.ref r1) ∧ H gr = some (.dK (grD l f m)) ∧ H l = some (.lst (ks0.map V.str)) ∧ H f = some (.lst (as0.map V.ref)) ∧ GPairs N' H as0 ps0 ∧
  H k1 = some (.lst (ks.map V.str)) ∧ H r1 = some (.lst (as.map V.ref)) ∧ GPairs N H as ps ∧ D.nx (σ.set 10 (some (.bl (decide (ks = ks0 ∧ ps = ps0))))) H
theorem strs_eqv (l m : List Str) : PyData.eqv (.list (l.map .str)) (.list (m.map .str)) = decide (l = m) := by
  show PyData.eqvAll (l.map .str) (m.map .str) = _
  rw [eqv_strs]
theorem sig_made1 {C CN CT CV : Addr} {H1 : Hp} {R : Hp → Prop} {E : XK} {bk bv : Bool} {a d y dx : Addr} {ks : List Str} {kvs : List (Key × V)} {ps : Prims} (ny : H1 y = none) (ndx : H1 dx = none) (ne : dx ≠ y) (ha : SqH bk H1 a (ks.map V.str)) (hd : H1 d = some (.dK kvs)) (hp : BPEnts bv H1 kvs (emb ps)) (okK : KindsOk ks) (okP : PrimsOk ks ps)
    (q : ∀ H', Same H1 H' → (∀ N : Addr → Prop, (∀ a, H1 a = none → ¬ N a) → SigAt N H' C y ks ps) → R H') : spSigInit C CN CT CV [.ref y, .ref a, .ref d] (upd (upd H1 dx (.own y)) y (.ins C dx [])) (fun v H2 => v = .non ∧ R H2) E := by
  have s1 : Same H1 (upd (upd H1 dx (.own y)) y (.ins C dx [])) := (same_new ndx).trans (same_new (by rw [upd_ne ne.symm]; exact ny))
  have x1 : upd (upd H1 dx (.own y)) y (.ins C dx []) y = some (.ins C dx []) := upd_same
  generalize upd (upd H1 dx (.own y)) y (.ins C dx []) = H2 at s1 x1
  refine ⟨bk, bv, y, dx, a, d, ks, kvs, emb ps, rfl, x1, s1 _ _ ha, okK.short, s1 _ _ hd, hp.std (Std.of s1), emb_tells okP, ?_⟩
  rw [due_emb okK okP, un_emb]
  intro H' dx' ka ow pr es kvs' back eg eka eow hes epr hpr now npr
  have sb : Same H1 H' := fun b o e => back b o (ne_of_none e ny) (s1 _ _ e)
  exact ⟨rfl, q H' sb fun N hN => ⟨dx', ka, ow, pr, es, kvs', eg, eka, eow, hes, epr, hpr, hN _ ny, hN _ (s1.free now), hN _ (s1.free npr)⟩⟩
def PTs (H : Hp) (as : List Addr) (ps : Prims) : Prop := Paired (fun a (p : Str × List Row) => ∃ (l : Addr) (xs : List Addr), H a = some (.tup [.str p.1, .ref l]) ∧ H l = some (.tup (xs.map V.ref)) ∧ RowsAt H xs p.2) as ps
theorem pts_tups {H H' : Hp} (t : Tups H H') {as : List Addr} {ps : Prims} (h : PTs H as ps) : PTs H' as ps := Paired.imp (fun _ _ ⟨l, xs, h1, h2, h3⟩ => ⟨l, xs, t _ _ h1, t _ _ h2, h3.tups t⟩) h
theorem pls_pts {H : Hp} : ∀ {as : List Addr} {ps : Prims}, PTs H as ps → PLs true H as (emb ps)
  | _, _, .nil => .nil
  | _, _, .cons ⟨l, xs, h1, h2, h3⟩ r => .cons ⟨l, xs, h1, h2, emb_rows h3⟩ (pls_pts r)
theorem pls_g {N : Addr → Prop} {H : Hp} : ∀ {as : List Addr} {ps : Prims}, GPairs N H as ps → PLs false H as (emb ps)
  | _, _, .nil => .nil
  | _, _, .cons ⟨l, xs, h1, h2, h3, _⟩ r => .cons ⟨l, xs, h1, h2, emb_rows h3⟩ (pls_g r)
theorem dict_of {b : Bool} {K : PySem.W.Frag} {H : Hp} {as : List Addr} {ps : Prims} (nod : (ps.map Prod.fst).Nodup) (h : PLs b H as (emb ps)) : ∃ kvs, Paired (fun p kv => SqT K H p [kV kv.1, kv.2]) as kvs ∧ BPEnts b H kvs (emb ps) ∧ mergeK [] kvs = kvs := by
  obtain ⟨kvs, h1, h2⟩ := pls_dict (K := K) h
  refine ⟨kvs, h1, h2, ?_⟩
  have nk : ((([] : List (Key × V)) ++ kvs).map (·.1)).Nodup := by
    rw [List.nil_append, bpents_keys h2]
    have := nod_inr nod
    unfold emb
    rw [List.map_map] at this ⊢
    exact this
  rw [merge_nod nk, List.nil_append]
theorem Paired.rev {α β : Type} {R : α → β → Prop} : ∀ {as : List α} {bs : List β}, Paired R as bs → Paired R as.reverse bs.reverse
  | _, _, .nil => .nil
  | _, _, .cons h t => by
    rw [List.reverse_cons, List.reverse_cons]
    exact Paired.snoc (Paired.rev t) h
theorem DueV.same {H H' : Hp} (s : Same H H') {dv : V} : ∀ {o : Option Due}, DueV H dv o → DueV H' dv o
  | none, h => h
  | some e, ⟨L, h1, h2⟩ => ⟨L, h1, s _ _ h2⟩
theorem Shape.lim {t m : Nat} {ks : List Str} {ps : BPrims} (s : Shape t m ks ps) (h : m ≤ 1000) (h2 : t ≤ 2) : Lim ps := ⟨s.pt, fun p hp r hr => ⟨(s.rt p hp r hr).1, by have := (s.rt p hp r hr).2; omega⟩, by have := s.few; omega, by have := s.pf; omega⟩
theorem Shape.tells {t m : Nat} {ks : List Str} {ps : BPrims} (s : Shape t m ks ps) (h : m ≤ 1000) (h2 : t ≤ 2) (nd : (ps.map Prod.fst).Nodup) : Tells ps := ⟨nd, s.pt, fun p hp r hr => ⟨(s.rt p hp r hr).1, by have := (s.rt p hp r hr).2; omega⟩, by
  have := congrArg List.length (names_own ps)
  rw [List.length_map] at this
  have := s.few
  omega, by have := s.pf; omega⟩
theorem b_of_n {N : Addr → Prop} {H : Hp} {as : List Addr} {ps : BPrims} (h : Paired (BPairN N H) as ps) : BPairs N H as ps := Paired.imp (fun _ _ ⟨l, as, h1, h2, h3, h4⟩ => ⟨l, as, h1, h2, Paired.imp (fun _ _ z => z.at) h3, h4⟩) h
section
variable {P : Program} {w : World} {K : PySem.W.Frag} {mg : Str → Option Value} {base : Heap} {C CN CT CV fS fP fG fB fD fT fR fI fE : Addr} {qS qP qG qB qD qT qR qI qE : FuncData}
theorem scLw : FnScope nLw ["script"] (defScope sLaw) := ⟨rfl, rfl, rfl, by decide +kernel, rfl, by decide +kernel, by decide +kernel⟩
theorem ok_law {f : Addr} {fd : FuncData} (F : Fun K "law" "law" sLaw f fd) (Y : Env P w K mg base C CN CT CV fS fP fG fB fD fT fR fI fE qS qP qG qB qD qT qR qI qE) : FnQ P w K mg base CX0 8 f fd ["script"] (spLaw K) := by
  refine fnQ_ok F scLw (fun vs H Q E h => ?_) (fun cdv A outer s H vs Q E hg hr h => ?_)
  · obtain ⟨a, ns, rfl, _⟩ := h
    rfl
  · obtain ⟨a, ns, rfl, hS, hl, k⟩ := h
    have hu := hu_of hr
    have hq : (A.deeper (envOfC "law" (defScope sLaw) s.heap.objs.size f cdv)).guards = some [] := hg
    have hr1 : Room 1 (A.deeper (envOfC "law" (defScope sLaw) s.heap.objs.size f cdv)) := hr.mono (by decide)
    have hr2 : Room 2 (A.deeper (envOfC "law" (defScope sLaw) s.heap.objs.size f cdv)) := hr.mono (by decide)
    have hr4 : Room 4 (A.deeper (envOfC "law" (defScope sLaw) s.heap.objs.size f cdv)) := hr.mono (by decide)
    have hr6 : Room 6 (A.deeper (envOfC "law" (defScope sLaw) s.heap.objs.size f cdv)) := hr.mono (by decide)
    have GI := fnOk_calm Y.gI
    have hrn : Room 1 (A.deeper (envOfC "law" (defScope sLaw) s.heap.objs.size f cdv)).in1 := Room.in1 (hr.mono (by decide))
    refine ⟨_, pss_cons (ps_set (i := 1) scLw.nd rfl (.inl rfl) (pe_call Y.gS hr1 (by rfl) Y.dS.gl Y.dS.kp Y.bS .nil pass0 (pa_cons (pv 0) pa_nil)))
      (pss_cons (ps_for PassesOwn.never rfl (pi_range1 (by rfl) Y.Tx.range (pa_cons pe_int pa_nil)) (pg_name (i := 2) scLw.nd rfl (.inl rfl))
        (pss_cons (ps_set (i := 3) scLw.nd rfl (.inl rfl) (pe_call Y.gG hr (by rfl) Y.dG.gl Y.dG.kp Y.bG .nil pass0 (pa_cons (pv 1) pa_nil)))
        (pss_cons (ps_par (i := 4) (j := 5) rfl scLw.nd rfl rfl (by decide) rfl rfl (pa_cons (pe_callTy call_list_of (by rfl) Y.T.list (by decide +kernel) (pa_cons (pe_dget hu (pv 3) pe_str (fun _ _ => rfl)) pa_nil))
            (pa_cons (pe_lc (own := [("name", 13), ("variants", 14)]) (g := gTup K 2 (gCons (gName 13) (gCons (gName 14) gNil))) (tt := tYes) rfl scLw.nd (pi_list (pe_dget hu (pv 3) pe_str (fun _ _ => rfl))) (blkOk_by (N := nLw) (sc := defScope sLaw) (by decide +kernel))
              (fun _ _ _ _ _ => pg_tup (by rfl) (pgs_cons (pg_name (i := 13) scLw.nd rfl (.inl rfl)) (pgs_cons (pg_name (i := 14) scLw.nd rfl (.inl rfl)) pgs_nil))) (fun _ _ _ _ _ => pts_nil) (fun _ _ _ _ _ => pe_tup (pa_cons (pv 13) (pa_cons (pe_callTy (T := "list") (r := rLstA K) call_lstA (by rfl) Y.T.list (by decide +kernel) (pa_cons (pv 14) pa_nil)) pa_nil)))) pa_nil)) rfl)
        (pss_cons (ps_for PassesOwn.never rfl (pi_range1 (by rfl) Y.Tx.range (pa_cons (pe_call Y.gP hr1 (by rfl) Y.dP.gl Y.dP.kp Y.bP .nil pass0 (pa_cons (pv 1) (pa_cons pe_int pa_nil))) pa_nil)) (pg_name (i := 6) scLw.nd rfl (.inl rfl))
          (pss_one (ps_asg (pe_call Y.gB hr4 (by rfl) Y.dB.gl Y.dB.kp Y.bB .nil pass0 (pa_cons (pv 1) (pa_cons (pv 4) (pa_cons (pv 5) pa_nil)))) (pg_tup (by rfl) (pgs_cons (pg_name (i := 4) scLw.nd rfl (.inl rfl)) (pgs_cons (pg_name (i := 5) scLw.nd rfl (.inl rfl)) pgs_nil))))))
        (pss_cons (ps_w (t' := tDueS) (ps_set (i := 7) scLw.nd rfl (.inl rfl) (pe_call Y.gD hr2 (by rfl) Y.dD.gl Y.dD.kp Y.bD .nil pass0 (pa_cons (pv 4) (pa_cons (pv 5) pa_nil)))) ?due)
        (pss_cons (ps_set (i := 8) scLw.nd rfl (.inl rfl) (pe_lst (pa_cons (pe_callTy call_list_of (by rfl) Y.T.list (by decide +kernel) (pa_cons (pv 4) pa_nil)) (pa_cons (pe_callTy (call_dictP rfl) (by rfl) Y.dict (by decide +kernel) (pa_cons (pe_lc (own := [("name", 13), ("variants", 14)]) (g := gTup K 2 (gCons (gName 13) (gCons (gName 14) gNil))) (tt := tYes) rfl scLw.nd (pi_list (pv 5)) (blkOk_by (N := nLw) (sc := defScope sLaw) (by decide +kernel))
              (fun _ _ _ _ _ => pg_tup (by rfl) (pgs_cons (pg_name (i := 13) scLw.nd rfl (.inl rfl)) (pgs_cons (pg_name (i := 14) scLw.nd rfl (.inl rfl)) pgs_nil))) (fun _ _ _ _ _ => pts_nil) (fun _ _ _ _ _ => pe_tup (pa_cons (pv 13) (pa_cons (pe_callTy (T := "list") (r := rLstA K) call_lstA (by rfl) Y.T.list (by decide +kernel) (pa_cons (pv 14) pa_nil)) pa_nil)))) pa_nil)) pa_nil))))
        (pss_cons (ps_if (pt_cmpR op_ne (pe_callB call_lenD (by rfl) Y.T.len PySem.boot_len (pa_cons (pe_ix ix_list (pv 8) pe_int (fun _ _ => rfl)) pa_nil)) (pe_callB (r := rLen K) call_len_seq (by rfl) Y.T.len PySem.boot_len (pa_cons (pv 5) pa_nil)) (nomark _)) (pss_one ps_continue) pss_nil)
        (pss_cons (ps_set (i := 9) scLw.nd rfl (.inl rfl) (pe_call Y.gT hr (by rfl) Y.dT.gl Y.dT.kp Y.bT .nil pass0 (pa_cons (pe_ix ix_list (pv 8) pe_int (fun _ _ => rfl)) (pa_cons (pe_ix ix_list (pv 8) pe_int (fun _ _ => rfl)) pa_nil))))
        (pss_one (ps_if (pt_cmpR op_notN (pv 7) pe_non (nomark _))
          (pss_one (ps_if (pt_cmpR (r := rNeP K) (op_neP hr.units) (pv 9) (pv 7) (nomark _)) (pss_one (ps_ret pe_bl)) pss_nil))
          (pss_cons (ps_expr (pe_bm PySem.F.plainAttrs_list PySem.F.slot_list_append PySem.F.type_list_append mt_append (pe_ix ix_list (pv 8) pe_int (fun _ _ => rfl)) (pa_cons pe_str pa_nil)))
          (pss_cons (ps_expr (pe_bm PySem.F.plainAttrs_list PySem.F.slot_list_append PySem.F.type_list_append mt_append (pe_dget hu (pe_ix ix_list (pv 8) pe_int (fun _ _ => rfl)) (pe_ix (r := rIxT K) ix_tup (pe_ix ix_list (pv 5) pe_int (fun _ _ => rfl)) pe_int (fun _ _ => rfl)) (fun _ _ => rfl)) (pa_cons pe_str pa_nil)))
          (pss_cons (ps_dput hu (pe_ix ix_list (pv 8) pe_int (fun _ _ => rfl)) pe_str (pe_lst pa_nil) rfl)
          (pss_cons (ps_expr (pe_dpop1 (pe_ix ix_list (pv 8) pe_int (fun _ _ => rfl)) (pe_ix (r := rIxT K) ix_tup (pe_ix ix_list (pv 5) (pe_call Y.gP hr1 (by rfl) Y.dP.gl Y.dP.kp Y.bP .nil pass0 (pa_cons (pv 1) (pa_cons (pe_callB (r := rLen K) call_len_seq (by rfl) Y.T.len PySem.boot_len (pa_cons (pv 5) pa_nil)) pa_nil))) (fun _ _ => rfl)) pe_int (fun _ _ => rfl)) ⟨rfl, rfl, rfl, rfl⟩))
          (pss_cons (ps_if (PW.pt (pw_or (pt_val (pe_callB call_isi (by rfl) Y.T.isinstance (by decide +kernel) (pa_cons (pv 9) (pa_cons (pe_bltn (v := .ty "list") (by rfl) Y.T.list (by decide +kernel) rfl) pa_nil)))) (pw_or1 (pt_not (pt_val (pe_callQ hq Y.gR hr (by rfl) Y.dR.gl Y.dR.kp Y.bR .nil pass0 (pa_cons (pv 1) (pa_cons (pv 9) (pa_cons (pv 4) (pa_cons (pv 5) pa_nil)))))))))) (pss_one (ps_ret pe_bl)) pss_nil)
          (pss_cons (ps_w (t' := tBaseS) (ps_set (i := 10) scLw.nd rfl (.inl rfl) (pe_and (pe_cmpR (r := rEqP K) (op_eqP hr.units) (pv 4) (pe_dget hu (pv 3) pe_str (fun _ _ => rfl)) (nomark _)) (pe_one (pe_cmpR (r := rEqP K) (op_eqP hr.units) (pv 5) (pe_dget hu (pv 3) pe_str (fun _ _ => rfl)) (nomark _))))) ?base)
          (pss_cons (ps_set (i := 11) scLw.nd rfl (.inl rfl) (pe_make Y.M GI hr6 (by rfl) Y.gC Y.bI .nil pass0 (pa_cons (pe_callTy call_tupU (by rfl) Y.T.tuple (by decide +kernel) (pa_cons (pv 4) pa_nil)) (pa_cons (pe_callTy (call_dictP rfl) (by rfl) Y.dict (by decide +kernel) (pa_cons (pe_lc (own := [("name", 13), ("variants", 14)]) (g := gTup K 2 (gCons (gName 13) (gCons (gName 14) gNil))) (tt := tYes) rfl scLw.nd (pi_list (pv 5)) (blkOk_by (N := nLw) (sc := defScope sLaw) (by decide +kernel))
              (fun _ _ _ _ _ => pg_tup (by rfl) (pgs_cons (pg_name (i := 13) scLw.nd rfl (.inl rfl)) (pgs_cons (pg_name (i := 14) scLw.nd rfl (.inl rfl)) pgs_nil))) (fun _ _ _ _ _ => pts_nil) (fun _ _ _ _ _ => pe_tup (pa_cons (pv 13) (pa_cons (pe_callTy call_tupU (by rfl) Y.T.tuple (by decide +kernel) (pa_cons (pv 14) pa_nil)) pa_nil)))) pa_nil)) pa_nil))))
          (pss_cons (ps_if (PW.pt (pw_or (pt_cmpR (op_ownNe Y.gE Y.bE hrn Y.eC) (pv 11) (pv 9) (nomark _)) (pw_or1 (pt_not (pt_val (pe_callQ hq Y.gR hr (by rfl) Y.dR.gl Y.dR.kp Y.bR .nil pass0 (pa_cons (pv 1) (pa_cons (pv 11) (pa_cons (pv 4) (pa_cons (pv 5) pa_nil)))))))))) (pss_one (ps_ret pe_bl)) pss_nil)
          (pss_cons (ps_set (i := 12) scLw.nd rfl (.inl rfl) (pe_callTy (call_dictP rfl) (by rfl) Y.dict (by decide +kernel) (pa_cons (pe_lc (own := [("name", 13), ("variants", 14)]) (g := gTup K 2 (gCons (gName 13) (gCons (gName 14) gNil))) (tt := tYes) rfl scLw.nd (pi_list (pv 5)) (blkOk_by (N := nLw) (sc := defScope sLaw) (by decide +kernel))
              (fun _ _ _ _ _ => pg_tup (by rfl) (pgs_cons (pg_name (i := 13) scLw.nd rfl (.inl rfl)) (pgs_cons (pg_name (i := 14) scLw.nd rfl (.inl rfl)) pgs_nil))) (fun _ _ _ _ _ => pts_nil) (fun _ _ _ _ _ => pe_tup (pa_cons (pv 13) (pa_cons (pe_revLK (K := K) rfl (pv 14)) pa_nil)))) pa_nil)))
          (pss_cons (ps_if (pt_cmpR op_ne (pe_cmpR (op_ownEq Y.gE Y.bE hr1 Y.eC) (pv 9) (pe_make Y.M GI hr6 (by rfl) Y.gC Y.bI .nil pass0 (pa_cons (pv 4) (pa_cons (pv 12) pa_nil))) (nomark _))
              (pe_cmpR (op_nilEq hr.units0) (pe_lst pa_nil) (pe_lc (own := [("row", 15)]) (g := gName 15) rfl scLw.nd (pi_list (pv 5)) (blkOk_by (N := nLw) (sc := defScope sLaw) (by decide +kernel)) (fun _ _ _ _ _ => pg_name (i := 15) scLw.nd rfl (.inl rfl))
                (fun _ _ _ _ _ => pts_one (pt_cmpR op_gt (pe_callB (r := rLen K) call_len_seq (by rfl) Y.T.len PySem.boot_len (pa_cons (pe_ix (r := rIxT K) ix_tup (pv 15) pe_int (fun _ _ => rfl)) pa_nil)) pe_int (nomark _))) (fun _ _ _ _ _ => pv 15)) (nomark _)) (nomark _)) (pss_one (ps_ret pe_bl)) pss_nil)
          (pss_cons (ps_if (PW.pt (pw_or (pt_cmpR op_ne (pe_cmpR (op_ownEq Y.gE Y.bE hr1 Y.eC) (pv 9) (pe_make Y.M GI hr6 (by rfl) Y.gC Y.bI .nil pass0 (pa_cons (pe_revL (pv 4)) (pa_cons (pe_callTy (call_dictP rfl) (by rfl) Y.dict (by decide +kernel) (pa_cons (pv 5) pa_nil)) pa_nil))) (nomark _))
                (pe_cmpR (r := rEqP K) (op_eqP hr.units) (pv 4) (pe_revL (pv 4)) (nomark _)) (nomark _))
              (pw_or (pt_cmpR (op_ownEq Y.gE Y.bE hr1 Y.eC) (pv 9) pe_int (nomark _)) (pw_or1 (pt_cmpR op_ne (pe_cmpR (op_ownEq Y.gE Y.bE hr1 Y.eC) (pv 9) (pe_dget hu (pv 3) pe_str (fun _ _ => rfl)) (nomark _)) (pv 10) (nomark _)))))) (pss_one (ps_ret pe_bl)) pss_nil)
          (pss_cons (ps_set (i := 11) scLw.nd rfl (.inl rfl) (pe_make Y.M GI hr6 (by rfl) Y.gC Y.bI .nil pass0 (pa_cons (pv 4) (pa_cons (pe_callTy (call_dictP rfl) (by rfl) Y.dict (by decide +kernel) (pa_cons (pe_revL (pv 5)) pa_nil)) pa_nil))))
          (pss_one (ps_if (pt_cmpR op_ne (pe_cmpR (op_ownEq Y.gE Y.bE hr1 Y.eC) (pv 9) (pv 11) (nomark _)) (pe_cmpR (r := rEqP K) (op_eqP hr.units) (pv 5) (pe_revL (pv 5)) (nomark _)) (nomark _)) (pss_one (ps_ret pe_bl)) pss_nil))))))))))))))))))))))))
      (pss_one (ps_ret pe_bl))), ?_⟩
    case due =>
      rintro D σ H ⟨N, k1, r1, ks, as, ps, i4, i5, h1, h2, h3, h4, h5, h6, q⟩
      refine ⟨_, i4, _, i5, N, k1, r1, ks, as, ps, rfl, h1, h2, h3, h4, h5, h6, ?_⟩
      cases ed : dueOf ks ps with
      | none => exact fun H' s' => q .non H' s' (by rw [ed]; rfl)
      | some e => exact fun L H' s' _ eL => q (.ref L) H' s' (by rw [ed]; exact ⟨L, rfl, eL⟩)
    case base =>
      rintro D σ H ⟨N, N', k1, r1, gr, l, f, m, ks, ks0, as, as0, ps, ps0, i3, i4, i5, hgr, hl, hf, h0, hk, hr', h1, q⟩
      refine ⟨_, i4, _, i3, gr, .ref l, rfl, DGet.k (k := Sum.inr "kinds") hgr, _, _, dp_strs hk, dp_strs hl, strs_depth _, ?_⟩
      rw [strs_eqv]
      refine ⟨_, rfl, ?_⟩
      by_cases e : ks = ks0
      · rw [decide_eq_true e]
        refine ⟨_, i5, _, i3, gr, .ref f, rfl, DGet.k (k := Sum.inr "primitives") hgr, _, _, dp_pairs hr' h1, dp_pairs hf h0, pDl_depth _, ?_⟩
        rw [eqv_pDs]
        have : decide (ks = ks0 ∧ ps = ps0) = decide (ps = ps0) := by simp [e]
        rw [this] at q
        exact q
      · rw [decide_eq_false e]
        rw [decide_eq_false (fun z => e z.1)] at q
        exact q
    refine ⟨_, rfl, a, ns, rfl, hS, hl, fun p c H1 s1 np nc S1 => ?_⟩
    refine ⟨3, rfl, by decide, by decide, ?_⟩
    refine for_it (walk_range (lo := 0) (n := 3)) (fun i σ Hx => Src p c Hx ∧ ∃ v2 v3 v4 v5 v6 v7 v8 v9 v10 v11 v12, σ = [some (.ref a), some (.ref p), v2, v3, v4, v5, v6, v7, v8, v9, v10, v11, v12, none, none, none])
      ⟨S1, _, _, _, _, _, _, _, _, _, _, _, rfl⟩ (fun _ _ _ _ _ => trivial) ?_ ?_
    case refine_2 => exact fun σ Hx _ => k _
    clear S1 s1 np nc
    rintro lap x σ Hw H0 hlap ⟨S, v2, v3, v4, v5, v6, v7, v8, v9, v10, v11, v12, rfl⟩ ⟨rfl, rfl⟩
    refine ⟨_, rfl, p, c, rfl, S, fun gr ks0 ps0 i0 H2 okK0 z0 kn0 i1 i3 dr0 g0 d2 ngr => ?_⟩
    obtain ⟨l0, f0, m0, as0, hgr, hl0, hf0, hps0, sig0, n1, n2, n3⟩ := id g0
    have okP0 := dr0.ok i3
    refine ⟨_, rfl, gr, .ref l0, rfl, DGet.k (k := Sum.inr "kinds") hgr, l0, _, rfl, .inl (SqL.of hl0), fun k1 nk1 => ?_⟩
    obtain ⟨H3, z, s3, ek1⟩ := fresh nk1 (.lst (ks0.map V.str))
    rw [z]
    clear z
    have nok1 := d2.s.off nk1
    refine ⟨_, rfl, gr, .ref f0, rfl, DGet.k (k := Sum.inr "primitives") (s3 _ _ hgr), f0, rfl, ⟨_, SqL.of (s3 _ _ hf0)⟩, fun D nD => lc_it (walk_list (K := K) (a := f0) (xs := as0.map V.ref)) (fun i Hb => Same H3 Hb ∧ ∃ ts, Hb D = some (.lst (ts.map V.ref)) ∧ Paired (BPairN (Or1 (Off p c) D) Hb) ts (emb (ps0.take i)))
      ⟨same_new nD, [], upd_same, .nil⟩ (fun i Hb _ ⟨sm, _⟩ => SqL.of (sm _ _ (s3 _ _ hf0))) ?_ ?_⟩
    · rintro i x Hb Hc hi ⟨sb, ts, eD, hts⟩ ⟨rfl, hx⟩
      rw [List.getElem?_map] at hx
      obtain ⟨pa, hpa, rfl⟩ := Option.map_eq_some_iff.mp hx
      obtain ⟨q, eq', l, rs, t1, t2, hrows, _⟩ := Paired.at hps0 hpa
      have s3b := s3.trans sb
      refine ⟨pa, _, rfl, SqT.of (s3b _ _ t1), rfl, _, _, rfl, _, _, rfl, rfl, rfl, _, rfl, _, rfl, l, _, rfl, .inl (SqL.of (s3b _ _ t2)), fun l' nl' => ?_⟩
      have dc := d2.same s3b
      have nol := dc.s.off nl'
      obtain ⟨Hd, z, sd, el⟩ := fresh nl' (.lst (rs.map V.ref))
      rw [z]
      clear z
      refine ⟨by show 2 ≤ sizeLine; decide, fun t nt => ?_⟩
      obtain ⟨He, z, se, et⟩ := fresh nt (.tup [.str q.1, .ref l'])
      rw [z]
      clear z
      have de := dc.same (sd.trans se)
      have sce : Same _ He := sd.trans se
      refine ⟨_, sce _ _ eD, ?_, fun b o e => ?_, ts ++ [t], ?_, ?_⟩
      · rw [List.length_map, Paired.length hts]
        show ((ps0.take i).map _).length < sizeLine
        rw [List.length_map, List.length_take]
        exact small1000 (by have := okP0.fewP; omega)
      · rw [upd_ne (ne_of_none e nD)]
        exact sce _ _ (sb _ _ e)
      · rw [upd_same, List.map_append]
        rfl
      · have eDe := sce _ _ eD
        have tk : Tups He (upd He D (.lst (ts.map V.ref ++ [.ref t]))) := Tups.lock eDe fun _ z => nomatch z
        have kx : Keep (Or1 (Off p c) D) He (upd He D (.lst (ts.map V.ref ++ [.ref t]))) := Keep.mono (fun a h => .inr h) keep_upd
        have hts' : Paired (BPairN (Or1 (Off p c) D) He) ts (emb (ps0.take i)) := Paired.imp (fun _ _ z => z.keep (Same.keep sce) (Tups.of sce)) hts
        have lD : ¬ Or1 (Off p c) D l' := fun z => z.elim nol (ne_of_none eD nl').symm
        have new : BPairN (Or1 (Off p c) D) He t (emR' q) := ⟨l', rs, et, se _ _ el, rows_n (fun u xs e z => z.elim (de.s.offT e) (fun z => by rw [z, eDe] at e; cases e)) (hrows.tups (Tups.of (s3b.trans sce))), lD⟩
        have all := Paired.imp (fun _ _ (z : BPairN _ He _ _) => z.keep kx tk) (Paired.snoc hts' new)
        rw [List.take_add_one, eq']
        have e2 : emb (ps0.take i ++ (some q).toList) = emb (ps0.take i) ++ [emR' q] := by
          unfold emb
          rw [List.map_append]
          rfl
        rw [e2]
        exact all
    rintro H4 ⟨s4, ts0, eD, hts⟩
    rw [List.length_map, Paired.length hps0, List.take_length] at hts
    have hts' : Paired (BPairN (Off p c) H4) ts0 (emb ps0) := Paired.imp (fun _ _ z => z.narrow fun a h => .inl h) hts
    have d4 := d2.same (s3.trans s4)
    have noD := (d2.same s3).s.off nD
    have ls0 : LS (Off p c) H4 k1 D ks0 (emb ps0) := ⟨ts0, s4 _ _ ek1, nok1, eD, noD, hts'⟩
    have sh0 := shape0 okK0 z0 kn0 i1 i3 dr0
    have g4 : GroundAt (Off p c) H4 C gr ks0 ps0 := g0.keep (Same.keep (s3.trans s4)) (Tups.of (s3.trans s4))
    clear hts hts' eD noD nok1 ek1 s4 s3 nk1 hgr hl0 hf0 hps0 sig0 n1 n2 n3 g0 nD
    refine ⟨_, _, rfl, ?_⟩
    -- bent
    refine ⟨_, rfl, p, c, 3, rfl, d4.s, by decide, by decide, fun r H5 r0 r1 k5 S5 => ⟨r, rfl, by omega, by omega, ?_⟩⟩
    have d5 : Dr p c H0 H5 := d4.trans ⟨k5, S5⟩
    refine for_it (walk_range (lo := 0) (n := r.toNat)) (fun j σ Hx => Src p c Hx ∧ GroundAt (Off p c) Hx C gr ks0 ps0 ∧ ∃ ka ra ks ps v6, σ = [some (.ref a), some (.ref p), some (.int (0 + (lap : Int))), some (.ref gr), some (.ref ka), some (.ref ra), v6, v7, v8, v9, v10, v11, v12, none, none, none] ∧ LS (Off p c) Hx ka ra ks ps ∧ Shape j (2 * 4 ^ j) ks ps)
      ⟨S5, g4.keep k5 (d4.s.tups k5), k1, D, ks0, emb ps0, _, rfl, ls0.keep k5 (d4.s.tups k5), sh0⟩ (fun _ _ _ _ _ => trivial) ?_ ?_
    · rintro j x σ Hw Hx hj ⟨Sx, gx, ka, ra, ks, ps, v6, rfl, ls, sh⟩ ⟨rfl, rfl⟩
      have j2 : j = 0 ∨ j = 1 := by omega
      have b1 : 1 ≤ 2 * 4 ^ j ∧ 2 * 4 ^ j ≤ 100 := by rcases j2 with rfl | rfl <;> decide
      refine ⟨_, rfl, _, rfl, _, rfl, ⟨(j, 2 * 4 ^ j), b1.1, b1.2, by omega⟩, p, c, ka, ra, ks, ps, rfl, Sx, ls, sh, fun x ka' ra' ks' ps' Hy d hx ls' sh' => ?_⟩
      refine ⟨x, _, rfl, SqT.of hx, rfl, _, _, rfl, _, _, rfl, rfl, d.s, gx.keep d.k (Sx.tups d.k), ka', ra', ks', ps', _, rfl, ls', ?_⟩
      rw [show 2 * 4 ^ (j + 1) = 4 * (2 * 4 ^ j) by rw [Nat.pow_succ]; omega]
      exact sh'
    rintro σ H6 ⟨S6, g6, ka, ra, ks, ps, v6', rfl, ls, sh⟩
    obtain ⟨as, hka, nka, hra, nra, hps⟩ := id ls
    have t2 : r.toNat ≤ 2 := by omega
    have m32 : 2 * 4 ^ r.toNat ≤ 1000 := by
      rcases (show r.toNat = 0 ∨ r.toNat = 1 ∨ r.toNat = 2 by omega) with e | e | e <;> rw [e] <;> decide
    have kf := sh.kf
    have pf := sh.pf
    refine ⟨Off p c, ka, ra, ks, as, ps, rfl, rfl, hka, hra, b_of_n hps, sh.kt, by omega, sh.lim m32 t2, fun dv H7 s7 due => ?_⟩
    clear d4 d5 g4 ls0 sh0 dr0 S5 k5
    have g7 := g6.keep (Same.keep s7) (Tups.of s7)
    have S7 := S6.same s7
    -- handed
    refine ⟨_, rfl, ka, _, rfl, .inl (SqL.of (s7 _ _ hka)), fun hk nhk => ?_⟩
    obtain ⟨H8, z, s8, ehk⟩ := fresh nhk (.lst (ks.map V.str))
    rw [z]
    clear z
    have s68 := s7.trans s8
    have S8 := S7.same s8
    refine ⟨_, rfl, ra, rfl, ⟨_, SqL.of (s68 _ _ hra)⟩, fun D2 nD2 => ?_⟩
    have hps8 : Paired (BPairN (Off p c) H8) as ps := Paired.imp (fun _ _ z => z.keep (Same.keep s68) (Tups.of s68)) hps
    refine lc_it (walk_list (K := K) (a := ra) (xs := as.map V.ref)) (fun i Hb => Same H8 Hb ∧ ∃ ts, Hb D2 = some (.lst (ts.map V.ref)) ∧ Paired (BPairF H8 (Or1 (Off p c) D2) Hb) ts (ps.take i)) ⟨same_new nD2, [], upd_same, .nil⟩ (fun i Hb _ ⟨sm, _⟩ => SqL.of (sm _ _ (s68 _ _ hra))) ?_ ?_
    · rintro i x Hb Hc hi ⟨sb, ts, eD, hts⟩ ⟨rfl, hx⟩
      rw [List.getElem?_map] at hx
      obtain ⟨pa, hpa, rfl⟩ := Option.map_eq_some_iff.mp hx
      obtain ⟨q, eq', l, rs, t1, t2', hrows, nol0⟩ := Paired.at hps8 hpa
      refine ⟨pa, _, rfl, SqT.of (sb _ _ t1), rfl, _, _, rfl, _, _, rfl, rfl, rfl, _, rfl, _, rfl, l, _, rfl, .inl (SqL.of (sb _ _ t2')), fun l' nl' => ?_⟩
      have nol := (S8.same sb).off nl'
      obtain ⟨Hd, z, sd, el⟩ := fresh nl' (.lst (rs.map V.ref))
      rw [z]
      clear z
      refine ⟨by show 2 ≤ sizeLine; decide, fun t nt => ?_⟩
      obtain ⟨He, z, se, et⟩ := fresh nt (.tup [.str q.1, .ref l'])
      rw [z]
      clear z
      have sce : Same _ He := sd.trans se
      have eDe := sce _ _ eD
      refine ⟨_, eDe, ?_, fun b o e => ?_, ts ++ [t], ?_, ?_⟩
      · rw [List.length_map, Paired.length hts, List.length_take]
        exact small1000 (by omega)
      · rw [upd_ne (ne_of_none e nD2)]
        exact sce _ _ (sb _ _ e)
      · rw [upd_same, List.map_append]
        rfl
      · have tk : Tups He (upd He D2 (.lst (ts.map V.ref ++ [.ref t]))) := Tups.lock eDe fun _ z => nomatch z
        have kx : Keep (Or1 (Off p c) D2) He (upd He D2 (.lst (ts.map V.ref ++ [.ref t]))) := Keep.mono (fun a h => .inr h) keep_upd
        have hts' : Paired (BPairF H8 (Or1 (Off p c) D2) He) ts (ps.take i) := Paired.imp (fun _ _ z => z.keep (Same.keep sce) (Tups.of sce)) hts
        have lD : ¬ Or1 (Off p c) D2 l' := fun z => z.elim nol (ne_of_none eD nl').symm
        have sbe := sb.trans sce
        have new : BPairF H8 (Or1 (Off p c) D2) He t q := ⟨l', rs, et, se _ _ el, Paired.imp (fun _ _ z => (brow_wide nD2 z).keep (Same.keep sbe) (Tups.of sbe)) hrows, lD, sb.free nl'⟩
        have all := Paired.imp (fun _ _ (z : BPairF _ _ He _ _) => z.keep kx tk) (Paired.snoc hts' new)
        rw [List.take_add_one, eq']
        exact all
    rintro H9 ⟨s9, ts, eD2, hts⟩
    have spl : as.length = ps.length := Paired.length hps
    rw [List.length_map, spl, List.take_length] at hts
    obtain ⟨kvs, pk, ents, entf⟩ := plf_dict (K := K) hts
    refine ⟨D2, ts, kvs, rfl, SqL.of eD2, pk, fun dd ndd => ?_⟩
    obtain ⟨H10, z, s10, edd⟩ := fresh ndd (.dK (mergeK [] kvs))
    rw [z]
    clear z
    refine ⟨by show 2 ≤ sizeLine; decide, fun hh nhh => ?_⟩
    obtain ⟨H11, z, s11, ehh⟩ := fresh nhh (.lst [.ref hk, .ref dd])
    rw [z]
    clear z
    have s911 := s10.trans s11
    have s711 : Same H7 H11 := s8.trans (s9.trans s911)
    have s611 := s7.trans s711
    have S11 := S6.same s611
    have ehk11 := s911 _ _ (s9 _ _ ehk)
    have edd11 := s11 _ _ edd
    have ents11 := BPEnts.std (Std.of s911) ents
    have due11 := due.same s711
    have g11 := g7.keep (Same.keep s711) (Tups.of s711)
    have ls11 := ls.keep (Same.keep s611) (Tups.of s611)
    -- names twice
    have lkv : kvs.length = ps.length := Paired.length ents
    refine ⟨_, rfl, hh, _, _, .ref dd, rfl, rfl, SqL.of ehh, atI_nat (j := 1) rfl, dd, _, rfl, edd11, _, rfl, ra, _, rfl, .inl (SqL.of (s611 _ _ hra)), rfl, _, rfl, ite2 (fun _ => ?_) (fun eqn => ?_)⟩
    · exact ⟨S11, _, _, _, _, _, _, _, _, _, _, _, rfl⟩
    have lens : (mergeK [] kvs).length = kvs.length := by
      have e : (!decide (V.int ((mergeK [] kvs).length : Int) = V.int ((as.map V.ref).length : Int))) ≠ true := eqn
      simp only [Bool.not_eq_true', ne_eq, Bool.not_eq_false, decide_eq_true_eq, V.int.injEq, List.length_map] at e
      omega
    have nodK : ((([] : List (Key × V)) ++ kvs).map (·.1)).Nodup := (merge_len (acc := []) List.nodup_nil).2 (by rw [lens]; simp)
    rw [merge_nod nodK, List.nil_append] at edd11
    rw [List.nil_append, bpents_keys ents] at nodK
    have nodP : (ps.map Prod.fst).Nodup := by
      have : ((ps.map Prod.fst).map fun n => (.inr n : Key)).Nodup := by rw [List.map_map]; exact nodK
      exact (List.pairwise_map.mp this).imp fun h e => h (congrArg _ e)
    have tells := sh.tells m32 t2 nodP
    -- told
    refine ⟨_, rfl, hh, _, _, .ref hk, rfl, rfl, SqL.of ehh, atI_nat (j := 0) rfl, _, rfl, hh, _, _, .ref dd, rfl, rfl, SqL.of ehh, atI_nat (j := 1) rfl, false, false, hk, dd, ks, kvs, ps, rfl, ehk11, sh.kt, edd11, ents11, tells, ?_⟩
    cases ed : dueOf ks ps with
    | some e =>
      rw [ed] at due11
      obtain ⟨L, rfl, eL⟩ := due11
      intro Lt H12 s12 nLt eLt
      refine ⟨_, rfl, rfl, _, rfl, ite2 (fun _ => ?_) (fun z => absurd (by rfl) z)⟩
      have e1 : H12 Lt = some (.lst ([dueW e.1, e.2].map V.str)) := eLt
      have e2 : H12 L = some (.lst ([dueW e.1, e.2].map V.str)) := s12 _ _ eL
      refine ⟨_, rfl, _, rfl, _, _, dp_strs e1, dp_strs e2, strs_depth _, _, rfl, ?_⟩
      rw [strs_eq]
      exact ⟨S11.same s12, _, _, _, _, _, _, _, _, _, _, _, rfl⟩
    | none =>
    rw [ed] at due11
    obtain rfl : dv = .non := due11
    intro H12 g s12 ng sig
    refine ⟨_, rfl, rfl, _, rfl, ite2 (fun z => absurd z (by decide)) (fun _ => ?_)⟩
    -- what was handed in is changed
    obtain ⟨okK, okP, right⟩ := due_right ed sh.kt (by omega) tells
    obtain ⟨p0, pr, rfl⟩ : ∃ p0 pr, ps = p0 :: pr := by
      cases ps with
      | nil => exact absurd rfl sh.pne
      | cons p0 pr => exact ⟨p0, pr, rfl⟩
    obtain ⟨kv0, kr, l1, xs1, rfl, ek0, ev0, el1, len1, z1⟩ : ∃ (kv0 : Key × V) (kr : List (Key × V)) (l1 : Addr) (xs1 : List Addr), kvs = kv0 :: kr ∧ kv0.1 = .inr p0.1 ∧ kv0.2 = .ref l1 ∧ H9 l1 = some (.lst (xs1.map V.ref)) ∧ xs1.length = p0.2.length ∧ H8 l1 = none := by
      cases entf with
      | cons h t =>
        obtain ⟨h1, l, xs, h2, h3, h4, h5⟩ := h
        exact ⟨_, _, l, xs, rfl, h1, h2, h3, h4, h5⟩
    obtain ⟨k00, v00⟩ := kv0
    obtain rfl : k00 = .inr p0.1 := ek0
    obtain rfl : v00 = .ref l1 := ev0
    have W7 : ∀ b, (Off p c b ∨ b = hk ∨ b = dd ∨ b = l1) → Off p c b ∨ H7 b = none := fun b z => by
      rcases z with z | rfl | rfl | rfl
      · exact .inl z
      · exact .inr nhk
      · exact .inr ((s8.trans s9).free ndd)
      · exact .inr (s8.free z1)
    have S12 := S11.same s12
    have lsW : LS (fun b => Off p c b ∨ b = hk ∨ b = dd ∨ b = l1) H12 ka ra ks (p0 :: pr) := ((ls.keep (Same.keep s7) (Tups.of s7)).to W7).keep (Same.keep (s711.trans s12)) (Tups.of (s711.trans s12))
    have gW : GroundAt (fun b => Off p c b ∨ b = hk ∨ b = dd ∨ b = l1) H12 C gr ks0 ps0 := (g7.to W7).keep (Same.keep (s711.trans s12)) (Tups.of (s711.trans s12))
    have sg := sig (fun b => H11 b ≠ none) fun b e z => z e
    have old : ∀ b, (Off p c b ∨ b = hk ∨ b = dd ∨ b = l1) → H11 b ≠ none := fun b z e => by
      rcases z with z | rfl | rfl | rfl
      · exact S11.off e z
      · rw [ehk11] at e
        cases e
      · rw [edd11] at e
        cases e
      · rw [s911 _ _ el1] at e
        cases e
    generalize hW : (fun b => Off p c b ∨ b = hk ∨ b = dd ∨ b = l1) = W at lsW gW
    have wOff : ∀ b, Off p c b → W b := fun b z => by rw [← hW]; exact .inl z
    have wk : W hk := by rw [← hW]; exact .inr (.inl rfl)
    have wd : W dd := by rw [← hW]; exact .inr (.inr (.inl rfl))
    have w1 : W l1 := by rw [← hW]; exact .inr (.inr (.inr rfl))
    have wOld : ∀ b, W b → H11 b ≠ none := fun b z => old b (by rw [← hW] at z; exact z)
    have nwh : ¬ W hh := fun z => by
      rw [← hW] at z
      rcases z with z | z | z | z
      · exact (S6.same (s7.trans (s8.trans (s9.trans s10)))).off nhh z
      · exact ne_of_none (s10 _ _ (s9 _ _ ehk)) nhh z.symm
      · exact ne_of_none edd nhh z.symm
      · exact ne_of_none (s10 _ _ el1) nhh z.symm
    have ehh12 := s12 _ _ ehh
    have ehk12 := s12 _ _ ehk11
    have edd12 := s12 _ _ edd11
    have el12 := s12 _ _ (s911 _ _ el1)
    clear hW old W7 lens eqn
    have ohk := S7.off nhk
    have odd' := (S8.same s9).off ndd
    have ol1 := S8.off z1
    have dkl : dd ≠ hk := fun z => by rw [z, ehk12] at edd12; cases edd12
    have l1k : l1 ≠ dd := fun z => by rw [z, edd12] at el12; cases el12
    have l1h : l1 ≠ hk := (ne_of_none ehk z1).symm
    have hhk : hh ≠ hk := fun z => nwh (z ▸ wk)
    have hhd : hh ≠ dd := fun z => nwh (z ▸ wd)
    have hh1 : hh ≠ l1 := fun z => nwh (z ▸ w1)
    have xle : xs1.length ≤ 900 := by
      have h1 := sh.few
      have h2 := rows_le (ps := p0 :: pr) (p := p0) (.head _)
      omega
    -- handed[0].append('zz')
    refine ⟨_, rfl, hh, _, _, .ref hk, rfl, rfl, SqL.of ehh12, atI_nat (j := 0) rfl, .inl ⟨rfl, _, SqL.of ehk12⟩, hk, _, _, rfl, rfl, ehk12, by rw [List.length_map]; exact small1000 (by omega), ?_⟩
    have k13 : Keep W H12 (upd H12 hk (.lst (ks.map V.str ++ [.str "zz"]))) := Keep.mono (fun b (h : b = hk) => by rw [h]; exact wk) keep_upd
    have t13 : Tups H12 (upd H12 hk (.lst (ks.map V.str ++ [.str "zz"]))) := Tups.lock ehk12 fun _ z => nomatch z
    have S13 : Src p c (upd H12 hk (.lst (ks.map V.str ++ [.str "zz"]))) := S12.at ohk
    have hh13 : upd H12 hk (.lst (ks.map V.str ++ [.str "zz"])) hh = some (.lst [.ref hk, .ref dd]) := by rw [upd_ne hhk]; exact ehh12
    have dd13 : upd H12 hk (.lst (ks.map V.str ++ [.str "zz"])) dd = some (.dK ((.inr p0.1, .ref l1) :: kr)) := by rw [upd_ne dkl]; exact edd12
    have l13 : upd H12 hk (.lst (ks.map V.str ++ [.str "zz"])) l1 = some (.lst (xs1.map V.ref)) := by rw [upd_ne l1h]; exact el12
    generalize upd H12 hk (.lst (ks.map V.str ++ [.str "zz"])) = H13 at k13 t13 S13 hh13 dd13 l13
    have ls13 := lsW.keep k13 t13
    obtain ⟨as13, _, _, hra13, _, hp13⟩ := id ls13
    have el13 : as13.length = (p0 :: pr).length := Paired.length hp13
    obtain ⟨pa0, as13', rfl⟩ : ∃ x y, as13 = x :: y := by
      cases as13 with
      | nil => simp at el13
      | cons x y => exact ⟨x, y, rfl⟩
    obtain ⟨lq, bs, tq, _⟩ : BPairN W H13 pa0 p0 := by
      cases hp13 with
      | cons h t => exact h
    -- handed[1][rows[0][0]].append('zz')
    refine ⟨_, rfl, hh, _, _, .ref dd, rfl, rfl, SqL.of hh13, atI_nat (j := 1) rfl, _, rfl, ra, _, _, .ref pa0, rfl, rfl, SqL.of hra13, atI_nat (j := 0) rfl, pa0, _, _, .str p0.1, rfl, rfl, SqT.of tq, atI_nat (j := 0) rfl, dd, .ref l1, rfl, ?_, .inl ⟨rfl, _, SqL.of l13⟩, l1, _, _, rfl, rfl, l13, by rw [List.length_map]; exact small1000 (by omega), ?_⟩
    · have := DGet.k (k := Sum.inr p0.1) dd13
      rwa [valV_pos (p := ((Sum.inr p0.1 : Key), V.ref l1)) rfl] at this
    have k14 : Keep W H13 (upd H13 l1 (.lst (xs1.map V.ref ++ [.str "zz"]))) := Keep.mono (fun b (h : b = l1) => by rw [h]; exact w1) keep_upd
    have t14 : Tups H13 (upd H13 l1 (.lst (xs1.map V.ref ++ [.str "zz"]))) := Tups.lock l13 fun _ z => nomatch z
    have S14 : Src p c (upd H13 l1 (.lst (xs1.map V.ref ++ [.str "zz"]))) := S13.at ol1
    have hh14 : upd H13 l1 (.lst (xs1.map V.ref ++ [.str "zz"])) hh = some (.lst [.ref hk, .ref dd]) := by rw [upd_ne hh1]; exact hh13
    have dd14 : upd H13 l1 (.lst (xs1.map V.ref ++ [.str "zz"])) dd = some (.dK ((.inr p0.1, .ref l1) :: kr)) := by rw [upd_ne l1k.symm]; exact dd13
    generalize upd H13 l1 (.lst (xs1.map V.ref ++ [.str "zz"])) = H14 at k14 t14 S14 hh14 dd14
    -- handed[1]['more'] = []
    refine ⟨by show 0 ≤ sizeLine; decide, fun en nen => ?_⟩
    obtain ⟨H15, z, s15, _⟩ := fresh nen (.lst [])
    rw [z]
    clear z
    have dd15 := s15 _ _ dd14
    have hh15 := s15 _ _ hh14
    have lkr : kr.length ≤ 3 := by
      simp only [List.length_cons] at lkv pf
      omega
    refine ⟨_, rfl, hh, _, _, .ref dd, rfl, rfl, SqL.of hh15, atI_nat (j := 1) rfl, dd, _, rfl, DPut.k (k := Sum.inr "more") (v := .ref en) dd15 (by rw [List.length_cons]; exact Nat.lt_of_le_of_lt (Nat.succ_le_succ lkr) (by decide)), ?_⟩
    have k16 : Keep W H15 (upd H15 dd (.dK (putK ((Sum.inr p0.1, .ref l1) :: kr) (Sum.inr "more" : Key) (.ref en)))) := Keep.mono (fun b (h : b = dd) => by rw [h]; exact wd) keep_upd
    have t16 : Tups H15 (upd H15 dd (.dK (putK ((Sum.inr p0.1, .ref l1) :: kr) (Sum.inr "more" : Key) (.ref en)))) := Tups.lock dd15 fun _ z => nomatch z
    have S16 : Src p c (upd H15 dd (.dK (putK ((Sum.inr p0.1, .ref l1) :: kr) (Sum.inr "more" : Key) (.ref en)))) := (S14.same s15).at odd'
    have hh16 : upd H15 dd (.dK (putK ((Sum.inr p0.1, .ref l1) :: kr) (Sum.inr "more" : Key) (.ref en))) hh = some (.lst [.ref hk, .ref dd]) := by rw [upd_ne hhd]; exact hh15
    have dd16 : upd H15 dd (.dK (putK ((Sum.inr p0.1, .ref l1) :: kr) (Sum.inr "more" : Key) (.ref en))) dd = some (.dK (putK ((Sum.inr p0.1, .ref l1) :: kr) (Sum.inr "more" : Key) (.ref en))) := upd_same
    generalize upd H15 dd (.dK (putK ((Sum.inr p0.1, .ref l1) :: kr) (Sum.inr "more" : Key) (.ref en))) = H16 at k16 t16 S16 hh16 dd16
    have k1216 : Keep W H12 H16 := k13.trans (k14.trans ((Same.keep s15).trans k16))
    have t1216 : Tups H12 H16 := t13.trans (t14.trans ((Tups.of s15).trans t16))
    have ls16 := lsW.keep k1216 t1216
    obtain ⟨as16, _, _, hra16, nra16, hp16⟩ := id ls16
    have el16 : as16.length = (p0 :: pr).length := Paired.length hp16
    -- handed[1].pop(..)
    refine ⟨_, rfl, hh, _, _, .ref dd, rfl, rfl, SqL.of hh16, atI_nat (j := 1) rfl, dd, rfl, .inl ⟨_, .inl dd16⟩, ?_⟩
    refine ⟨_, rfl, _, rfl, _, rfl, ra, _, rfl, .inl (SqL.of hra16), p, c, _, rfl, S16, by rw [List.length_map, el16, List.length_cons]; omega, by rw [List.length_map, el16]; omega, fun rr H17 q0 q1 k17 S17 => ?_⟩
    rw [List.length_map, el16] at q1
    have ri : rr.toNat < as16.length := by omega
    have epb : as16[rr.toNat]? = some as16[rr.toNat] := List.getElem?_eq_getElem ri
    generalize as16[rr.toNat] = pb at epb
    obtain ⟨pq, epq, lq', bs', tq', _⟩ := Paired.at hp16 epb
    have hrr : atI (as16.map V.ref) rr = some (.ref pb) := by
      have e : (as16.map V.ref)[rr.toNat]? = some (.ref pb) := by rw [List.getElem?_map, epb]; rfl
      have := atI_nat e
      rwa [show ((rr.toNat : Nat) : Int) = rr by omega] at this
    have t17 := S16.tups k17
    have hra17 := k17 _ _ hra16 fun z => nra16 (wOff _ z)
    have dd17 := k17 _ _ dd16 odd'
    obtain ⟨pv', epv⟩ : ∃ v, valV (putK ((Sum.inr p0.1, .ref l1) :: kr) (Sum.inr "more" : Key) (.ref en)) (Sum.inr pq.1 : Key) = some v := by
      rw [valV_put]
      by_cases e : (Sum.inr pq.1 : Key) = (Sum.inr "more" : Key)
      · exact ⟨_, if_pos e⟩
      · rw [if_neg e]
        cases hv : valV ((Sum.inr p0.1, .ref l1) :: kr) (Sum.inr pq.1 : Key) with
        | some v => exact ⟨v, rfl⟩
        | none =>
          exfalso
          refine val_none hv ?_
          rw [bpents_keys ents]
          exact List.mem_map.mpr ⟨pq, List.mem_of_getElem? epq, rfl⟩
    refine ⟨ra, _, _, .ref pb, rfl, rfl, SqL.of hra17, hrr, pb, _, _, .str pq.1, rfl, rfl, SqT.of (t17 _ _ tq'), atI_nat (j := 0) rfl, _, Sum.inr pq.1, pv', dd17, rfl, epv, ?_⟩
    have k18 : Keep W H17 (upd H17 dd (.dK (dropK (putK ((Sum.inr p0.1, .ref l1) :: kr) (Sum.inr "more" : Key) (.ref en)) (Sum.inr pq.1 : Key)))) := Keep.mono (fun b (h : b = dd) => by rw [h]; exact wd) keep_upd
    have t18 : Tups H17 (upd H17 dd (.dK (dropK (putK ((Sum.inr p0.1, .ref l1) :: kr) (Sum.inr "more" : Key) (.ref en)) (Sum.inr pq.1 : Key)))) := Tups.lock dd17 fun _ z => nomatch z
    have S18 : Src p c (upd H17 dd (.dK (dropK (putK ((Sum.inr p0.1, .ref l1) :: kr) (Sum.inr "more" : Key) (.ref en)) (Sum.inr pq.1 : Key)))) := S17.at odd'
    generalize upd H17 dd (.dK (dropK (putK ((Sum.inr p0.1, .ref l1) :: kr) (Sum.inr "more" : Key) (.ref en)) (Sum.inr pq.1 : Key))) = H18 at k18 t18 S18
    have kA : Keep W H12 H18 := k1216.trans ((Keep.mono wOff k17).trans k18)
    have tA : Tups H12 H18 := t1216.trans (t17.trans t18)
    have lsA := lsW.keep kA tA
    have gA := gW.keep kA tA
    have sgA := sg.keep (Keep.mono wOld kA) tA
    clear k18 t18 k1216 t1216 k17 t17 S17 S16 S14 S13 k16 t16 k14 t14 k13 t13 hra16 hra17 hra13 hp16 hp13 ls16 ls13 dd17 dd16 dd15 dd14 dd13 hh16 hh15 hh14 hh13 l13 epv hrr epq epb s15
    obtain ⟨asA, hkA, nkA, hrA, nrA, hpA⟩ := id lsA
    obtain ⟨lB, fB', mB, asB, hgB, hlB, hfB, hpB, sigB, nB1, nB2, nB3⟩ := id gA
    have hpG : GPairs W H18 asA (unP (p0 :: pr)) := g_of_b hpA right
    obtain ⟨dxA, kaA, owA, prA, esA, kvA, hgA, _⟩ := id sgA
    -- right
    refine ⟨_, rfl, .ref g, .ty "list", _, _, false, rfl, .ty _, .base (.ins hgA Y.sC.cl Y.iC.ha Y.iC.hn Y.iC.htk Y.iC.hm), Y.iC.list, _, rfl, ?_⟩
    refine ⟨_, rfl, _, rfl, _, rfl, _, rfl, _, W, .ref p, g, ka, ra, ks, asA, unP (p0 :: pr), rfl, sgA, hkA, hrA, hpG, okK, okP, sh.kne, sh.kzz, fun H19 s19 => ⟨_, rfl, ?_⟩⟩
    -- is it what was drawn
    refine ⟨W, W, ka, ra, gr, lB, fB', mB, ks, ks0, asA, asB, unP (p0 :: pr), ps0, rfl, rfl, rfl, s19 _ _ hgB, s19 _ _ hlB, s19 _ _ hfB, hpB.keep (Same.keep s19) (Tups.of s19), s19 _ _ hkA, s19 _ _ hrA, hpG.keep (Same.keep s19) (Tups.of s19), ?_⟩
    obtain ⟨U, hU⟩ : ∃ U, U = unP (p0 :: pr) := ⟨_, rfl⟩
    rw [← hU] at hpG okP sgA
    rw [← hU]
    have hk19 := s19 _ _ hkA
    have hr19 := s19 _ _ hrA
    have hp19 := hpG.keep (Same.keep s19) (Tups.of s19)
    have sg19 := sgA.same s19
    have g19 := gA.keep (Same.keep s19) (Tups.of s19)
    have S19 := S18.same s19
    clear s19 hkA hrA hpA hpG sgA gA hgB hlB hfB hpB hgA sg lsA lsW gW S18 S12 kA tA s12 ehk12 edd12 el12 ehh12
    have uf : U.length ≤ 100 := okP.fewP
    obtain ⟨dxg, kag, owg, prg, esg, kvg, gget19, _⟩ := id sg19
    have spU : asA.length = U.length := Paired.length hp19
    -- another one, of tuples
    refine ⟨_, rfl, ka, _, rfl, .inl hk19, fun tk H20 s20 etk _ => ?_⟩
    refine ⟨_, rfl, ra, rfl, ⟨_, SqL.of (s20 _ _ hr19)⟩, fun D3 nD3 => ?_⟩
    refine lc_it (walk_list (K := K) (a := ra) (xs := asA.map V.ref)) (fun i Hb => Same H20 Hb ∧ ∃ ts, Hb D3 = some (.lst (ts.map V.ref)) ∧ PTs Hb ts (U.take i)) ⟨same_new nD3, [], upd_same, .nil⟩ (fun i Hb _ ⟨sm, _⟩ => SqL.of (sm _ _ (s20 _ _ hr19))) ?_ ?_
    · rintro i x Hb Hc hi ⟨sb, ts, eD, hts⟩ ⟨rfl, hx⟩
      rw [List.getElem?_map] at hx
      obtain ⟨pa, hpa, rfl⟩ := Option.map_eq_some_iff.mp hx
      obtain ⟨q, eq', l, rs, t1, t2', hrows, _⟩ := Paired.at hp19 hpa
      have s2b := s20.trans sb
      refine ⟨pa, _, rfl, SqT.of (s2b _ _ t1), rfl, _, _, rfl, _, _, rfl, rfl, rfl, _, rfl, _, rfl, l, _, rfl, .inl (s2b _ _ t2'), fun l' Hd sd el _ => ?_⟩
      refine ⟨by show 2 ≤ sizeLine; decide, fun t nt => ?_⟩
      obtain ⟨He, z, se, et⟩ := fresh nt (.tup [.str q.1, .ref l'])
      rw [z]
      clear z
      have sce : Same _ He := sd.trans se
      have eDe := sce _ _ eD
      refine ⟨_, eDe, ?_, fun b o e => ?_, ts ++ [t], ?_, ?_⟩
      · rw [List.length_map, Paired.length hts, List.length_take]
        exact small1000 (by omega)
      · rw [upd_ne (ne_of_none e nD3)]
        exact sce _ _ (sb _ _ e)
      · rw [upd_same, List.map_append]
        rfl
      · have tk : Tups He (upd He D3 (.lst (ts.map V.ref ++ [.ref t]))) := Tups.lock eDe fun _ z => nomatch z
        rw [List.take_add_one, eq']
        exact Paired.snoc (pts_tups ((Tups.of sce).trans tk) hts) ⟨l', rs, tk _ _ et, tk _ _ (se _ _ el), hrows.tups ((Tups.of (s2b.trans sce)).trans tk)⟩
    rintro H21 ⟨s21, ts3, eD3, hts3⟩
    rw [List.length_map, spU, List.take_length] at hts3
    obtain ⟨kv3, pk3, en3, mk3⟩ := dict_of (K := K) okP.names (pls_pts hts3)
    refine ⟨D3, ts3, kv3, rfl, SqL.of eD3, pk3, fun dd3 nd3 => ?_⟩
    rw [mk3]
    obtain ⟨H22, z, s22, ed3⟩ := fresh nd3 (.dK kv3)
    rw [z]
    clear z
    have s1922 := s20.trans (s21.trans s22)
    intro g2 dy2 ng2 ndy2 ney2
    refine sig_made1 (bk := true) (bv := true) ng2 ndy2 ney2 (s22 _ _ (s21 _ _ etk)) ed3 (BPEnts.std (Std.of s22) en3) okK okP fun H23 s23 sig2 => ?_
    have s1923 := s1922.trans s23
    have sg23 := sg19.same s1923
    have sh2 := sig2 (fun _ => False) fun _ _ z => z
    obtain ⟨dx2, ka2, ow2, pr2, es2, kv2, hg2, _⟩ := id sh2
    have hgg := s1923 _ _ gget19
    refine ⟨_, rfl, _, rfl, g2, dx2, _, rfl, hg2, .inl ⟨g, dxg, _, rfl, hgg⟩, _, g2, ks, U, .ref g, rfl, sh2, by omega, .inl ⟨_, g, ks, U, rfl, sg23, fun H24 s24 => ⟨_, rfl, ?_⟩⟩⟩
    rw [decide_eq_true (⟨rfl, rfl⟩ : ks = ks ∧ U = U)]
    have s1924 := s1923.trans s24
    refine ⟨_, rfl, _, rfl, _, rfl, _, rfl, _, rfl, _, W, .ref p, g2, ka, ra, ks, asA, U, rfl, sh2.same s24, s1924 _ _ hk19, s1924 _ _ hr19, hp19.keep (Same.keep s1924) (Tups.of s1924), okK, okP, sh.kne, sh.kzz, fun H25 s25 => ⟨_, rfl, ?_⟩⟩
    have s1925 := s1924.trans s25
    -- rows turned about
    refine ⟨_, rfl, ra, rfl, ⟨_, SqL.of (s1925 _ _ hr19)⟩, fun D4 nD4 => ?_⟩
    refine lc_it (walk_list (K := K) (a := ra) (xs := asA.map V.ref)) (fun i Hb => Same H25 Hb ∧ ∃ ts, Hb D4 = some (.lst (ts.map V.ref)) ∧ GPairs (fun b => b = D4) Hb ts ((turn U).take i)) ⟨same_new nD4, [], upd_same, .nil⟩ (fun i Hb _ ⟨sm, _⟩ => SqL.of (sm _ _ (s1925 _ _ hr19))) ?_ ?_
    · rintro i x Hb Hc hi ⟨sb, ts, eD, hts⟩ ⟨rfl, hx⟩
      rw [List.getElem?_map] at hx
      obtain ⟨pa, hpa, rfl⟩ := Option.map_eq_some_iff.mp hx
      obtain ⟨q, eq', l, rs, t1, t2', hrows, _⟩ := Paired.at hp19 hpa
      have s2b := s1925.trans sb
      refine ⟨pa, _, rfl, SqT.of (s2b _ _ t1), rfl, _, _, rfl, _, _, rfl, rfl, rfl, _, rfl, _, rfl, l, _, rfl, SqL.of (s2b _ _ t2'), fun l' nl' => ?_⟩
      rw [← List.map_reverse]
      obtain ⟨Hd, z, sd, el⟩ := fresh nl' (.lst (rs.reverse.map V.ref))
      rw [z]
      clear z
      refine ⟨by show 2 ≤ sizeLine; decide, fun t nt => ?_⟩
      obtain ⟨He, z, se, et⟩ := fresh nt (.tup [.str q.1, .ref l'])
      rw [z]
      clear z
      have sce : Same _ He := sd.trans se
      have eDe := sce _ _ eD
      refine ⟨_, eDe, ?_, fun b o e => ?_, ts ++ [t], ?_, ?_⟩
      · rw [List.length_map, Paired.length hts]
        unfold turn
        rw [List.length_take, List.length_map]
        exact small1000 (by omega)
      · rw [upd_ne (ne_of_none e nD4)]
        exact sce _ _ (sb _ _ e)
      · rw [upd_same, List.map_append]
        rfl
      · have tk : Tups He (upd He D4 (.lst (ts.map V.ref ++ [.ref t]))) := Tups.lock eDe fun _ z => nomatch z
        have eq2 : (turn U)[i]? = some (q.1, q.2.reverse) := by
          unfold turn
          rw [List.getElem?_map, eq']
          rfl
        rw [List.take_add_one, eq2]
        have hts' : GPairs (fun b => b = D4) He ts ((turn U).take i) := hts.keep (Same.keep sce) (Tups.of sce)
        exact GPairs.keep keep_upd tk (Paired.snoc hts' ⟨l', rs.reverse, et, se _ _ el, Paired.rev (hrows.tups (Tups.of (s2b.trans sce))), (ne_of_none eD nl').symm⟩)
    rintro H26 ⟨s26, ts4, eD4, hts4⟩
    rw [List.length_map, spU, show U.length = (turn U).length by unfold turn; rw [List.length_map], List.take_length] at hts4
    have okT := okP.turn
    obtain ⟨kv4, pk4, en4, mk4⟩ := dict_of (K := K) okT.names (pls_g hts4)
    refine ⟨D4, ts4, kv4, rfl, SqL.of eD4, pk4, fun dd4 nd4 => ?_⟩
    rw [mk4]
    obtain ⟨H27, z, s27, ed4⟩ := fresh nd4 (.dK kv4)
    rw [z]
    clear z
    have s1927 := s1925.trans (s26.trans s27)
    refine ⟨_, rfl, _, rfl, _, rfl, ?_⟩
    intro g3 dy3 ng3 ndy3 ney3
    refine sig_made1 (bk := false) (bv := false) ng3 ndy3 ney3 (s1927 _ _ hk19) ed4 (BPEnts.std (Std.of s27) en4) okK okT fun H28 s28 sig3 => ?_
    have s1928 := s1927.trans s28
    have sg28 := sg19.same s1928
    have sh3 := sig3 (fun _ => False) fun _ _ z => z
    obtain ⟨dx3, ka3, ow3, pr3, es3, kv3', hg3, _⟩ := id sh3
    refine ⟨g, dxg, _, rfl, s1928 _ _ gget19, .inl ⟨g3, dx3, _, rfl, hg3⟩, _, g, ks, U, .ref g3, rfl, sg28, by omega, .inl ⟨_, g3, ks, turn U, rfl, sh3, fun H29 s29 => ⟨_, rfl, ?_⟩⟩⟩
    have s1929 := s1928.trans s29
    refine ⟨by show 0 ≤ sizeLine; decide, fun e0 ne0 => ?_⟩
    obtain ⟨H30, z, s30, ee0⟩ := fresh ne0 (.lst [])
    rw [z]
    clear z
    have s1930 := s1929.trans s30
    refine ⟨_, rfl, ra, rfl, ⟨_, SqL.of (s1930 _ _ hr19)⟩, fun D5 nD5 => ?_⟩
    refine lc_it (walk_list (K := K) (a := ra) (xs := asA.map V.ref)) (fun i Hb => Same H30 Hb ∧ ∃ os : List Addr, Hb D5 = some (.lst (os.map V.ref)) ∧ os.length ≤ i ∧ os.isEmpty = (U.take i).all fun p => decide (p.2.length ≤ 1)) ⟨same_new nD5, [], upd_same, Nat.le_refl _, rfl⟩ (fun i Hb _ ⟨sm, _⟩ => SqL.of (sm _ _ (s1930 _ _ hr19))) ?_ ?_
    · rintro i x Hb Hc hi ⟨sb, os, eD, lo, eo⟩ ⟨rfl, hx⟩
      rw [List.getElem?_map] at hx
      obtain ⟨pa, hpa, rfl⟩ := Option.map_eq_some_iff.mp hx
      obtain ⟨q, eq', l, rs, t1, t2', hrows, _⟩ := Paired.at hp19 hpa
      have s2b := s1930.trans sb
      have lr : rs.length = q.2.length := Paired.length hrows
      have hiA : i < asA.length := (List.getElem?_eq_some_iff.mp hpa).1
      refine ⟨rfl, _, rfl, pa, _, _, .ref l, rfl, rfl, SqT.of (s2b _ _ t1), atI_nat (j := 1) rfl, l, _, rfl, .inl (SqL.of (s2b _ _ t2')), _, _, rfl, rfl, _, rfl, ?_⟩
      rw [List.take_add_one, eq', List.all_append]
      rw [List.length_map, lr]
      refine ite2 (fun hgt => ?_) (fun hgt => ?_)
      · have h1 : (1 : Int) < ((q.2.length : Nat) : Int) := of_decide_eq_true hgt
        refine ⟨_, rfl, _, eD, by rw [List.length_map]; exact small1000 (by omega), fun b o e => ?_, os ++ [pa], ?_, by rw [List.length_append]; show _ + 1 ≤ _; omega, ?_⟩
        · rw [upd_ne (ne_of_none e nD5)]
          exact sb _ _ e
        · rw [upd_same, List.map_append]
          rfl
        · have : decide (q.2.length ≤ 1) = false := decide_eq_false (by omega)
          simp [this]
      · have h1 : ¬ (1 : Int) < ((q.2.length : Nat) : Int) := fun z => hgt (decide_eq_true z)
        refine ⟨sb, os, eD, by omega, ?_⟩
        have : decide (q.2.length ≤ 1) = true := decide_eq_true (by omega)
        simp [this, eo]
    rintro H31 ⟨s31, os, eD5, _, eo⟩
    rw [List.length_map, spU, List.take_length] at eo
    have eos : (os.map V.ref).isEmpty = decide (ks = ks ∧ U = turn U) := by
      rw [turn_same okP, ← eo]
      cases os <;> rfl
    refine ⟨e0, D5, _, rfl, rfl, s31 _ _ ee0, eD5, ?_⟩
    rw [eos]
    have s1931 := s1930.trans s31
    refine ⟨rfl, _, rfl, ite2 (fun z => absurd z (by simp)) (fun _ => ?_)⟩
    -- kinds turned about
    refine ⟨_, rfl, _, rfl, ka, _, rfl, SqL.of (s1931 _ _ hk19), fun rk nrk => ?_⟩
    rw [← List.map_reverse]
    obtain ⟨H32, z, s32, erk⟩ := fresh nrk (.lst (ks.reverse.map V.str))
    rw [z]
    clear z
    have s1932 := s1931.trans s32
    have hp32 := hp19.keep (Same.keep s1932) (Tups.of s1932)
    obtain ⟨kv5, pk5, en5, mk5⟩ := dict_of (K := K) okP.names (pls_g hp32)
    refine ⟨_, rfl, ra, asA, kv5, rfl, SqL.of (s1932 _ _ hr19), pk5, fun dd5 nd5 => ?_⟩
    rw [mk5]
    obtain ⟨H33, z, s33, ed5⟩ := fresh nd5 (.dK kv5)
    rw [z]
    clear z
    have s1933 := s1932.trans s33
    intro g4 dy4 ng4 ndy4 ney4
    refine sig_made1 (bk := false) (bv := false) ng4 ndy4 ney4 (s33 _ _ erk) ed5 (BPEnts.std (Std.of s33) en5) okK.rev okP.krev fun H34 s34 sig4 => ?_
    have s1934 := s1933.trans s34
    have sh4 := sig4 (fun _ => False) fun _ _ z => z
    obtain ⟨dx4, ka4, ow4, pr4, es4, kv4', hg4, _⟩ := id sh4
    refine ⟨g, dxg, _, rfl, s1934 _ _ gget19, .inl ⟨g4, dx4, _, rfl, hg4⟩, _, g, ks, U, .ref g4, rfl, sg19.same s1934, by omega, .inl ⟨_, g4, ks.reverse, U, rfl, sh4, fun H35 s35 => ⟨_, rfl, ?_⟩⟩⟩
    have s1935 := s1934.trans s35
    refine ⟨_, rfl, _, rfl, ka, _, rfl, SqL.of (s1935 _ _ hk19), fun rk2 nrk2 => ?_⟩
    rw [← List.map_reverse]
    obtain ⟨H36, z, s36, erk2⟩ := fresh nrk2 (.lst (ks.reverse.map V.str))
    rw [z]
    clear z
    have s1936 := s1935.trans s36
    refine ⟨_, _, dp_strs (s1936 _ _ hk19), dp_strs erk2, strs_depth _, rfl, _, rfl, ?_⟩
    rw [strs_eqv]
    have q1 : (!decide (V.bl (id (decide (ks = ks.reverse ∧ U = U))) = V.bl (decide (ks = ks.reverse)))) = false := by simp
    rw [q1]
    -- no number
    refine ⟨_, rfl, g, dxg, _, rfl, s1936 _ _ gget19, .inr ⟨0, rfl⟩, _, g, ks, U, .int 0, rfl, sg19.same s1936, by omega, .inr ⟨0, rfl, _, rfl, _, rfl, ?_⟩⟩
    -- what was drawn
    have g36 := g19.keep (Same.keep s1936) (Tups.of s1936)
    obtain ⟨lC, fC, mC, asC, hgC, _, _, _, sigC, _, _, _⟩ := id g36
    obtain ⟨dxC, kaC, owC, prC, esC, kvC, hmC, _⟩ := id sigC
    refine ⟨_, rfl, _, rfl, gr, .ref mC, rfl, DGet.k (k := Sum.inr "made") hgC, g, dxg, _, rfl, s1936 _ _ gget19, .inl ⟨mC, dxC, _, rfl, hmC⟩, _, g, ks, U, .ref mC, rfl, sg19.same s1936, by omega, .inl ⟨_, mC, ks0, ps0, rfl, sigC, fun H37 s37 => ⟨_, rfl, ?_⟩⟩⟩
    have s1937 := s1936.trans s37
    refine ⟨_, rfl, rfl, _, rfl, ?_⟩
    have q2 : (!decide (V.bl (id (decide (ks = ks0 ∧ U = ps0))) = V.bl (decide (ks = ks0 ∧ U = ps0)))) = false := by simp
    rw [q2]
    -- rows in turn
    refine ⟨_, rfl, _, rfl, ra, _, rfl, SqL.of (s1937 _ _ hr19), fun rw1 nrw1 => ?_⟩
    rw [← List.map_reverse]
    obtain ⟨H38, z, s38, erw1⟩ := fresh nrw1 (.lst (asA.reverse.map V.ref))
    rw [z]
    clear z
    have s1938 := s1937.trans s38
    have hp38 : GPairs W H38 asA.reverse U.reverse := Paired.rev (hp19.keep (Same.keep s1938) (Tups.of s1938))
    have okR := okP.rev
    obtain ⟨kv6, pk6, en6, mk6⟩ := dict_of (K := K) okR.names (pls_g hp38)
    refine ⟨rw1, asA.reverse, kv6, rfl, SqL.of erw1, pk6, fun dd6 nd6 => ?_⟩
    rw [mk6]
    obtain ⟨H39, z, s39, ed6⟩ := fresh nd6 (.dK kv6)
    rw [z]
    clear z
    have s1939 := s1938.trans s39
    intro g5 dy5 ng5 ndy5 ney5
    refine sig_made1 (bk := false) (bv := false) ng5 ndy5 ney5 (s1939 _ _ hk19) ed6 (BPEnts.std (Std.of s39) en6) okK okR fun H40 s40 sig5 => ?_
    have s1940 := s1939.trans s40
    have sh5 := sig5 (fun _ => False) fun _ _ z => z
    obtain ⟨dx5, ka5, ow5, pr5, es5, kv5', hg5, _⟩ := id sh5
    refine ⟨_, rfl, _, rfl, g, dxg, _, rfl, s1940 _ _ gget19, .inl ⟨g5, dx5, _, rfl, hg5⟩, _, g, ks, U, .ref g5, rfl, sg19.same s1940, by omega, .inl ⟨_, g5, ks, U.reverse, rfl, sh5, fun H41 s41 => ⟨_, rfl, ?_⟩⟩⟩
    have s1941 := s1940.trans s41
    refine ⟨_, rfl, _, rfl, ra, _, rfl, SqL.of (s1941 _ _ hr19), fun rw2 nrw2 => ?_⟩
    rw [← List.map_reverse]
    obtain ⟨H42, z, s42, erw2⟩ := fresh nrw2 (.lst (asA.reverse.map V.ref))
    rw [z]
    clear z
    have s1942 := s1941.trans s42
    have hp42 := hp19.keep (Same.keep s1942) (Tups.of s1942)
    refine ⟨_, _, dp_pairs (s1942 _ _ hr19) hp42, dp_pairs erw2 (Paired.rev hp42), pDl_depth _, ?_⟩
    rw [eqv_pDs]
    refine ⟨rfl, _, rfl, ?_⟩
    have q3 : (!decide (V.bl (id (decide (ks = ks ∧ U = U.reverse))) = V.bl (decide (U = U.reverse)))) = false := by simp
    rw [q3]
    exact ⟨S19.same s1942, _, _, _, _, _, _, _, _, _, _, _, rfl⟩
end
end K10
/-! K10, 20: words of kinds -/
namespace K10
open PySem PySem.Spec PyProof.Rows L2 Ver
section
variable {P : Program} {w : World} {K : PySem.W.Frag} {mg : Str → Option Value} {base : Heap}
theorem scKd : FnScope ["value"] ["value"] (defScope sKind) := ⟨rfl, rfl, rfl, by decide +kernel, rfl, by decide +kernel, by decide +kernel⟩
theorem ok_kind {f fW aR : Addr} {fd fdW : FuncData} (F : Fun K "is_kind_word" "is_kind_word" sKind f fd) (GW : FnOk P w K mg base CX0 1 fW fdW ["value"] (spAsk Short wordD)) (DW : Def K mg "is_word" fW) (bW : Binds K fdW ["value"] [])
    (mR : mg "RESERVED" = some (.ref aR)) (hR : ∀ H, SqT K H aR (resv.map V.str)) : FnOk P w K mg base CX0 2 f fd ["value"] (spAsk Short kindD) := by
  refine F.ok scKd (fun vs H Q E h => ?_) (fun cdv A outer s H vs Q E hr h => ?_)
  · obtain ⟨N, v, d, rfl, _⟩ := h
    rfl
  · obtain ⟨N, v, d, rfl, hv, hs, k⟩ := h
    refine ⟨_, pss_one (ps_ret (pe_and (pe_call GW hr (by rfl) DW.gl DW.kp bW .nil pass0 (pa_cons (pv 0) pa_nil)) (pe_one (pe_cmpR op_notIn_seq (pv 0) (pe_glob (v := .ref aR) rfl mR rfl) (by rfl))))), ?_⟩
    refine ⟨_, rfl, N, v, d, rfl, hv, hs, fun H' sm => ⟨_, rfl, ite2 (fun hw => ?_) (fun hw => ?_)⟩⟩
    · cases d with
      | str x =>
        cases hv
        refine ⟨_, rfl, aR, _, rfl, .inr (hR H'), rfl, rfl, ?_⟩
        have q := k H' sm
        have hw' : wordS x = true := hw
        have e : kindD (.str x) = !inV (.str x) (resv.map V.str) := by
          show (wordS x && !resv.any fun y => y == x) = _
          rw [hw', Bool.true_and]
          rfl
        rwa [e] at q
      | _ => cases hw
    · have e : kindD d = false := by
        cases d with
        | str x =>
          show (wordS x && _) = false
          have : wordS x = false := by simpa [wordD] using hw
          rw [this, Bool.false_and]
        | _ => rfl
      have q := k H' sm
      rwa [e] at q
end
end K10
/-! K10, 21: what the top has written, and the end -/
namespace K10
open PySem PySem.Spec PyProof.Rows L2 Ver
set_option maxHeartbeats 16000000 in
theorem all_mk {l : PySem.W.OpenLaw} {w : World} {K : PySem.W.Frag} {h : Heap} {mg : Str → Option Value} {fa aR C CN CT CV CU G M f0 f1 f2 f3 f4 f5 f6 f7 f8 f9 f10 f11 f12 f13 f14 f15 f16 f17 f18 f19 f20 m0 m1 m2 m3 m4 m5 m6 g0 g1 g2 g3 : Addr} (X : K.In h) (Gn : h.Ns mainGlobals mg) (hfa : mg "law" = some (.ref fa))
    {odR od0 an0 od1 an1 od2 an2 od3 an3 od4 an4 od5 an5 od6 an6 od7 an7 od8 an8 od9 an9 od10 an10 od11 an11 od12 an12 od13 an13 od14 an14 od15 an15 od16 an16 od17 an17 od18 an18 od19 an19 od20 an20 pd0 pn0 pd1 pn1 pd2 pn2 pd3 pn3 pd4 pn4 pd5 pn5 pd6 pn6 qd0 qn0 qd1 qn1 qd2 qn2 qd3 qn3 : Option Addr} {slR sl0 sl1 sl2 sl3 sl4 sl5 sl6 sl7 sl8 sl9 sl10 sl11 sl12 sl13 sl14 sl15 sl16 sl17 sl18 sl19 sl20 ps0 ps1 ps2 ps3 ps4 ps5 ps6 qs0 qs1 qs2 qs3 : Array (Option Value)} {nR : Nat} {tL tS tG r1 r2 r3 r4 r5 : Tok} {oc0 kV0 dc0 pm0 cd0 ct0 oc1 kV1 dc1 pm1 cd1 ct1 oc2 kV2 dc2 pm2 cd2 ct2 oc3 kV3 dc3 pm3 cd3 ct3 oc4 kV4 dc4 pm4 cd4 ct4 oc5 kV5 dc5 pm5 cd5 ct5 oc6 kV6 dc6 pm6 cd6 ct6 oc7 kV7 dc7 pm7 cd7 ct7 oc8 kV8 dc8 pm8 cd8 ct8 oc9 kV9 dc9 pm9 cd9 ct9 oc10 kV10 dc10 pm10 cd10 ct10 oc11 kV11 dc11 pm11 cd11 ct11 oc12 kV12 dc12 pm12 cd12 ct12 oc13 kV13 dc13 pm13 cd13 ct13 oc14 kV14 dc14 pm14 cd14 ct14 oc15 kV15 dc15 pm15 cd15 ct15 oc16 kV16 dc16 pm16 cd16 ct16 oc17 kV17 dc17 pm17 cd17 ct17 oc18 kV18 dc18 pm18 cd18 ct18 oc19 kV19 dc19 pm19 cd19 ct19 oc20 kV20 dc20 pm20 cd20 ct20 pc0 pV0 pq0 pp0 pe0 pt0 pc1 pV1 pq1 pp1 pe1 pt1 pc2 pV2 pq2 pp2 pe2 pt2 pc3 pV3 pq3 pp3 pe3 pt3 pc4 pV4 pq4 pp4 pe4 pt4 pc5 pV5 pq5 pp5 pe5 pt5 pc6 pV6 pq6 pp6 pe6 pt6 qc0 qV0 qq0 qp0 qe0 qt0 qc1 qV1 qq1 qp1 qe1 qt1 qc2 qV2 qq2 qp2 qe2 qt2 qc3 qV3 qq3 qp3 qe3 qt3 : Value}
    (a0 : PySem.W.nsIn K mainGlobals "told" = some (some (.ref f0))) (l0 : K.lookup f0 = some ⟨oc0, od0, .func (PySem.W.fnOf "told" "told" (defArgs sTold) (defBody sTold) (defScope sTold) .none kV0 dc0 pm0 an0 cd0 ct0), sl0⟩) (e0 : PySem.W.codeIn K cd0 "told" = true) (k0 : PySem.W.keepIn K (.ref f0) = true)
    (a1 : PySem.W.nsIn K mainGlobals "is_word" = some (some (.ref f1))) (l1 : K.lookup f1 = some ⟨oc1, od1, .func (PySem.W.fnOf "is_word" "is_word" (defArgs sWord) (defBody sWord) (defScope sWord) .none kV1 dc1 pm1 an1 cd1 ct1), sl1⟩) (e1 : PySem.W.codeIn K cd1 "is_word" = true) (k1 : PySem.W.keepIn K (.ref f1) = true)
    (a2 : PySem.W.nsIn K mainGlobals "is_kind_word" = some (some (.ref f2))) (l2 : K.lookup f2 = some ⟨oc2, od2, .func (PySem.W.fnOf "is_kind_word" "is_kind_word" (defArgs sKind) (defBody sKind) (defScope sKind) .none kV2 dc2 pm2 an2 cd2 ct2), sl2⟩) (e2 : PySem.W.codeIn K cd2 "is_kind_word" = true) (k2 : PySem.W.keepIn K (.ref f2) = true)
    (a3 : PySem.W.nsIn K mainGlobals "check_kinds" = some (some (.ref f3))) (l3 : K.lookup f3 = some ⟨oc3, od3, .func (PySem.W.fnOf "check_kinds" "check_kinds" (defArgs sCheckKinds) (defBody sCheckKinds) (defScope sCheckKinds) .none kV3 dc3 pm3 an3 cd3 ct3), sl3⟩) (e3 : PySem.W.codeIn K cd3 "check_kinds" = true) (k3 : PySem.W.keepIn K (.ref f3) = true)
    (a4 : PySem.W.nsIn K mainGlobals "owners_of" = some (some (.ref f4))) (l4 : K.lookup f4 = some ⟨oc4, od4, .func (PySem.W.fnOf "owners_of" "owners_of" (defArgs sOwners) (defBody sOwners) (defScope sOwners) .none kV4 dc4 pm4 an4 cd4 ct4), sl4⟩) (e4 : PySem.W.codeIn K cd4 "owners_of" = true) (k4 : PySem.W.keepIn K (.ref f4) = true)
    (a5 : PySem.W.nsIn K mainGlobals "are_known" = some (some (.ref f5))) (l5 : K.lookup f5 = some ⟨oc5, od5, .func (PySem.W.fnOf "are_known" "are_known" (defArgs sKnown) (defBody sKnown) (defScope sKnown) .none kV5 dc5 pm5 an5 cd5 ct5), sl5⟩) (e5 : PySem.W.codeIn K cd5 "are_known" = true) (k5 : PySem.W.keepIn K (.ref f5) = true)
    (a6 : PySem.W.nsIn K mainGlobals "is_ambiguous" = some (some (.ref f6))) (l6 : K.lookup f6 = some ⟨oc6, od6, .func (PySem.W.fnOf "is_ambiguous" "is_ambiguous" (defArgs sAmbig) (defBody sAmbig) (defScope sAmbig) .none kV6 dc6 pm6 an6 cd6 ct6), sl6⟩) (e6 : PySem.W.codeIn K cd6 "is_ambiguous" = true) (k6 : PySem.W.keepIn K (.ref f6) = true)
    (a7 : PySem.W.nsIn K mainGlobals "variant_for" = some (some (.ref f7))) (l7 : K.lookup f7 = some ⟨oc7, od7, .func (PySem.W.fnOf "variant_for" "variant_for" (defArgs sVFor) (defBody sVFor) (defScope sVFor) .none kV7 dc7 pm7 an7 cd7 ct7), sl7⟩) (e7 : PySem.W.codeIn K cd7 "variant_for" = true) (k7 : PySem.W.keepIn K (.ref f7) = true)
    (a8 : PySem.W.nsIn K mainGlobals "_law_source" = some (some (.ref f8))) (l8 : K.lookup f8 = some ⟨oc8, od8, .func (PySem.W.fnOf "_law_source" "_law_source" (defArgs sSource) (defBody sSource) (defScope sSource) .none kV8 dc8 pm8 an8 cd8 ct8), sl8⟩) (e8 : PySem.W.codeIn K cd8 "_law_source" = true) (k8 : PySem.W.keepIn K (.ref f8) = true)
    (a9 : PySem.W.nsIn K mainGlobals "_law_pick" = some (some (.ref f9))) (l9 : K.lookup f9 = some ⟨oc9, od9, .func (PySem.W.fnOf "_law_pick" "_law_pick" (defArgs sPick) (defBody sPick) (defScope sPick) .none kV9 dc9 pm9 an9 cd9 ct9), sl9⟩) (e9 : PySem.W.codeIn K cd9 "_law_pick" = true) (k9 : PySem.W.keepIn K (.ref f9) = true)
    (a10 : PySem.W.nsIn K mainGlobals "_law_of" = some (some (.ref f10))) (l10 : K.lookup f10 = some ⟨oc10, od10, .func (PySem.W.fnOf "_law_of" "_law_of" (defArgs sOf) (defBody sOf) (defScope sOf) .none kV10 dc10 pm10 an10 cd10 ct10), sl10⟩) (e10 : PySem.W.codeIn K cd10 "_law_of" = true) (k10 : PySem.W.keepIn K (.ref f10) = true)
    (a11 : PySem.W.nsIn K mainGlobals "_law_signature" = some (some (.ref f11))) (l11 : K.lookup f11 = some ⟨oc11, od11, .func (PySem.W.fnOf "_law_signature" "_law_signature" (defArgs sSig) (defBody sSig) (defScope sSig) .none kV11 dc11 pm11 an11 cd11 ct11), sl11⟩) (e11 : PySem.W.codeIn K cd11 "_law_signature" = true) (k11 : PySem.W.keepIn K (.ref f11) = true)
    (a12 : PySem.W.nsIn K mainGlobals "_law_is_word" = some (some (.ref f12))) (l12 : K.lookup f12 = some ⟨oc12, od12, .func (PySem.W.fnOf "_law_is_word" "_law_is_word" (defArgs sLWord) (defBody sLWord) (defScope sLWord) .none kV12 dc12 pm12 an12 cd12 ct12), sl12⟩) (e12 : PySem.W.codeIn K cd12 "_law_is_word" = true) (k12 : PySem.W.keepIn K (.ref f12) = true)
    (a13 : PySem.W.nsIn K mainGlobals "_law_due" = some (some (.ref f13))) (l13 : K.lookup f13 = some ⟨oc13, od13, .func (PySem.W.fnOf "_law_due" "_law_due" (defArgs sDue) (defBody sDue) (defScope sDue) .none kV13 dc13 pm13 an13 cd13 ct13), sl13⟩) (e13 : PySem.W.codeIn K cd13 "_law_due" = true) (k13 : PySem.W.keepIn K (.ref f13) = true)
    (a14 : PySem.W.nsIn K mainGlobals "_law_told" = some (some (.ref f14))) (l14 : K.lookup f14 = some ⟨oc14, od14, .func (PySem.W.fnOf "_law_told" "_law_told" (defArgs sLTold) (defBody sLTold) (defScope sLTold) .none kV14 dc14 pm14 an14 cd14 ct14), sl14⟩) (e14 : PySem.W.codeIn K cd14 "_law_told" = true) (k14 : PySem.W.keepIn K (.ref f14) = true)
    (a15 : PySem.W.nsIn K mainGlobals "_law_bent_variant" = some (some (.ref f15))) (l15 : K.lookup f15 = some ⟨oc15, od15, .func (PySem.W.fnOf "_law_bent_variant" "_law_bent_variant" (defArgs sBentV) (defBody sBentV) (defScope sBentV) .none kV15 dc15 pm15 an15 cd15 ct15), sl15⟩) (e15 : PySem.W.codeIn K cd15 "_law_bent_variant" = true) (k15 : PySem.W.keepIn K (.ref f15) = true)
    (a16 : PySem.W.nsIn K mainGlobals "_law_bent" = some (some (.ref f16))) (l16 : K.lookup f16 = some ⟨oc16, od16, .func (PySem.W.fnOf "_law_bent" "_law_bent" (defArgs sBent) (defBody sBent) (defScope sBent) .none kV16 dc16 pm16 an16 cd16 ct16), sl16⟩) (e16 : PySem.W.codeIn K cd16 "_law_bent" = true) (k16 : PySem.W.keepIn K (.ref f16) = true)
    (a17 : PySem.W.nsIn K mainGlobals "_law_unknown" = some (some (.ref f17))) (l17 : K.lookup f17 = some ⟨oc17, od17, .func (PySem.W.fnOf "_law_unknown" "_law_unknown" (defArgs sUnk) (defBody sUnk) (defScope sUnk) .none kV17 dc17 pm17 an17 cd17 ct17), sl17⟩) (e17 : PySem.W.codeIn K cd17 "_law_unknown" = true) (k17 : PySem.W.keepIn K (.ref f17) = true)
    (a18 : PySem.W.nsIn K mainGlobals "_law_kept_apart" = some (some (.ref f18))) (l18 : K.lookup f18 = some ⟨oc18, od18, .func (PySem.W.fnOf "_law_kept_apart" "_law_kept_apart" (defArgs sApart) (defBody sApart) (defScope sApart) .none kV18 dc18 pm18 an18 cd18 ct18), sl18⟩) (e18 : PySem.W.codeIn K cd18 "_law_kept_apart" = true) (k18 : PySem.W.keepIn K (.ref f18) = true)
    (a19 : PySem.W.nsIn K mainGlobals "_law_right" = some (some (.ref f19))) (l19 : K.lookup f19 = some ⟨oc19, od19, .func (PySem.W.fnOf "_law_right" "_law_right" (defArgs sRight) (defBody sRight) (defScope sRight) .none kV19 dc19 pm19 an19 cd19 ct19), sl19⟩) (e19 : PySem.W.codeIn K cd19 "_law_right" = true) (k19 : PySem.W.keepIn K (.ref f19) = true)
    (a20 : PySem.W.nsIn K mainGlobals "law" = some (some (.ref f20))) (l20 : K.lookup f20 = some ⟨oc20, od20, .func (PySem.W.fnOf "law" "law" (defArgs sLaw) (defBody sLaw) (defScope sLaw) .none kV20 dc20 pm20 an20 cd20 ct20), sl20⟩) (e20 : PySem.W.codeIn K cd20 "law" = true) (k20 : PySem.W.keepIn K (.ref f20) = true)
    (nG : PySem.W.nsIn K mainGlobals "GuessError" = some (some (.ref G))) (bG : BaseC K G "ValueError.__init__")
    (nM : PySem.W.nsIn K mainGlobals "NameMissing" = some (some (.ref M))) (bM : BaseC K M "LookupError.__init__")
    (nC : PySem.W.nsIn K mainGlobals "Signature" = some (some (.ref C))) (pgC : PySem.W.plainGet K C Str.empty = true) (hdC : PySem.W.hasDictIn K C = true) (poC : PySem.W.plainOver K C = true) (saC : PySem.W.findIn K (.ref C) "__setattr__" = some (some (.builtin "object.__setattr__"))) (mkC : PySem.W.makesIn K C = true) (kcC : PySem.W.keepIn K (.ref C) = true)
    (noC_kinds : PySem.W.findIn K (.ref C) "_kinds" = some none)
    (noC_owners : PySem.W.findIn K (.ref C) "_owners" = some none)
    (noC_primitives : PySem.W.findIn K (.ref C) "_primitives" = some none)
    (x0 : PySem.W.findIn K (.ref C) "__init__" = some (some (.ref m0))) (y0 : PySem.W.isFn K (.ref m0) = true) (lM0 : K.lookup m0 = some ⟨pc0, pd0, .func (PySem.W.fnOf "__init__" "Signature.__init__" (defArgs (meth 16 0)) (defBody (meth 16 0)) (defScope (meth 16 0)) .none pV0 pq0 pp0 pn0 pe0 pt0), ps0⟩) (eM0 : PySem.W.codeIn K pe0 "Signature.__init__" = true) (kM0 : PySem.W.keepIn K (.ref m0) = true)
    (x1 : PySem.W.findIn K (.ref C) "kinds" = some (some (.ref m1))) (y1 : PySem.W.isFn K (.ref m1) = true) (lM1 : K.lookup m1 = some ⟨pc1, pd1, .func (PySem.W.fnOf "kinds" "Signature.kinds" (defArgs (meth 16 1)) (defBody (meth 16 1)) (defScope (meth 16 1)) .none pV1 pq1 pp1 pn1 pe1 pt1), ps1⟩) (eM1 : PySem.W.codeIn K pe1 "Signature.kinds" = true) (kM1 : PySem.W.keepIn K (.ref m1) = true)
    (x2 : PySem.W.findIn K (.ref C) "primitives" = some (some (.ref m2))) (y2 : PySem.W.isFn K (.ref m2) = true) (lM2 : K.lookup m2 = some ⟨pc2, pd2, .func (PySem.W.fnOf "primitives" "Signature.primitives" (defArgs (meth 16 2)) (defBody (meth 16 2)) (defScope (meth 16 2)) .none pV2 pq2 pp2 pn2 pe2 pt2), ps2⟩) (eM2 : PySem.W.codeIn K pe2 "Signature.primitives" = true) (kM2 : PySem.W.keepIn K (.ref m2) = true)
    (x3 : PySem.W.findIn K (.ref C) "variants" = some (some (.ref m3))) (y3 : PySem.W.isFn K (.ref m3) = true) (lM3 : K.lookup m3 = some ⟨pc3, pd3, .func (PySem.W.fnOf "variants" "Signature.variants" (defArgs (meth 16 3)) (defBody (meth 16 3)) (defScope (meth 16 3)) .none pV3 pq3 pp3 pn3 pe3 pt3), ps3⟩) (eM3 : PySem.W.codeIn K pe3 "Signature.variants" = true) (kM3 : PySem.W.keepIn K (.ref m3) = true)
    (x4 : PySem.W.findIn K (.ref C) "variant" = some (some (.ref m4))) (y4 : PySem.W.isFn K (.ref m4) = true) (lM4 : K.lookup m4 = some ⟨pc4, pd4, .func (PySem.W.fnOf "variant" "Signature.variant" (defArgs (meth 16 4)) (defBody (meth 16 4)) (defScope (meth 16 4)) .none pV4 pq4 pp4 pn4 pe4 pt4), ps4⟩) (eM4 : PySem.W.codeIn K pe4 "Signature.variant" = true) (kM4 : PySem.W.keepIn K (.ref m4) = true)
    (x5 : PySem.W.findIn K (.ref C) "has_kind" = some (some (.ref m5))) (y5 : PySem.W.isFn K (.ref m5) = true) (lM5 : K.lookup m5 = some ⟨pc5, pd5, .func (PySem.W.fnOf "has_kind" "Signature.has_kind" (defArgs (meth 16 5)) (defBody (meth 16 5)) (defScope (meth 16 5)) .none pV5 pq5 pp5 pn5 pe5 pt5), ps5⟩) (eM5 : PySem.W.codeIn K pe5 "Signature.has_kind" = true) (kM5 : PySem.W.keepIn K (.ref m5) = true)
    (x6 : PySem.W.findIn K (.ref C) "__eq__" = some (some (.ref m6))) (y6 : PySem.W.isFn K (.ref m6) = true) (lM6 : K.lookup m6 = some ⟨pc6, pd6, .func (PySem.W.fnOf "__eq__" "Signature.__eq__" (defArgs (meth 16 6)) (defBody (meth 16 6)) (defScope (meth 16 6)) .none pV6 pq6 pp6 pn6 pe6 pt6), ps6⟩) (eM6 : PySem.W.codeIn K pe6 "Signature.__eq__" = true) (kM6 : PySem.W.keepIn K (.ref m6) = true)
    (nE0 : PySem.W.nsIn K mainGlobals "BadName" = some (some (.ref CN))) (xE0 : ExC K CN bmV "ValueError.__new__") (xf0 : XfC K CN) (iE0 : PySem.W.findIn K (.ref CN) "__init__" = some (some (.ref g0))) (uE0 : PySem.W.typeIn K (.ref g0) = some (.type "function")) (wE0 : PySem.W.findIn K (.ref CN) "name" = some none)
    (lI0 : K.lookup g0 = some ⟨qc0, qd0, .func (PySem.W.fnOf "__init__" "BadName.__init__" (defArgs (ini 4)) (defBody (ini 4)) (defScope (ini 4)) .none qV0 qq0 qp0 qn0 qe0 qt0), qs0⟩) (eI0 : PySem.W.codeIn K qe0 "BadName.__init__" = true) (kI0 : PySem.W.keepIn K (.ref g0) = true)
    (nE1 : PySem.W.nsIn K mainGlobals "TwiceTold" = some (some (.ref CT))) (xE1 : ExC K CT bmV "ValueError.__new__") (xf1 : XfC K CT) (iE1 : PySem.W.findIn K (.ref CT) "__init__" = some (some (.ref g1))) (uE1 : PySem.W.typeIn K (.ref g1) = some (.type "function")) (wE1 : PySem.W.findIn K (.ref CT) "name" = some none)
    (lI1 : K.lookup g1 = some ⟨qc1, qd1, .func (PySem.W.fnOf "__init__" "TwiceTold.__init__" (defArgs (ini 5)) (defBody (ini 5)) (defScope (ini 5)) .none qV1 qq1 qp1 qn1 qe1 qt1), qs1⟩) (eI1 : PySem.W.codeIn K qe1 "TwiceTold.__init__" = true) (kI1 : PySem.W.keepIn K (.ref g1) = true)
    (nE2 : PySem.W.nsIn K mainGlobals "BadVariant" = some (some (.ref CV))) (xE2 : ExC K CV bmV "ValueError.__new__") (xf2 : XfC K CV) (iE2 : PySem.W.findIn K (.ref CV) "__init__" = some (some (.ref g2))) (uE2 : PySem.W.typeIn K (.ref g2) = some (.type "function")) (wE2 : PySem.W.findIn K (.ref CV) "name" = some none)
    (lI2 : K.lookup g2 = some ⟨qc2, qd2, .func (PySem.W.fnOf "__init__" "BadVariant.__init__" (defArgs (ini 6)) (defBody (ini 6)) (defScope (ini 6)) .none qV2 qq2 qp2 qn2 qe2 qt2), qs2⟩) (eI2 : PySem.W.codeIn K qe2 "BadVariant.__init__" = true) (kI2 : PySem.W.keepIn K (.ref g2) = true)
    (nE3 : PySem.W.nsIn K mainGlobals "UnknownName" = some (some (.ref CU))) (xE3 : ExC K CU bmL "LookupError.__new__") (xf3 : XfC K CU) (iE3 : PySem.W.findIn K (.ref CU) "__init__" = some (some (.ref g3))) (uE3 : PySem.W.typeIn K (.ref g3) = some (.type "function")) (wE3 : PySem.W.findIn K (.ref CU) "name" = some none)
    (lI3 : K.lookup g3 = some ⟨qc3, qd3, .func (PySem.W.fnOf "__init__" "UnknownName.__init__" (defArgs (ini 7)) (defBody (ini 7)) (defScope (ini 7)) .none qV3 qq3 qp3 qn3 qe3 qt3), qs3⟩) (eI3 : PySem.W.codeIn K qe3 "UnknownName.__init__" = true) (kI3 : PySem.W.keepIn K (.ref g3) = true)
    (eUU : PySem.W.exmOne K (.ref CU) (.ref CU) = some true) (T3 : Takes3 K CN CT CV) (eqC : EqC K C m6) (isC : IsC K C)
    (gL : PySem.W.nsIn K mainGlobals "LETTERS" = some (some (.str lets tL))) (gS : PySem.W.nsIn K mainGlobals "WORD_SIGNS" = some (some (.str sgns tS))) (gG : PySem.W.nsIn K mainGlobals "LONGEST_WORD" = some (some (.int 12 tG)))
    (gR : PySem.W.nsIn K mainGlobals "RESERVED" = some (some (.ref aR))) (lR : K.lookup aR = some ⟨.type "tuple", odR, .seq #[.str "none" r1, .str "bit" r2, .str "err" r3, .str "fun" r4, .str "obj" r5] nR, slR⟩)
    (z0 : PySem.W.nsIn K mainGlobals "len" = some none) (z1 : PySem.W.nsIn K mainGlobals "int" = some none) (z2 : PySem.W.nsIn K mainGlobals "abs" = some none) (z3 : PySem.W.nsIn K mainGlobals "range" = some none) (z4 : PySem.W.nsIn K mainGlobals "isinstance" = some none) (z5 : PySem.W.nsIn K mainGlobals "str" = some none) (z6 : PySem.W.nsIn K mainGlobals "tuple" = some none) (z7 : PySem.W.nsIn K mainGlobals "all" = some none) (z8 : PySem.W.nsIn K mainGlobals "list" = some none) (z9 : PySem.W.nsIn K mainGlobals "repr" = some none) (z10 : PySem.W.nsIn K mainGlobals "enumerate" = some none) (z11 : PySem.W.nsIn K mainGlobals "any" = some none) (z12 : PySem.W.nsIn K mainGlobals "dict" = some none) :
    ∃ fd : FuncData, (∀ (s : Shared) (v : Value), BindsTo s fd ⟨[v], []⟩ [("script", v)]) ∧ ∀ base : Heap, K.In base → base.Ns mainGlobals mg → FnQ l.prog w K mg base CX0 8 fa fd ["script"] (spLaw K) := by
  have e := hfa.symm.trans (PySem.W.mg_of X Gn a20)
  cases e
  have T : Txt mg := ⟨PySem.W.mg_none_of X Gn z0, PySem.W.mg_none_of X Gn z1, PySem.W.mg_none_of X Gn z2, PySem.W.mg_none_of X Gn z3⟩
  have D : Glob mg := ⟨PySem.W.mg_none_of X Gn z0, PySem.W.mg_none_of X Gn z4, PySem.W.mg_none_of X Gn z5, PySem.W.mg_none_of X Gn z1, PySem.W.mg_none_of X Gn z9, PySem.W.mg_none_of X Gn z6⟩
  have Dw : GlobW mg := ⟨PySem.W.mg_none_of X Gn z0, PySem.W.mg_none_of X Gn z4, PySem.W.mg_none_of X Gn z5, PySem.W.mg_none_of X Gn z7, ⟨_, PySem.W.mg_of X Gn gL⟩, ⟨_, PySem.W.mg_of X Gn gS⟩, ⟨_, PySem.W.mg_of X Gn gG⟩⟩
  have Gs : GlobS mg := ⟨PySem.W.mg_none_of X Gn z10, PySem.W.mg_none_of X Gn z0, PySem.W.mg_none_of X Gn z4, PySem.W.mg_none_of X Gn z6, PySem.W.mg_none_of X Gn z8, PySem.W.mg_none_of X Gn z5, PySem.W.mg_none_of X Gn z7, PySem.W.mg_none_of X Gn z11⟩
  have F0 := fun_mk (st := sTold) l0 e0 k0
  have b0 := F0.binds (ps := ["value"]) fun _ _ _ _ _ _ us hl => match us, hl with | [_], _ => rfl
  have d0 : Def K mg "told" f0 := ⟨PySem.W.mg_of X Gn a0, k0⟩
  have F1 := fun_mk (st := sWord) l1 e1 k1
  have b1 := F1.binds (ps := ["value"]) fun _ _ _ _ _ _ us hl => match us, hl with | [_], _ => rfl
  have d1 : Def K mg "is_word" f1 := ⟨PySem.W.mg_of X Gn a1, k1⟩
  have F2 := fun_mk (st := sKind) l2 e2 k2
  have b2 := F2.binds (ps := ["value"]) fun _ _ _ _ _ _ us hl => match us, hl with | [_], _ => rfl
  have d2 : Def K mg "is_kind_word" f2 := ⟨PySem.W.mg_of X Gn a2, k2⟩
  have F3 := fun_mk (st := sCheckKinds) l3 e3 k3
  have b3 := F3.binds (ps := ["kinds"]) fun _ _ _ _ _ _ us hl => match us, hl with | [_], _ => rfl
  have d3 : Def K mg "check_kinds" f3 := ⟨PySem.W.mg_of X Gn a3, k3⟩
  have F4 := fun_mk (st := sOwners) l4 e4 k4
  have b4 := F4.binds (ps := ["kinds", "primitives"]) fun _ _ _ _ _ _ us hl => match us, hl with | [_, _], _ => rfl
  have d4 : Def K mg "owners_of" f4 := ⟨PySem.W.mg_of X Gn a4, k4⟩
  have F5 := fun_mk (st := sKnown) l5 e5 k5
  have b5 := F5.binds (ps := ["kinds", "wanted", "result"]) fun _ _ _ _ _ _ us hl => match us, hl with | [_, _, _], _ => rfl
  have d5 : Def K mg "are_known" f5 := ⟨PySem.W.mg_of X Gn a5, k5⟩
  have F6 := fun_mk (st := sAmbig) l6 e6 k6
  have b6 := F6.binds (ps := ["owners", "row"]) fun _ _ _ _ _ _ us hl => match us, hl with | [_, _], _ => rfl
  have d6 : Def K mg "is_ambiguous" f6 := ⟨PySem.W.mg_of X Gn a6, k6⟩
  have F7 := fun_mk (st := sVFor) l7 e7 k7
  have b7 := F7.binds (ps := ["signature", "name", "kinds"]) fun _ _ _ _ _ _ us hl => match us, hl with | [_, _, _], _ => rfl
  have d7 : Def K mg "variant_for" f7 := ⟨PySem.W.mg_of X Gn a7, k7⟩
  have F8 := fun_mk (st := sSource) l8 e8 k8
  have b8 := F8.binds (ps := ["script"]) fun _ _ _ _ _ _ us hl => match us, hl with | [_], _ => rfl
  have d8 : Def K mg "_law_source" f8 := ⟨PySem.W.mg_of X Gn a8, k8⟩
  have F9 := fun_mk (st := sPick) l9 e9 k9
  have b9 := F9.binds (ps := ["source", "many"]) fun _ _ _ _ _ _ us hl => match us, hl with | [_, _], _ => rfl
  have d9 : Def K mg "_law_pick" f9 := ⟨PySem.W.mg_of X Gn a9, k9⟩
  have F10 := fun_mk (st := sOf) l10 e10 k10
  have b10 := F10.binds (ps := ["source", "some"]) fun _ _ _ _ _ _ us hl => match us, hl with | [_, _], _ => rfl
  have d10 : Def K mg "_law_of" f10 := ⟨PySem.W.mg_of X Gn a10, k10⟩
  have F11 := fun_mk (st := sSig) l11 e11 k11
  have b11 := F11.binds (ps := ["source"]) fun _ _ _ _ _ _ us hl => match us, hl with | [_], _ => rfl
  have d11 : Def K mg "_law_signature" f11 := ⟨PySem.W.mg_of X Gn a11, k11⟩
  have F12 := fun_mk (st := sLWord) l12 e12 k12
  have b12 := F12.binds (ps := ["value"]) fun _ _ _ _ _ _ us hl => match us, hl with | [_], _ => rfl
  have d12 : Def K mg "_law_is_word" f12 := ⟨PySem.W.mg_of X Gn a12, k12⟩
  have F13 := fun_mk (st := sDue) l13 e13 k13
  have b13 := F13.binds (ps := ["kinds", "rows"]) fun _ _ _ _ _ _ us hl => match us, hl with | [_, _], _ => rfl
  have d13 : Def K mg "_law_due" f13 := ⟨PySem.W.mg_of X Gn a13, k13⟩
  have F14 := fun_mk (st := sLTold) l14 e14 k14
  have b14 := F14.binds (ps := ["kinds", "rows"]) fun _ _ _ _ _ _ us hl => match us, hl with | [_, _], _ => rfl
  have d14 : Def K mg "_law_told" f14 := ⟨PySem.W.mg_of X Gn a14, k14⟩
  have F15 := fun_mk (st := sBentV) l15 e15 k15
  have b15 := F15.binds (ps := ["source", "kinds", "seen", "row"]) fun _ _ _ _ _ _ us hl => match us, hl with | [_, _, _, _], _ => rfl
  have d15 : Def K mg "_law_bent_variant" f15 := ⟨PySem.W.mg_of X Gn a15, k15⟩
  have F16 := fun_mk (st := sBent) l16 e16 k16
  have b16 := F16.binds (ps := ["source", "kinds", "rows"]) fun _ _ _ _ _ _ us hl => match us, hl with | [_, _, _], _ => rfl
  have d16 : Def K mg "_law_bent" f16 := ⟨PySem.W.mg_of X Gn a16, k16⟩
  have F17 := fun_mk (st := sUnk) l17 e17 k17
  have b17 := F17.binds (ps := ["ground", "odd"]) fun _ _ _ _ _ _ us hl => match us, hl with | [_, _], _ => rfl
  have d17 : Def K mg "_law_unknown" f17 := ⟨PySem.W.mg_of X Gn a17, k17⟩
  have F18 := fun_mk (st := sApart) l18 e18 k18
  have b18 := F18.binds (ps := ["ground", "rows"]) fun _ _ _ _ _ _ us hl => match us, hl with | [_, _], _ => rfl
  have d18 : Def K mg "_law_kept_apart" f18 := ⟨PySem.W.mg_of X Gn a18, k18⟩
  have F19 := fun_mk (st := sRight) l19 e19 k19
  have b19 := F19.binds (ps := ["source", "ground", "kinds", "rows"]) fun _ _ _ _ _ _ us hl => match us, hl with | [_, _, _, _], _ => rfl
  have d19 : Def K mg "_law_right" f19 := ⟨PySem.W.mg_of X Gn a19, k19⟩
  have F20 := fun_mk (st := sLaw) l20 e20 k20
  have FM0 := fun_mk (st := meth 16 0) lM0 eM0 kM0
  have bM0 := FM0.binds (ps := ["self", "kinds", "primitives"]) fun _ _ _ _ _ _ us hl => match us, hl with | [_, _, _], _ => rfl
  have FM1 := fun_mk (st := meth 16 1) lM1 eM1 kM1
  have bM1 := FM1.binds (ps := ["self"]) fun _ _ _ _ _ _ us hl => match us, hl with | [_], _ => rfl
  have M1 : Meth K C "kinds" m1 := ⟨x1, y1, kM1⟩
  have FM2 := fun_mk (st := meth 16 2) lM2 eM2 kM2
  have bM2 := FM2.binds (ps := ["self"]) fun _ _ _ _ _ _ us hl => match us, hl with | [_], _ => rfl
  have M2 : Meth K C "primitives" m2 := ⟨x2, y2, kM2⟩
  have FM3 := fun_mk (st := meth 16 3) lM3 eM3 kM3
  have bM3 := FM3.binds (ps := ["self", "name"]) fun _ _ _ _ _ _ us hl => match us, hl with | [_, _], _ => rfl
  have M3 : Meth K C "variants" m3 := ⟨x3, y3, kM3⟩
  have FM4 := fun_mk (st := meth 16 4) lM4 eM4 kM4
  have bM4 := FM4.binds (ps := ["self", "name"]) fun _ _ _ _ _ _ us hl => match us, hl with | [_, _], _ => rfl
  have M4 : Meth K C "variant" m4 := ⟨x4, y4, kM4⟩
  have FM5 := fun_mk (st := meth 16 5) lM5 eM5 kM5
  have bM5 := FM5.binds (ps := ["self", "value"]) fun _ _ _ _ _ _ us hl => match us, hl with | [_, _], _ => rfl
  have M5 : Meth K C "has_kind" m5 := ⟨x5, y5, kM5⟩
  have FM6 := fun_mk (st := meth 16 6) lM6 eM6 kM6
  have bM6 := FM6.binds (ps := ["self", "other"]) fun _ _ _ _ _ _ us hl => match us, hl with | [_, _], _ => rfl
  have M6 : Meth K C "__eq__" m6 := ⟨x6, y6, kM6⟩
  have FI0 := fun_mk (st := ini 4) lI0 eI0 kI0
  have bI0 := FI0.binds (ps := ["self", "name"]) fun _ _ _ _ _ _ us hl => match us, hl with | [_, _], _ => rfl
  have FI1 := fun_mk (st := ini 5) lI1 eI1 kI1
  have bI1 := FI1.binds (ps := ["self", "name"]) fun _ _ _ _ _ _ us hl => match us, hl with | [_, _], _ => rfl
  have FI2 := fun_mk (st := ini 6) lI2 eI2 kI2
  have bI2 := FI2.binds (ps := ["self", "name"]) fun _ _ _ _ _ _ us hl => match us, hl with | [_, _], _ => rfl
  have FI3 := fun_mk (st := ini 7) lI3 eI3 kI3
  have bI3 := FI3.binds (ps := ["self", "name"]) fun _ _ _ _ _ _ us hl => match us, hl with | [_, _], _ => rfl
  have clS : Cls K C := ⟨pgC, hdC, poC, saC⟩
  have SC : SigC K C := ⟨clS, noC_kinds, noC_owners, noC_primitives⟩
  have MS : Mk K C m0 := ⟨mkC, x0, y0, kcC⟩
  have hR : ∀ H, SqT K H aR (resv.map V.str) := fun H => .inr ⟨_, _, _, lR, rfl, rfl, by show 5 ≤ sizeLine; decide, .cons ⟨_, rfl⟩ (.cons ⟨_, rfl⟩ (.cons ⟨_, rfl⟩ (.cons ⟨_, rfl⟩ (.cons ⟨_, rfl⟩ .nil))))⟩
  refine ⟨PySem.W.fnOf "law" "law" (defArgs sLaw) (defBody sLaw) (defScope sLaw) .none kV20 dc20 pm20 an20 cd20 ct20, fun s v => .of_eq rfl, fun base _ _ => ?_⟩
  have G0 := ok_told (P := l.prog) (w := w) (base := base) F0 D
  have U : Up l.prog w K mg base G M f0 _ := ⟨PySem.W.mg_of X Gn nG, bG, PySem.W.mg_of X Gn nM, bM, G0, d0, b0⟩
  have I0 := ok_i0 (P := l.prog) (w := w) (base := base) FI0 U
  have E0 : MkE l.prog w K mg base "BadName" CN g0 _ bmV "ValueError.__new__" := ⟨xE0, iE0, uE0, I0, bI0, PySem.W.mg_of X Gn nE0, wE0⟩
  have I1 := ok_i1 (P := l.prog) (w := w) (base := base) FI1 U
  have E1 : MkE l.prog w K mg base "TwiceTold" CT g1 _ bmV "ValueError.__new__" := ⟨xE1, iE1, uE1, I1, bI1, PySem.W.mg_of X Gn nE1, wE1⟩
  have I2 := ok_i2 (P := l.prog) (w := w) (base := base) FI2 U
  have E2 : MkE l.prog w K mg base "BadVariant" CV g2 _ bmV "ValueError.__new__" := ⟨xE2, iE2, uE2, I2, bI2, PySem.W.mg_of X Gn nE2, wE2⟩
  have I3 := ok_i3 (P := l.prog) (w := w) (base := base) FI3 U
  have E3 : MkE l.prog w K mg base "UnknownName" CU g3 _ bmL "LookupError.__new__" := ⟨xE3, iE3, uE3, I3, bI3, PySem.W.mg_of X Gn nE3, wE3⟩
  have G1 := ok_word (P := l.prog) (w := w) (base := base) F1 Dw
  have G2 := ok_kind (P := l.prog) (w := w) (base := base) F2 G1 d1 b1 (PySem.W.mg_of X Gn gR) hR
  have G3 := ok_checkKinds (P := l.prog) (w := w) (base := base) (CV := CV) F3 Gs G2 d2 b2 E0 E1
  have G5 := ok_known (P := l.prog) (w := w) (base := base) F5 Gs
  have G6 := ok_ambig (P := l.prog) (w := w) (base := base) F6 Gs
  have G4 := ok_owners (P := l.prog) (w := w) (base := base) F4 G1 d1 b1 G5 d5 b5 G6 d6 b6 E0 E1 E2
  have H0 := ok_sigInit (P := l.prog) (w := w) (base := base) FM0 SC Gs G3 d3 b3 G4 d4 b4
  have H1 := ok_kinds (P := l.prog) (w := w) (base := base) FM1 SC Gs
  have H2 := ok_primitives (P := l.prog) (w := w) (base := base) FM2 SC Gs
  have H3 := ok_variants (P := l.prog) (w := w) (base := base) FM3 SC Gs E3
  have H4 := ok_variant (P := l.prog) (w := w) (base := base) FM4 SC Gs E3
  have H5 := ok_hasKind (P := l.prog) (w := w) (base := base) (mg := mg) FM5 SC
  have H6 := ok_eqS (P := l.prog) (w := w) (base := base) FM6 SC Gs isC (PySem.W.mg_of X Gn nC)
  have G7 := ok_vFor (P := l.prog) (w := w) (base := base) F7 SC M3 H3 bM3
  have G8 := ok_source (P := l.prog) (w := w) (base := base) F8 T
  have G9 := ok_pick (P := l.prog) (w := w) (base := base) F9 T
  have G10 := ok_of (P := l.prog) (w := w) (base := base) F10 T G9 d9 b9
  have G11 := ok_lsig (P := l.prog) (w := w) (base := base) F11 T Gs (PySem.W.mg_none_of X Gn z12) G9 d9 b9 G10 d10 b10 MS (PySem.W.mg_of X Gn nC) (right_of H0) bM0
  have G12 := ok_lword (P := l.prog) (w := w) (base := base) F12 Gs
  have G13 := ok_due (P := l.prog) (w := w) (base := base) F13 Gs T G12 d12 b12
  have G14 := ok_ltold (P := l.prog) (w := w) (base := base) F14 MS (PySem.W.mg_of X Gn nC) H0 bM0 (PySem.W.mg_of X Gn nE0) (PySem.W.mg_of X Gn nE1) (PySem.W.mg_of X Gn nE2) xf0 xf1 xf2 wE0 wE1 wE2 T3
  have G16 : FnOk l.prog w K mg base CX0 4 f16 _ ["source", "kinds", "rows"] spBentE := fnOk_ex fun i => ok_bent (P := l.prog) (w := w) (base := base) i.2.1 i.2.2.1 i.2.2.2 F16 Gs G9 d9 b9 G10 d10 b10 (ok_bentV (P := l.prog) (w := w) (base := base) i.2.1 i.2.2.1 F15 Gs G9 d9 b9 G10 d10 b10) d15 b15
  have UC : UnkC K mg CU := ⟨PySem.W.mg_of X Gn nE3, xf3, wE3, eUU⟩
  have Y : Asks l.prog w K mg base C CU m3 m4 f7 _ _ _ := ⟨SC, M3, H3, bM3, M4, H4, bM4, G7, d7, b7⟩
  have G17 := ok_unknown (P := l.prog) (w := w) (base := base) F17 T (PySem.W.mg_none_of X Gn z9) UC Y
  have G18 := ok_apart (P := l.prog) (w := w) (base := base) F18 T UC Y
  have Z : Asks2 l.prog w K mg base C m1 m2 m5 f17 f18 _ _ _ _ _ := ⟨M1, H1, bM1, M2, H2, bM2, M5, H5, bM5, G17, d17, b17, G18, d18, b18⟩
  have G19 := ok_right (P := l.prog) (w := w) (base := base) F19 T Y Z
  exact ok_law F20 ⟨G8, d8, b8, G9, d9, b9, G11, d11, b11, G16, d16, b16, G13, d13, b13, G14, d14, b14, G19, d19, b19, MS, H0, bM0, PySem.W.mg_of X Gn nC, H6, bM6, eqC, isC, SC, Gs, T, PySem.W.mg_none_of X Gn z12⟩
end K10
open PySem PySem.W PyProof.Rows
set_option maxRecDepth 100000 in
set_option maxHeartbeats 0 in
theorem PySem.Challenge.cw_shapeguess_k10_signatures_made_holds : PySem.Challenge.rw_shapeguess_k10_signatures_made.Holds := by
  w_on; o_law; k_head; (case hw => w_witness2)
  k_fill
  refine Ver.walkQ (l := PySem.Challenge.rw_shapeguess_k10_signatures_made) (n := 63) (k := 8) (x := "script") (sp := fun K => K10.spLaw K) rfl (by decide) rfl ⟨rfl, by decide, by decide⟩ (fun w h Y => PySem.W.kIn_of Y) ?F ?S
  case S => exact fun K H a ns hl _ hS => ⟨a, ns, rfl, hS, hl, fun _ => rfl⟩
  case F =>
    intro w mg fa h KX G hmg
    refine' K10.all_mk KX G hmg ?a0 ?l0 ?e0 ?k0 ?a1 ?l1 ?e1 ?k1 ?a2 ?l2 ?e2 ?k2 ?a3 ?l3 ?e3 ?k3 ?a4 ?l4 ?e4 ?k4 ?a5 ?l5 ?e5 ?k5 ?a6 ?l6 ?e6 ?k6 ?a7 ?l7 ?e7 ?k7 ?a8 ?l8 ?e8 ?k8 ?a9 ?l9 ?e9 ?k9 ?a10 ?l10 ?e10 ?k10 ?a11 ?l11 ?e11 ?k11 ?a12 ?l12 ?e12 ?k12 ?a13 ?l13 ?e13 ?k13 ?a14 ?l14 ?e14 ?k14 ?a15 ?l15 ?e15 ?k15 ?a16 ?l16 ?e16 ?k16 ?a17 ?l17 ?e17 ?k17 ?a18 ?l18 ?e18 ?k18 ?a19 ?l19 ?e19 ?k19 ?a20 ?l20 ?e20 ?k20 ?nG ?bG ?nM ?bM ?nC ?pgC ?hdC ?poC ?saC ?mkC ?kcC ?noC_kinds ?noC_owners ?noC_primitives ?x0 ?y0 ?lM0 ?eM0 ?kM0 ?x1 ?y1 ?lM1 ?eM1 ?kM1 ?x2 ?y2 ?lM2 ?eM2 ?kM2 ?x3 ?y3 ?lM3 ?eM3 ?kM3 ?x4 ?y4 ?lM4 ?eM4 ?kM4 ?x5 ?y5 ?lM5 ?eM5 ?kM5 ?x6 ?y6 ?lM6 ?eM6 ?kM6 ?nE0 ?xE0 ?xf0 ?iE0 ?uE0 ?wE0 ?lI0 ?eI0 ?kI0 ?nE1 ?xE1 ?xf1 ?iE1 ?uE1 ?wE1 ?lI1 ?eI1 ?kI1 ?nE2 ?xE2 ?xf2 ?iE2 ?uE2 ?wE2 ?lI2 ?eI2 ?kI2 ?nE3 ?xE3 ?xf3 ?iE3 ?uE3 ?wE3 ?lI3 ?eI3 ?kI3 ?eUU ?T3 ?eqC ?isC ?gL ?gS ?gG ?gR ?lR ?z0 ?z1 ?z2 ?z3 ?z4 ?z5 ?z6 ?z7 ?z8 ?z9 ?z10 ?z11 ?z12
    (case a0 => k_is); (case l0 => k_is); (case e0 => k_is); (case k0 => k_is); (case a1 => k_is); (case l1 => k_is); (case e1 => k_is); (case k1 => k_is)
    (case a2 => k_is); (case l2 => k_is); (case e2 => k_is); (case k2 => k_is); (case a3 => k_is); (case l3 => k_is); (case e3 => k_is); (case k3 => k_is)
    (case a4 => k_is); (case l4 => k_is); (case e4 => k_is); (case k4 => k_is); (case a5 => k_is); (case l5 => k_is); (case e5 => k_is); (case k5 => k_is)
    (case a6 => k_is); (case l6 => k_is); (case e6 => k_is); (case k6 => k_is); (case a7 => k_is); (case l7 => k_is); (case e7 => k_is); (case k7 => k_is)
    (case a8 => k_is); (case l8 => k_is); (case e8 => k_is); (case k8 => k_is); (case a9 => k_is); (case l9 => k_is); (case e9 => k_is); (case k9 => k_is)
    (case a10 => k_is); (case l10 => k_is); (case e10 => k_is); (case k10 => k_is); (case a11 => k_is); (case l11 => k_is); (case e11 => k_is); (case k11 => k_is)
    (case a12 => k_is); (case l12 => k_is); (case e12 => k_is); (case k12 => k_is); (case a13 => k_is); (case l13 => k_is); (case e13 => k_is); (case k13 => k_is)
    (case a14 => k_is); (case l14 => k_is); (case e14 => k_is); (case k14 => k_is); (case a15 => k_is); (case l15 => k_is); (case e15 => k_is); (case k15 => k_is)
    (case a16 => k_is); (case l16 => k_is); (case e16 => k_is); (case k16 => k_is); (case a17 => k_is); (case l17 => k_is); (case e17 => k_is); (case k17 => k_is)
    (case a18 => k_is); (case l18 => k_is); (case e18 => k_is); (case k18 => k_is); (case a19 => k_is); (case l19 => k_is); (case e19 => k_is); (case k19 => k_is)
    (case a20 => k_is); (case l20 => k_is); (case e20 => k_is); (case k20 => k_is); (case nG => k_is); (case bG => exact ⟨by k_is, by k_is, by k_is⟩); (case nM => k_is); (case bM => exact ⟨by k_is, by k_is, by k_is⟩)
    (case nC => k_is); (case pgC => k_is); (case hdC => k_is); (case poC => k_is); (case saC => k_is); (case mkC => k_is); (case kcC => k_is); (case noC_kinds => k_is)
    (case noC_owners => k_is); (case noC_primitives => k_is); (case x0 => k_is); (case y0 => k_is); (case lM0 => k_is); (case eM0 => k_is); (case kM0 => k_is); (case x1 => k_is)
    (case y1 => k_is); (case lM1 => k_is); (case eM1 => k_is); (case kM1 => k_is); (case x2 => k_is); (case y2 => k_is); (case lM2 => k_is); (case eM2 => k_is)
    (case kM2 => k_is); (case x3 => k_is); (case y3 => k_is); (case lM3 => k_is); (case eM3 => k_is); (case kM3 => k_is); (case x4 => k_is); (case y4 => k_is)
    (case lM4 => k_is); (case eM4 => k_is); (case kM4 => k_is); (case x5 => k_is); (case y5 => k_is); (case lM5 => k_is); (case eM5 => k_is); (case kM5 => k_is)
    (case x6 => k_is); (case y6 => k_is); (case lM6 => k_is); (case eM6 => k_is); (case kM6 => k_is); (case nE0 => k_is); (case xE0 => exact ⟨by kernel_rfl, by kernel_rfl, by k_is, by k_is, by k_is, by k_is, by k_is, by k_is, by k_is, by k_is, by k_is⟩); (case xf0 => exact ⟨by k_is, by k_is, by k_is, by k_is⟩)
    (case iE0 => k_is); (case uE0 => k_is); (case wE0 => k_is); (case lI0 => k_is); (case eI0 => k_is); (case kI0 => k_is); (case nE1 => k_is); (case xE1 => exact ⟨by kernel_rfl, by kernel_rfl, by k_is, by k_is, by k_is, by k_is, by k_is, by k_is, by k_is, by k_is, by k_is⟩)
    (case xf1 => exact ⟨by k_is, by k_is, by k_is, by k_is⟩); (case iE1 => k_is); (case uE1 => k_is); (case wE1 => k_is); (case lI1 => k_is); (case eI1 => k_is); (case kI1 => k_is); (case nE2 => k_is)
    (case xE2 => exact ⟨by kernel_rfl, by kernel_rfl, by k_is, by k_is, by k_is, by k_is, by k_is, by k_is, by k_is, by k_is, by k_is⟩); (case xf2 => exact ⟨by k_is, by k_is, by k_is, by k_is⟩); (case iE2 => k_is); (case uE2 => k_is); (case wE2 => k_is); (case lI2 => k_is); (case eI2 => k_is); (case kI2 => k_is)
    (case nE3 => k_is); (case xE3 => exact ⟨by kernel_rfl, by kernel_rfl, by k_is, by k_is, by k_is, by k_is, by k_is, by k_is, by k_is, by k_is, by k_is⟩); (case xf3 => exact ⟨by k_is, by k_is, by k_is, by k_is⟩); (case iE3 => k_is); (case uE3 => k_is); (case wE3 => k_is); (case lI3 => k_is); (case eI3 => k_is)
    (case kI3 => k_is); (case eUU => kernel_rfl); (case T3 => exact ⟨by kernel_rfl, by kernel_rfl, by kernel_rfl, by kernel_rfl, by kernel_rfl, by kernel_rfl⟩); (case eqC => exact ⟨by first | k_is | kernel_rfl, by first | k_is | kernel_rfl, by first | k_is | kernel_rfl, by first | k_is | kernel_rfl, by first | k_is | kernel_rfl, by first | k_is | kernel_rfl⟩); (case isC => exact ⟨by first | k_is | kernel_rfl, by first | k_is | kernel_rfl, by first | k_is | kernel_rfl, by first | k_is | kernel_rfl, by first | k_is | kernel_rfl, by first | k_is | kernel_rfl, by first | k_is | kernel_rfl⟩); (case gL => k_is); (case gS => k_is); (case gG => k_is)
    (case gR => k_is); (case lR => k_is); (case z0 => k_is); (case z1 => k_is); (case z2 => k_is); (case z3 => k_is); (case z4 => k_is); (case z5 => k_is)
    (case z6 => k_is); (case z7 => k_is); (case z8 => k_is); (case z9 => k_is); (case z10 => k_is); (case z11 => k_is); (case z12 => k_is)
