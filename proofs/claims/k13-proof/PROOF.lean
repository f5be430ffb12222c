import PyProof.Rows.All
import Wide.All
import OpenK.AllK
import Wide.FinOn
import HandS.ForMost
import HandS.IsInst
import HandS.Walk
import HandS.Style
import PySem.Challenge.RW_shapeguess_k13_values_judged
set_option Elab.async false
set_option linter.all false
set_option maxRecDepth 100000
set_option maxHeartbeats 4000000
/-! Ver, 1: an empty dict is no text; plain data of the call's own heap, shown and compared -/
namespace Ver
open PySem PySem.SeqAt
section
variable {A : Around} {s : Shared}
/-- a dict declines to be a text -/
theorem dict_no_text (l : Addr) (o : Obj) (hc : o.cls = .type "dict") (b : Str) (u : Tok) :
    Meets (Builtin.«dict.__eq__» ⟨[.ref l, .str b u], []⟩) (fun _ R s => s.heap.get? l = some o ∧ R (.ok (.ret .notImplemented)) s) :=
  .of_wp fun prog w A R s h => by
    obtain ⟨hp, g, d, tk, os⟩ := s
    obtain ⟨hl, h⟩ := h
    have f1 := F.sub_str_dict
    obtain ⟨c, dd, dt, sl⟩ := o
    subst hc
    wp_walk using AutoSeq1.wpAny_loadPart' hl, wpAny_load hl
    exact ⟨_, rfl, h⟩
/-- a text declines to be a dict -/
theorem text_no_dict (l : Addr) (o : Obj) (es : Array DictEntry) (n : Nat) (hc : o.cls = .type "dict") (hd : o.data = .dict es n) (b : Str) (u : Tok) :
    Meets (Builtin.«str.__eq__» ⟨[.str b u, .ref l], []⟩) (fun _ R s => s.heap.get? l = some o ∧ R (.ok (.ret .notImplemented)) s) :=
  .of_wp fun prog w A R s h => by
    obtain ⟨hp, g, d, tk, os⟩ := s
    obtain ⟨hl, h⟩ := h
    obtain ⟨c, dd, dt, sl⟩ := o
    simp only at hc hd
    subst hc hd
    wp_walk using AutoSeq1.wpAny_loadPart' hl, wpAny_load hl
    exact ⟨_, rfl, h⟩
theorem rc_dict_text {l : Addr} {o : Obj} {es : Array DictEntry} {n : Nat} (ho : s.heap.get? l = some o) (hc : o.cls = .type "dict") (hd : o.data = .dict es n) (b : Str) (u : Tok) (hu : A.units < cLine) :
    RcAt A s (.ref l) (.str b u) false := fun prog w E Q h =>
  rc_eq_decline_or (k := false) ⟨_, ho, hc⟩ (typeIs_str s b u) (by decide) F.sub_str_dict F.slot_dict_eq F.slot_str_eq_refl
    (fun _ hq => call_meets F.slot_dict_eq ⟨_, ho, hc⟩ F.entry_dict_eq (F.args_dict_eq_2 _ _) (dict_no_text l o hc b u) ⟨ho, hq⟩)
    (fun _ hq => call_meets F.slot_str_eq_refl (typeIs_str s b u) F.entry_str_eq (F.args_str_eq_2 _ _) (text_no_dict l o es n hc hd b u) ⟨ho, hq⟩)
    (fun _ hq => wpAny_of_eq (rfl : isSame (.ref l) (.str b u) = pure false) hq) (.inr hu) h
theorem eq_dict_text {l : Addr} {o : Obj} {es : Array DictEntry} {n : Nat} (ho : s.heap.get? l = some o) (hc : o.cls = .type "dict") (hd : o.data = .dict es n) (b : Str) (u : Tok) (hu : A.units < cLine) :
    EqAt A s (.ref l) (.str b u) false := fun prog w E Q h => by
  unfold eqBool
  refine wpAny_holding (wpAny_ite_split (fun z => absurd (eq_of_beq z) nofun) fun _ => ?_)
  exact wpAny_bind (rc_dict_text ho hc hd b u hu prog w E _ (wpAny_truthy_bool h))
end
end Ver
/-! Ver, 2: plain data (Da), its text, its equality with texts and tuples of texts -/
namespace Ver
open PySem PySem.Spec PyProof.Rows L2
open PySem.SeqAt (EqAt RcAt)
mutual
/-- x is the plain datum d in the heap H; no address that N names has a part in it -/
inductive Da (N : Addr → Prop) (H : Hp) : V → PyData → Prop
  | non : Da N H .non .none
  | bl (b : Bool) : Da N H (.bl b) (.bool b)
  | int (i : Int) : Da N H (.int i) (.int i)
  | str (x : Str) : Da N H (.str x) (.str x)
  | lst {a : Addr} {xs : List V} {ds : List PyData} : H a = some (.lst xs) → ¬ N a → a ≠ sysModules → Das N H xs ds → Da N H (.ref a) (.list ds)
  | tup {a : Addr} {xs : List V} {ds : List PyData} : H a = some (.tup xs) → ¬ N a → Das N H xs ds → Da N H (.ref a) (.tuple ds)
  | emp {a : Addr} : H a = some (.dK []) → ¬ N a → Da N H (.ref a) (.dict [])
inductive Das (N : Addr → Prop) (H : Hp) : List V → List PyData → Prop
  | nil : Das N H [] []
  | cons {v : V} {vs : List V} {d : PyData} {ds : List PyData} : Da N H v d → Das N H vs ds → Das N H (v :: vs) (d :: ds)
end
/-- all but what N names is as it was -/
def Keep (N : Addr → Prop) (H H' : Hp) : Prop := ∀ b o, H b = some o → ¬ N b → H' b = some o
theorem Keep.refl {N : Addr → Prop} {H : Hp} : Keep N H H := fun _ _ h _ => h
theorem Keep.trans {N : Addr → Prop} {H H1 H2 : Hp} (a : Keep N H H1) (b : Keep N H1 H2) : Keep N H H2 := fun c o h n => b c o (a c o h n) n
theorem Same.keep {N : Addr → Prop} {H H' : Hp} (e : Same H H') : Keep N H H' := fun b o h _ => e b o h
theorem same_new {H : Hp} {p : Addr} {o : HO} (h : H p = none) : Same H (upd H p o) := fun b x e => by
  rw [upd_ne (ne_of_none e h)]
  exact e
mutual
theorem Da.keep {N : Addr → Prop} {H H' : Hp} (k : Keep N H H') : ∀ {v : V} {d : PyData}, Da N H v d → Da N H' v d
  | _, _, .non => .non
  | _, _, .bl b => .bl b
  | _, _, .int i => .int i
  | _, _, .str x => .str x
  | _, _, .lst e n z q => .lst (k _ _ e n) n z (Das.keep k q)
  | _, _, .tup e n q => .tup (k _ _ e n) n (Das.keep k q)
  | _, _, .emp e n => .emp (k _ _ e n) n
theorem Das.keep {N : Addr → Prop} {H H' : Hp} (k : Keep N H H') : ∀ {vs : List V} {ds : List PyData}, Das N H vs ds → Das N H' vs ds
  | _, _, .nil => .nil
  | _, _, .cons h t => .cons (Da.keep k h) (Das.keep k t)
end
theorem Das.length {N : Addr → Prop} {H : Hp} : ∀ {vs : List V} {ds : List PyData}, Das N H vs ds → vs.length = ds.length
  | _, _, .nil => rfl
  | _, _, .cons _ t => congrArg (· + 1) (Das.length t)
theorem Das.get {N : Addr → Prop} {H : Hp} : ∀ {vs : List V} {ds : List PyData} {i : Nat} {d : PyData}, Das N H vs ds → ds[i]? = some d → ∃ v, vs[i]? = some v ∧ Da N H v d
  | _, _, _, _, .nil, e => by simp at e
  | _, _, 0, _, .cons h _, e => by
    simp at e
    subst e
    exact ⟨_, rfl, h⟩
  | _, _, i + 1, _, .cons _ t, e => by
    obtain ⟨v, h1, h2⟩ := Das.get (i := i) t (by simpa using e)
    exact ⟨v, by simpa using h1, h2⟩

/-- an empty dict of ours, as the library reads it; it is not sys.modules -/
theorem reads_emp {P : Program} {w : World} {H : Hp} {s : Shared} {a : Addr} (hok : HOk P w H s.heap) (e : H a = some (.dK [])) :
    ∃ (o : Obj) (es : Array DictEntry) (n : Nat), s.heap.get? a = some o ∧ o.cls = .type "dict" ∧ o.data = .dict es n ∧ es.toList = [] ∧ a ≠ sysModules := by
  obtain ⟨_, ns, vs, rel, o, es, ep, ho, hx, hd, _, hp, _⟩ := hok a _ e
  cases rel
  refine ⟨o, es, ep, ho, hx.1, hd, ?_, fun z => by rw [z] at ns; simp at ns⟩
  generalize es.toList = l at hp
  cases hp
  rfl
section
variable {X : Cx} {pins : List (Addr × Obj)} {σ : L2.St} {H : Hp} {s : Shared} {N : Addr → Prop}
mutual
theorem Da.reads (I : Inv X pins σ H s) : ∀ {v : V} {d : PyData} {u : Value}, Da N H v d → RelV v u → ∃ as, Reads s.heap u d as ∧ sysModules ∉ as
  | _, _, _, .non, r => by
    cases r
    exact ⟨[], .none, by simp⟩
  | _, _, _, .bl b, r => by
    cases r
    exact ⟨[], .bool b, by simp⟩
  | _, _, _, .int i, r => by
    obtain ⟨t, rfl⟩ := r
    exact ⟨[], .int i t, by simp⟩
  | _, _, _, .str x, r => by
    obtain ⟨t, rfl⟩ := r
    exact ⟨[], .str x t, by simp⟩
  | _, _, _, .lst e n z q, r => by
    cases r
    obtain ⟨its, rv, ⟨o, m, ho, hc, _, hd⟩, _⟩ := I.list (SqL.of e)
    obtain ⟨as, h1, h2⟩ := Das.reads I q rv
    exact ⟨_, .list ho hc hd h1, fun hm => (List.mem_cons.mp hm).elim (fun e => z e.symm) h2⟩
  | _, _, _, .tup e n q, r => by
    cases r
    obtain ⟨its, rv, ⟨o, ho, hc, m, hd⟩, _⟩ := I.tuple (SqT.of e)
    obtain ⟨as, h1, h2⟩ := Das.reads I q rv
    exact ⟨_, .tuple ho hc hd h1, h2⟩
  | _, _, _, .emp e n, r => by
    cases r
    obtain ⟨o, es, m, ho, hc, hd, hz, ns⟩ := reads_emp I.hok e
    exact ⟨_, .dict ho hc hd (by rw [hz]; exact .nil) (by rw [hz]; exact .nil), fun hm => by
      rcases List.mem_cons.mp hm with e | e
      · exact ns e.symm
      · simp at e⟩
theorem Das.reads (I : Inv X pins σ H s) : ∀ {vs : List V} {ds : List PyData} {us : List Value}, Das N H vs ds → Vals vs us → ∃ as, ReadsAll s.heap us ds as ∧ sysModules ∉ as
  | _, _, _, .nil, r => by
    cases r
    exact ⟨[], .nil, by simp⟩
  | _, _, _, .cons h t, r => by
    cases r with
    | cons r1 r2 =>
      obtain ⟨as, h1, h2⟩ := Da.reads I h r1
      obtain ⟨bs, h3, h4⟩ := Das.reads I t r2
      exact ⟨_, .cons h1 h3, fun hm => (List.mem_append.mp hm).elim h2 h4⟩
end
/-- what can be shown: its text is at most n signs long, it is at most k deep -/
structure Fit (n k : Nat) (d : PyData) : Prop where
  ok : d.showable = true
  len : d.shown.length ≤ n
  dep : d.depth ≤ k
/-- repr(x), x plain data -/
theorem call_reprD {n k : Nat} (hg : X.A.guards = some []) (hu : X.A.units + (k + 1) < cLine) (hn : n ≤ sizeLine) :
    CallR X (.builtin "repr") (fun xs H Q => ∃ v d, xs = [v] ∧ Da N H v d ∧ Fit n k d ∧ Q (.str d.shown) H) := by
  intro pins s σ H xs us Q I r h
  obtain ⟨v, d, rfl, hv, ⟨f1, f2, f3⟩, q⟩ := h
  obtain ⟨u, rfl, ru⟩ := vals1 r
  obtain ⟨as, hr, hs⟩ := hv.reads I ru
  have hz : d.shown.length ≤ sizeLine := Nat.le_trans f2 hn
  cases hv with
  | non =>
    cases ru
    exact PySem.P.repr_of_none ⟨.str _, H, I.tok _, ⟨_, rfl⟩, q⟩
  | bl b =>
    cases ru
    exact PySem.P.repr_of_bool ⟨.str _, H, I.tok _, ⟨_, rfl⟩, by cases b <;> exact q⟩
  | int i =>
    obtain ⟨t, rfl⟩ := ru
    exact PySem.P.repr_of_int (by simpa [PyData.showable] using f1) ⟨.str _, H, I.tok _, ⟨_, rfl⟩, q⟩
  | str x =>
    obtain ⟨t, rfl⟩ := ru
    exact PySem.P.repr_of_str ⟨.str _, H, I.tok _, ⟨_, rfl⟩, q⟩ hz
  | lst e _ _ _ =>
    cases ru
    exact repr_of_reads' hr f1 (fun _ => hs) hg (by omega) (fun _ _ e => e) (fun h' t tk kk => ⟨.str _, H, I.kept kk, ⟨_, rfl⟩, q⟩) hz
  | tup e _ _ =>
    cases ru
    exact repr_of_reads' hr f1 (fun _ => hs) hg (by omega) (fun _ _ e => e) (fun h' t tk kk => ⟨.str _, H, I.kept kk, ⟨_, rfl⟩, q⟩) hz
  | emp e _ =>
    cases ru
    exact repr_of_reads' hr f1 (fun _ => hs) hg (by omega) (fun _ _ e => e) (fun h' t tk kk => ⟨.str _, H, I.kept kk, ⟨_, rfl⟩, q⟩) hz
end
end Ver
/-! Ver, 3: what fits; equality of data with texts and with tuples of texts; x in [..]; text * int; list(tuple); lists behind sys.modules -/
namespace Ver
open PySem PySem.Spec PyProof.Rows L2
open PySem.SeqAt (EqAt RcAt)
theorem Fit.mono {n n' k k' : Nat} {d : PyData} (f : Fit n k d) (h : n ≤ n') (hk : k ≤ k') : Fit n' k' d := ⟨f.ok, Nat.le_trans f.len h, Nat.le_trans f.dep hk⟩
theorem fits_all {n k : Nat} : ∀ {ds : List PyData}, (∀ d ∈ ds, Fit n k d) → PyData.showableAll ds = true ∧ piled (PyData.shownAll ds) ≤ ds.length * (n + 2) ∧ PyData.depthAll ds ≤ k ∧ (PyData.shownAll ds).length = ds.length
  | [], _ => ⟨rfl, by simp [PyData.shownAll, piled], by simp [PyData.depthAll], rfl⟩
  | d :: ds, h => by
    obtain ⟨h1, h2, h3, h4⟩ := fits_all (ds := ds) fun e he => h e (List.mem_cons_of_mem _ he)
    obtain ⟨f1, f2, f3⟩ := h d List.mem_cons_self
    refine ⟨by simp [PyData.showableAll, f1, h1], ?_, by simp [PyData.depthAll]; omega, by simp [PyData.shownAll, h4]⟩
    show piled (d.shown :: PyData.shownAll ds) ≤ (ds.length + 1) * (n + 2)
    rw [piled_cons, Nat.add_mul]
    omega
theorem join_le (ts : List Str) : (Str.join ", " ts).length ≤ piled ts := by
  by_cases h : ts = []
  · subst h
    exact Nat.zero_le _
  · have := join_length_add ts h
    omega
theorem fit_tup {n k m : Nat} {ds : List PyData} (h : ∀ d ∈ ds, Fit n k d) (hm : ds.length * (n + 2) + 3 ≤ m) : Fit m (k + 1) (.tuple ds) := by
  obtain ⟨h1, h2, h3, h4⟩ := fits_all h
  refine ⟨by simpa [PyData.showable] using h1, ?_, by simp [PyData.depth]; omega⟩
  show (tupleText (PyData.shownAll ds)).length ≤ m
  unfold tupleText
  rw [strLen_append, strLen_append]
  have e1 : (("(" : String) : Str).length = 1 := rfl
  have e2 : ((if (PyData.shownAll ds).length == 1 then ",)" else ")" : String) : Str).length ≤ 2 := by
    split <;> decide
  have := join_le (PyData.shownAll ds)
  omega
theorem textFrom_le : ∀ (ts : List Str) (k : Nat) (acc : Str), (textFrom k acc ts).length ≤ acc.length + piled ts
  | [], k, acc => Nat.le_add_right _ _
  | t :: r, k, acc => by
    have h := textFrom_le r (k + 1) (acc ++ (if k > 0 then ", " else "" : String) ++ t)
    have e : (acc ++ (if k > 0 then ", " else "" : String) ++ t).length ≤ acc.length + 2 + t.length := by
      rw [strLen_append, strLen_append]
      have : ((if k > 0 then ", " else "" : String) : Str).length ≤ 2 := by split <;> decide
      omega
    rw [piled_cons]
    show (textFrom (k + 1) (acc ++ (if k > 0 then ", " else "" : String) ++ t) r).length ≤ _
    omega
theorem fit_lst {n k m : Nat} {ds : List PyData} (h : ∀ d ∈ ds, Fit n k d) (hm : ds.length * (n + 2) + 2 ≤ m) : Fit m (k + 1) (.list ds) := by
  obtain ⟨h1, h2, h3, h4⟩ := fits_all h
  refine ⟨by simpa [PyData.showable] using h1, ?_, by simp [PyData.depth]; omega⟩
  show (textFrom 0 "[" (PyData.shownAll ds) ++ "]" : Str).length ≤ m
  rw [strLen_append]
  have := textFrom_le (PyData.shownAll ds) 0 "["
  have e1 : (("[" : String) : Str).length = 1 := rfl
  have e2 : (("]" : String) : Str).length = 1 := rfl
  omega
theorem fit_none {n k : Nat} (h : 4 ≤ n) : Fit n k .none := ⟨rfl, h, Nat.zero_le _⟩
theorem fit_bool {n k : Nat} (b : Bool) (h : 5 ≤ n) : Fit n k (.bool b) := ⟨rfl, by cases b <;> (refine Nat.le_trans ?_ h; decide), Nat.zero_le _⟩
theorem fit_emp {n k : Nat} (h : 2 ≤ n) (hk : 1 ≤ k) : Fit n k (.dict []) := ⟨rfl, by refine Nat.le_trans ?_ h; decide, by simpa [PyData.depth, PyData.depthKv] using hk⟩
theorem fit_str {n k : Nat} {x : Str} (hx : ∀ c ∈ x.cps.toList, c < 16 ^ 8) (h : 10 * x.length + 2 ≤ n) : Fit n k (.str x) :=
  ⟨rfl, Nat.le_trans (StrLaws.reprText_len x hx) h, Nat.zero_le _⟩
/-! ### equality with texts -/
/-- is the datum this text -/
def eqS : PyData → Str → Bool
  | .str x, y => x == y
  | _, _ => false
/-- are the data these texts, one by one -/
def eqSs : List PyData → List Str → Bool
  | [], [] => true
  | d :: ds, y :: ys => eqS d y && eqSs ds ys
  | _, _ => false
section
variable {X : Cx} {pins : List (Addr × Obj)} {σ : L2.St} {H : Hp} {s : Shared} {N : Addr → Prop}
theorem Da.rcText {A : Around} (I : Inv X pins σ H s) {v : V} {d : PyData} {u : Value} (h : Da N H v d) (r : RelV v u) (y : Str) (t : Tok) (hu : A.units < cLine) : RcAt A s u (.str y t) (eqS d y) := by
  cases h with
  | non =>
    cases r
    exact .none_str y t
  | bl b =>
    cases r
    exact .bool_str b y t
  | int i =>
    obtain ⟨t', rfl⟩ := r
    exact .int_str i t' y t
  | str x =>
    obtain ⟨t', rfl⟩ := r
    exact .str_str x t' y t
  | lst e _ _ _ =>
    cases r
    obtain ⟨its, rv, p, _⟩ := I.list (SqL.of e)
    exact .list_str y t p.isList hu
  | tup e _ _ =>
    cases r
    obtain ⟨its, rv, p, _⟩ := I.tuple (SqT.of e)
    exact .tuple_str y t p hu
  | emp e _ =>
    cases r
    obtain ⟨o, es, n, ho, hc, hd, _, _⟩ := reads_emp I.hok e
    exact rc_dict_text ho hc hd y t hu
theorem Da.eqText {A : Around} (I : Inv X pins σ H s) {v : V} {d : PyData} {u : Value} (h : Da N H v d) (r : RelV v u) (y : Str) (t : Tok) (hu : A.units < cLine) : EqAt A s u (.str y t) (eqS d y) := by
  cases h with
  | non =>
    cases r
    exact .none_str y t
  | bl b =>
    cases r
    exact .bool_str b y t
  | int i =>
    obtain ⟨t', rfl⟩ := r
    exact .int_str i t' y t
  | str x =>
    obtain ⟨t', rfl⟩ := r
    exact .str_str x t' y t
  | lst e _ _ _ =>
    cases r
    obtain ⟨its, rv, p, _⟩ := I.list (SqL.of e)
    exact .list_str y t p.isList hu
  | tup e _ _ =>
    cases r
    obtain ⟨its, rv, p, _⟩ := I.tuple (SqT.of e)
    exact .tuple_str y t p hu
  | emp e _ =>
    cases r
    obtain ⟨o, es, n, ho, hc, hd, _, _⟩ := reads_emp I.hok e
    exact eq_dict_text ho hc hd y t hu
/-- place by place, as the comparison of two tuples asks -/
theorem eqSs_range : ∀ (ds : List PyData) (ys : List Str),
    ((List.range (min ds.length ys.length)).all (fun j => eqS (ds.getD j .none) (ys.getD j Str.empty)) && ds.length == ys.length) = eqSs ds ys
  | [], [] => rfl
  | [], _ :: _ => by simp [eqSs]
  | _ :: _, [] => by simp [eqSs]
  | d :: ds, y :: ys => by
    have ih := eqSs_range ds ys
    show _ = (eqS d y && eqSs ds ys)
    rw [← ih, List.length_cons, List.length_cons, Nat.succ_min_succ, List.range_succ_eq_map, List.all_cons, List.all_map, Bool.and_assoc]
    have e : (ds.length + 1 == ys.length + 1) = (ds.length == ys.length) := by simp
    rw [e]
    rfl
theorem Das.eqTexts {A : Around} (I : Inv X pins σ H s) (hu : A.units < cLine) : ∀ {vs : List V} {ds : List PyData} {us ws : List Value} {ys : List Str}, Das N H vs ds → Vals vs us → Vals (ys.map V.str) ws →
    ∀ (j : Nat) (h1 : j < us.length) (h2 : j < ws.length), EqAt A s us[j] ws[j] (eqS (ds.getD j .none) (ys.getD j Str.empty))
  | _, _, _, _, _, .nil, .nil, _ => fun j h1 _ => absurd h1 (Nat.not_lt_zero _)
  | _, _, _, _, [], .cons _ _, _, r => fun j _ h2 => by
    cases r
    exact absurd h2 (Nat.not_lt_zero _)
  | _, _, _, _, y :: ys, .cons h t, .cons r1 r2, r => fun j h1 h2 => by
    cases r with
    | cons r3 r4 =>
      cases j with
      | zero =>
        obtain ⟨t', rfl⟩ := r3
        exact h.eqText I r1 y t' hu
      | succ j => exact Das.eqTexts I hu t r2 r4 j (by simpa using h1) (by simpa using h2)
theorem Das.rcTexts {A : Around} {a b : Addr} {xs : List V} {ds : List PyData} {ys : List Str} (I : Inv X pins σ H s) (e : SqT X.K H a xs) (q : Das N H xs ds) (f : SqT X.K H b (ys.map V.str)) (hu : A.units + 1 < cLine) :
    RcAt A s (.ref a) (.ref b) (eqSs ds ys) := by
  obtain ⟨its, rv, p, _⟩ := I.tuple e
  obtain ⟨jts, rw', p', _⟩ := I.tuple f
  have l1 : its.length = ds.length := rv.length.symm.trans q.length
  have l2 : jts.length = ys.length := by
    have := rw'.length
    rw [List.length_map] at this
    exact this.symm
  have h := RcAt.tuples (A := A) (s := s) (e := fun j => eqS (ds.getD j .none) (ys.getD j Str.empty)) p p' (by omega) (fun j h1 h2 => by
    have := Das.eqTexts (A := A.in1) I (show A.units + 1 < cLine from hu) q rv rw' j (by simpa using h1) (by simpa using h2)
    simpa using this)
  have e1 : its.toArray.size = ds.length := by simpa using l1
  have e2 : jts.toArray.size = ys.length := by simpa using l2
  rw [e1, e2] at h
  rw [eqSs_range] at h
  exact h
/-- tuples stand apart or are one: then the answer is yes on both sides -/
theorem Das.eqTextsRef {A : Around} {a b : Addr} {xs : List V} {ds : List PyData} {ys : List Str} (I : Inv X pins σ H s) (e : SqT X.K H a xs) (q : Das N H xs ds) (f : SqT X.K H b (ys.map V.str)) (hu : A.units + 1 < cLine) :
    EqAt A s (.ref a) (.ref b) (eqSs ds ys) := by
  by_cases hab : a = b
  · subst hab
    have ex : xs = ys.map V.str := I.tuple_inj e f
    subst ex
    have : eqSs ds ys = true := by
      clear e f hu I
      induction ys generalizing ds with
      | nil =>
        cases q
        rfl
      | cons y ys ih =>
        cases q with
        | cons h t =>
          cases h
          show (y == y && eqSs _ ys) = true
          rw [ih t, beq_self_eq_true]
          rfl
    rw [this]
    exact .same _
  · exact .of_refs hab (Das.rcTexts I e q f hu)
end
section
variable {X : Cx} {N : Addr → Prop}
/-- x == "..", x any datum -/
def rEqS (N : Addr → Prop) : R2 := fun x y H Q => ∃ d z, Da N H x d ∧ y = .str z ∧ Q (.bl (eqS d z)) H
theorem op_eqS (hu : X.A.units < cLine) : OpR X (compareOp .Eq) (rEqS N) := by
  intro pins s σ H x y v u Q I rx ry h
  obtain ⟨d, z, hd, rfl, q⟩ := h
  obtain ⟨t, rfl⟩ := ry
  exact hd.rcText I rx z t hu _ _ _ _ ⟨.bl _, H, I, rfl, q⟩
/-- x == (.., ..), a tuple of data against a tuple of texts -/
def rEqT (K : PySem.W.Frag) (N : Addr → Prop) : R2 := fun x y H Q => ∃ a xs ds b ys, x = .ref a ∧ SqT K H a xs ∧ Das N H xs ds ∧ y = .ref b ∧ SqT K H b (ys.map V.str) ∧ Q (.bl (eqSs ds ys)) H
theorem op_eqT (hu : X.A.units + 1 < cLine) : OpR X (compareOp .Eq) (rEqT X.K N) := by
  intro pins s σ H x y v u Q I rx ry h
  obtain ⟨a, xs, ds, b, ys, rfl, e, q, rfl, f, k⟩ := h
  cases rx
  cases ry
  exact Das.rcTexts I e q f hu _ _ _ _ ⟨.bl _, H, I, rfl, k⟩
end
end Ver
/-! Ver, 4: x in [(..), ..]; text * int; list(tuple); lists behind sys.modules; a def that is called where nothing is being shown; the law's call -/
namespace Ver
open PySem PySem.Spec PyProof.Rows L2
open PySem.SeqAt (EqAt RcAt)
section
variable {A : Around} {s : Shared}
theorem sub_dict_text : isSubtype (.type "dict") (.type "str") = pure false := by
  rw [isSubtype_type]
  kernel_rfl
theorem eq_text_dict {l : Addr} {o : Obj} {es : Array DictEntry} {n : Nat} (ho : s.heap.get? l = some o) (hc : o.cls = .type "dict") (hd : o.data = .dict es n) (b : Str) (u : Tok) (hu : A.units < cLine) :
    EqAt A s (.str b u) (.ref l) false := fun prog w E Q h => by
  unfold eqBool
  refine wpAny_holding (wpAny_ite_split (fun z => absurd (eq_of_beq z) nofun) fun _ => ?_)
  refine wpAny_bind (SeqAt.rc_eq_decline_or (k := false) (typeIs_str s b u) ⟨_, ho, hc⟩ (by decide) sub_dict_text F.slot_str_eq F.slot_dict_eq_refl
    (fun _ hq => call_meets F.slot_str_eq (typeIs_str s b u) F.entry_str_eq (F.args_str_eq_2 _ _) (text_no_dict l o es n hc hd b u) ⟨ho, hq⟩)
    (fun _ hq => call_meets F.slot_dict_eq_refl ⟨_, ho, hc⟩ F.entry_dict_eq (F.args_dict_eq_2 _ _) (dict_no_text l o hc b u) ⟨ho, hq⟩)
    (fun _ hq => wpAny_of_eq (rfl : isSame (.str b u) (.ref l) = pure false) hq) (.inr hu) (wpAny_truthy_bool h))
end
theorem beq_comm_str (x y : Str) : (x == y) = (y == x) := by
  by_cases h : x = y
  · rw [h]
  · rw [beq_eq_false_iff_ne.mpr h, beq_eq_false_iff_ne.mpr (Ne.symm h)]
section
variable {X : Cx} {pins : List (Addr × Obj)} {σ : L2.St} {H : Hp} {s : Shared} {N : Addr → Prop}
theorem Da.textEq {A : Around} (I : Inv X pins σ H s) {v : V} {d : PyData} {u : Value} (h : Da N H v d) (r : RelV v u) (y : Str) (t : Tok) (hu : A.units < cLine) : EqAt A s (.str y t) u (eqS d y) := by
  cases h with
  | non =>
    cases r
    exact .str_none y t
  | bl b =>
    cases r
    exact .str_bool y t b
  | int i =>
    obtain ⟨t', rfl⟩ := r
    exact .str_int y t i t'
  | str x =>
    obtain ⟨t', rfl⟩ := r
    have e : eqS (.str x) y = (y == x) := beq_comm_str x y
    rw [e]
    exact .str_str y t x t'
  | lst e _ _ _ =>
    cases r
    obtain ⟨its, rv, p, _⟩ := I.list (SqL.of e)
    exact .str_list y t p.isList hu
  | tup e _ _ =>
    cases r
    obtain ⟨its, rv, p, _⟩ := I.tuple (SqT.of e)
    exact .str_tuple y t p hu
  | emp e _ =>
    cases r
    obtain ⟨o, es, n, ho, hc, hd, _, _⟩ := reads_emp I.hok e
    exact eq_text_dict ho hc hd y t hu
theorem eqSs_rangeR : ∀ (ds : List PyData) (ys : List Str),
    ((List.range (min ys.length ds.length)).all (fun j => eqS (ds.getD j .none) (ys.getD j Str.empty)) && ys.length == ds.length) = eqSs ds ys := fun ds ys => by
  rw [← eqSs_range, Nat.min_comm]
  congr 1
  by_cases h : ys.length = ds.length
  · rw [h]
  · rw [beq_eq_false_iff_ne.mpr h, beq_eq_false_iff_ne.mpr (Ne.symm h)]
theorem Das.textsEq {A : Around} (I : Inv X pins σ H s) (hu : A.units < cLine) : ∀ {vs : List V} {ds : List PyData} {us ws : List Value} {ys : List Str}, Das N H vs ds → Vals vs us → Vals (ys.map V.str) ws →
    ∀ (j : Nat) (h2 : j < ws.length) (h1 : j < us.length), EqAt A s ws[j] us[j] (eqS (ds.getD j .none) (ys.getD j Str.empty))
  | _, _, _, _, _, .nil, .nil, _ => fun j _ h1 => absurd h1 (Nat.not_lt_zero _)
  | _, _, _, _, [], .cons _ _, _, r => fun j h2 _ => by
    cases r
    exact absurd h2 (Nat.not_lt_zero _)
  | _, _, _, _, y :: ys, .cons h t, .cons r1 r2, r => fun j h2 h1 => by
    cases r with
    | cons r3 r4 =>
      cases j with
      | zero =>
        obtain ⟨t', rfl⟩ := r3
        exact h.textEq I r1 y t' hu
      | succ j => exact Das.textsEq I hu t r2 r4 j (by simpa using h2) (by simpa using h1)
theorem Das.textsEqRef {A : Around} {a b : Addr} {xs : List V} {ds : List PyData} {ys : List Str} (I : Inv X pins σ H s) (e : SqT X.K H a xs) (q : Das N H xs ds) (f : SqT X.K H b (ys.map V.str)) (hu : A.units + 1 < cLine) :
    EqAt A s (.ref b) (.ref a) (eqSs ds ys) := by
  by_cases hab : a = b
  · subst hab
    have h1 := Das.eqTextsRef (A := A) I e q f hu
    exact h1
  · obtain ⟨its, rv, p, _⟩ := I.tuple e
    obtain ⟨jts, rw', p', _⟩ := I.tuple f
    have l1 : its.length = ds.length := rv.length.symm.trans q.length
    have l2 : jts.length = ys.length := by
      have := rw'.length
      rw [List.length_map] at this
      exact this.symm
    have h := RcAt.tuples (A := A) (s := s) (e := fun j => eqS (ds.getD j .none) (ys.getD j Str.empty)) p' p (by omega) (fun j h1 h2 => by
      have := Das.textsEq (A := A.in1) I (show A.units + 1 < cLine from hu) q rv rw' j (by simpa using h1) (by simpa using h2)
      simpa using this)
    have e1 : its.toArray.size = ds.length := by simpa using l1
    have e2 : jts.toArray.size = ys.length := by simpa using l2
    rw [e1, e2, eqSs_rangeR] at h
    exact .of_refs (Ne.symm hab) h
end
section
variable {X : Cx} {N : Addr → Prop}
/-- x in [(..), (..), (..)]: is it one of these -/
def rInT (K : PySem.W.Frag) (N : Addr → Prop) : R2 := fun x y H Q => ∃ a xs ds l b1 b2 b3 y1 y2 y3, x = .ref a ∧ SqT K H a xs ∧ Das N H xs ds ∧ y = .ref l ∧ SqL K H l [.ref b1, .ref b2, .ref b3] ∧
  (SqT K H b1 (y1.map V.str) ∧ SqT K H b2 (y2.map V.str) ∧ SqT K H b3 (y3.map V.str)) ∧ (b1 ≠ b2 ∧ b1 ≠ b3 ∧ b2 ≠ b3) ∧ Q (.bl (eqSs ds y1 || eqSs ds y2 || eqSs ds y3)) H
theorem op_inT (hu : X.A.units + 2 < cLine) : OpR X (compareOp .In) (rInT X.K N) := by
  intro pins s σ H x y v u Q I rx ry h
  obtain ⟨a, xs, ds, l, b1, b2, b3, y1, y2, y3, rfl, e, q, rfl, hl, ⟨f1, f2, f3⟩, ⟨n1, n2, n3⟩, k⟩ := h
  cases rx
  cases ry
  obtain ⟨its, rv, p, _⟩ := I.list hl
  obtain rfl : its = [.ref b1, .ref b2, .ref b3] := by
    cases rv with
    | cons r1 rv =>
      cases rv with
      | cons r2 rv =>
        cases rv with
        | cons r3 rv =>
          cases rv
          cases r1
          cases r2
          cases r3
          rfl
  refine SeqAt.in_listAt (fun u => if u = .ref b1 then eqSs ds y1 else if u = .ref b2 then eqSs ds y2 else eqSs ds y3) p.isList (fun w hw => ?_) ⟨.bl _, H, I, rfl, ?_⟩
  · have hw' : w = .ref b1 ∨ w = .ref b2 ∨ w = .ref b3 := by simpa using hw
    have hu' : X.A.in1.units + 1 < cLine := hu
    rcases hw' with rfl | rfl | rfl
    · rw [if_pos rfl]
      exact Das.textsEqRef I e q f1 hu'
    · rw [if_neg (fun z => n1 (by injection z with z; exact z.symm)), if_pos rfl]
      exact Das.textsEqRef I e q f2 hu'
    · rw [if_neg (fun z => n2 (by injection z with z; exact z.symm)), if_neg (fun z => n3 (by injection z with z; exact z.symm))]
      exact Das.textsEqRef I e q f3 hu'
  · have h2 : (Value.ref b2 = Value.ref b1) = False := eq_false fun z => n1 (by injection z with z; exact z.symm)
    have h3 : (Value.ref b3 = Value.ref b1) = False := eq_false fun z => n2 (by injection z with z; exact z.symm)
    have h4 : (Value.ref b3 = Value.ref b2) = False := eq_false fun z => n3 (by injection z with z; exact z.symm)
    simp only [List.any_toArray, List.any_cons, List.any_nil, if_true, h2, h3, h4, if_false, Bool.or_false]
    simpa [Bool.or_assoc] using k
/-- text * n, n a small number -/
theorem op_times : OpR X (binaryOp .Mult) (fun x y H Q => ∃ z n, x = .str z ∧ y = .int n ∧ MulOk z n ∧ Q (.str (Txt.mul z n)) H) := by
  intro pins s σ H x y v u Q I rx ry h
  obtain ⟨z, n, rfl, rfl, hm, q⟩ := h
  obtain ⟨t, rfl⟩ := rx
  obtain ⟨t', rfl⟩ := ry
  exact PySem.SB.mul hm fun t2 k => ⟨.str _, H, I.tok _, ⟨_, rfl⟩, q⟩
/-- a new list, which is not sys.modules -/
def tLstB (t : TA) : TE := fun σ H Q => t σ H fun xs H1 => xs.length ≤ sizeLine ∧ ∀ p, H1 p = none → p ≠ sysModules → Q (.ref p) (upd H1 p (.lst xs))
theorem pe_lstB {es : List Expr} {t : TA} {pos : Pos} (h : PA X es t) : PE X (.List es pos) (tLstB t) := by
  refine ⟨fun pins s σ H Q I hq => wpAny_List_spliced (thn (h.run pos pins s σ H _ I hq) ?_)⟩
  rintro us s1 ⟨xs, H1, I1, r, z, q⟩
  have new : H1 s1.heap.objs.size = none := I1.hok.fresh (Nat.le_refl _)
  have big : s1.heap.objs.size ≠ sysModules := Nat.ne_of_gt I1.big
  refine ⟨by rw [← r.length]; exact z, .ref s1.heap.objs.size, upd H1 s1.heap.objs.size (.lst xs), ?_, rfl, q _ new big⟩
  refine I1.laid (t' := s1.toks) (fun b u e => Heap.get?_push_of_some _ e) (Nat.le_refl _) ?_
  exact ⟨z, us, 0, r, Heap.get?_push_size _ rfl⟩
/-- list(t), t a tuple; the new list is not sys.modules -/
theorem call_list_tupB : CallR X (.type "list") (fun xs H Q => ∃ p ys, xs = [.ref p] ∧ SqT X.K H p ys ∧ ∀ l, H l = none → l ≠ sysModules → Q (.ref l) (upd H l (.lst ys))) := by
  rintro pins s σ H xs us Q I r ⟨p, ys, rfl, hq, q⟩
  obtain ⟨u, rfl, rx⟩ := vals1 r
  cases rx
  obtain ⟨its, rv, ⟨o, ho, hc, n, hd⟩, hz⟩ := I.tuple hq
  have hl := rv.length
  refine call_list_seq p (.inr rfl) ho hc hd (fun h' c' kp e => ?_) (by rw [List.size_toArray]; omega)
  have new : H s.heap.objs.size = none := I.hok.fresh (Nat.le_refl _)
  exact ⟨.ref _, _, I.laid (t' := s.toks) (o := .lst ys) kp (Nat.le_refl _) ⟨hz, its, c', rv, e⟩, rfl, q _ new (Nat.ne_of_gt I.big)⟩
end
end Ver
/-! Ver, 5: defs that are called where nothing is being shown (repr asks that), up to the law's own call -/
namespace Ver
open PySem PySem.Spec PyProof.Rows L2
/-- a promise kept wherever nothing is being shown -/
structure FnQ (P : Program) (w : World) (K : PySem.W.Frag) (mg : Str → Option Value) (base : Heap) (CX : CXT) (k : Nat) (f : Addr) (fd : FuncData) (ps : List Str) (sp : Sp) : Prop where
  len : ∀ vs H Q E, sp vs H Q E → vs.length = ps.length
  run : ∀ (A : Around) (outer : List Env) (s : Shared) (H : Hp) (args : Args) (us : List Value) (vs : List V) (Q : VK) (E : XK),
    A.guards = some [] → Room k A → Env0 P w K mg base A outer s H → BindsTo s fd args (ps.zip us) → Vals vs us → sp vs H Q E →
      codeAny (model P w) A (.call (.ref f) args) (CR CX outer P w H s Q E) s
section
variable {CX : CXT} {P : Program} {w : World} {K : PySem.W.Frag} {mg : Str → Option Value} {base : Heap}
/-- such a def by its body: there, too, nothing is being shown -/
theorem fnQ_of {k : Nat} {f : Addr} {x qual : Str} {st : Stmt} {fd : FuncData} {N ps : List Str} {sp : Sp} (F : Fun K x qual st f fd) (S : FnScope N ps (defScope st))
    (len : ∀ vs H Q E, sp vs H Q E → vs.length = ps.length)
    (body : ∀ (cdv : Value) (A : Around) (outer : List Env) (s : Shared) (H : Hp) (vs : List V) (Q : VK) (E : XK), A.guards = some [] →
      Room k (A.deeper (envOfC qual (defScope st) s.heap.objs.size f cdv)) → sp vs H Q E →
        ∃ t, PSs (cxOf CX P w K mg base N qual (defScope st) f cdv A outer s H E) (defBody st) t ∧ t { nx := fun _ H' => Q .non H', rt := Q } (start N vs) H) :
    FnQ P w K mg base CX (k + 1) f fd ps sp := by
  obtain ⟨oc, od, kV, doc, pm, an, cdv, ct, osl, rfl, lk, hcd⟩ := F.ex
  refine ⟨len, ?_⟩
  intro A outer s H args us vs Q E hg hr e0 hb r hsp
  have old : ∀ b o, base.get? b = some o → s.heap.get? b = some o := fun b o e => (e0.bs b o e).1
  have written : K.In s.heap := e0.mod.kin.keeps old
  refine codeAny_call_function hr.depth (written _ _ lk) rfl S.co S.gen rfl (PySem.W.codeRec_of written hcd) (hb _ _ _ _ ?_)
  refine wpAny_newFunctionEnv_cells S.kind (fun y hy => ?_) (fun env he s1 x => ?_)
  · have hp := S.par y.1 (List.of_mem_zip (a := y.1) (b := y.2) hy).1
    exact hp.imp id fun q => ⟨q, PySem.W.cellsFrom_some _ _ _ (.inl q)⟩
  subst he
  refine ⟨(e0.mod.nolimit.keeps old).keeps x.toInCall.keep, codeAny_func ?_⟩
  obtain ⟨t, ht, hq⟩ := body cdv A outer s H vs Q E hg (hr.deeper _) hsp
  have I := inv_start (CX := CX) (E := E) S hr.hd e0 (len _ _ _ _ hsp) r x
  refine wpAny_mono (ht.run [] s1 (start N vs) H _ I hq) ?_ fun _ _ z => z
  intro fl s' h
  cases fl with
  | brk => exact h.elim fun _ ⟨_, _, z⟩ => z.elim
  | cont => exact h.elim fun _ ⟨_, _, z⟩ => z.elim
  | next =>
    obtain ⟨_, H', J, q⟩ := h
    exact ⟨.non, H', J.os, J.bare, J.base, J.hok, rfl, q⟩
  | ret u =>
    obtain ⟨v, _, H', J, rv, q⟩ := h
    exact ⟨v, H', J.os, J.bare, J.base, J.hok, rv, q⟩
/-- .. from which no exception leaves -/
theorem fnQ_ok {k : Nat} {f : Addr} {x qual : Str} {st : Stmt} {fd : FuncData} {N ps : List Str} {sp : Sp} (F : Fun K x qual st f fd) (S : FnScope N ps (defScope st))
    (len : ∀ vs H Q E, sp vs H Q E → vs.length = ps.length)
    (body : ∀ (cdv : Value) (A : Around) (outer : List Env) (s : Shared) (H : Hp) (vs : List V) (Q : VK) (E : XK), A.guards = some [] →
      Room k (A.deeper (envOfC qual (defScope st) s.heap.objs.size f cdv)) → sp vs H Q E →
        ∃ t, PSs (cxOf CX0 P w K mg base N qual (defScope st) f cdv A outer s H E).nox (defBody st) t ∧ t { nx := fun _ H' => Q .non H', rt := Q } (start N vs) H) :
    FnQ P w K mg base CX0 (k + 1) f fd ps sp := fnQ_of F S len fun cdv A outer s H vs Q E hg hr hsp =>
  let ⟨t, h, q⟩ := body cdv A outer s H vs Q E hg hr hsp
  ⟨t, h.nox, q⟩
end
/-! ### a call of such a def -/
section
variable {X : Cx} {CX : CXT} {k : Nat} {f : Addr} {fd : FuncData} {ps : List Str} {sp : Sp} {dvs : List V} {ds : List Value} {E : XK} {x : Str} {p pos : Pos} {e : Expr} {es : List Expr} {t : TA}
theorem pe_callQ (hg0 : X.A.guards = some []) (F : FnQ X.prog X.w X.K X.mg X.base CX k f fd ps sp) (hr : Room k X.A) (hg : Gl X x) (hm : X.mg x = some (.ref f)) (hk : PySem.W.keepIn X.K (.ref f) = true)
    (hb : Binds X.K fd ps ds) (hd : Vals dvs ds) (hx : Passes CX X E) (ha : PA X (e :: es) t) (hdb : (x == ("__debug__" : Str)) = false := by decide)
    (he : starEach (e :: es) X.env = (false, eval e X.env) :: starEach es X.env := by rfl) (hpl : (backTo pos (starEach es X.env)).any (·.1) = false := by rfl) :
    PE X (.Call (.Name x p) (e :: es) [] pos) (tCall sp dvs E t) := by
  refine ⟨fun pins s σ H Q I h => wpAny_Call_Name_kw (ld_glob I hg hm ?_ hdb)⟩
  refine PySem.W.callWith_K (h₀ := X.base) I.ok.mod.kin hk (thn (ha.run pos pins s σ H _ I h) ?_) he hpl
  rintro us s1 ⟨vs, H1, I1, r, q⟩
  refine ⟨I1.kIn, wpAny_call ?_⟩
  have all : Vals (vs ++ dvs) (us ++ ds) := r.append hd
  have many : (us ++ ds).length = ps.length := all.length.symm.trans (F.len _ _ _ _ q)
  refine codeAny_mono (F.run X.A X.stack s1 H1 ⟨us, []⟩ _ _ Q E hg0 hr I1.env0 (hb s1 us I1.kIn many) all q) ?_
  intro res s2 hq
  match res, hq with
  | .ok (.ret u), hq => exact I1.after hq
  | .error er, hq => exact hx pins σ H1 s1 er s2 I1 hq
  | .ok .next, hq => exact hq.elim
  | .ok .brk, hq => exact hq.elim
  | .ok .cont, hq => exact hq.elim
end
/-! ### the law's call -/
section
variable {P : Program} {w : World} {K : PySem.W.Frag} {mg mb : Str → Option Value} {k : Nat} {fa a : Addr} {fd : FuncData} {x : Str} {sp : Sp} {s₁ : Shared} {vs : List Value} {ns : List Int}
abbrev Good (s₁ : Shared) (r : Result) (s' : Shared) : Prop := r = .ok (.ret (.bool true)) ∧ OldK s₁.heap s'.heap ∧ s'.os = s₁.os ∧ AllBare s'.gens
/-- from an abstract heap in which at most the script is known -/
theorem call_at {H : Hp} (KX : K.In s₁.heap) (hns : s₁.heap.Ns mainGlobals mg) (hb : s₁.heap.Ns builtinsNs mb) (hbb : ∀ x : Str, x ≠ "__name__" → mb x = bootBuiltins x) (hlim : s₁.heap.NoLimit) (hg : s₁.gens = #[])
    (ha : s₁.heap.get? a = some { cls := .type "list", data := .seq vs.toArray }) (hr : Room k callerA)
    (F : ∀ base : Heap, K.In base → base.Ns mainGlobals mg → FnQ P w K mg base CX0 k fa fd [x] sp) (hbind : ∀ (s : Shared) (u : Value), BindsTo s fd ⟨[u], []⟩ [(x, u)])
    (hO : Only H) (hA : ∀ b, H b ≠ none → b = a) (hK : H a ≠ none → K.lookup a = none) (hok : HOk P w H s₁.heap) (hsp : sp [.ref a] H (fun v _ => v = .bl true) fun _ _ _ => False) :
    codeAny (model P w) callerA (.call (.ref fa) ⟨[.ref a], []⟩) (Good s₁) s₁ := by
  have un : ∀ b, b ≠ a → H b = none := fun b hb => Classical.byContradiction fun z => hb (hA b z)
  have dictUn : ∀ {b : Addr} {o : Obj} {es : Array DictEntry} {ep : Nat}, s₁.heap.get? b = some o → o.data = .dict es ep → H b = none := by
    intro b o es ep e d
    refine un b fun z => ?_
    rw [z, ha] at e
    cases e
    cases d
  have ns : ∀ {b : Addr} {m : Str → Option Value}, s₁.heap.Ns b m → (hidT s₁.heap H).Ns b m := by
    rintro b m ⟨o, es, ep, e, d, r⟩
    exact ⟨o, es, ep, hidT_get e (dictUn e d), d, r⟩
  have hKb : K.In (hidT s₁.heap H) := by
    intro b o e
    refine hidT_get (KX b o e) ?_
    by_cases hb : b = a
    · exact Classical.byContradiction fun z => by
        have q := hK (by rw [← hb]; exact z)
        rw [← hb, e] at q
        cases q
    · exact un b hb
  have hM : Mod K mg (hidT s₁.heap H) := ⟨hKb, ns hns, ⟨mb, ns hb, hbb⟩, hlim.imp fun mc h => ⟨ns h.1, h.2⟩⟩
  have e0 : Env0 P w K mg (hidT s₁.heap H) callerA [] s₁ H :=
    ⟨rfl, hM, fun b o e => of_hidT e, Nat.le_of_eq (hidT_size _ _), trivial, fun b hb => absurd (show b ∈ ([] : List Addr) from hb) List.not_mem_nil, hok, .of_eq hg⟩
  refine codeAny_mono ((F _ hKb (ns hns)).run callerA [] s₁ H ⟨[.ref a], []⟩ [.ref a] [.ref a] _ _ rfl hr e0 (hbind s₁ (.ref a)) (.cons rfl .nil) hsp) ?_
  intro r s' h
  match r, h with
  | .error e, h => exact h.elim
  | .ok .next, h => exact h.elim
  | .ok .brk, h => exact h.elim
  | .ok .cont, h => exact h.elim
  | .ok (.ret u), ⟨v, H', os, bare, u1, hok', rv, q⟩ =>
    obtain rfl : v = .bl true := q
    obtain rfl : u = .bool true := rv
    refine ⟨rfl, OldK.of_keep fun b o e => ?_, os, bare⟩
    rcases hO b with z | ⟨ob, xs, z⟩
    · exact u1.keep b o e z (show b ∉ ([] : List Addr) from List.not_mem_nil) List.not_mem_nil
    · have e1 := (hok b _ z).1
      have e2 := (hok' b _ (u1.frzs b ob _ z)).1
      exact e2.trans (e1.symm.trans e)
theorem call_law (KX : K.In s₁.heap) (hns : s₁.heap.Ns mainGlobals mg) (hb : s₁.heap.Ns builtinsNs mb) (hbb : ∀ x : Str, x ≠ "__name__" → mb x = bootBuiltins x) (hlim : s₁.heap.NoLimit) (hg : s₁.gens = #[])
    (ha : s₁.heap.get? a = some { cls := .type "list", data := .seq vs.toArray }) (hi : IntsAre vs ns) (hl : ns.length ≤ sizeLine) (hr : Room k callerA)
    (F : ∀ base : Heap, K.In base → base.Ns mainGlobals mg → FnQ P w K mg base CX0 k fa fd [x] sp) (hbind : ∀ (s : Shared) (u : Value), BindsTo s fd ⟨[u], []⟩ [(x, u)])
    (hsp : ∀ H : Hp, Only H → SqL K H a (ns.map V.int) → sp [.ref a] H (fun v _ => v = .bl true) fun _ _ _ => False) :
    codeAny (model P w) callerA (.call (.ref fa) ⟨[.ref a], []⟩) (Good s₁) s₁ := by
  have rv := vals_ints hi
  cases hk : K.lookup a with
  | some o =>
    have e : o = { cls := .type "list", data := .seq vs.toArray } := Option.some.inj ((KX a o hk).symm.trans ha)
    subst e
    have O : Only fun _ => none := fun _ => .inl rfl
    refine call_at (H := fun _ => none) KX hns hb hbb hlim hg ha hr F hbind O (fun b z => absurd rfl z) (fun z => absurd rfl z) (fun b u z => nomatch z) (hsp _ O (.inr ?_))
    exact ⟨_, vs.toArray, _, hk, rfl, rfl, rfl, by rw [List.size_toArray, hi.length]; exact hl, rv⟩
  | none =>
    let H : Hp := fun b => if b = a then some (.frz { cls := .type "list", data := .seq vs.toArray } (.lst (ns.map V.int))) else none
    have at_a : H a = some (.frz { cls := .type "list", data := .seq vs.toArray } (.lst (ns.map V.int))) := if_pos rfl
    have off : ∀ b, b ≠ a → H b = none := fun b hb => if_neg hb
    have O : Only H := fun b => by
      by_cases hb : b = a
      · exact .inr ⟨_, _, by rw [hb]; exact at_a⟩
      · exact .inl (off b hb)
    refine call_at (H := H) KX hns hb hbb hlim hg ha hr F hbind O (fun b z => Classical.byContradiction fun q => z (off b q)) (fun _ => hk) (fun b u z => ?_) (hsp H O (.inl (.inr ⟨_, at_a⟩)))
    by_cases hb : b = a
    · subst hb
      rw [at_a] at z
      cases z
      exact ⟨ha, by rw [List.length_map]; exact hl, vs, _, rv, ha⟩
    · rw [off b hb] at z
      cases z
end
/-- what the head leaves, from the law's promise -/
theorem walkQ {l : PySem.W.OpenLaw} {n k : Nat} {q : Program} {loose : List Str} {XP : (Str → Option Value) → Heap → Prop} {YP : World → Heap → Prop} {d : DefRec} {K : Params → PySem.W.Frag} {sp : PySem.W.Frag → Sp} {x : Str}
    (hn : l.most = some n) (hn2 : n ≤ sizeLine) (hdf : d.params.defaults = []) (hr : Room k callerA) (hY : ∀ (w : World) (h : Heap), YP w h → (K w.params).In h)
    (F : ∀ (w : World) (mg : Str → Option Value) (fa : Addr) (h : Heap), (K w.params).In h → h.Ns mainGlobals mg → mg d.name = some (.ref fa) →
      ∃ fd : FuncData, (∀ (s : Shared) (u : Value), BindsTo s fd ⟨[u], []⟩ [(x, u)]) ∧
        ∀ base : Heap, (K w.params).In base → base.Ns mainGlobals mg → FnQ l.prog w (K w.params) mg base CX0 k fa fd [x] (sp (K w.params)))
    (hsp : ∀ (K : PySem.W.Frag) (H : Hp) (a : Addr) (ns : List Int), ns.length ≤ n → Only H → SqL K H a (ns.map V.int) → sp K [.ref a] H (fun v _ => v = .bl true) fun _ _ _ => False) :
    PySem.W.WalkO q loose XP YP l.row.toRowW d [] (fun f vs => PySem.call f vs) := by
  refine Att.attach_call hn hdf ?_
  intro w s₀ s₁ mg mb fa o pm cd doc a vs ns G Y ho hd hcd hmg hobj hints hlen hg
  obtain ⟨fd, hb, hF⟩ := F w mg fa _ (hY w _ Y) G.T.g hmg
  exact call_law (hY w _ Y) G.T.g G.T.b G.T.builtins G.T.nolimit hg hobj hints (Nat.le_trans hlen hn2) hr hF hb fun H hO hS => hsp _ H a ns hlen hO hS
end Ver
namespace Ver
open PySem PySem.Spec PyProof.Rows L2
/-! ### types -/
def tyName : PyData → String
  | .none => "NoneType"
  | .bool _ => "bool"
  | .int _ => "int"
  | .str _ => "str"
  | .list _ => "list"
  | .tuple _ => "tuple"
  | .dict _ => "dict"
theorem Da.ty {K : PySem.W.Frag} {N : Addr → Prop} {H : Hp} : ∀ {v : V} {d : PyData}, Da N H v d → TyX K H v (.type (tyName d))
  | _, _, .non => .base .non
  | _, _, .bl b => .base (.bl b)
  | _, _, .int i => .base (.int i)
  | _, _, .str x => .base (.str x)
  | _, _, .lst e _ _ _ => .base (.lst e)
  | _, _, .tup e _ _ => .base (.tup e)
  | _, _, .emp e _ => .base (.dK e)
def isStr : PyData → Bool
  | .str _ => true
  | _ => false
def isTup : PyData → Bool
  | .tuple _ => true
  | _ => false
def isInt : PyData → Bool
  | .int _ => true
  | .bool _ => true
  | _ => false
def isBool : PyData → Bool
  | .bool _ => true
  | _ => false
section
variable {K : PySem.W.Frag}
theorem kit_str (d : PyData) : PySem.W.kitOne K (.type (tyName d)) (.type "str") = some (isStr d) := by
  cases d <;> (dsimp only [tyName, isStr]; exact kit_ty (by decide +kernel))
theorem kit_tuple (d : PyData) : PySem.W.kitOne K (.type (tyName d)) (.type "tuple") = some (isTup d) := by
  cases d <;> (dsimp only [tyName, isTup]; exact kit_ty (by decide +kernel))
theorem kit_int (d : PyData) : PySem.W.kitOne K (.type (tyName d)) (.type "int") = some (isInt d) := by
  cases d <;> (dsimp only [tyName, isInt]; exact kit_ty (by decide +kernel))
theorem kit_bool (d : PyData) : PySem.W.kitOne K (.type (tyName d)) (.type "bool") = some (isBool d) := by
  cases d <;> (dsimp only [tyName, isBool]; exact kit_ty (by decide +kernel))
end
section
variable {X : Cx}
/-- the same rules, where it is told last which addresses are left out -/
def rEqE : R2 := fun x y H Q => ∃ N, rEqS N x y H Q
theorem op_eqE (hu : X.A.units < cLine) : OpR X (compareOp .Eq) rEqE := fun pins s σ H x y v u Q I rx ry ⟨N, h⟩ => op_eqS (N := N) hu pins s σ H x y v u Q I rx ry h
theorem call_reprE {n k : Nat} (hg : X.A.guards = some []) (hu : X.A.units + (k + 1) < cLine) (hn : n ≤ sizeLine) :
    CallR X (.builtin "repr") (fun xs H Q => ∃ N v d, xs = [v] ∧ Da N H v d ∧ Fit n k d ∧ Q (.str d.shown) H) :=
  fun pins s σ H xs us Q I r ⟨N, h⟩ => call_reprD (N := N) hg hu hn pins s σ H xs us Q I r h
end
end Ver
/-! K13, 1: the draws -/
namespace K13
open PySem PySem.Spec PyProof.Rows L2 Ver
def top (i : Nat) : Stmt := PySem.Challenge.pw_shapeguess_k13_values_judged.main.body.getD i (.Pass ⟨0, 0, 0, 0⟩)
abbrev sSource : Stmt := top 13
abbrev sPick : Stmt := top 14
abbrev sOf : Stmt := top 15
/-- the draws' dict -/
def dsrc (c : Addr) (l m t : Int) : List (Key × V) := [(Sum.inr "cells", .ref c), (Sum.inr "left", .int l), (Sum.inr "mixed", .int m), (Sum.inr "turn", .int t)]
/-- the draws' state: a dict at p, its list at c -/
def Src (p c : Addr) (H : Hp) : Prop := p ≠ c ∧ ∃ (ns : List Int) (l m t : Int), H p = some (.dK (dsrc c l m t)) ∧ H c = some (.lst (ns.map V.int)) ∧ ns.length ≤ 63
section
variable {H : Hp} {p c : Addr} {l m t : Int} (h : H p = some (.dK (dsrc c l m t)))
include h
theorem get_cells : DGet H p (.str "cells") (some (.ref c)) := DGet.k (k := Sum.inr "cells") h
theorem get_left : DGet H p (.str "left") (some (.int l)) := DGet.k (k := Sum.inr "left") h
theorem get_mixed : DGet H p (.str "mixed") (some (.int m)) := DGet.k (k := Sum.inr "mixed") h
theorem get_turn : DGet H p (.str "turn") (some (.int t)) := DGet.k (k := Sum.inr "turn") h
theorem put_left (z : Int) : DPut H p (.str "left") (.int z) (upd H p (.dK (dsrc c z m t))) := DPut.k (k := Sum.inr "left") (v := .int z) h (by show 4 < sizeLine; decide)
theorem put_turn (z : Int) : DPut H p (.str "turn") (.int z) (upd H p (.dK (dsrc c l m z))) := DPut.k (k := Sum.inr "turn") (v := .int z) h (by show 4 < sizeLine; decide)
end
/-- the two addresses that draws change -/
def Off (p c : Addr) : Addr → Prop := fun a => a = p ∨ a = c
/-- len(x), x a list or a tuple -/
def rLen (K : PySem.W.Frag) : List V → Hp → VK → Prop := fun xs H Q => ∃ p ys, xs = [V.ref p] ∧ (SqL K H p ys ∨ SqT K H p ys) ∧ Q (.int ys.length) H
theorem int_at {ns : List Int} {i : Nat} {y : V} (h : (ns.map V.int)[i]? = some y) : ∃ z, y = .int z := by
  rw [List.getElem?_map] at h
  obtain ⟨z, _, e⟩ := Option.map_eq_some_iff.mp h
  exact ⟨z, e.symm⟩
theorem merge4 (a b c d : V) : mergeK [] [(Sum.inr "cells", a), (Sum.inr "left", b), (Sum.inr "mixed", c), (Sum.inr "turn", d)] = ([(Sum.inr "cells", a), (Sum.inr "left", b), (Sum.inr "mixed", c), (Sum.inr "turn", d)] : List (Key × V)) := by
  rfl
def spSource (K : PySem.W.Frag) : Sp := fun vs H Q _ => ∃ (a : Addr) (ns : List Int), vs = [.ref a] ∧ SqL K H a (ns.map V.int) ∧ ns.length ≤ 63 ∧ ∀ p c H', Same H H' → H p = none → H c = none → Src p c H' → Q (.ref p) H'
def spPick : Sp := fun vs H Q _ => ∃ (p c : Addr) (many : Int), vs = [.ref p, .int many] ∧ Src p c H ∧ 1 ≤ many ∧ many ≤ 1000 ∧
  ∀ (r : Int) (H' : Hp), 0 ≤ r → r < many → Keep (Off p c) H H' → Src p c H' → Q (.int r) H'
structure Txt (mg : Str → Option Value) : Prop where
  len : mg "len" = none
  int : mg "int" = none
  abs : mg "abs" = none
  range : mg "range" = none
section
variable {P : Program} {w : World} {K : PySem.W.Frag} {mg : Str → Option Value} {base : Heap}
theorem scS : FnScope ["script", "mixed", "cell", "digits", "k"] ["script"] (defScope sSource) := ⟨rfl, rfl, rfl, by decide +kernel, rfl, by decide +kernel, by decide +kernel⟩
theorem ok_source {f : Addr} {fd : FuncData} (F : Fun K "_law_source" "_law_source" sSource f fd) (T : Txt mg) : FnOk P w K mg base CX0 1 f fd ["script"] (spSource K) := by
  refine F.ok scS (fun vs H Q E h => ?_) (fun cdv A outer s H vs Q E hr h => ?_)
  · obtain ⟨a, ns, rfl, _⟩ := h
    rfl
  · obtain ⟨a, ns, rfl, hS, hl, k⟩ := h
    refine ⟨_, pss_cons (ps_set (i := 1) scS.nd rfl (.inl rfl) pe_int)
      (pss_cons (ps_for PassesOwn.never rfl (pi_list (pv 0)) (pg_name (i := 2) scS.nd rfl (.inl rfl))
        (pss_one (ps_set (i := 1) scS.nd rfl (.inl rfl) (pe_op op_mod (pe_callTy call_int1 (by rfl) T.int (by decide +kernel)
          (pa_cons (pe_op op_add (pe_op op_add (pe_op op_mul (pv 1) pe_int) (pe_op op_mul (pv 2) pe_int)) pe_int) pa_nil)) pe_int))))
      (pss_cons (ps_set (i := 3) scS.nd rfl (.inr rfl) (pe_lc (own := [("cell", 2)]) (g := gName 2) (tt := tYes) rfl scS.nd (pi_list (pv 0))
        (blkOk_by (N := ["script", "mixed", "cell", "digits", "k"]) (sc := defScope sSource) (by decide +kernel)) (fun _ _ _ _ _ => pg_name (i := 2) scS.nd rfl (.inl rfl)) (fun _ _ _ _ _ => pts_nil)
        (fun _ _ _ _ _ => pe_callB call_abs (by rfl) T.abs (by decide +kernel) (pa_cons (pv 2) pa_nil))))
      (pss_one (ps_ret (pe_disp (pps_cons pe_str (pe_lc (own := [("k", 4)]) (g := gName 4) (tt := tYes) rfl scS.nd
          (pi_range1 (by rfl) T.range (pa_cons (pe_callB call_len_seq (by rfl) T.len PySem.boot_len (pa_cons (pv 3) pa_nil)) pa_nil))
          (blkOk_by (N := ["script", "mixed", "cell", "digits", "k"]) (sc := defScope sSource) (by decide +kernel)) (fun _ _ _ _ _ => pg_name (i := 4) scS.nd rfl (.inl rfl)) (fun _ _ _ _ _ => pts_nil)
          (fun _ _ _ _ _ => pe_ix (r := rIxL K) ix_list (pv 3) (pe_op op_sub (pe_op op_sub (pe_callB (r := rLen K) call_len_seq (by rfl) T.len PySem.boot_len (pa_cons (pv 3) pa_nil)) pe_int) (pv 4)) (fun _ _ => rfl)))
        (pps_cons pe_str pe_int (pps_cons pe_str (pv 1) (pps_cons pe_str pe_int pps_nil)))) (by rfl) (by rfl) (fun z => by cases z) (by decide)))))), ?_⟩
    -- mixed = 11; for cell in script
    refine ⟨_, rfl, a, rfl, ⟨_, hS⟩, for_list (K := K) (a := a) (xs := ns.map V.int) (fun i σ H2 => ∃ m v, σ = [some (.ref a), some (.int m), v, none, none] ∧ H2 = H ∧ 0 ≤ m ∧ m < 2147483629)
      ⟨11, none, rfl, rfl, by decide, by decide⟩ (fun i σ H2 _ ⟨_, _, _, e, _⟩ => e ▸ hS) ?_ ?_⟩
    · rintro i y σ H2 hi ⟨m, v, rfl, rfl, h0, h1⟩
      obtain ⟨z, rfl⟩ := int_at hi
      refine ⟨_, rfl, _, _, rfl, rfl, .inl ⟨by omega, by omega⟩, _, rfl, _, _, rfl, rfl, .inr ⟨by decide, by decide⟩, _, _, rfl, rfl, _, _, rfl, rfl, .inl ⟨_, rfl, _, _, rfl, rfl, by show (0 : Int) < 2147483629; decide, ?_⟩⟩
      exact ⟨_, _, rfl, rfl, Int.emod_nonneg _ (by decide), Int.emod_lt_of_pos _ (by decide)⟩
    · rintro σ H2 ⟨m, v, rfl, rfl, h0, h1⟩
      -- digits = [abs(cell) for cell in script]
      refine ⟨_, rfl, a, rfl, ⟨_, hS⟩, fun D nD => lc_list (K := K) (a := a) (xs := ns.map V.int) (fun i H3 => Same H2 H3 ∧ ∃ ms : List Int, H3 D = some (.lst (ms.map V.int)) ∧ ms.length = i)
        ⟨same_new nD, [], upd_same, rfl⟩ (fun i H3 _ ⟨sm, _⟩ => sm.seq hS) ?_ ?_⟩
      · rintro i y H3 hi ⟨sm, ms, hD, hm⟩
        obtain ⟨z, rfl⟩ := int_at hi
        have hil : i < ns.length := by
          have := (List.getElem?_eq_some_iff.mp hi).1
          rwa [List.length_map] at this
        refine ⟨rfl, _, rfl, _, rfl, _, hD, by rw [List.length_map]; exact small1000 (by omega), ?_⟩
        exact ⟨fun b o e => by rw [upd_ne (ne_of_none e nD)]; exact sm b o e, ms ++ [_], by rw [upd_same, List.map_append]; rfl, by rw [List.length_append, hm]; rfl⟩
      · rintro H3 ⟨sm, ms, hD, hm⟩
        rw [List.length_map] at hm
        -- the display
        intro p np
        have nDp : D ≠ p := ne_of_none hD np
        have hD' : (upd H3 p (.dK [])) D = some (.lst (ms.map V.int)) := by
          rw [upd_ne nDp]
          exact hD
        refine ⟨_, rfl, _, _, rfl, .inl (SqL.of hD'), _, rfl, by rw [List.length_map]; omega, by rw [List.length_map]; omega, fun C nC => ?_⟩
        have nCp : p ≠ C := ne_of_none (upd_same : (upd H3 p (.dK [])) p = _) nC
        have nCD : D ≠ C := ne_of_none hD' nC
        refine lc_range (lo := 0) (fun i H4 => Same (upd H3 p (.dK [])) H4 ∧ ∃ ks : List Int, H4 C = some (.lst (ks.map V.int)) ∧ ks.length = i) ⟨same_new nC, [], upd_same, rfl⟩ ?_ ?_
        · rintro i H4 hi ⟨sm4, ks, hC, hk⟩
          have hD4 := sm4 _ _ hD'
          have hi' : i < ms.length := by
            rw [List.length_map] at hi
            omega
          have hlt : ms.length - 1 - i < (ms.map V.int).length := by
            rw [List.length_map]
            omega
          refine ⟨rfl, _, rfl, _, rfl, _, _, rfl, .inl (SqL.of hD4), _, _, rfl, rfl, _, rfl, _, _, rfl, rfl, _, _, _, (ms.map V.int)[ms.length - 1 - i], rfl, rfl, SqL.of hD4, ?_, _, hC, by rw [List.length_map]; exact small1000 (by omega), ?_⟩
          · have e : (((ms.map V.int).length : Nat) : Int) - 1 - (0 + (i : Int)) = ((ms.length - 1 - i : Nat) : Int) := by
              rw [List.length_map]
              omega
            rw [e]
            exact atI_nat (List.getElem?_eq_getElem hlt)
          · refine ⟨fun b o e => by rw [upd_ne (ne_of_none e nC)]; exact sm4 b o e, ks ++ [ms[ms.length - 1 - i]], ?_, by rw [List.length_append, hk]; rfl⟩
            rw [upd_same, List.map_append, List.getElem_map]
            rfl
        · rintro H4 ⟨sm4, ks, hC, hk⟩
          rw [List.length_map] at hk
          have hp4 := sm4 _ _ (upd_same : (upd H3 p (.dK [])) p = _)
          refine ⟨_, rfl, hp4, [(Sum.inr "cells", .ref C), (Sum.inr "left", .int 1), (Sum.inr "mixed", .int m), (Sum.inr "turn", .int 0)], rfl, by show 4 ≤ 15; decide, ?_⟩
          have up : Same H3 (upd H3 p (.dK [])) := same_new np
          have s0 : Same H2 H4 := sm.trans (up.trans sm4)
          refine k p C _ (fun b o e => ?_) (sm.free np) (sm.free (up.free nC)) ⟨nCp, ks, 1, m, 0, ?_, ?_, by omega⟩
          · rw [upd_ne (ne_of_none e (sm.free np))]
            exact s0 b o e
          · rw [upd_same, merge4]
            rfl
          · rw [upd_ne nCp.symm]
            exact hC
theorem scP : FnScope ["source", "many", "digits", "left", "turn", "mixed"] ["source", "many"] (defScope sPick) := ⟨rfl, rfl, rfl, by decide +kernel, rfl, by decide +kernel, by decide +kernel⟩
theorem fmod_in {a b : Int} (hb : 1 ≤ b) : 0 ≤ a.fmod b ∧ a.fmod b < b := by
  rw [Int.fmod_eq_emod_of_nonneg _ (by omega)]
  exact ⟨Int.emod_nonneg _ (by omega), Int.emod_lt_of_pos _ (by omega)⟩
/-- a change at p or c -/
theorem keep_at {p c a : Addr} {H H' : Hp} {o : HO} (ha : Off p c a) (k : Keep (Off p c) H H') : Keep (Off p c) H (upd H' a o) := fun b x e n => by
  rw [upd_ne (fun z => n (by rw [z]; exact ha))]
  exact k b x e n
theorem ok_pick {f : Addr} {fd : FuncData} (F : Fun K "_law_pick" "_law_pick" sPick f fd) (T : Txt mg) : FnOk P w K mg base CX0 1 f fd ["source", "many"] spPick := by
  refine F.ok scP (fun vs H Q E h => ?_) (fun cdv A outer s H vs Q E hr h => ?_)
  · obtain ⟨p, c, many, rfl, _⟩ := h
    rfl
  · obtain ⟨p, c, many, rfl, ⟨npc, ns, l, m, t, hp, hc, hns⟩, h1, h2, k⟩ := h
    have hu := hu_of hr
    refine ⟨_, pss_cons (ps_if (pt_cmpR op_lt (pv 1) pe_int (nomark _)) (pss_one (ps_ret pe_int)) pss_nil)
      (pss_cons (ps_set (i := 2) scP.nd rfl (.inl rfl) (pe_dget hu (pv 0) pe_str (fun _ _ => rfl)))
      (pss_cons (ps_while PassesOwn.never (PW.pt (pw_and (pt_cmpR op_lt (pe_dget hu (pv 0) pe_str (fun _ _ => rfl)) pe_int (nomark _))
          (pw_and1 (pt_cmpR op_gt (pe_callB (r := rLen K) call_len_seq (by rfl) T.len PySem.boot_len (pa_cons (pv 2) pa_nil)) pe_int (nomark _)))))
        (pss_one (ps_dput hu (pv 0) pe_str (pe_bm0 PySem.F.plainAttrs_list PySem.F.slot_list_pop PySem.F.type_list_pop mt_pop (pv 2)) rfl)))
      (pss_cons (ps_set (i := 3) scP.nd rfl (.inl rfl) (pe_dget hu (pv 0) pe_str (fun _ _ => rfl)))
      (pss_cons (ps_if (pt_cmpR op_gt (pv 3) pe_int (nomark _))
        (pss_cons (ps_dput hu (pv 0) pe_str (pe_op op_fdivN (pv 3) (pv 1)) rfl)
          (pss_one (ps_ret (pe_op op_modN (pe_callTy call_int1 (by rfl) T.int (by decide +kernel) (pa_cons (pv 3) pa_nil)) (pv 1))))) pss_nil)
      (pss_cons (ps_dput hu (pv 0) pe_str (pe_op op_add (pe_dget hu (pv 0) pe_str (fun _ _ => rfl)) pe_int) rfl)
      (pss_cons (ps_set (i := 4) scP.nd rfl (.inl rfl) (pe_dget hu (pv 0) pe_str (fun _ _ => rfl)))
      (pss_cons (ps_set (i := 5) scP.nd rfl (.inl rfl) (pe_op op_mod (pe_callTy call_int1 (by rfl) T.int (by decide +kernel)
        (pa_cons (pe_op op_add (pe_dget hu (pv 0) pe_str (fun _ _ => rfl)) (pe_op op_mul (pv 4) pe_int)) pa_nil)) pe_int))
      (pss_cons (ps_set (i := 5) scP.nd rfl (.inl rfl) (pe_op op_mod (pe_callTy call_int1 (by rfl) T.int (by decide +kernel)
        (pa_cons (pe_op op_add (pe_op op_mul (pv 5) (pv 5)) (pe_op op_mul (pv 4) pe_int)) pa_nil)) pe_int))
      (pss_cons (ps_if (pt_cmpR op_gt (pv 1) (pe_op op_pow pe_int pe_int) (nomark _)) pss_never pss_nil)
      (pss_one (ps_ret (pe_op op_modN (pe_callTy call_int1 (by rfl) T.int (by decide +kernel) (pa_cons (pe_op op_fdiv (pv 5) pe_int) pa_nil)) (pv 1))))))))))))), ?_⟩
    -- if many < 2: return 0
    refine ⟨_, rfl, _, _, rfl, rfl, _, rfl, ite2 (fun _ => ?_) (fun _ => ?_)⟩
    · exact k 0 H (Int.le_refl _) (by omega) .refl ⟨npc, ns, l, m, t, hp, hc, hns⟩
    -- digits = source['cells']; while ..
    refine ⟨_, rfl, p, _, rfl, get_cells hp, fun j σ H2 => ∃ (ns : List Int) (l : Int), j = ns.length ∧ ns.length ≤ 63 ∧ σ = [some (.ref p), some (.int many), some (.ref c), none, none, none] ∧
      H2 p = some (.dK (dsrc c l m t)) ∧ H2 c = some (.lst (ns.map V.int)) ∧ Keep (Off p c) H H2, ⟨_, ns, l, rfl, hns, rfl, hp, hc, .refl⟩, ?_⟩
    rintro j σ H2 ⟨ns, l, rfl, hns, rfl, hp, hc, kp⟩
    refine ⟨_, rfl, p, _, rfl, get_left hp, _, _, rfl, rfl, _, rfl, ite2 (fun _ => ⟨_, rfl, _, _, rfl, .inl (SqL.of hc), _, _, rfl, rfl, _, rfl, ite2 (fun hpos => ?_) ?_⟩) ?_⟩
    · -- source['left'] = digits.pop()
      have hn0 : 0 < ns.length := by simpa using hpos
      have last : (ns.map V.int)[(ns.map V.int).length - 1]? = some (.int ns[ns.length - 1]) := by
        rw [List.length_map, List.getElem?_map, List.getElem?_eq_getElem (by omega)]
        rfl
      have hp' : (upd H2 c (.lst (ns.map V.int).dropLast)) p = some (.dK (dsrc c l m t)) := by
        rw [upd_ne npc]
        exact hp
      refine ⟨_, fun _ _ h => h, _, rfl, .inl ⟨rfl, _, SqL.of hc⟩, c, _, _, rfl, rfl, hc, last, _, rfl, p, _, rfl, put_left hp' _, ns.length - 1, by omega, ns.dropLast, _, by rw [List.length_dropLast], by rw [List.length_dropLast]; omega, rfl, upd_same, ?_, ?_⟩
      · rw [upd_ne npc.symm, upd_same, List.map_dropLast]
      · exact keep_at (.inl rfl) (keep_at (.inr rfl) kp)
    all_goals
      intro _
      -- left = source['left']; if left > 1
      refine ⟨_, rfl, p, _, rfl, get_left hp, _, rfl, _, _, rfl, rfl, _, rfl, ite2 (fun _ => ?_) (fun _ => ?_)⟩
      · refine ⟨_, rfl, _, rfl, _, _, rfl, rfl, ⟨by omega, by omega⟩, _, rfl, p, _, rfl, put_left hp _, _, rfl, .inl ⟨_, rfl, _, rfl, _, _, rfl, rfl, by omega, ?_⟩⟩
        exact k _ _ (fmod_in h1).1 (fmod_in h1).2 (keep_at (.inl rfl) kp) ⟨npc, ns, _, _, _, upd_same, by rw [upd_ne npc.symm]; exact hc, by omega⟩
      · -- source['turn'] = source['turn'] + 1; turn; mixed, twice
        have hp2 : (upd H2 p (.dK (dsrc c l m (t + 1)))) p = some (.dK (dsrc c l m (t + 1))) := upd_same
        have low : 0 ≤ (m + (t + 1) * 104729) % 998244353 := Int.emod_nonneg _ (by decide)
        have high : (m + (t + 1) * 104729) % 998244353 < 998244353 := Int.emod_lt_of_pos _ (by decide)
        refine ⟨_, rfl, p, _, rfl, get_turn hp, _, _, rfl, rfl, _, rfl, p, _, rfl, put_turn hp _, _, rfl, p, _, rfl, get_turn hp2, ?_⟩
        refine ⟨_, rfl, p, _, rfl, get_mixed hp2, _, rfl, _, _, rfl, rfl, .inr ⟨by decide, by decide⟩, _, _, rfl, rfl, .inl ⟨_, rfl, _, _, rfl, rfl, by show (0 : Int) < 998244353; decide, ?_⟩⟩
        refine ⟨_, rfl, _, rfl, _, _, rfl, rfl, .inl ⟨by omega, by omega⟩, _, rfl, _, _, rfl, rfl, .inr ⟨by decide, by decide⟩, _, _, rfl, rfl, .inl ⟨_, rfl, _, _, rfl, rfl, by show (0 : Int) < 2147483647; decide, ?_⟩⟩
        -- if many > 10 ** 7: never
        have e7 : (10 : Int) ^ ((7 : Int).toNat) = 10000000 := by decide
        refine ⟨_, rfl, _, _, rfl, rfl, ⟨by decide, by decide, by decide⟩, _, _, rfl, rfl, _, rfl, ite2 (fun z => ?_) (fun _ => ?_)⟩
        · have z' := of_decide_eq_true z
          rw [e7] at z'
          omega
        · refine ⟨_, rfl, _, _, rfl, rfl, ⟨by decide, by decide⟩, .inl ⟨_, rfl, _, rfl, _, _, rfl, rfl, by omega, ?_⟩⟩
          exact k _ _ (fmod_in h1).1 (fmod_in h1).2 (keep_at (.inl rfl) kp) ⟨npc, ns, _, _, _, upd_same, by rw [upd_ne npc.symm]; exact hc, by omega⟩
end
end K13
/-! K13, 2: words and values judged, by the program and by the law -/
namespace K13
open PySem PySem.Spec PyProof.Rows L2 Ver
abbrev sWord : Stmt := top 6
abbrev sKind : Stmt := top 7
abbrev sNum : Stmt := top 8
abbrev sVal : Stmt := top 9
abbrev sPair : Stmt := top 10
abbrev sKindOf : Stmt := top 11
abbrev sLWord : Stmt := top 16
abbrev sLVal : Stmt := top 17
def lets : Str := "abcdefghijklmnopqrstuvwxyz"
def sgns : Str := "abcdefghijklmnopqrstuvwxyz0123456789"
/-! ### the mathematics -/
def inLets (c : Nat) : Bool := decide (c ∈ lets.cps.toList)
def inSgns (c : Nat) : Bool := decide (c ∈ sgns.cps.toList)
def wordL : List Nat → Bool
  | [] => false
  | c :: r => decide (r.length + 1 ≤ 12) && (inLets c && (c :: r).all inSgns)
def wordS (x : Str) : Bool := wordL x.cps.toList
def wordD : PyData → Bool
  | .str x => wordS x
  | _ => false
def resv : List Str := ["none", "bit", "err", "fun", "obj"]
def kindD : PyData → Bool
  | .str x => wordS x && !resv.any fun y => y == x
  | _ => false
def numD : PyData → Bool
  | .int i => decide (0 ≤ i)
  | _ => false
def pairD (x y : PyData) : Bool :=
  if eqS x "bit" = true then eqS y "yes" || eqS y "no" else if (eqS x "err" || eqS x "fun") = true then wordD y else eqS x "obj" && numD y
def valD : PyData → Bool
  | .tuple [x] => eqS x "none"
  | .tuple [x, y] => pairD x y
  | .tuple [x, y, z] => eqS x "tok" && (kindD y && numD z)
  | _ => false
/-! ### promises -/
/-- a question about one datum, answered by g; the heap is as it was but for new objects -/
def spAsk (ok : PyData → Prop) (g : PyData → Bool) : Sp := fun vs H Q _ => ∃ (N : Addr → Prop) (v : V) (d : PyData), vs = [v] ∧ Da N H v d ∧ ok d ∧ ∀ H', Same H H' → Q (.bl (g d)) H'
/-- texts are of a length that can be told -/
def Short : PyData → Prop
  | .str x => x.length ≤ 1000
  | _ => True
structure Glob (mg : Str → Option Value) : Prop where
  len : mg "len" = none
  isinstance : mg "isinstance" = none
  str : mg "str" = none
  int : mg "int" = none
  bool : mg "bool" = none
  tuple : mg "tuple" = none
  all : mg "all" = none
  letters : ∃ t, mg "LETTERS" = some (.str lets t)
  signs : ∃ t, mg "WORD_SIGNS" = some (.str sgns t)
  longest : ∃ t, mg "LONGEST_WORD" = some (.int 12 t)
/-- a def of the top, by its name -/
structure Def (K : PySem.W.Frag) (mg : Str → Option Value) (x : Str) (f : Addr) : Prop where
  gl : mg x = some (.ref f)
  kp : PySem.W.keepIn K (.ref f) = true
section
variable {P : Program} {w : World} {K : PySem.W.Frag} {mg : Str → Option Value} {base : Heap}
theorem scW : FnScope ["value", "sign"] ["value"] (defScope sWord) := ⟨rfl, rfl, rfl, by decide +kernel, rfl, by decide +kernel, by decide +kernel⟩
theorem ok_word {f : Addr} {fd : FuncData} (F : Fun K "is_word" "is_word" sWord f fd) (T : Glob mg) : FnOk P w K mg base CX0 1 f fd ["value"] (spAsk Short wordD) := by
  refine F.ok scW (fun vs H Q E h => ?_) (fun cdv A outer s H vs Q E hr h => ?_)
  · obtain ⟨N, v, d, rfl, _⟩ := h
    rfl
  · obtain ⟨N, v, d, rfl, hv, hs, k⟩ := h
    obtain ⟨_, mL⟩ := T.letters
    obtain ⟨_, mS⟩ := T.signs
    obtain ⟨_, mG⟩ := T.longest
    refine ⟨_, pss_cons (ps_if (PW.pt (pw_or (pt_not (pt_val (pe_callB call_isi (by rfl) T.isinstance (by decide +kernel) (pa_cons (pv 0) (pa_cons (pe_bltn (v := .ty "str") (by rfl) T.str (by decide +kernel) rfl) pa_nil)))))
        (pw_or1 (pt_not (pt_chain op_lt op_le pe_int (pe_callB call_len_str (by rfl) T.len PySem.boot_len (pa_cons (pv 0) pa_nil)) (pe_glob (v := .int 12) rfl mG ⟨_, rfl⟩))))))
        (pss_one (ps_ret pe_bl)) pss_nil)
      (pss_one (ps_ret (pe_and (pe_cmpR op_in_sign (pe_ix ix_str (pv 0) pe_int (fun _ _ => rfl)) (pe_glob (v := .str lets) rfl mL ⟨_, rfl⟩) (by rfl))
        (pe_one (pe_callB (cr_all rfl) (by rfl) T.all (by decide +kernel) (pa_cons (pe_lc (own := [("sign", 1)]) (g := gName 1) (tt := tYes) rfl scW.nd (pi_str (pv 0))
          (blkOk_by (N := ["value", "sign"]) (sc := defScope sWord) (by decide +kernel)) (fun _ _ _ _ _ => pg_name (i := 1) scW.nd rfl (.inl rfl)) (fun _ _ _ _ _ => pts_nil)
          (fun _ _ _ _ _ => pe_cmpR op_in_sign (pv 1) (pe_glob (v := .str sgns) rfl mS ⟨_, rfl⟩) (by rfl))) pa_nil)))))), ?_⟩
    refine ⟨_, rfl, v, .ty "str", _, _, _, rfl, .ty _, Da.ty hv, kit_str d, _, rfl, ?_⟩
    cases d with
    | str x =>
      cases hv
      have hx : x.length = x.cps.toList.length := by simp [Str.length]
      have hs' : x.length ≤ 1000 := hs
      have hz : x.length ≤ sizeLine := Nat.le_trans hs' (by decide)
      refine ⟨_, rfl, x, rfl, hz, _, _, rfl, rfl, _, rfl, ?_⟩
      -- 0 < len(value) <= LONGEST_WORD
      cases el : x.cps.toList with
      | nil =>
        rw [el] at hx
        have e0 : decide ((0 : Int) < (x.length : Int)) = false := decide_eq_false (by rw [hx]; decide)
        rw [e0]
        refine ⟨_, rfl, ?_⟩
        have q := k H (Same.refl H)
        have e1 : wordD (.str x) = false := by
          show wordL x.cps.toList = false
          rw [el]
          rfl
        rwa [e1] at q
      | cons c r =>
        rw [el] at hx
        have e0 : decide ((0 : Int) < (x.length : Int)) = true := decide_eq_true (by rw [hx, List.length_cons]; omega)
        rw [e0]
        refine ⟨_, _, rfl, rfl, _, rfl, ?_⟩
        have ew : wordD (.str x) = (decide (r.length + 1 ≤ 12) && (inLets c && (c :: r).all inSgns)) := by
          show wordL x.cps.toList = _
          rw [el]
          rfl
        rw [ew] at k
        rw [hx, List.length_cons]
        by_cases h12 : r.length + 1 ≤ 12
        · have e2 : decide (((r.length + 1 : Nat) : Int) ≤ 12) = true := decide_eq_true (by omega)
          rw [e2]
          have e3 : decide (r.length + 1 ≤ 12) = true := decide_eq_true h12
          rw [e3, Bool.true_and] at k
          -- value[0] in LETTERS and all([..])
          refine ⟨_, rfl, _, _, c, rfl, rfl, hz, by rw [el]; exact atI_nat (j := 0) rfl, c, lets, rfl, rfl, _, rfl, ?_⟩
          refine ite2 (fun hc => ?_) (fun hc => ?_)
          · have hc' : inLets c = true := hc
            rw [hc', Bool.true_and] at k
            refine ⟨_, rfl, x, rfl, fun D nD => lc_it (walk_str (z := x)) (fun i H2 => Same H H2 ∧ H2 D = some (.lst (((x.cps.toList.take i).map inSgns).map V.bl))) ⟨same_new nD, upd_same⟩ (fun _ _ _ _ => trivial) ?_ ?_⟩
            · rintro i y H2 H3 hi ⟨sm, hD⟩ ⟨rfl, z, hz1, rfl⟩
              have hz2 : x.cps.toList[i]? = some z := by simpa using hz1
              refine ⟨rfl, _, rfl, z, sgns, rfl, rfl, _, hD, ?_, fun b o e => ?_, ?_⟩
              · refine small1000 ?_
                rw [List.length_map, List.length_map, List.length_take]
                exact Nat.le_trans (Nat.min_le_right _ _) (by rw [el, List.length_cons]; omega)
              · rw [upd_ne (ne_of_none e nD)]
                exact sm b o e
              · rw [upd_same, List.take_add_one, hz2, List.map_append, List.map_append]
                rfl
            · rintro H2 ⟨sm, hD⟩
              have ex : x.cps.toList.take x.cps.size = c :: r := by
                rw [← el]
                exact List.take_of_length_le (by simp)
              rw [ex] at hD
              refine ⟨D, (c :: r).map inSgns, rfl, SqL.of hD, ?_⟩
              have q := k H2 sm
              rw [List.all_map]
              exact q
          · have hc' : inLets c = false := by simpa [inLets] using hc
            rw [hc', Bool.false_and] at k
            exact k H (Same.refl H)
        · have e2 : decide (((r.length + 1 : Nat) : Int) ≤ 12) = false := decide_eq_false (by omega)
          rw [e2]
          have e3 : decide (r.length + 1 ≤ 12) = false := decide_eq_false h12
          rw [e3, Bool.false_and] at k
          exact k H (Same.refl H)
    | _ => exact k H (Same.refl H)
end
end K13
namespace K13
open PySem PySem.Spec PyProof.Rows L2 Ver
section
variable {P : Program} {w : World} {K : PySem.W.Frag} {mg : Str → Option Value} {base : Heap}
theorem scKd : FnScope ["value"] ["value"] (defScope sKind) := ⟨rfl, rfl, rfl, by decide +kernel, rfl, by decide +kernel, by decide +kernel⟩
theorem ok_kind {f fW aR : Addr} {fd fdW : FuncData} (F : Fun K "is_kind_word" "is_kind_word" sKind f fd) (GW : FnOk P w K mg base CX0 1 fW fdW ["value"] (spAsk Short wordD)) (DW : Def K mg "is_word" fW) (bW : Binds K fdW ["value"] [])
    (mR : mg "RESERVED" = some (.ref aR)) (hR : ∀ H, SqT K H aR (resv.map V.str)) : FnOk P w K mg base CX0 2 f fd ["value"] (spAsk Short kindD) := by
  refine F.ok scKd (fun vs H Q E h => ?_) (fun cdv A outer s H vs Q E hr h => ?_)
  · obtain ⟨N, v, d, rfl, _⟩ := h
    rfl
  · obtain ⟨N, v, d, rfl, hv, hs, k⟩ := h
    refine ⟨_, pss_one (ps_ret (pe_and (pe_call GW hr (by rfl) DW.gl DW.kp bW .nil pass0 (pa_cons (pv 0) pa_nil)) (pe_one (pe_cmpR op_notIn_seq (pv 0) (pe_glob (v := .ref aR) rfl mR rfl) (by rfl))))), ?_⟩
    refine ⟨_, rfl, N, v, d, rfl, hv, hs, fun H' sm => ⟨_, rfl, ite2 (fun hw => ?_) (fun hw => ?_)⟩⟩
    · cases d with
      | str x =>
        cases hv
        refine ⟨_, rfl, aR, _, rfl, .inr (hR H'), rfl, rfl, ?_⟩
        have q := k H' sm
        have hw' : wordS x = true := hw
        have e : kindD (.str x) = !inV (.str x) (resv.map V.str) := by
          show (wordS x && !resv.any fun y => y == x) = _
          rw [hw', Bool.true_and]
          rfl
        rwa [e] at q
      | _ => cases hw
    · have e : kindD d = false := by
        cases d with
        | str x =>
          show (wordS x && _) = false
          have : wordS x = false := by simpa [wordD] using hw
          rw [this, Bool.false_and]
        | _ => rfl
      have q := k H' sm
      rwa [e] at q
theorem scNm : FnScope ["value"] ["value"] (defScope sNum) := ⟨rfl, rfl, rfl, by decide +kernel, rfl, by decide +kernel, by decide +kernel⟩
theorem ok_num {f : Addr} {fd : FuncData} (F : Fun K "is_number" "is_number" sNum f fd) (T : Glob mg) : FnOk P w K mg base CX0 1 f fd ["value"] (spAsk (fun _ => True) numD) := by
  refine F.ok scNm (fun vs H Q E h => ?_) (fun cdv A outer s H vs Q E hr h => ?_)
  · obtain ⟨N, v, d, rfl, _⟩ := h
    rfl
  · obtain ⟨N, v, d, rfl, hv, hs, k⟩ := h
    refine ⟨_, pss_one (ps_ret (pe_and (pe_callB call_isi (by rfl) T.isinstance (by decide +kernel) (pa_cons (pv 0) (pa_cons (pe_bltn (v := .ty "int") (by rfl) T.int (by decide +kernel) rfl) pa_nil)))
      (pe_and (pe_not (pe_callB call_isi (by rfl) T.isinstance (by decide +kernel) (pa_cons (pv 0) (pa_cons (pe_bltn (v := .ty "bool") (by rfl) T.bool (by decide +kernel) rfl) pa_nil))))
        (pe_one (pe_cmpR op_ge (pv 0) pe_int (nomark _)))))), ?_⟩
    refine ⟨_, rfl, v, .ty "int", _, _, _, rfl, .ty _, Da.ty hv, kit_int d, _, rfl, ?_⟩
    cases d with
    | int i =>
      cases hv
      refine ⟨_, rfl, _, .ty "bool", _, _, _, rfl, .ty _, Da.ty (N := N) (.int i), kit_bool (.int i), _, rfl, _, rfl, ?_⟩
      exact ⟨_, rfl, _, _, rfl, rfl, k H (Same.refl H)⟩
    | bool b =>
      cases hv
      refine ⟨_, rfl, _, .ty "bool", _, _, _, rfl, .ty _, Da.ty (N := N) (.bl b), kit_bool (.bool b), _, rfl, _, rfl, ?_⟩
      exact k H (Same.refl H)
    | _ => exact k H (Same.refl H)
/-- two data -/
def spPair (g : PyData → PyData → Bool) : Sp := fun vs H Q _ => ∃ (N : Addr → Prop) (v u : V) (d e : PyData), vs = [v, u] ∧ Da N H v d ∧ Da N H u e ∧ Short e ∧ ∀ H', Same H H' → Q (.bl (g d e)) H'
theorem scPr : FnScope ["word", "content"] ["word", "content"] (defScope sPair) := ⟨rfl, rfl, rfl, by decide +kernel, rfl, by decide +kernel, by decide +kernel⟩
theorem ok_pair {f fW fN : Addr} {fd fdW fdN : FuncData} (F : Fun K "is_pair_value" "is_pair_value" sPair f fd) (GW : FnOk P w K mg base CX0 1 fW fdW ["value"] (spAsk Short wordD)) (DW : Def K mg "is_word" fW) (bW : Binds K fdW ["value"] [])
    (GN : FnOk P w K mg base CX0 1 fN fdN ["value"] (spAsk (fun _ => True) numD)) (DN : Def K mg "is_number" fN) (bN : Binds K fdN ["value"] []) : FnOk P w K mg base CX0 2 f fd ["word", "content"] (spPair pairD) := by
  refine F.ok scPr (fun vs H Q E h => ?_) (fun cdv A outer s H vs Q E hr h => ?_)
  · obtain ⟨N, v, u, d, e, rfl, _⟩ := h
    rfl
  · obtain ⟨N, v, u, d, e, rfl, hv, hw, hs, k⟩ := h
    have h0 := hr.units0
    refine ⟨_, pss_cons (ps_if (pt_cmpR (op_eqS (N := N) h0) (pv 0) pe_str (nomark _)) (pss_one (ps_ret (pe_or (pe_cmpR (op_eqS (N := N) h0) (pv 1) pe_str (nomark _)) (pe_one (pe_cmpR (op_eqS (N := N) h0) (pv 1) pe_str (nomark _)))))) pss_nil)
      (pss_cons (ps_if (PW.pt (pw_or (pt_cmpR (op_eqS (N := N) h0) (pv 0) pe_str (nomark _)) (pw_or1 (pt_cmpR (op_eqS (N := N) h0) (pv 0) pe_str (nomark _)))))
        (pss_one (ps_ret (pe_call GW hr (by rfl) DW.gl DW.kp bW .nil pass0 (pa_cons (pv 1) pa_nil)))) pss_nil)
      (pss_one (ps_ret (pe_and (pe_cmpR (op_eqS (N := N) h0) (pv 0) pe_str (nomark _)) (pe_one (pe_call GN hr (by rfl) DN.gl DN.kp bN .nil pass0 (pa_cons (pv 1) pa_nil))))))), ?_⟩
    refine ⟨_, rfl, d, _, hv, rfl, _, rfl, ite2 (fun h1 => ?_) (fun h1 => ?_)⟩
    · have ep : pairD d e = (eqS e "yes" || eqS e "no") := if_pos h1
      rw [ep] at k
      refine ⟨_, rfl, e, _, hw, rfl, _, rfl, ite2 (fun h2 => ?_) (fun h2 => ?_)⟩
      · rw [h2, Bool.true_or] at k
        exact k H (Same.refl H)
      · rw [Bool.eq_false_iff.mpr h2, Bool.false_or] at k
        exact ⟨_, rfl, e, _, hw, rfl, k H (Same.refl H)⟩
    · refine ⟨_, rfl, d, _, hv, rfl, _, rfl, ite2 (fun h2 => ?_) (fun h2 => ⟨_, rfl, d, _, hv, rfl, _, rfl, ite2 (fun h3 => ?_) (fun h3 => ?_)⟩)⟩
      · have ep : pairD d e = wordD e := (if_neg h1).trans (if_pos (by rw [h2]; rfl))
        rw [ep] at k
        exact ⟨_, rfl, N, u, e, rfl, hw, hs, k⟩
      · have ep : pairD d e = wordD e := (if_neg h1).trans (if_pos (by rw [h3, Bool.or_true]))
        rw [ep] at k
        exact ⟨_, rfl, N, u, e, rfl, hw, hs, k⟩
      · have ep : pairD d e = (eqS d "obj" && numD e) := (if_neg h1).trans (if_neg (by rw [Bool.eq_false_iff.mpr h2, Bool.eq_false_iff.mpr h3]; exact Bool.false_ne_true))
        rw [ep] at k
        refine ⟨_, rfl, d, _, hv, rfl, _, rfl, ite2 (fun h4 => ?_) (fun h4 => ?_)⟩
        · rw [h4, Bool.true_and] at k
          exact ⟨_, rfl, N, u, e, rfl, hw, trivial, k⟩
        · rw [Bool.eq_false_iff.mpr h4, Bool.false_and] at k
          exact k H (Same.refl H)
end
end K13
namespace K13
open PySem PySem.Spec PyProof.Rows L2 Ver
/-! ### lists of a length -/
theorem len1 {α : Type} {l : List α} (h : l.length = 1) : ∃ a, l = [a] := List.length_eq_one_iff.mp h
theorem len2 {α : Type} : ∀ {l : List α}, l.length = 2 → ∃ a b, l = [a, b]
  | [a, b], _ => ⟨a, b, rfl⟩
theorem len3 {α : Type} : ∀ {l : List α}, l.length = 3 → ∃ a b c, l = [a, b, c]
  | [a, b, c], _ => ⟨a, b, c, rfl⟩
/-- what len(..) == n says -/
theorem of_len {n : Nat} {i : Int} (h : decide (V.int (n : Int) = V.int i) = true) : (n : Int) = i := V.int.inj (of_decide_eq_true h)
theorem not_len {n : Nat} {i : Int} (h : ¬ decide (V.int (n : Int) = V.int i) = true) : (n : Int) ≠ i := fun z => h (decide_eq_true (congrArg V.int z))
theorem val_other : ∀ {ds : List PyData}, ds.length ≠ 1 → ds.length ≠ 2 → ds.length ≠ 3 → valD (.tuple ds) = false
  | [], _, _, _ => rfl
  | [_], h, _, _ => absurd rfl h
  | [_, _], _, h, _ => absurd rfl h
  | [_, _, _], _, _, h => absurd rfl h
  | _ :: _ :: _ :: _ :: _, _, _, _ => rfl
/-- texts within a tuple are of a length that can be told -/
def ShortT : PyData → Prop
  | .tuple ds => ∀ d ∈ ds, Short d
  | .str x => x.length ≤ 1000
  | _ => True
section
variable {P : Program} {w : World} {K : PySem.W.Frag} {mg : Str → Option Value} {base : Heap}
theorem scVl : FnScope ["value"] ["value"] (defScope sVal) := ⟨rfl, rfl, rfl, by decide +kernel, rfl, by decide +kernel, by decide +kernel⟩
theorem ok_val {f fKd fN fP aN : Addr} {fd fdKd fdN fdP : FuncData} (F : Fun K "is_value" "is_value" sVal f fd) (T : Glob mg) (GK : FnOk P w K mg base CX0 2 fKd fdKd ["value"] (spAsk Short kindD)) (DK : Def K mg "is_kind_word" fKd) (bK : Binds K fdKd ["value"] [])
    (GN : FnOk P w K mg base CX0 1 fN fdN ["value"] (spAsk (fun _ => True) numD)) (DN : Def K mg "is_number" fN) (bN : Binds K fdN ["value"] [])
    (GP : FnOk P w K mg base CX0 2 fP fdP ["word", "content"] (spPair pairD)) (DP : Def K mg "is_pair_value" fP) (bP : Binds K fdP ["word", "content"] [])
    (mN : mg "NONE" = some (.ref aN)) (hN : ∀ H, SqT K H aN [V.str "none"]) : FnOk P w K mg base CX0 3 f fd ["value"] (spAsk ShortT valD) := by
  refine F.ok scVl (fun vs H Q E h => ?_) (fun cdv A outer s H vs Q E hr h => ?_)
  · obtain ⟨N, v, d, rfl, _⟩ := h
    rfl
  · obtain ⟨N, v, d, rfl, hv, hs, k⟩ := h
    have hr1 : Room 1 _ := hr.mono (by decide)
    have hu := hu_of hr
    refine ⟨_, pss_cons (ps_if (pt_not (pt_val (pe_callB call_isi (by rfl) T.isinstance (by decide +kernel) (pa_cons (pv 0) (pa_cons (pe_bltn (v := .ty "tuple") (by rfl) T.tuple (by decide +kernel) rfl) pa_nil))))) (pss_one (ps_ret pe_bl)) pss_nil)
      (pss_cons (ps_if (pt_cmpR op_eq (pe_callB call_len_seq (by rfl) T.len PySem.boot_len (pa_cons (pv 0) pa_nil)) pe_int (nomark _)) (pss_one (ps_ret (pe_cmpR (op_eqT (N := N) hu) (pv 0) (pe_glob (v := .ref aN) rfl mN rfl) (nomark _)))) pss_nil)
      (pss_cons (ps_if (pt_cmpR op_eq (pe_callB call_len_seq (by rfl) T.len PySem.boot_len (pa_cons (pv 0) pa_nil)) pe_int (nomark _))
        (pss_one (ps_ret (pe_and (pe_cmpR (op_eqS (N := N) hr.units0) (pe_ix ix_tup (pv 0) pe_int (fun _ _ => rfl)) pe_str (nomark _))
          (pe_and (pe_call GK hr (by rfl) DK.gl DK.kp bK .nil pass0 (pa_cons (pe_ix ix_tup (pv 0) pe_int (fun _ _ => rfl)) pa_nil))
            (pe_one (pe_call GN hr1 (by rfl) DN.gl DN.kp bN .nil pass0 (pa_cons (pe_ix ix_tup (pv 0) pe_int (fun _ _ => rfl)) pa_nil))))))) pss_nil)
      (pss_one (ps_ret (pe_and (pe_cmpR op_eq (pe_callB call_len_seq (by rfl) T.len PySem.boot_len (pa_cons (pv 0) pa_nil)) pe_int (nomark _))
        (pe_one (pe_call GP hr (by rfl) DP.gl DP.kp bP .nil pass0 (pa_cons (pe_ix ix_tup (pv 0) pe_int (fun _ _ => rfl)) (pa_cons (pe_ix ix_tup (pv 0) pe_int (fun _ _ => rfl)) pa_nil))))))))), ?_⟩
    refine ⟨_, rfl, v, .ty "tuple", _, _, _, rfl, .ty _, Da.ty hv, kit_tuple d, _, rfl, ?_⟩
    cases d with
    | tuple ds =>
      cases hv with
      | @tup a xs _ e nN q =>
        have eT : SqT K H a xs := SqT.of e
        have el := q.length
        have hs' : ∀ d ∈ ds, Short d := hs
        refine ⟨_, rfl, _, _, rfl, .inr eT, rfl, _, rfl, ite2 (fun h1 => ?_) (fun h1 => ?_)⟩
        · -- one
          obtain ⟨d0, rfl⟩ := len1 (l := ds) (by have := of_len h1; omega)
          refine ⟨_, rfl, a, xs, _, aN, ["none"], rfl, eT, q, rfl, hN H, ?_⟩
          have e1 : eqSs [d0] ["none"] = valD (.tuple [d0]) := Bool.and_true _
          rw [e1]
          exact k H (Same.refl H)
        · refine ⟨_, rfl, _, _, rfl, .inr eT, rfl, _, rfl, ite2 (fun h3 => ?_) (fun h3 => ?_)⟩
          · -- three
            obtain ⟨d0, d1, d2, rfl⟩ := len3 (l := ds) (by have := of_len h3; omega)
            obtain ⟨x0, x1, x2, rfl⟩ := len3 (l := xs) (by rw [el]; rfl)
            cases q with
            | cons q0 q =>
            cases q with
            | cons q1 q =>
            cases q with
            | cons q2 q =>
              have ev : valD (.tuple [d0, d1, d2]) = (eqS d0 "tok" && (kindD d1 && numD d2)) := rfl
              rw [ev] at k
              refine ⟨_, rfl, a, _, _, x0, rfl, rfl, eT, atI_nat (j := 0) rfl, d0, _, q0, rfl, _, rfl, ite2 (fun g0 => ?_) (fun g0 => ?_)⟩
              · rw [g0, Bool.true_and] at k
                refine ⟨_, rfl, a, _, _, x1, rfl, rfl, eT, atI_nat (j := 1) rfl, N, x1, d1, rfl, q1, hs' _ (by simp), fun H1 s1 => ⟨_, rfl, ite2 (fun g1 => ?_) (fun g1 => ?_)⟩⟩
                · rw [g1, Bool.true_and] at k
                  exact ⟨_, rfl, a, _, _, x2, rfl, rfl, SqT.of (s1 _ _ e), atI_nat (j := 2) rfl, N, x2, d2, rfl, q2.keep (Same.keep s1), trivial, fun H2 s2 => k H2 (s1.trans s2)⟩
                · rw [Bool.eq_false_iff.mpr g1, Bool.false_and] at k
                  exact k H1 s1
              · rw [Bool.eq_false_iff.mpr g0, Bool.false_and] at k
                exact k H (Same.refl H)
          · refine ⟨_, rfl, _, _, rfl, .inr eT, rfl, _, rfl, ite2 (fun h2 => ?_) (fun h2 => ?_)⟩
            · -- two
              obtain ⟨d0, d1, rfl⟩ := len2 (l := ds) (by have := of_len h2; omega)
              obtain ⟨x0, x1, rfl⟩ := len2 (l := xs) (by rw [el]; rfl)
              cases q with
              | cons q0 q =>
              cases q with
              | cons q1 q =>
                exact ⟨_, rfl, a, _, _, x0, rfl, rfl, eT, atI_nat (j := 0) rfl, _, rfl, a, _, _, x1, rfl, rfl, eT, atI_nat (j := 1) rfl, N, x0, x1, d0, d1, rfl, q0, q1, hs' _ (by simp), k⟩
            · have e0 := val_other (ds := ds) (by have := not_len h1; omega) (by have := not_len h2; omega) (by have := not_len h3; omega)
              rw [e0] at k
              exact k H (Same.refl H)
    | _ => exact k H (Same.refl H)
/-- value[1] if value[0] == 'tok' else value[0] -/
def spKindOf (K : PySem.W.Frag) : Sp := fun vs H Q _ => ∃ (N : Addr → Prop) (a : Addr) (xs : List V) (x0 x1 : V) (d0 : PyData), vs = [.ref a] ∧ SqT K H a xs ∧ xs[0]? = some x0 ∧ Da N H x0 d0 ∧ (eqS d0 "tok" = true → xs[1]? = some x1) ∧
  Q (if eqS d0 "tok" = true then x1 else x0) H
theorem scKo : FnScope ["value"] ["value"] (defScope sKindOf) := ⟨rfl, rfl, rfl, by decide +kernel, rfl, by decide +kernel, by decide +kernel⟩
theorem ok_kindOf {f : Addr} {fd : FuncData} (F : Fun K "kind_of" "kind_of" sKindOf f fd) : FnOk P w K mg base CX0 1 f fd ["value"] (spKindOf K) := by
  refine F.ok scKo (fun vs H Q E h => ?_) (fun cdv A outer s H vs Q E hr h => ?_)
  · obtain ⟨N, a, xs, x0, x1, d0, rfl, _⟩ := h
    rfl
  · obtain ⟨N, a, xs, x0, x1, d0, rfl, e, h0, q, h1, k⟩ := h
    refine ⟨_, pss_one (ps_ret (pe_ifExp (pt_cmpR (op_eqS (N := N) hr.units0) (pe_ix ix_tup (pv 0) pe_int (fun _ _ => rfl)) pe_str (nomark _)) (pe_ix ix_tup (pv 0) pe_int (fun _ _ => rfl)) (pe_ix ix_tup (pv 0) pe_int (fun _ _ => rfl)))), ?_⟩
    refine ⟨_, rfl, a, xs, _, x0, rfl, rfl, e, atI_nat (j := 0) h0, d0, _, q, rfl, _, rfl, ite2 (fun g => ?_) (fun g => ?_)⟩
    · rw [if_pos g] at k
      exact ⟨_, rfl, a, xs, _, x1, rfl, rfl, e, atI_nat (j := 1) (h1 g), k⟩
    · rw [if_neg g] at k
      exact ⟨_, rfl, a, xs, _, x0, rfl, rfl, e, atI_nat (j := 0) h0, k⟩
end
end K13
namespace K13
open PySem PySem.Spec PyProof.Rows L2 Ver
open PySem.SeqAt (RcAt)
/-- a list of ours against an empty one -/
theorem op_eqNil {X : Cx} (hu : X.A.units < cLine) : OpR X (compareOp .Eq) (fun x y H Q => ∃ a b xs, x = .ref a ∧ y = .ref b ∧ H a = some (.lst xs) ∧ H b = some (.lst []) ∧ Q (.bl xs.isEmpty) H) := by
  rintro pins s σ H x y v u Q I rx ry ⟨a, b, xs, rfl, rfl, ha, hb, q⟩
  cases rx
  cases ry
  obtain ⟨its, rv, p, _⟩ := I.list (SqL.of ha)
  obtain ⟨jts, rw', p', _⟩ := I.list (SqL.of hb)
  cases rw'
  cases rv with
  | nil => exact RcAt.lists (e := fun _ => true) p.isList p'.isList rfl hu (fun j h1 _ => absurd h1 (Nat.not_lt_zero _)) _ _ _ _ ⟨.bl true, H, I, rfl, q⟩
  | cons r1 r2 => exact RcAt.lists_lengths p.isList p'.isList (by simp) hu _ _ _ _ ⟨.bl false, H, I, rfl, q⟩
theorem str_of_nil {x : Str} (h : x.cps.toList = []) : x = "" := by
  obtain ⟨c⟩ := x
  have : c = #[] := by simpa using h
  subst this
  rfl
theorem filter_nil (l : List Nat) : ((l.filter fun c => !inSgns c).map fun c => V.str ⟨#[c]⟩).isEmpty = l.all inSgns := by
  induction l with
  | nil => rfl
  | cons c r ih =>
    cases h : inSgns c with
    | true => simp [h, ← ih]
    | false => simp [h]
section
variable {P : Program} {w : World} {K : PySem.W.Frag} {mg : Str → Option Value} {base : Heap}
theorem scLW : FnScope ["value", "letters", "sign"] ["value"] (defScope sLWord) := ⟨rfl, rfl, rfl, by decide +kernel, rfl, by decide +kernel, by decide +kernel⟩
theorem ok_lword {f : Addr} {fd : FuncData} (F : Fun K "_law_is_word" "_law_is_word" sLWord f fd) (T : Glob mg) : FnOk P w K mg base CX0 1 f fd ["value"] (spAsk Short wordD) := by
  refine F.ok scLW (fun vs H Q E h => ?_) (fun cdv A outer s H vs Q E hr h => ?_)
  · obtain ⟨N, v, d, rfl, _⟩ := h
    rfl
  · obtain ⟨N, v, d, rfl, hv, hs, k⟩ := h
    refine ⟨_, pss_cons (ps_set (i := 1) scLW.nd rfl (.inr rfl) pe_str)
      (pss_cons (ps_if (PW.pt (pw_or (pt_not (pt_val (pe_callB call_isi (by rfl) T.isinstance (by decide +kernel) (pa_cons (pv 0) (pa_cons (pe_bltn (v := .ty "str") (by rfl) T.str (by decide +kernel) rfl) pa_nil)))))
        (pw_or (pt_cmpR op_eq (pv 0) pe_str (nomark _))
        (pw_or (pt_cmpR op_gt (pe_callB call_len_str (by rfl) T.len PySem.boot_len (pa_cons (pv 0) pa_nil)) pe_int (nomark _))
        (pw_or1 (pt_cmpR op_notIn_sign (pe_ix ix_str (pv 0) pe_int (fun _ _ => rfl)) (pv 1) (by rfl)))))))
        (pss_one (ps_ret pe_bl)) pss_nil)
      (pss_one (ps_ret (pe_cmpR (op_eqNil hr.units0) (pe_lc (own := [("sign", 2)]) (g := gName 2) rfl scLW.nd (pi_str (pv 0))
        (blkOk_by (N := ["value", "letters", "sign"]) (sc := defScope sLWord) (by decide +kernel)) (fun _ _ _ _ _ => pg_name (i := 2) scLW.nd rfl (.inl rfl))
        (fun _ _ _ _ _ => pts_one (pt_cmpR op_notIn_sign (pv 2) (pe_op op_add_str (pv 1) pe_str) (by rfl))) (fun _ _ _ _ _ => pv 2)) (pe_lst pa_nil) (nomark _))))), ?_⟩
    refine ⟨_, rfl, v, .ty "str", _, _, _, rfl, .ty _, Da.ty hv, kit_str d, _, rfl, ?_⟩
    cases d with
    | str x =>
      cases hv
      have hx : x.length = x.cps.toList.length := by simp [Str.length]
      have hs' : x.length ≤ 1000 := hs
      have hz : x.length ≤ sizeLine := Nat.le_trans hs' (by decide)
      refine ⟨_, rfl, rfl, _, rfl, ite2 (fun h0 => ?_) (fun h0 => ?_)⟩
      · have e : x = "" := V.str.inj (of_decide_eq_true h0)
        subst e
        exact k H (Same.refl H)
      · cases el : x.cps.toList with
        | nil => exact absurd (decide_eq_true (congrArg V.str (str_of_nil el))) h0
        | cons c r =>
          have ew : wordD (.str x) = (decide (r.length + 1 ≤ 12) && (inLets c && (c :: r).all inSgns)) := by
            show wordL x.cps.toList = _
            rw [el]
            rfl
          rw [ew] at k
          rw [el, List.length_cons] at hx
          refine ⟨_, rfl, x, rfl, hz, _, _, rfl, rfl, _, rfl, ite2 (fun h1 => ?_) (fun h1 => ?_)⟩
          · have h1' : (12 : Int) < (x.length : Int) := of_decide_eq_true h1
            have e3 : decide (r.length + 1 ≤ 12) = false := decide_eq_false (by omega)
            rw [e3, Bool.false_and] at k
            exact k H (Same.refl H)
          · have h1' : ¬ (12 : Int) < (x.length : Int) := fun z => h1 (decide_eq_true z)
            have e3 : decide (r.length + 1 ≤ 12) = true := decide_eq_true (by omega)
            rw [e3, Bool.true_and] at k
            refine ⟨_, rfl, _, _, c, rfl, rfl, hz, by rw [el]; exact atI_nat (j := 0) rfl, _, rfl, c, lets, rfl, rfl, _, rfl, ite2 (fun h2 => ?_) (fun h2 => ?_)⟩
            · have h2' : inLets c = false := by simpa [inLets] using h2
              rw [h2', Bool.false_and] at k
              exact k H (Same.refl H)
            · have h2' : inLets c = true := by simpa [inLets] using h2
              rw [h2', Bool.true_and] at k
              refine ⟨_, rfl, x, rfl, fun D nD => lc_it (walk_str (z := x)) (fun i H2 => Same H H2 ∧ H2 D = some (.lst (((x.cps.toList.take i).filter fun c => !inSgns c).map fun c => V.str ⟨#[c]⟩))) ⟨same_new nD, upd_same⟩ (fun _ _ _ _ => trivial) ?_ ?_⟩
              · rintro i y H2 H3 hi ⟨sm, hD⟩ ⟨rfl, z, hz1, rfl⟩
                have hz2 : x.cps.toList[i]? = some z := by simpa using hz1
                refine ⟨rfl, _, rfl, _, rfl, _, _, rfl, rfl, by decide, z, sgns, rfl, rfl, _, rfl, ?_⟩
                rw [List.take_add_one, hz2, List.filter_append, List.map_append]
                refine ite2 (fun h3 => ?_) (fun h3 => ?_)
                · have h3' : inSgns z = false := by simpa [inSgns] using h3
                  refine ⟨_, rfl, _, hD, small1000 ?_, fun b o e => ?_, ?_⟩
                  · rw [List.length_map]
                    refine Nat.le_trans (List.length_filter_le _ _) ?_
                    rw [List.length_take]
                    exact Nat.le_trans (Nat.min_le_right _ _) (by rw [el, List.length_cons]; omega)
                  · rw [upd_ne (ne_of_none e nD)]
                    exact sm b o e
                  · rw [upd_same]
                    simp [h3']
                · have h3' : inSgns z = true := by simpa [inSgns] using h3
                  refine ⟨sm, ?_⟩
                  rw [hD]
                  simp [h3']
              · rintro H2 ⟨sm, hD⟩
                have ex : x.cps.toList.take x.cps.size = c :: r := by
                  rw [← el]
                  exact List.take_of_length_le (by simp)
                rw [ex] at hD
                refine ⟨Nat.zero_le _, fun p np => ⟨D, p, _, rfl, rfl, by rw [upd_ne (ne_of_none hD np)]; exact hD, upd_same, ?_⟩⟩
                rw [filter_nil]
                exact k _ (sm.trans (same_new np))
    | _ => exact k H (Same.refl H)
end
end K13
namespace K13
open PySem PySem.Spec PyProof.Rows L2 Ver
/-! ### the last of a tuple -/
theorem at_last {α : Type} {l : List α} {v : α} (h : l[l.length - 1]? = some v) : atI l (-1) = some v := by
  have hl : l ≠ [] := fun z => by
    subst z
    simp at h
  have e : l = l.dropLast ++ [v] := by
    have := List.dropLast_concat_getLast hl
    rw [List.getLast_eq_getElem] at this
    have hv : l[l.length - 1]'(by have := List.length_pos_iff.mpr hl; omega) = v := by
      have := (List.getElem?_eq_some_iff.mp h).2
      exact this
    rw [hv] at this
    exact this.symm
  rw [e]
  exact atI_last _ _
def lastD (ds : List PyData) : PyData := ds.getD (ds.length - 1) .none
/-! ### the answers of the law agree with valD -/
def listed (ds : List PyData) : Bool := eqSs ds ["none"] || eqSs ds ["bit", "yes"] || eqSs ds ["bit", "no"]
theorem listed_val : ∀ {ds : List PyData}, listed ds = true → valD (.tuple ds) = true
  | [], h => by simp [listed, eqSs] at h
  | [x], h => by
    have : eqS x "none" = true := by simpa [listed, eqSs] using h
    exact this
  | [x, y], h => by
    have h' : eqS x "bit" = true ∧ (eqS y "yes" = true ∨ eqS y "no" = true) := by
      simp [listed, eqSs] at h
      rcases h with h | h
      · exact ⟨h.1, .inl h.2⟩
      · exact ⟨h.1, .inr h.2⟩
    show pairD x y = true
    unfold pairD
    rw [if_pos h'.1]
    simpa using h'.2
  | _ :: _ :: _ :: _, h => by simp [listed, eqSs] at h
theorem str_ne {z x y : Str} (h : eqS (.str z) x = true) (hxy : x ≠ y) : eqS (.str z) y = false := by
  have e : z = x := by simpa [eqS] using h
  subst e
  simpa [eqS] using hxy
/-- the last row: value[0] == 'obj' and len(value) == 2 and is_whole -/
theorem rest_val {z : Str} {ds : List PyData} (hl : listed (.str z :: ds) = false) (ht : ¬ (eqS (.str z) "tok" = true ∧ ds.length = 2)) (hf : ¬ ((eqS (.str z) "err" || eqS (.str z) "fun") = true ∧ ds.length = 1)) :
    valD (.tuple (.str z :: ds)) = (eqS (.str z) "obj" && (decide (ds.length = 1) && numD (lastD (.str z :: ds)))) := by
  match ds with
  | [] =>
    have h : eqS (.str z) "none" = false := by simpa [listed, eqSs] using hl
    show eqS (.str z) "none" = _
    rw [h]
    simp
  | [y] =>
    have h1 : (eqS (.str z) "err" || eqS (.str z) "fun") = false := Bool.eq_false_iff.mpr fun q => hf ⟨q, rfl⟩
    show pairD (.str z) y = (eqS (.str z) "obj" && (true && numD y))
    unfold pairD
    by_cases hb : eqS (.str z) "bit" = true
    · rw [if_pos hb, str_ne hb (by decide : ("bit" : Str) ≠ "obj"), Bool.false_and]
      have : ¬ (eqS y "yes" = true) ∧ ¬ (eqS y "no" = true) := by
        constructor <;> intro q <;> simp [listed, eqSs, hb, q] at hl
      rw [Bool.eq_false_iff.mpr this.1, Bool.eq_false_iff.mpr this.2]
      rfl
    · rw [if_neg hb, if_neg (by rw [h1]; exact Bool.false_ne_true), Bool.true_and]
  | [y, u] =>
    have h1 : eqS (.str z) "tok" = false := Bool.eq_false_iff.mpr fun q => ht ⟨q, rfl⟩
    show (eqS (.str z) "tok" && _) = _
    rw [h1]
    simp
  | _ :: _ :: _ :: _ =>
    show false = _
    simp
theorem eqS_nostr {d : PyData} {y : Str} (h : isStr d = false) : eqS d y = false := by
  cases d <;> first | rfl | cases h
theorem val_nostr {d : PyData} (h : isStr d = false) : ∀ {ds : List PyData}, valD (.tuple (d :: ds)) = false
  | [] => eqS_nostr h
  | [y] => by
    show pairD d y = false
    unfold pairD
    simp [eqS_nostr h]
  | [y, u] => by
    show (eqS d "tok" && _) = false
    rw [eqS_nostr h, Bool.false_and]
  | _ :: _ :: _ :: _ => rfl
/-- value[-1] -/
abbrev tLast (K : PySem.W.Frag) : TE := tOp (rIxT K) (tVar 0) (tUn (rU fun i => .int (-i)) (tC (.int 1)))
/-- isinstance(value[-1], int) and not isinstance(value[-1], bool) and value[-1] >= 0 -/
theorem read_whole {K : PySem.W.Frag} {N : Addr → Prop} {H : Hp} {a : Addr} {xs : List V} {v : V} {d : PyData} (e : SqT K H a xs) (h : atI xs (-1) = some v) (q : Da N H v d) {σ : L2.St} (h0 : σ[0]? = some (some (.ref a))) {Q : VK} (k : Q (.bl (numD d)) H) :
    tAndV (tCB (rIsi K) (tCons (tLast K) (tCons (tC (.ty "int")) tNil))) (tAndV (tNotV (tCB (rIsi K) (tCons (tLast K) (tCons (tC (.ty "bool")) tNil)))) (tOp (rI0 fun i j => .bl (decide (i ≥ j))) (tLast K) (tC (.int 0)))) σ H Q := by
  refine ⟨_, h0, _, rfl, a, xs, _, v, rfl, rfl, e, h, v, .ty "int", _, _, _, rfl, .ty _, Da.ty q, kit_int d, _, rfl, ?_⟩
  cases d with
  | int i => exact ⟨_, h0, _, rfl, a, xs, _, v, rfl, rfl, e, h, v, .ty "bool", _, _, _, rfl, .ty _, Da.ty q, kit_bool (.int i), _, rfl, _, rfl, _, h0, _, rfl, a, xs, _, v, rfl, rfl, e, h, by cases q; exact ⟨_, _, rfl, rfl, k⟩⟩
  | bool b => exact ⟨_, h0, _, rfl, a, xs, _, v, rfl, rfl, e, h, v, .ty "bool", _, _, _, rfl, .ty _, Da.ty q, kit_bool (.bool b), _, rfl, _, rfl, k⟩
  | _ => exact k
theorem in_two (z x y : Str) : inV (.str z) [.str x, .str y] = (eqS (.str z) x || eqS (.str z) y) := by
  show ((x == z) || ((y == z) || false)) = ((z == x) || (z == y))
  rw [Bool.or_false, beq_comm_str x z, beq_comm_str y z]
section
variable {P : Program} {w : World} {K : PySem.W.Frag} {mg : Str → Option Value} {base : Heap}
theorem scLV : FnScope ["value", "is_whole"] ["value"] (defScope sLVal) := ⟨rfl, rfl, rfl, by decide +kernel, rfl, by decide +kernel, by decide +kernel⟩
theorem ok_lval {f fW : Addr} {fd fdW : FuncData} (F : Fun K "_law_is_value" "_law_is_value" sLVal f fd) (T : Glob mg) (GW : FnOk P w K mg base CX0 1 fW fdW ["value"] (spAsk Short wordD)) (DW : Def K mg "_law_is_word" fW) (bW : Binds K fdW ["value"] []) :
    FnOk P w K mg base CX0 2 f fd ["value"] (spAsk ShortT valD) := by
  refine F.ok scLV (fun vs H Q E h => ?_) (fun cdv A outer s H vs Q E hr h => ?_)
  · obtain ⟨N, v, d, rfl, _⟩ := h
    rfl
  · obtain ⟨N, v, d, rfl, hv, hs, k⟩ := h
    have hu := hu_of hr
    have h0 := hr.units0
    have hu2 : A.units + 3 + 2 < cLine := by have := hr.un; show A.units + 3 + 2 < cLine; have e : (A.deeper (envOfC "_law_is_value" (defScope sLVal) s.heap.objs.size f cdv)).units = A.units + 3 := rfl; omega
    refine ⟨_, pss_cons (ps_if (PW.pt (pw_or (pt_not (pt_val (pe_callB call_isi (by rfl) T.isinstance (by decide +kernel) (pa_cons (pv 0) (pa_cons (pe_bltn (v := .ty "tuple") (by rfl) T.tuple (by decide +kernel) rfl) pa_nil)))))
        (pw_or (pt_cmpR (op_eqT (N := N) hu) (pv 0) (pe_tup pa_nil) (nomark _))
        (pw_or1 (pt_not (pt_val (pe_callB call_isi (by rfl) T.isinstance (by decide +kernel) (pa_cons (pe_ix ix_tup (pv 0) pe_int (fun _ _ => rfl)) (pa_cons (pe_bltn (v := .ty "str") (by rfl) T.str (by decide +kernel) rfl) pa_nil))))))))) (pss_one (ps_ret pe_bl)) pss_nil)
      (pss_cons (ps_if (pt_cmpR (op_inT (N := N) hu2) (pv 0) (pe_lst (pa_cons (pe_tup (pa_cons pe_str pa_nil)) (pa_cons (pe_tup (pa_cons pe_str (pa_cons pe_str pa_nil))) (pa_cons (pe_tup (pa_cons pe_str (pa_cons pe_str pa_nil))) pa_nil)))) (by rfl))
        (pss_one (ps_ret pe_bl)) pss_nil)
      (pss_cons (ps_set (i := 1) scLV.nd rfl (.inl rfl) (pe_and (pe_callB call_isi (by rfl) T.isinstance (by decide +kernel) (pa_cons (pe_ix ix_tup (pv 0) (pe_un un_neg pe_int) (fun _ _ => rfl)) (pa_cons (pe_bltn (v := .ty "int") (by rfl) T.int (by decide +kernel) rfl) pa_nil)))
        (pe_and (pe_not (pe_callB call_isi (by rfl) T.isinstance (by decide +kernel) (pa_cons (pe_ix ix_tup (pv 0) (pe_un un_neg pe_int) (fun _ _ => rfl)) (pa_cons (pe_bltn (v := .ty "bool") (by rfl) T.bool (by decide +kernel) rfl) pa_nil))))
          (pe_one (pe_cmpR op_ge (pe_ix ix_tup (pv 0) (pe_un un_neg pe_int) (fun _ _ => rfl)) pe_int (nomark _))))))
      (pss_cons (ps_if (PW.pt (pw_and (pt_cmpR (op_eqS (N := N) h0) (pe_ix ix_tup (pv 0) pe_int (fun _ _ => rfl)) pe_str (nomark _)) (pw_and1 (pt_cmpR op_eq (pe_callB call_len_seq (by rfl) T.len PySem.boot_len (pa_cons (pv 0) pa_nil)) pe_int (nomark _)))))
        (pss_one (ps_ret (pe_and (pe_call GW hr (by rfl) DW.gl DW.kp bW .nil pass0 (pa_cons (pe_ix ix_tup (pv 0) pe_int (fun _ _ => rfl)) pa_nil))
          (pe_and (pe_cmpR op_notIn_seq (pe_ix ix_tup (pv 0) pe_int (fun _ _ => rfl)) (pe_lst (pa_cons pe_str (pa_cons pe_str (pa_cons pe_str (pa_cons pe_str (pa_cons pe_str pa_nil)))))) (by rfl)) (pe_one (pv 1)))))) pss_nil)
      (pss_cons (ps_if (PW.pt (pw_and (pt_cmpR op_in_seq (pe_ix ix_tup (pv 0) pe_int (fun _ _ => rfl)) (pe_lst (pa_cons pe_str (pa_cons pe_str pa_nil))) (by rfl)) (pw_and1 (pt_cmpR op_eq (pe_callB call_len_seq (by rfl) T.len PySem.boot_len (pa_cons (pv 0) pa_nil)) pe_int (nomark _)))))
        (pss_one (ps_ret (pe_call GW hr (by rfl) DW.gl DW.kp bW .nil pass0 (pa_cons (pe_ix ix_tup (pv 0) pe_int (fun _ _ => rfl)) pa_nil)))) pss_nil)
      (pss_one (ps_ret (pe_and (pe_cmpR (op_eqS (N := N) h0) (pe_ix ix_tup (pv 0) pe_int (fun _ _ => rfl)) pe_str (nomark _))
        (pe_and (pe_cmpR op_eq (pe_callB call_len_seq (by rfl) T.len PySem.boot_len (pa_cons (pv 0) pa_nil)) pe_int (nomark _)) (pe_one (pv 1)))))))))), ?_⟩
    refine ⟨_, rfl, v, .ty "tuple", _, _, _, rfl, .ty _, Da.ty hv, kit_tuple d, _, rfl, ?_⟩
    cases d with
    | tuple ds =>
      cases hv with
      | @tup a xs _ e nN q =>
        have eT : SqT K H a xs := SqT.of e
        have el := q.length
        have hs' : ∀ d ∈ ds, Short d := hs
        -- value == ()
        refine ⟨_, rfl, Nat.zero_le _, fun p np => ⟨a, xs, ds, p, [], rfl, (same_new np) |> fun s => SqT.of (s _ _ e), q.keep (Same.keep (same_new np)), rfl, SqT.of upd_same, _, rfl, ite2 (fun g => ?_) (fun g => ?_)⟩⟩
        · have : ds = [] := by
            cases ds with
            | nil => rfl
            | cons _ _ => simp [eqSs] at g
          subst this
          exact k _ (same_new np)
        · -- not isinstance(value[0], str)
          have eT1 : SqT K (upd H p (.tup [])) a xs := SqT.of (same_new np _ _ e)
          have q1 : Das N (upd H p (.tup [])) xs ds := q.keep (Same.keep (same_new np))
          have s1 : Same H (upd H p (.tup [])) := same_new np
          revert eT1 q1 s1
          generalize upd H p (.tup []) = H1
          intro eT1 q1 s1
          cases q1 with
          | nil => exact absurd rfl g
          | @cons x0 xs d0 ds r0 qs =>
            refine ⟨_, rfl, a, _, _, x0, rfl, rfl, eT1, atI_nat (j := 0) rfl, x0, .ty "str", _, _, _, rfl, .ty _, Da.ty r0, kit_str d0, _, rfl, ?_⟩
            cases d0 with
            | str z =>
              cases r0
              -- value in [..]
              refine ⟨_, rfl, by show 1 ≤ sizeLine; decide, fun p1 n1 => ⟨by show 2 ≤ sizeLine; decide, fun p2 n2 => ⟨by show 2 ≤ sizeLine; decide, fun p3 n3 => ⟨by show 3 ≤ sizeLine; decide, fun l nl => ?_⟩⟩⟩⟩
              have t1 : Same H1 (upd H1 p1 (.tup [.str "none"])) := same_new n1
              have t2 : Same (upd H1 p1 (.tup [.str "none"])) (upd (upd H1 p1 (.tup [.str "none"])) p2 (.tup [.str "bit", .str "yes"])) := same_new n2
              have t3 := same_new (o := .tup [.str "bit", .str "no"]) n3
              have t4 := same_new (o := .lst [.ref p1, .ref p2, .ref p3]) nl
              have g1 := t4 _ _ (t3 _ _ (t2 _ _ upd_same))
              have g2 := t4 _ _ (t3 _ _ upd_same)
              have g3 := t4 _ _ upd_same
              have m12 : p1 ≠ p2 := ne_of_none upd_same n2
              have m13 : p1 ≠ p3 := ne_of_none (t2 _ _ upd_same) n3
              have m23 : p2 ≠ p3 := ne_of_none upd_same n3
              have s2 := s1.trans (t1.trans (t2.trans (t3.trans t4)))
              have hl : upd (upd (upd (upd H1 p1 (.tup [.str "none"])) p2 (.tup [.str "bit", .str "yes"])) p3 (.tup [.str "bit", .str "no"])) l (.lst [.ref p1, .ref p2, .ref p3]) l = some (.lst [.ref p1, .ref p2, .ref p3]) := upd_same
              have q2 := qs.keep (Same.keep (t1.trans (t2.trans (t3.trans t4))))
              revert g1 g2 g3 s2 hl q2
              generalize upd (upd (upd (upd H1 p1 (.tup [.str "none"])) p2 (.tup [.str "bit", .str "yes"])) p3 (.tup [.str "bit", .str "no"])) l (.lst [.ref p1, .ref p2, .ref p3]) = H2
              intro g1 g2 g3 s2 hl q2
              have eT2 : SqT K H2 a (.str z :: xs) := SqT.of (s2 _ _ e)
              refine ⟨a, _, .str z :: ds, l, p1, p2, p3, ["none"], ["bit", "yes"], ["bit", "no"], rfl, eT2, .cons (.str z) q2, rfl, SqL.of hl, ⟨SqT.of g1, SqT.of g2, SqT.of g3⟩, ⟨m12, m13, m23⟩, _, rfl, ite2 (fun h1 => ?_) (fun h1 => ?_)⟩
              · have ev := listed_val (ds := .str z :: ds) h1
                rw [ev] at k
                exact k H2 s2
              · have nl' : listed (.str z :: ds) = false := Bool.eq_false_iff.mpr h1
                have hq : Das N H2 (.str z :: xs) (.str z :: ds) := .cons (.str z) q2
                have ln : xs.length = ds.length := q2.length
                obtain ⟨vl, hv1, hv2⟩ := hq.get (i := ds.length) (d := lastD (.str z :: ds)) (by
                  show (PyData.str z :: ds)[ds.length]? = some ((PyData.str z :: ds).getD (ds.length + 1 - 1) .none)
                  rw [Nat.add_sub_cancel, List.getD_eq_getElem?_getD, List.getElem?_eq_getElem (by simp)]
                  rfl)
                have hat : atI (V.str z :: xs) (-1) = some vl := at_last (by rw [List.length_cons, Nat.add_sub_cancel, ln]; exact hv1)
                have s2k := k H2 s2
                refine read_whole (N := N) eT2 hat hv2 rfl ?_
                -- value[0] == 'tok' and len(value) == 3
                refine ⟨_, rfl, a, _, _, .str z, rfl, rfl, eT2, atI_nat (j := 0) rfl, .str z, _, .str z, rfl, _, rfl, ite2 (fun ht => ⟨_, rfl, _, _, rfl, .inr eT2, rfl, _, rfl, ite2 (fun h3 => ?_) (fun h3 => ?_)⟩) (fun ht => ?_)⟩
                · -- three
                  obtain ⟨d1, d2, rfl⟩ := len2 (l := ds) (by have := of_len h3; rw [List.length_cons] at this; omega)
                  obtain ⟨x1, x2, rfl⟩ := len2 (l := xs) (by rw [ln]; rfl)
                  cases q2 with
                  | cons r1 q2 =>
                  cases q2 with
                  | cons r2 q2 =>
                    have ev : valD (.tuple [.str z, d1, d2]) = (kindD d1 && numD d2) := by
                      show (eqS (.str z) "tok" && _) = _
                      rw [ht, Bool.true_and]
                    rw [ev] at k
                    refine ⟨_, rfl, a, _, _, x1, rfl, rfl, eT2, atI_nat (j := 1) rfl, N, x1, d1, rfl, r1, hs' _ (by simp), fun H3 s3 => ⟨_, rfl, ite2 (fun hw => ?_) (fun hw => ?_)⟩⟩
                    · cases d1 with
                      | str y =>
                        cases r1
                        have eT3 : SqT K H3 a [.str z, .str y, x2] := SqT.of (s3 _ _ (s2 _ _ e))
                        have hw' : wordS y = true := hw
                        have ek : kindD (.str y) = !inV (.str y) (resv.map V.str) := by
                          show (wordS y && !resv.any fun u => u == y) = _
                          rw [hw', Bool.true_and]
                          rfl
                        rw [ek] at k
                        refine ⟨_, rfl, a, _, _, .str y, rfl, rfl, eT3, atI_nat (j := 1) rfl, by show 5 ≤ sizeLine; decide, fun l nl => ⟨l, _, rfl, .inl (SqL.of upd_same), rfl, rfl, _, rfl, ite2 (fun hn => ?_) (fun hn => ?_)⟩⟩
                        · have hn' : (!inV (.str y) (resv.map V.str)) = true := hn
                          rw [hn', Bool.true_and] at k
                          exact ⟨_, rfl, k _ (s2.trans (s3.trans (same_new nl)))⟩
                        · have hn' : (!inV (.str y) (resv.map V.str)) = false := Bool.eq_false_iff.mpr hn
                          rw [hn', Bool.false_and] at k
                          exact k _ (s2.trans (s3.trans (same_new nl)))
                      | _ => cases hw
                    · have e0 : kindD d1 = false := by
                        cases d1 with
                        | str y =>
                          have : wordS y = false := Bool.eq_false_iff.mpr hw
                          show (wordS y && _) = false
                          rw [this, Bool.false_and]
                        | _ => rfl
                      rw [e0, Bool.false_and] at k
                      exact k _ (s2.trans s3)
                all_goals
                  -- value[0] in ['err', 'fun'] and len(value) == 2
                  have ht' : ¬ (eqS (.str z) "tok" = true ∧ ds.length = 2) := by
                    first
                      | exact fun q => ht q.1
                      | (intro q
                         have := not_len h3
                         rw [List.length_cons] at this
                         omega)
                  refine ⟨_, rfl, a, _, _, .str z, rfl, rfl, eT2, atI_nat (j := 0) rfl, by show 2 ≤ sizeLine; decide, fun l nl => ⟨l, _, rfl, .inl (SqL.of upd_same), rfl, rfl, _, rfl, ?_⟩⟩
                  have s3 : Same H2 (upd H2 l (.lst [.str "err", .str "fun"])) := same_new nl
                  have eT3 : SqT K (upd H2 l (.lst [.str "err", .str "fun"])) a (.str z :: xs) := SqT.of (s3 _ _ (s2 _ _ e))
                  have q3 := q2.keep (Same.keep s3)
                  have k3 : ∀ H', Same (upd H2 l (.lst [.str "err", .str "fun"])) H' → Q (.bl (valD (.tuple (.str z :: ds)))) H' := fun H' s4 => k H' (s2.trans (s3.trans s4))
                  clear k s2k
                  revert s3 eT3 q3 k3
                  generalize upd H2 l (.lst [.str "err", .str "fun"]) = H3
                  intro s3 eT3 q3 k3
                  refine ite2 (fun hf => ⟨_, rfl, _, _, rfl, .inr eT3, rfl, _, rfl, ite2 (fun h2 => ?_) (fun h2 => ?_)⟩) (fun hf => ?_)
                  · -- two
                    obtain ⟨d1, rfl⟩ := len1 (l := ds) (by have := of_len h2; rw [List.length_cons] at this; omega)
                    obtain ⟨x1, rfl⟩ := len1 (l := xs) (by rw [ln]; rfl)
                    have hf' : (eqS (.str z) "err" || eqS (.str z) "fun") = true := by
                      rw [← in_two]
                      exact hf
                    have nb : ¬ eqS (.str z) "bit" = true := by
                      rcases Bool.or_eq_true_iff.mp hf' with h | h
                      · rw [str_ne h (by decide)]
                        exact Bool.false_ne_true
                      · rw [str_ne h (by decide)]
                        exact Bool.false_ne_true
                    have ev : valD (.tuple [.str z, d1]) = wordD d1 := (if_neg nb).trans (if_pos hf')
                    rw [ev] at k3
                    cases q3 with
                    | cons r1 _ => exact ⟨_, rfl, a, _, _, x1, rfl, rfl, eT3, atI_nat (j := 1) rfl, N, x1, d1, rfl, r1, hs' _ (by simp), k3⟩
                  all_goals
                    have hf' : ¬ ((eqS (.str z) "err" || eqS (.str z) "fun") = true ∧ ds.length = 1) := by
                      first
                        | (intro q
                           have := not_len h2
                           rw [List.length_cons] at this
                           omega)
                        | (intro q
                           refine hf ?_
                           show inV (.str z) [.str "err", .str "fun"] = true
                           rw [in_two]
                           exact q.1)
                    rw [rest_val nl' ht' hf'] at k3
                    refine ⟨_, rfl, a, _, _, .str z, rfl, rfl, eT3, atI_nat (j := 0) rfl, .str z, _, .str z, rfl, _, rfl, ite2 (fun ho => ⟨_, rfl, _, _, rfl, .inr eT3, rfl, _, rfl, ite2 (fun h2 => ?_) (fun h2 => ?_)⟩) (fun ho => ?_)⟩
                    · have e1 : decide (ds.length = 1) = true := decide_eq_true (by have := of_len h2; rw [List.length_cons] at this; omega)
                      rw [ho, e1, Bool.true_and, Bool.true_and] at k3
                      exact ⟨_, rfl, k3 _ (Same.refl _)⟩
                    · have e1 : decide (ds.length = 1) = false := decide_eq_false (by have := not_len h2; rw [List.length_cons] at this; omega)
                      rw [ho, e1, Bool.true_and, Bool.false_and] at k3
                      exact k3 _ (Same.refl _)
                    · rw [Bool.eq_false_iff.mpr ho, Bool.false_and] at k3
                      exact k3 _ (Same.refl _)
            | _ =>
              rw [val_nostr rfl] at k
              exact k _ s1
    | _ => exact k H (Same.refl H)
end
end K13
namespace K13
open PySem PySem.Spec PyProof.Rows L2 Ver
abbrev sLWd : Stmt := top 18
abbrev sThing : Stmt := top 19
/-- a new address is none of the draws' -/
theorem Src.off {p c : Addr} {H : Hp} (S : Src p c H) {a : Addr} (h : H a = none) : ¬ Off p c a := by
  obtain ⟨_, ns, l, m, t, hp, hc, _⟩ := S
  rintro (e | e)
  · rw [e, hp] at h
    cases h
  · rw [e, hc] at h
    cases h
/-- a new object leaves the draws' state -/
theorem Src.new {p c : Addr} {H : Hp} (S : Src p c H) {a : Addr} {o : HO} (h : H a = none) : Src p c (upd H a o) := by
  obtain ⟨n, ns, l, m, t, hp, hc, hl⟩ := S
  exact ⟨n, ns, l, m, t, by rw [upd_ne (ne_of_none hp h)]; exact hp, by rw [upd_ne (ne_of_none hc h)]; exact hc, hl⟩
theorem Src.same {p c : Addr} {H H' : Hp} (S : Src p c H) (k : Same H H') : Src p c H' := by
  obtain ⟨n, ns, l, m, t, hp, hc, hl⟩ := S
  exact ⟨n, ns, l, m, t, k _ _ hp, k _ _ hc, hl⟩
theorem keep_new {N : Addr → Prop} {H H' : Hp} {a : Addr} {o : HO} (k : Keep N H H') (h : H' a = none) : Keep N H (upd H' a o) := fun b x e n => by
  rw [upd_ne (ne_of_none (k b x e n) h)]
  exact k b x e n
/-- what is new behind was not there ahead -/
theorem keep_none {p c : Addr} {H H' : Hp} (S : Src p c H) (k : Keep (Off p c) H H') {a : Addr} (h : H' a = none) (n : ¬ Off p c a) : H a = none := by
  cases e : H a with
  | none => rfl
  | some o =>
    rw [k a o e n] at h
    cases h
theorem at_int {α : Type} {xs : List α} {r : Int} (h0 : 0 ≤ r) (h1 : r < xs.length) : ∃ v, atI xs r = some v ∧ v ∈ xs := by
  obtain ⟨n, rfl⟩ := Int.eq_ofNat_of_zero_le h0
  have hi : n < xs.length := by omega
  exact ⟨xs[n], atI_nat (List.getElem?_eq_getElem hi), List.getElem_mem hi⟩
def spOf : Sp := fun vs H Q _ => ∃ (p c l : Addr) (xs : List V), vs = [.ref p, .ref l] ∧ Src p c H ∧ H l = some (.lst xs) ∧ ¬ Off p c l ∧ 1 ≤ xs.length ∧ xs.length ≤ 1000 ∧ ∀ v H', v ∈ xs → Keep (Off p c) H H' → Src p c H' → Q v H'
/-- a text that a draw may give -/
structure Word (y : Str) : Prop where
  len : y.length ≤ 13
  cs : ∀ z ∈ y.cps.toList, z < 16 ^ 8
def spWord : Sp := fun vs H Q _ => ∃ (p c : Addr), vs = [.ref p] ∧ Src p c H ∧ ∀ y H', Word y → Keep (Off p c) H H' → Src p c H' → Q (.str y) H'
/-- what a draw may give: short texts, small -/
structure Thing (d : PyData) : Prop where
  fit : Fit 200 1 d
  sh : Short d
  in_ : ShortT d
def spThing : Sp := fun vs H Q _ => ∃ (p c : Addr), vs = [.ref p] ∧ Src p c H ∧ ∀ v d H', Da (Off p c) H' v d → Thing d → Keep (Off p c) H H' → Src p c H' → Q v H'
theorem word_thing {y : Str} (h : Word y) : Thing (.str y) := ⟨fit_str h.cs (by have := h.len; omega), by have := h.len; show y.length ≤ 1000; omega, by have := h.len; show y.length ≤ 1000; omega⟩
theorem word_app {x y : Str} (hl : x.length + y.length ≤ 13) (hx : Word x) (hy : Word y) : Word (x ++ y) := by
  refine ⟨by rw [strLen_append]; exact hl, fun z hz => ?_⟩
  have e : (x ++ y).cps.toList = x.cps.toList ++ y.cps.toList := TL.tl_append x y
  rw [e] at hz
  exact (List.mem_append.mp hz).elim (hx.cs z) (hy.cs z)
theorem word_lit {y : Str} (h : (decide (y.length ≤ 13) && y.cps.toList.all fun z => decide (z < 16 ^ 8)) = true) : Word y := by
  simp only [Bool.and_eq_true, decide_eq_true_eq, List.all_eq_true] at h
  exact ⟨h.1, h.2⟩
/-- texts of one sign, joined -/
theorem join_one : ∀ {ys : List Str}, (∀ y ∈ ys, y.length = 1 ∧ ∀ z ∈ y.cps.toList, z < 16 ^ 8) → (Txt.join "" ys).length = ys.length ∧ ∀ z ∈ (Txt.join "" ys).cps.toList, z < 16 ^ 8 := by
  intro ys h
  rw [TL.join_eq]
  have e : TL.tl (Str.join "" ys) = TL.joinL [] (ys.map TL.tl) := TL.tl_join "" ys
  have key : ∀ ys : List Str, (∀ y ∈ ys, y.length = 1 ∧ ∀ z ∈ y.cps.toList, z < 16 ^ 8) → (TL.joinL [] (ys.map TL.tl)).length = ys.length ∧ ∀ z ∈ TL.joinL [] (ys.map TL.tl), z < 16 ^ 8 := by
    intro ys
    induction ys with
    | nil => exact fun _ => ⟨rfl, fun z hz => nomatch hz⟩
    | cons y r ih =>
      intro h
      obtain ⟨h1, h2⟩ := h y List.mem_cons_self
      obtain ⟨i1, i2⟩ := ih fun z hz => h z (List.mem_cons_of_mem _ hz)
      have l1 : (TL.tl y).length = 1 := (TL.len_tl y).symm.trans h1
      cases r with
      | nil => exact ⟨l1, h2⟩
      | cons z r =>
        show (TL.tl y ++ ([] ++ TL.joinL [] ((z :: r).map TL.tl))).length = _ ∧ _
        refine ⟨?_, ?_⟩
        · rw [List.nil_append, List.length_append, l1, i1, List.length_cons (a := y)]
          omega
        · intro u hu
          have hu' : u ∈ TL.tl y ++ ([] ++ TL.joinL [] ((z :: r).map TL.tl)) := hu
          rw [List.nil_append] at hu'
          exact (List.mem_append.mp hu').elim (h2 u) (i2 u)
  obtain ⟨k1, k2⟩ := key ys h
  rw [← e] at k1 k2
  exact ⟨(TL.len_tl _).trans k1, k2⟩
section
variable {P : Program} {w : World} {K : PySem.W.Frag} {mg : Str → Option Value} {base : Heap}
theorem scO : FnScope ["source", "some"] ["source", "some"] (defScope sOf) := ⟨rfl, rfl, rfl, by decide +kernel, rfl, by decide +kernel, by decide +kernel⟩
theorem ok_of {f fP : Addr} {fd fdP : FuncData} (F : Fun K "_law_of" "_law_of" sOf f fd) (T : Txt mg) (GP : FnOk P w K mg base CX0 1 fP fdP ["source", "many"] spPick) (DP : Def K mg "_law_pick" fP) (bP : Binds K fdP ["source", "many"] []) :
    FnOk P w K mg base CX0 2 f fd ["source", "some"] spOf := by
  refine F.ok scO (fun vs H Q E h => ?_) (fun cdv A outer s H vs Q E hr h => ?_)
  · obtain ⟨p, c, l, xs, rfl, _⟩ := h
    rfl
  · obtain ⟨p, c, l, xs, rfl, S, hl, nl, h1, h2, k⟩ := h
    refine ⟨_, pss_one (ps_ret (pe_ix ix_list (pv 1) (pe_call GP hr (by rfl) DP.gl DP.kp bP .nil pass0 (pa_cons (pv 0) (pa_cons (pe_callB call_len_seq (by rfl) T.len PySem.boot_len (pa_cons (pv 1) pa_nil)) pa_nil))) (fun _ _ => rfl))), ?_⟩
    refine ⟨_, rfl, _, rfl, _, rfl, _, _, rfl, .inl (SqL.of hl), p, c, _, rfl, S, by omega, by omega, fun r H' r0 r1 kp S' => ?_⟩
    obtain ⟨v, e, hv⟩ := at_int r0 r1
    exact ⟨l, xs, r, v, rfl, rfl, SqL.of (kp _ _ hl nl), e, k _ H' hv kp S'⟩
theorem scWd : FnScope ["source", "signs", "found", "k"] ["source"] (defScope sLWd) := ⟨rfl, rfl, rfl, by decide +kernel, rfl, by decide +kernel, by decide +kernel⟩
def alfa : Str := "abyz0159AZ_- '"
theorem alfa_at {r : Int} (h0 : 0 ≤ r) (h1 : r < 14) : ∃ z, atI alfa.cps.toList r = some z ∧ z < 16 ^ 8 := by
  have e14 : (alfa.cps.toList.length : Int) = 14 := by decide
  obtain ⟨z, e, hz⟩ := at_int (xs := alfa.cps.toList) h0 (by rw [e14]; exact h1)
  have : ∀ z ∈ alfa.cps.toList, z < 16 ^ 8 := by decide
  exact ⟨z, e, this z hz⟩
theorem ok_lwd {f fP fO : Addr} {fd fdP fdO : FuncData} (F : Fun K "_law_word" "_law_word" sLWd f fd) (T : Txt mg) (GP : FnOk P w K mg base CX0 1 fP fdP ["source", "many"] spPick) (DP : Def K mg "_law_pick" fP) (bP : Binds K fdP ["source", "many"] [])
    (GO : FnOk P w K mg base CX0 2 fO fdO ["source", "some"] spOf) (DO : Def K mg "_law_of" fO) (bO : Binds K fdO ["source", "some"] []) : FnOk P w K mg base CX0 3 f fd ["source"] spWord := by
  refine F.ok scWd (fun vs H Q E h => ?_) (fun cdv A outer s H vs Q E hr h => ?_)
  · obtain ⟨p, c, rfl, _⟩ := h
    rfl
  · obtain ⟨p, c, rfl, S, k⟩ := h
    have hr1 : Room 1 _ := hr.mono (by decide)
    refine ⟨_, pss_cons (ps_set (i := 1) scWd.nd rfl (.inr rfl) pe_str)
      (pss_cons (ps_set (i := 2) scWd.nd rfl (.inl rfl) (pe_join pe_str (pe_lc (own := [("k", 3)]) (g := gName 3) (tt := tYes) rfl scWd.nd
          (pi_range1 (by rfl) T.range (pa_cons (pe_call GP hr1 (by rfl) DP.gl DP.kp bP .nil pass0 (pa_cons (pv 0) (pa_cons pe_int pa_nil))) pa_nil))
          (blkOk_by (N := ["source", "signs", "found", "k"]) (sc := defScope sLWd) (by decide +kernel)) (fun _ _ _ _ _ => pg_name (i := 3) scWd.nd rfl (.inl rfl)) (fun _ _ _ _ _ => pts_nil)
          (fun _ _ _ _ _ => pe_ix ix_str (pv 1) (pe_call GP hr1 (by rfl) DP.gl DP.kp bP .nil pass0 (pa_cons (pv 0) (pa_cons
            (pe_ifExp (pt_cmpR op_gt (pe_call GP hr1 (by rfl) DP.gl DP.kp bP .nil pass0 (pa_cons (pv 0) (pa_cons pe_int pa_nil))) pe_int (nomark _)) pe_int pe_int) pa_nil))) (fun _ _ => rfl)))))
      (pss_one (ps_ret (pe_call GO hr (by rfl) DO.gl DO.kp bO .nil pass0 (pa_cons (pv 0) (pa_cons (pe_lst (pa_cons (pv 2) (pa_cons (pe_op op_add_str (pv 2) (pe_op op_times pe_str pe_int)) (pa_cons (pe_op op_add_str (pv 2) (pe_op op_times pe_str pe_int))
        (pa_cons pe_str (pa_cons pe_str (pa_cons pe_str (pa_cons pe_str (pa_cons pe_str (pa_cons pe_str (pa_cons (pe_op op_add_str pe_str (pv 2)) pa_nil))))))))))) pa_nil)))))), ?_⟩
    -- signs; the draws
    refine ⟨⟨_, rfl⟩, _, rfl, p, c, 5, rfl, S, by decide, by decide, fun r H1 r0 r5 k1 S1 => ⟨r, rfl, by omega, by omega, fun D nD => ?_⟩⟩
    have oD := S1.off nD
    refine lc_range (lo := 0) (fun i H2 => Keep (Off p c) H1 H2 ∧ Src p c H2 ∧ ∃ ys : List Str, H2 D = some (.lst (ys.map V.str)) ∧ ys.length = i ∧ ∀ y ∈ ys, y.length = 1 ∧ ∀ z ∈ y.cps.toList, z < 16 ^ 8)
      ⟨keep_new .refl nD, S1.new nD, [], upd_same, rfl, fun y hy => nomatch hy⟩ ?_ ?_
    · rintro i H2 hi ⟨k2, S2, ys, hD, hy, hz⟩
      refine ⟨rfl, _, rfl, _, rfl, _, rfl, p, c, 4, rfl, S2, by decide, by decide, fun r4 H3 q0 q4 k3 S3 => ⟨_, _, rfl, rfl, _, rfl, ?_⟩⟩
      have fin : ∀ (n : Int) , n ≤ 14 → 1 ≤ n → ∀ (r' : Int) (H4 : Hp), 0 ≤ r' → r' < n → Keep (Off p c) H3 H4 → Src p c H4 → ∃ z : Nat, atI alfa.cps.toList r' = some z ∧ H4 D = some (.lst (ys.map V.str)) ∧ (ys.map V.str).length < sizeLine ∧
          (Keep (Off p c) H1 (upd H4 D (.lst (ys.map V.str ++ [.str ⟨#[z]⟩]))) ∧ Src p c (upd H4 D (.lst (ys.map V.str ++ [.str ⟨#[z]⟩]))) ∧ ∃ ys' : List Str, (upd H4 D (.lst (ys.map V.str ++ [.str ⟨#[z]⟩]))) D = some (.lst (ys'.map V.str)) ∧ ys'.length = i + 1 ∧ ∀ y ∈ ys', y.length = 1 ∧ ∀ z ∈ y.cps.toList, z < 16 ^ 8) := by
        intro n n14 n1 r' H4 g0 g1 k4 S4
        obtain ⟨z, hz1, hz2⟩ := alfa_at g0 (by omega)
        have hD4 : H4 D = some (.lst (ys.map V.str)) := k4 _ _ (k3 _ _ hD oD) oD
        refine ⟨z, hz1, hD4, by rw [List.length_map]; exact small1000 (by omega), fun b o e n => ?_, ?_, ys ++ [⟨#[z]⟩], by rw [upd_same, List.map_append]; rfl, by rw [List.length_append, hy]; rfl, ?_⟩
        · rw [upd_ne (ne_of_none e nD)]
          exact k4 _ _ (k3 _ _ (k2 _ _ e n) n) n
        · obtain ⟨npc, ns, l, m, t, hp, hc, hl⟩ := S4
          exact ⟨npc, ns, l, m, t, by rw [upd_ne (fun z => oD (.inl z.symm))]; exact hp, by rw [upd_ne (fun z => oD (.inr z.symm))]; exact hc, hl⟩
        · intro y hy
          rcases List.mem_append.mp hy with h | h
          · exact hz y h
          · have e := List.mem_singleton.mp h
            subst e
            exact ⟨rfl, fun u hu => by have : u = z := by simpa using hu
                                       rw [this]; exact hz2⟩
      refine ite2 (fun _ => ?_) (fun _ => ?_)
      · refine ⟨p, c, 8, rfl, S3, by decide, by decide, fun r' H4 g0 g1 k4 S4 => ?_⟩
        obtain ⟨z, e1, e2, e3, e4⟩ := fin 8 (by decide) (by decide) r' H4 g0 g1 k4 S4
        exact ⟨alfa, r', z, rfl, rfl, by decide, e1, _, e2, e3, e4⟩
      · refine ⟨p, c, 14, rfl, S3, by decide, by decide, fun r' H4 g0 g1 k4 S4 => ?_⟩
        obtain ⟨z, e1, e2, e3, e4⟩ := fin 14 (by decide) (by decide) r' H4 g0 g1 k4 S4
        exact ⟨alfa, r', z, rfl, rfl, by decide, e1, _, e2, e3, e4⟩
    · rintro H2 ⟨k2, S2, ys, hD, hy, hz⟩
      obtain ⟨j1, j2⟩ := join_one hz
      have hl4 : ys.length ≤ 4 := by omega
      have w0 : Word (Txt.join "" ys) := ⟨by omega, j2⟩
      have sz : (ys.map (·.length)).sum ≤ ys.length := by
        clear hD hy j1 j2 hl4 w0
        induction ys with
        | nil => exact Nat.le_refl _
        | cons y r ih =>
          have h1 := (hz y List.mem_cons_self).1
          have h2 := ih fun z h => hz z (List.mem_cons_of_mem _ h)
          simp only [List.map_cons, List.sum_cons, List.length_cons]
          omega
      have ma : MulOk "a" 9 := ⟨by decide +kernel, by decide +kernel, by decide +kernel⟩
      have mb : MulOk "b" 8 := ⟨by decide +kernel, by decide +kernel, by decide +kernel⟩
      have wa : Word (Txt.mul "a" 9) := word_lit (by decide +kernel)
      have wb : Word (Txt.mul "b" 8) := word_lit (by decide +kernel)
      have la : (Txt.mul "a" 9).length = 9 := by decide +kernel
      have lb : (Txt.mul "b" 8).length = 8 := by decide +kernel
      have l1 : ("a" : Str).length = 1 := by decide +kernel
      have big : 20 ≤ sizeLine := by decide
      refine ⟨_, D, ys, rfl, rfl, .inl (SqL.of hD), ?_, ?_⟩
      · show (ys.map (·.length)).sum + ys.length * 0 ≤ 16777216
        omega
      generalize Txt.join "" ys = y0 at j1 w0
      refine ⟨_, rfl, _, rfl, _, rfl, _, _, rfl, rfl, ma, _, _, rfl, rfl, by omega, _, rfl, _, _, rfl, rfl, mb, _, _, rfl, rfl, by omega, _, rfl, _, _, rfl, rfl, by omega, by show 10 ≤ sizeLine; decide, fun l nl => ?_⟩
      refine ⟨p, c, l, _, rfl, S2.new nl, upd_same, S2.off nl, by show 1 ≤ 10; decide, by show 10 ≤ 1000; decide, fun v H' hv k3 S3 => ?_⟩
      have out : ∀ y, Word y → Q (.str y) H' := fun y hy => k y H' hy (k1.trans (k2.trans ((keep_new .refl nl).trans k3))) S3
      simp only [List.mem_cons, List.not_mem_nil, or_false] at hv
      rcases hv with rfl | rfl | rfl | rfl | rfl | rfl | rfl | rfl | rfl | rfl
      · exact out _ w0
      · exact out _ (word_app (by omega) w0 wa)
      · exact out _ (word_app (by omega) w0 wb)
      all_goals first
        | exact out _ (word_lit (by decide +kernel))
        | exact out _ (word_app (by omega) (word_lit (by decide +kernel)) w0)
end
end K13
namespace K13
open PySem PySem.Spec PyProof.Rows L2 Ver
theorem fit_int {i : Int} (h : (decide (i.natAbs.log2 < 1920) && decide ((toString i : Str).length ≤ 200)) = true) : Fit 200 1 (.int i) := by
  simp only [Bool.and_eq_true, decide_eq_true_eq] at h
  exact ⟨by simpa [PyData.showable] using h.1, h.2, by show 0 ≤ 1; decide⟩
theorem int_thing {i : Int} (h : (decide (i.natAbs.log2 < 1920) && decide ((toString i : Str).length ≤ 200)) = true) : Thing (.int i) := ⟨fit_int h, trivial, trivial⟩
/-- a drawn thing -/
def Item (p c : Addr) (H : Hp) (v : V) : Prop := ∃ d, Da (Off p c) H v d ∧ Thing d
theorem Item.keep {p c : Addr} {H H' : Hp} {v : V} (k : Keep (Off p c) H H') : Item p c H v → Item p c H' v := fun ⟨d, h, t⟩ => ⟨d, h.keep k, t⟩
section
variable {P : Program} {w : World} {K : PySem.W.Frag} {mg : Str → Option Value} {base : Heap}
theorem scTh : FnScope ["source", "number"] ["source"] (defScope sThing) := ⟨rfl, rfl, rfl, by decide +kernel, rfl, by decide +kernel, by decide +kernel⟩
theorem ok_thing {f fP fO fW : Addr} {fd fdP fdO fdW : FuncData} (F : Fun K "_law_thing" "_law_thing" sThing f fd) (GP : FnOk P w K mg base CX0 1 fP fdP ["source", "many"] spPick) (DP : Def K mg "_law_pick" fP) (bP : Binds K fdP ["source", "many"] [])
    (GO : FnOk P w K mg base CX0 2 fO fdO ["source", "some"] spOf) (DO : Def K mg "_law_of" fO) (bO : Binds K fdO ["source", "some"] []) (GW : FnOk P w K mg base CX0 3 fW fdW ["source"] spWord) (DW : Def K mg "_law_word" fW) (bW : Binds K fdW ["source"] []) :
    FnOk P w K mg base CX0 4 f fd ["source"] spThing := by
  refine F.ok scTh (fun vs H Q E h => ?_) (fun cdv A outer s H vs Q E hr h => ?_)
  · obtain ⟨p, c, rfl, _⟩ := h
    rfl
  · obtain ⟨p, c, rfl, S, k⟩ := h
    have hr1 : Room 1 _ := hr.mono (by decide)
    have hr2 : Room 2 _ := hr.mono (by decide)
    refine ⟨_, pss_cons (ps_set (i := 1) scTh.nd rfl (.inl rfl) (pe_ix ix_list (pe_lst (pa_cons pe_int (pa_cons pe_int (pa_cons pe_int (pa_cons (pe_op op_pow pe_int pe_int) (pa_cons (pe_op op_sub pe_int pe_int)
        (pa_cons pe_bl (pa_cons pe_bl (pa_cons pe_non (pa_cons pe_str (pa_cons (pe_lstB pa_nil) (pa_cons pe_int pa_nil)))))))))))) (pe_call GP hr1 (by rfl) DP.gl DP.kp bP .nil pass0 (pa_cons (pv 0) (pa_cons pe_int pa_nil))) (fun _ _ => rfl)))
      (pss_one (ps_ret (pe_call GO hr2 (by rfl) DO.gl DO.kp bO .nil pass0 (pa_cons (pv 0) (pa_cons (pe_lst (pa_cons (pv 1) (pa_cons (pv 1) (pa_cons (pe_call GW hr (by rfl) DW.gl DW.kp bW .nil pass0 (pa_cons (pv 0) pa_nil))
        (pa_cons (pe_call GW hr (by rfl) DW.gl DW.kp bW .nil pass0 (pa_cons (pv 0) pa_nil)) (pa_cons (pe_tup pa_nil) (pa_cons pe_dnewK (pa_cons (pe_lstB (pa_cons (pe_call GW hr (by rfl) DW.gl DW.kp bW .nil pass0 (pa_cons (pv 0) pa_nil)) pa_nil))
        (pa_cons (pe_tup (pa_cons pe_str pa_nil)) pa_nil))))))))) pa_nil))))), ?_⟩
    refine ⟨_, _, rfl, rfl, ⟨by decide, by decide, by decide⟩, _, _, rfl, rfl, Nat.zero_le _, fun e ne ze => ⟨by show 11 ≤ sizeLine; decide, fun l nl => ?_⟩⟩
    have oe := S.off ne
    have S0 := S.new (o := .lst []) ne
    have ol := S0.off nl
    refine ⟨_, rfl, p, c, 11, rfl, S0.new nl, by decide, by decide, fun r H1 r0 r1 k1 S1 => ?_⟩
    have hl1 := k1 _ _ (upd_same : upd (upd H e (.lst [])) l _ l = _) ol
    have nel : e ≠ l := ne_of_none (upd_same : upd H e (.lst []) e = _) nl
    have he1 : H1 e = some (.lst []) := k1 _ _ (by rw [upd_ne nel]; exact upd_same) oe
    obtain ⟨v, hv, hm⟩ := at_int (xs := ([.int 0, .int 1, .int 7, .int (10 ^ ((30 : Int).toNat)), .int (0 - 1), .bl true, .bl false, .non, .str "0", .ref e, .int 2] : List V)) r0 r1
    have kH1 : Keep (Off p c) H H1 := (keep_new (keep_new .refl ne) nl).trans k1
    have iv : Item p c H1 v := by
      simp only [List.mem_cons, List.not_mem_nil, or_false] at hm
      rcases hm with rfl | rfl | rfl | rfl | rfl | rfl | rfl | rfl | rfl | rfl | rfl
      · exact ⟨_, .int _, int_thing (by decide +kernel)⟩
      · exact ⟨_, .int _, int_thing (by decide +kernel)⟩
      · exact ⟨_, .int _, int_thing (by decide +kernel)⟩
      · exact ⟨_, .int _, int_thing (by decide +kernel)⟩
      · exact ⟨_, .int _, int_thing (by decide +kernel)⟩
      · exact ⟨_, .bl _, fit_bool _ (by decide), trivial, trivial⟩
      · exact ⟨_, .bl _, fit_bool _ (by decide), trivial, trivial⟩
      · exact ⟨_, .non, fit_none (by decide), trivial, trivial⟩
      · exact ⟨_, .str _, word_thing (word_lit (by decide +kernel))⟩
      · exact ⟨_, .lst he1 oe ze .nil, fit_lst (n := 0) (k := 0) (fun d h => nomatch h) (by decide), trivial, trivial⟩
      · exact ⟨_, .int _, int_thing (by decide +kernel)⟩
    refine ⟨l, _, r, v, rfl, rfl, SqL.of hl1, hv, ?_⟩
    clear hm hv hl1 he1
    -- the menu
    refine ⟨_, rfl, _, rfl, _, rfl, _, rfl, p, c, rfl, S1, fun y2 H2 w2 k2 S2 => ⟨_, rfl, p, c, rfl, S2, fun y3 H3 w3 k3 S3 => ⟨Nat.zero_le _, fun t nt d nd => ?_⟩⟩⟩
    have ot := S3.off nt
    have S3a := S3.new (o := .tup []) nt
    have od := S3a.off nd
    refine ⟨_, rfl, p, c, rfl, S3a.new nd, fun y4 H4 w4 k4 S4 => ⟨by show 1 ≤ sizeLine; decide, fun m nm zm => ⟨by show 1 ≤ sizeLine; decide, fun u nu => ⟨by show 8 ≤ sizeLine; decide, fun g ng => ?_⟩⟩⟩⟩
    have om := S4.off nm
    have S4a := S4.new (o := .lst [.str y4]) nm
    have ou := S4a.off nu
    have S4b := S4a.new (o := .tup [.str "none"]) nu
    refine ⟨p, c, g, _, rfl, S4b.new ng, upd_same, S4b.off ng, by show 1 ≤ 8; decide, by show 8 ≤ 1000; decide, fun x H' hx kx S' => ?_⟩
    have td : t ≠ d := ne_of_none (upd_same : upd H3 t (.tup []) t = _) nd
    have a1 : Keep (Off p c) H4 H' := (keep_new (keep_new (keep_new .refl nm) nu) ng).trans kx
    have a2 : Keep (Off p c) H1 H' := k2.trans (k3.trans ((keep_new (keep_new .refl nt) nd).trans (k4.trans a1)))
    have ht : H' t = some (.tup []) := a1 _ _ (k4 _ _ (by rw [upd_ne td]; exact upd_same) ot) ot
    have hd : H' d = some (.dK []) := a1 _ _ (k4 _ _ upd_same od) od
    have mu : m ≠ u := ne_of_none (upd_same : upd H4 m (.lst [.str y4]) m = _) nu
    have ug : u ≠ g := ne_of_none (upd_same : upd (upd H4 m (.lst [.str y4])) u (.tup [.str "none"]) u = _) ng
    have mg' : m ≠ g := ne_of_none (show upd (upd H4 m (.lst [.str y4])) u (.tup [.str "none"]) m = some (.lst [.str y4]) by rw [upd_ne mu]; exact upd_same) ng
    have hm : H' m = some (.lst [.str y4]) := kx _ _ (by rw [upd_ne mg', upd_ne mu]; exact upd_same) om
    have hu : H' u = some (.tup [.str "none"]) := kx _ _ (by rw [upd_ne ug]; exact upd_same) ou
    have out : Item p c H' x → Q x H' := fun ⟨d, h1, h2⟩ => k x d H' h1 h2 (kH1.trans a2) S'
    have w0 : Word "none" := word_lit (by decide +kernel)
    have f0 : ∀ {y : Str}, Word y → Fit 132 0 (.str y) := fun {y} h => fit_str h.cs (by have := h.len; omega)
    refine out ?_
    simp only [List.mem_cons, List.not_mem_nil, or_false] at hx
    rcases hx with rfl | rfl | rfl | rfl | rfl | rfl | rfl | rfl
    · exact iv.keep a2
    · exact iv.keep a2
    · exact ⟨_, .str _, word_thing w2⟩
    · exact ⟨_, .str _, word_thing w3⟩
    · exact ⟨_, .tup ht ot .nil, fit_tup (n := 0) (k := 0) (fun d h => nomatch h) (by decide), trivial, fun d h => nomatch h⟩
    · exact ⟨_, .emp hd od, fit_emp (by decide) (by decide), trivial, trivial⟩
    · exact ⟨_, .lst hm om zm (.cons (.str _) .nil), fit_lst (n := 132) (k := 0) (fun d h => by cases List.mem_singleton.mp h; exact f0 w4) (by show 1 * (132 + 2) + 2 ≤ 200; decide), trivial, trivial⟩
    · exact ⟨_, .tup hu ou (.cons (.str _) .nil), fit_tup (n := 132) (k := 0) (fun d h => by cases List.mem_singleton.mp h; exact f0 w0) (by decide), trivial, fun d h => by cases List.mem_singleton.mp h; exact (word_thing w0).sh⟩
end
end K13
namespace K13
open PySem PySem.Spec PyProof.Rows L2 Ver
abbrev sLaw : Stmt := top 20
section
variable {p c : Addr} {H : Hp} {P : V → Hp → Prop}
/-- a new tuple, the heap behind it as a letter -/
theorem rd_tup {xs : List V} (S : Src p c H) (h : ∀ t H', Same H H' → Src p c H' → H' t = some (.tup xs) → ¬ Off p c t → P (.ref t) H') : ∀ t, H t = none → P (.ref t) (upd H t (.tup xs)) :=
  fun t n => h t _ (same_new n) (S.new n) upd_same (S.off n)
theorem rd_lst {xs : List V} (S : Src p c H) (h : ∀ t H', Same H H' → Src p c H' → H' t = some (.lst xs) → ¬ Off p c t → P (.ref t) H') : ∀ t, H t = none → P (.ref t) (upd H t (.lst xs)) :=
  fun t n => h t _ (same_new n) (S.new n) upd_same (S.off n)
theorem rd_lstB {xs : List V} (S : Src p c H) (h : ∀ t H', Same H H' → Src p c H' → H' t = some (.lst xs) → ¬ Off p c t → t ≠ sysModules → P (.ref t) H') : ∀ t, H t = none → t ≠ sysModules → P (.ref t) (upd H t (.lst xs)) :=
  fun t n z => h t _ (same_new n) (S.new n) upd_same (S.off n) z
end
theorem Das.append {N : Addr → Prop} {H : Hp} : ∀ {vs ws : List V} {ds es : List PyData}, Das N H vs ds → Das N H ws es → Das N H (vs ++ ws) (ds ++ es)
  | _, _, _, _, .nil, q => q
  | _, _, _, _, .cons h t, q => .cons h (Das.append t q)
theorem Das.take {N : Addr → Prop} {H : Hp} : ∀ {vs : List V} {ds : List PyData} (n : Nat), Das N H vs ds → Das N H (vs.take n) (ds.take n)
  | _, _, 0, _ => .nil
  | _, _, _ + 1, .nil => .nil
  | _, _, n + 1, .cons h t => .cons h (Das.take n t)
theorem Das.drop {N : Addr → Prop} {H : Hp} : ∀ {vs : List V} {ds : List PyData} (n : Nat), Das N H vs ds → Das N H (vs.drop n) (ds.drop n)
  | _, _, 0, q => q
  | _, _, _ + 1, .nil => .nil
  | _, _, n + 1, .cons _ t => Das.drop n t
/-- small members of a tuple -/
def Sm (d : PyData) : Prop := Fit 200 1 d ∧ Short d
/-- a drawn value: a tuple of one to three small members -/
def Tup (p c : Addr) (H : Hp) (v : V) : Prop := ∃ a xs ds, v = .ref a ∧ H a = some (.tup xs) ∧ ¬ Off p c a ∧ Das (Off p c) H xs ds ∧ xs ≠ [] ∧ xs.length ≤ 3 ∧ ∀ d ∈ ds, Sm d
theorem Tup.keep {p c : Addr} {H H' : Hp} {v : V} (k : Keep (Off p c) H H') : Tup p c H v → Tup p c H' v := fun ⟨a, xs, ds, e, h, n, q, z, l, f⟩ => ⟨a, xs, ds, e, k _ _ h n, n, q.keep k, z, l, f⟩
/-- what the law asks about -/
structure Ask (p c : Addr) (H : Hp) (v : V) (d : PyData) : Prop where
  da : Da (Off p c) H v d
  fit : Fit 1000 3 d
  sh : Short d
  in_ : ShortT d
theorem Ask.keep {p c : Addr} {H H' : Hp} {v : V} {d : PyData} (k : Keep (Off p c) H H') (h : Ask p c H v d) : Ask p c H' v d := ⟨h.da.keep k, h.fit, h.sh, h.in_⟩
theorem Sm.of {d : PyData} (h : Thing d) : Sm d := ⟨h.fit, h.sh⟩
theorem sm_word {y : Str} (h : Word y) : Sm (.str y) := Sm.of (word_thing h)
/-- a tuple of up to four small members may be asked about -/
theorem ask_tup {p c t : Addr} {H : Hp} {xs : List V} {ds : List PyData} (h : H t = some (.tup xs)) (n : ¬ Off p c t) (q : Das (Off p c) H xs ds) (hl : ds.length ≤ 4) (f : ∀ d ∈ ds, Sm d) : Ask p c H (.ref t) (.tuple ds) :=
  ⟨.tup h n q, (fit_tup (n := 200) (k := 1) (m := 1000) (fun d hd => (f d hd).1) (by have : ds.length * (200 + 2) ≤ 4 * (200 + 2) := Nat.mul_le_mul_right _ hl; omega)).mono (Nat.le_refl _) (by decide), trivial, fun d hd => (f d hd).2⟩
theorem ask_lst {p c t : Addr} {H : Hp} {xs : List V} {ds : List PyData} (h : H t = some (.lst xs)) (n : ¬ Off p c t) (z : t ≠ sysModules) (q : Das (Off p c) H xs ds) (hl : ds.length ≤ 4) (f : ∀ d ∈ ds, Sm d) : Ask p c H (.ref t) (.list ds) :=
  ⟨.lst h n z q, (fit_lst (n := 200) (k := 1) (m := 1000) (fun d hd => (f d hd).1) (by have : ds.length * (200 + 2) ≤ 4 * (200 + 2) := Nat.mul_le_mul_right _ hl; omega)).mono (Nat.le_refl _) (by decide), trivial, trivial⟩
theorem ask_thing {p c : Addr} {H : Hp} {v : V} {d : PyData} (h : Da (Off p c) H v d) (t : Thing d) : Ask p c H v d := ⟨h, t.fit.mono (by decide) (by decide), t.sh, t.in_⟩
/-- (value,) -/
theorem ask_one {p c t a : Addr} {H : Hp} {xs : List V} {ds : List PyData} (h : H t = some (.tup [.ref a])) (n : ¬ Off p c t) (ha : H a = some (.tup xs)) (na : ¬ Off p c a) (q : Das (Off p c) H xs ds) (hl : ds.length ≤ 3) (f : ∀ d ∈ ds, Sm d) : Ask p c H (.ref t) (.tuple [.tuple ds]) := by
  have i : Fit 609 2 (.tuple ds) := fit_tup (n := 200) (k := 1) (fun d hd => (f d hd).1) (by have : ds.length * (200 + 2) ≤ 3 * (200 + 2) := Nat.mul_le_mul_right _ hl; omega)
  exact ⟨.tup h n (.cons (.tup ha na q) .nil), fit_tup (n := 609) (k := 2) (fun d hd => by cases List.mem_singleton.mp hd; exact i) (by show 1 * (609 + 2) + 3 ≤ 1000; decide), trivial, fun d hd => by cases List.mem_singleton.mp hd; exact trivial⟩
theorem fit_bools {a b : Bool} : Fit 1000 3 (.list [.bool a, .bool b]) := (fit_lst (n := 5) (k := 0) (m := 16) (fun d hd => by
  rcases List.mem_cons.mp hd with rfl | hd
  · exact fit_bool a (by decide)
  · cases List.mem_singleton.mp hd
    exact fit_bool b (by decide)) (by show 2 * (5 + 2) + 2 ≤ 16; decide)).mono (by decide) (by decide)
end K13
namespace K13
open PySem PySem.Spec PyProof.Rows L2 Ver
/-- a new object, the heap behind it as a letter -/
theorem new_obj {p c t : Addr} {H : Hp} (S : Src p c H) (n : H t = none) (o : HO) : ∃ H', upd H t o = H' ∧ Same H H' ∧ Src p c H' ∧ H' t = some o ∧ ¬ Off p c t := ⟨_, rfl, same_new n, S.new n, upd_same, S.off n⟩
/-- t + u, whether u is empty or not: in one way -/
def rCatO (K : PySem.W.Frag) : R2 := fun x y H Q => ∃ a b xs ys, x = .ref a ∧ y = .ref b ∧ H a = some (.tup xs) ∧ SqT K H b ys ∧ xs ≠ [] ∧ xs.length + ys.length ≤ sizeLine ∧
  ∀ t H', Same H H' → (∀ p c, Src p c H → Src p c H') → H' t = some (.tup (xs ++ ys)) → (t = a ∨ H t = none) → Q (.ref t) H'
theorem op_catO {X : Cx} : OpR X (binaryOp .Add) (rCatO X.K) := by
  rintro pins s σ H x y v u Q I rx ry ⟨a, b, xs, ys, rfl, rfl, ha, hb, nx, hl, q⟩
  refine op_catT pins s σ H _ _ v u Q I rx ry ⟨a, b, xs, ys, rfl, rfl, SqT.of ha, hb, nx, hl, fun z => ?_, fun _ t n => ?_⟩
  · exact q a H (Same.refl H) (fun _ _ S => S) (by rw [z, List.append_nil]; exact ha) (.inl rfl)
  · exact q t _ (same_new n) (fun _ _ S => S.new n) upd_same (.inr n)
/-- the form of what is a value -/
theorem val_form : ∀ {d : PyData}, valD d = true → ∃ d0 dr, d = .tuple (d0 :: dr) ∧ isStr d0 = true ∧ (eqS d0 "tok" = true → ∃ d1 d2, dr = [d1, d2] ∧ isStr d1 = true)
  | .tuple [], h => by cases h
  | .tuple (d0 :: dr), h => by
    refine ⟨d0, dr, rfl, ?_, fun g => ?_⟩
    · cases e : isStr d0 with
      | true => rfl
      | false =>
        rw [val_nostr e] at h
        cases h
    · match dr, h with
      | [], h =>
        have h' : eqS d0 "none" = true := h
        cases d0 with
        | str z =>
          rw [str_ne g (by decide)] at h'
          cases h'
        | _ => cases h'
      | [y], h =>
        have h' : pairD d0 y = true := h
        cases d0 with
        | str z =>
          unfold pairD at h'
          rw [str_ne g (by decide : ("tok" : Str) ≠ "bit"), str_ne g (by decide : ("tok" : Str) ≠ "err"), str_ne g (by decide : ("tok" : Str) ≠ "fun"), str_ne g (by decide : ("tok" : Str) ≠ "obj")] at h'
          simp at h'
        | _ => cases g
      | [d1, d2], h =>
        refine ⟨d1, d2, rfl, ?_⟩
        have h' : (eqS d0 "tok" && (kindD d1 && numD d2)) = true := h
        rw [g, Bool.true_and] at h'
        cases d1 with
        | str y => rfl
        | _ => cases h'
      | _ :: _ :: _ :: _, h => cases h
  | .none, h => by cases h
  | .bool _, h => by cases h
  | .int _, h => by cases h
  | .str _, h => by cases h
  | .list _, h => by cases h
  | .dict _, h => by cases h
theorem str_of {N : Addr → Prop} {H : Hp} {v : V} {d : PyData} (h : Da N H v d) (e : isStr d = true) : ∃ z, v = .str z := by
  cases h <;> first | exact ⟨_, rfl⟩ | cases e
theorem not_whole1 {xs : List V} (h : xs ≠ []) : ¬ (HT.sIx xs.length 0 none = 0 ∧ HT.sIx xs.length xs.length (some (-1)) = xs.length) := by
  have hp := List.length_pos_iff.mpr h
  rintro ⟨_, e⟩
  have e' : ((-1 : Int) + (xs.length : Int)).toNat = xs.length := e
  omega
theorem not_whole2 {xs : List V} (h : xs ≠ []) : ¬ (HT.sIx xs.length 0 (some 1) = 0 ∧ HT.sIx xs.length xs.length none = xs.length) := by
  have hp := List.length_pos_iff.mpr h
  rintro ⟨e, _⟩
  have e' : min (1 : Int).toNat xs.length = 0 := e
  have : (1 : Int).toNat = 1 := rfl
  omega
/-- a part of small data is small -/
theorem das_cut {N : Addr → Prop} {H : Hp} {xs : List V} {ds : List PyData} (q : Das N H xs ds) (f : ∀ d ∈ ds, Sm d) (lo hi : Option Int) : ∃ es, Das N H (cutV xs lo hi) es ∧ (∀ d ∈ es, Sm d) ∧ es.length ≤ ds.length := by
  refine ⟨_, Das.take _ (Das.drop _ q), fun d hd => f d (List.mem_of_mem_drop (List.mem_of_mem_take hd)), ?_⟩
  rw [List.length_take, List.length_drop]
  omega
def spLaw (K : PySem.W.Frag) : Sp := fun vs H Q _ => ∃ (a : Addr) (ns : List Int), vs = [.ref a] ∧ SqL K H a (ns.map V.int) ∧ ns.length ≤ 63 ∧ ∀ H', Q (.bl true) H'
/-- every def that the law calls -/
structure Env (P : Program) (w : World) (K : PySem.W.Frag) (mg : Str → Option Value) (base : Heap) (fS fO fWd fTh fV fW fLV fLW fK : Addr) (qS qO qWd qTh qV qW qLV qLW qK : FuncData) : Prop where
  gS : FnOk P w K mg base CX0 1 fS qS ["script"] (spSource K)
  dS : Def K mg "_law_source" fS
  bS : L2.Binds K qS ["script"] []
  gO : FnOk P w K mg base CX0 2 fO qO ["source", "some"] spOf
  dO : Def K mg "_law_of" fO
  bO : L2.Binds K qO ["source", "some"] []
  gWd : FnOk P w K mg base CX0 3 fWd qWd ["source"] spWord
  dWd : Def K mg "_law_word" fWd
  bWd : L2.Binds K qWd ["source"] []
  gTh : FnOk P w K mg base CX0 4 fTh qTh ["source"] spThing
  dTh : Def K mg "_law_thing" fTh
  bTh : L2.Binds K qTh ["source"] []
  gV : FnOk P w K mg base CX0 3 fV qV ["value"] (spAsk ShortT valD)
  dV : Def K mg "is_value" fV
  bV : L2.Binds K qV ["value"] []
  gW : FnOk P w K mg base CX0 1 fW qW ["value"] (spAsk Short wordD)
  dW : Def K mg "is_word" fW
  bW : L2.Binds K qW ["value"] []
  gLV : FnOk P w K mg base CX0 2 fLV qLV ["value"] (spAsk ShortT valD)
  dLV : Def K mg "_law_is_value" fLV
  bLV : L2.Binds K qLV ["value"] []
  gLW : FnOk P w K mg base CX0 1 fLW qLW ["value"] (spAsk Short wordD)
  dLW : Def K mg "_law_is_word" fLW
  bLW : L2.Binds K qLW ["value"] []
  gK : FnOk P w K mg base CX0 1 fK qK ["value"] (spKindOf K)
  dK : Def K mg "kind_of" fK
  bK : L2.Binds K qK ["value"] []
  range : mg "range" = none
  list : mg "list" = none
  repr : mg "repr" = none
section
variable {P : Program} {w : World} {K : PySem.W.Frag} {mg : Str → Option Value} {base : Heap} {fS fO fWd fTh fV fW fLV fLW fK : Addr} {qS qO qWd qTh qV qW qLV qLW qK : FuncData}
theorem scLaw : FnScope ["script", "source", "turn", "word", "number", "some", "value", "odd", "one", "printed", "told"] ["script"] (defScope sLaw) := ⟨rfl, rfl, rfl, by decide +kernel, rfl, by decide +kernel, by decide +kernel⟩
theorem ok_law {f : Addr} {fd : FuncData} (F : Fun K "law" "law" sLaw f fd) (V : Env P w K mg base fS fO fWd fTh fV fW fLV fLW fK qS qO qWd qTh qV qW qLV qLW qK) : FnQ P w K mg base CX0 5 f fd ["script"] (spLaw K) := by
  refine fnQ_ok F scLaw (fun vs H Q E h => ?_) (fun cdv A outer s H vs Q E hg hr h => ?_)
  · obtain ⟨a, ns, rfl, _⟩ := h
    rfl
  · obtain ⟨a, ns, rfl, hS, hl, k⟩ := h
    have hr1 : Room 1 _ := hr.mono (by decide)
    have hr2 : Room 2 _ := hr.mono (by decide)
    have hr3 : Room 3 _ := hr.mono (by decide)
    have hq : (A.deeper (envOfC "law" (defScope sLaw) s.heap.objs.size f cdv)).guards = some [] := hg
    have hu4 : (A.deeper (envOfC "law" (defScope sLaw) s.heap.objs.size f cdv)).units + (3 + 1) < cLine := Nat.lt_of_le_of_lt (Nat.add_le_add_left (by decide) _) hr.units
    have n1000 : 1000 ≤ sizeLine := by decide
    refine ⟨_, pss_cons (ps_set (i := 1) scLaw.nd rfl (.inl rfl) (pe_call V.gS hr1 (by rfl) V.dS.gl V.dS.kp V.bS .nil pass0 (pa_cons (pv 0) pa_nil)))
      (pss_cons (ps_for PassesOwn.never rfl (pi_range1 (by rfl) V.range (pa_cons pe_int pa_nil)) (pg_name (i := 2) scLaw.nd rfl (.inl rfl))
        (pss_cons (ps_par (i := 3) (j := 4) rfl scLaw.nd rfl rfl (by decide) rfl rfl (pa_cons (pe_call V.gWd hr3 (by rfl) V.dWd.gl V.dWd.kp V.bWd .nil pass0 (pa_cons (pv 1) pa_nil)) (pa_cons (pe_call V.gTh hr (by rfl) V.dTh.gl V.dTh.kp V.bTh .nil pass0 (pa_cons (pv 1) pa_nil)) pa_nil)) (by rfl))
        (pss_cons (ps_set (i := 5) scLaw.nd rfl (.inl rfl) (pe_lst (pa_cons (pe_tup (pa_cons pe_str pa_nil))
          (pa_cons (pe_tup (pa_cons pe_str (pa_cons (pe_call V.gO hr2 (by rfl) V.dO.gl V.dO.kp V.bO .nil pass0 (pa_cons (pv 1) (pa_cons (pe_lst (pa_cons pe_str (pa_cons pe_str (pa_cons pe_str (pa_cons (pv 3) pa_nil))))) pa_nil))) pa_nil)))
          (pa_cons (pe_tup (pa_cons pe_str (pa_cons (pv 3) (pa_cons (pv 4) pa_nil)))) (pa_cons (pe_tup (pa_cons pe_str (pa_cons (pv 3) pa_nil))) pa_nil))))))
        (pss_cons (ps_set (i := 5) scLaw.nd rfl (.inl rfl) (pe_op op_cat (pv 5) (pe_lst (pa_cons (pe_tup (pa_cons pe_str (pa_cons (pv 3) pa_nil))) (pa_cons (pe_tup (pa_cons pe_str (pa_cons (pv 4) pa_nil)))
          (pa_cons (pe_tup (pa_cons pe_str (pa_cons pe_str (pa_cons (pv 4) pa_nil)))) (pa_cons (pe_tup (pa_cons pe_str (pa_cons (pv 4) pa_nil))) (pa_cons (pe_tup (pa_cons pe_str (pa_cons (pv 4) (pa_cons pe_int pa_nil)))) pa_nil))))))))
        (pss_cons (ps_set (i := 6) scLaw.nd rfl (.inl rfl) (pe_call V.gO hr2 (by rfl) V.dO.gl V.dO.kp V.bO .nil pass0 (pa_cons (pv 1) (pa_cons (pv 5) pa_nil))))
        (pss_cons (ps_set (i := 7) scLaw.nd rfl (.inl rfl) (pe_lst (pa_cons (pe_slice sl_tup (pv 6) po_none (po_some (pe_un un_neg pe_int)))
          (pa_cons (pe_op op_catO (pv 6) (pe_tup (pa_cons (pv 4) pa_nil)))
          (pa_cons (pe_callTy call_list_tupB (by rfl) V.list (by decide +kernel) (pa_cons (pv 6) pa_nil))
          (pa_cons (pe_op op_catO (pe_tup (pa_cons (pv 3) pa_nil)) (pe_slice sl_tup (pv 6) (po_some pe_int) po_none))
          (pa_cons (pv 4) (pa_cons (pv 3)
          (pa_cons (pe_op op_catO (pe_tup (pa_cons (pv 4) pa_nil)) (pe_slice sl_tup (pv 6) (po_some pe_int) po_none))
          (pa_cons (pe_tup (pa_cons (pv 6) pa_nil)) pa_nil)))))))))) 
        (pss_cons (ps_for PassesOwn.never rfl (pi_list (pe_lst (pa_cons (pv 6) (pa_cons (pe_call V.gO hr2 (by rfl) V.dO.gl V.dO.kp V.bO .nil pass0 (pa_cons (pv 1) (pa_cons (pv 7) pa_nil))) pa_nil)))) (pg_name (i := 8) scLaw.nd rfl (.inl rfl))
          (pss_cons (ps_set (i := 9) scLaw.nd rfl (.inl rfl) (pe_callB (call_reprE hq hu4 n1000) (by rfl) V.repr (by decide +kernel) (pa_cons (pv 8) pa_nil)))
          (pss_cons (ps_set (i := 10) scLaw.nd rfl (.inl rfl) (pe_lstB (pa_cons (pe_call V.gV hr3 (by rfl) V.dV.gl V.dV.kp V.bV .nil pass0 (pa_cons (pv 8) pa_nil)) (pa_cons (pe_call V.gW hr1 (by rfl) V.dW.gl V.dW.kp V.bW .nil pass0 (pa_cons (pv 8) pa_nil)) pa_nil))))
          (pss_cons (ps_if (PW.pt (pw_or (pt_cmpR op_ne (pe_callB (call_reprE hq hu4 n1000) (by rfl) V.repr (by decide +kernel) (pa_cons (pv 10) pa_nil))
              (pe_callB (call_reprE hq hu4 n1000) (by rfl) V.repr (by decide +kernel) (pa_cons (pe_lstB (pa_cons (pe_call V.gLV hr2 (by rfl) V.dLV.gl V.dLV.kp V.bLV .nil pass0 (pa_cons (pv 8) pa_nil)) (pa_cons (pe_call V.gLW hr1 (by rfl) V.dLW.gl V.dLW.kp V.bLW .nil pass0 (pa_cons (pv 8) pa_nil)) pa_nil))) pa_nil)) (nomark _))
              (pw_or1 (pt_cmpR op_ne (pe_callB (call_reprE hq hu4 n1000) (by rfl) V.repr (by decide +kernel) (pa_cons (pv 8) pa_nil)) (pv 9) (nomark _))))) (pss_one (ps_ret pe_bl)) pss_nil)
          (pss_one (ps_if (PW.pt (pw_and (pt_val (pe_call V.gLV hr2 (by rfl) V.dLV.gl V.dLV.kp V.bLV .nil pass0 (pa_cons (pv 8) pa_nil)))
              (pw_and1 (pt_cmpR op_ne (pe_call V.gK hr1 (by rfl) V.dK.gl V.dK.kp V.bK .nil pass0 (pa_cons (pv 8) pa_nil))
                (pe_ifExp (pt_cmpR (op_eqE hr.units0) (pe_ix ix_tup (pv 8) pe_int (fun _ _ => rfl)) pe_str (nomark _)) (pe_ix ix_tup (pv 8) pe_int (fun _ _ => rfl)) (pe_ix ix_tup (pv 8) pe_int (fun _ _ => rfl))) (nomark _))))) (pss_one (ps_ret pe_bl)) pss_nil))))))
        (pss_one (ps_if (pt_cmpR op_ne (pe_callB (call_reprE hq hu4 n1000) (by rfl) V.repr (by decide +kernel) (pa_cons (pe_lstB (pa_cons (pe_call V.gW hr1 (by rfl) V.dW.gl V.dW.kp V.bW .nil pass0 (pa_cons (pv 3) pa_nil)) (pa_cons (pe_call V.gW hr1 (by rfl) V.dW.gl V.dW.kp V.bW .nil pass0 (pa_cons (pv 4) pa_nil)) pa_nil))) pa_nil))
          (pe_callB (call_reprE hq hu4 n1000) (by rfl) V.repr (by decide +kernel) (pa_cons (pe_lstB (pa_cons (pe_call V.gLW hr1 (by rfl) V.dLW.gl V.dLW.kp V.bLW .nil pass0 (pa_cons (pv 3) pa_nil)) (pa_cons (pe_call V.gLW hr1 (by rfl) V.dLW.gl V.dLW.kp V.bLW .nil pass0 (pa_cons (pv 4) pa_nil)) pa_nil))) pa_nil)) (nomark _))
          (pss_one (ps_ret pe_bl)) pss_nil)))))))))
      (pss_one (ps_ret (pe_and (pe_cmpR op_isBl (pe_call V.gW hr1 (by rfl) V.dW.gl V.dW.kp V.bW .nil pass0 (pa_cons (pe_op op_times pe_str pe_int) pa_nil)) pe_bl (nomark _))
        (pe_one (pe_cmpR op_isBl (pe_call V.gW hr1 (by rfl) V.dW.gl V.dW.kp V.bW .nil pass0 (pa_cons (pe_op op_times pe_str pe_int) pa_nil)) pe_bl (nomark _))))))), ?_⟩
    refine ⟨_, rfl, a, ns, rfl, hS, hl, fun p c H1 _ _ _ S1 => ⟨24, rfl, by decide, by decide, ?_⟩⟩
    refine for_range (lo := 0) (n := 24) (fun i σ H2 => Src p c H2 ∧ ∃ v2 v3 v4 v5 v6 v7 v8 v9 v10, σ = [some (.ref a), some (.ref p), v2, v3, v4, v5, v6, v7, v8, v9, v10]) ⟨S1, _, _, _, _, _, _, _, _, _, rfl⟩ ?_ ?_
    · rintro i σ H2 hi ⟨S2, v2, v3, v4, v5, v6, v7, v8, v9, v10, rfl⟩
      -- word, number
      refine ⟨_, rfl, p, c, rfl, S2, fun y H3 hy k3 S3 => ⟨_, rfl, p, c, rfl, S3, fun v d H4 hd ht k4 S4 => ⟨_, _, rfl, ?_⟩⟩⟩
      -- some, twice
      refine ⟨by show 1 ≤ sizeLine; decide, fun t1 n1 => ?_⟩
      obtain ⟨H5, z, s5, S5, h1, o1⟩ := new_obj S4 n1 (.tup [.str "none"])
      rw [z]
      clear z
      refine ⟨_, rfl, _, rfl, by show 4 ≤ sizeLine; decide, fun q1 n1 => ?_⟩
      obtain ⟨H6, z, s6, S6, hq, oq⟩ := new_obj S5 n1 (.lst [.str "yes", .str "no", .str "Yes", .str y])
      rw [z]
      clear z
      refine ⟨p, c, q1, _, rfl, S6, hq, oq, by show 1 ≤ 4; decide, by show 4 ≤ 1000; decide, fun b H7 hb k7 S7 => ⟨by show 2 ≤ sizeLine; decide, fun t2 n1 => ?_⟩⟩
      obtain ⟨H8, z, s8, S8, h2, o2⟩ := new_obj S7 n1 (.tup [.str "bit", b])
      rw [z]
      clear z
      refine ⟨_, rfl, _, rfl, by show 3 ≤ sizeLine; decide, fun t3 n1 => ?_⟩
      obtain ⟨H9, z, s9, S9, h3, o3⟩ := new_obj S8 n1 (.tup [.str "tok", .str y, v])
      rw [z]
      clear z
      refine ⟨_, rfl, by show 2 ≤ sizeLine; decide, fun t4 n1 => ?_⟩
      obtain ⟨H10, z, s10, S10, h4, o4⟩ := new_obj S9 n1 (.tup [.str "err", .str y])
      rw [z]
      clear z
      refine ⟨by show 4 ≤ sizeLine; decide, fun L1 n1 => ?_⟩
      obtain ⟨H11, z, s11, S11, hL1, oL1⟩ := new_obj S10 n1 (.lst [.ref t1, .ref t2, .ref t3, .ref t4])
      rw [z]
      clear z
      refine ⟨_, rfl, _, rfl, by show 2 ≤ sizeLine; decide, fun t5 n1 => ?_⟩
      obtain ⟨H12, z, s12, S12, h5, o5⟩ := new_obj S11 n1 (.tup [.str "fun", .str y])
      rw [z]
      clear z
      refine ⟨_, rfl, by show 2 ≤ sizeLine; decide, fun t6 n1 => ?_⟩
      obtain ⟨H13, z, s13, S13, h6, o6⟩ := new_obj S12 n1 (.tup [.str "obj", v])
      rw [z]
      clear z
      refine ⟨_, rfl, by show 3 ≤ sizeLine; decide, fun t7 n1 => ?_⟩
      obtain ⟨H14, z, s14, S14, h7, o7⟩ := new_obj S13 n1 (.tup [.str "tok", .str "k", v])
      rw [z]
      clear z
      refine ⟨_, rfl, by show 2 ≤ sizeLine; decide, fun t8 n1 => ?_⟩
      obtain ⟨H15, z, s15, S15, h8, o8⟩ := new_obj S14 n1 (.tup [.str "err", v])
      rw [z]
      clear z
      refine ⟨_, rfl, by show 3 ≤ sizeLine; decide, fun t9 n1 => ?_⟩
      obtain ⟨H16, z, s16, S16, h9, o9⟩ := new_obj S15 n1 (.tup [.str "tok", v, .int 3])
      rw [z]
      clear z
      refine ⟨by show 5 ≤ sizeLine; decide, fun L2 n1 => ?_⟩
      obtain ⟨H17, z, s17, S17, hL2, oL2⟩ := new_obj S16 n1 (.lst [.ref t5, .ref t6, .ref t7, .ref t8, .ref t9])
      rw [z]
      clear z
      refine ⟨L1, L2, _, _, rfl, rfl, s17 _ _ (s16 _ _ (s15 _ _ (s14 _ _ (s13 _ _ (s12 _ _ hL1))))), hL2, by show 4 + 5 ≤ sizeLine; decide, fun L3 n1 => ?_⟩
      obtain ⟨H18, z, s18, S18, hL3, oL3⟩ := new_obj S17 n1 (.lst ([.ref t1, .ref t2, .ref t3, .ref t4] ++ [.ref t5, .ref t6, .ref t7, .ref t8, .ref t9]))
      rw [z]
      clear z
      -- value
      refine ⟨_, rfl, _, rfl, p, c, L3, _, rfl, S18, hL3, oL3, by show 1 ≤ 9; decide, by show 9 ≤ 1000; decide, fun x H19 hx k19 S19 => ?_⟩
      have e17 : Keep (Off p c) H17 H19 := (Same.keep s18).trans k19
      have e16 : Keep (Off p c) H16 H19 := (Same.keep s17).trans e17
      have e15 : Keep (Off p c) H15 H19 := (Same.keep s16).trans e16
      have e14 : Keep (Off p c) H14 H19 := (Same.keep s15).trans e15
      have e13 : Keep (Off p c) H13 H19 := (Same.keep s14).trans e14
      have e12 : Keep (Off p c) H12 H19 := (Same.keep s13).trans e13
      have e11 : Keep (Off p c) H11 H19 := (Same.keep s12).trans e12
      have e10 : Keep (Off p c) H10 H19 := (Same.keep s11).trans e11
      have e9 : Keep (Off p c) H9 H19 := (Same.keep s10).trans e10
      have e8 : Keep (Off p c) H8 H19 := (Same.keep s9).trans e9
      have e7 : Keep (Off p c) H7 H19 := (Same.keep s8).trans e8
      have e6 : Keep (Off p c) H6 H19 := k7.trans e7
      have e5 : Keep (Off p c) H5 H19 := (Same.keep s6).trans e6
      have e4 : Keep (Off p c) H4 H19 := (Same.keep s5).trans e5
      have hd19 : Da (Off p c) H19 v d := hd.keep e4
      have lit : ∀ {z : Str}, Word z → Sm (.str z) := fun h => sm_word h
      obtain ⟨z, rfl, hz⟩ : ∃ z, b = .str z ∧ Word z := by
        simp only [List.mem_cons, List.not_mem_nil, or_false] at hb
        rcases hb with rfl | rfl | rfl | rfl
        · exact ⟨_, rfl, word_lit (by decide +kernel)⟩
        · exact ⟨_, rfl, word_lit (by decide +kernel)⟩
        · exact ⟨_, rfl, word_lit (by decide +kernel)⟩
        · exact ⟨_, rfl, hy⟩
      have two : ∀ {d1 d2 : PyData}, Sm d1 → Sm d2 → ∀ e ∈ [d1, d2], Sm e := fun {d1 d2} a b e he => by
        simp only [List.mem_cons, List.not_mem_nil, or_false] at he
        rcases he with rfl | rfl
        · exact a
        · exact b
      have three : ∀ {d1 d2 d3 : PyData}, Sm d1 → Sm d2 → Sm d3 → ∀ e ∈ [d1, d2, d3], Sm e := fun {d1 d2 d3} a b c e he => by
        simp only [List.mem_cons, List.not_mem_nil, or_false] at he
        rcases he with rfl | rfl | rfl
        · exact a
        · exact b
        · exact c
      have sd := Sm.of ht
      have tx : Tup p c H19 x := by
        simp only [List.mem_append, List.mem_cons, List.not_mem_nil, or_false] at hx
        rcases hx with (rfl | rfl | rfl | rfl) | (rfl | rfl | rfl | rfl | rfl)
        · exact ⟨t1, _, _, rfl, e5 _ _ h1 o1, o1, .cons (.str _) .nil, by simp, by show 1 ≤ 3; decide, fun e he => by cases List.mem_singleton.mp he; exact lit (word_lit (by decide +kernel))⟩
        · exact ⟨t2, _, _, rfl, e8 _ _ h2 o2, o2, .cons (.str _) (.cons (.str _) .nil), by simp, by show 2 ≤ 3; decide, two (lit (word_lit (by decide +kernel))) (lit hz)⟩
        · exact ⟨t3, _, _, rfl, e9 _ _ h3 o3, o3, .cons (.str _) (.cons (.str _) (.cons hd19 .nil)), by simp, by show 3 ≤ 3; decide, three (lit (word_lit (by decide +kernel))) (lit hy) sd⟩
        · exact ⟨t4, _, _, rfl, e10 _ _ h4 o4, o4, .cons (.str _) (.cons (.str _) .nil), by simp, by show 2 ≤ 3; decide, two (lit (word_lit (by decide +kernel))) (lit hy)⟩
        · exact ⟨t5, _, _, rfl, e12 _ _ h5 o5, o5, .cons (.str _) (.cons (.str _) .nil), by simp, by show 2 ≤ 3; decide, two (lit (word_lit (by decide +kernel))) (lit hy)⟩
        · exact ⟨t6, _, _, rfl, e13 _ _ h6 o6, o6, .cons (.str _) (.cons hd19 .nil), by simp, by show 2 ≤ 3; decide, two (lit (word_lit (by decide +kernel))) sd⟩
        · exact ⟨t7, _, _, rfl, e14 _ _ h7 o7, o7, .cons (.str _) (.cons (.str _) (.cons hd19 .nil)), by simp, by show 3 ≤ 3; decide, three (lit (word_lit (by decide +kernel))) (lit (word_lit (by decide +kernel))) sd⟩
        · exact ⟨t8, _, _, rfl, e15 _ _ h8 o8, o8, .cons (.str _) (.cons hd19 .nil), by simp, by show 2 ≤ 3; decide, two (lit (word_lit (by decide +kernel))) sd⟩
        · exact ⟨t9, _, _, rfl, e16 _ _ h9 o9, o9, .cons (.str _) (.cons hd19 (.cons (.int _) .nil)), by simp, by show 3 ≤ 3; decide, three (lit (word_lit (by decide +kernel))) sd (Sm.of (int_thing (by decide +kernel)))⟩
      obtain ⟨u, xs, ds, rfl, hu, ou, qx, nx, lx, fx⟩ := tx
      clear hx e5 e6 e7 e8 e9 e10 e11 e12 e13 e14 e15 e16 e17 h1 h2 h3 h4 h5 h6 h7 h8 h9 hq hL1 hL2 hb
      refine ⟨_, rfl, _, rfl, _, rfl, u, xs, rfl, SqT.of hu, not_whole1 nx, fun u1 n1 => ?_⟩
      obtain ⟨H20, z, s20, S20, g1, p1⟩ := new_obj S19 n1 (.tup (cutV xs none (some (-1))))
      rw [z]
      clear z
      have hu20 := s20 _ _ hu
      refine ⟨_, rfl, _, rfl, by show 1 ≤ sizeLine; decide, fun u2 n1 => ?_⟩
      obtain ⟨H21, z, s21, S21, g2, p2⟩ := new_obj S20 n1 (.tup [v])
      rw [z]
      clear z
      have hu21 := s21 _ _ hu20
      have l63 : ∀ k : Nat, k ≤ 63 → k ≤ sizeLine := fun k h => Nat.le_trans h (by decide)
      refine ⟨u, u2, xs, [v], rfl, rfl, hu21, SqT.of g2, nx, l63 _ (by show xs.length + 1 ≤ 63; omega), fun u3 H22 s22 c22 g3 o3' => ?_⟩
      have S22 := c22 p c S21
      have p3 : ¬ Off p c u3 := o3'.elim (fun e => e ▸ ou) fun n => S21.off n
      have hu22 := s22 _ _ hu21
      refine ⟨_, rfl, u, xs, rfl, SqT.of hu22, fun u4 n1 z4 => ?_⟩
      obtain ⟨H23, z, s23, S23, g4, p4⟩ := new_obj S22 n1 (.lst xs)
      rw [z]
      clear z
      have hu23 := s23 _ _ hu22
      refine ⟨_, rfl, by show 1 ≤ sizeLine; decide, fun u5 n1 => ?_⟩
      obtain ⟨H24, z, s24, S24, g5, p5⟩ := new_obj S23 n1 (.tup [.str y])
      rw [z]
      clear z
      have hu24 := s24 _ _ hu23
      refine ⟨_, rfl, _, rfl, u, xs, rfl, SqT.of hu24, not_whole2 nx, fun u6 n1 => ?_⟩
      obtain ⟨H25, z, s25, S25, g6, p6⟩ := new_obj S24 n1 (.tup (cutV xs (some 1) none))
      rw [z]
      clear z
      have hu25 := s25 _ _ hu24
      have lc := cutV_length xs (some 1) none
      refine ⟨u5, u6, [.str y], _, rfl, rfl, s25 _ _ g5, SqT.of g6, by simp, l63 _ (by show 1 + (cutV xs (some 1) none).length ≤ 63; omega), fun u7 H26 s26 c26 g7 o7' => ?_⟩
      have S26 := c26 p c S25
      have p7 : ¬ Off p c u7 := o7'.elim (fun e => e ▸ p5) fun n => S25.off n
      have hu26 := s26 _ _ hu25
      refine ⟨_, rfl, _, rfl, _, rfl, by show 1 ≤ sizeLine; decide, fun u8 n1 => ?_⟩
      obtain ⟨H27, z, s27, S27, g8, p8⟩ := new_obj S26 n1 (.tup [v])
      rw [z]
      clear z
      have hu27 := s27 _ _ hu26
      refine ⟨_, rfl, _, rfl, u, xs, rfl, SqT.of hu27, not_whole2 nx, fun u9 n1 => ?_⟩
      obtain ⟨H28, z, s28, S28, g9, p9⟩ := new_obj S27 n1 (.tup (cutV xs (some 1) none))
      rw [z]
      clear z
      have hu28 := s28 _ _ hu27
      refine ⟨u8, u9, [v], _, rfl, rfl, s28 _ _ g8, SqT.of g9, by simp, l63 _ (by show 1 + (cutV xs (some 1) none).length ≤ 63; omega), fun u10 H29 s29 c29 g10 o10' => ?_⟩
      have S29 := c29 p c S28
      have p10 : ¬ Off p c u10 := o10'.elim (fun e => e ▸ p8) fun n => S28.off n
      have hu29 := s29 _ _ hu28
      refine ⟨_, rfl, by show 1 ≤ sizeLine; decide, fun u11 n1 => ?_⟩
      obtain ⟨H30, z, s30, S30, g11, p11⟩ := new_obj S29 n1 (.tup [.ref u])
      rw [z]
      clear z
      refine ⟨by show 8 ≤ sizeLine; decide, fun L4 n1 => ?_⟩
      obtain ⟨H31, z, s31, S31, hL4, oL4⟩ := new_obj S30 n1 (.lst [.ref u1, .ref u3, .ref u4, .ref u7, v, .str y, .ref u10, .ref u11])
      rw [z]
      clear z
      -- for one in [value, _law_of(source, odd)]
      refine ⟨_, rfl, _, rfl, _, rfl, p, c, L4, _, rfl, S31, hL4, oL4, by show 1 ≤ 8; decide, by show 8 ≤ 1000; decide, fun o1 H32 ho1 k32 S32 => ⟨by show 2 ≤ sizeLine; decide, fun L5 n1 => ?_⟩⟩
      obtain ⟨H33, z, s33, S33, hL5, oL5⟩ := new_obj S32 n1 (.lst [.ref u, o1])
      rw [z]
      clear z
      have f32 : Keep (Off p c) H32 H33 := Same.keep s33
      have f31 : Keep (Off p c) H31 H33 := k32.trans f32
      have f30 : Keep (Off p c) H30 H33 := (Same.keep s31).trans f31
      have f29 : Keep (Off p c) H29 H33 := (Same.keep s30).trans f30
      have f28 : Keep (Off p c) H28 H33 := (Same.keep s29).trans f29
      have f27 : Keep (Off p c) H27 H33 := (Same.keep s28).trans f28
      have f26 : Keep (Off p c) H26 H33 := (Same.keep s27).trans f27
      have f25 : Keep (Off p c) H25 H33 := (Same.keep s26).trans f26
      have f24 : Keep (Off p c) H24 H33 := (Same.keep s25).trans f25
      have f23 : Keep (Off p c) H23 H33 := (Same.keep s24).trans f24
      have f22 : Keep (Off p c) H22 H33 := (Same.keep s23).trans f23
      have f21 : Keep (Off p c) H21 H33 := (Same.keep s22).trans f22
      have f20 : Keep (Off p c) H20 H33 := (Same.keep s21).trans f21
      have f19 : Keep (Off p c) H19 H33 := (Same.keep s20).trans f20
      have hd33 : Da (Off p c) H33 v d := hd19.keep f19
      have q33 : Das (Off p c) H33 xs ds := qx.keep f19
      have ld : ds.length ≤ 3 := by rw [← qx.length]; exact lx
      obtain ⟨ca, qa, fa, la⟩ := das_cut q33 fx none (some (-1))
      obtain ⟨cb, qb, fb, lb⟩ := das_cut q33 fx (some 1) none
      have glue : ∀ {es gs : List PyData}, (∀ e ∈ es, Sm e) → (∀ e ∈ gs, Sm e) → ∀ e ∈ es ++ gs, Sm e := fun a b e he => (List.mem_append.mp he).elim (a e) (b e)
      have one : ∀ {g : PyData}, Sm g → ∀ e ∈ [g], Sm e := fun h e he => by cases List.mem_singleton.mp he; exact h
      have A0 : ∃ e, Ask p c H33 (.ref u) e := ⟨_, ask_tup (f19 _ _ hu ou) ou q33 (by omega) fx⟩
      have A1 : ∃ e, Ask p c H33 o1 e := by
        simp only [List.mem_cons, List.not_mem_nil, or_false] at ho1
        rcases ho1 with rfl | rfl | rfl | rfl | rfl | rfl | rfl | rfl
        · exact ⟨_, ask_tup (f20 _ _ g1 p1) p1 qa (by omega) fa⟩
        · exact ⟨_, ask_tup (f22 _ _ g3 p3) p3 (Das.append q33 (.cons hd33 .nil)) (by rw [List.length_append]; show ds.length + 1 ≤ 4; omega) (glue fx (one sd))⟩
        · exact ⟨_, ask_lst (f23 _ _ g4 p4) p4 z4 q33 (by omega) fx⟩
        · exact ⟨_, ask_tup (f26 _ _ g7 p7) p7 (Das.append (.cons (.str y) .nil) qb) (by rw [List.length_append]; show 1 + cb.length ≤ 4; omega) (glue (one (lit hy)) fb)⟩
        · exact ⟨_, ask_thing hd33 ht⟩
        · exact ⟨_, ask_thing (.str _) (word_thing hy)⟩
        · exact ⟨_, ask_tup (f29 _ _ g10 p10) p10 (Das.append (.cons hd33 .nil) qb) (by rw [List.length_append]; show 1 + cb.length ≤ 4; omega) (glue (one sd) fb)⟩
        · exact ⟨_, ask_one (f30 _ _ g11 p11) p11 (f19 _ _ hu ou) ou q33 ld fx⟩
      clear f20 f21 f22 f23 f24 f25 f26 f27 f28 f29 f30 f31 f32 g1 g2 g3 g4 g5 g6 g7 g8 g9 g10 g11 hu20 hu21 hu22 hu23 hu24 hu25 hu26 hu27 hu28 hu29 hL4 ho1 qa qb
      refine ⟨L5, rfl, ⟨_, SqL.of hL5⟩, for_list (K := K) (a := L5) (xs := [.ref u, o1]) (fun j σ H' => Same H33 H' ∧ ∃ w8 w9 w10, σ = [some (.ref a), some (.ref p), some (.int (0 + (i : Int))), some (.str y), some v, some (.ref L3), some (.ref u), some (.ref L4), w8, w9, w10])
        ⟨Same.refl _, _, _, _, rfl⟩ (fun j σ H' _ ⟨sm, _⟩ => SqL.of (sm _ _ hL5)) ?_ ?_⟩
      · rintro j q σ H' hj ⟨sm, w8, w9, w10, rfl⟩
        obtain ⟨e, Ae⟩ : ∃ e, Ask p c H' q e := by
          have hm : q = .ref u ∨ q = o1 := by simpa using List.mem_of_getElem? hj
          rcases hm with rfl | rfl
          · exact A0.imp fun e h => h.keep (Same.keep sm)
          · exact A1.imp fun e h => h.keep (Same.keep sm)
        have S' := S33.same sm
        -- printed, told
        refine ⟨_, rfl, Off p c, q, e, rfl, Ae.da, Ae.fit, _, rfl, Off p c, q, e, rfl, Ae.da, Ae.in_, fun Ha sa => ⟨_, rfl, Off p c, q, e, rfl, Ae.da.keep (Same.keep sa), Ae.sh, fun Hb sb => ⟨by show 2 ≤ sizeLine; decide, fun T1 n1 zT => ?_⟩⟩⟩
        have Sb := (S'.same sa).same sb
        obtain ⟨Hc, z, sc, Sc, hT1, oT1⟩ := new_obj Sb n1 (.lst [.bl (valD e), .bl (wordD e)])
        rw [z]
        clear z
        have kc : Keep (Off p c) H' Hc := Same.keep (sa.trans (sb.trans sc))
        -- repr(told) != repr([..])
        refine ⟨_, rfl, Off p c, .ref T1, .list [.bool (valD e), .bool (wordD e)], rfl, .lst hT1 oT1 zT (.cons (.bl _) (.cons (.bl _) .nil)), fit_bools, ?_⟩
        refine ⟨_, rfl, Off p c, q, e, rfl, Ae.da.keep kc, Ae.in_, fun Hd sd' => ⟨_, rfl, Off p c, q, e, rfl, Ae.da.keep (kc.trans (Same.keep sd')), Ae.sh, fun He se => ⟨by show 2 ≤ sizeLine; decide, fun T2 n1 zT2 => ?_⟩⟩⟩
        have Se := (Sc.same sd').same se
        obtain ⟨Hf, z, sf, Sf, hT2, oT2⟩ := new_obj Se n1 (.lst [.bl (valD e), .bl (wordD e)])
        rw [z]
        clear z
        have kf : Keep (Off p c) H' Hf := kc.trans (Same.keep (sd'.trans (se.trans sf)))
        have smf : Same H33 Hf := sm.trans (sa.trans (sb.trans (sc.trans (sd'.trans (se.trans sf)))))
        refine ⟨Off p c, .ref T2, .list [.bool (valD e), .bool (wordD e)], rfl, .lst hT2 oT2 zT2 (.cons (.bl _) (.cons (.bl _) .nil)), fit_bools, rfl, _, rfl, iteNS rfl ?_⟩
        -- repr(one) != printed
        refine ⟨_, rfl, Off p c, q, e, rfl, Ae.da.keep kf, Ae.fit, _, rfl, rfl, _, rfl, iteNS rfl ?_⟩
        -- kind_of
        refine ⟨_, rfl, Off p c, q, e, rfl, Ae.da.keep kf, Ae.in_, fun Hg sg => ⟨_, rfl, ite2 (fun hv => ?_) (fun hv => ?_)⟩⟩
        · obtain ⟨d0, dr, rfl, i0, i1⟩ := val_form hv
          have Ag := Ae.da.keep (kf.trans (Same.keep sg))
          cases Ag with
          | @tup t ys _ ht' ot' q' =>
            cases q' with
            | @cons x0 yr _ _ r0 qr =>
              obtain ⟨z0, rfl⟩ := str_of r0 i0
              have fin : Same H33 Hg := smf.trans sg
              by_cases g : eqS d0 "tok" = true
              · obtain ⟨d1, d2, rfl, i2⟩ := i1 g
                cases qr with
                | @cons x1 yr _ _ r1 qr =>
                  obtain ⟨z1, rfl⟩ := str_of r1 i2
                  refine ⟨_, rfl, Off p c, t, _, .str z0, .str z1, d0, rfl, SqT.of ht', rfl, r0, fun _ => rfl, ?_⟩
                  rw [if_pos g]
                  refine ⟨_, rfl, t, _, _, .str z0, rfl, rfl, SqT.of ht', atI_nat (j := 0) rfl, Off p c, d0, _, r0, rfl, _, rfl, ite2 (fun _ => ?_) (fun h => absurd g h)⟩
                  exact ⟨_, rfl, t, _, _, .str z1, rfl, rfl, SqT.of ht', atI_nat (j := 1) rfl, rfl, _, rfl, iteNS rfl ⟨fin, _, _, _, rfl⟩⟩
              · refine ⟨_, rfl, Off p c, t, _, .str z0, .str z0, d0, rfl, SqT.of ht', rfl, r0, fun h => absurd h g, ?_⟩
                rw [if_neg g]
                refine ⟨_, rfl, t, _, _, .str z0, rfl, rfl, SqT.of ht', atI_nat (j := 0) rfl, Off p c, d0, _, r0, rfl, _, rfl, ite2 (fun h => absurd h g) (fun _ => ?_)⟩
                exact ⟨_, rfl, t, _, _, .str z0, rfl, rfl, SqT.of ht', atI_nat (j := 0) rfl, rfl, _, rfl, iteNS rfl ⟨fin, _, _, _, rfl⟩⟩
        · exact ⟨smf.trans sg, _, _, _, rfl⟩
      · rintro σ H' ⟨sm, w8, w9, w10, rfl⟩
        -- repr([is_word(word), is_word(number)]) != repr([..])
        have S' := S33.same sm
        have dv : Da (Off p c) H' v d := hd33.keep (Same.keep sm)
        have shy : Short (.str y) := (word_thing hy).sh
        refine ⟨_, rfl, Off p c, .str y, .str y, rfl, .str y, shy, fun Ha sa => ⟨_, rfl, Off p c, v, d, rfl, dv.keep (Same.keep sa), ht.sh, fun Hb sb => ⟨by show 2 ≤ sizeLine; decide, fun T1 n1 zT => ?_⟩⟩⟩
        have Sb := (S'.same sa).same sb
        obtain ⟨Hc, z, sc, Sc, hT1, oT1⟩ := new_obj Sb n1 (.lst [.bl (wordD (.str y)), .bl (wordD d)])
        rw [z]
        clear z
        have dc := dv.keep (Same.keep (sa.trans (sb.trans sc)))
        refine ⟨Off p c, .ref T1, .list [.bool (wordD (.str y)), .bool (wordD d)], rfl, .lst hT1 oT1 zT (.cons (.bl _) (.cons (.bl _) .nil)), fit_bools, ?_⟩
        refine ⟨_, rfl, Off p c, .str y, .str y, rfl, .str y, shy, fun Hd sd' => ⟨_, rfl, Off p c, v, d, rfl, dc.keep (Same.keep sd'), ht.sh, fun He se => ⟨by show 2 ≤ sizeLine; decide, fun T2 n1 zT2 => ?_⟩⟩⟩
        have Se := (Sc.same sd').same se
        obtain ⟨Hf, z, sf, Sf, hT2, oT2⟩ := new_obj Se n1 (.lst [.bl (wordD (.str y)), .bl (wordD d)])
        rw [z]
        clear z
        exact ⟨Off p c, .ref T2, .list [.bool (wordD (.str y)), .bool (wordD d)], rfl, .lst hT2 oT2 zT2 (.cons (.bl _) (.cons (.bl _) .nil)), fit_bools, rfl, _, rfl, iteNS rfl ⟨Sf, _, _, _, _, _, _, _, _, _, rfl⟩⟩
    · rintro σ H2 ⟨S2, v2, v3, v4, v5, v6, v7, v8, v9, v10, rfl⟩
      -- is_word('a' * 12) is True and is_word('a' * 13) is False
      have m12 : MulOk "a" 12 := ⟨by decide +kernel, by decide +kernel, by decide +kernel⟩
      have m13 : MulOk "a" 13 := ⟨by decide +kernel, by decide +kernel, by decide +kernel⟩
      have e12 : wordD (.str (Txt.mul "a" 12)) = true := by decide +kernel
      have e13 : wordD (.str (Txt.mul "a" 13)) = false := by decide +kernel
      refine ⟨_, _, rfl, rfl, m12, fun _ => False, _, _, rfl, .str _, by show (Txt.mul "a" 12).length ≤ 1000; decide +kernel, fun H3 s3 => ⟨_, _, rfl, rfl, _, rfl, ite2 (fun _ => ?_) (fun q => absurd (decide_eq_true e12) q)⟩⟩
      refine ⟨_, _, rfl, rfl, m13, fun _ => False, _, _, rfl, .str _, by show (Txt.mul "a" 13).length ≤ 1000; decide +kernel, fun H4 s4 => ⟨_, _, rfl, rfl, ?_⟩⟩
      have e : decide (wordD (.str (Txt.mul "a" 13)) = false) = true := decide_eq_true e13
      rw [e]
      exact k H4
end
end K13
namespace K13
open PySem PySem.Spec PyProof.Rows L2 Ver
theorem all_mk {l : PySem.W.OpenLaw} {w : World} {K : PySem.W.Frag} {h : Heap} {mg : Str → Option Value} {fa aR aN f0 f1 f2 f3 f4 f5 f6 f7 f8 f9 f10 f11 f12 f13 : Addr} (X : K.In h) (G : h.Ns mainGlobals mg) (hfa : mg "law" = some (.ref fa))
    {odR odN od0 an0 od1 an1 od2 an2 od3 an3 od4 an4 od5 an5 od6 an6 od7 an7 od8 an8 od9 an9 od10 an10 od11 an11 od12 an12 od13 an13 : Option Addr} {slR slN sl0 sl1 sl2 sl3 sl4 sl5 sl6 sl7 sl8 sl9 sl10 sl11 sl12 sl13 : Array (Option Value)} {nR nN : Nat} {tL tS tG r1 r2 r3 r4 r5 u1 : Tok} {oc0 kV0 dc0 pm0 cd0 ct0 oc1 kV1 dc1 pm1 cd1 ct1 oc2 kV2 dc2 pm2 cd2 ct2 oc3 kV3 dc3 pm3 cd3 ct3 oc4 kV4 dc4 pm4 cd4 ct4 oc5 kV5 dc5 pm5 cd5 ct5 oc6 kV6 dc6 pm6 cd6 ct6 oc7 kV7 dc7 pm7 cd7 ct7 oc8 kV8 dc8 pm8 cd8 ct8 oc9 kV9 dc9 pm9 cd9 ct9 oc10 kV10 dc10 pm10 cd10 ct10 oc11 kV11 dc11 pm11 cd11 ct11 oc12 kV12 dc12 pm12 cd12 ct12 oc13 kV13 dc13 pm13 cd13 ct13 : Value}
    (a0 : PySem.W.nsIn K mainGlobals "is_word" = some (some (.ref f0))) (l0 : K.lookup f0 = some ⟨oc0, od0, .func (PySem.W.fnOf "is_word" "is_word" (defArgs sWord) (defBody sWord) (defScope sWord) .none kV0 dc0 pm0 an0 cd0 ct0), sl0⟩) (c0 : PySem.W.codeIn K cd0 "is_word" = true) (k0 : PySem.W.keepIn K (.ref f0) = true)
    (a1 : PySem.W.nsIn K mainGlobals "is_kind_word" = some (some (.ref f1))) (l1 : K.lookup f1 = some ⟨oc1, od1, .func (PySem.W.fnOf "is_kind_word" "is_kind_word" (defArgs sKind) (defBody sKind) (defScope sKind) .none kV1 dc1 pm1 an1 cd1 ct1), sl1⟩) (c1 : PySem.W.codeIn K cd1 "is_kind_word" = true) (k1 : PySem.W.keepIn K (.ref f1) = true)
    (a2 : PySem.W.nsIn K mainGlobals "is_number" = some (some (.ref f2))) (l2 : K.lookup f2 = some ⟨oc2, od2, .func (PySem.W.fnOf "is_number" "is_number" (defArgs sNum) (defBody sNum) (defScope sNum) .none kV2 dc2 pm2 an2 cd2 ct2), sl2⟩) (c2 : PySem.W.codeIn K cd2 "is_number" = true) (k2 : PySem.W.keepIn K (.ref f2) = true)
    (a3 : PySem.W.nsIn K mainGlobals "is_value" = some (some (.ref f3))) (l3 : K.lookup f3 = some ⟨oc3, od3, .func (PySem.W.fnOf "is_value" "is_value" (defArgs sVal) (defBody sVal) (defScope sVal) .none kV3 dc3 pm3 an3 cd3 ct3), sl3⟩) (c3 : PySem.W.codeIn K cd3 "is_value" = true) (k3 : PySem.W.keepIn K (.ref f3) = true)
    (a4 : PySem.W.nsIn K mainGlobals "is_pair_value" = some (some (.ref f4))) (l4 : K.lookup f4 = some ⟨oc4, od4, .func (PySem.W.fnOf "is_pair_value" "is_pair_value" (defArgs sPair) (defBody sPair) (defScope sPair) .none kV4 dc4 pm4 an4 cd4 ct4), sl4⟩) (c4 : PySem.W.codeIn K cd4 "is_pair_value" = true) (k4 : PySem.W.keepIn K (.ref f4) = true)
    (a5 : PySem.W.nsIn K mainGlobals "kind_of" = some (some (.ref f5))) (l5 : K.lookup f5 = some ⟨oc5, od5, .func (PySem.W.fnOf "kind_of" "kind_of" (defArgs sKindOf) (defBody sKindOf) (defScope sKindOf) .none kV5 dc5 pm5 an5 cd5 ct5), sl5⟩) (c5 : PySem.W.codeIn K cd5 "kind_of" = true) (k5 : PySem.W.keepIn K (.ref f5) = true)
    (a6 : PySem.W.nsIn K mainGlobals "_law_source" = some (some (.ref f6))) (l6 : K.lookup f6 = some ⟨oc6, od6, .func (PySem.W.fnOf "_law_source" "_law_source" (defArgs sSource) (defBody sSource) (defScope sSource) .none kV6 dc6 pm6 an6 cd6 ct6), sl6⟩) (c6 : PySem.W.codeIn K cd6 "_law_source" = true) (k6 : PySem.W.keepIn K (.ref f6) = true)
    (a7 : PySem.W.nsIn K mainGlobals "_law_pick" = some (some (.ref f7))) (l7 : K.lookup f7 = some ⟨oc7, od7, .func (PySem.W.fnOf "_law_pick" "_law_pick" (defArgs sPick) (defBody sPick) (defScope sPick) .none kV7 dc7 pm7 an7 cd7 ct7), sl7⟩) (c7 : PySem.W.codeIn K cd7 "_law_pick" = true) (k7 : PySem.W.keepIn K (.ref f7) = true)
    (a8 : PySem.W.nsIn K mainGlobals "_law_of" = some (some (.ref f8))) (l8 : K.lookup f8 = some ⟨oc8, od8, .func (PySem.W.fnOf "_law_of" "_law_of" (defArgs sOf) (defBody sOf) (defScope sOf) .none kV8 dc8 pm8 an8 cd8 ct8), sl8⟩) (c8 : PySem.W.codeIn K cd8 "_law_of" = true) (k8 : PySem.W.keepIn K (.ref f8) = true)
    (a9 : PySem.W.nsIn K mainGlobals "_law_is_word" = some (some (.ref f9))) (l9 : K.lookup f9 = some ⟨oc9, od9, .func (PySem.W.fnOf "_law_is_word" "_law_is_word" (defArgs sLWord) (defBody sLWord) (defScope sLWord) .none kV9 dc9 pm9 an9 cd9 ct9), sl9⟩) (c9 : PySem.W.codeIn K cd9 "_law_is_word" = true) (k9 : PySem.W.keepIn K (.ref f9) = true)
    (a10 : PySem.W.nsIn K mainGlobals "_law_is_value" = some (some (.ref f10))) (l10 : K.lookup f10 = some ⟨oc10, od10, .func (PySem.W.fnOf "_law_is_value" "_law_is_value" (defArgs sLVal) (defBody sLVal) (defScope sLVal) .none kV10 dc10 pm10 an10 cd10 ct10), sl10⟩) (c10 : PySem.W.codeIn K cd10 "_law_is_value" = true) (k10 : PySem.W.keepIn K (.ref f10) = true)
    (a11 : PySem.W.nsIn K mainGlobals "_law_word" = some (some (.ref f11))) (l11 : K.lookup f11 = some ⟨oc11, od11, .func (PySem.W.fnOf "_law_word" "_law_word" (defArgs sLWd) (defBody sLWd) (defScope sLWd) .none kV11 dc11 pm11 an11 cd11 ct11), sl11⟩) (c11 : PySem.W.codeIn K cd11 "_law_word" = true) (k11 : PySem.W.keepIn K (.ref f11) = true)
    (a12 : PySem.W.nsIn K mainGlobals "_law_thing" = some (some (.ref f12))) (l12 : K.lookup f12 = some ⟨oc12, od12, .func (PySem.W.fnOf "_law_thing" "_law_thing" (defArgs sThing) (defBody sThing) (defScope sThing) .none kV12 dc12 pm12 an12 cd12 ct12), sl12⟩) (c12 : PySem.W.codeIn K cd12 "_law_thing" = true) (k12 : PySem.W.keepIn K (.ref f12) = true)
    (a13 : PySem.W.nsIn K mainGlobals "law" = some (some (.ref f13))) (l13 : K.lookup f13 = some ⟨oc13, od13, .func (PySem.W.fnOf "law" "law" (defArgs sLaw) (defBody sLaw) (defScope sLaw) .none kV13 dc13 pm13 an13 cd13 ct13), sl13⟩) (c13 : PySem.W.codeIn K cd13 "law" = true) (k13 : PySem.W.keepIn K (.ref f13) = true)
    (gL : PySem.W.nsIn K mainGlobals "LETTERS" = some (some (.str lets tL))) (gS : PySem.W.nsIn K mainGlobals "WORD_SIGNS" = some (some (.str sgns tS))) (gG : PySem.W.nsIn K mainGlobals "LONGEST_WORD" = some (some (.int 12 tG)))
    (gR : PySem.W.nsIn K mainGlobals "RESERVED" = some (some (.ref aR))) (lR : K.lookup aR = some ⟨.type "tuple", odR, .seq #[.str "none" r1, .str "bit" r2, .str "err" r3, .str "fun" r4, .str "obj" r5] nR, slR⟩)
    (gN : PySem.W.nsIn K mainGlobals "NONE" = some (some (.ref aN))) (lN : K.lookup aN = some ⟨.type "tuple", odN, .seq #[.str "none" u1] nN, slN⟩)
    (z0 : PySem.W.nsIn K mainGlobals "len" = some none) (z1 : PySem.W.nsIn K mainGlobals "int" = some none) (z2 : PySem.W.nsIn K mainGlobals "abs" = some none) (z3 : PySem.W.nsIn K mainGlobals "range" = some none) (z4 : PySem.W.nsIn K mainGlobals "isinstance" = some none) (z5 : PySem.W.nsIn K mainGlobals "str" = some none) (z6 : PySem.W.nsIn K mainGlobals "bool" = some none) (z7 : PySem.W.nsIn K mainGlobals "tuple" = some none) (z8 : PySem.W.nsIn K mainGlobals "all" = some none) (z9 : PySem.W.nsIn K mainGlobals "list" = some none) (z10 : PySem.W.nsIn K mainGlobals "repr" = some none) :
    ∃ fd : FuncData, (∀ (s : Shared) (v : Value), BindsTo s fd ⟨[v], []⟩ [("script", v)]) ∧ ∀ base : Heap, K.In base → base.Ns mainGlobals mg → FnQ l.prog w K mg base CX0 5 fa fd ["script"] (spLaw K) := by
  have e := hfa.symm.trans (PySem.W.mg_of X G a13)
  cases e
  have T : Txt mg := ⟨PySem.W.mg_none_of X G z0, PySem.W.mg_none_of X G z1, PySem.W.mg_none_of X G z2, PySem.W.mg_none_of X G z3⟩
  have D : Glob mg := ⟨PySem.W.mg_none_of X G z0, PySem.W.mg_none_of X G z4, PySem.W.mg_none_of X G z5, PySem.W.mg_none_of X G z1, PySem.W.mg_none_of X G z6, PySem.W.mg_none_of X G z7, PySem.W.mg_none_of X G z8, ⟨_, PySem.W.mg_of X G gL⟩, ⟨_, PySem.W.mg_of X G gS⟩, ⟨_, PySem.W.mg_of X G gG⟩⟩
  have F0 := fun_mk (st := sWord) l0 c0 k0
  have b0 := F0.binds (ps := ["value"]) fun _ _ _ _ _ _ us hl => match us, hl with | [_], _ => rfl
  have d0 : Def K mg "is_word" f0 := ⟨PySem.W.mg_of X G a0, k0⟩
  have F1 := fun_mk (st := sKind) l1 c1 k1
  have b1 := F1.binds (ps := ["value"]) fun _ _ _ _ _ _ us hl => match us, hl with | [_], _ => rfl
  have d1 : Def K mg "is_kind_word" f1 := ⟨PySem.W.mg_of X G a1, k1⟩
  have F2 := fun_mk (st := sNum) l2 c2 k2
  have b2 := F2.binds (ps := ["value"]) fun _ _ _ _ _ _ us hl => match us, hl with | [_], _ => rfl
  have d2 : Def K mg "is_number" f2 := ⟨PySem.W.mg_of X G a2, k2⟩
  have F3 := fun_mk (st := sVal) l3 c3 k3
  have b3 := F3.binds (ps := ["value"]) fun _ _ _ _ _ _ us hl => match us, hl with | [_], _ => rfl
  have d3 : Def K mg "is_value" f3 := ⟨PySem.W.mg_of X G a3, k3⟩
  have F4 := fun_mk (st := sPair) l4 c4 k4
  have b4 := F4.binds (ps := ["word", "content"]) fun _ _ _ _ _ _ us hl => match us, hl with | [_, _], _ => rfl
  have d4 : Def K mg "is_pair_value" f4 := ⟨PySem.W.mg_of X G a4, k4⟩
  have F5 := fun_mk (st := sKindOf) l5 c5 k5
  have b5 := F5.binds (ps := ["value"]) fun _ _ _ _ _ _ us hl => match us, hl with | [_], _ => rfl
  have d5 : Def K mg "kind_of" f5 := ⟨PySem.W.mg_of X G a5, k5⟩
  have F6 := fun_mk (st := sSource) l6 c6 k6
  have b6 := F6.binds (ps := ["script"]) fun _ _ _ _ _ _ us hl => match us, hl with | [_], _ => rfl
  have d6 : Def K mg "_law_source" f6 := ⟨PySem.W.mg_of X G a6, k6⟩
  have F7 := fun_mk (st := sPick) l7 c7 k7
  have b7 := F7.binds (ps := ["source", "many"]) fun _ _ _ _ _ _ us hl => match us, hl with | [_, _], _ => rfl
  have d7 : Def K mg "_law_pick" f7 := ⟨PySem.W.mg_of X G a7, k7⟩
  have F8 := fun_mk (st := sOf) l8 c8 k8
  have b8 := F8.binds (ps := ["source", "some"]) fun _ _ _ _ _ _ us hl => match us, hl with | [_, _], _ => rfl
  have d8 : Def K mg "_law_of" f8 := ⟨PySem.W.mg_of X G a8, k8⟩
  have F9 := fun_mk (st := sLWord) l9 c9 k9
  have b9 := F9.binds (ps := ["value"]) fun _ _ _ _ _ _ us hl => match us, hl with | [_], _ => rfl
  have d9 : Def K mg "_law_is_word" f9 := ⟨PySem.W.mg_of X G a9, k9⟩
  have F10 := fun_mk (st := sLVal) l10 c10 k10
  have b10 := F10.binds (ps := ["value"]) fun _ _ _ _ _ _ us hl => match us, hl with | [_], _ => rfl
  have d10 : Def K mg "_law_is_value" f10 := ⟨PySem.W.mg_of X G a10, k10⟩
  have F11 := fun_mk (st := sLWd) l11 c11 k11
  have b11 := F11.binds (ps := ["source"]) fun _ _ _ _ _ _ us hl => match us, hl with | [_], _ => rfl
  have d11 : Def K mg "_law_word" f11 := ⟨PySem.W.mg_of X G a11, k11⟩
  have F12 := fun_mk (st := sThing) l12 c12 k12
  have b12 := F12.binds (ps := ["source"]) fun _ _ _ _ _ _ us hl => match us, hl with | [_], _ => rfl
  have d12 : Def K mg "_law_thing" f12 := ⟨PySem.W.mg_of X G a12, k12⟩
  have F13 := fun_mk (st := sLaw) l13 c13 k13
  have hR : ∀ H, SqT K H aR (resv.map V.str) := fun H => .inr ⟨_, _, _, lR, rfl, rfl, by show 5 ≤ sizeLine; decide, .cons ⟨_, rfl⟩ (.cons ⟨_, rfl⟩ (.cons ⟨_, rfl⟩ (.cons ⟨_, rfl⟩ (.cons ⟨_, rfl⟩ .nil))))⟩
  have hN : ∀ H, SqT K H aN [V.str "none"] := fun H => .inr ⟨_, _, _, lN, rfl, rfl, by show 1 ≤ sizeLine; decide, .cons ⟨_, rfl⟩ .nil⟩
  refine ⟨PySem.W.fnOf "law" "law" (defArgs sLaw) (defBody sLaw) (defScope sLaw) .none kV13 dc13 pm13 an13 cd13 ct13, fun s v => .of_eq rfl, fun base _ _ => ?_⟩
  have gW := ok_word (P := l.prog) (w := w) (base := base) F0 D
  have gK := ok_kind (P := l.prog) (w := w) (base := base) F1 gW d0 b0 (PySem.W.mg_of X G gR) hR
  have gNm := ok_num (P := l.prog) (w := w) (base := base) F2 D
  have gP := ok_pair (P := l.prog) (w := w) (base := base) F4 gW d0 b0 gNm d2 b2
  have gV := ok_val (P := l.prog) (w := w) (base := base) F3 D gK d1 b1 gNm d2 b2 gP d4 b4 (PySem.W.mg_of X G gN) hN
  have gKo := ok_kindOf (P := l.prog) (w := w) (mg := mg) (base := base) F5
  have gSo := ok_source (P := l.prog) (w := w) (base := base) F6 T
  have gPi := ok_pick (P := l.prog) (w := w) (base := base) F7 T
  have gOf := ok_of (P := l.prog) (w := w) (base := base) F8 T gPi d7 b7
  have gLW := ok_lword (P := l.prog) (w := w) (base := base) F9 D
  have gLV := ok_lval (P := l.prog) (w := w) (base := base) F10 D gLW d9 b9
  have gWd := ok_lwd (P := l.prog) (w := w) (base := base) F11 T gPi d7 b7 gOf d8 b8
  have gTh := ok_thing (P := l.prog) (w := w) (base := base) F12 gPi d7 b7 gOf d8 b8 gWd d11 b11
  exact ok_law F13 ⟨gSo, d6, b6, gOf, d8, b8, gWd, d11, b11, gTh, d12, b12, gV, d3, b3, gW, d0, b0, gLV, d10, b10, gLW, d9, b9, gKo, d5, b5, PySem.W.mg_none_of X G z3, PySem.W.mg_none_of X G z9, PySem.W.mg_none_of X G z10⟩
end K13
open PySem PySem.W PyProof.Rows
set_option maxRecDepth 100000 in
set_option maxHeartbeats 0 in
theorem PySem.Challenge.cw_shapeguess_k13_values_judged_holds : PySem.Challenge.rw_shapeguess_k13_values_judged.Holds := by
  w_on; o_law; k_head; (case hw => w_witness2)
  k_fill
  refine Ver.walkQ (l := PySem.Challenge.rw_shapeguess_k13_values_judged) (n := 63) (k := 5) (x := "script") (sp := fun K => K13.spLaw K) rfl (by decide) rfl ⟨rfl, by decide, by decide⟩ (fun w h Y => PySem.W.kIn_of Y) ?F ?S
  case S => exact fun K H a ns hl _ hS => ⟨a, ns, rfl, hS, hl, fun _ => rfl⟩
  case F =>
    intro w mg fa h KX G hmg
    refine' K13.all_mk KX G hmg ?a0 ?l0 ?c0 ?k0 ?a1 ?l1 ?c1 ?k1 ?a2 ?l2 ?c2 ?k2 ?a3 ?l3 ?c3 ?k3 ?a4 ?l4 ?c4 ?k4 ?a5 ?l5 ?c5 ?k5 ?a6 ?l6 ?c6 ?k6 ?a7 ?l7 ?c7 ?k7 ?a8 ?l8 ?c8 ?k8 ?a9 ?l9 ?c9 ?k9 ?a10 ?l10 ?c10 ?k10 ?a11 ?l11 ?c11 ?k11 ?a12 ?l12 ?c12 ?k12 ?a13 ?l13 ?c13 ?k13 ?gL ?gS ?gG ?gR ?lR ?gN ?lN ?z0 ?z1 ?z2 ?z3 ?z4 ?z5 ?z6 ?z7 ?z8 ?z9 ?z10
    (case a0 => k_is); (case l0 => k_is); (case c0 => k_is); (case k0 => k_is); (case a1 => k_is); (case l1 => k_is); (case c1 => k_is); (case k1 => k_is)
    (case a2 => k_is); (case l2 => k_is); (case c2 => k_is); (case k2 => k_is); (case a3 => k_is); (case l3 => k_is); (case c3 => k_is); (case k3 => k_is)
    (case a4 => k_is); (case l4 => k_is); (case c4 => k_is); (case k4 => k_is); (case a5 => k_is); (case l5 => k_is); (case c5 => k_is); (case k5 => k_is)
    (case a6 => k_is); (case l6 => k_is); (case c6 => k_is); (case k6 => k_is); (case a7 => k_is); (case l7 => k_is); (case c7 => k_is); (case k7 => k_is)
    (case a8 => k_is); (case l8 => k_is); (case c8 => k_is); (case k8 => k_is); (case a9 => k_is); (case l9 => k_is); (case c9 => k_is); (case k9 => k_is)
    (case a10 => k_is); (case l10 => k_is); (case c10 => k_is); (case k10 => k_is); (case a11 => k_is); (case l11 => k_is); (case c11 => k_is); (case k11 => k_is)
    (case a12 => k_is); (case l12 => k_is); (case c12 => k_is); (case k12 => k_is); (case a13 => k_is); (case l13 => k_is); (case c13 => k_is); (case k13 => k_is)
    (case gL => k_is); (case gS => k_is); (case gG => k_is); (case gR => k_is); (case lR => k_is); (case gN => k_is); (case lN => k_is); (case z0 => k_is)
    (case z1 => k_is); (case z2 => k_is); (case z3 => k_is); (case z4 => k_is); (case z5 => k_is); (case z6 => k_is); (case z7 => k_is); (case z8 => k_is)
    (case z9 => k_is); (case z10 => k_is)
