import PyProof.Rows.All
import Wide.All
import OpenK.AllK
import Wide.FinOn
import HandS.ForMost
import HandS.IsInst
import HandS.ExcInit
import HandS.FStr
import KE.KExcInit
import KE.KExcIs
import HandS.TryMany
import HandS.ExcField
import KE.DataEq
import HandS.TupAny
import HandS.DictComp
import HandS.More
import HandS.Style
import HandS.Zip
import HandS.Walk
import HandS.WordsDict
import HandS.WordsExc
import HandS.Conv
import PySem.Challenge.RW_shapeguess_k12_variants_applied
set_option Elab.async false
set_option linter.all false
set_option maxRecDepth 100000
set_option maxHeartbeats 4000000
/-! Ver, 1: an empty dict is no text; plain data of the call's own heap, shown and compared -/
namespace Ver
open PySem PySem.SeqAt
section
variable {A : Around} {s : Shared}
/-- a dict declines to be a text -/
theorem dict_no_text (l : Addr) (o : Obj) (hc : o.cls = .type "dict") (b : Str) (u : Tok) :
    Meets (Builtin.«dict.__eq__» ⟨[.ref l, .str b u], []⟩) (fun _ R s => s.heap.get? l = some o ∧ R (.ok (.ret .notImplemented)) s) :=
  .of_wp fun prog w A R s h => by
    obtain ⟨hp, g, d, tk, os⟩ := s
    obtain ⟨hl, h⟩ := h
    have f1 := F.sub_str_dict
    obtain ⟨c, dd, dt, sl⟩ := o
    subst hc
    wp_walk using AutoSeq1.wpAny_loadPart' hl, wpAny_load hl
    exact ⟨_, rfl, h⟩
/-- a text declines to be a dict -/
theorem text_no_dict (l : Addr) (o : Obj) (es : Array DictEntry) (n : Nat) (hc : o.cls = .type "dict") (hd : o.data = .dict es n) (b : Str) (u : Tok) :
    Meets (Builtin.«str.__eq__» ⟨[.str b u, .ref l], []⟩) (fun _ R s => s.heap.get? l = some o ∧ R (.ok (.ret .notImplemented)) s) :=
  .of_wp fun prog w A R s h => by
    obtain ⟨hp, g, d, tk, os⟩ := s
    obtain ⟨hl, h⟩ := h
    obtain ⟨c, dd, dt, sl⟩ := o
    simp only at hc hd
    subst hc hd
    wp_walk using AutoSeq1.wpAny_loadPart' hl, wpAny_load hl
    exact ⟨_, rfl, h⟩
theorem rc_dict_text {l : Addr} {o : Obj} {es : Array DictEntry} {n : Nat} (ho : s.heap.get? l = some o) (hc : o.cls = .type "dict") (hd : o.data = .dict es n) (b : Str) (u : Tok) (hu : A.units < cLine) :
    RcAt A s (.ref l) (.str b u) false := fun prog w E Q h =>
  rc_eq_decline_or (k := false) ⟨_, ho, hc⟩ (typeIs_str s b u) (by decide) F.sub_str_dict F.slot_dict_eq F.slot_str_eq_refl
    (fun _ hq => call_meets F.slot_dict_eq ⟨_, ho, hc⟩ F.entry_dict_eq (F.args_dict_eq_2 _ _) (dict_no_text l o hc b u) ⟨ho, hq⟩)
    (fun _ hq => call_meets F.slot_str_eq_refl (typeIs_str s b u) F.entry_str_eq (F.args_str_eq_2 _ _) (text_no_dict l o es n hc hd b u) ⟨ho, hq⟩)
    (fun _ hq => wpAny_of_eq (rfl : isSame (.ref l) (.str b u) = pure false) hq) (.inr hu) h
theorem eq_dict_text {l : Addr} {o : Obj} {es : Array DictEntry} {n : Nat} (ho : s.heap.get? l = some o) (hc : o.cls = .type "dict") (hd : o.data = .dict es n) (b : Str) (u : Tok) (hu : A.units < cLine) :
    EqAt A s (.ref l) (.str b u) false := fun prog w E Q h => by
  unfold eqBool
  refine wpAny_holding (wpAny_ite_split (fun z => absurd (eq_of_beq z) nofun) fun _ => ?_)
  exact wpAny_bind (rc_dict_text ho hc hd b u hu prog w E _ (wpAny_truthy_bool h))
end
end Ver
/-! Ver, 2: plain data (Da), its text, its equality with texts and tuples of texts -/
namespace Ver
open PySem PySem.Spec PyProof.Rows L2
open PySem.SeqAt (EqAt RcAt)
mutual
/-- x is the plain datum d in the heap H; no address that N names has a part in it -/
inductive Da (N : Addr → Prop) (H : Hp) : V → PyData → Prop
  | non : Da N H .non .none
  | bl (b : Bool) : Da N H (.bl b) (.bool b)
  | int (i : Int) : Da N H (.int i) (.int i)
  | str (x : Str) : Da N H (.str x) (.str x)
  | lst {a : Addr} {xs : List V} {ds : List PyData} : H a = some (.lst xs) → ¬ N a → a ≠ sysModules → Das N H xs ds → Da N H (.ref a) (.list ds)
  | tup {a : Addr} {xs : List V} {ds : List PyData} : H a = some (.tup xs) → ¬ N a → Das N H xs ds → Da N H (.ref a) (.tuple ds)
  | emp {a : Addr} : H a = some (.dK []) → ¬ N a → Da N H (.ref a) (.dict [])
inductive Das (N : Addr → Prop) (H : Hp) : List V → List PyData → Prop
  | nil : Das N H [] []
  | cons {v : V} {vs : List V} {d : PyData} {ds : List PyData} : Da N H v d → Das N H vs ds → Das N H (v :: vs) (d :: ds)
end
/-- all but what N names is as it was -/
def Keep (N : Addr → Prop) (H H' : Hp) : Prop := ∀ b o, H b = some o → ¬ N b → H' b = some o
theorem Keep.refl {N : Addr → Prop} {H : Hp} : Keep N H H := fun _ _ h _ => h
theorem Keep.trans {N : Addr → Prop} {H H1 H2 : Hp} (a : Keep N H H1) (b : Keep N H1 H2) : Keep N H H2 := fun c o h n => b c o (a c o h n) n
theorem Same.keep {N : Addr → Prop} {H H' : Hp} (e : Same H H') : Keep N H H' := fun b o h _ => e b o h
theorem same_new {H : Hp} {p : Addr} {o : HO} (h : H p = none) : Same H (upd H p o) := fun b x e => by
  rw [upd_ne (ne_of_none e h)]
  exact e
mutual
theorem Da.keep {N : Addr → Prop} {H H' : Hp} (k : Keep N H H') : ∀ {v : V} {d : PyData}, Da N H v d → Da N H' v d
  | _, _, .non => .non
  | _, _, .bl b => .bl b
  | _, _, .int i => .int i
  | _, _, .str x => .str x
  | _, _, .lst e n z q => .lst (k _ _ e n) n z (Das.keep k q)
  | _, _, .tup e n q => .tup (k _ _ e n) n (Das.keep k q)
  | _, _, .emp e n => .emp (k _ _ e n) n
theorem Das.keep {N : Addr → Prop} {H H' : Hp} (k : Keep N H H') : ∀ {vs : List V} {ds : List PyData}, Das N H vs ds → Das N H' vs ds
  | _, _, .nil => .nil
  | _, _, .cons h t => .cons (Da.keep k h) (Das.keep k t)
end
theorem Das.length {N : Addr → Prop} {H : Hp} : ∀ {vs : List V} {ds : List PyData}, Das N H vs ds → vs.length = ds.length
  | _, _, .nil => rfl
  | _, _, .cons _ t => congrArg (· + 1) (Das.length t)
theorem Das.get {N : Addr → Prop} {H : Hp} : ∀ {vs : List V} {ds : List PyData} {i : Nat} {d : PyData}, Das N H vs ds → ds[i]? = some d → ∃ v, vs[i]? = some v ∧ Da N H v d
  | _, _, _, _, .nil, e => by simp at e
  | _, _, 0, _, .cons h _, e => by
    simp at e
    subst e
    exact ⟨_, rfl, h⟩
  | _, _, i + 1, _, .cons _ t, e => by
    obtain ⟨v, h1, h2⟩ := Das.get (i := i) t (by simpa using e)
    exact ⟨v, by simpa using h1, h2⟩

/-- an empty dict of ours, as the library reads it; it is not sys.modules -/
theorem reads_emp {P : Program} {w : World} {H : Hp} {s : Shared} {a : Addr} (hok : HOk P w H s.heap) (e : H a = some (.dK [])) :
    ∃ (o : Obj) (es : Array DictEntry) (n : Nat), s.heap.get? a = some o ∧ o.cls = .type "dict" ∧ o.data = .dict es n ∧ es.toList = [] ∧ a ≠ sysModules := by
  obtain ⟨_, ns, vs, rel, o, es, ep, ho, hx, hd, _, hp, _⟩ := hok a _ e
  cases rel
  refine ⟨o, es, ep, ho, hx.1, hd, ?_, fun z => by rw [z] at ns; simp at ns⟩
  generalize es.toList = l at hp
  cases hp
  rfl
section
variable {X : Cx} {pins : List (Addr × Obj)} {σ : L2.St} {H : Hp} {s : Shared} {N : Addr → Prop}
mutual
theorem Da.reads (I : Inv X pins σ H s) : ∀ {v : V} {d : PyData} {u : Value}, Da N H v d → RelV v u → ∃ as, Reads s.heap u d as ∧ sysModules ∉ as
  | _, _, _, .non, r => by
    cases r
    exact ⟨[], .none, by simp⟩
  | _, _, _, .bl b, r => by
    cases r
    exact ⟨[], .bool b, by simp⟩
  | _, _, _, .int i, r => by
    obtain ⟨t, rfl⟩ := r
    exact ⟨[], .int i t, by simp⟩
  | _, _, _, .str x, r => by
    obtain ⟨t, rfl⟩ := r
    exact ⟨[], .str x t, by simp⟩
  | _, _, _, .lst e n z q, r => by
    cases r
    obtain ⟨its, rv, ⟨o, m, ho, hc, _, hd⟩, _⟩ := I.list (SqL.of e)
    obtain ⟨as, h1, h2⟩ := Das.reads I q rv
    exact ⟨_, .list ho hc hd h1, fun hm => (List.mem_cons.mp hm).elim (fun e => z e.symm) h2⟩
  | _, _, _, .tup e n q, r => by
    cases r
    obtain ⟨its, rv, ⟨o, ho, hc, m, hd⟩, _⟩ := I.tuple (SqT.of e)
    obtain ⟨as, h1, h2⟩ := Das.reads I q rv
    exact ⟨_, .tuple ho hc hd h1, h2⟩
  | _, _, _, .emp e n, r => by
    cases r
    obtain ⟨o, es, m, ho, hc, hd, hz, ns⟩ := reads_emp I.hok e
    exact ⟨_, .dict ho hc hd (by rw [hz]; exact .nil) (by rw [hz]; exact .nil), fun hm => by
      rcases List.mem_cons.mp hm with e | e
      · exact ns e.symm
      · simp at e⟩
theorem Das.reads (I : Inv X pins σ H s) : ∀ {vs : List V} {ds : List PyData} {us : List Value}, Das N H vs ds → Vals vs us → ∃ as, ReadsAll s.heap us ds as ∧ sysModules ∉ as
  | _, _, _, .nil, r => by
    cases r
    exact ⟨[], .nil, by simp⟩
  | _, _, _, .cons h t, r => by
    cases r with
    | cons r1 r2 =>
      obtain ⟨as, h1, h2⟩ := Da.reads I h r1
      obtain ⟨bs, h3, h4⟩ := Das.reads I t r2
      exact ⟨_, .cons h1 h3, fun hm => (List.mem_append.mp hm).elim h2 h4⟩
end
/-- what can be shown: its text is at most n signs long, it is at most k deep -/
structure Fit (n k : Nat) (d : PyData) : Prop where
  ok : d.showable = true
  len : d.shown.length ≤ n
  dep : d.depth ≤ k
/-- repr(x), x plain data -/
theorem call_reprD {n k : Nat} (hg : X.A.guards = some []) (hu : X.A.units + (k + 1) < cLine) (hn : n ≤ sizeLine) :
    CallR X (.builtin "repr") (fun xs H Q => ∃ v d, xs = [v] ∧ Da N H v d ∧ Fit n k d ∧ Q (.str d.shown) H) := by
  intro pins s σ H xs us Q I r h
  obtain ⟨v, d, rfl, hv, ⟨f1, f2, f3⟩, q⟩ := h
  obtain ⟨u, rfl, ru⟩ := vals1 r
  obtain ⟨as, hr, hs⟩ := hv.reads I ru
  have hz : d.shown.length ≤ sizeLine := Nat.le_trans f2 hn
  cases hv with
  | non =>
    cases ru
    exact PySem.P.repr_of_none ⟨.str _, H, I.tok _, ⟨_, rfl⟩, q⟩
  | bl b =>
    cases ru
    exact PySem.P.repr_of_bool ⟨.str _, H, I.tok _, ⟨_, rfl⟩, by cases b <;> exact q⟩
  | int i =>
    obtain ⟨t, rfl⟩ := ru
    exact PySem.P.repr_of_int (by simpa [PyData.showable] using f1) ⟨.str _, H, I.tok _, ⟨_, rfl⟩, q⟩
  | str x =>
    obtain ⟨t, rfl⟩ := ru
    exact PySem.P.repr_of_str ⟨.str _, H, I.tok _, ⟨_, rfl⟩, q⟩ hz
  | lst e _ _ _ =>
    cases ru
    exact repr_of_reads' hr f1 (fun _ => hs) hg (by omega) (fun _ _ e => e) (fun h' t tk kk => ⟨.str _, H, I.kept kk, ⟨_, rfl⟩, q⟩) hz
  | tup e _ _ =>
    cases ru
    exact repr_of_reads' hr f1 (fun _ => hs) hg (by omega) (fun _ _ e => e) (fun h' t tk kk => ⟨.str _, H, I.kept kk, ⟨_, rfl⟩, q⟩) hz
  | emp e _ =>
    cases ru
    exact repr_of_reads' hr f1 (fun _ => hs) hg (by omega) (fun _ _ e => e) (fun h' t tk kk => ⟨.str _, H, I.kept kk, ⟨_, rfl⟩, q⟩) hz
end
end Ver
/-! Ver, 3: what fits; equality of data with texts and with tuples of texts; x in [..]; text * int; list(tuple); lists behind sys.modules -/
namespace Ver
open PySem PySem.Spec PyProof.Rows L2
open PySem.SeqAt (EqAt RcAt)
theorem Fit.mono {n n' k k' : Nat} {d : PyData} (f : Fit n k d) (h : n ≤ n') (hk : k ≤ k') : Fit n' k' d := ⟨f.ok, Nat.le_trans f.len h, Nat.le_trans f.dep hk⟩
theorem fits_all {n k : Nat} : ∀ {ds : List PyData}, (∀ d ∈ ds, Fit n k d) → PyData.showableAll ds = true ∧ piled (PyData.shownAll ds) ≤ ds.length * (n + 2) ∧ PyData.depthAll ds ≤ k ∧ (PyData.shownAll ds).length = ds.length
  | [], _ => ⟨rfl, by simp [PyData.shownAll, piled], by simp [PyData.depthAll], rfl⟩
  | d :: ds, h => by
    obtain ⟨h1, h2, h3, h4⟩ := fits_all (ds := ds) fun e he => h e (List.mem_cons_of_mem _ he)
    obtain ⟨f1, f2, f3⟩ := h d List.mem_cons_self
    refine ⟨by simp [PyData.showableAll, f1, h1], ?_, by simp [PyData.depthAll]; omega, by simp [PyData.shownAll, h4]⟩
    show piled (d.shown :: PyData.shownAll ds) ≤ (ds.length + 1) * (n + 2)
    rw [piled_cons, Nat.add_mul]
    omega
theorem join_le (ts : List Str) : (Str.join ", " ts).length ≤ piled ts := by
  by_cases h : ts = []
  · subst h
    exact Nat.zero_le _
  · have := join_length_add ts h
    omega
theorem fit_tup {n k m : Nat} {ds : List PyData} (h : ∀ d ∈ ds, Fit n k d) (hm : ds.length * (n + 2) + 3 ≤ m) : Fit m (k + 1) (.tuple ds) := by
  obtain ⟨h1, h2, h3, h4⟩ := fits_all h
  refine ⟨by simpa [PyData.showable] using h1, ?_, by simp [PyData.depth]; omega⟩
  show (tupleText (PyData.shownAll ds)).length ≤ m
  unfold tupleText
  rw [strLen_append, strLen_append]
  have e1 : (("(" : String) : Str).length = 1 := rfl
  have e2 : ((if (PyData.shownAll ds).length == 1 then ",)" else ")" : String) : Str).length ≤ 2 := by
    split <;> decide
  have := join_le (PyData.shownAll ds)
  omega
theorem textFrom_le : ∀ (ts : List Str) (k : Nat) (acc : Str), (textFrom k acc ts).length ≤ acc.length + piled ts
  | [], k, acc => Nat.le_add_right _ _
  | t :: r, k, acc => by
    have h := textFrom_le r (k + 1) (acc ++ (if k > 0 then ", " else "" : String) ++ t)
    have e : (acc ++ (if k > 0 then ", " else "" : String) ++ t).length ≤ acc.length + 2 + t.length := by
      rw [strLen_append, strLen_append]
      have : ((if k > 0 then ", " else "" : String) : Str).length ≤ 2 := by split <;> decide
      omega
    rw [piled_cons]
    show (textFrom (k + 1) (acc ++ (if k > 0 then ", " else "" : String) ++ t) r).length ≤ _
    omega
theorem fit_lst {n k m : Nat} {ds : List PyData} (h : ∀ d ∈ ds, Fit n k d) (hm : ds.length * (n + 2) + 2 ≤ m) : Fit m (k + 1) (.list ds) := by
  obtain ⟨h1, h2, h3, h4⟩ := fits_all h
  refine ⟨by simpa [PyData.showable] using h1, ?_, by simp [PyData.depth]; omega⟩
  show (textFrom 0 "[" (PyData.shownAll ds) ++ "]" : Str).length ≤ m
  rw [strLen_append]
  have := textFrom_le (PyData.shownAll ds) 0 "["
  have e1 : (("[" : String) : Str).length = 1 := rfl
  have e2 : (("]" : String) : Str).length = 1 := rfl
  omega
theorem fit_none {n k : Nat} (h : 4 ≤ n) : Fit n k .none := ⟨rfl, h, Nat.zero_le _⟩
theorem fit_bool {n k : Nat} (b : Bool) (h : 5 ≤ n) : Fit n k (.bool b) := ⟨rfl, by cases b <;> (refine Nat.le_trans ?_ h; decide), Nat.zero_le _⟩
theorem fit_emp {n k : Nat} (h : 2 ≤ n) (hk : 1 ≤ k) : Fit n k (.dict []) := ⟨rfl, by refine Nat.le_trans ?_ h; decide, by simpa [PyData.depth, PyData.depthKv] using hk⟩
theorem fit_str {n k : Nat} {x : Str} (hx : ∀ c ∈ x.cps.toList, c < 16 ^ 8) (h : 10 * x.length + 2 ≤ n) : Fit n k (.str x) :=
  ⟨rfl, Nat.le_trans (StrLaws.reprText_len x hx) h, Nat.zero_le _⟩
/-! ### equality with texts -/
/-- is the datum this text -/
def eqS : PyData → Str → Bool
  | .str x, y => x == y
  | _, _ => false
/-- are the data these texts, one by one -/
def eqSs : List PyData → List Str → Bool
  | [], [] => true
  | d :: ds, y :: ys => eqS d y && eqSs ds ys
  | _, _ => false
section
variable {X : Cx} {pins : List (Addr × Obj)} {σ : L2.St} {H : Hp} {s : Shared} {N : Addr → Prop}
theorem Da.rcText {A : Around} (I : Inv X pins σ H s) {v : V} {d : PyData} {u : Value} (h : Da N H v d) (r : RelV v u) (y : Str) (t : Tok) (hu : A.units < cLine) : RcAt A s u (.str y t) (eqS d y) := by
  cases h with
  | non =>
    cases r
    exact .none_str y t
  | bl b =>
    cases r
    exact .bool_str b y t
  | int i =>
    obtain ⟨t', rfl⟩ := r
    exact .int_str i t' y t
  | str x =>
    obtain ⟨t', rfl⟩ := r
    exact .str_str x t' y t
  | lst e _ _ _ =>
    cases r
    obtain ⟨its, rv, p, _⟩ := I.list (SqL.of e)
    exact .list_str y t p.isList hu
  | tup e _ _ =>
    cases r
    obtain ⟨its, rv, p, _⟩ := I.tuple (SqT.of e)
    exact .tuple_str y t p hu
  | emp e _ =>
    cases r
    obtain ⟨o, es, n, ho, hc, hd, _, _⟩ := reads_emp I.hok e
    exact rc_dict_text ho hc hd y t hu
theorem Da.eqText {A : Around} (I : Inv X pins σ H s) {v : V} {d : PyData} {u : Value} (h : Da N H v d) (r : RelV v u) (y : Str) (t : Tok) (hu : A.units < cLine) : EqAt A s u (.str y t) (eqS d y) := by
  cases h with
  | non =>
    cases r
    exact .none_str y t
  | bl b =>
    cases r
    exact .bool_str b y t
  | int i =>
    obtain ⟨t', rfl⟩ := r
    exact .int_str i t' y t
  | str x =>
    obtain ⟨t', rfl⟩ := r
    exact .str_str x t' y t
  | lst e _ _ _ =>
    cases r
    obtain ⟨its, rv, p, _⟩ := I.list (SqL.of e)
    exact .list_str y t p.isList hu
  | tup e _ _ =>
    cases r
    obtain ⟨its, rv, p, _⟩ := I.tuple (SqT.of e)
    exact .tuple_str y t p hu
  | emp e _ =>
    cases r
    obtain ⟨o, es, n, ho, hc, hd, _, _⟩ := reads_emp I.hok e
    exact eq_dict_text ho hc hd y t hu
/-- place by place, as the comparison of two tuples asks -/
theorem eqSs_range : ∀ (ds : List PyData) (ys : List Str),
    ((List.range (min ds.length ys.length)).all (fun j => eqS (ds.getD j .none) (ys.getD j Str.empty)) && ds.length == ys.length) = eqSs ds ys
  | [], [] => rfl
  | [], _ :: _ => by simp [eqSs]
  | _ :: _, [] => by simp [eqSs]
  | d :: ds, y :: ys => by
    have ih := eqSs_range ds ys
    show _ = (eqS d y && eqSs ds ys)
    rw [← ih, List.length_cons, List.length_cons, Nat.succ_min_succ, List.range_succ_eq_map, List.all_cons, List.all_map, Bool.and_assoc]
    have e : (ds.length + 1 == ys.length + 1) = (ds.length == ys.length) := by simp
    rw [e]
    rfl
theorem Das.eqTexts {A : Around} (I : Inv X pins σ H s) (hu : A.units < cLine) : ∀ {vs : List V} {ds : List PyData} {us ws : List Value} {ys : List Str}, Das N H vs ds → Vals vs us → Vals (ys.map V.str) ws →
    ∀ (j : Nat) (h1 : j < us.length) (h2 : j < ws.length), EqAt A s us[j] ws[j] (eqS (ds.getD j .none) (ys.getD j Str.empty))
  | _, _, _, _, _, .nil, .nil, _ => fun j h1 _ => absurd h1 (Nat.not_lt_zero _)
  | _, _, _, _, [], .cons _ _, _, r => fun j _ h2 => by
    cases r
    exact absurd h2 (Nat.not_lt_zero _)
  | _, _, _, _, y :: ys, .cons h t, .cons r1 r2, r => fun j h1 h2 => by
    cases r with
    | cons r3 r4 =>
      cases j with
      | zero =>
        obtain ⟨t', rfl⟩ := r3
        exact h.eqText I r1 y t' hu
      | succ j => exact Das.eqTexts I hu t r2 r4 j (by simpa using h1) (by simpa using h2)
theorem Das.rcTexts {A : Around} {a b : Addr} {xs : List V} {ds : List PyData} {ys : List Str} (I : Inv X pins σ H s) (e : SqT X.K H a xs) (q : Das N H xs ds) (f : SqT X.K H b (ys.map V.str)) (hu : A.units + 1 < cLine) :
    RcAt A s (.ref a) (.ref b) (eqSs ds ys) := by
  obtain ⟨its, rv, p, _⟩ := I.tuple e
  obtain ⟨jts, rw', p', _⟩ := I.tuple f
  have l1 : its.length = ds.length := rv.length.symm.trans q.length
  have l2 : jts.length = ys.length := by
    have := rw'.length
    rw [List.length_map] at this
    exact this.symm
  have h := RcAt.tuples (A := A) (s := s) (e := fun j => eqS (ds.getD j .none) (ys.getD j Str.empty)) p p' (by omega) (fun j h1 h2 => by
    have := Das.eqTexts (A := A.in1) I (show A.units + 1 < cLine from hu) q rv rw' j (by simpa using h1) (by simpa using h2)
    simpa using this)
  have e1 : its.toArray.size = ds.length := by simpa using l1
  have e2 : jts.toArray.size = ys.length := by simpa using l2
  rw [e1, e2] at h
  rw [eqSs_range] at h
  exact h
/-- tuples stand apart or are one: then the answer is yes on both sides -/
theorem Das.eqTextsRef {A : Around} {a b : Addr} {xs : List V} {ds : List PyData} {ys : List Str} (I : Inv X pins σ H s) (e : SqT X.K H a xs) (q : Das N H xs ds) (f : SqT X.K H b (ys.map V.str)) (hu : A.units + 1 < cLine) :
    EqAt A s (.ref a) (.ref b) (eqSs ds ys) := by
  by_cases hab : a = b
  · subst hab
    have ex : xs = ys.map V.str := I.tuple_inj e f
    subst ex
    have : eqSs ds ys = true := by
      clear e f hu I
      induction ys generalizing ds with
      | nil =>
        cases q
        rfl
      | cons y ys ih =>
        cases q with
        | cons h t =>
          cases h
          show (y == y && eqSs _ ys) = true
          rw [ih t, beq_self_eq_true]
          rfl
    rw [this]
    exact .same _
  · exact .of_refs hab (Das.rcTexts I e q f hu)
end
section
variable {X : Cx} {N : Addr → Prop}
/-- x == "..", x any datum -/
def rEqS (N : Addr → Prop) : R2 := fun x y H Q => ∃ d z, Da N H x d ∧ y = .str z ∧ Q (.bl (eqS d z)) H
theorem op_eqS (hu : X.A.units < cLine) : OpR X (compareOp .Eq) (rEqS N) := by
  intro pins s σ H x y v u Q I rx ry h
  obtain ⟨d, z, hd, rfl, q⟩ := h
  obtain ⟨t, rfl⟩ := ry
  exact hd.rcText I rx z t hu _ _ _ _ ⟨.bl _, H, I, rfl, q⟩
/-- x == (.., ..), a tuple of data against a tuple of texts -/
def rEqT (K : PySem.W.Frag) (N : Addr → Prop) : R2 := fun x y H Q => ∃ a xs ds b ys, x = .ref a ∧ SqT K H a xs ∧ Das N H xs ds ∧ y = .ref b ∧ SqT K H b (ys.map V.str) ∧ Q (.bl (eqSs ds ys)) H
theorem op_eqT (hu : X.A.units + 1 < cLine) : OpR X (compareOp .Eq) (rEqT X.K N) := by
  intro pins s σ H x y v u Q I rx ry h
  obtain ⟨a, xs, ds, b, ys, rfl, e, q, rfl, f, k⟩ := h
  cases rx
  cases ry
  exact Das.rcTexts I e q f hu _ _ _ _ ⟨.bl _, H, I, rfl, k⟩
end
end Ver
/-! Ver, 4: x in [(..), ..]; text * int; list(tuple); lists behind sys.modules; a def that is called where nothing is being shown; the law's call -/
namespace Ver
open PySem PySem.Spec PyProof.Rows L2
open PySem.SeqAt (EqAt RcAt)
section
variable {A : Around} {s : Shared}
theorem sub_dict_text : isSubtype (.type "dict") (.type "str") = pure false := by
  rw [isSubtype_type]
  kernel_rfl
theorem eq_text_dict {l : Addr} {o : Obj} {es : Array DictEntry} {n : Nat} (ho : s.heap.get? l = some o) (hc : o.cls = .type "dict") (hd : o.data = .dict es n) (b : Str) (u : Tok) (hu : A.units < cLine) :
    EqAt A s (.str b u) (.ref l) false := fun prog w E Q h => by
  unfold eqBool
  refine wpAny_holding (wpAny_ite_split (fun z => absurd (eq_of_beq z) nofun) fun _ => ?_)
  refine wpAny_bind (SeqAt.rc_eq_decline_or (k := false) (typeIs_str s b u) ⟨_, ho, hc⟩ (by decide) sub_dict_text F.slot_str_eq F.slot_dict_eq_refl
    (fun _ hq => call_meets F.slot_str_eq (typeIs_str s b u) F.entry_str_eq (F.args_str_eq_2 _ _) (text_no_dict l o es n hc hd b u) ⟨ho, hq⟩)
    (fun _ hq => call_meets F.slot_dict_eq_refl ⟨_, ho, hc⟩ F.entry_dict_eq (F.args_dict_eq_2 _ _) (dict_no_text l o hc b u) ⟨ho, hq⟩)
    (fun _ hq => wpAny_of_eq (rfl : isSame (.str b u) (.ref l) = pure false) hq) (.inr hu) (wpAny_truthy_bool h))
end
theorem beq_comm_str (x y : Str) : (x == y) = (y == x) := by
  by_cases h : x = y
  · rw [h]
  · rw [beq_eq_false_iff_ne.mpr h, beq_eq_false_iff_ne.mpr (Ne.symm h)]
section
variable {X : Cx} {pins : List (Addr × Obj)} {σ : L2.St} {H : Hp} {s : Shared} {N : Addr → Prop}
theorem Da.textEq {A : Around} (I : Inv X pins σ H s) {v : V} {d : PyData} {u : Value} (h : Da N H v d) (r : RelV v u) (y : Str) (t : Tok) (hu : A.units < cLine) : EqAt A s (.str y t) u (eqS d y) := by
  cases h with
  | non =>
    cases r
    exact .str_none y t
  | bl b =>
    cases r
    exact .str_bool y t b
  | int i =>
    obtain ⟨t', rfl⟩ := r
    exact .str_int y t i t'
  | str x =>
    obtain ⟨t', rfl⟩ := r
    have e : eqS (.str x) y = (y == x) := beq_comm_str x y
    rw [e]
    exact .str_str y t x t'
  | lst e _ _ _ =>
    cases r
    obtain ⟨its, rv, p, _⟩ := I.list (SqL.of e)
    exact .str_list y t p.isList hu
  | tup e _ _ =>
    cases r
    obtain ⟨its, rv, p, _⟩ := I.tuple (SqT.of e)
    exact .str_tuple y t p hu
  | emp e _ =>
    cases r
    obtain ⟨o, es, n, ho, hc, hd, _, _⟩ := reads_emp I.hok e
    exact eq_text_dict ho hc hd y t hu
theorem eqSs_rangeR : ∀ (ds : List PyData) (ys : List Str),
    ((List.range (min ys.length ds.length)).all (fun j => eqS (ds.getD j .none) (ys.getD j Str.empty)) && ys.length == ds.length) = eqSs ds ys := fun ds ys => by
  rw [← eqSs_range, Nat.min_comm]
  congr 1
  by_cases h : ys.length = ds.length
  · rw [h]
  · rw [beq_eq_false_iff_ne.mpr h, beq_eq_false_iff_ne.mpr (Ne.symm h)]
theorem Das.textsEq {A : Around} (I : Inv X pins σ H s) (hu : A.units < cLine) : ∀ {vs : List V} {ds : List PyData} {us ws : List Value} {ys : List Str}, Das N H vs ds → Vals vs us → Vals (ys.map V.str) ws →
    ∀ (j : Nat) (h2 : j < ws.length) (h1 : j < us.length), EqAt A s ws[j] us[j] (eqS (ds.getD j .none) (ys.getD j Str.empty))
  | _, _, _, _, _, .nil, .nil, _ => fun j _ h1 => absurd h1 (Nat.not_lt_zero _)
  | _, _, _, _, [], .cons _ _, _, r => fun j h2 _ => by
    cases r
    exact absurd h2 (Nat.not_lt_zero _)
  | _, _, _, _, y :: ys, .cons h t, .cons r1 r2, r => fun j h2 h1 => by
    cases r with
    | cons r3 r4 =>
      cases j with
      | zero =>
        obtain ⟨t', rfl⟩ := r3
        exact h.textEq I r1 y t' hu
      | succ j => exact Das.textsEq I hu t r2 r4 j (by simpa using h2) (by simpa using h1)
theorem Das.textsEqRef {A : Around} {a b : Addr} {xs : List V} {ds : List PyData} {ys : List Str} (I : Inv X pins σ H s) (e : SqT X.K H a xs) (q : Das N H xs ds) (f : SqT X.K H b (ys.map V.str)) (hu : A.units + 1 < cLine) :
    EqAt A s (.ref b) (.ref a) (eqSs ds ys) := by
  by_cases hab : a = b
  · subst hab
    have h1 := Das.eqTextsRef (A := A) I e q f hu
    exact h1
  · obtain ⟨its, rv, p, _⟩ := I.tuple e
    obtain ⟨jts, rw', p', _⟩ := I.tuple f
    have l1 : its.length = ds.length := rv.length.symm.trans q.length
    have l2 : jts.length = ys.length := by
      have := rw'.length
      rw [List.length_map] at this
      exact this.symm
    have h := RcAt.tuples (A := A) (s := s) (e := fun j => eqS (ds.getD j .none) (ys.getD j Str.empty)) p' p (by omega) (fun j h1 h2 => by
      have := Das.textsEq (A := A.in1) I (show A.units + 1 < cLine from hu) q rv rw' j (by simpa using h1) (by simpa using h2)
      simpa using this)
    have e1 : its.toArray.size = ds.length := by simpa using l1
    have e2 : jts.toArray.size = ys.length := by simpa using l2
    rw [e1, e2, eqSs_rangeR] at h
    exact .of_refs (Ne.symm hab) h
end
section
variable {X : Cx} {N : Addr → Prop}
/-- x in [(..), (..), (..)]: is it one of these -/
def rInT (K : PySem.W.Frag) (N : Addr → Prop) : R2 := fun x y H Q => ∃ a xs ds l b1 b2 b3 y1 y2 y3, x = .ref a ∧ SqT K H a xs ∧ Das N H xs ds ∧ y = .ref l ∧ SqL K H l [.ref b1, .ref b2, .ref b3] ∧
  (SqT K H b1 (y1.map V.str) ∧ SqT K H b2 (y2.map V.str) ∧ SqT K H b3 (y3.map V.str)) ∧ (b1 ≠ b2 ∧ b1 ≠ b3 ∧ b2 ≠ b3) ∧ Q (.bl (eqSs ds y1 || eqSs ds y2 || eqSs ds y3)) H
theorem op_inT (hu : X.A.units + 2 < cLine) : OpR X (compareOp .In) (rInT X.K N) := by
  intro pins s σ H x y v u Q I rx ry h
  obtain ⟨a, xs, ds, l, b1, b2, b3, y1, y2, y3, rfl, e, q, rfl, hl, ⟨f1, f2, f3⟩, ⟨n1, n2, n3⟩, k⟩ := h
  cases rx
  cases ry
  obtain ⟨its, rv, p, _⟩ := I.list hl
  obtain rfl : its = [.ref b1, .ref b2, .ref b3] := by
    cases rv with
    | cons r1 rv =>
      cases rv with
      | cons r2 rv =>
        cases rv with
        | cons r3 rv =>
          cases rv
          cases r1
          cases r2
          cases r3
          rfl
  refine SeqAt.in_listAt (fun u => if u = .ref b1 then eqSs ds y1 else if u = .ref b2 then eqSs ds y2 else eqSs ds y3) p.isList (fun w hw => ?_) ⟨.bl _, H, I, rfl, ?_⟩
  · have hw' : w = .ref b1 ∨ w = .ref b2 ∨ w = .ref b3 := by simpa using hw
    have hu' : X.A.in1.units + 1 < cLine := hu
    rcases hw' with rfl | rfl | rfl
    · rw [if_pos rfl]
      exact Das.textsEqRef I e q f1 hu'
    · rw [if_neg (fun z => n1 (by injection z with z; exact z.symm)), if_pos rfl]
      exact Das.textsEqRef I e q f2 hu'
    · rw [if_neg (fun z => n2 (by injection z with z; exact z.symm)), if_neg (fun z => n3 (by injection z with z; exact z.symm))]
      exact Das.textsEqRef I e q f3 hu'
  · have h2 : (Value.ref b2 = Value.ref b1) = False := eq_false fun z => n1 (by injection z with z; exact z.symm)
    have h3 : (Value.ref b3 = Value.ref b1) = False := eq_false fun z => n2 (by injection z with z; exact z.symm)
    have h4 : (Value.ref b3 = Value.ref b2) = False := eq_false fun z => n3 (by injection z with z; exact z.symm)
    simp only [List.any_toArray, List.any_cons, List.any_nil, if_true, h2, h3, h4, if_false, Bool.or_false]
    simpa [Bool.or_assoc] using k
/-- text * n, n a small number -/
theorem op_times : OpR X (binaryOp .Mult) (fun x y H Q => ∃ z n, x = .str z ∧ y = .int n ∧ MulOk z n ∧ Q (.str (Txt.mul z n)) H) := by
  intro pins s σ H x y v u Q I rx ry h
  obtain ⟨z, n, rfl, rfl, hm, q⟩ := h
  obtain ⟨t, rfl⟩ := rx
  obtain ⟨t', rfl⟩ := ry
  exact PySem.SB.mul hm fun t2 k => ⟨.str _, H, I.tok _, ⟨_, rfl⟩, q⟩
/-- a new list, which is not sys.modules -/
def tLstB (t : TA) : TE := fun σ H Q => t σ H fun xs H1 => xs.length ≤ sizeLine ∧ ∀ p, H1 p = none → p ≠ sysModules → Q (.ref p) (upd H1 p (.lst xs))
theorem pe_lstB {es : List Expr} {t : TA} {pos : Pos} (h : PA X es t) : PE X (.List es pos) (tLstB t) := by
  refine ⟨fun pins s σ H Q I hq => wpAny_List_spliced (thn (h.run pos pins s σ H _ I hq) ?_)⟩
  rintro us s1 ⟨xs, H1, I1, r, z, q⟩
  have new : H1 s1.heap.objs.size = none := I1.hok.fresh (Nat.le_refl _)
  have big : s1.heap.objs.size ≠ sysModules := Nat.ne_of_gt I1.big
  refine ⟨by rw [← r.length]; exact z, .ref s1.heap.objs.size, upd H1 s1.heap.objs.size (.lst xs), ?_, rfl, q _ new big⟩
  refine I1.laid (t' := s1.toks) (fun b u e => Heap.get?_push_of_some _ e) (Nat.le_refl _) ?_
  exact ⟨z, us, 0, r, Heap.get?_push_size _ rfl⟩
/-- list(t), t a tuple; the new list is not sys.modules -/
theorem call_list_tupB : CallR X (.type "list") (fun xs H Q => ∃ p ys, xs = [.ref p] ∧ SqT X.K H p ys ∧ ∀ l, H l = none → l ≠ sysModules → Q (.ref l) (upd H l (.lst ys))) := by
  rintro pins s σ H xs us Q I r ⟨p, ys, rfl, hq, q⟩
  obtain ⟨u, rfl, rx⟩ := vals1 r
  cases rx
  obtain ⟨its, rv, ⟨o, ho, hc, n, hd⟩, hz⟩ := I.tuple hq
  have hl := rv.length
  refine call_list_seq p (.inr rfl) ho hc hd (fun h' c' kp e => ?_) (by rw [List.size_toArray]; omega)
  have new : H s.heap.objs.size = none := I.hok.fresh (Nat.le_refl _)
  exact ⟨.ref _, _, I.laid (t' := s.toks) (o := .lst ys) kp (Nat.le_refl _) ⟨hz, its, c', rv, e⟩, rfl, q _ new (Nat.ne_of_gt I.big)⟩
end
end Ver
/-! Ver, 5: defs that are called where nothing is being shown (repr asks that), up to the law's own call -/
namespace Ver
open PySem PySem.Spec PyProof.Rows L2
/-- a promise kept wherever nothing is being shown -/
structure FnQ (P : Program) (w : World) (K : PySem.W.Frag) (mg : Str → Option Value) (base : Heap) (CX : CXT) (k : Nat) (f : Addr) (fd : FuncData) (ps : List Str) (sp : Sp) : Prop where
  len : ∀ vs H Q E, sp vs H Q E → vs.length = ps.length
  run : ∀ (A : Around) (outer : List Env) (s : Shared) (H : Hp) (args : Args) (us : List Value) (vs : List V) (Q : VK) (E : XK),
    A.guards = some [] → Room k A → Env0 P w K mg base A outer s H → BindsTo s fd args (ps.zip us) → Vals vs us → sp vs H Q E →
      codeAny (model P w) A (.call (.ref f) args) (CR CX outer P w H s Q E) s
section
variable {CX : CXT} {P : Program} {w : World} {K : PySem.W.Frag} {mg : Str → Option Value} {base : Heap}
/-- such a def by its body: there, too, nothing is being shown -/
theorem fnQ_of {k : Nat} {f : Addr} {x qual : Str} {st : Stmt} {fd : FuncData} {N ps : List Str} {sp : Sp} (F : Fun K x qual st f fd) (S : FnScope N ps (defScope st))
    (len : ∀ vs H Q E, sp vs H Q E → vs.length = ps.length)
    (body : ∀ (cdv : Value) (A : Around) (outer : List Env) (s : Shared) (H : Hp) (vs : List V) (Q : VK) (E : XK), A.guards = some [] →
      Room k (A.deeper (envOfC qual (defScope st) s.heap.objs.size f cdv)) → sp vs H Q E →
        ∃ t, PSs (cxOf CX P w K mg base N qual (defScope st) f cdv A outer s H E) (defBody st) t ∧ t { nx := fun _ H' => Q .non H', rt := Q } (start N vs) H) :
    FnQ P w K mg base CX (k + 1) f fd ps sp := by
  obtain ⟨oc, od, kV, doc, pm, an, cdv, ct, osl, rfl, lk, hcd⟩ := F.ex
  refine ⟨len, ?_⟩
  intro A outer s H args us vs Q E hg hr e0 hb r hsp
  have old : ∀ b o, base.get? b = some o → s.heap.get? b = some o := fun b o e => (e0.bs b o e).1
  have written : K.In s.heap := e0.mod.kin.keeps old
  refine codeAny_call_function hr.depth (written _ _ lk) rfl S.co S.gen rfl (PySem.W.codeRec_of written hcd) (hb _ _ _ _ ?_)
  refine wpAny_newFunctionEnv_cells S.kind (fun y hy => ?_) (fun env he s1 x => ?_)
  · have hp := S.par y.1 (List.of_mem_zip (a := y.1) (b := y.2) hy).1
    exact hp.imp id fun q => ⟨q, PySem.W.cellsFrom_some _ _ _ (.inl q)⟩
  subst he
  refine ⟨(e0.mod.nolimit.keeps old).keeps x.toInCall.keep, codeAny_func ?_⟩
  obtain ⟨t, ht, hq⟩ := body cdv A outer s H vs Q E hg (hr.deeper _) hsp
  have I := inv_start (CX := CX) (E := E) S hr.hd e0 (len _ _ _ _ hsp) r x
  refine wpAny_mono (ht.run [] s1 (start N vs) H _ I hq) ?_ fun _ _ z => z
  intro fl s' h
  cases fl with
  | brk => exact h.elim fun _ ⟨_, _, z⟩ => z.elim
  | cont => exact h.elim fun _ ⟨_, _, z⟩ => z.elim
  | next =>
    obtain ⟨_, H', J, q⟩ := h
    exact ⟨.non, H', J.os, J.bare, J.base, J.hok, rfl, q⟩
  | ret u =>
    obtain ⟨v, _, H', J, rv, q⟩ := h
    exact ⟨v, H', J.os, J.bare, J.base, J.hok, rv, q⟩
/-- .. from which no exception leaves -/
theorem fnQ_ok {k : Nat} {f : Addr} {x qual : Str} {st : Stmt} {fd : FuncData} {N ps : List Str} {sp : Sp} (F : Fun K x qual st f fd) (S : FnScope N ps (defScope st))
    (len : ∀ vs H Q E, sp vs H Q E → vs.length = ps.length)
    (body : ∀ (cdv : Value) (A : Around) (outer : List Env) (s : Shared) (H : Hp) (vs : List V) (Q : VK) (E : XK), A.guards = some [] →
      Room k (A.deeper (envOfC qual (defScope st) s.heap.objs.size f cdv)) → sp vs H Q E →
        ∃ t, PSs (cxOf CX0 P w K mg base N qual (defScope st) f cdv A outer s H E).nox (defBody st) t ∧ t { nx := fun _ H' => Q .non H', rt := Q } (start N vs) H) :
    FnQ P w K mg base CX0 (k + 1) f fd ps sp := fnQ_of F S len fun cdv A outer s H vs Q E hg hr hsp =>
  let ⟨t, h, q⟩ := body cdv A outer s H vs Q E hg hr hsp
  ⟨t, h.nox, q⟩
end
/-! ### a call of such a def -/
section
variable {X : Cx} {CX : CXT} {k : Nat} {f : Addr} {fd : FuncData} {ps : List Str} {sp : Sp} {dvs : List V} {ds : List Value} {E : XK} {x : Str} {p pos : Pos} {e : Expr} {es : List Expr} {t : TA}
theorem pe_callQ (hg0 : X.A.guards = some []) (F : FnQ X.prog X.w X.K X.mg X.base CX k f fd ps sp) (hr : Room k X.A) (hg : Gl X x) (hm : X.mg x = some (.ref f)) (hk : PySem.W.keepIn X.K (.ref f) = true)
    (hb : Binds X.K fd ps ds) (hd : Vals dvs ds) (hx : Passes CX X E) (ha : PA X (e :: es) t) (hdb : (x == ("__debug__" : Str)) = false := by decide)
    (he : starEach (e :: es) X.env = (false, eval e X.env) :: starEach es X.env := by rfl) (hpl : (backTo pos (starEach es X.env)).any (·.1) = false := by rfl) :
    PE X (.Call (.Name x p) (e :: es) [] pos) (tCall sp dvs E t) := by
  refine ⟨fun pins s σ H Q I h => wpAny_Call_Name_kw (ld_glob I hg hm ?_ hdb)⟩
  refine PySem.W.callWith_K (h₀ := X.base) I.ok.mod.kin hk (thn (ha.run pos pins s σ H _ I h) ?_) he hpl
  rintro us s1 ⟨vs, H1, I1, r, q⟩
  refine ⟨I1.kIn, wpAny_call ?_⟩
  have all : Vals (vs ++ dvs) (us ++ ds) := r.append hd
  have many : (us ++ ds).length = ps.length := all.length.symm.trans (F.len _ _ _ _ q)
  refine codeAny_mono (F.run X.A X.stack s1 H1 ⟨us, []⟩ _ _ Q E hg0 hr I1.env0 (hb s1 us I1.kIn many) all q) ?_
  intro res s2 hq
  match res, hq with
  | .ok (.ret u), hq => exact I1.after hq
  | .error er, hq => exact hx pins σ H1 s1 er s2 I1 hq
  | .ok .next, hq => exact hq.elim
  | .ok .brk, hq => exact hq.elim
  | .ok .cont, hq => exact hq.elim
end
/-! ### the law's call -/
section
variable {P : Program} {w : World} {K : PySem.W.Frag} {mg mb : Str → Option Value} {k : Nat} {fa a : Addr} {fd : FuncData} {x : Str} {sp : Sp} {s₁ : Shared} {vs : List Value} {ns : List Int}
abbrev Good (s₁ : Shared) (r : Result) (s' : Shared) : Prop := r = .ok (.ret (.bool true)) ∧ OldK s₁.heap s'.heap ∧ s'.os = s₁.os ∧ AllBare s'.gens
/-- from an abstract heap in which at most the script is known -/
theorem call_at {H : Hp} (KX : K.In s₁.heap) (hns : s₁.heap.Ns mainGlobals mg) (hb : s₁.heap.Ns builtinsNs mb) (hbb : ∀ x : Str, x ≠ "__name__" → mb x = bootBuiltins x) (hlim : s₁.heap.NoLimit) (hg : s₁.gens = #[])
    (ha : s₁.heap.get? a = some { cls := .type "list", data := .seq vs.toArray }) (hr : Room k callerA)
    (F : ∀ base : Heap, K.In base → base.Ns mainGlobals mg → FnQ P w K mg base CX0 k fa fd [x] sp) (hbind : ∀ (s : Shared) (u : Value), BindsTo s fd ⟨[u], []⟩ [(x, u)])
    (hO : Only H) (hA : ∀ b, H b ≠ none → b = a) (hK : H a ≠ none → K.lookup a = none) (hok : HOk P w H s₁.heap) (hsp : sp [.ref a] H (fun v _ => v = .bl true) fun _ _ _ => False) :
    codeAny (model P w) callerA (.call (.ref fa) ⟨[.ref a], []⟩) (Good s₁) s₁ := by
  have un : ∀ b, b ≠ a → H b = none := fun b hb => Classical.byContradiction fun z => hb (hA b z)
  have dictUn : ∀ {b : Addr} {o : Obj} {es : Array DictEntry} {ep : Nat}, s₁.heap.get? b = some o → o.data = .dict es ep → H b = none := by
    intro b o es ep e d
    refine un b fun z => ?_
    rw [z, ha] at e
    cases e
    cases d
  have ns : ∀ {b : Addr} {m : Str → Option Value}, s₁.heap.Ns b m → (hidT s₁.heap H).Ns b m := by
    rintro b m ⟨o, es, ep, e, d, r⟩
    exact ⟨o, es, ep, hidT_get e (dictUn e d), d, r⟩
  have hKb : K.In (hidT s₁.heap H) := by
    intro b o e
    refine hidT_get (KX b o e) ?_
    by_cases hb : b = a
    · exact Classical.byContradiction fun z => by
        have q := hK (by rw [← hb]; exact z)
        rw [← hb, e] at q
        cases q
    · exact un b hb
  have hM : Mod K mg (hidT s₁.heap H) := ⟨hKb, ns hns, ⟨mb, ns hb, hbb⟩, hlim.imp fun mc h => ⟨ns h.1, h.2⟩⟩
  have e0 : Env0 P w K mg (hidT s₁.heap H) callerA [] s₁ H :=
    ⟨rfl, hM, fun b o e => of_hidT e, Nat.le_of_eq (hidT_size _ _), trivial, fun b hb => absurd (show b ∈ ([] : List Addr) from hb) List.not_mem_nil, hok, .of_eq hg⟩
  refine codeAny_mono ((F _ hKb (ns hns)).run callerA [] s₁ H ⟨[.ref a], []⟩ [.ref a] [.ref a] _ _ rfl hr e0 (hbind s₁ (.ref a)) (.cons rfl .nil) hsp) ?_
  intro r s' h
  match r, h with
  | .error e, h => exact h.elim
  | .ok .next, h => exact h.elim
  | .ok .brk, h => exact h.elim
  | .ok .cont, h => exact h.elim
  | .ok (.ret u), ⟨v, H', os, bare, u1, hok', rv, q⟩ =>
    obtain rfl : v = .bl true := q
    obtain rfl : u = .bool true := rv
    refine ⟨rfl, OldK.of_keep fun b o e => ?_, os, bare⟩
    rcases hO b with z | ⟨ob, xs, z⟩
    · exact u1.keep b o e z (show b ∉ ([] : List Addr) from List.not_mem_nil) List.not_mem_nil
    · have e1 := (hok b _ z).1
      have e2 := (hok' b _ (u1.frzs b ob _ z)).1
      exact e2.trans (e1.symm.trans e)
theorem call_law (KX : K.In s₁.heap) (hns : s₁.heap.Ns mainGlobals mg) (hb : s₁.heap.Ns builtinsNs mb) (hbb : ∀ x : Str, x ≠ "__name__" → mb x = bootBuiltins x) (hlim : s₁.heap.NoLimit) (hg : s₁.gens = #[])
    (ha : s₁.heap.get? a = some { cls := .type "list", data := .seq vs.toArray }) (hi : IntsAre vs ns) (hl : ns.length ≤ sizeLine) (hr : Room k callerA)
    (F : ∀ base : Heap, K.In base → base.Ns mainGlobals mg → FnQ P w K mg base CX0 k fa fd [x] sp) (hbind : ∀ (s : Shared) (u : Value), BindsTo s fd ⟨[u], []⟩ [(x, u)])
    (hsp : ∀ H : Hp, Only H → SqL K H a (ns.map V.int) → sp [.ref a] H (fun v _ => v = .bl true) fun _ _ _ => False) :
    codeAny (model P w) callerA (.call (.ref fa) ⟨[.ref a], []⟩) (Good s₁) s₁ := by
  have rv := vals_ints hi
  cases hk : K.lookup a with
  | some o =>
    have e : o = { cls := .type "list", data := .seq vs.toArray } := Option.some.inj ((KX a o hk).symm.trans ha)
    subst e
    have O : Only fun _ => none := fun _ => .inl rfl
    refine call_at (H := fun _ => none) KX hns hb hbb hlim hg ha hr F hbind O (fun b z => absurd rfl z) (fun z => absurd rfl z) (fun b u z => nomatch z) (hsp _ O (.inr ?_))
    exact ⟨_, vs.toArray, _, hk, rfl, rfl, rfl, by rw [List.size_toArray, hi.length]; exact hl, rv⟩
  | none =>
    let H : Hp := fun b => if b = a then some (.frz { cls := .type "list", data := .seq vs.toArray } (.lst (ns.map V.int))) else none
    have at_a : H a = some (.frz { cls := .type "list", data := .seq vs.toArray } (.lst (ns.map V.int))) := if_pos rfl
    have off : ∀ b, b ≠ a → H b = none := fun b hb => if_neg hb
    have O : Only H := fun b => by
      by_cases hb : b = a
      · exact .inr ⟨_, _, by rw [hb]; exact at_a⟩
      · exact .inl (off b hb)
    refine call_at (H := H) KX hns hb hbb hlim hg ha hr F hbind O (fun b z => Classical.byContradiction fun q => z (off b q)) (fun _ => hk) (fun b u z => ?_) (hsp H O (.inl (.inr ⟨_, at_a⟩)))
    by_cases hb : b = a
    · subst hb
      rw [at_a] at z
      cases z
      exact ⟨ha, by rw [List.length_map]; exact hl, vs, _, rv, ha⟩
    · rw [off b hb] at z
      cases z
end
/-- what the head leaves, from the law's promise -/
theorem walkQ {l : PySem.W.OpenLaw} {n k : Nat} {q : Program} {loose : List Str} {XP : (Str → Option Value) → Heap → Prop} {YP : World → Heap → Prop} {d : DefRec} {K : Params → PySem.W.Frag} {sp : PySem.W.Frag → Sp} {x : Str}
    (hn : l.most = some n) (hn2 : n ≤ sizeLine) (hdf : d.params.defaults = []) (hr : Room k callerA) (hY : ∀ (w : World) (h : Heap), YP w h → (K w.params).In h)
    (F : ∀ (w : World) (mg : Str → Option Value) (fa : Addr) (h : Heap), (K w.params).In h → h.Ns mainGlobals mg → mg d.name = some (.ref fa) →
      ∃ fd : FuncData, (∀ (s : Shared) (u : Value), BindsTo s fd ⟨[u], []⟩ [(x, u)]) ∧
        ∀ base : Heap, (K w.params).In base → base.Ns mainGlobals mg → FnQ l.prog w (K w.params) mg base CX0 k fa fd [x] (sp (K w.params)))
    (hsp : ∀ (K : PySem.W.Frag) (H : Hp) (a : Addr) (ns : List Int), ns.length ≤ n → Only H → SqL K H a (ns.map V.int) → sp K [.ref a] H (fun v _ => v = .bl true) fun _ _ _ => False) :
    PySem.W.WalkO q loose XP YP l.row.toRowW d [] (fun f vs => PySem.call f vs) := by
  refine Att.attach_call hn hdf ?_
  intro w s₀ s₁ mg mb fa o pm cd doc a vs ns G Y ho hd hcd hmg hobj hints hlen hg
  obtain ⟨fd, hb, hF⟩ := F w mg fa _ (hY w _ Y) G.T.g hmg
  exact call_law (hY w _ Y) G.T.g G.T.b G.T.builtins G.T.nolimit hg hobj hints (Nat.le_trans hlen hn2) hr hF hb fun H hO hS => hsp _ H a ns hlen hO hS
end Ver
namespace Ver
open PySem PySem.Spec PyProof.Rows L2
/-! ### types -/
def tyName : PyData → String
  | .none => "NoneType"
  | .bool _ => "bool"
  | .int _ => "int"
  | .str _ => "str"
  | .list _ => "list"
  | .tuple _ => "tuple"
  | .dict _ => "dict"
theorem Da.ty {K : PySem.W.Frag} {N : Addr → Prop} {H : Hp} : ∀ {v : V} {d : PyData}, Da N H v d → TyX K H v (.type (tyName d))
  | _, _, .non => .base .non
  | _, _, .bl b => .base (.bl b)
  | _, _, .int i => .base (.int i)
  | _, _, .str x => .base (.str x)
  | _, _, .lst e _ _ _ => .base (.lst e)
  | _, _, .tup e _ _ => .base (.tup e)
  | _, _, .emp e _ => .base (.dK e)
def isStr : PyData → Bool
  | .str _ => true
  | _ => false
def isTup : PyData → Bool
  | .tuple _ => true
  | _ => false
def isInt : PyData → Bool
  | .int _ => true
  | .bool _ => true
  | _ => false
def isBool : PyData → Bool
  | .bool _ => true
  | _ => false
section
variable {K : PySem.W.Frag}
theorem kit_str (d : PyData) : PySem.W.kitOne K (.type (tyName d)) (.type "str") = some (isStr d) := by
  cases d <;> (dsimp only [tyName, isStr]; exact kit_ty (by decide +kernel))
theorem kit_tuple (d : PyData) : PySem.W.kitOne K (.type (tyName d)) (.type "tuple") = some (isTup d) := by
  cases d <;> (dsimp only [tyName, isTup]; exact kit_ty (by decide +kernel))
theorem kit_int (d : PyData) : PySem.W.kitOne K (.type (tyName d)) (.type "int") = some (isInt d) := by
  cases d <;> (dsimp only [tyName, isInt]; exact kit_ty (by decide +kernel))
theorem kit_bool (d : PyData) : PySem.W.kitOne K (.type (tyName d)) (.type "bool") = some (isBool d) := by
  cases d <;> (dsimp only [tyName, isBool]; exact kit_ty (by decide +kernel))
end
section
variable {X : Cx}
/-- the same rules, where it is told last which addresses are left out -/
def rEqE : R2 := fun x y H Q => ∃ N, rEqS N x y H Q
theorem op_eqE (hu : X.A.units < cLine) : OpR X (compareOp .Eq) rEqE := fun pins s σ H x y v u Q I rx ry ⟨N, h⟩ => op_eqS (N := N) hu pins s σ H x y v u Q I rx ry h
theorem call_reprE {n k : Nat} (hg : X.A.guards = some []) (hu : X.A.units + (k + 1) < cLine) (hn : n ≤ sizeLine) :
    CallR X (.builtin "repr") (fun xs H Q => ∃ N v d, xs = [v] ∧ Da N H v d ∧ Fit n k d ∧ Q (.str d.shown) H) :=
  fun pins s σ H xs us Q I r ⟨N, h⟩ => call_reprD (N := N) hg hu hn pins s σ H xs us Q I r h
end
end Ver
/-! Ver, 7: own exceptions over ValueError or LookupError whose __init__ says Base.__init__(self, text): made, asked, read -/
namespace Ver
open PySem PySem.Spec PyProof.Rows L2
open PySem.W (excInitIn excOver findIn hasDictIn keepIn subIn typeIn)
/-- what the built-in base gives -/
structure ExB (bmB : List Value) (newId initId : String) : Prop where
  ex : ∃ B, ExcBaseFacts B newId initId bmB ∧ StoreFacts B bmB "object.__setattr__" "object"
theorem exB_VE : ExB [.type "ValueError", .type "Exception", .type "BaseException", .type "object"] "ValueError.__new__" "ValueError.__init__" := ⟨_, F.excBase_ValueError, F.store_ValueError⟩
theorem exB_LE : ExB [.type "LookupError", .type "Exception", .type "BaseException", .type "object"] "LookupError.__new__" "LookupError.__init__" := ⟨_, F.excBase_LookupError, F.store_LookupError⟩
/-- what the top says of such a class -/
structure ExC (K : PySem.W.Frag) (C : Addr) (bmB : List Value) (newId : String) : Prop where
  ini : excInitIn K C bmB newId = true
  ovr : excOver K C bmB = true
  dic : hasDictIn K C = true
  sa : findIn K (.ref C) "__setattr__" = some (some (.builtin "object.__setattr__"))
  kC : keepIn K (.ref C) = true
  ga : findIn K (.ref C) "__getattribute__" = some (some (.builtin "BaseException.__getattribute__"))
  gg : findIn K (.ref C) "__getattr__" = some none
  exC : subIn K (.ref C) (.type "BaseException") = some true
  tyC : typeIn K (.ref C) = some (.type "type")
  ha : findIn K (.ref C) "__class__" = some (some (.builtin "object.__class__"))
  hm : PySem.W.mroIn K C (.type "object") = some true
section
variable {prog : Program} {w : World} {A : Around} {E : Value → Shared → Prop} {R : Result → Shared → Prop} {hp : Heap} {g : Array GenState} {d : Drawn} {t : Nat} {os : OsState}
theorem cls_dict {K : PySem.W.Frag} {C : Addr} (h : hasDictIn K C = true) : ∃ cd, PySem.W.clsIn K C = some cd ∧ cd.hasDict = true := by
  obtain ⟨cd, h1, h2⟩ := PySem.W.any_some h
  exact ⟨cd, h1, h2⟩
/-- x.name = v on an exception without a dict as yet -/
theorem store_first {K : PySem.W.Frag} {bmB : List Value} {newId initId : String} {name : Str} {tk : Tok} {v : Value} {x C : Addr} {fv : Array Value} (B : ExB bmB newId initId) (T : ExC K C bmB newId) (X : K.In hp) (hx : hp.get? x = some { cls := .ref C, data := .fields fv })
    (ha : findIn K (.ref C) name = some none)
    (hq : ∀ h' tk' dx, (∀ b o, b ≠ x → hp.get? b = some o → h'.get? b = some o) → hp.objs.size ≤ dx → dx ≠ x → h'.get? x = some { cls := .ref C, dict := some dx, data := .fields fv } →
      h'.Ns1 dx (fun y => if y = name then some v else none) → R (.ok (.ret .none)) ⟨h', g, d, tk', os⟩) :
    codeAny (model prog w) A (.call (.builtin "object.__setattr__") ⟨[.ref x, .str name tk, v], []⟩) R ⟨hp, g, d, t, os⟩ := by
  obtain ⟨_, _, SF⟩ := B.ex
  obtain ⟨cd, hcd, hh⟩ := cls_dict T.dic
  have I : PySem.W.InstAt hp x { cls := .ref C, data := .fields fv } C none := ⟨hx, rfl, rfl, trivial⟩
  have apart : x ≠ hp.objs.size := Nat.ne_of_lt (Heap.lt_size hx)
  have look : PySem.W.Looks (model prog w) hp (classData C) cd := PySem.W.looks_clsIn X hcd
  refine PySem.W.osa_openX SF X I T.ovr (NoAttr.taker (show NoAttr K C name from ha)) fun b => ?_
  obtain ⟨nm, bs, mro, ns, qn, hd, sn, sb, ab, col, del⟩ := cd
  dsimp only at hh
  subst hh
  unfold Builtin.ObjectAttr.storeInOwnDict Builtin.ObjectAttr.ownDictForStores
  repeat (first | with_reducible refine PySem.HandSPX.store_in_new ?_ ?_ | with_reducible refine wpAny_loadPart_at hx ?_ | with_reducible refine look.at ?_ | wp_step)
  · exact ⟨_, #[], _, (Heap.get?_update_ne _ _ _ _ apart.symm).trans (Heap.get?_push_at rfl rfl), rfl, fun e he => absurd he (by simp), fun _ => rfl⟩
  · intro h' tk' hn' hs
    have hx₁ : (hp.push { cls := .type "dict", data := .dict #[] }).get? x = some { cls := .ref C, data := .fields fv } := Heap.get?_push_of_some _ hx
    refine hq h' tk' hp.objs.size (fun b o hb ho => ?_) (Nat.le_refl _) apart.symm ((hs.2 x apart).trans (Heap.get?_update_self _ hx₁ rfl)) hn'
    exact (hs.2 b (Nat.ne_of_lt (Heap.lt_size ho))).trans ((Heap.get?_update_ne _ _ _ _ hb).trans (Heap.get?_push_of_some _ ho))
end
section
variable {X : Cx} {pins : List (Addr × Obj)} {σ : L2.St} {H : Hp} {s : Shared} {a C dx : Addr} {f : Str} {y : V} {u : Value} {A : Around} {bmB : List Value} {newId initId : String}
/-- the tree of an exception's class, of its own -/
theorem exC_obj (T : ExC X.K C bmB newId) (I : Inv X pins σ H s) : ∃ nm N qn bs bm hdct sn sub ab col dd k0 k1 k2 k3 k5,
    s.heap.get? C = some (excClassObj nm qn C N bs bm hdct sn sub ab col dd k0 k1 k2 k3 k5 newId) ∧ ∀ Y : String, bm.contains (.type Y) = bmB.contains (.type Y) := PySem.W.excInit_of I.kIn T.ini
/-- self.f = y, the only one -/
theorem set_first {E : Value → Shared → Prop} {Q : Unit → Shared → Prop} (B : ExB bmB newId initId) (T : ExC X.K C bmB newId) (I : Inv X pins σ H s) (e : H a = some (exo a C none)) (hno : findIn X.K (.ref C) f = some none) (ry : RelV y u)
    (h : ∀ dx s', H dx = none → dx ≠ a → Inv X pins σ (upd (upd H dx (exd dx [(f, y)])) a (exo a C (some dx))) s' → Q () s') : wpAny (model X.prog X.w) A (setAttr (.ref a) f u) Q E s := by
  obtain ⟨t1, ho⟩ := exo_at I.hok e
  obtain ⟨hp, g, d, t, os⟩ := s
  refine PySem.W.set_plain I.kIn (ox := { cls := .ref C, dict := none, data := .fields #[.ref t1, .none, .none, .none, .bool false, .none] }) (od := none) ⟨ho, rfl, rfl, trivial⟩ T.sa ?_
  refine store_first B T I.kIn ho hno ?_
  intro h' tk' dx keep new apart hx hn
  have free : H dx = none := I.hok.fresh new
  have old : ∀ {b : Addr} {o : Obj}, hp.get? b = some o → b ≠ dx := fun {b o} q => Nat.ne_of_lt (Nat.lt_of_lt_of_le (Heap.lt_size q) new)
  have offA : ∀ {b : Addr}, H b = none → b ≠ a := fun {b} n z => by
    rw [z, e] at n
    cases n
  have U : Un X.fs [] H (upd (upd H dx (exd dx [(f, y)])) a (exo a C (some dx))) hp h' :=
    ⟨fun b o q n _ _ => keep b o (offA n) q, fun b o q n _ _ => ⟨o.slots, keep b o (offA n) q⟩,
     fun b o q n _ => by rw [upd_ne (offA n), upd_ne (old q)]; exact n,
     fun b o q _ => (Classical.em (b = a)).elim (fun z => ⟨_, (congrArg h'.get? z).trans hx⟩) fun z => ⟨o, keep b o z q⟩,
     fun b xs q => by rw [upd_ne (at_ne e q exo_tup), upd_ne (ne_of_none q free)]; exact q,
     fun b o v q => by rw [upd_ne (at_ne e q exo_frz), upd_ne (ne_of_none q free)]; exact q,
     fun b ps q => ⟨#[], by rw [upd_ne (at_ne e q exo_tbl), upd_ne (ne_of_none q free), q]; simp⟩⟩
  refine h dx _ free apart (I.un (t' := tk') U fun b o q => ?_)
  rcases Classical.em (b = a) with hb | hb
  · subst hb
    obtain rfl := Option.some.inj (upd_same.symm.trans q)
    exact exo_ok hx
  · rw [upd_ne hb] at q
    rcases Classical.em (b = dx) with hd | hd
    · subst hd
      obtain rfl := Option.some.inj (upd_same.symm.trans q)
      exact exd_ok hn (relO_put (fs := []) ry fun g => trivial)
    · rw [upd_ne hd] at q
      refine (I.hok b o q).stay (fun c v hc z => keep c v ?_ z) (fun c hc => ?_) fun c xs hc => ?_
      · rcases hc with hc | hc
        · rwa [hc]
        · exact at_ne e hc exo_own
      · rw [upd_ne (at_ne e hc exo_own), upd_ne (ne_of_none hc free)]
        exact hc
      · rw [upd_ne (at_ne e hc exo_tup), upd_ne (ne_of_none hc free)]
        exact hc
/-- Base.__init__(self, ..): nothing of it is told -/
theorem base_init {E : Value → Shared → Prop} {Q : Value → Shared → Prop} {us : List Value} (B : ExB bmB newId initId) (T : ExC X.K C bmB newId) (I : Inv X pins σ H s) (e : H a = some (exo a C none)) (hl : us.length ≤ sizeLine) (h : ∀ s', Inv X pins σ H s' → Q .none s') :
    wpAny (model X.prog X.w) A (call (.builtin initId) (.ref a :: us)) Q E s := by
  obtain ⟨_, FB, _⟩ := B.ex
  obtain ⟨nm, N, qn, bs, bm, hdct, sn, sub, ab, col, dd, k0, k1, k2, k3, k5, hC, hT⟩ := exC_obj T I
  obtain ⟨t1, ho⟩ := exo_at I.hok e
  obtain ⟨hp, g, d, t, os⟩ := s
  refine wpAny_call (PySem.HandSPX.init_base FB hT hC ho hl fun h' t2 keep hx => ?_)
  have same : upd H a (exo a C none) = H := by
    funext b
    rcases Classical.em (b = a) with hb | hb
    · rw [hb, upd_same, e]
    · exact upd_ne hb
  have J := I.write (t' := t) (x := a) (e := a) (o := exo a C none) (by rw [e]; exact trivial) (.inl rfl) keep ⟨_, hx⟩ (exo_ok hx)
  exact h _ (same ▸ J)
end
/-! ### readings and rules -/
/-- Base.__init__(self, ..) -/
def tBI (K : PySem.W.Frag) (bmB : List Value) (newId : String) (ta : TA) : TE := fun σ H Q => ta σ H fun vs H1 => ∃ (a C : Addr) (ws : List V), vs = .ref a :: ws ∧ ws.length ≤ 1000 ∧ ExC K C bmB newId ∧ H1 a = some (exo a C none) ∧ Q .non H1
/-- self.f = e, the only one -/
def tSt1 (K : PySem.W.Frag) (bmB : List Value) (newId : String) (f : Str) (to te : TE) : TS := fun D σ H => te σ H fun y H1 => to σ H1 fun x H2 => ∃ a C : Addr, x = .ref a ∧ ExC K C bmB newId ∧ findIn K (.ref C) f = some none ∧ H2 a = some (exo a C none) ∧
  ∀ dx, H2 dx = none → dx ≠ a → D.nx σ (upd (upd H2 dx (exd dx [(f, y)])) a (exo a C (some dx)))
/-- C(e, ..) as a value -/
def tMkX (C : Addr) (sp : Sp) (dvs : List V) (ta : TA) : TE := fun σ H Q => ta σ H fun vs H1 => vs.length ≤ 1000 ∧ ∀ a, H1 a = none → sp (.ref a :: (vs ++ dvs)) (upd H1 a (exo a C none)) (fun v H2 => v = .non ∧ Q (.ref a) H2) (fun _ _ _ => False)
/-- the base of own exceptions, a class of the top: what reading its __init__ asks -/
structure BaseC (K : PySem.W.Frag) (G : Addr) (initId : String) : Prop where
  sp : PySem.W.specialIn K (.ref G) "__getattribute__" = some (some (.builtin "type.__getattribute__"))
  rd : PySem.W.readsIn K G (.type "type") = true
  fc : PySem.W.findCls K (.ref G) (.type "type") "__init__" = some (.val (.builtin initId))
section
variable {X : Cx} {o e : Expr} {es : List Expr} {to te : TE} {ta : TA} {f x : Str} {p p' p1 p2 pos : Pos} {bmB : List Value} {newId initId : String} {G : Addr}
theorem pe_binit {pl : Sem Bool} (B : ExB bmB newId initId) (hg : Gl X x) (hm : X.mg x = some (.ref G)) (T : BaseC X.K G initId) (hh : PySem.W.handedIn (.builtin initId) = true) (hty : typeOf (.builtin initId) = pure (.type "wrapper_descriptor")) (ha : PA X (e :: es) ta)
    (hdb : (x == ("__debug__" : Str)) = false := by decide)
    (hc : eval (.Call (.Attribute (.Name x p1) "__init__" p2) (e :: es) [] pos) X.env = (do
      let ov ← eval (.Name x p1) X.env
      standAt p2.atName
      let (f, first) ← holding [ov] (getMethod ov "__init__" pl)
      callWith pos f first (backTo pos (starEach (e :: es) X.env)) (backToKw pos (keywordEach [] X.env))) := by rfl)
    (he : starEach (e :: es) X.env = (false, eval e X.env) :: starEach es X.env := by rfl) (hpl : (backTo pos (starEach es X.env)).any (·.1) = false := by rfl) :
    PE X (.Call (.Attribute (.Name x p1) "__init__" p2) (e :: es) [] pos) (tBI X.K bmB newId ta) := by
  refine ⟨fun pins s σ H Q I h => ?_⟩
  refine PySem.W.methodCall_KW (ld_glob I hg hm ?_ hdb) hc
  refine PySem.W.method_cls I.kIn T.sp (PySem.W.cls_value I.kIn T.rd T.fc hh ?_)
  show wpAny _ _ (callWith pos (Value.builtin initId) [] (backTo pos (starEach (e :: es) X.env)) []) _ _ _
  refine callWith_method1 (thn (ha.run pos pins _ σ H _ (I.tok _) h) ?_) he hpl
  rintro us s1 ⟨vs, H1, I1, r1, a, C, ws, rfl, hl, TC, ea, q⟩
  cases r1 with
  | @cons _ u0 _ ur ra rw' =>
    obtain rfl : u0 = Value.ref a := ra
    refine base_init B TC I1 ea ?_ fun s' J => ⟨.non, H1, J, rfl, q⟩
    rw [← Paired.length rw']
    exact Nat.le_trans hl (by decide)
/-- self.f = e -/
theorem ps_st1 (B : ExB bmB newId initId) (ho : PE X o to) (he : PE X e te) (hs : swapsWith e (some (.Attribute o f p')) pos.line X.env = pure false := by rfl) : PS X (.Assign [.Attribute o f p'] e pos) (tSt1 X.K bmB newId f to te) := by
  refine ⟨fun pins s σ H D I h => ?_⟩
  refine plainObj_wpAny_Assign_Attribute (thn (he.run pins s σ H _ I h) ?_) hs
  rintro v s1 ⟨y, H1, I1, r1, q1⟩
  refine thn (ho.run pins s1 σ H1 _ I1 q1) ?_
  rintro u s2 ⟨x, H2, I2, r2, a, C, rfl, T, hno, ea, q⟩
  obtain rfl : u = Value.ref a := r2
  exact set_first B T I2 ea hno r1 fun dx s' n ne J => ⟨σ, _, J, q dx n ne⟩
/-- making is one callee more -/
theorem run_mkx {CX : CXT} {C fI : Addr} {k : Nat} {fd : FuncData} {ps : List Str} {sp : Sp} {ds : List Value} {dvs : List V} {pins : List (Addr × Obj)} {σ : L2.St} {H1 : Hp} {s1 : Shared} {vs : List V} {us : List Value} {Q : VK} (B : ExB bmB newId initId) (T : ExC X.K C bmB newId)
    (iC : findIn X.K (.ref C) "__init__" = some (some (.ref fI))) (tI : typeIn X.K (.ref fI) = some (.type "function")) (F1 : FnOk X.prog X.w X.K X.mg X.base CX k fI fd ps sp) (hr : Room (k + 1) X.A) (hb : Binds X.K fd ps ds) (hd : Vals dvs ds) (hx : Passes CX X (fun _ _ _ => False))
    (I1 : Inv X pins σ H1 s1) (r1 : Vals vs us) (hz : vs.length ≤ 1000)
    (q1 : ∀ a, H1 a = none → sp (.ref a :: (vs ++ dvs)) (upd H1 a (exo a C none)) (fun v H2 => v = .non ∧ Q (.ref a) H2) (fun _ _ _ => False)) : wpAny (model X.prog X.w) X.A (call (.ref C) us) (EP X pins σ Q) X.xe s1 := by
  obtain ⟨_, FB, _⟩ := B.ex
  obtain ⟨nm, N, qn, bs, bm, hdct, sn, sub, ab, col, dd, k0, k1, k2, k3, k5, hC, hT⟩ := exC_obj T I1
  have li := PySem.W.looks_findIn (M := model X.prog X.w) I1.kIn iC
  have lb := fun self => PySem.W.bind_fn (M := model X.prog X.w) I1.kIn self tI
  obtain ⟨hp, g, dr, tk, os⟩ := s1
  have next : hp.objs.size ≤ hp.objs.size + 1 := Nat.le_succ _
  have q2 := q1 (hp.objs.size + 1) (I1.hok.fresh next)
  have keep : ∀ b o, hp.get? b = some o → ((hp.push (PySem.W.kdv_tup us)).push (PySem.HandSPX.excO C hp.objs.size)).get? b = some o := fun b o e => Heap.get?_push_of_some _ (Heap.get?_push_of_some _ e)
  have there : ((hp.push (PySem.W.kdv_tup us)).push (PySem.HandSPX.excO C hp.objs.size)).get? (hp.objs.size + 1) = some (PySem.HandSPX.excO C hp.objs.size) := by heap_get
  have I2 : Inv X pins σ (upd H1 (hp.objs.size + 1) (exo (hp.objs.size + 1) C none)) ⟨(hp.push (PySem.W.kdv_tup us)).push (PySem.HandSPX.excO C hp.objs.size), g, dr, tk, os⟩ :=
    I1.laid (t' := tk) (a := hp.objs.size + 1) (o := exo (hp.objs.size + 1) C none) keep next (exo_ok there)
  have r2 : Vals (V.ref (hp.objs.size + 1) :: (vs ++ dvs)) (Value.ref (hp.objs.size + 1) :: (us ++ ds)) := .cons rfl (r1.append hd)
  have many : (Value.ref (hp.objs.size + 1) :: us ++ ds).length = ps.length := r2.length.symm.trans (F1.len _ _ _ _ q2)
  have small : us.length ≤ sizeLine := by
    rw [← Paired.length r1]
    exact Nat.le_trans hz (by decide)
  refine wpAny_call (PySem.HandSPX.call_own FB hT hC li lb small (codeAny_mono (F1.run _ X.stack _ _ ⟨Value.ref (hp.objs.size + 1) :: us, []⟩ _ _ _ (fun _ _ _ => False) (hr.make C us []) (I2.env0.make C us []) (hb _ (Value.ref (hp.objs.size + 1) :: us) I2.kIn many) r2 q2) ?_))
  intro r s' hq
  match r, hq with
  | .error er, hq => exact hx pins σ _ _ er s' I2 hq
  | .ok .next, hq => exact hq.elim
  | .ok .brk, hq => exact hq.elim
  | .ok .cont, hq => exact hq.elim
  | .ok (.ret u), hq =>
    obtain ⟨v, H2, J, rv, rfl, q⟩ := I2.after hq
    exact ⟨rv, .ref _, H2, J, rfl, q⟩
/-- C() -/
theorem pe_mkx0 {CX : CXT} {C fI : Addr} {k : Nat} {fd : FuncData} {ps : List Str} {sp : Sp} {ds : List Value} {dvs : List V} (B : ExB bmB newId initId) (T : ExC X.K C bmB newId) (iC : findIn X.K (.ref C) "__init__" = some (some (.ref fI)))
    (tI : typeIn X.K (.ref fI) = some (.type "function")) (F1 : FnOk X.prog X.w X.K X.mg X.base CX k fI fd ps sp) (hr : Room (k + 1) X.A) (hb : Binds X.K fd ps ds) (hd : Vals dvs ds) (hx : Passes CX X (fun _ _ _ => False)) (hg : Gl X x) (hm : X.mg x = some (.ref C))
    (hdb : (x == ("__debug__" : Str)) = false := by decide) : PE X (.Call (.Name x p) [] [] pos) (tMkX C sp dvs tNil) := by
  refine ⟨fun pins s σ H Q I h => ?_⟩
  refine wpAny_Call_Name_kw (ld_glob I hg hm ?_ hdb)
  exact PySem.W.callWith_K0 I.kIn T.kC (run_mkx (us := []) B T iC tI F1 hr hb hd hx I .nil (by decide) h.2)
/-- C(e, ..) -/
theorem pe_mkx1 {CX : CXT} {C fI : Addr} {k : Nat} {fd : FuncData} {ps : List Str} {sp : Sp} {ds : List Value} {dvs : List V} (B : ExB bmB newId initId) (T : ExC X.K C bmB newId) (iC : findIn X.K (.ref C) "__init__" = some (some (.ref fI)))
    (tI : typeIn X.K (.ref fI) = some (.type "function")) (F1 : FnOk X.prog X.w X.K X.mg X.base CX k fI fd ps sp) (hr : Room (k + 1) X.A) (hb : Binds X.K fd ps ds) (hd : Vals dvs ds) (hx : Passes CX X (fun _ _ _ => False)) (hg : Gl X x) (hm : X.mg x = some (.ref C))
    (ha : PA X (e :: es) ta) (hdb : (x == ("__debug__" : Str)) = false := by decide)
    (he : starEach (e :: es) X.env = (false, eval e X.env) :: starEach es X.env := by rfl) (hpl : (backTo pos (starEach es X.env)).any (·.1) = false := by rfl) : PE X (.Call (.Name x p) (e :: es) [] pos) (tMkX C sp dvs ta) :=
  ⟨fun pins s σ H Q I h => wpAny_Call_Name_kw (ld_glob I hg hm (PySem.W.callWith_K (h₀ := X.base) I.ok.mod.kin T.kC (thn (ha.run pos pins s σ H _ I h) fun us s1 ⟨vs, H1, I1, r1, hz, q1⟩ => ⟨I1.kIn, run_mkx B T iC tI F1 hr hb hd hx I1 r1 hz q1⟩) he hpl) hdb)⟩
end
/-! ### asking and reading -/
/-- what the top says of object.__class__ -/
structure ClsAttr (K : PySem.W.Frag) : Prop where
  hn : PySem.W.specialIn K (.builtin "object.__class__") "__get__" = some (some (.builtin "getset_descriptor.__get__"))
  ht : PySem.W.takesIn K (.builtin "object.__class__") = some true
/-- isinstance(x, c), x an exception of ours -/
def rIsX (K : PySem.W.Frag) : List V → Hp → VK → Prop := fun xs H Q => ∃ (bmB : List Value) (newId : String) (a C : Addr) (d : Option Addr) (c : V) (u : Value) (b : Bool), xs = [.ref a, c] ∧ ClsV c u ∧ ExC K C bmB newId ∧ H a = some (exo a C d) ∧
  (∀ dx, d = some dx → ∃ fs, H dx = some (exd dx fs)) ∧ PySem.W.kitOne K (.ref C) u = some b ∧ Q (.bl b) H
section
variable {X : Cx} {bmB : List Value} {newId : String}
/-- an exception of ours as an instance -/
theorem exo_inst {pins : List (Addr × Obj)} {σ : L2.St} {H : Hp} {s : Shared} {a C : Addr} {d : Option Addr} (I : Inv X pins σ H s) (e : H a = some (exo a C d)) (hd : ∀ dx, d = some dx → ∃ fs, H dx = some (exd dx fs)) : ∃ ox od, PySem.W.InstAt s.heap a ox C od := by
  obtain ⟨t1, ho⟩ := exo_at I.hok e
  cases d with
  | none => exact ⟨_, none, ho, rfl, rfl, trivial⟩
  | some dx =>
    obtain ⟨fs, ed⟩ := hd dx rfl
    obtain ⟨mA, ⟨oD, _, _, hD, _⟩, _⟩ := exd_at I.hok ed
    exact ⟨_, some oD, ho, rfl, rfl, hD⟩
theorem call_isX (A : ClsAttr X.K) : CallR X (.builtin "isinstance") (rIsX X.K) := by
  rintro pins s σ H xs us Q I r ⟨bmB, newId, a, C, d, c, u, b, rfl, k, T, ea, hd, e, q⟩
  obtain ⟨u1, u2, rfl, r1, r2⟩ := vals2 r
  obtain rfl := k.eq r2
  obtain rfl : u1 = Value.ref a := r1
  obtain ⟨ox, od, J⟩ := exo_inst I ea hd
  obtain ⟨cd, hcd, _⟩ := cls_dict T.dic
  exact PySem.W.kia_one (PySem.W.kitx_exc (by rw [hcd]; rfl) T.ga T.gg T.exC T.ha A.hn A.ht T.hm) I.kIn J e (fun z => nomatch z) fun tk => ⟨.bl b, H, I.tok tk, rfl, q⟩
/-- e.f, e an exception of ours -/
def tXf (K : PySem.W.Frag) (f : Str) (te : TE) : TE := fun σ H Q => te σ H fun x H1 => ∃ (bmB : List Value) (newId : String) (a C d : Addr) (fs : List (Str × V)) (v : V), x = .ref a ∧ ExC K C bmB newId ∧ findIn K (.ref C) f = some none ∧ H1 a = some (exo a C (some d)) ∧ H1 d = some (exd d fs) ∧ fs.lookup f = some v ∧ Q v H1
theorem pe_xfld {e : Expr} {te : TE} {f : Str} {pos : Pos} (he : PE X e te) (hb : attributeBase e f X.env (eval e X.env) = eval e X.env := by rfl) : PE X (.Attribute e f pos) (tXf X.K f te) := by
  refine ⟨fun pins s σ H Q I h => attr_of hb (thn (he.run pins s σ H _ I h) ?_)⟩
  rintro u s1 ⟨x, H1, I1, rx, bmB, newId, a, C, d, fs, v, rfl, T, hno, ea, ed, l, q⟩
  obtain rfl : u = Value.ref a := rx
  obtain ⟨t1, ho⟩ := exo_at I1.hok ea
  obtain ⟨mA, hns, hr⟩ := exd_at I1.hok ed
  obtain ⟨od, hod, hl⟩ := lookIn_ns hns
  obtain ⟨u, hu, ru⟩ := RelO.some_of (v := v) (o := mA f) (by rw [← l]; exact hr f)
  have J : PySem.W.InstAt s1.heap a { cls := .ref C, dict := some d, data := .fields #[.ref t1, .none, .none, .none, .bool false, .none] } C (some od) := ⟨ho, rfl, rfl, hod⟩
  exact PySem.HandSPX.exc_get I1.kIn J T.ga T.gg T.exC (PySem.W.findObj_own T.dic hno rfl (by rw [hl, hu])) (handed_of ru) ⟨v, H1, I1.tok _, ru, q⟩
theorem pe_xfldK {K : PySem.W.Frag} {e : Expr} {te : TE} {f : Str} {pos : Pos} (hK : X.K = K) (he : PE X e te) (hb : attributeBase e f X.env (eval e X.env) = eval e X.env := by rfl) : PE X (.Attribute e f pos) (tXf K f te) := by
  subst hK
  exact pe_xfld he hb
end
end Ver
/-! Ver, 8: which classes an own exception is of; texts shown; an exception's object with at most one field -/
namespace Ver
open PySem PySem.Spec PyProof.Rows L2
open PySem.W (clsIn typeIn kitOne kitCls kitMeta subIn mroIn findIn)
/-- the classes of C, itself ahead -/
def mroAt (K : PySem.W.Frag) (C : Addr) : Option (List Value) := (clsIn K C).map (·.mro)
theorem sub_mro {K : PySem.W.Frag} {C : Addr} {m : List Value} {v : Value} (h : mroAt K C = some (.ref C :: m)) : subIn K (.ref C) v = some ((Value.ref C :: m).contains v) := by
  obtain ⟨cd, h1, h2⟩ := Option.map_eq_some_iff.mp h
  show mroIn K C v = _
  unfold mroIn
  rw [h1, Option.bind_some, h2]
  rfl
theorem kit_own {K : PySem.W.Frag} {C D : Addr} {m : List Value} (h : mroAt K C = some (.ref C :: m)) (hD : (clsIn K D).isSome = true) (tD : typeIn K (.ref D) = some (.type "type")) :
    kitOne K (.ref C) (.ref D) = some ((Value.ref C :: m).contains (.ref D)) := by
  unfold kitOne
  split
  · rename_i e
    have e' : Value.ref C = Value.ref D := beq_iff_eq.mp e
    rw [← e', List.contains_cons, beq_self_eq_true, Bool.true_or]
  · show kitCls K (.ref C) (.ref D) = _
    unfold kitCls
    dsimp only
    rw [if_pos (by rw [hD, tD]; rfl), sub_mro h]
theorem kit_bi {K : PySem.W.Frag} {C : Addr} {T : String} {m : List Value} (h : mroAt K C = some (.ref C :: m)) (hT : kitMeta T = true) : kitOne K (.ref C) (.type T) = some ((Value.ref C :: m).contains (.type T)) := by
  unfold kitOne
  rw [if_neg (by show ¬ (Value.ref C == Value.type T) = true; intro e; cases (beq_iff_eq.mp e))]
  show kitCls K (.ref C) (.type T) = _
  unfold kitCls
  dsimp only
  rw [if_pos hT, sub_mro h]
/-- the object at a: of the class C, with at most one field -/
def Exn (H : Hp) (a C : Addr) : Option (Str × V) → Prop
  | none => H a = some (exo a C none)
  | some (f, v) => ∃ dx, H a = some (exo a C (some dx)) ∧ H dx = some (exd dx [(f, v)])
theorem Exn.same {H H' : Hp} {a C : Addr} (k : Same H H') : ∀ {o : Option (Str × V)}, Exn H a C o → Exn H' a C o
  | none, h => k _ _ h
  | some _, ⟨dx, h1, h2⟩ => ⟨dx, k _ _ h1, k _ _ h2⟩
theorem Exn.is {H : Hp} {a C : Addr} : ∀ {o : Option (Str × V)}, Exn H a C o → ∃ d, H a = some (exo a C d) ∧ ∀ dx, d = some dx → ∃ fs, H dx = some (exd dx fs)
  | none, h => ⟨none, h, fun _ z => nomatch z⟩
  | some _, ⟨dx, h1, h2⟩ => ⟨some dx, h1, fun y z => by cases z; exact ⟨_, h2⟩⟩
section
variable {X : Cx}
/-- repr(x), x a text -/
theorem call_reprT : CallR X (.builtin "repr") (fun xs H Q => ∃ x : Str, xs = [.str x] ∧ (reprText x).length ≤ sizeLine ∧ Q (.str (reprText x)) H) := by
  rintro pins s σ H xs us Q I r ⟨x, rfl, hz, q⟩
  obtain ⟨u, rfl, t, rfl⟩ := vals1 r
  exact PySem.P.repr_of_str ⟨.str _, H, I.tok _, ⟨_, rfl⟩, q⟩ hz
end
section
variable {X : Cx}
/-- tuple(x), x a list or a tuple: in one way -/
theorem call_tupU : CallR X (.type "tuple") (fun xs H Q => ∃ p ys, xs = [.ref p] ∧ (H p = some (.lst ys) ∨ H p = some (.tup ys)) ∧ ∀ t H', Same H H' → H' t = some (.tup ys) → (t = p ∨ H t = none) → Q (.ref t) H') := by
  rintro pins s σ H xs us Q I r ⟨p, ys, rfl, h, q⟩
  refine call_tuple_of pins s σ H _ us Q I r ⟨p, ys, rfl, ?_⟩
  rcases h with h | h
  · exact .inl ⟨SqL.of h, fun l hl => q l _ (same_new hl) upd_same (.inr hl)⟩
  · exact .inr ⟨SqT.of h, q p H (Same.refl H) h (.inl rfl)⟩
end
theorem fresh {H : Hp} {t : Addr} (n : H t = none) (o : HO) : ∃ H', upd H t o = H' ∧ Same H H' ∧ H' t = some o := ⟨_, rfl, same_new n, upd_same⟩
/-- what can be told in a text of at most a thousand signs -/
def TellOk : PyData → Prop
  | .str x => x.length ≤ 1000 ∧ (reprText x).length ≤ 1000
  | .bool _ => False
  | _ => True
/-- told(x): some text -/
def spTold : Sp := fun vs H Q _ => ∃ N v d, vs = [v] ∧ Da N H v d ∧ TellOk d ∧ ∀ t : Str, t.length ≤ 1000 → Q (.str t) H
theorem toldInt {i : Int} (h1 : -1000000 < i) (h2 : i < 1000000) : i.natAbs.log2 < 1920 ∧ (Str.ofString (toString i)).length ≤ 1000 := by
  have h3 : i.natAbs < 1000000 := by omega
  have h4 : i.natAbs.log2 < 20 := by
    rcases Nat.eq_zero_or_pos i.natAbs with z | z
    · rw [z]
      decide
    · exact (Nat.log2_lt (by omega)).mpr (by omega)
  refine ⟨by omega, ?_⟩
  have e := PySem.int_text_length_le (a := i) (k := 20) (by decide) h4
  rw [PySem.ofString_length]
  omega
theorem Das.fetch {N : Addr → Prop} {H : Hp} : ∀ {vs : List V} {ds : List PyData} {i : Nat} {v : V}, Das N H vs ds → vs[i]? = some v → ∃ d, ds[i]? = some d ∧ Da N H v d
  | _, _, _, _, .nil, e => by simp at e
  | _, _, 0, _, .cons h _, e => by
    simp at e
    subst e
    exact ⟨_, rfl, h⟩
  | _, _, i + 1, _, .cons _ t, e => by
    obtain ⟨v, h1, h2⟩ := Das.fetch (i := i) t (by simpa using e)
    exact ⟨v, by simpa using h1, h2⟩
theorem sum_le2 (l : List Str) (h : ∀ t ∈ l, t.length ≤ 1000) : (l.map (·.length)).sum ≤ 1000 * l.length := by
  induction l with
  | nil => simp
  | cons t r ih =>
    have h1 := h t (List.mem_cons_self ..)
    have h2 := ih fun u hu => h u (List.mem_cons_of_mem _ hu)
    simp only [List.map_cons, List.sum_cons, List.length_cons]
    omega
theorem join_le2 (a : Str) (ha : a.length ≤ 1000) (l : List Str) (h : ∀ t ∈ l, t.length ≤ 1000) : (Txt.join a l).length ≤ 2000 * l.length := by
  have e : (Txt.join a l).length ≤ (l.map (·.length)).sum + l.length * a.length := by
    unfold Txt.join
    rw [StrLaws.glued_eq_join]
    exact StrLaws.join_length_le a l
  have s : (l.map (·.length)).sum ≤ 1000 * l.length := by
    clear e
    induction l with
    | nil => simp
    | cons t r ih =>
      have h1 := h t (List.mem_cons_self ..)
      have h2 := ih fun u hu => h u (List.mem_cons_of_mem _ hu)
      simp only [List.map_cons, List.sum_cons, List.length_cons]
      omega
  have m : l.length * a.length ≤ l.length * 1000 := Nat.mul_le_mul_left _ ha
  omega
end Ver
/-! Ver, 9: repr of a list of plain data, wherever the list itself stands -/
namespace Ver
open PySem PySem.Spec PyProof.Rows L2
section
variable {X : Cx}
/-- repr(x), x a list of plain data, not empty; nothing is asked of where it stands -/
def rReprL (n k : Nat) : List V → Hp → VK → Prop := fun xs H Q => ∃ (N : Addr → Prop) (a : Addr) (vs : List V) (ds : List PyData), xs = [.ref a] ∧ H a = some (.lst vs) ∧ vs ≠ [] ∧ Das N H vs ds ∧ Fit n k (.list ds) ∧ Q (.str (PyData.list ds).shown) H
theorem call_reprL {n k : Nat} (hg : X.A.guards = some []) (hu : X.A.units + (k + 1) < cLine) (hn : n ≤ sizeLine) : CallR X (.builtin "repr") (rReprL n k) := by
  rintro pins s σ H xs us Q I r ⟨N, a, vs, ds, rfl, e, ne, hD, ⟨f1, f2, f3⟩, q⟩
  obtain ⟨u, rfl, ru⟩ := vals1 r
  cases ru
  obtain ⟨its, rv, ⟨o, m, ho, hc, _, hd⟩, _⟩ := I.list (SqL.of e)
  obtain ⟨as, h1, h2⟩ := hD.reads I rv
  have whole : Reads s.heap (.ref a) (.list ds) _ := .list ho hc hd h1
  have short : (listText (PyData.shownAll ds)).length ≤ sizeLine := Nat.le_trans f2 hn
  have able : PyData.showableAll ds = true := by simpa [PyData.showable] using f1
  obtain ⟨bs, most, parts⟩ := ReprAllK.of_readsAll (prog := X.prog) (w := X.w) h1 able (fun _ => h2) fun t ht => Nat.le_trans (listText_mem_le ht) short
  have apart : a ∉ bs := not_mem_of_deeper whole (by show PyData.depthAll ds < PyData.depthAll ds + 1; omega) most
  have deep : PyData.depthAll ds + 1 ≤ k := f3
  match its, rv, hd, parts with
  | [], rv, _, _ => exact (ne (by cases rv; rfl)).elim
  | x :: l, rv, hd, parts =>
    refine call_repr_slot (by omega) ⟨o, ho, hc⟩ F.slot_list_repr.toG (call_list_reprK ho hc hd apart (by simpa using parts.length_eq) (fun i y z => parts.item i y (by simpa using z)) hg (fun b _ => Clear.nil b)
      (by show X.A.units + 1 + (PyData.depthAll ds + 1) < cLine; omega) (fun _ _ z => z) (fun h' t tk kk => ⟨_, _, rfl, .str _, H, I.kept kk, ⟨_, rfl⟩, q⟩) short)
end
end Ver
/-! Ver, 10: own exceptions raised: raise C(e), C's __init__ a def that says Base.__init__(self, text) and keeps its argument -/
namespace Ver
open PySem PySem.Spec PyProof.Rows L2
open PySem.W (clsIn typeIn kitOne kitCls kitMeta subIn mroIn findIn)
section
variable {X : Cx} {e : Expr} {es : List Expr} {ta : TA} {x : Str} {p pos : Pos} {bmB : List Value} {newId initId : String}
/-- C(e, ..) as what is raised -/
theorem pmk_x {CX : CXT} {C fI : Addr} {k : Nat} {fd : FuncData} {ps : List Str} {sp : Sp} {ds : List Value} {dvs : List V} (B : ExB bmB newId initId) (T : ExC X.K C bmB newId) (iC : findIn X.K (.ref C) "__init__" = some (some (.ref fI)))
    (tI : typeIn X.K (.ref fI) = some (.type "function")) (F1 : FnOk X.prog X.w X.K X.mg X.base CX k fI fd ps sp) (hr : Room (k + 1) X.A) (hb : Binds X.K fd ps ds) (hd : Vals dvs ds) (hx : Passes CX X (fun _ _ _ => False)) (hg : Gl X x) (hm : X.mg x = some (.ref C))
    (ha : PA X (e :: es) ta) (hdb : (x == ("__debug__" : Str)) = false := by decide)
    (he : starEach (e :: es) X.env = (false, eval e X.env) :: starEach es X.env := by rfl) (hpl : (backTo pos (starEach es X.env)).any (·.1) = false := by rfl) :
    PMk X (.Call (.Name x p) (e :: es) [] pos) (tMkO C sp dvs ta) := by
  intro pins s σ H Q I h
  refine wpAny_Call_Name_kw (ld_glob I hg hm (PySem.W.callWith_K (h₀ := X.base) I.ok.mod.kin T.kC (thn (ha.run pos pins s σ H _ I h) ?_) he hpl) hdb)
  rintro us s1 ⟨vs, H1, I1, r1, hz, q1⟩
  refine ⟨I1.kIn, ?_⟩
  obtain ⟨_, FB, _⟩ := B.ex
  obtain ⟨nm, N, qn, bs, bm, hdct, sn, sub, ab, col, dd, k0, k1, k2, k3, k5, hC, hT⟩ := exC_obj T I1
  have li := PySem.W.looks_findIn (M := model X.prog X.w) I1.kIn iC
  have lb := fun self => PySem.W.bind_fn (M := model X.prog X.w) I1.kIn self tI
  obtain ⟨hp, g, dr, tk, os⟩ := s1
  have next : hp.objs.size ≤ hp.objs.size + 1 := Nat.le_succ _
  have q2 := q1 (hp.objs.size + 1) (I1.hok.fresh next)
  have keep : ∀ b o, hp.get? b = some o → ((hp.push (PySem.W.kdv_tup us)).push (PySem.HandSPX.excO C hp.objs.size)).get? b = some o := fun b o e => Heap.get?_push_of_some _ (Heap.get?_push_of_some _ e)
  have there : ((hp.push (PySem.W.kdv_tup us)).push (PySem.HandSPX.excO C hp.objs.size)).get? (hp.objs.size + 1) = some (PySem.HandSPX.excO C hp.objs.size) := by heap_get
  have I2 : Inv X pins σ (upd H1 (hp.objs.size + 1) (exo (hp.objs.size + 1) C none)) ⟨(hp.push (PySem.W.kdv_tup us)).push (PySem.HandSPX.excO C hp.objs.size), g, dr, tk, os⟩ :=
    I1.laid (t' := tk) (a := hp.objs.size + 1) (o := exo (hp.objs.size + 1) C none) keep next (exo_ok there)
  have r2 : Vals (V.ref (hp.objs.size + 1) :: (vs ++ dvs)) (Value.ref (hp.objs.size + 1) :: (us ++ ds)) := .cons rfl (r1.append hd)
  have many : (Value.ref (hp.objs.size + 1) :: us ++ ds).length = ps.length := r2.length.symm.trans (F1.len _ _ _ _ q2)
  have small : us.length ≤ sizeLine := by
    rw [← Paired.length r1]
    exact Nat.le_trans hz (by decide)
  refine wpAny_call (PySem.HandSPX.call_own FB hT hC li lb small (codeAny_mono (F1.run _ X.stack _ _ ⟨Value.ref (hp.objs.size + 1) :: us, []⟩ _ _ _ (fun _ _ _ => False) (hr.make C us []) (I2.env0.make C us []) (hb _ (Value.ref (hp.objs.size + 1) :: us) I2.kIn many) r2 q2) ?_))
  intro r s' hq
  match r, hq with
  | .error er, hq => exact hx pins σ _ _ er s' I2 hq
  | .ok .next, hq => exact hq.elim
  | .ok .brk, hq => exact hq.elim
  | .ok .cont, hq => exact hq.elim
  | .ok (.ret u), hq =>
    obtain ⟨v, H2, os2, bare2, un2, hok2, rv, rfl, d, fs, ea, ed, n1, q⟩ := hq
    obtain ⟨h2, g2, d2, t2, os'⟩ := s'
    exact ⟨rv, mk_end (raises_own T.exC T.tyC) I1 next keep un2 hok2 os2 bare2 ea ed n1 q⟩
end
/-- the heap behind such a making, without the object -/
theorem drop_made {H : Hp} {a d : Addr} {o1 o2 o3 : HO} {o : HO} (n : H a = none) (nd : upd H a o1 d = none) : upd (del (upd (upd (upd H a o1) d o2) a o3) a) d o = upd H d o := by
  have ne : d ≠ a := fun z => by
    rw [z, upd_same] at nd
    cases nd
  funext b
  by_cases hb : b = d
  · rw [hb, upd_same, upd_same]
  · rw [upd_ne hb, upd_ne hb]
    by_cases ha : b = a
    · rw [ha, del_same, n]
    · rw [del_ne ha, upd_ne ha, upd_ne hb, upd_ne ha]
end Ver
/-! Ver, 11: try: body, then several clauses 'except C as n: suite' -/
namespace Ver
open PySem PySem.Spec PyProof.Rows L2
/-- the ends of a suite: the name is gone behind it -/
def endsAs (D : Ends) (i : Nat) : Ends := ⟨fun σ H => D.nx (σ.set i none) H, D.rt, fun σ H => D.bk (σ.set i none) H, fun σ H => D.ct (σ.set i none) H⟩
/-- a clause: its class, its name's slot, its suite -/
structure Clause where
  c : Value
  i : Nat
  ts : Addr → Value → Option Addr → TS
/-- the first clause that takes it -/
def wClauses (K : PySem.W.Frag) (Wout : WX) (D : Ends) : List Clause → WX
  | [] => Wout
  | k :: r => fun cls d σ H => ∃ b, PySem.W.exmOne K cls k.c = some b ∧ (b = true → ∀ a, H a = none → k.ts a cls d (endsAs D k.i) (σ.set k.i (some (.ref a))) H) ∧ (b = false → wClauses K Wout D r cls d σ H)
inductive Clauses (X : Cx) : List ExceptHandler → List Clause → Prop
  | nil : Clauses X [] []
  | cons {x n : Str} {k : Clause} {b₀ : Stmt} {suite : List Stmt} {np pos' : Pos} {hds : List ExceptHandler} {l : List Clause} (hc : Names X x k.c) (hi : X.N[k.i]? = some n) (hln : X.env.kindOf n = some .local)
      (hsu : ∀ (a : Addr) (oe : Obj) (cls : Value) (d : Option Addr) (pn : List (Addr × Obj)), Zc cls d oe → (∃ vs, oe.data = .fields vs) → PSs (X.suite a ((a, oe) :: pn)) (b₀ :: suite) (k.ts a cls d)) (r : Clauses X hds l) :
      Clauses X (.ExceptHandler (some (.Name x np)) (some n) (b₀ :: suite) pos' :: hds) (k :: l)
section
variable {X : Cx} {body : List Stmt} {hd1 : ExceptHandler} {hds : List ExceptHandler} {l : List Clause} {pos : Pos} {tb : WX → TS} {Wout : WX}
theorem ps_try_clauses (st : X.stack = X.env :: X.outer) (fr : X.env.frame = some X.env.locals) (nd : X.N.Nodup) (tk : Takes X Wout)
    (hb : ∀ (W : WX) (pn : List (Addr × Obj)) (xe : Value → Shared → Prop), Takes (X.tr pn xe) W → PassesOwn (model X.prog X.w) X.A X.env xe → PSs (X.tr pn xe) body (tb W))
    (hh : Clauses X (hd1 :: hds) l) : PS X (.Try body (hd1 :: hds) [] [] pos) (fun D σ H => tb (wClauses X.K Wout D l) D σ H) := by
  refine ⟨fun pins s σ H D I want => ?_⟩
  have fine := I.ok
  have frames : X.A.frames = some (X.env :: X.outer) := fine.frames.trans (congrArg some st)
  have nested := (hb (wClauses X.K Wout D l) (X.pn ++ pins) (fun e t1 => wpAny (model X.prog X.w) X.A (noteFrame e X.env) (fun _ t2 => wpAny (model X.prog X.w) X.A (setFlight e none)
    (fun _ t3 => wpAny (model X.prog X.w) X.A (handleBy e X.env (hd1 :: hds)) (SP X pins D) X.xe t3) X.xe t2) X.xe t1) ?caught PassesOwn.looking).run [] s σ H D (I.toTry _) want
  case caught =>
    rintro u t1 ⟨a, B, sI, pins', σ', H', cls, d, rfl, inner, ground, moved, sky, free, sameOs, bare, wish⟩
    have J := Inv.ofTry (pins := pins) inner fine
    have sky1 : Sky B (X.env :: X.outer) a (Zc cls d) X.env.locals t1.heap := st ▸ (show Sky B X.stack a (Zc cls d) X.env.locals t1.heap from sky)
    refine Sky.land Zc.steady frames fr sky1 fun h3 fly3 moved3 => ?_
    have J3 := J.landed (s' := { t1 with heap := h3 }) ground fly3.1 (moved.trans moved3) sameOs bare
    obtain ⟨o3, v3, at3, keep3, data3⟩ := fly3.there
    -- the exception is no frame
    have apart : a ∉ frs (X.env :: X.outer) := fun hm => by
      obtain ⟨_, o', z, no⟩ := (fly3.2.2.1).mem hm
      obtain rfl := Option.some.inj (at3.symm.trans z)
      exact no _ data3
    have notHere : a ≠ X.env.locals := fun z => apart (List.mem_filterMap.mpr ⟨X.env, .head _, fr.trans (congrArg some z.symm)⟩)
    have notBelow : a ∉ X.fs := fun hm => by
      obtain ⟨e, he, z⟩ := List.mem_filterMap.mp hm
      exact apart (List.mem_filterMap.mpr ⟨e, .tail _ he, z⟩)
    have S3 := J3.suite at3 data3 free notHere notBelow
    have walk : ∀ {hs : List ExceptHandler} {ks : List Clause}, Clauses X hs ks → wClauses X.K Wout D ks cls d σ' H' → wpAny (model X.prog X.w) X.A (handleBy (.ref a) X.env hs) (SP X pins D) X.xe { t1 with heap := h3 } := by
      intro hs ks cs
      induction cs with
      | nil =>
        intro w
        refine wpAny_handleBy_nil ?_
        obtain ⟨-, -, -, oe, vs, T, -, -, he, -, hdat, h1, -⟩ := id fly3
        have onward : wpAny (model X.prog X.w) X.A (setFlight (.ref a) X.env.frame) (fun _ t4 => wpAny (model X.prog X.w) X.A (throw (.ref a) : Sem Flow) (SP X pins D) X.xe t4) X.xe { t1 with heap := h3 } := by
          rw [fr]
          exact HandSPX.setFlight_upZ fly3 fun h4 held4 moved4 => wpAny_throw (tk _ _ ⟨a, B, sI, pins, σ', H', cls, d, rfl, J, ground, (moved.trans moved3).trans moved4, .inr (.inr (st ▸ held4)), free, sameOs, bare, w⟩)
        unfold PySem.passOn
        refine wpAny_bind (wpAny_field he hdat h1 ?_)
        have nn : ¬ ((Value.ref T == Value.none) = true) := by simp
        rw [if_neg nn]
        first
          | exact wpAny_bind onward
          | exact wpAny_bind (wpAny_pure (wpAny_bind onward))
      | @cons x n k b₀ suite np pos' hs2 ks2 hc hi hln hsu r ih =>
        rintro ⟨b, isIt, yes, no⟩
        refine wpAny_handleBy_cons (codeAny_handlers_test ?_) fun q => by cases q
        have typ : PySem.W.Looks (model X.prog X.w) h3 (typeOf (.ref a)) cls := fun A Q E s kk q => wpAny_typeOf_ref (kk _ _ at3) (keep3.1.symm ▸ q)
        have answer := PySem.W.exm_one (M := model X.prog X.w) J3.kIn typ isIt
        have named : ∀ {Q E : Value → Shared → Prop}, Q k.c { t1 with heap := h3 } → wpAny (model X.prog X.w) (X.A.mark (some (.ref a))) (eval (.Name x np) X.env) Q E { t1 with heap := h3 } := by
          intro Q E q
          obtain ⟨hg, hdb, own | ⟨none, bi, nn⟩⟩ := hc
          · exact ld_glob (X := X.suite a ((a, o3) :: (X.pn ++ pins))) S3 hg own q hdb
          · exact ld_blt (X := X.suite a ((a, o3) :: (X.pn ++ pins))) S3 hg none bi q nn hdb
        refine named (answer.here ?_)
        cases b with
        | false => exact ih (no rfl)
        | true =>
          refine codeAny_handlers_suite_as (HandSPX.lands_againZ fly3 fun h4 fly4 moved4 => ?_)
          have J4 := J.landed (s' := { t1 with heap := h4 }) ground fly4.1 ((moved.trans moved3).trans moved4) sameOs bare
          obtain ⟨o4, v4, at4, keep4, data4⟩ := fly4.there
          have S4 := J4.suite at4 data4 free notHere notBelow
          refine store_ok (X := X.suite a ((a, o4) :: (X.pn ++ pins))) (v := .ref a) S4 nd hi (.inl hln) rfl (fun t5 S5 => ?_) (.inr hln)
          refine wpAny_mono ((hsu a o4 cls d (X.pn ++ pins) keep4 ⟨_, data4⟩).run [] t5 _ H' _ S5 (yes rfl a free)) (fun fl t6 done => ?_) fun _ _ z => z.elim
          have close : ∀ {σ6 : L2.St} {H6 : Hp} {Q : Shared → Prop}, Inv (X.suite a ((a, o4) :: (X.pn ++ pins))) [] σ6 H6 t6 → (∀ t7, Inv X pins (σ6.set k.i none) H6 t7 → Q t7) →
              wpAny (model X.prog X.w) X.A (do bindName X.env n .none; unbindBehindTheSuite X.env n pos') (fun _ t7 => Q t7) X.xe t6 := fun S6 q => gone_ok (S6.unsuite fine) nd hi hln q
          match fl, done with
          | .next, ⟨_, _, S6, q6⟩ => exact close S6 fun t7 J7 => ⟨_, _, J7, q6⟩
          | .brk, ⟨_, _, S6, q6⟩ => exact close S6 fun t7 J7 => ⟨_, _, J7, q6⟩
          | .cont, ⟨_, _, S6, q6⟩ => exact close S6 fun t7 J7 => ⟨_, _, J7, q6⟩
          | .ret u, ⟨_, _, _, S6, r6, q6⟩ => exact close S6 fun t7 J7 => ⟨_, _, _, J7, r6, q6⟩
    exact walk hh wish
  refine wpAny_Try_except (wpAny_mono nested (fun fl t1 done => ?_) fun e t1 z => z)
  match fl, done with
  | .next, ⟨_, _, J, q⟩ => exact wpAny_execs_nil ⟨_, _, J.ofTry fine, q⟩
  | .brk, ⟨_, _, J, q⟩ => exact ⟨_, _, J.ofTry fine, q⟩
  | .cont, ⟨_, _, J, q⟩ => exact ⟨_, _, J.ofTry fine, q⟩
  | .ret u, ⟨_, _, _, J, r, q⟩ => exact ⟨_, _, _, J.ofTry fine, r, q⟩
end
end Ver
/-! Ver, 12: data without dicts compared; walks over a list or a tuple, whichever a name holds; both forms of a binary rule -/
namespace Ver
open PySem PySem.Spec PyProof.Rows L2
section
variable {K : PySem.W.Frag} {H : Hp}
mutual
theorem dp_plain : ∀ {v : V} {d : PyData}, Dp K H v d → d.plain = true
  | _, _, .non => rfl
  | _, _, .bl _ => rfl
  | _, _, .int _ => rfl
  | _, _, .str _ => rfl
  | _, _, .lst _ q => dps_plain q
  | _, _, .tup _ q => dps_plain q
theorem dps_plain : ∀ {vs : List V} {ds : List PyData}, DpAll K H vs ds → PyData.plainAll ds = true
  | _, _, .nil => rfl
  | _, _, .cons h t => by
    show (PyData.plain _ && PyData.plainAll _) = true
    rw [dp_plain h, dps_plain t]
    rfl
end
theorem dps_strs : ∀ (ws : List Str), DpAll K H (ws.map V.str) (ws.map PyData.str)
  | [] => .nil
  | w :: r => .cons (.str w) (dps_strs r)
theorem dps_ints : ∀ (ns : List Int), DpAll K H (ns.map V.int) (ns.map PyData.int)
  | [] => .nil
  | n :: r => .cons (.int n) (dps_ints r)
theorem dp_tupS {a : Addr} {ws : List Str} (h : H a = some (.tup (ws.map V.str))) : Dp K H (.ref a) (.tuple (ws.map .str)) := .tup (SqT.of h) (dps_strs ws)
theorem dp_lstS {a : Addr} {ws : List Str} (h : H a = some (.lst (ws.map V.str))) : Dp K H (.ref a) (.list (ws.map .str)) := .lst (SqL.of h) (dps_strs ws)
end
/-- texts, as data -/
def txtsD (ws : List Str) : PyData := .tuple (ws.map .str)
theorem depth_strs : ∀ ws : List Str, PyData.depthAll (ws.map .str) = 0
  | [] => rfl
  | w :: r => by
    show max (PyData.depth (.str w)) (PyData.depthAll (r.map .str)) = 0
    rw [depth_strs r]
    rfl
theorem depth_ints : ∀ ws : List Int, PyData.depthAll (ws.map .int) = 0
  | [] => rfl
  | w :: r => by
    show max (PyData.depth (.int w)) (PyData.depthAll (r.map .int)) = 0
    rw [depth_ints r]
    rfl
theorem eqv_strs : ∀ ws us : List Str, PyData.eqvAll (ws.map .str) (us.map .str) = decide (ws = us)
  | [], [] => by simp [PyData.eqvAll]
  | [], _ :: _ => by simp [PyData.eqvAll]
  | _ :: _, [] => by simp [PyData.eqvAll]
  | w :: ws, u :: us => by
    show (PyData.eqv (.str w) (.str u) && PyData.eqvAll (ws.map .str) (us.map .str)) = _
    rw [eqv_strs ws us]
    show ((w == u) && decide (ws = us)) = _
    by_cases h : w = u
    · subst h
      simp
    · have h' : (w == u) = false := by simpa using h
      rw [h']
      simp [h]
theorem eqv_txts (ws us : List Str) : PyData.eqv (txtsD ws) (txtsD us) = decide (ws = us) := eqv_strs ws us
section
variable {X : Cx}
/-- x == y, data without dicts -/
def rEqP (K : PySem.W.Frag) : R2 := fun x y H Q => ∃ d e, Dp K H x d ∧ Dp K H y e ∧ d.depth ≤ 60 ∧ Q (.bl (PyData.eqv d e)) H
theorem op_eqP (hu : X.A.units + 64 < cLine) : OpR X (compareOp .Eq) (rEqP X.K) := by
  rintro pins s σ H x y v u Q I rx ry ⟨d, e, hd, he, hz, q⟩
  obtain ⟨as, r1⟩ := Dp.reads I d x v hd rx
  obtain ⟨bs, r2⟩ := Dp.reads I e y u he ry
  exact SeqAt.eq_plain r1 r2 (dp_plain hd) (dp_plain he) (by omega) ⟨.bl _, H, I, rfl, q⟩
def rNeP (K : PySem.W.Frag) : R2 := fun x y H Q => ∃ d e, Dp K H x d ∧ Dp K H y e ∧ d.depth ≤ 60 ∧ Q (.bl (!PyData.eqv d e)) H
theorem op_neP (hu : X.A.units + 64 < cLine) : OpR X (compareOp .NotEq) (rNeP X.K) := by
  rintro pins s σ H x y v u Q I rx ry ⟨d, e, hd, he, hz, q⟩
  obtain ⟨as, r1⟩ := Dp.reads I d x v hd rx
  obtain ⟨bs, r2⟩ := Dp.reads I e y u he ry
  exact SeqAt.ne_plain r1 r2 (dp_plain hd) (dp_plain he) (by omega) ⟨.bl _, H, I, rfl, q⟩
/-- x not in [..], data without dicts -/
def rNotInP (K : PySem.W.Frag) : R2 := fun x y H Q => ∃ l xs ds d, y = .ref l ∧ SqL K H l xs ∧ DpAll K H xs ds ∧ Dp K H x d ∧ d.depth ≤ 60 ∧ Q (.bl (!ds.any fun e => PyData.eqv e d)) H
theorem op_notInP (hu : X.A.units + 64 < cLine) : OpR X (compareOp .NotIn) (rNotInP X.K) := by
  rintro pins s σ H x y v u Q I rx ry ⟨l, xs, ds, d, rfl, hl, hD, hd, hz, q⟩
  have hc : Dp X.K H (.ref l) (.list ds) := .lst hl hD
  obtain ⟨as, r1⟩ := Dp.reads I _ _ u hc ry
  obtain ⟨bs, r2⟩ := Dp.reads I d x v hd rx
  exact SeqAt.notIn_list_data r1 r2 (dps_plain hD) (dp_plain hd) (by omega) ⟨.bl _, H, I, rfl, q⟩
end
/-! ### both ways of an expression -/
/-- what follows may be told apart -/
def Dist (t : TE) : Prop := ∀ (σ : L2.St) (H : Hp) (A B : VK), (t σ H fun x h => A x h ∨ B x h) → t σ H A ∨ t σ H B
theorem dist_var (i : Nat) : Dist (tVar i) := by
  rintro σ H A B ⟨v, e, q | q⟩
  · exact .inl ⟨v, e, q⟩
  · exact .inr ⟨v, e, q⟩
/-- a list or a tuple is walked -/
def iSeq (K : PySem.W.Frag) (tl : TE) : TI := fun σ H R => tl σ H fun x H1 => (∃ a, x = .ref a ∧ (∃ xs, SqL K H1 a xs) ∧ R (Itl K a) H1) ∨ ∃ a, x = .ref a ∧ (∃ xs, SqT K H1 a xs) ∧ R (Itt K a) H1
section
variable {X : Cx} {tg l : Expr} {tl : TE}
theorem pi_seq (d : Dist tl) (h : PE X l tl) : PI X tg l (iSeq X.K tl) :=
  ⟨fun pins s σ H R I w => (d σ H _ _ w).elim (fun w => (pi_list h).run pins s σ H R I w) fun w => (pi_tup h).run pins s σ H R I w⟩
end
/-- .. in one way: b tells a tuple -/
def SqB (K : PySem.W.Frag) (H : Hp) (b : Bool) (a : Addr) (xs : List V) : Prop := if b = true then SqT K H a xs else SqL K H a xs
section
variable {K : PySem.W.Frag} {a : Addr} {xs : List V} {b : Bool}
theorem SqB.orr {H : Hp} (h : SqB K H b a xs) : SqL K H a xs ∨ SqT K H a xs := by
  cases b
  · exact .inl h
  · exact .inr h
/-- the loop's reading, a list or a tuple -/
def Itb (K : PySem.W.Frag) (b : Bool) (a : Addr) : It := if b = true then Itt K a else Itl K a
theorem walk_seq : Walk (Itb K b a) xs.length (fun H => SqB K H b a xs) (YAt xs) := by
  cases b
  · exact walk_list
  · exact walk_tup
theorem iSeq_mk {H1 : Hp} {R : It → Hp → Prop} (h : SqB K H1 b a xs) (q : R (Itb K b a) H1) :
    (∃ a', (V.ref a) = .ref a' ∧ (∃ xs, SqL K H1 a' xs) ∧ R (Itl K a') H1) ∨ ∃ a', (V.ref a) = .ref a' ∧ (∃ xs, SqT K H1 a' xs) ∧ R (Itt K a') H1 := by
  cases b
  · exact .inl ⟨a, rfl, ⟨xs, h⟩, q⟩
  · exact .inr ⟨a, rfl, ⟨xs, h⟩, q⟩
end
end Ver
/-! Ver, 13: zip of two things, each a list or a tuple -/
namespace Ver
open PySem PySem.Spec PyProof.Rows L2
open PySem.Sem (wp)
/-- a list (no) or a tuple (yes) at a -/
def Sqq (h : Heap) (b : Bool) (a : Addr) (xs : Array Value) : Prop := match b with
  | true => h.IsTuple a xs
  | false => h.IsList a xs
/-- its iterator at it, i items told -/
def Itq (h : Heap) (b : Bool) (it a : Addr) (i : Nat) : Prop := match b with
  | true => h.IsTupleIter it a i
  | false => h.IsListIter it a i
section
variable {h h' : Heap} {b : Bool} {a it c : Addr} {i : Nat} {xs : Array Value}
theorem Sqq.but (x : Sqq h b a xs) (k : Heap.ExtBut c h h') (n : a ≠ c) : Sqq h' b a xs := match b, x with
  | true, x => Heap.IsTuple.extBut x k n
  | false, x => Heap.IsList.extBut x k n
theorem Itq.but (x : Itq h b it a i) (k : Heap.ExtBut c h h') (n : it ≠ c) : Itq h' b it a i := match b, x with
  | true, ⟨o, e, r⟩ => ⟨o, k _ _ n e, r⟩
  | false, ⟨o, e, r⟩ => ⟨o, k _ _ n e, r⟩
theorem Itq.at (x : Itq h b it a i) (k : ∀ o, h.get? it = some o → h'.get? it = some o) : Itq h' b it a i := match b, x with
  | true, ⟨o, e, r⟩ => ⟨o, k _ e, r⟩
  | false, ⟨o, e, r⟩ => ⟨o, k _ e, r⟩
theorem Itq.lt (x : Itq h b it a i) : it < h.objs.size := match b, x with
  | true, ⟨_, e, _⟩ => Heap.lt_size e
  | false, ⟨_, e, _⟩ => Heap.lt_size e
theorem Itq.rec_ (x : Itq h b it a i) : ∃ o vs, h.get? it = some o ∧ o.data = .fields vs := match b, x with
  | true, ⟨o, e, _, d⟩ => ⟨o, _, e, d⟩
  | false, ⟨o, e, _, d⟩ => ⟨o, _, e, d⟩
theorem Sqq.lt (x : Sqq h b a xs) : a < h.objs.size := match b, x with
  | true, ⟨_, e, _⟩ => Heap.lt_size e
  | false, ⟨_, e, _⟩ => Heap.lt_size e
end
section
variable {prog : Program} {w : World} {A : Around} {E : Value → Shared → Prop} {s : Shared} {b1 b2 : Bool}
theorem draw_one {b : Bool} {it a : Addr} {i : Nat} {xs : Array Value} {x : Value} {Q : Value → Shared → Prop} (t : Itq s.heap b it a i) (l : Sqq s.heap b a xs) (e : xs[i]? = some x)
    (q : ∀ h', Itq h' b it a (i + 1) → Heap.SameBut it s.heap h' → Q x { s with heap := h' }) : wpAny (model prog w) A (Builtin.SmallTypes.nextOf (.ref it)) Q E s := match b, t, l, q with
  | true, t, l, q => RZ.nextOf_tuple_item t l e q
  | false, t, l, q => wpAny_nextOf_list_item t l e q
theorem draw_none {b : Bool} {it a : Addr} {i : Nat} {xs : Array Value} {Q : Value → Shared → Prop} (calm : A.handled = none) (t : Itq s.heap b it a i) (l : Sqq s.heap b a xs) (e : xs[i]? = none)
    (q : ∀ h' e, Heap.ExtBut it s.heap h' → (∃ o, h'.get? e = some o ∧ o.cls = .type "StopIteration") → E (.ref e) { s with heap := h' }) : wpAny (model prog w) A (Builtin.SmallTypes.nextOf (.ref it)) Q E s := match b, t, l with
  | true, t, l => RZ.nextOf_tuple_end calm t l e q
  | false, t, l => wpAny_nextOf_list_end calm t l e q
/-- what stands at the five objects of a zip -/
structure Zq (h : Heap) (zp tI tO i1 i2 a1 a2 : Addr) (b1 b2 : Bool) (k : Nat) (f : Value) (u v : Value) : Prop where
  rec_ : IsZip h zp tI tO f
  its : IsPair h tI (.ref i1) (.ref i2)
  out : IsPair h tO u v
  t1 : Itq h b1 i1 a1 k
  t2 : Itq h b2 i2 a2 k
abbrev Off4 (zp tO i1 i2 : Addr) (h h' : Heap) : Prop := ∀ c o, c ≠ zp → c ≠ tO → c ≠ i1 → c ≠ i2 → h.get? c = some o → h'.get? c = some o
theorem zipq_some {zp tI tO i1 i2 a1 a2 : Addr} {k : Nat} {xs ys : Array Value} {x y u v : Value} {Q : Value → Shared → Prop} (D : ZipApart zp tI tO i1 i2 a1 a2) (Z : Zq s.heap zp tI tO i1 i2 a1 a2 b1 b2 k .none u v)
    (l1 : Sqq s.heap b1 a1 xs) (l2 : Sqq s.heap b2 a2 ys) (ex : xs[k]? = some x) (ey : ys[k]? = some y)
    (q : ∀ h', Zq h' zp tI tO i1 i2 a1 a2 b1 b2 (k + 1) (rawInt s.heap.objs.size) x y → IsPair h' s.heap.objs.size x y → h'.objs.size = s.heap.objs.size + 1 → Off4 zp tO i1 i2 s.heap h' → Q (.ref s.heap.objs.size) { s with heap := h' }) :
    wpAny (model prog w) A (Builtin.«zip.__next__» ⟨[.ref zp], []⟩) (fun fin s' => ∃ v, fin = .done (.ret v) ∧ Q v s') E s := by
  obtain ⟨hz, hI, hO, t1, t2⟩ := Z
  show wpAny _ _ (field (.ref zp) 2 >>= _) _ _ _
  refine wpAny_bind (wpAny_field hz rfl (x := .bool false) rfl (show wpAny _ _ (field (.ref zp) 3 >>= _) _ _ _ from ?_))
  refine wpAny_bind (wpAny_field hz rfl (x := .ref tI) rfl (wpAny_bind (wpAny_seqItems hI rfl (show wpAny _ _ (Builtin.SmallTypes.ownedTupleIsFree (.ref zp) >>= _) _ _ _ from ?_))))
  refine wpAny_bind ?_
  (unfold Builtin.SmallTypes.ownedTupleIsFree; refine wpAny_bind (wpAny_field hz rfl (x := .none) rfl (wpAny_pure ?_)))
  simp only [if_true]
  refine wpAny_bind (wpAny_rule (wpAny_bind (wpAny_field hz rfl (x := .ref tO) rfl (wpAny_bind (wpAny_setField_rec hz (by simp) fun g1 z1 m1 => ?_)))))
  replace z1 : IsZip g1 zp tI tO .ellipsis := z1
  refine wpAny_bind ?_
  (simp only [List.zipIdx_nil, List.forIn_nil, List.zipIdx_cons, List.forIn_cons])
  -- the first one's item
  refine wpAny_bind (wpAny_bind (wpAny_onRaise (show wpAny _ _ (Builtin.SmallTypes.nextOf (.ref i1) >>= _) _ _ _ from ?_)))
  refine wpAny_bind (draw_one (t1.but m1.extBut D.i1z) (l1.but m1.extBut D.l1z) ex fun g2 t1' m2 => wpAny_pure ?_)
  have o2 : IsPair g2 tO u v := m2.extBut _ _ D.TOi1 (m1.extBut _ _ D.TOz hO)
  refine wpAny_bind (wpAny_seqItems o2 rfl (wpAny_bind (wpAny_updateSeq_pair o2 fun g3 o3 m3 => ?_)))
  replace o3 : IsPair g3 tO x v := o3
  refine wpAny_bind (wpAny_letGo (wpAny_pure ?_))
  -- the second one's
  refine wpAny_bind (wpAny_bind (wpAny_onRaise (show wpAny _ _ (Builtin.SmallTypes.nextOf (.ref i2) >>= _) _ _ _ from ?_)))
  have t2' : Itq g3 b2 i2 a2 k := ((t2.but m1.extBut D.i2z).but m2.extBut D.i12.symm).but m3.extBut D.TOi2.symm
  have l2' : Sqq g3 b2 a2 ys := ((l2.but m1.extBut D.l2z).but m2.extBut D.l2i1).but m3.extBut D.l2TO
  refine wpAny_bind (draw_one t2' l2' ey fun g4 t2'' m4 => wpAny_pure ?_)
  have o4 : IsPair g4 tO x v := m4.extBut _ _ D.TOi2 o3
  refine wpAny_bind (wpAny_seqItems o4 rfl (wpAny_bind (wpAny_updateSeq_pair o4 fun g5 o5 m5 => ?_)))
  replace o5 : IsPair g5 tO x y := o5
  refine wpAny_bind (wpAny_letGo (wpAny_pure (wpAny_pure (wpAny_bind (wpAny_seqItems o5 rfl (wpAny_bind (wpAny_newTuple ?_)))))))
  -- what has been kept so far
  have size5 : g5.objs.size = s.heap.objs.size := m5.1.trans (m4.1.trans (m3.1.trans (m2.1.trans m1.1)))
  have z5 : IsZip g5 zp tI tO .ellipsis := m5.extBut _ _ D.TOz.symm (m4.extBut _ _ D.i2z.symm (m3.extBut _ _ D.TOz.symm (m2.extBut _ _ D.i1z.symm z1)))
  have kept5 : Off4 zp tO i1 i2 s.heap g5 := fun c o n1 n2 n3 n4 e => m5.extBut _ _ n2 (m4.extBut _ _ n4 (m3.extBut _ _ n2 (m2.extBut _ _ n3 (m1.extBut _ _ n1 e))))
  have u1 : Itq g5 b1 i1 a1 (k + 1) := ((t1'.but m3.extBut D.TOi1.symm).but m4.extBut D.i12).but m5.extBut D.TOi1.symm
  have u2 : Itq g5 b2 i2 a2 (k + 1) := t2''.but m5.extBut D.TOi2.symm
  refine wpAny_bind (show wpAny _ _ (Builtin.SmallTypes.ownedTupleHandOut (.ref zp) (.ref g5.objs.size)) _ _ _ from ?_)
  unfold Builtin.SmallTypes.ownedTupleHandOut
  have z6 : IsZip (g5.push { cls := .type "tuple", data := .seq #[x, y] }) zp tI tO .ellipsis := Heap.get?_push_of_some _ z5
  refine wpAny_bind (wpAny_setField_rec z6 (by simp) fun g7 z7 m7 => ?_)
  replace z7 : IsZip g7 zp tI tO (rawInt g5.objs.size) := z7
  refine wpAny_setField_rec z7 (by simp) fun g8 z8 m8 => ?_
  replace z8 : IsZip g8 zp tI tO (rawInt g5.objs.size) := z8
  have up : ∀ c o, c ≠ zp → g5.get? c = some o → g8.get? c = some o := fun c o n e => m8.extBut _ _ n (m7.extBut _ _ n (Heap.get?_push_of_some _ e))
  have new8 : IsPair g8 g5.objs.size x y := m8.extBut _ _ (Nat.ne_of_gt (Heap.lt_size z5)) (m7.extBut _ _ (Nat.ne_of_gt (Heap.lt_size z5)) (Heap.get?_push_size _ rfl))
  have size8 : g8.objs.size = g5.objs.size + 1 := m8.1.trans (m7.1.trans (Heap.size_push ..))
  rw [size5] at z8 new8 size8
  refine wpAny_pure ⟨_, rfl, ?_⟩
  show Q (.ref g5.objs.size) _
  rw [size5]
  have hI5 : IsPair g5 tI (.ref i1) (.ref i2) := kept5 _ _ D.TIz D.TITO D.TIi1 D.TIi2 hI
  exact q g8 ⟨z8, up _ _ D.TIz hI5, up _ _ D.TOz o5, u1.at fun o e => up _ o D.i1z e, u2.at fun o e => up _ o D.i2z e⟩ new8 size8 fun c o n1 n2 n3 n4 e => up c o n1 (kept5 c o n1 n2 n3 n4 e)
theorem zipq_none {zp tI tO i1 i2 a1 a2 : Addr} {k : Nat} {xs ys : Array Value} {u v : Value} {Q : Fin → Shared → Prop} (calm : A.handled = none) (D : ZipApart zp tI tO i1 i2 a1 a2) (Z : Zq s.heap zp tI tO i1 i2 a1 a2 b1 b2 k .none u v)
    (l1 : Sqq s.heap b1 a1 xs) (l2 : Sqq s.heap b2 a2 ys) (last : xs[k]? = none ∨ ys[k]? = none)
    (q : ∀ h' e, Off4 zp tO i1 i2 s.heap h' → (∃ o, h'.get? e = some o ∧ o.cls = .type "StopIteration") → E (.ref e) { s with heap := h' }) : wpAny (model prog w) A (Builtin.«zip.__next__» ⟨[.ref zp], []⟩) Q E s := by
  obtain ⟨hz, hI, hO, t1, t2⟩ := Z
  show wpAny _ _ (field (.ref zp) 2 >>= _) _ _ _
  refine wpAny_bind (wpAny_field hz rfl (x := .bool false) rfl (show wpAny _ _ (field (.ref zp) 3 >>= _) _ _ _ from ?_))
  refine wpAny_bind (wpAny_field hz rfl (x := .ref tI) rfl (wpAny_bind (wpAny_seqItems hI rfl (show wpAny _ _ (Builtin.SmallTypes.ownedTupleIsFree (.ref zp) >>= _) _ _ _ from ?_))))
  refine wpAny_bind ?_
  (unfold Builtin.SmallTypes.ownedTupleIsFree; refine wpAny_bind (wpAny_field hz rfl (x := .none) rfl (wpAny_pure ?_)))
  simp only [if_true]
  refine wpAny_bind (wpAny_rule (wpAny_bind (wpAny_field hz rfl (x := .ref tO) rfl (wpAny_bind (wpAny_setField_rec hz (by simp) fun g1 z1 m1 => ?_)))))
  replace z1 : IsZip g1 zp tI tO .ellipsis := z1
  refine wpAny_bind ?_
  (simp only [List.zipIdx_nil, List.forIn_nil, List.zipIdx_cons, List.forIn_cons])
  refine wpAny_bind (wpAny_bind (wpAny_onRaise (show wpAny _ _ (Builtin.SmallTypes.nextOf (.ref i1) >>= _) _ _ _ from ?_)))
  have stop : ∀ {g : Heap} {e : Addr}, IsZip g zp tI tO .ellipsis → (∃ o, g.get? e = some o ∧ o.cls = .type "StopIteration") → e ≠ zp := fun {g e} zz he n => by
    obtain ⟨o, e1, e2⟩ := he
    rw [n] at e1
    cases (zz.symm.trans e1)
    simp at e2
  cases ex : xs[k]? with
  | none =>
    refine wpAny_bind (draw_none calm (t1.but m1.extBut D.i1z) (l1.but m1.extBut D.l1z) ex fun g2 e m2 he => ?_)
    have z2 : IsZip g2 zp tI tO .ellipsis := m2 _ _ D.i1z.symm z1
    have ne := stop z2 he
    obtain ⟨oe, he1, he2⟩ := he
    exact wpAny_setField_rec z2 (by simp) fun g3 _ m3 => q g3 e (fun c o n1 _ n3 _ x => m3.extBut _ _ n1 (m2 _ _ n3 (m1.extBut _ _ n1 x))) ⟨oe, m3.extBut _ _ ne he1, he2⟩
  | some x =>
    have ey : ys[k]? = none := last.resolve_left fun z => by rw [ex] at z; cases z
    refine wpAny_bind (draw_one (t1.but m1.extBut D.i1z) (l1.but m1.extBut D.l1z) ex fun g2 t1' m2 => wpAny_pure ?_)
    have o2 : IsPair g2 tO u v := m2.extBut _ _ D.TOi1 (m1.extBut _ _ D.TOz hO)
    refine wpAny_bind (wpAny_seqItems o2 rfl (wpAny_bind (wpAny_updateSeq_pair o2 fun g3 o3 m3 => ?_)))
    refine wpAny_bind (wpAny_letGo (wpAny_pure ?_))
    refine wpAny_bind (wpAny_bind (wpAny_onRaise (show wpAny _ _ (Builtin.SmallTypes.nextOf (.ref i2) >>= _) _ _ _ from ?_)))
    have t2' : Itq g3 b2 i2 a2 k := ((t2.but m1.extBut D.i2z).but m2.extBut D.i12.symm).but m3.extBut D.TOi2.symm
    have l2' : Sqq g3 b2 a2 ys := ((l2.but m1.extBut D.l2z).but m2.extBut D.l2i1).but m3.extBut D.l2TO
    refine wpAny_bind (draw_none calm t2' l2' ey fun g4 e m4 he => ?_)
    have z4 : IsZip g4 zp tI tO .ellipsis := m4 _ _ D.i2z.symm (m3.extBut _ _ D.TOz.symm (m2.extBut _ _ D.i1z.symm z1))
    have ne := stop z4 he
    obtain ⟨oe, he1, he2⟩ := he
    exact wpAny_setField_rec z4 (by simp) fun g5 _ m5 => q g5 e (fun c o n1 n2 n3 n4 x => m5.extBut _ _ n1 (m4 _ _ n4 (m3.extBut _ _ n2 (m2.extBut _ _ n3 (m1.extBut _ _ n1 x))))) ⟨oe, m5.extBut _ _ ne he1, he2⟩
theorem next_some {zp tI tO i1 i2 a1 a2 : Addr} {k : Nat} {xs ys : Array Value} {x y u v : Value} {Q : Option Value → Shared → Prop} (D : ZipApart zp tI tO i1 i2 a1 a2) (Z : Zq s.heap zp tI tO i1 i2 a1 a2 b1 b2 k .none u v)
    (l1 : Sqq s.heap b1 a1 xs) (l2 : Sqq s.heap b2 a2 ys) (ex : xs[k]? = some x) (ey : ys[k]? = some y)
    (q : ∀ h', Zq h' zp tI tO i1 i2 a1 a2 b1 b2 (k + 1) (rawInt s.heap.objs.size) x y → IsPair h' s.heap.objs.size x y → h'.objs.size = s.heap.objs.size + 1 → Off4 zp tO i1 i2 s.heap h' → Q (some (.ref s.heap.objs.size)) { s with heap := h' }) :
    wpAny (model prog w) A (pyNext (.ref zp)) Q E s := by
  have ty : s.TypeIs (.ref zp) "zip" := ⟨_, Z.rec_, rfl⟩
  unfold pyNext
  exact wpAny_bind (wpAny_attempt (wpAny_callSpecial?_slot (name := Str.ofString "__next__") ty F.slot_zip_next (wpAny_call_entry F.slot_zip_next ty F.entry_zip_next
    (zipq_some D Z l1 l2 ex ey fun h' r1 r2 r3 r4 => wpAny_pure (q h' r1 r2 r3 r4)) (F.args_zip_next_1 _))))
theorem next_none {zp tI tO i1 i2 a1 a2 : Addr} {k : Nat} {xs ys : Array Value} {u v : Value} {Q : Option Value → Shared → Prop} (calm : A.handled = none) (D : ZipApart zp tI tO i1 i2 a1 a2) (Z : Zq s.heap zp tI tO i1 i2 a1 a2 b1 b2 k .none u v)
    (l1 : Sqq s.heap b1 a1 xs) (l2 : Sqq s.heap b2 a2 ys) (last : xs[k]? = none ∨ ys[k]? = none) (q : ∀ h', Off4 zp tO i1 i2 s.heap h' → Q none { s with heap := h' }) : wpAny (model prog w) A (pyNext (.ref zp)) Q E s := by
  have ty : s.TypeIs (.ref zp) "zip" := ⟨_, Z.rec_, rfl⟩
  unfold pyNext
  refine wpAny_bind (wpAny_attempt (wpAny_callSpecial?_slot (name := Str.ofString "__next__") ty F.slot_zip_next (wpAny_call_entry F.slot_zip_next ty F.entry_zip_next
    (zipq_none calm D Z l1 l2 last fun h' e off he => ?_) (F.args_zip_next_1 _))))
  obtain ⟨o, e1, e2⟩ := he
  exact wpAny_bind (wpAny_isInstance (T := "StopIteration") (b := true) ⟨o, e1, e2⟩ isSubtype_stop (wpAny_pure (q _ off)))
end
/-! ### zip(t, l): a tuple and a list -/
abbrev zq1 (h : Heap) (a1 : Addr) : Heap := h.push { cls := .type "tuple_iterator", data := .fields #[.ref a1, .int 0 0] }
abbrev zq2 (h : Heap) (a1 a2 : Addr) : Heap := (zq1 h a1).push { cls := .type "list_iterator", data := .fields #[.ref a2, .int 0 0] }
abbrev zq3 (h : Heap) (a1 a2 : Addr) : Heap := (zq2 h a1 a2).push { cls := .type "tuple", data := .seq #[.ref h.objs.size, .ref (zq1 h a1).objs.size] }
abbrev zq4 (h : Heap) (a1 a2 : Addr) : Heap := (zq3 h a1 a2).push { cls := .type "tuple", data := .seq #[.none, .none] }
abbrev zq5 (h : Heap) (a1 a2 : Addr) : Heap := (zq4 h a1 a2).push { cls := .type "zip", data := .fields #[.none, .bool false, .bool false, .ref (zq2 h a1 a2).objs.size, .ref (zq3 h a1 a2).objs.size] }
theorem meets_zipq (a1 a2 : Addr) (xs ys : Array Value) :
    Meets (Builtin.«zip.__new__» ⟨[.type "zip", .ref a1, .ref a2], []⟩) (fun _ R s => s.heap.IsTuple a1 xs ∧ s.heap.IsList a2 ys ∧ R (.ok (.ret (.ref (zq4 s.heap a1 a2).objs.size))) { s with heap := zq5 s.heap a1 a2 }) :=
  .of_wp fun prog w A R s h => by
    obtain ⟨hp, g, d, tk, os⟩ := s
    obtain ⟨p1, p2, h⟩ := h
    have sz := sub_zip
    have q1 : Heap.IsTuple (Shared.heap ⟨hp, g, d, tk, os⟩) a1 xs := p1
    have q2 : Heap.IsList (Shared.heap ⟨zq1 hp a1, g, d, tk, os⟩) a2 ys := Heap.IsList.push p2 _
    wp_walk using wpAny_pyIter_tuple q1, wpAny_pyIter_list q2
    exact ⟨_, rfl, h⟩
section
variable {prog : Program} {w : World} {A : Around} {E : Value → Shared → Prop} {s : Shared}
theorem call_zipq {a1 a2 : Addr} {xs ys : Array Value} {Q : Value → Shared → Prop} (p1 : s.heap.IsTuple a1 xs) (p2 : s.heap.IsList a2 ys)
    (q : ∀ h', Zq h' (s.heap.objs.size + 4) (s.heap.objs.size + 2) (s.heap.objs.size + 3) s.heap.objs.size (s.heap.objs.size + 1) a1 a2 true false 0 .none .none .none → (∀ c o, s.heap.get? c = some o → h'.get? c = some o) → Q (.ref (s.heap.objs.size + 4)) { s with heap := h' }) :
    wpAny (model prog w) A (call (.type "zip") [.ref a1, .ref a2]) Q E s := by
  refine callType_new F.called_zip (by decide) (F.typeCall_zip_2 _ _) (F.newCall_zip_2 _ _) (fun obj => F.args_object_init_3 obj _ _) F.entry_zip_new (meets_zipq a1 a2 xs ys) ⟨p1, p2, ?_⟩
  have n1 : (zq1 s.heap a1).objs.size = s.heap.objs.size + 1 := Heap.size_push ..
  have n2 : (zq2 s.heap a1 a2).objs.size = s.heap.objs.size + 2 := (Heap.size_push ..).trans (congrArg (· + 1) n1)
  have n3 : (zq3 s.heap a1 a2).objs.size = s.heap.objs.size + 3 := (Heap.size_push ..).trans (congrArg (· + 1) n2)
  have n4 : (zq4 s.heap a1 a2).objs.size = s.heap.objs.size + 4 := (Heap.size_push ..).trans (congrArg (· + 1) n3)
  have at4 : (zq5 s.heap a1 a2).get? (zq4 s.heap a1 a2).objs.size = some _ := Heap.get?_push_size _ rfl
  have up5 : ∀ {c : Addr} {o : Obj}, (zq4 s.heap a1 a2).get? c = some o → (zq5 s.heap a1 a2).get? c = some o := fun e => Heap.get?_push_of_some _ e
  have up4 : ∀ {c : Addr} {o : Obj}, (zq3 s.heap a1 a2).get? c = some o → (zq4 s.heap a1 a2).get? c = some o := fun e => Heap.get?_push_of_some _ e
  have up3 : ∀ {c : Addr} {o : Obj}, (zq2 s.heap a1 a2).get? c = some o → (zq3 s.heap a1 a2).get? c = some o := fun e => Heap.get?_push_of_some _ e
  have up2 : ∀ {c : Addr} {o : Obj}, (zq1 s.heap a1).get? c = some o → (zq2 s.heap a1 a2).get? c = some o := fun e => Heap.get?_push_of_some _ e
  have at3 : (zq5 s.heap a1 a2).get? (zq3 s.heap a1 a2).objs.size = some _ := up5 (Heap.get?_push_size _ rfl)
  have at2 : (zq5 s.heap a1 a2).get? (zq2 s.heap a1 a2).objs.size = some _ := up5 (up4 (Heap.get?_push_size _ rfl))
  have at1 : (zq5 s.heap a1 a2).get? (zq1 s.heap a1).objs.size = some _ := up5 (up4 (up3 (Heap.get?_push_size _ rfl)))
  have at0 : (zq5 s.heap a1 a2).get? s.heap.objs.size = some _ := up5 (up4 (up3 (up2 (Heap.get?_push_size _ rfl))))
  rw [n4] at at4
  rw [n3] at at3
  rw [n2] at at2
  rw [n1] at at1
  show _ ∧ _
  rw [n4]
  rw [n2, n3] at at4
  rw [n1] at at2
  exact ⟨⟨_, at4, rfl⟩, q _ ⟨at4, at2, at3, ⟨_, at0, rfl, rfl⟩, ⟨_, at1, rfl, rfl⟩⟩ fun c o e => up5 (up4 (up3 (up2 (Heap.get?_push_of_some _ e))))⟩
end
/-- the tuple at a, the list at b, as they stand at each turn -/
def ItzQ (K : PySem.W.Frag) (a b : Addr) : It :=
  ⟨fun i H => ∃ (xs ys : List V) (x y : V), SqT K H a xs ∧ SqL K H b ys ∧ xs[i]? = some x ∧ ys[i]? = some y,
    fun i H v H' => ∃ T x y, v = .ref T ∧ H T = none ∧ H' = upd H T (.tup [x, y]) ∧ (∀ xs, SqT K H a xs → xs[i]? = some x) ∧ ∀ ys, SqL K H b ys → ys[i]? = some y,
    fun i H => ∃ xs ys : List V, SqT K H a xs ∧ SqL K H b ys ∧ (xs.length ≤ i ∨ ys.length ≤ i)⟩
theorem turn_zipq {P : Program} {w : World} {K : PySem.W.Frag} {elts : List Expr} {kk : Nat} {tpos : Pos} {a b zp tI tO i1 i2 : Addr} (D : ZipApart zp tI tO i1 i2 a b) :
    Turn P w K (.Tuple elts kk tpos) (ItzQ K a b) [zp, tI, tO, i1, i2] zp (fun i h => ∃ u v, Zq h zp tI tO i1 i2 a b true false i .none u v) where
  mem := by simp
  obj := by
    rintro i h ⟨u, v, Z⟩ c hc
    simp only [List.mem_cons, List.not_mem_nil, or_false] at hc
    rcases hc with rfl | rfl | rfl | rfl | rfl
    · exact ⟨_, Z.rec_, fun v q => nomatch q⟩
    · exact ⟨_, Z.its, fun v q => nomatch q⟩
    · exact ⟨_, Z.out, fun v q => nomatch q⟩
    · obtain ⟨o, vs, e, d⟩ := Z.t1.rec_
      exact ⟨o, e, fun v q => by rw [d] at q; cases q⟩
    · obtain ⟨o, vs, e, d⟩ := Z.t2.rec_
      exact ⟨o, e, fun v q => by rw [d] at q; cases q⟩
  keep := fun i h h' ⟨u, v, Z⟩ k => ⟨u, v, k zp (by simp) _ Z.rec_, k tI (by simp) _ Z.its, k tO (by simp) _ Z.out, Z.t1.at fun o q => k i1 (by simp) o q, Z.t2.at fun o q => k i2 (by simp) o q⟩
  item := by
    intro X hP hw hK hc i pins s σ H E I hf st hg
    subst hP hw hK
    obtain ⟨u, v, Z⟩ := st
    obtain ⟨xs, ys, x, y, hx, hy, gx, gy⟩ := hg
    obtain ⟨its, rv, p, _⟩ := I.tuple hx
    obtain ⟨jts, rw', p', _⟩ := I.list hy
    obtain ⟨ux, e1, r1⟩ := rv.get gx
    obtain ⟨uy, e2, r2⟩ := rw'.get gy
    refine next_some D Z (xs := its.toArray) (ys := jts.toArray) p p'.isList (x := ux) (y := uy) (by simpa using e1) (by simpa using e2) fun h' Z' new size off => ?_
    refine ⟨_, rfl, wpAny_letOwnedTupleGo_zip (s := { s with heap := h' }) Z'.rec_ fun h'' z'' but => ?_⟩
    have zlt : zp < s.heap.objs.size := Heap.lt_size Z.rec_
    have new2 : h''.get? s.heap.objs.size = some { cls := .type "tuple", data := .seq #[ux, uy] } := (but.2 _ (Nat.ne_of_gt zlt)).trans new
    have ok2 : ObjOk X.prog X.w (upd H s.heap.objs.size (.tup [x, y])) h'' s.heap.objs.size (.tup [x, y]) := ⟨by show 2 ≤ sizeLine; decide, [ux, uy], .cons r1 (.cons r2 .nil), ⟨_, new2, rfl, _, rfl⟩⟩
    have J : Inv X pins σ (upd H s.heap.objs.size (.tup [x, y])) { s with heap := h'' } := I.turnedNew (t' := s.toks) (ch := [zp, tI, tO, i1, i2])
      (fun c o nc q => (but.2 c fun z => nc (by simp [z])).trans (off c o (fun z => nc (by simp [z])) (fun z => nc (by simp [z])) (fun z => nc (by simp [z])) (fun z => nc (by simp [z])) q)) hf (Nat.le_refl _) ok2
    refine ⟨.ref s.heap.objs.size, _, J, rfl, ⟨_, x, y, rfl, I.hok.fresh (Nat.le_refl _), rfl, fun l hl => by rw [I.tuple_inj hl hx]; exact gx, fun l hl => by rw [I.list_inj hl hy]; exact gy⟩, ⟨ux, uy, z'', ?_, ?_, ?_, ?_⟩, fun c hcm => ?_⟩
    · exact (but.2 _ D.TIz).trans Z'.its
    · exact (but.2 _ D.TOz).trans Z'.out
    · exact Z'.t1.at fun o q => (but.2 _ D.i1z).trans q
    · exact Z'.t2.at fun o q => (but.2 _ D.i2z).trans q
    · have low : c < s.heap.objs.size := by
        simp only [List.mem_cons, List.not_mem_nil, or_false] at hcm
        rcases hcm with rfl | rfl | rfl | rfl | rfl
        · exact zlt
        · exact Heap.lt_size Z.its
        · exact Heap.lt_size Z.out
        · exact Z.t1.lt
        · exact Z.t2.lt
      rw [upd_ne (Nat.ne_of_lt low)]
      exact (hf c hcm).1
  done := by
    intro X hP hw hK hc i pins s σ H E I hf st hg
    subst hP hw hK
    obtain ⟨u, v, Z⟩ := st
    obtain ⟨xs, ys, hx, hy, last⟩ := hg
    obtain ⟨its, rv, p, _⟩ := I.tuple hx
    obtain ⟨jts, rw', p', _⟩ := I.list hy
    have n1 := rv.length
    have n2 := rw'.length
    have stop : its.toArray[i]? = none ∨ jts.toArray[i]? = none := last.imp (fun q => by simp; omega) fun q => by simp; omega
    exact next_none (I.ok.hd hc) D Z (xs := its.toArray) (ys := jts.toArray) p p'.isList stop fun h' off => ⟨rfl, I.turnedL (t' := s.toks) (ch := [zp, tI, tO, i1, i2])
      (fun c o nc q => off c o (fun z => nc (by simp [z])) (fun z => nc (by simp [z])) (fun z => nc (by simp [z])) (fun z => nc (by simp [z])) q) hf⟩
  self := fun A i s Q E ⟨_, _, Z⟩ h => wpAny_pyIter_zip Z.rec_ h
/-- zip(t, l), both tuples or a tuple and a list -/
def iZipQ (K : PySem.W.Frag) (ta : TA) : TI := fun σ H R => ta σ H fun vs H1 => ∃ a b xs ys, vs = [.ref a, .ref b] ∧ SqT K H1 a xs ∧ ((SqT K H1 b ys ∧ R (RZ.ItzT K a b) H1) ∨ (SqL K H1 b ys ∧ R (ItzQ K a b) H1))
theorem five {n c : Nat} (h : c ∈ [n + 4, n + 2, n + 3, n, n + 1]) : n ≤ c := by
  simp only [List.mem_cons, List.not_mem_nil, or_false] at h
  omega
theorem pi_zipQ {X : Cx} {e e2 : Expr} {ta : TA} {p pos tpos : Pos} {elts : List Expr} {kk : Nat} (hg : Gl X "zip") (hm : X.mg "zip" = none) (ha : PA X [e, e2] ta)
    (hs : starEach [e, e2] X.env = (false, eval e X.env) :: starEach [e2] X.env := by rfl) (hpl : (backTo pos (starEach [e2] X.env)).any (·.1) = false := by rfl) :
    PI X (.Tuple elts kk tpos) (.Call (.Name "zip" p) [e, e2] [] pos) (iZipQ X.K ta) := by
  refine ⟨fun pins s σ H R I h => ?_⟩
  refine Call_ (ld_blt I hg hm PyProof.Rows.boot_zip (PyProof.Rows.callWith_type1 (thn (ha.run pos pins s σ H _ I h) ?_) hs hpl))
  rintro us s1 ⟨vs, H1, I1, r1, a, b, xs, ys, rfl, hx, q⟩
  obtain ⟨u1, u2, rfl, ra, rb⟩ := vals2 r1
  obtain rfl : u1 = Value.ref a := ra
  obtain rfl : u2 = Value.ref b := rb
  obtain ⟨its, rv, p1, _⟩ := I1.tuple hx
  have low1 : a < s1.heap.objs.size := by
    obtain ⟨o, e, _⟩ := p1
    exact Heap.lt_size e
  have ok5 : ∀ c, c ∈ [s1.heap.objs.size + 4, s1.heap.objs.size + 2, s1.heap.objs.size + 3, s1.heap.objs.size, s1.heap.objs.size + 1] → FpOk X pins H1 c := fun c hc => I1.fpOk (five hc) (I1.hok.fresh (five hc))
  rcases q with ⟨hy, q⟩ | ⟨hy, q⟩
  · obtain ⟨jts, rw', p2, _⟩ := I1.tuple hy
    have low2 : b < s1.heap.objs.size := by
      obtain ⟨o, e, _⟩ := p2
      exact Heap.lt_size e
    refine RZ.call_zipT (show s1.heap.IsTuple a its.toArray from p1) (show s1.heap.IsTuple b jts.toArray from p2) fun h' hz hI hO t1 t2 _ kept => wpAny_pyIter_zip hz ?_
    exact ⟨_, _, _, _, H1, rfl, I1.kept (t' := s1.toks) kept, RZ.turn_zipT (PySem.W.ktu_apart s1.heap.objs.size a b low1 low2), ⟨hz, hI, ⟨_, _, hO⟩, t1, t2⟩, ok5, q⟩
  · obtain ⟨jts, rw', p2, _⟩ := I1.list hy
    refine call_zipq (show s1.heap.IsTuple a its.toArray from p1) p2.isList fun h' Z kept => wpAny_pyIter_zip Z.rec_ ?_
    exact ⟨_, _, _, _, H1, rfl, I1.kept (t' := s1.toks) kept, turn_zipq (PySem.W.ktu_apart s1.heap.objs.size a b low1 p2.lt), ⟨_, _, Z⟩, ok5, q⟩
section
variable {K : PySem.W.Frag} {a b : Addr} {xs ys : List V}
theorem walk_zipT (hl : xs.length = ys.length) : Walk (RZ.ItzT K a b) xs.length (fun H => SqT K H a xs ∧ SqT K H b ys) (YPair (fun i => xs[i]?) (fun i => ys[i]?)) := by
  refine ⟨fun i H hi q => ⟨xs, ys, xs[i], ys[i]'(by omega), q.1, q.2, by simp [hi], by simp [hl ▸ hi]⟩, fun H q => ⟨xs, ys, q.1, q.2, .inl (Nat.le_refl _)⟩, fun i H v H' hi q y => ?_⟩
  obtain ⟨T, x, y, e1, e2, e3, e4, e5⟩ := y
  exact ⟨T, x, y, e1, e2, e3, e4 xs q.1, e5 ys q.2⟩
theorem walk_zipQ (hl : xs.length = ys.length) : Walk (ItzQ K a b) xs.length (fun H => SqT K H a xs ∧ SqL K H b ys) (YPair (fun i => xs[i]?) (fun i => ys[i]?)) := by
  refine ⟨fun i H hi q => ⟨xs, ys, xs[i], ys[i]'(by omega), q.1, q.2, by simp [hi], by simp [hl ▸ hi]⟩, fun H q => ⟨xs, ys, q.1, q.2, .inl (Nat.le_refl _)⟩, fun i H v H' hi q y => ?_⟩
  obtain ⟨T, x, y, e1, e2, e3, e4, e5⟩ := y
  exact ⟨T, x, y, e1, e2, e3, e4 xs q.1, e5 ys q.2⟩
end
end Ver
/-! K12, 1: the draws -/
namespace K12
open PySem PySem.Spec PyProof.Rows L2 Ver
def top (i : Nat) : Stmt := PySem.Challenge.pw_shapeguess_k12_variants_applied.main.body.getD i (.Pass ⟨0, 0, 0, 0⟩)
abbrev sSource : Stmt := top 36
abbrev sPick : Stmt := top 37
abbrev sOf : Stmt := top 38
/-- the draws' dict -/
def dsrc (c : Addr) (l m t : Int) : List (Key × V) := [(Sum.inr "cells", .ref c), (Sum.inr "left", .int l), (Sum.inr "mixed", .int m), (Sum.inr "turn", .int t)]
/-- the draws' state: a dict at p, its list at c -/
def Src (p c : Addr) (H : Hp) : Prop := p ≠ c ∧ ∃ (ns : List Int) (l m t : Int), H p = some (.dK (dsrc c l m t)) ∧ H c = some (.lst (ns.map V.int)) ∧ ns.length ≤ 63
section
variable {H : Hp} {p c : Addr} {l m t : Int} (h : H p = some (.dK (dsrc c l m t)))
include h
theorem get_cells : DGet H p (.str "cells") (some (.ref c)) := DGet.k (k := Sum.inr "cells") h
theorem get_left : DGet H p (.str "left") (some (.int l)) := DGet.k (k := Sum.inr "left") h
theorem get_mixed : DGet H p (.str "mixed") (some (.int m)) := DGet.k (k := Sum.inr "mixed") h
theorem get_turn : DGet H p (.str "turn") (some (.int t)) := DGet.k (k := Sum.inr "turn") h
theorem put_left (z : Int) : DPut H p (.str "left") (.int z) (upd H p (.dK (dsrc c z m t))) := DPut.k (k := Sum.inr "left") (v := .int z) h (by show 4 < sizeLine; decide)
theorem put_turn (z : Int) : DPut H p (.str "turn") (.int z) (upd H p (.dK (dsrc c l m z))) := DPut.k (k := Sum.inr "turn") (v := .int z) h (by show 4 < sizeLine; decide)
end
/-- the two addresses that draws change -/
def Off (p c : Addr) : Addr → Prop := fun a => a = p ∨ a = c
/-- len(x), x a list or a tuple -/
def rLen (K : PySem.W.Frag) : List V → Hp → VK → Prop := fun xs H Q => ∃ p ys, xs = [V.ref p] ∧ (SqL K H p ys ∨ SqT K H p ys) ∧ Q (.int ys.length) H
theorem int_at {ns : List Int} {i : Nat} {y : V} (h : (ns.map V.int)[i]? = some y) : ∃ z, y = .int z := by
  rw [List.getElem?_map] at h
  obtain ⟨z, _, e⟩ := Option.map_eq_some_iff.mp h
  exact ⟨z, e.symm⟩
theorem merge4 (a b c d : V) : mergeK [] [(Sum.inr "cells", a), (Sum.inr "left", b), (Sum.inr "mixed", c), (Sum.inr "turn", d)] = ([(Sum.inr "cells", a), (Sum.inr "left", b), (Sum.inr "mixed", c), (Sum.inr "turn", d)] : List (Key × V)) := by
  rfl
def spSource (K : PySem.W.Frag) : Sp := fun vs H Q _ => ∃ (a : Addr) (ns : List Int), vs = [.ref a] ∧ SqL K H a (ns.map V.int) ∧ ns.length ≤ 63 ∧ ∀ p c H', Same H H' → H p = none → H c = none → Src p c H' → Q (.ref p) H'
def spPick : Sp := fun vs H Q _ => ∃ (p c : Addr) (many : Int), vs = [.ref p, .int many] ∧ Src p c H ∧ 1 ≤ many ∧ many ≤ 1000 ∧
  ∀ (r : Int) (H' : Hp), 0 ≤ r → r < many → Keep (Off p c) H H' → Src p c H' → Q (.int r) H'
structure Txt (mg : Str → Option Value) : Prop where
  len : mg "len" = none
  int : mg "int" = none
  abs : mg "abs" = none
  range : mg "range" = none
section
variable {P : Program} {w : World} {K : PySem.W.Frag} {mg : Str → Option Value} {base : Heap}
theorem scS : FnScope ["script", "mixed", "cell", "digits", "k"] ["script"] (defScope sSource) := ⟨rfl, rfl, rfl, by decide +kernel, rfl, by decide +kernel, by decide +kernel⟩
theorem ok_source {f : Addr} {fd : FuncData} (F : Fun K "_law_source" "_law_source" sSource f fd) (T : Txt mg) : FnOk P w K mg base CX0 1 f fd ["script"] (spSource K) := by
  refine F.ok scS (fun vs H Q E h => ?_) (fun cdv A outer s H vs Q E hr h => ?_)
  · obtain ⟨a, ns, rfl, _⟩ := h
    rfl
  · obtain ⟨a, ns, rfl, hS, hl, k⟩ := h
    refine ⟨_, pss_cons (ps_set (i := 1) scS.nd rfl (.inl rfl) pe_int)
      (pss_cons (ps_for PassesOwn.never rfl (pi_list (pv 0)) (pg_name (i := 2) scS.nd rfl (.inl rfl))
        (pss_one (ps_set (i := 1) scS.nd rfl (.inl rfl) (pe_op op_mod (pe_callTy call_int1 (by rfl) T.int (by decide +kernel)
          (pa_cons (pe_op op_add (pe_op op_add (pe_op op_mul (pv 1) pe_int) (pe_op op_mul (pv 2) pe_int)) pe_int) pa_nil)) pe_int))))
      (pss_cons (ps_set (i := 3) scS.nd rfl (.inr rfl) (pe_lc (own := [("cell", 2)]) (g := gName 2) (tt := tYes) rfl scS.nd (pi_list (pv 0))
        (blkOk_by (N := ["script", "mixed", "cell", "digits", "k"]) (sc := defScope sSource) (by decide +kernel)) (fun _ _ _ _ _ => pg_name (i := 2) scS.nd rfl (.inl rfl)) (fun _ _ _ _ _ => pts_nil)
        (fun _ _ _ _ _ => pe_callB call_abs (by rfl) T.abs (by decide +kernel) (pa_cons (pv 2) pa_nil))))
      (pss_one (ps_ret (pe_disp (pps_cons pe_str (pe_lc (own := [("k", 4)]) (g := gName 4) (tt := tYes) rfl scS.nd
          (pi_range1 (by rfl) T.range (pa_cons (pe_callB call_len_seq (by rfl) T.len PySem.boot_len (pa_cons (pv 3) pa_nil)) pa_nil))
          (blkOk_by (N := ["script", "mixed", "cell", "digits", "k"]) (sc := defScope sSource) (by decide +kernel)) (fun _ _ _ _ _ => pg_name (i := 4) scS.nd rfl (.inl rfl)) (fun _ _ _ _ _ => pts_nil)
          (fun _ _ _ _ _ => pe_ix (r := rIxL K) ix_list (pv 3) (pe_op op_sub (pe_op op_sub (pe_callB (r := rLen K) call_len_seq (by rfl) T.len PySem.boot_len (pa_cons (pv 3) pa_nil)) pe_int) (pv 4)) (fun _ _ => rfl)))
        (pps_cons pe_str pe_int (pps_cons pe_str (pv 1) (pps_cons pe_str pe_int pps_nil)))) (by rfl) (by rfl) (fun z => by cases z) (by decide)))))), ?_⟩
    -- mixed = 11; for cell in script
    refine ⟨_, rfl, a, rfl, ⟨_, hS⟩, for_list (K := K) (a := a) (xs := ns.map V.int) (fun i σ H2 => ∃ m v, σ = [some (.ref a), some (.int m), v, none, none] ∧ H2 = H ∧ 0 ≤ m ∧ m < 2147483629)
      ⟨11, none, rfl, rfl, by decide, by decide⟩ (fun i σ H2 _ ⟨_, _, _, e, _⟩ => e ▸ hS) ?_ ?_⟩
    · rintro i y σ H2 hi ⟨m, v, rfl, rfl, h0, h1⟩
      obtain ⟨z, rfl⟩ := int_at hi
      refine ⟨_, rfl, _, _, rfl, rfl, .inl ⟨by omega, by omega⟩, _, rfl, _, _, rfl, rfl, .inr ⟨by decide, by decide⟩, _, _, rfl, rfl, _, _, rfl, rfl, .inl ⟨_, rfl, _, _, rfl, rfl, by show (0 : Int) < 2147483629; decide, ?_⟩⟩
      exact ⟨_, _, rfl, rfl, Int.emod_nonneg _ (by decide), Int.emod_lt_of_pos _ (by decide)⟩
    · rintro σ H2 ⟨m, v, rfl, rfl, h0, h1⟩
      -- digits = [abs(cell) for cell in script]
      refine ⟨_, rfl, a, rfl, ⟨_, hS⟩, fun D nD => lc_list (K := K) (a := a) (xs := ns.map V.int) (fun i H3 => Same H2 H3 ∧ ∃ ms : List Int, H3 D = some (.lst (ms.map V.int)) ∧ ms.length = i)
        ⟨same_new nD, [], upd_same, rfl⟩ (fun i H3 _ ⟨sm, _⟩ => sm.seq hS) ?_ ?_⟩
      · rintro i y H3 hi ⟨sm, ms, hD, hm⟩
        obtain ⟨z, rfl⟩ := int_at hi
        have hil : i < ns.length := by
          have := (List.getElem?_eq_some_iff.mp hi).1
          rwa [List.length_map] at this
        refine ⟨rfl, _, rfl, _, rfl, _, hD, by rw [List.length_map]; exact small1000 (by omega), ?_⟩
        exact ⟨fun b o e => by rw [upd_ne (ne_of_none e nD)]; exact sm b o e, ms ++ [_], by rw [upd_same, List.map_append]; rfl, by rw [List.length_append, hm]; rfl⟩
      · rintro H3 ⟨sm, ms, hD, hm⟩
        rw [List.length_map] at hm
        -- the display
        intro p np
        have nDp : D ≠ p := ne_of_none hD np
        have hD' : (upd H3 p (.dK [])) D = some (.lst (ms.map V.int)) := by
          rw [upd_ne nDp]
          exact hD
        refine ⟨_, rfl, _, _, rfl, .inl (SqL.of hD'), _, rfl, by rw [List.length_map]; omega, by rw [List.length_map]; omega, fun C nC => ?_⟩
        have nCp : p ≠ C := ne_of_none (upd_same : (upd H3 p (.dK [])) p = _) nC
        have nCD : D ≠ C := ne_of_none hD' nC
        refine lc_range (lo := 0) (fun i H4 => Same (upd H3 p (.dK [])) H4 ∧ ∃ ks : List Int, H4 C = some (.lst (ks.map V.int)) ∧ ks.length = i) ⟨same_new nC, [], upd_same, rfl⟩ ?_ ?_
        · rintro i H4 hi ⟨sm4, ks, hC, hk⟩
          have hD4 := sm4 _ _ hD'
          have hi' : i < ms.length := by
            rw [List.length_map] at hi
            omega
          have hlt : ms.length - 1 - i < (ms.map V.int).length := by
            rw [List.length_map]
            omega
          refine ⟨rfl, _, rfl, _, rfl, _, _, rfl, .inl (SqL.of hD4), _, _, rfl, rfl, _, rfl, _, _, rfl, rfl, _, _, _, (ms.map V.int)[ms.length - 1 - i], rfl, rfl, SqL.of hD4, ?_, _, hC, by rw [List.length_map]; exact small1000 (by omega), ?_⟩
          · have e : (((ms.map V.int).length : Nat) : Int) - 1 - (0 + (i : Int)) = ((ms.length - 1 - i : Nat) : Int) := by
              rw [List.length_map]
              omega
            rw [e]
            exact atI_nat (List.getElem?_eq_getElem hlt)
          · refine ⟨fun b o e => by rw [upd_ne (ne_of_none e nC)]; exact sm4 b o e, ks ++ [ms[ms.length - 1 - i]], ?_, by rw [List.length_append, hk]; rfl⟩
            rw [upd_same, List.map_append, List.getElem_map]
            rfl
        · rintro H4 ⟨sm4, ks, hC, hk⟩
          rw [List.length_map] at hk
          have hp4 := sm4 _ _ (upd_same : (upd H3 p (.dK [])) p = _)
          refine ⟨_, rfl, hp4, [(Sum.inr "cells", .ref C), (Sum.inr "left", .int 1), (Sum.inr "mixed", .int m), (Sum.inr "turn", .int 0)], rfl, by show 4 ≤ 15; decide, ?_⟩
          have up : Same H3 (upd H3 p (.dK [])) := same_new np
          have s0 : Same H2 H4 := sm.trans (up.trans sm4)
          refine k p C _ (fun b o e => ?_) (sm.free np) (sm.free (up.free nC)) ⟨nCp, ks, 1, m, 0, ?_, ?_, by omega⟩
          · rw [upd_ne (ne_of_none e (sm.free np))]
            exact s0 b o e
          · rw [upd_same, merge4]
            rfl
          · rw [upd_ne nCp.symm]
            exact hC
theorem scP : FnScope ["source", "many", "digits", "left", "turn", "mixed"] ["source", "many"] (defScope sPick) := ⟨rfl, rfl, rfl, by decide +kernel, rfl, by decide +kernel, by decide +kernel⟩
theorem fmod_in {a b : Int} (hb : 1 ≤ b) : 0 ≤ a.fmod b ∧ a.fmod b < b := by
  rw [Int.fmod_eq_emod_of_nonneg _ (by omega)]
  exact ⟨Int.emod_nonneg _ (by omega), Int.emod_lt_of_pos _ (by omega)⟩
/-- a change at p or c -/
theorem keep_at {p c a : Addr} {H H' : Hp} {o : HO} (ha : Off p c a) (k : Keep (Off p c) H H') : Keep (Off p c) H (upd H' a o) := fun b x e n => by
  rw [upd_ne (fun z => n (by rw [z]; exact ha))]
  exact k b x e n
theorem ok_pick {f : Addr} {fd : FuncData} (F : Fun K "_law_pick" "_law_pick" sPick f fd) (T : Txt mg) : FnOk P w K mg base CX0 1 f fd ["source", "many"] spPick := by
  refine F.ok scP (fun vs H Q E h => ?_) (fun cdv A outer s H vs Q E hr h => ?_)
  · obtain ⟨p, c, many, rfl, _⟩ := h
    rfl
  · obtain ⟨p, c, many, rfl, ⟨npc, ns, l, m, t, hp, hc, hns⟩, h1, h2, k⟩ := h
    have hu := hu_of hr
    refine ⟨_, pss_cons (ps_if (pt_cmpR op_lt (pv 1) pe_int (nomark _)) (pss_one (ps_ret pe_int)) pss_nil)
      (pss_cons (ps_set (i := 2) scP.nd rfl (.inl rfl) (pe_dget hu (pv 0) pe_str (fun _ _ => rfl)))
      (pss_cons (ps_while PassesOwn.never (PW.pt (pw_and (pt_cmpR op_lt (pe_dget hu (pv 0) pe_str (fun _ _ => rfl)) pe_int (nomark _))
          (pw_and1 (pt_cmpR op_gt (pe_callB (r := rLen K) call_len_seq (by rfl) T.len PySem.boot_len (pa_cons (pv 2) pa_nil)) pe_int (nomark _)))))
        (pss_one (ps_dput hu (pv 0) pe_str (pe_bm0 PySem.F.plainAttrs_list PySem.F.slot_list_pop PySem.F.type_list_pop mt_pop (pv 2)) rfl)))
      (pss_cons (ps_set (i := 3) scP.nd rfl (.inl rfl) (pe_dget hu (pv 0) pe_str (fun _ _ => rfl)))
      (pss_cons (ps_if (pt_cmpR op_gt (pv 3) pe_int (nomark _))
        (pss_cons (ps_dput hu (pv 0) pe_str (pe_op op_fdivN (pv 3) (pv 1)) rfl)
          (pss_one (ps_ret (pe_op op_modN (pe_callTy call_int1 (by rfl) T.int (by decide +kernel) (pa_cons (pv 3) pa_nil)) (pv 1))))) pss_nil)
      (pss_cons (ps_dput hu (pv 0) pe_str (pe_op op_add (pe_dget hu (pv 0) pe_str (fun _ _ => rfl)) pe_int) rfl)
      (pss_cons (ps_set (i := 4) scP.nd rfl (.inl rfl) (pe_dget hu (pv 0) pe_str (fun _ _ => rfl)))
      (pss_cons (ps_set (i := 5) scP.nd rfl (.inl rfl) (pe_op op_mod (pe_callTy call_int1 (by rfl) T.int (by decide +kernel)
        (pa_cons (pe_op op_add (pe_dget hu (pv 0) pe_str (fun _ _ => rfl)) (pe_op op_mul (pv 4) pe_int)) pa_nil)) pe_int))
      (pss_cons (ps_set (i := 5) scP.nd rfl (.inl rfl) (pe_op op_mod (pe_callTy call_int1 (by rfl) T.int (by decide +kernel)
        (pa_cons (pe_op op_add (pe_op op_mul (pv 5) (pv 5)) (pe_op op_mul (pv 4) pe_int)) pa_nil)) pe_int))
      (pss_cons (ps_if (pt_cmpR op_gt (pv 1) (pe_op op_pow pe_int pe_int) (nomark _)) pss_never pss_nil)
      (pss_one (ps_ret (pe_op op_modN (pe_callTy call_int1 (by rfl) T.int (by decide +kernel) (pa_cons (pe_op op_fdiv (pv 5) pe_int) pa_nil)) (pv 1))))))))))))), ?_⟩
    -- if many < 2: return 0
    refine ⟨_, rfl, _, _, rfl, rfl, _, rfl, ite2 (fun _ => ?_) (fun _ => ?_)⟩
    · exact k 0 H (Int.le_refl _) (by omega) .refl ⟨npc, ns, l, m, t, hp, hc, hns⟩
    -- digits = source['cells']; while ..
    refine ⟨_, rfl, p, _, rfl, get_cells hp, fun j σ H2 => ∃ (ns : List Int) (l : Int), j = ns.length ∧ ns.length ≤ 63 ∧ σ = [some (.ref p), some (.int many), some (.ref c), none, none, none] ∧
      H2 p = some (.dK (dsrc c l m t)) ∧ H2 c = some (.lst (ns.map V.int)) ∧ Keep (Off p c) H H2, ⟨_, ns, l, rfl, hns, rfl, hp, hc, .refl⟩, ?_⟩
    rintro j σ H2 ⟨ns, l, rfl, hns, rfl, hp, hc, kp⟩
    refine ⟨_, rfl, p, _, rfl, get_left hp, _, _, rfl, rfl, _, rfl, ite2 (fun _ => ⟨_, rfl, _, _, rfl, .inl (SqL.of hc), _, _, rfl, rfl, _, rfl, ite2 (fun hpos => ?_) ?_⟩) ?_⟩
    · -- source['left'] = digits.pop()
      have hn0 : 0 < ns.length := by simpa using hpos
      have last : (ns.map V.int)[(ns.map V.int).length - 1]? = some (.int ns[ns.length - 1]) := by
        rw [List.length_map, List.getElem?_map, List.getElem?_eq_getElem (by omega)]
        rfl
      have hp' : (upd H2 c (.lst (ns.map V.int).dropLast)) p = some (.dK (dsrc c l m t)) := by
        rw [upd_ne npc]
        exact hp
      refine ⟨_, fun _ _ h => h, _, rfl, .inl ⟨rfl, _, SqL.of hc⟩, c, _, _, rfl, rfl, hc, last, _, rfl, p, _, rfl, put_left hp' _, ns.length - 1, by omega, ns.dropLast, _, by rw [List.length_dropLast], by rw [List.length_dropLast]; omega, rfl, upd_same, ?_, ?_⟩
      · rw [upd_ne npc.symm, upd_same, List.map_dropLast]
      · exact keep_at (.inl rfl) (keep_at (.inr rfl) kp)
    all_goals
      intro _
      -- left = source['left']; if left > 1
      refine ⟨_, rfl, p, _, rfl, get_left hp, _, rfl, _, _, rfl, rfl, _, rfl, ite2 (fun _ => ?_) (fun _ => ?_)⟩
      · refine ⟨_, rfl, _, rfl, _, _, rfl, rfl, ⟨by omega, by omega⟩, _, rfl, p, _, rfl, put_left hp _, _, rfl, .inl ⟨_, rfl, _, rfl, _, _, rfl, rfl, by omega, ?_⟩⟩
        exact k _ _ (fmod_in h1).1 (fmod_in h1).2 (keep_at (.inl rfl) kp) ⟨npc, ns, _, _, _, upd_same, by rw [upd_ne npc.symm]; exact hc, by omega⟩
      · -- source['turn'] = source['turn'] + 1; turn; mixed, twice
        have hp2 : (upd H2 p (.dK (dsrc c l m (t + 1)))) p = some (.dK (dsrc c l m (t + 1))) := upd_same
        have low : 0 ≤ (m + (t + 1) * 104729) % 998244353 := Int.emod_nonneg _ (by decide)
        have high : (m + (t + 1) * 104729) % 998244353 < 998244353 := Int.emod_lt_of_pos _ (by decide)
        refine ⟨_, rfl, p, _, rfl, get_turn hp, _, _, rfl, rfl, _, rfl, p, _, rfl, put_turn hp _, _, rfl, p, _, rfl, get_turn hp2, ?_⟩
        refine ⟨_, rfl, p, _, rfl, get_mixed hp2, _, rfl, _, _, rfl, rfl, .inr ⟨by decide, by decide⟩, _, _, rfl, rfl, .inl ⟨_, rfl, _, _, rfl, rfl, by show (0 : Int) < 998244353; decide, ?_⟩⟩
        refine ⟨_, rfl, _, rfl, _, _, rfl, rfl, .inl ⟨by omega, by omega⟩, _, rfl, _, _, rfl, rfl, .inr ⟨by decide, by decide⟩, _, _, rfl, rfl, .inl ⟨_, rfl, _, _, rfl, rfl, by show (0 : Int) < 2147483647; decide, ?_⟩⟩
        -- if many > 10 ** 7: never
        have e7 : (10 : Int) ^ ((7 : Int).toNat) = 10000000 := by decide
        refine ⟨_, rfl, _, _, rfl, rfl, ⟨by decide, by decide, by decide⟩, _, _, rfl, rfl, _, rfl, ite2 (fun z => ?_) (fun _ => ?_)⟩
        · have z' := of_decide_eq_true z
          rw [e7] at z'
          omega
        · refine ⟨_, rfl, _, _, rfl, rfl, ⟨by decide, by decide⟩, .inl ⟨_, rfl, _, rfl, _, _, rfl, rfl, by omega, ?_⟩⟩
          exact k _ _ (fmod_in h1).1 (fmod_in h1).2 (keep_at (.inl rfl) kp) ⟨npc, ns, _, _, _, upd_same, by rw [upd_ne npc.symm]; exact hc, by omega⟩
end
/-- a new address is none of the draws' -/
theorem Src.off {p c : Addr} {H : Hp} (S : Src p c H) {a : Addr} (h : H a = none) : ¬ Off p c a := by
  obtain ⟨_, ns, l, m, t, hp, hc, _⟩ := S
  rintro (e | e)
  · rw [e, hp] at h
    cases h
  · rw [e, hc] at h
    cases h
/-- a new object leaves the draws' state -/
theorem Src.new {p c : Addr} {H : Hp} (S : Src p c H) {a : Addr} {o : HO} (h : H a = none) : Src p c (upd H a o) := by
  obtain ⟨n, ns, l, m, t, hp, hc, hl⟩ := S
  exact ⟨n, ns, l, m, t, by rw [upd_ne (ne_of_none hp h)]; exact hp, by rw [upd_ne (ne_of_none hc h)]; exact hc, hl⟩
theorem Src.same {p c : Addr} {H H' : Hp} (S : Src p c H) (k : Same H H') : Src p c H' := by
  obtain ⟨n, ns, l, m, t, hp, hc, hl⟩ := S
  exact ⟨n, ns, l, m, t, k _ _ hp, k _ _ hc, hl⟩
theorem keep_new {N : Addr → Prop} {H H' : Hp} {a : Addr} {o : HO} (k : Keep N H H') (h : H' a = none) : Keep N H (upd H' a o) := fun b x e n => by
  rw [upd_ne (ne_of_none (k b x e n) h)]
  exact k b x e n
/-- what is new behind was not there ahead -/
theorem keep_none {p c : Addr} {H H' : Hp} (S : Src p c H) (k : Keep (Off p c) H H') {a : Addr} (h : H' a = none) (n : ¬ Off p c a) : H a = none := by
  cases e : H a with
  | none => rfl
  | some o =>
    rw [k a o e n] at h
    cases h
theorem at_int {α : Type} {xs : List α} {r : Int} (h0 : 0 ≤ r) (h1 : r < xs.length) : ∃ v, atI xs r = some v ∧ v ∈ xs := by
  obtain ⟨n, rfl⟩ := Int.eq_ofNat_of_zero_le h0
  have hi : n < xs.length := by omega
  exact ⟨xs[n], atI_nat (List.getElem?_eq_getElem hi), List.getElem_mem hi⟩
/-- a def of the top, by its name -/
structure Def (K : PySem.W.Frag) (mg : Str → Option Value) (x : Str) (f : Addr) : Prop where
  gl : mg x = some (.ref f)
  kp : PySem.W.keepIn K (.ref f) = true
theorem new_obj {p c t : Addr} {H : Hp} (S : Src p c H) (n : H t = none) (o : HO) : ∃ H', upd H t o = H' ∧ Same H H' ∧ Src p c H' ∧ H' t = some o ∧ ¬ Off p c t := ⟨_, rfl, same_new n, S.new n, upd_same, S.off n⟩
def spOf : Sp := fun vs H Q _ => ∃ (p c l : Addr) (xs : List V), vs = [.ref p, .ref l] ∧ Src p c H ∧ H l = some (.lst xs) ∧ ¬ Off p c l ∧ 1 ≤ xs.length ∧ xs.length ≤ 1000 ∧ ∀ v H', v ∈ xs → Keep (Off p c) H H' → Src p c H' → Q v H'
section
variable {P : Program} {w : World} {K : PySem.W.Frag} {mg : Str → Option Value} {base : Heap}
theorem scO : FnScope ["source", "some"] ["source", "some"] (defScope sOf) := ⟨rfl, rfl, rfl, by decide +kernel, rfl, by decide +kernel, by decide +kernel⟩
theorem ok_of {f fP : Addr} {fd fdP : FuncData} (F : Fun K "_law_of" "_law_of" sOf f fd) (T : Txt mg) (GP : FnOk P w K mg base CX0 1 fP fdP ["source", "many"] spPick) (DP : Def K mg "_law_pick" fP) (bP : Binds K fdP ["source", "many"] []) :
    FnOk P w K mg base CX0 2 f fd ["source", "some"] spOf := by
  refine F.ok scO (fun vs H Q E h => ?_) (fun cdv A outer s H vs Q E hr h => ?_)
  · obtain ⟨p, c, l, xs, rfl, _⟩ := h
    rfl
  · obtain ⟨p, c, l, xs, rfl, S, hl, nl, h1, h2, k⟩ := h
    refine ⟨_, pss_one (ps_ret (pe_ix ix_list (pv 1) (pe_call GP hr (by rfl) DP.gl DP.kp bP .nil pass0 (pa_cons (pv 0) (pa_cons (pe_callB call_len_seq (by rfl) T.len PySem.boot_len (pa_cons (pv 1) pa_nil)) pa_nil))) (fun _ _ => rfl))), ?_⟩
    refine ⟨_, rfl, _, rfl, _, rfl, _, _, rfl, .inl (SqL.of hl), p, c, _, rfl, S, by omega, by omega, fun r H' r0 r1 kp S' => ?_⟩
    obtain ⟨v, e, hv⟩ := at_int r0 r1
    exact ⟨l, xs, r, v, rfl, rfl, SqL.of (kp _ _ hl nl), e, k _ H' hv kp S'⟩
end
end K12
/-! K12, 2: told, the inits -/
namespace K12
open PySem PySem.Spec PyProof.Rows L2 Ver
open PySem.W (findIn)
abbrev sTold : Stmt := top 1
def ini (i : Nat) : Stmt := match top i with
  | .ClassDef _ _ _ b _ _ _ _ _ _ _ => b.getD 0 (.Pass ⟨0, 0, 0, 0⟩)
  | _ => .Pass ⟨0, 0, 0, 0⟩
structure GlobT (mg : Str → Option Value) : Prop where
  len : mg "len" = none
  isinstance : mg "isinstance" = none
  str : mg "str" = none
  int : mg "int" = none
  repr : mg "repr" = none
  tuple : mg "tuple" = none
abbrev bmV : List Value := [.type "ValueError", .type "Exception", .type "BaseException", .type "object"]
abbrev bmL : List Value := [.type "LookupError", .type "Exception", .type "BaseException", .type "object"]
/-- what the inits lean on -/
structure Up (P : Program) (w : World) (K : PySem.W.Frag) (mg : Str → Option Value) (base : Heap) (G M fT : Addr) (qT : FuncData) : Prop where
  gG : mg "GuessError" = some (.ref G)
  bG : BaseC K G "ValueError.__init__"
  gM : mg "NameMissing" = some (.ref M)
  bM : BaseC K M "LookupError.__init__"
  gT : FnOk P w K mg base CX0 1 fT qT ["value"] spTold
  dT : Def K mg "told" fT
  bT : Binds K qT ["value"] []
theorem cat1000 {x y : Str} (h1 : x.length ≤ 1000) (h2 : y.length ≤ 1000) : (x ++ y).length ≤ sizeLine := by
  rw [PySem.Str.length_append]
  exact Nat.le_trans (Nat.add_le_add h1 h2) (by decide)
theorem hV : PySem.W.handedIn (.builtin "ValueError.__init__") = true := by kernel_rfl
theorem hL : PySem.W.handedIn (.builtin "LookupError.__init__") = true := by kernel_rfl
theorem tV : typeOf (.builtin "ValueError.__init__") = pure (.type "wrapper_descriptor") := by kernel_rfl
theorem tL : typeOf (.builtin "LookupError.__init__") = pure (.type "wrapper_descriptor") := by kernel_rfl
/-- one argument, kept as the only field -/
def spIni (K : PySem.W.Frag) (bmB : List Value) (newId : String) (f : Str) : Sp := fun vs H Q _ => ∃ (N : Addr → Prop) (a C : Addr) (v : V) (d : PyData), vs = [.ref a, v] ∧ H a = some (exo a C none) ∧ ExC K C bmB newId ∧ findIn K (.ref C) f = some none ∧ Da N H v d ∧ TellOk d ∧
  ∀ dx, H dx = none → dx ≠ a → Q .non (upd (upd H dx (exd dx [(f, v)])) a (exo a C (some dx)))
/-- a list or a tuple, kept as a tuple -/
def spIniT (K : PySem.W.Frag) (bmB : List Value) (newId : String) : Sp := fun vs H Q _ => ∃ (N : Addr → Prop) (a C b : Addr) (xs : List V) (ds : List PyData), vs = [.ref a, .ref b] ∧ H a = some (exo a C none) ∧ ExC K C bmB newId ∧ findIn K (.ref C) "path" = some none ∧
  (H b = some (.lst xs) ∨ H b = some (.tup xs)) ∧ Das N H xs ds ∧ (∀ d ∈ ds, TellOk d) ∧ ds.length ≤ 1000 ∧ ∀ t dx H', H' t = some (.tup xs) → (t = b ∨ H t = none) → (∀ c o, c ≠ a → H c = some o → H' c = some o) → H' a = some (exo a C (some dx)) → H' dx = some (exd dx [("path", .ref t)]) → Q .non H'
def spIni0 (K : PySem.W.Frag) (bmB : List Value) (newId : String) : Sp := fun vs H Q _ => ∃ (a C : Addr), vs = [.ref a] ∧ H a = some (exo a C none) ∧ ExC K C bmB newId ∧ Q .non H
section
variable {P : Program} {w : World} {K : PySem.W.Frag} {mg : Str → Option Value} {base : Heap}
theorem scT : FnScope ["value"] ["value"] (defScope sTold) := ⟨rfl, rfl, rfl, by decide +kernel, rfl, by decide +kernel, by decide +kernel⟩
theorem ok_told {f : Addr} {fd : FuncData} (F : Fun K "told" "told" sTold f fd) (T : GlobT mg) : FnOk P w K mg base CX0 1 f fd ["value"] spTold := by
  refine F.ok scT (fun vs H Q E h => ?_) (fun cdv A outer s H vs Q E hr h => ?_)
  · obtain ⟨N, v, d, rfl, _⟩ := h
    rfl
  · obtain ⟨N, v, d, rfl, hv, hs, k⟩ := h
    refine ⟨_, pss_cons (ps_if (PW.pt (pw_and (pt_val (pe_callB call_isi (by rfl) T.isinstance (by decide +kernel) (pa_cons (pv 0) (pa_cons (pe_bltn (v := .ty "str") (by rfl) T.str (by decide +kernel) rfl) pa_nil))))
          (pw_and1 (pt_cmpR op_le (pe_callB call_len_str (by rfl) T.len PySem.boot_len (pa_cons (pv 0) pa_nil)) pe_int (nomark _)))))
        (pss_one (ps_ret (pe_callB call_reprT (by rfl) T.repr (by decide +kernel) (pa_cons (pv 0) pa_nil)))) pss_nil)
      (pss_cons (ps_if (PW.pt (pw_and (pt_val (pe_callB call_isi (by rfl) T.isinstance (by decide +kernel) (pa_cons (pv 0) (pa_cons (pe_bltn (v := .ty "int") (by rfl) T.int (by decide +kernel) rfl) pa_nil))))
          (pw_and1 (pt_chain op_lt op_lt (pe_un un_neg pe_int) (pv 0) pe_int))))
        (pss_one (ps_ret (pe_callTy call_str_int (by rfl) T.str (by decide +kernel) (pa_cons (pv 0) pa_nil)))) pss_nil)
      (pss_one (ps_ret pe_str))), ?_⟩
    refine ⟨_, rfl, v, .ty "str", _, _, _, rfl, .ty _, Da.ty hv, kit_str d, _, rfl, ?_⟩
    cases d with
    | str x =>
      cases hv
      obtain ⟨hs1, hs2⟩ := hs
      have e1000 : 1000 ≤ sizeLine := by decide
      refine ⟨_, rfl, x, rfl, Nat.le_trans hs1 e1000, _, _, rfl, rfl, _, rfl, ite2 (fun _ => ?_) (fun _ => ?_)⟩
      · exact ⟨_, rfl, x, rfl, Nat.le_trans hs2 e1000, k _ hs2⟩
      · refine ⟨_, rfl, .str x, .ty "int", _, _, _, rfl, .ty _, .base (.str x), kit_int (.str x), _, rfl, ?_⟩
        exact k _ (by decide)
    | int i =>
      cases hv
      refine ⟨_, rfl, .int i, .ty "int", _, _, _, rfl, .ty _, .base (.int i), kit_int (.int i), _, rfl, ?_⟩
      refine ⟨_, rfl, _, rfl, _, _, rfl, rfl, _, rfl, ?_⟩
      refine ite2 (fun h1 => ⟨_, _, rfl, rfl, _, rfl, ite2 (fun h2 => ?_) (fun _ => ?_)⟩) (fun _ => ⟨_, rfl, ?_⟩)
      · have q := toldInt (of_decide_eq_true h1) (of_decide_eq_true h2)
        exact ⟨_, rfl, i, rfl, q.1, k _ q.2⟩
      · exact k _ (by decide)
      · exact k _ (by decide)
    | bool b => exact hs.elim
    | _ =>
      refine ⟨_, rfl, v, .ty "int", _, _, _, rfl, .ty _, Da.ty hv, kit_int _, _, rfl, ?_⟩
      exact k _ (by decide)
variable {G M fT : Addr} {qT : FuncData}
theorem sc0 : FnScope ["self", "name"] ["self", "name"] (defScope (ini 6)) := ⟨rfl, rfl, rfl, by decide +kernel, rfl, by decide +kernel, by decide +kernel⟩
theorem ok_i0 {f : Addr} {fd : FuncData} (F : Fun K "__init__" "BadVariant.__init__" (ini 6) f fd) (U : Up P w K mg base G M fT qT) : FnOk P w K mg base CX0 2 f fd ["self", "name"] (spIni K bmV "ValueError.__new__" "name") := by
  refine F.ok sc0 (fun vs H Q E h => ?_) (fun cdv A outer s H vs Q E hr h => ?_)
  · obtain ⟨N, a, C, v, d, rfl, _⟩ := h
    rfl
  · obtain ⟨N, a, C, v, d, rfl, ha, T, hf, hv, ht, q⟩ := h
    refine ⟨_, pss_cons (ps_expr (pe_binit exB_VE (by rfl) U.gG U.bG hV tV (pa_cons (pv 0) (pa_cons (pe_joined (.cons pe_str (.cons (pe_fmt (pe_call U.gT hr (by rfl) U.dT.gl U.dT.kp U.bT .nil pass0 (pa_cons (pv 1) pa_nil))) .nil))) pa_nil)))) (pss_one (ps_st1 exB_VE (pv 0) (pv 1))), ?_⟩
    refine ⟨_, rfl, _, rfl, by decide, _, rfl, N, v, d, rfl, hv, ht, fun t tz => .inl ⟨t, rfl, Nat.le_of_lt (small1000 tz), t, rfl, cat1000 (by decide) tz, a, C, _, rfl, by show 1 ≤ 1000; decide, T, ha, _, rfl, _, rfl, a, C, rfl, T, hf, ha, q⟩⟩
theorem sc1 : FnScope ["self", "name"] ["self", "name"] (defScope (ini 8)) := ⟨rfl, rfl, rfl, by decide +kernel, rfl, by decide +kernel, by decide +kernel⟩
theorem ok_i1 {f : Addr} {fd : FuncData} (F : Fun K "__init__" "UnknownName.__init__" (ini 8) f fd) (U : Up P w K mg base G M fT qT) : FnOk P w K mg base CX0 2 f fd ["self", "name"] (spIni K bmL "LookupError.__new__" "name") := by
  refine F.ok sc1 (fun vs H Q E h => ?_) (fun cdv A outer s H vs Q E hr h => ?_)
  · obtain ⟨N, a, C, v, d, rfl, _⟩ := h
    rfl
  · obtain ⟨N, a, C, v, d, rfl, ha, T, hf, hv, ht, q⟩ := h
    refine ⟨_, pss_cons (ps_expr (pe_binit exB_LE (by rfl) U.gM U.bM hL tL (pa_cons (pv 0) (pa_cons (pe_joined (.cons pe_str (.cons (pe_fmt (pe_call U.gT hr (by rfl) U.dT.gl U.dT.kp U.bT .nil pass0 (pa_cons (pv 1) pa_nil))) .nil))) pa_nil)))) (pss_one (ps_st1 exB_LE (pv 0) (pv 1))), ?_⟩
    refine ⟨_, rfl, _, rfl, by decide, _, rfl, N, v, d, rfl, hv, ht, fun t tz => .inl ⟨t, rfl, Nat.le_of_lt (small1000 tz), t, rfl, cat1000 (by decide) tz, a, C, _, rfl, by show 1 ≤ 1000; decide, T, ha, _, rfl, _, rfl, a, C, rfl, T, hf, ha, q⟩⟩
end
end K12
/-! K12, 3: words, numbers, values -/
namespace K12
open PySem PySem.Spec PyProof.Rows L2 Ver
abbrev sWord : Stmt := top 15
abbrev sKind : Stmt := top 16
abbrev sNum : Stmt := top 17
abbrev sVal : Stmt := top 19
abbrev sPair : Stmt := top 20
abbrev sKindOf : Stmt := top 21
def lets : Str := "abcdefghijklmnopqrstuvwxyz"
def sgns : Str := "abcdefghijklmnopqrstuvwxyz0123456789"
/-! ### the mathematics -/
def inLets (c : Nat) : Bool := decide (c ∈ lets.cps.toList)
def inSgns (c : Nat) : Bool := decide (c ∈ sgns.cps.toList)
def wordL : List Nat → Bool
  | [] => false
  | c :: r => decide (r.length + 1 ≤ 12) && (inLets c && (c :: r).all inSgns)
def wordS (x : Str) : Bool := wordL x.cps.toList
def wordD : PyData → Bool
  | .str x => wordS x
  | _ => false
def resv : List Str := ["none", "bit", "err", "fun", "obj"]
def kindD : PyData → Bool
  | .str x => wordS x && !resv.any fun y => y == x
  | _ => false
def numD : PyData → Bool
  | .int i => decide (0 ≤ i)
  | _ => false
def pairD (x y : PyData) : Bool :=
  if eqS x "bit" = true then eqS y "yes" || eqS y "no" else if (eqS x "err" || eqS x "fun") = true then wordD y else eqS x "obj" && numD y
def valD : PyData → Bool
  | .tuple [x] => eqS x "none"
  | .tuple [x, y] => pairD x y
  | .tuple [x, y, z] => eqS x "tok" && (kindD y && numD z)
  | _ => false
/-! ### promises -/
/-- a question about one datum, answered by g; the heap is as it was but for new objects -/
def spAsk (ok : PyData → Prop) (g : PyData → Bool) : Sp := fun vs H Q _ => ∃ (N : Addr → Prop) (v : V) (d : PyData), vs = [v] ∧ Da N H v d ∧ ok d ∧ ∀ H', Same H H' → Q (.bl (g d)) H'
/-- texts are of a length that can be told -/
def Short : PyData → Prop
  | .str x => x.length ≤ 1000
  | _ => True
structure Glob (mg : Str → Option Value) : Prop where
  len : mg "len" = none
  isinstance : mg "isinstance" = none
  str : mg "str" = none
  int : mg "int" = none
  bool : mg "bool" = none
  tuple : mg "tuple" = none
  all : mg "all" = none
  letters : ∃ t, mg "LETTERS" = some (.str lets t)
  signs : ∃ t, mg "WORD_SIGNS" = some (.str sgns t)
  longest : ∃ t, mg "LONGEST_WORD" = some (.int 12 t)
section
variable {P : Program} {w : World} {K : PySem.W.Frag} {mg : Str → Option Value} {base : Heap}
theorem scW : FnScope ["value", "sign"] ["value"] (defScope sWord) := ⟨rfl, rfl, rfl, by decide +kernel, rfl, by decide +kernel, by decide +kernel⟩
theorem ok_word {f : Addr} {fd : FuncData} (F : Fun K "is_word" "is_word" sWord f fd) (T : Glob mg) : FnOk P w K mg base CX0 1 f fd ["value"] (spAsk Short wordD) := by
  refine F.ok scW (fun vs H Q E h => ?_) (fun cdv A outer s H vs Q E hr h => ?_)
  · obtain ⟨N, v, d, rfl, _⟩ := h
    rfl
  · obtain ⟨N, v, d, rfl, hv, hs, k⟩ := h
    obtain ⟨_, mL⟩ := T.letters
    obtain ⟨_, mS⟩ := T.signs
    obtain ⟨_, mG⟩ := T.longest
    refine ⟨_, pss_cons (ps_if (PW.pt (pw_or (pt_not (pt_val (pe_callB call_isi (by rfl) T.isinstance (by decide +kernel) (pa_cons (pv 0) (pa_cons (pe_bltn (v := .ty "str") (by rfl) T.str (by decide +kernel) rfl) pa_nil)))))
        (pw_or1 (pt_not (pt_chain op_lt op_le pe_int (pe_callB call_len_str (by rfl) T.len PySem.boot_len (pa_cons (pv 0) pa_nil)) (pe_glob (v := .int 12) rfl mG ⟨_, rfl⟩))))))
        (pss_one (ps_ret pe_bl)) pss_nil)
      (pss_one (ps_ret (pe_and (pe_cmpR op_in_sign (pe_ix ix_str (pv 0) pe_int (fun _ _ => rfl)) (pe_glob (v := .str lets) rfl mL ⟨_, rfl⟩) (by rfl))
        (pe_one (pe_callB (cr_all rfl) (by rfl) T.all (by decide +kernel) (pa_cons (pe_lc (own := [("sign", 1)]) (g := gName 1) (tt := tYes) rfl scW.nd (pi_str (pv 0))
          (blkOk_by (N := ["value", "sign"]) (sc := defScope sWord) (by decide +kernel)) (fun _ _ _ _ _ => pg_name (i := 1) scW.nd rfl (.inl rfl)) (fun _ _ _ _ _ => pts_nil)
          (fun _ _ _ _ _ => pe_cmpR op_in_sign (pv 1) (pe_glob (v := .str sgns) rfl mS ⟨_, rfl⟩) (by rfl))) pa_nil)))))), ?_⟩
    refine ⟨_, rfl, v, .ty "str", _, _, _, rfl, .ty _, Da.ty hv, kit_str d, _, rfl, ?_⟩
    cases d with
    | str x =>
      cases hv
      have hx : x.length = x.cps.toList.length := by simp [Str.length]
      have hs' : x.length ≤ 1000 := hs
      have hz : x.length ≤ sizeLine := Nat.le_trans hs' (by decide)
      refine ⟨_, rfl, x, rfl, hz, _, _, rfl, rfl, _, rfl, ?_⟩
      -- 0 < len(value) <= LONGEST_WORD
      cases el : x.cps.toList with
      | nil =>
        rw [el] at hx
        have e0 : decide ((0 : Int) < (x.length : Int)) = false := decide_eq_false (by rw [hx]; decide)
        rw [e0]
        refine ⟨_, rfl, ?_⟩
        have q := k H (Same.refl H)
        have e1 : wordD (.str x) = false := by
          show wordL x.cps.toList = false
          rw [el]
          rfl
        rwa [e1] at q
      | cons c r =>
        rw [el] at hx
        have e0 : decide ((0 : Int) < (x.length : Int)) = true := decide_eq_true (by rw [hx, List.length_cons]; omega)
        rw [e0]
        refine ⟨_, _, rfl, rfl, _, rfl, ?_⟩
        have ew : wordD (.str x) = (decide (r.length + 1 ≤ 12) && (inLets c && (c :: r).all inSgns)) := by
          show wordL x.cps.toList = _
          rw [el]
          rfl
        rw [ew] at k
        rw [hx, List.length_cons]
        by_cases h12 : r.length + 1 ≤ 12
        · have e2 : decide (((r.length + 1 : Nat) : Int) ≤ 12) = true := decide_eq_true (by omega)
          rw [e2]
          have e3 : decide (r.length + 1 ≤ 12) = true := decide_eq_true h12
          rw [e3, Bool.true_and] at k
          -- value[0] in LETTERS and all([..])
          refine ⟨_, rfl, _, _, c, rfl, rfl, hz, by rw [el]; exact atI_nat (j := 0) rfl, c, lets, rfl, rfl, _, rfl, ?_⟩
          refine ite2 (fun hc => ?_) (fun hc => ?_)
          · have hc' : inLets c = true := hc
            rw [hc', Bool.true_and] at k
            refine ⟨_, rfl, x, rfl, fun D nD => lc_it (walk_str (z := x)) (fun i H2 => Same H H2 ∧ H2 D = some (.lst (((x.cps.toList.take i).map inSgns).map V.bl))) ⟨same_new nD, upd_same⟩ (fun _ _ _ _ => trivial) ?_ ?_⟩
            · rintro i y H2 H3 hi ⟨sm, hD⟩ ⟨rfl, z, hz1, rfl⟩
              have hz2 : x.cps.toList[i]? = some z := by simpa using hz1
              refine ⟨rfl, _, rfl, z, sgns, rfl, rfl, _, hD, ?_, fun b o e => ?_, ?_⟩
              · refine small1000 ?_
                rw [List.length_map, List.length_map, List.length_take]
                exact Nat.le_trans (Nat.min_le_right _ _) (by rw [el, List.length_cons]; omega)
              · rw [upd_ne (ne_of_none e nD)]
                exact sm b o e
              · rw [upd_same, List.take_add_one, hz2, List.map_append, List.map_append]
                rfl
            · rintro H2 ⟨sm, hD⟩
              have ex : x.cps.toList.take x.cps.size = c :: r := by
                rw [← el]
                exact List.take_of_length_le (by simp)
              rw [ex] at hD
              refine ⟨D, (c :: r).map inSgns, rfl, SqL.of hD, ?_⟩
              have q := k H2 sm
              rw [List.all_map]
              exact q
          · have hc' : inLets c = false := by simpa [inLets] using hc
            rw [hc', Bool.false_and] at k
            exact k H (Same.refl H)
        · have e2 : decide (((r.length + 1 : Nat) : Int) ≤ 12) = false := decide_eq_false (by omega)
          rw [e2]
          have e3 : decide (r.length + 1 ≤ 12) = false := decide_eq_false h12
          rw [e3, Bool.false_and] at k
          exact k H (Same.refl H)
    | _ => exact k H (Same.refl H)
end
section
variable {P : Program} {w : World} {K : PySem.W.Frag} {mg : Str → Option Value} {base : Heap}
theorem scKd : FnScope ["value"] ["value"] (defScope sKind) := ⟨rfl, rfl, rfl, by decide +kernel, rfl, by decide +kernel, by decide +kernel⟩
theorem ok_kind {f fW aR : Addr} {fd fdW : FuncData} (F : Fun K "is_kind_word" "is_kind_word" sKind f fd) (GW : FnOk P w K mg base CX0 1 fW fdW ["value"] (spAsk Short wordD)) (DW : Def K mg "is_word" fW) (bW : Binds K fdW ["value"] [])
    (mR : mg "RESERVED" = some (.ref aR)) (hR : ∀ H, SqT K H aR (resv.map V.str)) : FnOk P w K mg base CX0 2 f fd ["value"] (spAsk Short kindD) := by
  refine F.ok scKd (fun vs H Q E h => ?_) (fun cdv A outer s H vs Q E hr h => ?_)
  · obtain ⟨N, v, d, rfl, _⟩ := h
    rfl
  · obtain ⟨N, v, d, rfl, hv, hs, k⟩ := h
    refine ⟨_, pss_one (ps_ret (pe_and (pe_call GW hr (by rfl) DW.gl DW.kp bW .nil pass0 (pa_cons (pv 0) pa_nil)) (pe_one (pe_cmpR op_notIn_seq (pv 0) (pe_glob (v := .ref aR) rfl mR rfl) (by rfl))))), ?_⟩
    refine ⟨_, rfl, N, v, d, rfl, hv, hs, fun H' sm => ⟨_, rfl, ite2 (fun hw => ?_) (fun hw => ?_)⟩⟩
    · cases d with
      | str x =>
        cases hv
        refine ⟨_, rfl, aR, _, rfl, .inr (hR H'), rfl, rfl, ?_⟩
        have q := k H' sm
        have hw' : wordS x = true := hw
        have e : kindD (.str x) = !inV (.str x) (resv.map V.str) := by
          show (wordS x && !resv.any fun y => y == x) = _
          rw [hw', Bool.true_and]
          rfl
        rwa [e] at q
      | _ => cases hw
    · have e : kindD d = false := by
        cases d with
        | str x =>
          show (wordS x && _) = false
          have : wordS x = false := by simpa [wordD] using hw
          rw [this, Bool.false_and]
        | _ => rfl
      have q := k H' sm
      rwa [e] at q
theorem scNm : FnScope ["value"] ["value"] (defScope sNum) := ⟨rfl, rfl, rfl, by decide +kernel, rfl, by decide +kernel, by decide +kernel⟩
theorem ok_num {f : Addr} {fd : FuncData} (F : Fun K "is_number" "is_number" sNum f fd) (T : Glob mg) : FnOk P w K mg base CX0 1 f fd ["value"] (spAsk (fun _ => True) numD) := by
  refine F.ok scNm (fun vs H Q E h => ?_) (fun cdv A outer s H vs Q E hr h => ?_)
  · obtain ⟨N, v, d, rfl, _⟩ := h
    rfl
  · obtain ⟨N, v, d, rfl, hv, hs, k⟩ := h
    refine ⟨_, pss_one (ps_ret (pe_and (pe_callB call_isi (by rfl) T.isinstance (by decide +kernel) (pa_cons (pv 0) (pa_cons (pe_bltn (v := .ty "int") (by rfl) T.int (by decide +kernel) rfl) pa_nil)))
      (pe_and (pe_not (pe_callB call_isi (by rfl) T.isinstance (by decide +kernel) (pa_cons (pv 0) (pa_cons (pe_bltn (v := .ty "bool") (by rfl) T.bool (by decide +kernel) rfl) pa_nil))))
        (pe_one (pe_cmpR op_ge (pv 0) pe_int (nomark _)))))), ?_⟩
    refine ⟨_, rfl, v, .ty "int", _, _, _, rfl, .ty _, Da.ty hv, kit_int d, _, rfl, ?_⟩
    cases d with
    | int i =>
      cases hv
      refine ⟨_, rfl, _, .ty "bool", _, _, _, rfl, .ty _, Da.ty (N := N) (.int i), kit_bool (.int i), _, rfl, _, rfl, ?_⟩
      exact ⟨_, rfl, _, _, rfl, rfl, k H (Same.refl H)⟩
    | bool b =>
      cases hv
      refine ⟨_, rfl, _, .ty "bool", _, _, _, rfl, .ty _, Da.ty (N := N) (.bl b), kit_bool (.bool b), _, rfl, _, rfl, ?_⟩
      exact k H (Same.refl H)
    | _ => exact k H (Same.refl H)
/-- two data -/
def spPair (g : PyData → PyData → Bool) : Sp := fun vs H Q _ => ∃ (N : Addr → Prop) (v u : V) (d e : PyData), vs = [v, u] ∧ Da N H v d ∧ Da N H u e ∧ Short e ∧ ∀ H', Same H H' → Q (.bl (g d e)) H'
theorem scPr : FnScope ["word", "content"] ["word", "content"] (defScope sPair) := ⟨rfl, rfl, rfl, by decide +kernel, rfl, by decide +kernel, by decide +kernel⟩
theorem ok_pair {f fW fN : Addr} {fd fdW fdN : FuncData} (F : Fun K "is_pair_value" "is_pair_value" sPair f fd) (GW : FnOk P w K mg base CX0 1 fW fdW ["value"] (spAsk Short wordD)) (DW : Def K mg "is_word" fW) (bW : Binds K fdW ["value"] [])
    (GN : FnOk P w K mg base CX0 1 fN fdN ["value"] (spAsk (fun _ => True) numD)) (DN : Def K mg "is_number" fN) (bN : Binds K fdN ["value"] []) : FnOk P w K mg base CX0 2 f fd ["word", "content"] (spPair pairD) := by
  refine F.ok scPr (fun vs H Q E h => ?_) (fun cdv A outer s H vs Q E hr h => ?_)
  · obtain ⟨N, v, u, d, e, rfl, _⟩ := h
    rfl
  · obtain ⟨N, v, u, d, e, rfl, hv, hw, hs, k⟩ := h
    have h0 := hr.units0
    refine ⟨_, pss_cons (ps_if (pt_cmpR (op_eqS (N := N) h0) (pv 0) pe_str (nomark _)) (pss_one (ps_ret (pe_or (pe_cmpR (op_eqS (N := N) h0) (pv 1) pe_str (nomark _)) (pe_one (pe_cmpR (op_eqS (N := N) h0) (pv 1) pe_str (nomark _)))))) pss_nil)
      (pss_cons (ps_if (PW.pt (pw_or (pt_cmpR (op_eqS (N := N) h0) (pv 0) pe_str (nomark _)) (pw_or1 (pt_cmpR (op_eqS (N := N) h0) (pv 0) pe_str (nomark _)))))
        (pss_one (ps_ret (pe_call GW hr (by rfl) DW.gl DW.kp bW .nil pass0 (pa_cons (pv 1) pa_nil)))) pss_nil)
      (pss_one (ps_ret (pe_and (pe_cmpR (op_eqS (N := N) h0) (pv 0) pe_str (nomark _)) (pe_one (pe_call GN hr (by rfl) DN.gl DN.kp bN .nil pass0 (pa_cons (pv 1) pa_nil))))))), ?_⟩
    refine ⟨_, rfl, d, _, hv, rfl, _, rfl, ite2 (fun h1 => ?_) (fun h1 => ?_)⟩
    · have ep : pairD d e = (eqS e "yes" || eqS e "no") := if_pos h1
      rw [ep] at k
      refine ⟨_, rfl, e, _, hw, rfl, _, rfl, ite2 (fun h2 => ?_) (fun h2 => ?_)⟩
      · rw [h2, Bool.true_or] at k
        exact k H (Same.refl H)
      · rw [Bool.eq_false_iff.mpr h2, Bool.false_or] at k
        exact ⟨_, rfl, e, _, hw, rfl, k H (Same.refl H)⟩
    · refine ⟨_, rfl, d, _, hv, rfl, _, rfl, ite2 (fun h2 => ?_) (fun h2 => ⟨_, rfl, d, _, hv, rfl, _, rfl, ite2 (fun h3 => ?_) (fun h3 => ?_)⟩)⟩
      · have ep : pairD d e = wordD e := (if_neg h1).trans (if_pos (by rw [h2]; rfl))
        rw [ep] at k
        exact ⟨_, rfl, N, u, e, rfl, hw, hs, k⟩
      · have ep : pairD d e = wordD e := (if_neg h1).trans (if_pos (by rw [h3, Bool.or_true]))
        rw [ep] at k
        exact ⟨_, rfl, N, u, e, rfl, hw, hs, k⟩
      · have ep : pairD d e = (eqS d "obj" && numD e) := (if_neg h1).trans (if_neg (by rw [Bool.eq_false_iff.mpr h2, Bool.eq_false_iff.mpr h3]; exact Bool.false_ne_true))
        rw [ep] at k
        refine ⟨_, rfl, d, _, hv, rfl, _, rfl, ite2 (fun h4 => ?_) (fun h4 => ?_)⟩
        · rw [h4, Bool.true_and] at k
          exact ⟨_, rfl, N, u, e, rfl, hw, trivial, k⟩
        · rw [Bool.eq_false_iff.mpr h4, Bool.false_and] at k
          exact k H (Same.refl H)
end
/-! ### lists of a length -/
theorem len1 {α : Type} {l : List α} (h : l.length = 1) : ∃ a, l = [a] := List.length_eq_one_iff.mp h
theorem len2 {α : Type} : ∀ {l : List α}, l.length = 2 → ∃ a b, l = [a, b]
  | [a, b], _ => ⟨a, b, rfl⟩
theorem len3 {α : Type} : ∀ {l : List α}, l.length = 3 → ∃ a b c, l = [a, b, c]
  | [a, b, c], _ => ⟨a, b, c, rfl⟩
/-- what len(..) == n says -/
theorem of_len {n : Nat} {i : Int} (h : decide (V.int (n : Int) = V.int i) = true) : (n : Int) = i := V.int.inj (of_decide_eq_true h)
theorem not_len {n : Nat} {i : Int} (h : ¬ decide (V.int (n : Int) = V.int i) = true) : (n : Int) ≠ i := fun z => h (decide_eq_true (congrArg V.int z))
theorem val_other : ∀ {ds : List PyData}, ds.length ≠ 1 → ds.length ≠ 2 → ds.length ≠ 3 → valD (.tuple ds) = false
  | [], _, _, _ => rfl
  | [_], h, _, _ => absurd rfl h
  | [_, _], _, h, _ => absurd rfl h
  | [_, _, _], _, _, h => absurd rfl h
  | _ :: _ :: _ :: _ :: _, _, _, _ => rfl
/-- texts within a tuple are of a length that can be told -/
def ShortT : PyData → Prop
  | .tuple ds => ∀ d ∈ ds, Short d
  | .str x => x.length ≤ 1000
  | _ => True
section
variable {P : Program} {w : World} {K : PySem.W.Frag} {mg : Str → Option Value} {base : Heap}
theorem scVl : FnScope ["value"] ["value"] (defScope sVal) := ⟨rfl, rfl, rfl, by decide +kernel, rfl, by decide +kernel, by decide +kernel⟩
theorem ok_val {f fKd fN fP aN : Addr} {fd fdKd fdN fdP : FuncData} (F : Fun K "is_value" "is_value" sVal f fd) (T : Glob mg) (GK : FnOk P w K mg base CX0 2 fKd fdKd ["value"] (spAsk Short kindD)) (DK : Def K mg "is_kind_word" fKd) (bK : Binds K fdKd ["value"] [])
    (GN : FnOk P w K mg base CX0 1 fN fdN ["value"] (spAsk (fun _ => True) numD)) (DN : Def K mg "is_number" fN) (bN : Binds K fdN ["value"] [])
    (GP : FnOk P w K mg base CX0 2 fP fdP ["word", "content"] (spPair pairD)) (DP : Def K mg "is_pair_value" fP) (bP : Binds K fdP ["word", "content"] [])
    (mN : mg "NONE" = some (.ref aN)) (hN : ∀ H, SqT K H aN [V.str "none"]) : FnOk P w K mg base CX0 3 f fd ["value"] (spAsk ShortT valD) := by
  refine F.ok scVl (fun vs H Q E h => ?_) (fun cdv A outer s H vs Q E hr h => ?_)
  · obtain ⟨N, v, d, rfl, _⟩ := h
    rfl
  · obtain ⟨N, v, d, rfl, hv, hs, k⟩ := h
    have hr1 : Room 1 _ := hr.mono (by decide)
    have hu := hu_of hr
    refine ⟨_, pss_cons (ps_if (pt_not (pt_val (pe_callB call_isi (by rfl) T.isinstance (by decide +kernel) (pa_cons (pv 0) (pa_cons (pe_bltn (v := .ty "tuple") (by rfl) T.tuple (by decide +kernel) rfl) pa_nil))))) (pss_one (ps_ret pe_bl)) pss_nil)
      (pss_cons (ps_if (pt_cmpR op_eq (pe_callB call_len_seq (by rfl) T.len PySem.boot_len (pa_cons (pv 0) pa_nil)) pe_int (nomark _)) (pss_one (ps_ret (pe_cmpR (op_eqT (N := N) hu) (pv 0) (pe_glob (v := .ref aN) rfl mN rfl) (nomark _)))) pss_nil)
      (pss_cons (ps_if (pt_cmpR op_eq (pe_callB call_len_seq (by rfl) T.len PySem.boot_len (pa_cons (pv 0) pa_nil)) pe_int (nomark _))
        (pss_one (ps_ret (pe_and (pe_cmpR (op_eqS (N := N) hr.units0) (pe_ix ix_tup (pv 0) pe_int (fun _ _ => rfl)) pe_str (nomark _))
          (pe_and (pe_call GK hr (by rfl) DK.gl DK.kp bK .nil pass0 (pa_cons (pe_ix ix_tup (pv 0) pe_int (fun _ _ => rfl)) pa_nil))
            (pe_one (pe_call GN hr1 (by rfl) DN.gl DN.kp bN .nil pass0 (pa_cons (pe_ix ix_tup (pv 0) pe_int (fun _ _ => rfl)) pa_nil))))))) pss_nil)
      (pss_one (ps_ret (pe_and (pe_cmpR op_eq (pe_callB call_len_seq (by rfl) T.len PySem.boot_len (pa_cons (pv 0) pa_nil)) pe_int (nomark _))
        (pe_one (pe_call GP hr (by rfl) DP.gl DP.kp bP .nil pass0 (pa_cons (pe_ix ix_tup (pv 0) pe_int (fun _ _ => rfl)) (pa_cons (pe_ix ix_tup (pv 0) pe_int (fun _ _ => rfl)) pa_nil))))))))), ?_⟩
    refine ⟨_, rfl, v, .ty "tuple", _, _, _, rfl, .ty _, Da.ty hv, kit_tuple d, _, rfl, ?_⟩
    cases d with
    | tuple ds =>
      cases hv with
      | @tup a xs _ e nN q =>
        have eT : SqT K H a xs := SqT.of e
        have el := q.length
        have hs' : ∀ d ∈ ds, Short d := hs
        refine ⟨_, rfl, _, _, rfl, .inr eT, rfl, _, rfl, ite2 (fun h1 => ?_) (fun h1 => ?_)⟩
        · -- one
          obtain ⟨d0, rfl⟩ := len1 (l := ds) (by have := of_len h1; omega)
          refine ⟨_, rfl, a, xs, _, aN, ["none"], rfl, eT, q, rfl, hN H, ?_⟩
          have e1 : eqSs [d0] ["none"] = valD (.tuple [d0]) := Bool.and_true _
          rw [e1]
          exact k H (Same.refl H)
        · refine ⟨_, rfl, _, _, rfl, .inr eT, rfl, _, rfl, ite2 (fun h3 => ?_) (fun h3 => ?_)⟩
          · -- three
            obtain ⟨d0, d1, d2, rfl⟩ := len3 (l := ds) (by have := of_len h3; omega)
            obtain ⟨x0, x1, x2, rfl⟩ := len3 (l := xs) (by rw [el]; rfl)
            cases q with
            | cons q0 q =>
            cases q with
            | cons q1 q =>
            cases q with
            | cons q2 q =>
              have ev : valD (.tuple [d0, d1, d2]) = (eqS d0 "tok" && (kindD d1 && numD d2)) := rfl
              rw [ev] at k
              refine ⟨_, rfl, a, _, _, x0, rfl, rfl, eT, atI_nat (j := 0) rfl, d0, _, q0, rfl, _, rfl, ite2 (fun g0 => ?_) (fun g0 => ?_)⟩
              · rw [g0, Bool.true_and] at k
                refine ⟨_, rfl, a, _, _, x1, rfl, rfl, eT, atI_nat (j := 1) rfl, N, x1, d1, rfl, q1, hs' _ (by simp), fun H1 s1 => ⟨_, rfl, ite2 (fun g1 => ?_) (fun g1 => ?_)⟩⟩
                · rw [g1, Bool.true_and] at k
                  exact ⟨_, rfl, a, _, _, x2, rfl, rfl, SqT.of (s1 _ _ e), atI_nat (j := 2) rfl, N, x2, d2, rfl, q2.keep (Same.keep s1), trivial, fun H2 s2 => k H2 (s1.trans s2)⟩
                · rw [Bool.eq_false_iff.mpr g1, Bool.false_and] at k
                  exact k H1 s1
              · rw [Bool.eq_false_iff.mpr g0, Bool.false_and] at k
                exact k H (Same.refl H)
          · refine ⟨_, rfl, _, _, rfl, .inr eT, rfl, _, rfl, ite2 (fun h2 => ?_) (fun h2 => ?_)⟩
            · -- two
              obtain ⟨d0, d1, rfl⟩ := len2 (l := ds) (by have := of_len h2; omega)
              obtain ⟨x0, x1, rfl⟩ := len2 (l := xs) (by rw [el]; rfl)
              cases q with
              | cons q0 q =>
              cases q with
              | cons q1 q =>
                exact ⟨_, rfl, a, _, _, x0, rfl, rfl, eT, atI_nat (j := 0) rfl, _, rfl, a, _, _, x1, rfl, rfl, eT, atI_nat (j := 1) rfl, N, x0, x1, d0, d1, rfl, q0, q1, hs' _ (by simp), k⟩
            · have e0 := val_other (ds := ds) (by have := not_len h1; omega) (by have := not_len h2; omega) (by have := not_len h3; omega)
              rw [e0] at k
              exact k H (Same.refl H)
    | _ => exact k H (Same.refl H)
/-- value[1] if value[0] == 'tok' else value[0] -/
def spKindOf (K : PySem.W.Frag) : Sp := fun vs H Q _ => ∃ (N : Addr → Prop) (a : Addr) (xs : List V) (x0 x1 : V) (d0 : PyData), vs = [.ref a] ∧ SqT K H a xs ∧ xs[0]? = some x0 ∧ Da N H x0 d0 ∧ (eqS d0 "tok" = true → xs[1]? = some x1) ∧
  Q (if eqS d0 "tok" = true then x1 else x0) H
theorem scKo : FnScope ["value"] ["value"] (defScope sKindOf) := ⟨rfl, rfl, rfl, by decide +kernel, rfl, by decide +kernel, by decide +kernel⟩
theorem ok_kindOf {f : Addr} {fd : FuncData} (F : Fun K "kind_of" "kind_of" sKindOf f fd) : FnOk P w K mg base CX0 1 f fd ["value"] (spKindOf K) := by
  refine F.ok scKo (fun vs H Q E h => ?_) (fun cdv A outer s H vs Q E hr h => ?_)
  · obtain ⟨N, a, xs, x0, x1, d0, rfl, _⟩ := h
    rfl
  · obtain ⟨N, a, xs, x0, x1, d0, rfl, e, h0, q, h1, k⟩ := h
    refine ⟨_, pss_one (ps_ret (pe_ifExp (pt_cmpR (op_eqS (N := N) hr.units0) (pe_ix ix_tup (pv 0) pe_int (fun _ _ => rfl)) pe_str (nomark _)) (pe_ix ix_tup (pv 0) pe_int (fun _ _ => rfl)) (pe_ix ix_tup (pv 0) pe_int (fun _ _ => rfl)))), ?_⟩
    refine ⟨_, rfl, a, xs, _, x0, rfl, rfl, e, atI_nat (j := 0) h0, d0, _, q, rfl, _, rfl, ite2 (fun g => ?_) (fun g => ?_)⟩
    · rw [if_pos g] at k
      exact ⟨_, rfl, a, xs, _, x1, rfl, rfl, e, atI_nat (j := 1) (h1 g), k⟩
    · rw [if_neg g] at k
      exact ⟨_, rfl, a, xs, _, x0, rfl, rfl, e, atI_nat (j := 0) h0, k⟩
end
end K12
/-! K12, 4: a right signature's parts are judged right -/
namespace K12
open PySem PySem.Spec PyProof.Rows L2 Ver
abbrev sCheckKinds : Stmt := top 30
abbrev sOwners : Stmt := top 31
abbrev sKnown : Stmt := top 32
abbrev sAmbig : Stmt := top 33
/-- a variant: its name, the kinds it takes, what it gives -/
abbrev Row := Str × List Str × Str
/-- which kinds may be told -/
structure KindsOk (ks : List Str) : Prop where
  word : ∀ k ∈ ks, kindD (.str k) = true
  short : ∀ k ∈ ks, k.length ≤ 1000
  nod : ks.Nodup
  few : ks.length ≤ 100
theorem inV_strs (k : Str) : ∀ ks : List Str, inV (.str k) (ks.map V.str) = decide (k ∈ ks)
  | [] => by simp [inV]
  | x :: r => by
    have ih := inV_strs k r
    show (eqV (.str x) (.str k) || inV (.str k) (r.map V.str)) = _
    rw [ih]
    show ((x == k) || decide (k ∈ r)) = _
    by_cases h : x = k
    · subst h
      simp
    · have h' : (x == k) = false := by simpa using h
      have h2 : k ≠ x := Ne.symm h
      rw [h']
      simp [h2]
theorem flat_strs : ∀ ks : List Str, (ks.map V.str).all flatV = true
  | [] => rfl
  | _ :: r => by
    show (true && (r.map V.str).all flatV) = true
    rw [flat_strs r]
    rfl
theorem cut_take {xs : List V} {i : Nat} (h : i ≤ xs.length) : cutV xs none (some (i : Int)) = xs.take i := by
  have e0 : HT.sIx xs.length 0 none = 0 := rfl
  have e1 : HT.sIx xs.length xs.length (some (i : Int)) = i := by
    show (if (i : Int) < 0 then ((i : Int) + xs.length).toNat else min (i : Int).toNat xs.length) = i
    rw [if_neg (by omega)]
    simp
    omega
  unfold cutV
  rw [e0, e1]
  simp
def spCheckKinds : Sp := fun vs H Q _ => ∃ (a : Addr) (ks : List Str), vs = [.ref a] ∧ H a = some (.lst (ks.map V.str)) ∧ KindsOk ks ∧ ∀ H', Same H H' → Q .non H'
def spKnown : Sp := fun vs H Q _ => ∃ (a o : Addr) (ks ws : List Str) (r : Str), vs = [.ref a, .ref o, .str r] ∧ H a = some (.tup (ks.map V.str)) ∧ H o = some (.tup (ws.map V.str)) ∧ (ws.length = 1 ∨ ws.length = 2) ∧ (∀ w ∈ ws, w ∈ ks) ∧ (r = "bit" ∨ r ∈ ks) ∧
  ∀ H', Same H H' → Q (.bl true) H'
structure GlobS (mg : Str → Option Value) : Prop where
  enumerate : mg "enumerate" = none
  len : mg "len" = none
  isinstance : mg "isinstance" = none
  tuple : mg "tuple" = none
  list : mg "list" = none
  str : mg "str" = none
  all : mg "all" = none
  any : mg "any" = none
section
variable {P : Program} {w : World} {K : PySem.W.Frag} {mg : Str → Option Value} {base : Heap}
theorem scCk : FnScope ["kinds", "kind", "number"] ["kinds"] (defScope sCheckKinds) := ⟨rfl, rfl, rfl, by decide +kernel, rfl, by decide +kernel, by decide +kernel⟩
theorem ok_checkKinds {f fK : Addr} {fd fdK : FuncData} (F : Fun K "check_kinds" "check_kinds" sCheckKinds f fd) (T : GlobS mg) (GK : FnOk P w K mg base CX0 2 fK fdK ["value"] (spAsk Short kindD)) (DK : Def K mg "is_kind_word" fK) (bK : Binds K fdK ["value"] []) :
    FnOk P w K mg base CX0 3 f fd ["kinds"] spCheckKinds := by
  refine F.ok scCk (fun vs H Q E h => ?_) (fun cdv A outer s H vs Q E hr h => ?_)
  · obtain ⟨a, ks, rfl, _⟩ := h
    rfl
  · obtain ⟨a, ks, rfl, ha, ok, q⟩ := h
    refine ⟨_, pss_cons (ps_for PassesOwn.never rfl (pi_list (pv 0)) (pg_name (i := 1) scCk.nd rfl (.inl rfl))
        (pss_one (ps_if (pt_not (pt_val (pe_call GK hr (by rfl) DK.gl DK.kp bK .nil pass0 (pa_cons (pv 1) pa_nil)))) pss_never pss_nil)))
      (pss_one (ps_for PassesOwn.never rfl (pi_enum (by rfl) T.enumerate (pa_cons (pv 0) pa_nil)) (pg_tup (by rfl) (pgs_cons (pg_name (i := 2) scCk.nd rfl (.inl rfl)) (pgs_cons (pg_name (i := 1) scCk.nd rfl (.inl rfl)) pgs_nil)))
        (pss_one (ps_if (pt_cmpR op_in_seq (pv 1) (pe_slice sl_list (pv 0) po_none (po_some (pv 2))) (by rfl)) pss_never pss_nil)))), ?_⟩
    refine ⟨_, rfl, a, rfl, ⟨_, SqL.of ha⟩, for_it (walk_list (K := K) (a := a) (xs := ks.map V.str)) (fun i σ H2 => Same H H2 ∧ ∃ v1, σ = [some (.ref a), v1, none]) ⟨Same.refl H, _, rfl⟩ (fun i σ H2 _ ⟨sm, _⟩ => SqL.of (sm _ _ ha)) ?_ ?_⟩
    · rintro i x σ H2 H3 hi ⟨sm, v1, rfl⟩ ⟨rfl, hx⟩
      rw [List.getElem?_map] at hx
      obtain ⟨k, hk, rfl⟩ := Option.map_eq_some_iff.mp hx
      have km := List.mem_of_getElem? hk
      refine ⟨_, rfl, fun _ => False, .str k, .str k, rfl, .str k, ok.short k km, fun H4 s4 => ⟨_, rfl, ?_⟩⟩
      rw [ok.word k km]
      exact ⟨sm.trans s4, _, rfl⟩
    · rintro σ H2 ⟨sm, v1, rfl⟩
      refine ⟨_, rfl, a, _, rfl, SqL.of (sm _ _ ha), for_it (walk_enum (K := K) (a := a) (xs := ks.map V.str)) (fun i σ H3 => Same H H3 ∧ ∃ v1 v2, σ = [some (.ref a), v1, v2]) ⟨sm, _, _, rfl⟩ (fun i σ H3 _ ⟨s3, _⟩ => SqL.of (s3 _ _ ha)) ?_ ?_⟩
      · rintro i x σ H3 H4 hi ⟨s3, v1, v2, rfl⟩ ⟨T', x1, x2, rfl, nT, rfl, e1, e2⟩
        have e2' : (ks.map V.str)[i]? = some x2 := e2
        rw [List.getElem?_map] at e2'
        obtain ⟨k, hk, rfl⟩ := Option.map_eq_some_iff.mp e2'
        obtain rfl : V.int (i : Nat) = x1 := Option.some.inj e1
        have s4 : Same H (upd H3 T' (.tup [.int (i : Nat), .str k])) := s3.trans (same_new nT)
        have hik : i < ks.length := (List.getElem?_eq_some_iff.mp hk).1
        refine ⟨T', _, rfl, SqT.of upd_same, rfl, _, _, rfl, _, _, rfl, rfl, _, rfl, _, rfl, _, rfl, ((i : Nat) : Int), rfl, a, _, rfl, SqL.of (s4 _ _ ha), fun p np => ?_⟩
        obtain ⟨H5, z, s5, e5⟩ := fresh np (.lst (cutV (ks.map V.str) none (some (i : Int))))
        rw [z]
        clear z
        rw [cut_take (by rw [List.length_map]; omega), ← List.map_take] at e5
        refine ⟨p, (ks.take i).map V.str, rfl, .inl (SqL.of e5), rfl, flat_strs _, _, rfl, ?_⟩
        have no : ¬ k ∈ ks.take i := fun hm => by
          obtain ⟨j, hj, ej⟩ := List.getElem_of_mem hm
          rw [List.length_take] at hj
          rw [List.getElem_take] at ej
          have e := (List.getElem?_eq_some_iff.mp hk).2
          have := (List.getElem_inj ok.nod).mp (ej.trans e.symm)
          omega
        rw [show (if false = true then !inV (.str k) ((ks.take i).map V.str) else inV (.str k) ((ks.take i).map V.str)) = false by rw [inV_strs, decide_eq_false no]; rfl]
        exact ⟨s4.trans s5, _, _, rfl⟩
      · rintro σ H3 ⟨s3, v1, v2, rfl⟩
        exact q H3 s3
theorem scKn : FnScope ["kinds", "wanted", "result", "kind"] ["kinds", "wanted", "result"] (defScope sKnown) := ⟨rfl, rfl, rfl, by decide +kernel, rfl, by decide +kernel, by decide +kernel⟩
theorem ok_known {f : Addr} {fd : FuncData} (F : Fun K "are_known" "are_known" sKnown f fd) (T : GlobS mg) : FnOk P w K mg base CX0 1 f fd ["kinds", "wanted", "result"] spKnown := by
  refine F.ok scKn (fun vs H Q E h => ?_) (fun cdv A outer s H vs Q E hr h => ?_)
  · obtain ⟨a, o, ks, ws, r, rfl, _⟩ := h
    rfl
  · obtain ⟨a, o, ks, ws, r, rfl, ha, ho, hl, hw, hrs, q⟩ := h
    refine ⟨_, pss_cons (ps_if (PW.pt (pw_or (pt_not (pt_val (pe_callB call_isi (by rfl) T.isinstance (by decide +kernel) (pa_cons (pv 1) (pa_cons (pe_bltn (v := .ty "tuple") (by rfl) T.tuple (by decide +kernel) rfl) pa_nil)))))
        (pw_or1 (pt_cmpR op_notIn_seq (pe_callB (r := rLen K) call_len_seq (by rfl) T.len PySem.boot_len (pa_cons (pv 1) pa_nil)) (pe_tup (pa_cons pe_int (pa_cons pe_int pa_nil))) (by rfl))))) (pss_one (ps_ret pe_bl)) pss_nil)
      (pss_one (ps_ret (pe_and (pe_callB (cr_all rfl) (by rfl) T.all (by decide +kernel) (pa_cons (pe_lc (own := [("kind", 3)]) (g := gName 3) (tt := tYes) rfl scKn.nd (pi_tup (pv 1))
          (blkOk_by (N := ["kinds", "wanted", "result", "kind"]) (sc := defScope sKnown) (by decide +kernel)) (fun _ _ _ _ _ => pg_name (i := 3) scKn.nd rfl (.inl rfl)) (fun _ _ _ _ _ => pts_nil)
          (fun _ _ _ _ _ => pe_cmpR (r := rIn K false) op_in_seq (pv 3) (pv 0) (by rfl))) pa_nil))
        (pe_one (pe_or (pe_cmpR op_eq (pv 2) pe_str (nomark _)) (pe_one (pe_cmpR op_in_seq (pv 2) (pv 0) (by rfl)))))))), ?_⟩
    have n1 : ws.length ≤ 1000 := by omega
    refine ⟨_, rfl, .ref o, .ty "tuple", _, _, true, rfl, .ty _, .base (.tup ho), kit_ty (by decide +kernel), _, rfl, _, rfl, o, _, rfl, .inr (SqT.of ho), by show 2 ≤ sizeLine; decide, fun t nt => ?_⟩
    obtain ⟨H1, z, s1, e1⟩ := fresh nt (.tup [.int 1, .int 2])
    rw [z]
    clear z
    have il : inV (.int (ws.map V.str).length) [.int 1, .int 2] = true := by
      rw [List.length_map]
      rcases hl with h | h <;> rw [h] <;> decide
    refine ⟨t, _, rfl, .inr (SqT.of e1), rfl, rfl, _, rfl, ?_⟩
    rw [show (if true = true then !inV (.int (ws.map V.str).length) [.int 1, .int 2] else inV (.int (ws.map V.str).length) [.int 1, .int 2]) = false by rw [il]; rfl]
    refine ⟨_, rfl, o, rfl, ⟨_, SqT.of (s1 _ _ ho)⟩, fun D nD => lc_it (walk_tup (K := K) (a := o) (xs := ws.map V.str)) (fun i H2 => Same H1 H2 ∧ H2 D = some (.lst ((List.replicate i true).map V.bl))) ⟨same_new nD, upd_same⟩ (fun i H2 _ ⟨sm, _⟩ => SqT.of (sm _ _ (s1 _ _ ho))) ?_ ?_⟩
    · rintro i x H2 H3 hi ⟨sm, eD⟩ ⟨rfl, hx⟩
      rw [List.getElem?_map] at hx
      obtain ⟨k, hk, rfl⟩ := Option.map_eq_some_iff.mp hx
      have hin : inV (.str k) (ks.map V.str) = true := by rw [inV_strs]; exact decide_eq_true (hw k (List.mem_of_getElem? hk))
      have hi' : i < ws.length := by rwa [List.length_map] at hi
      refine ⟨rfl, _, rfl, _, rfl, a, _, rfl, .inr (SqT.of (sm _ _ (s1 _ _ ha))), rfl, flat_strs _, _, eD, by rw [List.length_map, List.length_replicate]; exact small1000 (by omega), fun b ob e => by rw [upd_ne (ne_of_none e nD)]; exact sm b ob e, ?_⟩
      rw [upd_same, show (if false = true then !inV (.str k) (ks.map V.str) else inV (.str k) (ks.map V.str)) = true from hin, List.replicate_succ', List.map_append]
      rfl
    · rintro H2 ⟨sm, eD⟩
      have all : (List.replicate (ws.map V.str).length true).all id = true := by simp
      refine ⟨D, List.replicate (ws.map V.str).length true, rfl, SqL.of eD, ?_⟩
      rw [all]
      have S2 := s1.trans sm
      refine ⟨_, rfl, _, rfl, rfl, _, rfl, ite2 (fun _ => q H2 S2) (fun hb => ?_)⟩
      have hr' : r ∈ ks := hrs.resolve_left fun z => hb (by rw [z]; simp)
      refine ⟨_, rfl, _, rfl, a, _, rfl, .inr (SqT.of (S2 _ _ ha)), rfl, flat_strs _, ?_⟩
      rw [show (if false = true then !inV (.str r) (ks.map V.str) else inV (.str r) (ks.map V.str)) = true by rw [inV_strs, decide_eq_true hr']; rfl]
      exact q H2 S2
end
end K12
/-! K12, 5: the owners of a right signature's variants -/
namespace K12
open PySem PySem.Spec PyProof.Rows L2 Ver
/-- a row of a variant stands at r -/
def RowAt (H : Hp) (r : Addr) (row : Row) : Prop := ∃ o, H r = some (.tup [.str row.1, .ref o, .str row.2.2]) ∧ H o = some (.tup (row.2.1.map V.str))
/-- tuples stay -/
def Tups (H H' : Hp) : Prop := ∀ b xs, H b = some (.tup xs) → H' b = some (.tup xs)
theorem Tups.of {H H' : Hp} (k : Same H H') : Tups H H' := fun b xs e => k b _ e
theorem Tups.trans {H H1 H2 : Hp} (a : Tups H H1) (b : Tups H1 H2) : Tups H H2 := fun c xs e => b c xs (a c xs e)
theorem Tups.lock {H : Hp} {d : Addr} {u o : HO} (e : H d = some u) (n : ∀ xs, u ≠ .tup xs) : Tups H (upd H d o) := fun b xs q => by
  have ne : b ≠ d := fun z => by
    rw [z, e] at q
    exact n xs (Option.some.inj q)
  rw [upd_ne ne]
  exact q
theorem RowAt.tups {H H' : Hp} (k : Tups H H') {r : Addr} {row : Row} : RowAt H r row → RowAt H' r row := fun ⟨o, h1, h2⟩ => ⟨o, k _ _ h1, k _ _ h2⟩
/-- rows, one by one -/
abbrev RowsAt (H : Hp) (rs : List Addr) (rows : List Row) : Prop := Paired (RowAt H) rs rows
theorem RowsAt.tups {H H' : Hp} (k : Tups H H') : ∀ {rs : List Addr} {rows : List Row}, RowsAt H rs rows → RowsAt H' rs rows
  | _, _, .nil => .nil
  | _, _, .cons h t => .cons (h.tups k) (RowsAt.tups k t)
theorem Paired.at {α β : Type} {R : α → β → Prop} : ∀ {as : List α} {bs : List β} {i : Nat} {a : α}, Paired R as bs → as[i]? = some a → ∃ b, bs[i]? = some b ∧ R a b
  | _, _, _, _, .nil, e => by simp at e
  | _, _, 0, _, .cons h _, e => by
    simp at e
    subst e
    exact ⟨_, rfl, h⟩
  | _, _, i + 1, _, .cons _ t, e => by
    obtain ⟨b, h1, h2⟩ := Paired.at (i := i) t (by simpa using e)
    exact ⟨b, by simpa using h1, h2⟩
theorem Paired.snoc {α β : Type} {R : α → β → Prop} : ∀ {as : List α} {bs : List β} {a : α} {b : β}, Paired R as bs → R a b → Paired R (as ++ [a]) (bs ++ [b])
  | _, _, _, _, .nil, h => .cons h .nil
  | _, _, _, _, .cons g t, h => .cons g (Paired.snoc t h)
/-- an entry of a dict of rows by texts -/
def Ent (H : Hp) (kv : Key × V) (e : Str × Row) : Prop := kv.1 = .inr e.1 ∧ ∃ a, kv.2 = .ref a ∧ RowAt H a e.2
abbrev Ents (H : Hp) (kvs : List (Key × V)) (es : List (Str × Row)) : Prop := Paired (Ent H) kvs es
theorem Ents.tups {H H' : Hp} (k : Tups H H') : ∀ {kvs : List (Key × V)} {es : List (Str × Row)}, Ents H kvs es → Ents H' kvs es
  | _, _, .nil => .nil
  | _, _, .cons ⟨h1, a, h2, h3⟩ t => .cons ⟨h1, a, h2, h3.tups k⟩ (Ents.tups k t)
theorem Ents.none {H : Hp} {n : Str} : ∀ {kvs : List (Key × V)} {es : List (Str × Row)}, Ents H kvs es → n ∉ es.map Prod.fst → valV kvs (Sum.inr n : Key) = none
  | _, _, .nil, _ => rfl
  | kv :: kvs, e :: es, .cons ⟨h1, _⟩ t, h => by
    rw [List.map_cons, List.mem_cons, not_or] at h
    rw [valV_neg (by rw [h1]; intro z; exact h.1 (Sum.inr.inj z).symm)]
    exact Ents.none t h.2
theorem Ents.some {H : Hp} {n : Str} {row : Row} : ∀ {kvs : List (Key × V)} {es : List (Str × Row)}, Ents H kvs es → es.lookup n = some row → ∃ a, valV kvs (Sum.inr n : Key) = some (.ref a) ∧ RowAt H a row
  | _, _, .nil, h => by simp at h
  | kv :: kvs, (m, r) :: es, .cons ⟨h1, a, h2, h3⟩ t, h => by
    rw [List.lookup_cons] at h
    by_cases e : n = m
    · subst e
      rw [beq_self_eq_true] at h
      cases h
      exact ⟨a, by rw [valV_pos h1, h2], h3⟩
    · rw [beq_eq_false_iff_ne.mpr e] at h
      obtain ⟨b, q1, q2⟩ := Ents.some t h
      exact ⟨b, by rw [valV_neg (by rw [h1]; intro z; exact e (Sum.inr.inj z).symm)]; exact q1, q2⟩
theorem nw3 : ¬ (HT.sIx 3 0 none = 0 ∧ HT.sIx 3 3 (some 2) = 3) := by decide
def spAmbig : Sp := fun vs H Q _ => ∃ (d r : Addr) (kvs : List (Key × V)) (es : List (Str × Row)) (row : Row), vs = [.ref d, .ref r] ∧ H d = some (.dK kvs) ∧ Ents H kvs es ∧ RowAt H r row ∧ (∀ e ∈ es, ¬ (e.2.1 = row.1 ∧ e.2.2.1 = row.2.1)) ∧ es.length ≤ 1000 ∧
  ∀ H', Same H H' → Q (.bl false) H'
section
variable {P : Program} {w : World} {K : PySem.W.Frag} {mg : Str → Option Value} {base : Heap}
theorem scAm : FnScope ["owners", "row", "earlier"] ["owners", "row"] (defScope sAmbig) := ⟨rfl, rfl, rfl, by decide +kernel, rfl, by decide +kernel, by decide +kernel⟩
theorem ok_ambig {f : Addr} {fd : FuncData} (F : Fun K "is_ambiguous" "is_ambiguous" sAmbig f fd) (T : GlobS mg) : FnOk P w K mg base CX0 1 f fd ["owners", "row"] spAmbig := by
  refine F.ok scAm (fun vs H Q E h => ?_) (fun cdv A outer s H vs Q E hr h => ?_)
  · obtain ⟨d, r, kvs, es, row, rfl, _⟩ := h
    rfl
  · obtain ⟨d, r, kvs, es, row, rfl, hd, he, hrow, no, few, q⟩ := h
    refine ⟨_, pss_one (ps_ret (pe_callB (cr_any rfl) (by rfl) T.any (by decide +kernel) (pa_cons (pe_lock (pe_lc (own := [("earlier", 2)]) (g := gName 2) (tt := tYes) rfl scAm.nd (pi_values (pv 0))
        (blkOk_by (N := ["owners", "row", "earlier"]) (sc := defScope sAmbig) (by decide +kernel)) (fun _ _ _ _ _ => pg_name (i := 2) scAm.nd rfl (.inl rfl)) (fun _ _ _ _ _ => pts_nil)
        (fun _ _ _ _ _ => pe_cmpR (r := rEqP K) (op_eqP hr.units) (pe_slice (r := rSlT K) sl_tup (pv 2) po_none (po_some pe_int)) (pe_slice (r := rSlT K) sl_tup (pv 1) po_none (po_some pe_int)) (nomark _)))) pa_nil))), ?_⟩
    refine ⟨d, _, hd, trivial, fun od => ?_⟩
    have lk : Tups H (upd H d (.frz od (.dK kvs))) := Tups.lock hd fun xs z => nomatch z
    generalize hH0 : upd H d (.frz od (.dK kvs)) = H0 at lk
    have d0 : H0 d = some (.frz od (.dK kvs)) := by rw [← hH0]; exact upd_same
    have he0 := he.tups lk
    have hrow0 := hrow.tups lk
    refine ⟨_, rfl, d, od, kvs, rfl, d0, fun D nD => lc_it (walk_values (d := d) (o := od) (kvs := kvs)) (fun i H2 => Same H0 H2 ∧ H2 D = some (.lst ((List.replicate i false).map V.bl))) ⟨same_new nD, upd_same⟩ (fun i H2 _ ⟨sm, _⟩ => sm _ _ d0) ?_ ?_⟩
    · rintro i x H2 H3 hi ⟨sm, eD⟩ ⟨rfl, k, hk⟩
      obtain ⟨e, ee, h1, a, rfl, o1, t1, t2⟩ := Paired.at he0 hk
      obtain ⟨o2, t3, t4⟩ := hrow0
      have hi' : i < 1000 := by
        have : i < es.length := (List.getElem?_eq_some_iff.mp ee).1
        omega
      refine ⟨rfl, _, rfl, 2, rfl, a, _, rfl, SqT.of (sm _ _ t1), nw3, fun p np => ?_⟩
      obtain ⟨H4, z, s4, e4⟩ := fresh np (.tup [.str e.2.1, .ref o1])
      erw [z]
      clear z
      refine ⟨_, rfl, 2, rfl, r, _, rfl, SqT.of (s4 _ _ (sm _ _ t3)), nw3, fun p' np' => ?_⟩
      obtain ⟨H5, z, s5, e5⟩ := fresh np' (.tup [.str row.1, .ref o2])
      erw [z]
      clear z
      have s35 := s4.trans s5
      have q1 : Dp K H5 (.ref p) (.tuple [.str e.2.1, txtsD e.2.2.1]) := .tup (SqT.of (s5 _ _ e4)) (.cons (.str _) (.cons (dp_tupS (s35 _ _ (sm _ _ t2))) .nil))
      have q2 : Dp K H5 (.ref p') (.tuple [.str row.1, txtsD row.2.1]) := .tup (SqT.of e5) (.cons (.str _) (.cons (dp_tupS (s35 _ _ (sm _ _ t4))) .nil))
      have dz : (PyData.tuple [.str e.2.1, txtsD e.2.2.1]).depth ≤ 60 := by
        show max (PyData.depth (.str e.2.1)) (max (PyData.depthAll (e.2.2.1.map .str) + 1) 0) + 1 ≤ 60
        rw [depth_strs]
        show max 0 (max (0 + 1) 0) + 1 ≤ 60
        decide
      have ev : PyData.eqv (.tuple [.str e.2.1, txtsD e.2.2.1]) (.tuple [.str row.1, txtsD row.2.1]) = false := by
        show ((e.2.1 == row.1) && (PyData.eqv (txtsD e.2.2.1) (txtsD row.2.1) && true)) = false
        rw [eqv_txts]
        have n := no e (List.mem_of_getElem? ee)
        by_cases z : e.2.1 = row.1
        · have z2 : ¬ e.2.2.1 = row.2.1 := fun y => n ⟨z, y⟩
          simp [z2]
        · simp [z]
      refine ⟨_, _, q1, q2, dz, _, s35 _ _ eD, by rw [List.length_map, List.length_replicate]; exact small1000 (by omega), fun b ob e => ?_, ?_⟩
      · have e3 := s35 _ _ (sm _ _ e)
        rw [upd_ne (ne_of_none e nD)]
        exact e3
      · rw [upd_same, ev, List.replicate_succ', List.map_append]
        rfl
    · rintro H2 ⟨sm, eD⟩
      refine ⟨sm _ _ d0, ?_⟩
      have hD : upd H2 d (.dK kvs) D = some (.lst ((List.replicate kvs.length false).map V.bl)) := by
        rw [upd_ne (ne_of_none d0 nD).symm]
        exact eD
      refine ⟨D, _, rfl, SqL.of hD, ?_⟩
      have an : (List.replicate kvs.length false).any id = false := by simp
      rw [an]
      refine q _ fun b o e => ?_
      by_cases hb : b = d
      · subst hb
        rw [hd] at e
        cases e
        exact upd_same
      · rw [upd_ne hb]
        refine sm _ _ ?_
        rw [← hH0, upd_ne hb]
        exact e
end
end K12
/-! K12, 6: owners_of, a right signature's -/
namespace K12
open PySem PySem.Spec PyProof.Rows L2 Ver
/-- a signature's primitives: their names, their variants -/
abbrev Prims := List (Str × List Row)
def ownersOf (ps : Prims) : List (Str × Row) := ps.flatMap fun p => p.2.map fun r => (r.1, (p.1, r.2.1, r.2.2))
/-- lists and tuples stay -/
structure Std (H H' : Hp) : Prop where
  t : Tups H H'
  l : ∀ b xs, H b = some (.lst xs) → H' b = some (.lst xs)
theorem Std.of {H H' : Hp} (k : Same H H') : Std H H' := ⟨Tups.of k, fun b _ e => k b _ e⟩
theorem Std.trans {H H1 H2 : Hp} (a : Std H H1) (b : Std H1 H2) : Std H H2 := ⟨a.t.trans b.t, fun c xs e => b.l c xs (a.l c xs e)⟩
/-- all but x stays, and no list, no tuple stands there -/
theorem Std.but {H H' : Hp} {x : Addr} {u : HO} (k : Keep (· = x) H H') (e : H x = some u) (n1 : ∀ xs, u ≠ .tup xs) (n2 : ∀ xs, u ≠ .lst xs) : Std H H' :=
  ⟨fun b xs q => k b _ q fun z => by
      rw [z, e] at q
      exact n1 xs (Option.some.inj q),
    fun b xs q => k b _ q fun z => by
      rw [z, e] at q
      exact n2 xs (Option.some.inj q)⟩
theorem keep_upd {H : Hp} {x : Addr} {o : HO} : Keep (· = x) H (upd H x o) := fun b u e n => by
  rw [upd_ne n]
  exact e
/-- an entry of a dict of lists of rows by texts -/
def PEnt (H : Hp) (kv : Key × V) (e : Str × List Row) : Prop := kv.1 = .inr e.1 ∧ ∃ l as, kv.2 = .ref l ∧ H l = some (.lst (as.map V.ref)) ∧ RowsAt H as e.2
abbrev PEnts (H : Hp) (kvs : List (Key × V)) (ps : Prims) : Prop := Paired (PEnt H) kvs ps
theorem PEnt.std {H H' : Hp} (k : Std H H') {kv : Key × V} {e : Str × List Row} : PEnt H kv e → PEnt H' kv e := fun ⟨h1, l, as, h2, h3, h4⟩ => ⟨h1, l, as, h2, k.l _ _ h3, h4.tups k.t⟩
theorem PEnts.std {H H' : Hp} (k : Std H H') : ∀ {kvs : List (Key × V)} {ps : Prims}, PEnts H kvs ps → PEnts H' kvs ps
  | _, _, .nil => .nil
  | _, _, .cons h t => .cons (h.std k) (PEnts.std k t)
/-- the value of a key that stands at place i, where no key stands twice -/
theorem val_at {kvs : List (Key × V)} {i : Nat} {k : Key} {v : V} (nod : (kvs.map (·.1)).Nodup) (e : kvs[i]? = some (k, v)) : valV kvs k = some v := by
  induction kvs generalizing i with
  | nil => simp at e
  | cons p r ih =>
    rw [List.map_cons, List.nodup_cons] at nod
    cases i with
    | zero =>
      simp at e
      subst e
      exact valV_pos rfl
    | succ i =>
      have e' : r[i]? = some (k, v) := by simpa using e
      have hm : k ∈ r.map (·.1) := List.mem_map.mpr ⟨(k, v), List.mem_of_getElem? e', rfl⟩
      rw [valV_neg fun z => nod.1 (z ▸ hm)]
      exact ih nod.2 e'
theorem pents_keys {H : Hp} : ∀ {kvs : List (Key × V)} {ps : Prims}, PEnts H kvs ps → kvs.map (·.1) = ps.map fun p => (.inr p.1 : Key)
  | _, _, .nil => rfl
  | kv :: kvs, p :: ps, .cons ⟨h, _⟩ t => by
    rw [List.map_cons, List.map_cons, h, pents_keys t]
theorem nod_inr : ∀ {ns : List Str}, ns.Nodup → (ns.map fun n => (.inr n : Key)).Nodup
  | [], _ => List.nodup_nil
  | n :: r, h => by
    rw [List.nodup_cons] at h
    rw [List.map_cons, List.nodup_cons]
    refine ⟨fun m => ?_, nod_inr h.2⟩
    obtain ⟨x, hx, e⟩ := List.mem_map.mp m
    cases e
    exact h.1 hx
/-- what may be told of primitives and their variants -/
structure PrimsOk (ks : List Str) (ps : Prims) : Prop where
  names : (ps.map Prod.fst).Nodup
  word : ∀ p ∈ ps, wordS p.1 = true ∧ p.1.length ≤ 1000
  vnames : ((ownersOf ps).map Prod.fst).Nodup
  vword : ∀ p ∈ ps, ∀ r ∈ p.2, wordS r.1 = true ∧ r.1.length ≤ 1000
  own : ∀ p ∈ ps, ∀ r ∈ p.2, (r.2.1.length = 1 ∨ r.2.1.length = 2) ∧ (∀ w ∈ r.2.1, w ∈ ks) ∧ (r.2.2 = "bit" ∨ r.2.2 ∈ ks)
  owns : ∀ p ∈ ps, (p.2.map fun r => r.2.1).Nodup
  few : (ownersOf ps).length ≤ 900
  fewP : ps.length ≤ 100
theorem owners_take {ps : Prims} {i : Nat} {p : Str × List Row} (e : ps[i]? = some p) : ownersOf (ps.take (i + 1)) = ownersOf (ps.take i) ++ p.2.map fun r => (r.1, (p.1, r.2.1, r.2.2)) := by
  unfold ownersOf
  rw [List.take_add_one, e, List.flatMap_append]
  simp
theorem owners_split {ps : Prims} {i : Nat} {p : Str × List Row} (e : ps[i]? = some p) : ownersOf ps = ownersOf (ps.take i) ++ ((p.2.map fun r => (r.1, (p.1, r.2.1, r.2.2))) ++ ownersOf (ps.drop (i + 1))) := by
  have h : ps = ps.take (i + 1) ++ ps.drop (i + 1) := (List.take_append_drop _ _).symm
  have e2 : ownersOf ps = ownersOf (ps.take (i + 1)) ++ ownersOf (ps.drop (i + 1)) := by
    conv => lhs; rw [h]
    unfold ownersOf
    rw [List.flatMap_append]
  rw [e2, owners_take e, List.append_assoc]
/-- the next variant is none of those so far -/
theorem next_new {ks : List Str} {ps : Prims} (ok : PrimsOk ks ps) {i j : Nat} {p : Str × List Row} {r : Row} (e : ps[i]? = some p) (er : p.2[j]? = some r) :
    r.1 ∉ (ownersOf (ps.take i) ++ (p.2.take j).map fun r => (r.1, (p.1, r.2.1, r.2.2))).map Prod.fst := by
  have nod := ok.vnames
  obtain ⟨h1, h2⟩ := List.getElem?_eq_some_iff.mp er
  have hs : p.2 = p.2.take j ++ r :: p.2.drop (j + 1) := by
    conv => lhs; rw [← List.take_append_drop j p.2, List.drop_eq_getElem_cons h1, h2]
  have hw : ownersOf ps = (ownersOf (ps.take i) ++ (p.2.take j).map fun r => (r.1, (p.1, r.2.1, r.2.2))) ++ ((r.1, (p.1, r.2.1, r.2.2)) :: ((p.2.drop (j + 1)).map (fun r => (r.1, (p.1, r.2.1, r.2.2))) ++ ownersOf (ps.drop (i + 1)))) := by
    rw [owners_split e]
    conv => lhs; rw [hs]
    simp
  rw [hw, List.map_append, List.map_cons] at nod
  have d := (List.nodup_append.mp nod).2.2
  intro hm
  exact d r.1 hm r.1 (List.mem_cons_self ..) rfl
theorem next_apart {ks : List Str} {ps : Prims} (ok : PrimsOk ks ps) {i j : Nat} {p : Str × List Row} {r : Row} (e : ps[i]? = some p) (er : p.2[j]? = some r) :
    ∀ en ∈ ownersOf (ps.take i) ++ (p.2.take j).map (fun r => (r.1, (p.1, r.2.1, r.2.2))), ¬ (en.2.1 = p.1 ∧ en.2.2.1 = r.2.1) := by
  rintro en hm ⟨h1, h2⟩
  rcases List.mem_append.mp hm with hm | hm
  · obtain ⟨p', hp', hm⟩ := List.mem_flatMap.mp hm
    obtain ⟨r', _, rfl⟩ := List.mem_map.mp hm
    have hp1 : p'.1 = p.1 := h1
    obtain ⟨k, hk, ek⟩ := List.getElem_of_mem hp'
    rw [List.length_take] at hk
    rw [List.getElem_take] at ek
    have hi := (List.getElem?_eq_some_iff.mp e)
    obtain ⟨hi1, hi2⟩ := hi
    have nod := ok.names
    have a1 : (ps.map Prod.fst)[k]'(by rw [List.length_map]; omega) = p'.1 := by rw [List.getElem_map, ek]
    have a2 : (ps.map Prod.fst)[i]'(by rw [List.length_map]; omega) = p.1 := by rw [List.getElem_map, hi2]
    have := (List.getElem_inj nod).mp (a1.trans (hp1.trans a2.symm))
    omega
  · obtain ⟨r', hr', rfl⟩ := List.mem_map.mp hm
    have h2' : r'.2.1 = r.2.1 := h2
    obtain ⟨k, hk, ek⟩ := List.getElem_of_mem hr'
    rw [List.length_take] at hk
    rw [List.getElem_take] at ek
    obtain ⟨hj1, hj2⟩ := List.getElem?_eq_some_iff.mp er
    have nod := ok.owns p (List.mem_of_getElem? e)
    have a1 : (p.2.map fun r => r.2.1)[k]'(by rw [List.length_map]; omega) = r'.2.1 := by rw [List.getElem_map, ek]
    have a2 : (p.2.map fun r => r.2.1)[j]'(by rw [List.length_map]; omega) = r.2.1 := by rw [List.getElem_map, hj2]
    have := (List.getElem_inj nod).mp (a1.trans (h2'.trans a2.symm))
    omega
def spOwners : Sp := fun vs H Q _ => ∃ (a d : Addr) (ks : List Str) (kvs : List (Key × V)) (ps : Prims), vs = [.ref a, .ref d] ∧ H a = some (.tup (ks.map V.str)) ∧ H d = some (.dK kvs) ∧ PEnts H kvs ps ∧ PrimsOk ks ps ∧
  ∀ ow H' es, Same H H' → H ow = none → H' ow = some (.dK es) → Ents H' es (ownersOf ps) → Q (.ref ow) H'
abbrev nOwn : List Str := ["kinds", "primitives", "owners", "primitive", "name", "wanted", "result", "row"]
section
variable {P : Program} {w : World} {K : PySem.W.Frag} {mg : Str → Option Value} {base : Heap}
theorem scOw : FnScope nOwn ["kinds", "primitives"] (defScope sOwners) := ⟨rfl, rfl, rfl, by decide +kernel, rfl, by decide +kernel, by decide +kernel⟩
theorem ok_owners {f fW fN fA : Addr} {fd fdW fdN fdA : FuncData} (F : Fun K "owners_of" "owners_of" sOwners f fd) (GW : FnOk P w K mg base CX0 1 fW fdW ["value"] (spAsk Short wordD)) (DW : Def K mg "is_word" fW) (bW : Binds K fdW ["value"] [])
    (GN : FnOk P w K mg base CX0 1 fN fdN ["kinds", "wanted", "result"] spKnown) (DN : Def K mg "are_known" fN) (bN : Binds K fdN ["kinds", "wanted", "result"] [])
    (GA : FnOk P w K mg base CX0 1 fA fdA ["owners", "row"] spAmbig) (DA : Def K mg "is_ambiguous" fA) (bA : Binds K fdA ["owners", "row"] []) : FnOk P w K mg base CX0 2 f fd ["kinds", "primitives"] spOwners := by
  refine F.ok scOw (fun vs H Q E h => ?_) (fun cdv A outer s H vs Q E hr h => ?_)
  · obtain ⟨a, d, ks, kvs, ps, rfl, _⟩ := h
    rfl
  · obtain ⟨a, d, ks, kvs, ps, rfl, ha, hd, hp, ok, q⟩ := h
    have hu := hu_of hr
    refine ⟨_, pss_cons (ps_set (i := 2) scOw.nd rfl (.inl rfl) pe_dnewK)
      (pss_cons (ps_lock (ps_for PassesOwn.never rfl (pi_keys (pv 1)) (pg_name (i := 3) scOw.nd rfl (.inl rfl))
        (pss_cons (ps_if (pt_not (pt_val (pe_call GW hr (by rfl) DW.gl DW.kp bW .nil pass0 (pa_cons (pv 3) pa_nil)))) pss_never pss_nil)
        (pss_one (ps_for PassesOwn.never rfl (pi_list (pe_dget hu (pv 1) (pv 3) (fun _ _ => rfl))) (pg_tup (by rfl) (pgs_cons (pg_name (i := 4) scOw.nd rfl (.inl rfl)) (pgs_cons (pg_name (i := 5) scOw.nd rfl (.inl rfl)) (pgs_cons (pg_name (i := 6) scOw.nd rfl (.inl rfl)) pgs_nil))))
          (pss_cons (ps_if (pt_not (pt_val (pe_call GW hr (by rfl) DW.gl DW.kp bW .nil pass0 (pa_cons (pv 4) pa_nil)))) pss_never pss_nil)
          (pss_cons (ps_if (pt_cmp (pc_din hu (pv 4) (pv 2))) pss_never pss_nil)
          (pss_cons (ps_set (i := 7) scOw.nd rfl (.inl rfl) (pe_tup (pa_cons (pv 3) (pa_cons (pv 5) (pa_cons (pv 6) pa_nil)))))
          (pss_cons (ps_if (PW.pt (pw_or (pt_not (pt_val (pe_call GN hr (by rfl) DN.gl DN.kp bN .nil pass0 (pa_cons (pv 0) (pa_cons (pv 5) (pa_cons (pv 6) pa_nil))))))
              (pw_or1 (pt_val (pe_call GA hr (by rfl) DA.gl DA.kp bA .nil pass0 (pa_cons (pv 2) (pa_cons (pv 7) pa_nil))))))) pss_never pss_nil)
          (pss_one (ps_dput hu (pv 2) (pv 4) (pv 7) rfl)))))))))))
      (pss_one (ps_ret (pv 2)))), ?_⟩
    refine fun ow now => ?_
    obtain ⟨H1, z, s1, e1⟩ := fresh now (.dK [])
    rw [z]
    clear z
    have dow : d ≠ ow := ne_of_none hd now
    have hd1 := s1 _ _ hd
    refine ⟨d, _, hd1, trivial, fun od => ?_⟩
    have k0 : Keep (· = d) H1 (upd H1 d (.frz od (.dK kvs))) := keep_upd
    generalize hH0 : upd H1 d (.frz od (.dK kvs)) = H0 at k0
    have d0 : H0 d = some (.frz od (.dK kvs)) := by rw [← hH0]; exact upd_same
    have st0 : Std H H0 := (Std.of s1).trans (Std.but k0 hd1 (fun _ z => nomatch z) fun _ z => nomatch z)
    have ow0 : H0 ow = some (.dK []) := k0 _ _ e1 dow.symm
    have hp0 := hp.std st0
    have ha0 := st0.t _ _ ha
    have nodK : (kvs.map (·.1)).Nodup := by
      have e := pents_keys hp
      rw [e]
      have := nod_inr ok.names
      rwa [List.map_map] at this
    have spl : kvs.length = ps.length := Paired.length hp
    refine ⟨_, rfl, d, od, rfl, .inl ⟨kvs, d0, for_it (walk_keys (d := d) (o := od) (kvs := kvs)) (fun i σ H2 => ∃ es v3 v4 v5 v6 v7, σ = [some (.ref a), some (.ref d), some (.ref ow), v3, v4, v5, v6, v7] ∧ Keep (· = ow) H0 H2 ∧ H2 ow = some (.dK es) ∧ Ents H2 es (ownersOf (ps.take i)))
      ⟨[], _, _, _, _, _, rfl, .refl, ow0, .nil⟩ (fun i σ H2 _ ⟨_, _, _, _, _, _, _, k2, _⟩ => k2 _ _ d0 dow) ?_ ?_⟩⟩
    · rintro i x σ H2 H3 hi ⟨es, v3, v4, v5, v6, v7, rfl, k2, ow2, en2⟩ ⟨rfl, k, v, hk, rfl⟩
      obtain ⟨p, ep, hk1, l, as, rfl, hl, hrows⟩ := Paired.at hp0 hk
      have hk1' : k = .inr p.1 := hk1
      subst hk1'
      have pm := List.mem_of_getElem? ep
      refine ⟨_, rfl, fun _ => False, .str p.1, .str p.1, rfl, .str p.1, (ok.word p pm).2, fun H4 s4 => ⟨_, rfl, ?_⟩⟩
      rw [show wordD (.str p.1) = true from (ok.word p pm).1]
      have k4 : Keep (· = ow) H0 H4 := k2.trans (Same.keep s4)
      have st4 : Std H0 H4 := Std.but k4 ow0 (fun _ z => nomatch z) fun _ z => nomatch z
      refine ⟨_, rfl, _, rfl, d, .ref l, rfl, .inl ⟨kvs, .inr p.1, .inr ⟨od, k4 _ _ d0 dow⟩, rfl, (val_at nodK hk).symm⟩, l, rfl, ⟨_, SqL.of (st4.l _ _ hl)⟩, ?_⟩
      refine for_it (walk_list (K := K) (a := l) (xs := as.map V.ref)) (fun j σ H5 => ∃ es v4 v5 v6 v7, σ = [some (.ref a), some (.ref d), some (.ref ow), some (.str p.1), v4, v5, v6, v7] ∧ Keep (· = ow) H0 H5 ∧ H5 ow = some (.dK es) ∧ Ents H5 es (ownersOf (ps.take i) ++ (p.2.take j).map fun r => (r.1, (p.1, r.2.1, r.2.2))))
        ⟨es, _, _, _, _, rfl, k4, s4 _ _ ow2, by simpa using en2.tups (Tups.of s4)⟩ (fun j σ H5 _ ⟨_, _, _, _, _, _, k5, _⟩ => SqL.of ((Std.but k5 ow0 (fun _ z => nomatch z) fun _ z => nomatch z).l _ _ hl)) ?_ ?_
      · rintro j x σ H5 H6 hj ⟨es, v4, v5, v6, v7, rfl, k5, ow5, en5⟩ ⟨rfl, hx⟩
        rw [List.getElem?_map] at hx
        obtain ⟨ra, hra, rfl⟩ := Option.map_eq_some_iff.mp hx
        obtain ⟨r, er, o, t1, t2⟩ := Paired.at hrows hra
        have rm := List.mem_of_getElem? er
        have st5 : Std H0 _ := Std.but k5 ow0 (fun _ z => nomatch z) fun _ z => nomatch z
        refine ⟨ra, _, rfl, SqT.of (st5.t _ _ t1), rfl, _, _, rfl, _, _, rfl, _, _, rfl, rfl, ?_⟩
        refine ⟨_, rfl, fun _ => False, .str r.1, .str r.1, rfl, .str r.1, (ok.vword p pm r rm).2, fun H7 s7 => ⟨_, rfl, ?_⟩⟩
        rw [show wordD (.str r.1) = true from (ok.vword p pm r rm).1]
        have nw := next_new ok ep er
        have en7 := en5.tups (Tups.of s7)
        have vn : valV es (Sum.inr r.1 : Key) = none := en7.none nw
        refine ⟨_, rfl, _, rfl, ow, _, rfl, DGet.k (k := Sum.inr r.1) (s7 _ _ ow5), _, rfl, ?_⟩
        rw [vn]
        refine ⟨_, rfl, _, rfl, _, rfl, by show 3 ≤ sizeLine; decide, fun t nt => ?_⟩
        obtain ⟨H8, z, s8, e8⟩ := fresh nt (.tup [.str p.1, .ref o, .str r.2.2])
        rw [z]
        clear z
        have s58 := s7.trans s8
        obtain ⟨w1, w2, w3⟩ := ok.own p pm r rm
        refine ⟨_, rfl, _, rfl, _, rfl, a, o, ks, r.2.1, r.2.2, rfl, s58 _ _ (st5.t _ _ ha0), s58 _ _ (st5.t _ _ t2), w1, w2, w3, fun H9 s9 => ⟨_, rfl, ?_⟩⟩
        have s59 := s58.trans s9
        have ow9 := s59 _ _ ow5
        have en9 := en5.tups (Tups.of s59)
        have rowt : RowAt H9 t (p.1, r.2.1, r.2.2) := ⟨o, s9 _ _ e8, s59 _ _ (st5.t _ _ t2)⟩
        have lenL : (ownersOf (ps.take i) ++ (p.2.take j).map fun r => (r.1, (p.1, r.2.1, r.2.2))).length ≤ 900 := by
          refine Nat.le_trans ?_ ok.few
          rw [owners_split ep, List.length_append, List.length_append, List.length_append, List.length_map, List.length_map, List.length_take]
          omega
        refine ⟨_, rfl, _, rfl, ow, t, es, _, (p.1, r.2.1, r.2.2), rfl, ow9, en9, rowt, next_apart (r := r) ok ep er, by omega, fun Ha sa => ⟨_, rfl, ?_⟩⟩
        have s5a := s59.trans sa
        have owa := s5a _ _ ow5
        have esl : es.length < sizeLine := by
          rw [Paired.length en9]
          exact small1000 (by omega)
        refine ⟨_, rfl, _, rfl, _, rfl, ow, _, rfl, DPut.k (k := Sum.inr r.1) owa esl, ?_⟩
        rw [putK_new _ vn]
        have kb : Keep (· = ow) H0 (upd Ha ow (.dK (es ++ [(Sum.inr r.1, .ref t)]))) := (k5.trans (Same.keep s5a)).trans keep_upd
        have stb : Tups Ha (upd Ha ow (.dK (es ++ [(Sum.inr r.1, .ref t)]))) := (Std.but keep_upd owa (fun _ z => nomatch z) fun _ z => nomatch z).t
        refine ⟨_, _, _, _, _, rfl, kb, upd_same, ?_⟩
        rw [List.take_add_one, er, List.map_append, ← List.append_assoc]
        exact Paired.snoc ((en9.tups (Tups.of sa)).tups stb) ⟨rfl, t, rfl, (rowt.tups (Tups.of sa)).tups stb⟩
      · rintro σ H5 ⟨es, v4, v5, v6, v7, rfl, k5, ow5, en5⟩
        refine ⟨es, _, _, _, _, _, rfl, k5, ow5, ?_⟩
        rw [owners_take ep]
        have e1 : (as.map V.ref).length = p.2.length := by rw [List.length_map]; exact Paired.length hrows
        rw [e1, List.take_length] at en5
        exact en5
    · rintro σ H2 ⟨es, v3, v4, v5, v6, v7, rfl, k2, ow2, en2⟩
      have d2 := k2 _ _ d0 dow
      refine ⟨d2, ?_⟩
      rw [spl, List.take_length] at en2
      have ow3 : upd H2 d (.dK kvs) ow = some (.dK es) := by
        rw [upd_ne dow.symm]
        exact ow2
      refine ⟨_, rfl, q ow _ es (fun b o e => ?_) now ow3 (en2.tups (Tups.lock d2 fun _ z => nomatch z))⟩
      by_cases hb : b = d
      · subst hb
        rw [hd] at e
        cases e
        exact upd_same
      · rw [upd_ne hb]
        refine k2 _ _ ?_ (ne_of_none e now)
        rw [← hH0, upd_ne hb]
        exact s1 _ _ e
end
end K12
/-! K12, 7: a right signature is made -/
namespace Ver
open PySem PySem.Spec PyProof.Rows L2
/-- a dict comprehension over any walk -/
theorem dc_it {J : It} {n : Nat} {G : Hp → Prop} {Y : Nat → Hp → V → Hp → Prop} (w : Walk J n G Y) {g : TG} {tt : TT} {tk tv : TE} {vs : List Nat} {σ : L2.St} {H1 : Hp} {D : Addr} {Qd : Hp → Prop} (Pv : Nat → Hp → Prop) (h0 : Pv 0 (upd H1 D (.dK []))) (hG : ∀ i H, i ≤ n → Pv i H → G H)
    (hs : ∀ i x H H', i < n → Pv i H → Y i H x H' → g x (wipe σ vs) H' fun σ2 H2 => wipe σ2 vs = wipe σ vs ∧ tt σ2 H2 fun b H3 =>
      if b = true then tk σ2 H3 fun y H4 => tv σ2 H4 fun z H5 => ∃ kvs k, y = kV k ∧ H5 D = some (.dK kvs) ∧ kvs.length < sizeLine ∧ Pv (i + 1) (upd H5 D (.dK (putK kvs k z))) else Pv (i + 1) H3) (hd : ∀ H, Pv n H → Qd H) :
    ∃ W : Nat → Nat → Hp → Prop, (∃ m, W 0 m (upd H1 D (.dK []))) ∧ ∀ i m H, W i m H →
      (J.stop i H ∧ Qd H) ∨ (J.go i H ∧ ∃ Nx : Hp → Prop, (∀ H', Nx H' → ∃ m', m' < m ∧ W (i + 1) m' H') ∧ ∀ x H', J.yld i H x H' → g x (wipe σ vs) H' fun σ2 H2 => wipe σ2 vs = wipe σ vs ∧ tt σ2 H2 fun b H3 =>
        if b = true then tk σ2 H3 fun y H4 => tv σ2 H4 fun z H5 => ∃ kvs k, y = kV k ∧ H5 D = some (.dK kvs) ∧ kvs.length < sizeLine ∧ Nx (upd H5 D (.dK (putK kvs k z))) else Nx H3) := by
  refine ⟨fun i m H => i + m = n ∧ Pv i H, ⟨n, Nat.zero_add n, h0⟩, fun i m H ⟨e, p⟩ => ?_⟩
  have q := hG i H (by omega) p
  cases m with
  | zero =>
    have z : i = n := e
    subst z
    exact .inl ⟨w.stops H q, hd H p⟩
  | succ m => exact .inr ⟨w.goes i H (by omega) q, Pv (i + 1), fun H' p' => ⟨m, Nat.lt_succ_self m, by omega, p'⟩, fun x H' y => hs i x H H' (by omega) p (w.yields i H x H' (by omega) q y)⟩
end Ver
namespace K12
open PySem PySem.Spec PyProof.Rows L2 Ver
theorem Tups.of_keepD {H H' : Hp} {d : Addr} {kvs : List (Key × V)} (k : Keep (· = d) H H') (e : H d = some (.dK kvs)) : Tups H H' := (Std.but k e (fun _ z => nomatch z) fun _ z => nomatch z).t
/-- a method of the class that stands at place i of the top -/
def meth (i j : Nat) : Stmt := match top i with
  | .ClassDef _ _ _ b _ _ _ _ _ _ _ => b.getD j (.Pass ⟨0, 0, 0, 0⟩)
  | _ => .Pass ⟨0, 0, 0, 0⟩
/-- an entry of a dict of tuples of rows by texts -/
def TEnt (H : Hp) (kv : Key × V) (e : Str × List Row) : Prop := kv.1 = .inr e.1 ∧ ∃ t as, kv.2 = .ref t ∧ H t = some (.tup (as.map V.ref)) ∧ RowsAt H as e.2
abbrev TEnts (H : Hp) (kvs : List (Key × V)) (ps : Prims) : Prop := Paired (TEnt H) kvs ps
theorem TEnts.tups {H H' : Hp} (k : Tups H H') : ∀ {kvs : List (Key × V)} {ps : Prims}, TEnts H kvs ps → TEnts H' kvs ps
  | _, _, .nil => .nil
  | _, _, .cons ⟨h1, t, as, h2, h3, h4⟩ r => .cons ⟨h1, t, as, h2, k _ _ h3, h4.tups k⟩ (TEnts.tups k r)
theorem tents_keys {H : Hp} : ∀ {kvs : List (Key × V)} {ps : Prims}, TEnts H kvs ps → kvs.map (·.1) = ps.map fun p => (.inr p.1 : Key)
  | _, _, .nil => rfl
  | kv :: kvs, p :: ps, .cons ⟨h, _⟩ t => by
    rw [List.map_cons, List.map_cons, h, tents_keys t]
theorem TEnts.some {H : Hp} {n : Str} {rows : List Row} : ∀ {kvs : List (Key × V)} {es : Prims}, TEnts H kvs es → es.lookup n = some rows → ∃ t as, valV kvs (Sum.inr n : Key) = some (.ref t) ∧ H t = some (.tup (as.map V.ref)) ∧ RowsAt H as rows
  | _, _, .nil, h => by simp at h
  | kv :: kvs, (m, r) :: es, .cons ⟨h1, t, as, h2, h3, h4⟩ tl, h => by
    rw [List.lookup_cons] at h
    by_cases e : n = m
    · subst e
      rw [beq_self_eq_true] at h
      cases h
      exact ⟨t, as, by rw [valV_pos h1, h2], h3, h4⟩
    · rw [beq_eq_false_iff_ne.mpr e] at h
      obtain ⟨t', as', q1, q2⟩ := TEnts.some tl h
      exact ⟨t', as', by rw [valV_neg (by rw [h1]; intro z; exact e (Sum.inr.inj z).symm)]; exact q1, q2⟩
abbrev sigF (ka ow pr : Addr) : List (Str × V) := [("_kinds", .ref ka), ("_owners", .ref ow), ("_primitives", .ref pr)]
/-- a signature stands at g -/
structure SigAt (N : Addr → Prop) (H : Hp) (C g : Addr) (ks : List Str) (ps : Prims) : Prop where
  ex : ∃ dx ka ow pr es kvs, H g = some (.ins C dx (sigF ka ow pr)) ∧ H ka = some (.tup (ks.map V.str)) ∧ H ow = some (.dK es) ∧ Ents H es (ownersOf ps) ∧ H pr = some (.dK kvs) ∧ TEnts H kvs ps ∧ ¬ N g ∧ ¬ N ow ∧ ¬ N pr
theorem SigAt.keep {N : Addr → Prop} {H H' : Hp} {C g : Addr} {ks : List Str} {ps : Prims} (k : Keep N H H') (t : Tups H H') : SigAt N H C g ks ps → SigAt N H' C g ks ps
  | ⟨dx, ka, ow, pr, es, kvs, h1, h2, h3, h4, h5, h6, n1, n2, n3⟩ => ⟨dx, ka, ow, pr, es, kvs, k _ _ h1 n1, t _ _ h2, k _ _ h3 n2, h4.tups t, k _ _ h5 n3, h6.tups t, n1, n2, n3⟩
theorem SigAt.same {N : Addr → Prop} {H H' : Hp} {C g : Addr} {ks : List Str} {ps : Prims} (s : Same H H') (h : SigAt N H C g ks ps) : SigAt N H' C g ks ps := h.keep (Same.keep s) (Tups.of s)
/-- what the top says of the class of signatures -/
structure SigC (K : PySem.W.Frag) (C : Addr) : Prop where
  cl : Cls K C
  nk : NoAttr K C "_kinds"
  no : NoAttr K C "_owners"
  np : NoAttr K C "_primitives"
def spSigInit (C : Addr) : Sp := fun vs H Q _ => ∃ (g dx a d : Addr) (ks : List Str) (kvs : List (Key × V)) (ps : Prims), vs = [.ref g, .ref a, .ref d] ∧ H g = some (.ins C dx []) ∧ H a = some (.lst (ks.map V.str)) ∧ KindsOk ks ∧ H d = some (.dK kvs) ∧ PEnts H kvs ps ∧ PrimsOk ks ps ∧
  ∀ H' dx ka ow pr es kvs', (∀ b o, b ≠ g → H b = some o → H' b = some o) → H' g = some (.ins C dx (sigF ka ow pr)) → H' ka = some (.tup (ks.map V.str)) → H' ow = some (.dK es) → Ents H' es (ownersOf ps) → H' pr = some (.dK kvs') → TEnts H' kvs' ps → H ow = none → H pr = none → Q .non H'
section
variable {P : Program} {w : World} {K : PySem.W.Frag} {mg : Str → Option Value} {base : Heap}
abbrev nSi : List Str := ["self", "kinds", "primitives", "name"]
theorem scSi : FnScope nSi ["self", "kinds", "primitives"] (defScope (meth 29 0)) := ⟨rfl, rfl, rfl, by decide +kernel, rfl, by decide +kernel, by decide +kernel⟩
theorem ok_sigInit {f C fC fO : Addr} {fd fdC fdO : FuncData} (F : Fun K "__init__" "Signature.__init__" (meth 29 0) f fd) (S : SigC K C) (T : GlobS mg) (GC : FnOk P w K mg base CX0 3 fC fdC ["kinds"] spCheckKinds) (DC : Def K mg "check_kinds" fC) (bC : Binds K fdC ["kinds"] [])
    (GO : FnOk P w K mg base CX0 2 fO fdO ["kinds", "primitives"] spOwners) (DO : Def K mg "owners_of" fO) (bO : Binds K fdO ["kinds", "primitives"] []) : FnOk P w K mg base CX0 4 f fd ["self", "kinds", "primitives"] (spSigInit C) := by
  refine F.ok scSi (fun vs H Q E h => ?_) (fun cdv A outer s H vs Q E hr h => ?_)
  · obtain ⟨g, dx, a, d, ks, kvs, ps, rfl, _⟩ := h
    rfl
  · obtain ⟨g, dx, a, d, ks, kvs, ps, rfl, hg, ha, okK, hd, hp, okP, q⟩ := h
    have hu := hu_of hr
    have hr2 : Room 2 _ := hr.mono (by decide)
    refine ⟨_, pss_cons (ps_expr (pe_call GC hr (by rfl) DC.gl DC.kp bC .nil pass0 (pa_cons (pv 1) pa_nil)))
      (pss_cons (ps_fld (pv 0) (pe_callTy call_tupU (by rfl) T.tuple (by decide +kernel) (pa_cons (pv 1) pa_nil)) rfl)
      (pss_cons (ps_fld (pv 0) (pe_call GO hr2 (by rfl) DO.gl DO.kp bO .nil pass0 (pa_cons (pe_fld (pv 0) rfl) (pa_cons (pv 2) pa_nil))) rfl)
      (pss_one (ps_fld (pv 0) (pe_lock (pe_dc (own := [("name", 3)]) (g := gName 3) (tt := tYes) rfl scSi.nd (pi_keys (pv 2))
        (blkOk_by (N := nSi) (sc := defScope (meth 29 0)) (by decide +kernel)) (fun _ _ _ _ _ => pg_name (i := 3) scSi.nd rfl (.inl rfl)) (fun _ _ _ _ _ => pts_nil)
        (fun _ _ _ _ _ => pv 3) (fun _ _ _ _ _ => pe_callTy call_tupU (by rfl) T.tuple (by decide +kernel) (pa_cons (pe_dget hu (pv 2) (pv 3) (fun _ _ => rfl)) pa_nil)))) rfl)))), ?_⟩
    refine ⟨_, rfl, a, ks, rfl, ha, okK, fun H1 s1 => ?_⟩
    refine ⟨_, rfl, a, _, rfl, .inl (s1 _ _ ha), fun t H2 s2 et _ => ?_⟩
    have g2 := s2 _ _ (s1 _ _ hg)
    refine ⟨_, rfl, g, C, dx, [], rfl, g2, S.cl, S.nk, by show 0 < 1000; decide, ?_⟩
    have k3 : Keep (· = g) H (upd H2 g (.ins C dx (putF "_kinds" (.ref t) []))) := (Same.keep (s1.trans s2)).trans keep_upd
    have g3 : upd H2 g (.ins C dx (putF "_kinds" (.ref t) [])) g = some (.ins C dx [("_kinds", .ref t)]) := upd_same
    have t3 : upd H2 g (.ins C dx (putF "_kinds" (.ref t) [])) t = some (.tup (ks.map V.str)) := (Std.but keep_upd g2 (fun _ z => nomatch z) fun _ z => nomatch z).t _ _ et
    generalize upd H2 g (.ins C dx (putF "_kinds" (.ref t) [])) = H3 at k3 g3 t3
    have dg : d ≠ g := fun z => by
      rw [z, hg] at hd
      cases hd
    have st3 : Std H H3 := Std.but k3 hg (fun _ z => nomatch z) fun _ z => nomatch z
    have d3 := k3 _ _ hd dg
    refine ⟨_, rfl, g, C, dx, _, _, rfl, g3, S.cl, S.nk, rfl, _, rfl, t, d, ks, kvs, ps, rfl, t3, d3, hp.std st3, okP, fun ow H4 es s4 now how hes => ?_⟩
    have g4 := s4 _ _ g3
    refine ⟨_, rfl, g, C, dx, _, rfl, g4, S.cl, S.no, by show 1 < 1000; decide, ?_⟩
    have b5 : Std H4 (upd H4 g (.ins C dx (putF "_owners" (.ref ow) [("_kinds", .ref t)]))) := Std.but keep_upd g4 (fun _ z => nomatch z) fun _ z => nomatch z
    have k5 : Keep (· = g) H (upd H4 g (.ins C dx (putF "_owners" (.ref ow) [("_kinds", .ref t)]))) := (k3.trans (Same.keep s4)).trans keep_upd
    have g5 : upd H4 g (.ins C dx (putF "_owners" (.ref ow) [("_kinds", .ref t)])) g = some (.ins C dx [("_kinds", .ref t), ("_owners", .ref ow)]) := upd_same
    have owg : ow ≠ g := (ne_of_none g3 now).symm
    have ow5 : upd H4 g (.ins C dx (putF "_owners" (.ref ow) [("_kinds", .ref t)])) ow = some (.dK es) := by
      rw [upd_ne owg]
      exact how
    have t5 := b5.t _ _ (s4 _ _ t3)
    have hes5 := hes.tups b5.t
    generalize upd H4 g (.ins C dx (putF "_owners" (.ref ow) [("_kinds", .ref t)])) = H5 at b5 k5 g5 ow5 t5 hes5
    have d5 := k5 _ _ hd dg
    have st5 : Std H H5 := Std.but k5 hg (fun _ z => nomatch z) fun _ z => nomatch z
    refine ⟨d, _, d5, trivial, fun od => ?_⟩
    have k6 : Keep (· = d) H5 (upd H5 d (.frz od (.dK kvs))) := keep_upd
    generalize hH6 : upd H5 d (.frz od (.dK kvs)) = H6 at k6
    have d6 : H6 d = some (.frz od (.dK kvs)) := by rw [← hH6]; exact upd_same
    have st6 : Std H H6 := st5.trans (Std.but k6 d5 (fun _ z => nomatch z) fun _ z => nomatch z)
    have hp6 := hp.std st6
    have nodK : (kvs.map (·.1)).Nodup := by
      have e := pents_keys hp
      rw [e]
      have := nod_inr okP.names
      rwa [List.map_map] at this
    have spl : kvs.length = ps.length := Paired.length hp
    have few := okP.fewP
    refine ⟨_, rfl, d, od, rfl, .inl ⟨kvs, d6, fun D nD => ?_⟩⟩
    have dD : d ≠ D := ne_of_none d6 nD
    refine dc_it (walk_keys (d := d) (o := od) (kvs := kvs)) (fun i H7 => Keep (· = D) H6 H7 ∧ ∃ kvs', H7 D = some (.dK kvs') ∧ TEnts H7 kvs' (ps.take i)) ⟨keep_upd, [], upd_same, .nil⟩ (fun i H7 _ ⟨k7, _⟩ => k7 _ _ d6 dD) ?_ ?_
    · rintro i x H7 H8 hi ⟨k7, kvs', eD, en⟩ ⟨rfl, k, v, hk, rfl⟩
      obtain ⟨p, ep, hk1, l, as, rfl, hl, hrows⟩ := Paired.at hp6 hk
      have hk1' : k = .inr p.1 := hk1
      subst hk1'
      have k7' := k7
      have l7 := k7 _ _ hl (ne_of_none hl nD)
      refine ⟨rfl, _, rfl, _, rfl, _, rfl, d, .ref l, rfl, .inl ⟨kvs, .inr p.1, .inr ⟨od, k7 _ _ d6 dD⟩, rfl, (val_at nodK hk).symm⟩, l, _, rfl, .inl l7, fun t' H9 s9 et' _ => ?_⟩
      have D9 := s9 _ _ eD
      have l9 : kvs'.length < sizeLine := by
        rw [Paired.length en, List.length_take]
        exact small1000 (by omega)
      refine ⟨kvs', .inr p.1, rfl, D9, l9, ?_⟩
      have nk : valV kvs' (.inr p.1 : Key) = none := by
        cases e : valV kvs' (.inr p.1 : Key) with
        | none => rfl
        | some v =>
          have m := valV_in e
          rw [tents_keys en] at m
          obtain ⟨p', hp', e'⟩ := List.mem_map.mp m
          have e2 : p'.1 = p.1 := Sum.inr.inj e'
          obtain ⟨j, hj, ej⟩ := List.getElem_of_mem hp'
          rw [List.length_take] at hj
          rw [List.getElem_take] at ej
          obtain ⟨hi1, hi2⟩ := List.getElem?_eq_some_iff.mp ep
          have a1 : (ps.map Prod.fst)[j]'(by rw [List.length_map]; omega) = p'.1 := by rw [List.getElem_map, ej]
          have a2 : (ps.map Prod.fst)[i]'(by rw [List.length_map]; omega) = p.1 := by rw [List.getElem_map, hi2]
          have := (List.getElem_inj okP.names).mp (a1.trans (e2.trans a2.symm))
          omega
      rw [putK_new _ nk]
      have kb : Keep (· = D) H6 (upd H9 D (.dK (kvs' ++ [(.inr p.1, .ref t')]))) := (k7.trans (Same.keep s9)).trans keep_upd
      have stb : Std H9 (upd H9 D (.dK (kvs' ++ [(.inr p.1, .ref t')]))) := Std.but keep_upd D9 (fun _ z => nomatch z) fun _ z => nomatch z
      refine ⟨kb, _, upd_same, ?_⟩
      rw [List.take_add_one, ep]
      have tb : Tups H6 (upd H9 D (.dK (kvs' ++ [(.inr p.1, .ref t')]))) := fun b xs e => kb b _ e (ne_of_none e nD)
      exact Paired.snoc ((en.tups (Tups.of s9)).tups stb.t) ⟨rfl, t', as, rfl, stb.t _ _ et', hrows.tups tb⟩
    · rintro H7 ⟨k7, kvs', eD, en⟩
      have d7 := k7 _ _ d6 dD
      refine ⟨d7, ?_⟩
      rw [spl, List.take_length] at en
      have b8 : Tups H7 (upd H7 d (.dK kvs)) := Tups.lock d7 fun _ z => nomatch z
      have gD : g ≠ D := fun z => by
        have e6 : H6 g = some (.ins C dx [("_kinds", .ref t), ("_owners", .ref ow)]) := k6 _ _ g5 dg.symm
        rw [z, nD] at e6
        cases e6
      have g8 : upd H7 d (.dK kvs) g = some (.ins C dx [("_kinds", .ref t), ("_owners", .ref ow)]) := by
        rw [upd_ne dg.symm]
        exact k7 _ _ (k6 _ _ g5 dg.symm) gD
      have D8 : upd H7 d (.dK kvs) D = some (.dK kvs') := by
        rw [upd_ne dD.symm]
        exact eD
      have back : Keep (· = g) H (upd H7 d (.dK kvs)) := fun b o e n => by
        by_cases hb : b = d
        · rw [hb, hd] at e
          cases e
          rw [hb]
          exact upd_same
        · rw [upd_ne hb]
          have e6 := k6 _ _ (k5 _ _ e n) hb
          exact k7 _ _ e6 (ne_of_none e6 nD)
      have ow6 : H6 ow = some (.dK es) := by
        refine k6 _ _ ow5 fun z => ?_
        rw [z] at now
        exact absurd d3 (by rw [now]; exact fun y => nomatch y)
      have ow8 : upd H7 d (.dK kvs) ow = some (.dK es) := by
        have nd : ow ≠ d := fun z => by
          rw [z] at now
          rw [now] at d3
          cases d3
        rw [upd_ne nd]
        exact k7 _ _ ow6 (ne_of_none ow6 nD)
      have st7 : Tups H6 H7 := fun b xs e => k7 b _ e (ne_of_none e nD)
      have t56 : Tups H5 H6 := Tups.of_keepD k6 d5
      have t58 : Tups H5 (upd H7 d (.dK kvs)) := (t56.trans st7).trans b8
      have en8 := en.tups b8
      clear b8
      generalize upd H7 d (.dK kvs) = H8 at g8 D8 back ow8 t58 en8
      refine ⟨_, rfl, g, C, dx, _, rfl, g8, S.cl, S.np, by show 2 < 1000; decide, ?_⟩
      have b9 : Std H8 (upd H8 g (.ins C dx (putF "_primitives" (.ref D) [("_kinds", .ref t), ("_owners", .ref ow)]))) := Std.but keep_upd g8 (fun _ z => nomatch z) fun _ z => nomatch z
      have nDH : H D = none := by
        cases e : H D with
        | none => rfl
        | some o =>
          have n1 : D ≠ d := dD.symm
          have e6 := k6 _ _ (k5 _ _ e gD.symm) n1
          rw [nD] at e6
          cases e6
      have nowH : H ow = none := by
        cases e : H ow with
        | none => rfl
        | some o =>
          have e3 := k3 _ _ e owg
          rw [now] at e3
          cases e3
      refine q _ dx t ow D es kvs' (fun b o n e => ?_) upd_same (b9.t _ _ (t58 _ _ t5)) ?_ ((hes5.tups t58).tups b9.t) ?_ (en8.tups b9.t) nowH nDH
      · rw [upd_ne n]
        exact back b o e n
      · rw [upd_ne owg]
        exact ow8
      · rw [upd_ne gD.symm]
        exact D8
end
end K12
/-! K12, 8: a signature asked -/
namespace K12
open PySem PySem.Spec PyProof.Rows L2 Ver
def spKinds (C : Addr) : Sp := fun vs H Q _ => ∃ (N : Addr → Prop) (g : Addr) (ks : List Str) (ps : Prims), vs = [.ref g] ∧ SigAt N H C g ks ps ∧ ∀ L, H L = none → Q (.ref L) (upd H L (.lst (ks.map V.str)))
def spPrimitives (C : Addr) : Sp := fun vs H Q _ => ∃ (N : Addr → Prop) (g : Addr) (ks : List Str) (ps : Prims), vs = [.ref g] ∧ SigAt N H C g ks ps ∧ ∀ L, H L = none → Q (.ref L) (upd H L (.lst ((ps.map Prod.fst).map V.str)))
def spVariants (C : Addr) : Sp := fun vs H Q _ => ∃ (N : Addr → Prop) (g : Addr) (ks : List Str) (ps : Prims) (n : Str) (rows : List Row), vs = [.ref g, .str n] ∧ SigAt N H C g ks ps ∧ ps.lookup n = some rows ∧
  ∀ L as, H L = none → RowsAt H as rows → Q (.ref L) (upd H L (.lst (as.map V.ref)))
def spHasKind (C : Addr) : Sp := fun vs H Q _ => ∃ (N : Addr → Prop) (g : Addr) (ks : List Str) (ps : Prims) (k : Str), vs = [.ref g, .str k] ∧ SigAt N H C g ks ps ∧ Q (.bl (decide (k ∈ ks))) H
/-- is the datum the name of a variant -/
def named (ps : Prims) : PyData → Option Row
  | .str n => (ownersOf ps).lookup n
  | _ => none
/-- the way out of a refusal: the class, the name kept -/
def Refused (CE : Addr) (v : V) (H : Hp) (E : XK) : Prop := ∀ d, H d = none → E (.ref CE) (some d) (upd H d (.xd [("name", v)]))
def spVariant (C CU : Addr) : Sp := fun vs H Q E => ∃ (N : Addr → Prop) (g : Addr) (ks : List Str) (ps : Prims) (v : V) (d : PyData), vs = [.ref g, v] ∧ SigAt N H C g ks ps ∧ Da N H v d ∧ TellOk d ∧
  match named ps d with
  | some row => ∀ a, RowAt H a row → Q (.ref a) H
  | none => Refused CU v H E
section
variable {P : Program} {w : World} {K : PySem.W.Frag} {mg : Str → Option Value} {base : Heap} {C CU : Addr}
theorem sc1k : FnScope ["self"] ["self"] (defScope (meth 29 1)) := ⟨rfl, rfl, rfl, by decide +kernel, rfl, by decide +kernel, by decide +kernel⟩
theorem ok_kinds {f : Addr} {fd : FuncData} (F : Fun K "kinds" "Signature.kinds" (meth 29 1) f fd) (S : SigC K C) (T : GlobS mg) : FnOk P w K mg base CX0 1 f fd ["self"] (spKinds C) := by
  refine F.ok sc1k (fun vs H Q E h => ?_) (fun cdv A outer s H vs Q E hr h => ?_)
  · obtain ⟨N, g, ks, ps, rfl, _⟩ := h
    rfl
  · obtain ⟨N, g, ks, ps, rfl, ⟨dx, ka, ow, pr, es, kvs, h1, h2, h3, h4, h5, h6, n1, n2, n3⟩, q⟩ := h
    refine ⟨_, pss_one (ps_ret (pe_callTy call_list_tupB (by rfl) T.list (by decide +kernel) (pa_cons (pe_fld (pv 0) rfl) pa_nil))), ?_⟩
    exact ⟨_, rfl, g, C, dx, _, _, rfl, h1, S.cl, S.nk, rfl, ka, _, rfl, SqT.of h2, fun L nL _ => q L nL⟩
theorem sc2k : FnScope ["self"] ["self"] (defScope (meth 29 2)) := ⟨rfl, rfl, rfl, by decide +kernel, rfl, by decide +kernel, by decide +kernel⟩
theorem ok_primitives {f : Addr} {fd : FuncData} (F : Fun K "primitives" "Signature.primitives" (meth 29 2) f fd) (S : SigC K C) (T : GlobS mg) : FnOk P w K mg base CX0 1 f fd ["self"] (spPrimitives C) := by
  refine F.ok sc2k (fun vs H Q E h => ?_) (fun cdv A outer s H vs Q E hr h => ?_)
  · obtain ⟨N, g, ks, ps, rfl, _⟩ := h
    rfl
  · obtain ⟨N, g, ks, ps, rfl, ⟨dx, ka, ow, pr, es, kvs, h1, h2, h3, h4, h5, h6, n1, n2, n3⟩, q⟩ := h
    refine ⟨_, pss_one (ps_ret (pe_callTy (call_list_dK rfl) (by rfl) T.list (by decide +kernel) (pa_cons (pe_fld (pv 0) rfl) pa_nil))), ?_⟩
    refine ⟨_, rfl, g, C, dx, _, _, rfl, h1, S.cl, S.np, rfl, pr, kvs, rfl, h5, fun L nL => ?_⟩
    have e : (kvs.map fun kv => kV kv.1) = (ps.map Prod.fst).map V.str := by
      have := congrArg (List.map kV) (tents_keys h6)
      rw [List.map_map, List.map_map] at this
      rw [List.map_map]
      exact this
    rw [e]
    exact q L nL
theorem sc3k : FnScope ["self", "name"] ["self", "name"] (defScope (meth 29 3)) := ⟨rfl, rfl, rfl, by decide +kernel, rfl, by decide +kernel, by decide +kernel⟩
theorem ok_variants {f : Addr} {fd : FuncData} (F : Fun K "variants" "Signature.variants" (meth 29 3) f fd) (S : SigC K C) (T : GlobS mg) : FnOk P w K mg base CX0 1 f fd ["self", "name"] (spVariants C) := by
  refine F.ok sc3k (fun vs H Q E h => ?_) (fun cdv A outer s H vs Q E hr h => ?_)
  · obtain ⟨N, g, ks, ps, n, rows, rfl, _⟩ := h
    rfl
  · obtain ⟨N, g, ks, ps, n, rows, rfl, ⟨dx, ka, ow, pr, es, kvs, h1, h2, h3, h4, h5, h6, n1, n2, n3⟩, hl, q⟩ := h
    have hu := hu_of hr
    refine ⟨_, pss_cons (ps_if (PW.pt (pw_or (pt_not (pt_val (pe_callB call_isi (by rfl) T.isinstance (by decide +kernel) (pa_cons (pv 1) (pa_cons (pe_bltn (v := .ty "str") (by rfl) T.str (by decide +kernel) rfl) pa_nil)))))
        (pw_or1 (pt_cmp (pc_dnotin hu (pv 1) (pe_fld (pv 0) rfl)))))) pss_never pss_nil)
      (pss_one (ps_ret (pe_callTy call_list_tupB (by rfl) T.list (by decide +kernel) (pa_cons (pe_dget hu (pe_fld (pv 0) rfl) (pv 1) (fun _ _ => rfl)) pa_nil)))), ?_⟩
    obtain ⟨t, as, hv, ht, hrows⟩ := h6.some hl
    refine ⟨_, rfl, .str n, .ty "str", _, _, true, rfl, .ty _, .base (.str n), kit_ty (by decide +kernel), _, rfl, ?_⟩
    refine ⟨_, rfl, _, rfl, g, C, dx, _, _, rfl, h1, S.cl, S.np, rfl, pr, _, rfl, DGet.k (k := Sum.inr n) h5, _, rfl, ?_⟩
    rw [hv]
    have gt : DGet H pr (.str n) (some (.ref t)) := hv ▸ DGet.k (k := Sum.inr n) h5
    exact ⟨_, rfl, g, C, dx, _, _, rfl, h1, S.cl, S.np, rfl, _, rfl, pr, .ref t, rfl, gt, t, _, rfl, SqT.of ht, fun L nL _ => q L as nL hrows⟩
theorem sc5k : FnScope ["self", "value"] ["self", "value"] (defScope (meth 29 5)) := ⟨rfl, rfl, rfl, by decide +kernel, rfl, by decide +kernel, by decide +kernel⟩
theorem ok_hasKind {f : Addr} {fd : FuncData} (F : Fun K "has_kind" "Signature.has_kind" (meth 29 5) f fd) (S : SigC K C) : FnOk P w K mg base CX0 1 f fd ["self", "value"] (spHasKind C) := by
  refine F.ok sc5k (fun vs H Q E h => ?_) (fun cdv A outer s H vs Q E hr h => ?_)
  · obtain ⟨N, g, ks, ps, k, rfl, _⟩ := h
    rfl
  · obtain ⟨N, g, ks, ps, k, rfl, ⟨dx, ka, ow, pr, es, kvs, h1, h2, h3, h4, h5, h6, n1, n2, n3⟩, q⟩ := h
    refine ⟨_, pss_one (ps_ret (pe_cmpR op_in_seq (pv 1) (pe_fld (pv 0) rfl) (by rfl))), ?_⟩
    refine ⟨_, rfl, _, rfl, g, C, dx, _, _, rfl, h1, S.cl, S.nk, rfl, ka, _, rfl, .inr (SqT.of h2), rfl, flat_strs _, ?_⟩
    rw [show (if false = true then !inV (.str k) (ks.map V.str) else inV (.str k) (ks.map V.str)) = decide (k ∈ ks) from inV_strs k ks]
    exact q
theorem sc4k : FnScope ["self", "name"] ["self", "name"] (defScope (meth 29 4)) := ⟨rfl, rfl, rfl, by decide +kernel, rfl, by decide +kernel, by decide +kernel⟩
/-- what a def that refuses leans on: how its exception is made -/
structure MkE (P : Program) (w : World) (K : PySem.W.Frag) (mg : Str → Option Value) (base : Heap) (nm : Str) (CE fE : Addr) (qE : FuncData) (bm : List Value) (new : String) : Prop where
  x : ExC K CE bm new
  i : PySem.W.findIn K (.ref CE) "__init__" = some (some (.ref fE))
  t : PySem.W.typeIn K (.ref fE) = some (.type "function")
  F : FnOk P w K mg base CX0 2 fE qE ["self", "name"] (spIni K bm new "name")
  b : Binds K qE ["self", "name"] []
  g : mg nm = some (.ref CE)
  nf : PySem.W.findIn K (.ref CE) "name" = some none
/-- the reading of raise C(e) -/
theorem raised {K : PySem.W.Frag} {CE : Addr} {bm : List Value} {new : String} {N : Addr → Prop} {H : Hp} {v : V} {d : PyData} {W : XK} (x : ExC K CE bm new) (nf : PySem.W.findIn K (.ref CE) "name" = some none) (hv : Da N H v d) (ht : TellOk d) (q : Refused CE v H W) :
    ∀ a, H a = none → spIni K bm new "name" (.ref a :: ([v] ++ [])) (upd H a (exo a CE none)) (fun v' H2 => v' = .non ∧ ∃ (d' : Addr) (fs : List (Str × V)), H2 a = some (exo a CE (some d')) ∧ H2 d' = some (exd d' fs) ∧ H d' = none ∧ W (.ref CE) (some d') (upd (del H2 a) d' (.xd fs))) (fun _ _ _ => False) := by
  intro a na
  refine ⟨N, a, CE, v, d, rfl, upd_same, x, nf, hv.keep (Same.keep (same_new na)), ht, fun dx nd ne => ⟨rfl, dx, [("name", v)], upd_same, ?_, ?_, ?_⟩⟩
  · rw [upd_ne ne, upd_same]
  · rw [upd_ne ne] at nd
    exact nd
  · rw [drop_made na nd]
    refine q dx ?_
    rw [upd_ne ne] at nd
    exact nd
theorem ok_variant {f fE : Addr} {fd qE : FuncData} (F : Fun K "variant" "Signature.variant" (meth 29 4) f fd) (S : SigC K C) (T : GlobS mg) (M : MkE P w K mg base "UnknownName" CU fE qE bmL "LookupError.__new__") : FnOk P w K mg base (L2.CX P w) 4 f fd ["self", "name"] (spVariant C CU) := by
  refine F.okX sc4k (fun vs H Q E h => ?_) (fun cdv A outer s H vs Q E hr h => ?_)
  · obtain ⟨N, g, ks, ps, v, d, rfl, _⟩ := h
    rfl
  · obtain ⟨N, g, ks, ps, v, d, rfl, ⟨dx, ka, ow, pr, es, kvs, h1, h2, h3, h4, h5, h6, n1, n2, n3⟩, hv, ht, q⟩ := h
    have hu := hu_of hr
    refine ⟨_, pss_cons (ps_if (PW.pt (pw_or (pt_not (pt_val (pe_callB call_isi (by rfl) T.isinstance (by decide +kernel) (pa_cons (pv 1) (pa_cons (pe_bltn (v := .ty "str") (by rfl) T.str (by decide +kernel) rfl) pa_nil)))))
        (pw_or1 (pt_cmp (pc_dnotin hu (pv 1) (pe_fld (pv 0) rfl))))))
          (pss_one (ps_raise rfl (takes_of rfl rfl rfl rfl) (pmk_x exB_LE M.x M.i M.t M.F hr M.b .nil pass0 (by rfl) M.g (pa_cons (pv 1) pa_nil)))) pss_nil)
      (pss_one (ps_ret (pe_dget hu (pe_fld (pv 0) rfl) (pv 1) (fun _ _ => rfl)))), ?_⟩
    refine ⟨_, rfl, v, .ty "str", _, _, _, rfl, .ty _, Da.ty hv, kit_str d, _, rfl, ?_⟩
    have refuse : Refused CU v H E → tMkO CU (spIni K bmL "LookupError.__new__" "name") [] (tCons (tVar 1) tNil) (L2.start ["self", "name"] [.ref g, v]) H E := fun r => ⟨v, rfl, by show 1 ≤ 1000; decide, raised M.x M.nf hv ht r⟩
    cases d with
    | str n =>
      cases hv
      refine ⟨_, rfl, _, rfl, g, C, dx, _, _, rfl, h1, S.cl, S.no, rfl, ow, _, rfl, DGet.k (k := Sum.inr n) h3, _, rfl, ?_⟩
      have q' : (match (ownersOf ps).lookup n with
        | some row => ∀ a, RowAt H a row → Q (.ref a) H
        | none => Refused CU (.str n) H E) := q
      cases el : (ownersOf ps).lookup n with
      | some row =>
        rw [el] at q'
        obtain ⟨a, hva, hra⟩ := h4.some el
        rw [hva]
        have gt : DGet H ow (.str n) (some (.ref a)) := hva ▸ DGet.k (k := Sum.inr n) h3
        exact ⟨_, rfl, g, C, dx, _, _, rfl, h1, S.cl, S.no, rfl, _, rfl, ow, .ref a, rfl, gt, q' a hra⟩
      | none =>
        rw [el] at q'
        have hm : n ∉ (ownersOf ps).map Prod.fst := fun m => by
          obtain ⟨e, he, e1⟩ := List.mem_map.mp m
          have := List.lookup_eq_none_iff.mp el e he
          simp [e1] at this
        rw [h4.none hm]
        exact refuse q'
    | _ => exact refuse q
end
end K12
/-! K12, 9: a right book's parts are judged right -/
namespace K12
open PySem PySem.Spec PyProof.Rows L2 Ver
abbrev sIndex : Stmt := top 18
abbrev sSizes : Stmt := top 24
abbrev sTables : Stmt := top 25
abbrev sTable : Stmt := top 26
theorem ne_same {x : V} : (!decide (x = x)) = false := by simp
/-- how many tokens each kind has -/
abbrev Sizes := List (Str × Int)
def szD (sz : Sizes) : List (Key × V) := sz.map fun p => (.inr p.1, .int p.2)
theorem sz_none {n : Str} : ∀ {sz : Sizes}, sz.lookup n = none → valV (szD sz) (.inr n : Key) = none
  | [], _ => rfl
  | (m, i) :: r, h => by
    rw [List.lookup_cons] at h
    by_cases e : n = m
    · subst e
      rw [beq_self_eq_true] at h
      cases h
    · rw [beq_eq_false_iff_ne.mpr e] at h
      show valV ((Sum.inr m, V.int i) :: szD r) (Sum.inr n : Key) = none
      rw [valV_neg fun z => e (Sum.inr.inj z).symm]
      exact sz_none h
theorem sz_some {n : Str} {i : Int} : ∀ {sz : Sizes}, sz.lookup n = some i → valV (szD sz) (.inr n : Key) = some (.int i)
  | [], h => by simp at h
  | (m, j) :: r, h => by
    rw [List.lookup_cons] at h
    by_cases e : n = m
    · subst e
      rw [beq_self_eq_true] at h
      cases h
      exact valV_pos rfl
    · rw [beq_eq_false_iff_ne.mpr e] at h
      show valV ((Sum.inr m, V.int j) :: szD r) (Sum.inr n : Key) = some (.int i)
      rw [valV_neg fun z => e (Sum.inr.inj z).symm]
      exact sz_some h
/-- which sizes may be told of kinds -/
structure SizesOk (ks : List Str) (sz : Sizes) : Prop where
  keys : sz.map Prod.fst = ks
  low : ∀ p ∈ sz, 1 ≤ p.2
  high : ∀ p ∈ sz, p.2 ≤ 1000
theorem look_mem {α : Type} {n : Str} : ∀ {sz : List (Str × α)}, n ∈ sz.map Prod.fst → ∃ i, sz.lookup n = some i ∧ (n, i) ∈ sz
  | [], h => by simp at h
  | (m, j) :: r, h => by
    by_cases e : n = m
    · subst e
      exact ⟨j, by simp [List.lookup_cons], .head _⟩
    · have hm : n ∈ r.map Prod.fst := by
        rw [List.map_cons, List.mem_cons] at h
        exact h.resolve_left e
      obtain ⟨i, h1, h2⟩ := look_mem hm
      exact ⟨i, by rw [List.lookup_cons, beq_eq_false_iff_ne.mpr e]; exact h1, .tail _ h2⟩
theorem SizesOk.at {ks : List Str} {sz : Sizes} (ok : SizesOk ks sz) {k : Str} (h : k ∈ ks) : ∃ i, sz.lookup k = some i ∧ 1 ≤ i ∧ i ≤ 1000 := by
  obtain ⟨i, h1, h2⟩ := look_mem (sz := sz) (n := k) (by rw [ok.keys]; exact h)
  exact ⟨i, h1, ok.low _ h2, ok.high _ h2⟩
/-- how many choices of tokens of these kinds there are -/
def choices (sz : Sizes) (ws : List Str) : Int := ws.foldl (fun n k => n * (sz.lookup k).getD 0) 1
/-- what a table may tell of a variant that gives r -/
def EntOk (sz : Sizes) (r : Str) (e : V) : Prop := (r = "bit" ∧ (e = .str "yes" ∨ e = .str "no")) ∨ (r ≠ "bit" ∧ ∃ i n, e = .int i ∧ sz.lookup r = some n ∧ 0 ≤ i ∧ i < n)
structure TabOk (sz : Sizes) (ws : List Str) (r : Str) (es : List V) : Prop where
  len : (es.length : Int) = choices sz ws
  ents : ∀ e ∈ es, EntOk sz r e
  few : es.length ≤ 1000
def spIndex : Sp := fun vs H Q _ => ∃ i n : Int, vs = [.int i, .int n] ∧ ∀ H', Same H H' → Q (.bl (decide (0 ≤ i) && decide (i < n))) H'
def spTable : Sp := fun vs H Q _ => ∃ (sd o l : Addr) (sz : Sizes) (ws : List Str) (r : Str) (es : List V), vs = [.ref sd, .ref o, .str r, .ref l] ∧ H sd = some (.dK (szD sz)) ∧ H o = some (.tup (ws.map V.str)) ∧ H l = some (.lst es) ∧ (ws.length = 1 ∨ ws.length = 2) ∧
  (∀ k ∈ ws, ∃ i, sz.lookup k = some i ∧ 1 ≤ i ∧ i ≤ 1000) ∧ TabOk sz ws r es ∧ ∀ H', Same H H' → Q (.bl true) H'
section
variable {P : Program} {w : World} {K : PySem.W.Frag} {mg : Str → Option Value} {base : Heap} {C : Addr}
theorem scIx : FnScope ["value", "many"] ["value", "many"] (defScope sIndex) := ⟨rfl, rfl, rfl, by decide +kernel, rfl, by decide +kernel, by decide +kernel⟩
theorem ok_index {f fN : Addr} {fd fdN : FuncData} (F : Fun K "is_index" "is_index" sIndex f fd) (GN : FnOk P w K mg base CX0 1 fN fdN ["value"] (spAsk (fun _ => True) numD)) (DN : Def K mg "is_number" fN) (bN : Binds K fdN ["value"] []) : FnOk P w K mg base CX0 2 f fd ["value", "many"] spIndex := by
  refine F.ok scIx (fun vs H Q E h => ?_) (fun cdv A outer s H vs Q E hr h => ?_)
  · obtain ⟨i, n, rfl, _⟩ := h
    rfl
  · obtain ⟨i, n, rfl, q⟩ := h
    refine ⟨_, pss_one (ps_ret (pe_and (pe_call GN hr (by rfl) DN.gl DN.kp bN .nil pass0 (pa_cons (pv 0) pa_nil)) (pe_one (pe_cmpR op_lt (pv 0) (pv 1) (nomark _))))), ?_⟩
    refine ⟨_, rfl, fun _ => False, .int i, .int i, rfl, .int i, trivial, fun H1 s1 => ⟨_, rfl, ite2 (fun h => ?_) (fun h => ?_)⟩⟩
    · have h' : decide (0 ≤ i) = true := h
      refine ⟨_, rfl, _, rfl, _, _, rfl, rfl, ?_⟩
      have := q H1 s1
      rwa [h', Bool.true_and] at this
    · have h' : decide (0 ≤ i) = false := by
        cases e : decide (0 ≤ i) with
        | false => rfl
        | true => exact absurd e h
      have := q H1 s1
      rw [h', Bool.false_and] at this
      exact this
theorem scTb : FnScope ["sizes", "kinds", "result", "table", "choices", "kind", "entry"] ["sizes", "kinds", "result", "table"] (defScope sTable) := ⟨rfl, rfl, rfl, by decide +kernel, rfl, by decide +kernel, by decide +kernel⟩
theorem ok_table {f fI : Addr} {fd fdI : FuncData} (F : Fun K "is_table" "is_table" sTable f fd) (T : GlobS mg) (GI : FnOk P w K mg base CX0 2 fI fdI ["value", "many"] spIndex) (DI : Def K mg "is_index" fI) (bI : Binds K fdI ["value", "many"] []) : FnOk P w K mg base CX0 3 f fd ["sizes", "kinds", "result", "table"] spTable := by
  refine F.ok scTb (fun vs H Q E h => ?_) (fun cdv A outer s H vs Q E hr h => ?_)
  · obtain ⟨sd, o, l, sz, ws, r, es, rfl, _⟩ := h
    rfl
  · obtain ⟨sd, o, l, sz, ws, r, es, rfl, hs, ho, hl, hw, hk, tab, q⟩ := h
    have hu := hu_of hr
    refine ⟨_, pss_cons (ps_set (i := 4) scTb.nd rfl (.inl rfl) pe_int)
      (pss_cons (ps_for PassesOwn.never rfl (pi_tup (pv 1)) (pg_name (i := 5) scTb.nd rfl (.inl rfl)) (pss_one (ps_set (i := 4) scTb.nd rfl (.inl rfl) (pe_op op_mul (pv 4) (pe_dget hu (pv 0) (pv 5) (fun _ _ => rfl))))))
      (pss_cons (ps_if (PW.pt (pw_or (pt_not (pt_val (pe_callB call_isiT (by rfl) T.isinstance (by decide +kernel) (pa_cons (pv 3) (pa_cons (pe_tup (pa_cons (pe_bltn (v := .ty "list") (by rfl) T.list (by decide +kernel) rfl) (pa_cons (pe_bltn (v := .ty "tuple") (by rfl) T.tuple (by decide +kernel) rfl) pa_nil))) pa_nil)))))
          (pw_or1 (pt_cmpR op_ne (pe_callB (r := rLen K) call_len_seq (by rfl) T.len PySem.boot_len (pa_cons (pv 3) pa_nil)) (pv 4) (nomark _))))) (pss_one (ps_ret pe_bl)) pss_nil)
      (pss_cons (ps_if (pt_cmpR op_eq (pv 2) pe_str (nomark _))
          (pss_one (ps_ret (pe_callB (cr_all rfl) (by rfl) T.all (by decide +kernel) (pa_cons (pe_lc (own := [("entry", 6)]) (g := gName 6) (tt := tYes) rfl scTb.nd (pi_list (pv 3))
            (blkOk_by (N := ["sizes", "kinds", "result", "table", "choices", "kind", "entry"]) (sc := defScope sTable) (by decide +kernel)) (fun _ _ _ _ _ => pg_name (i := 6) scTb.nd rfl (.inl rfl)) (fun _ _ _ _ _ => pts_nil)
            (fun _ _ _ _ _ => pe_or (pe_cmpR op_eq (pv 6) pe_str (nomark _)) (pe_one (pe_cmpR op_eq (pv 6) pe_str (nomark _))))) pa_nil)))) pss_nil)
      (pss_one (ps_ret (pe_callB (cr_all rfl) (by rfl) T.all (by decide +kernel) (pa_cons (pe_lc (own := [("entry", 6)]) (g := gName 6) (tt := tYes) rfl scTb.nd (pi_list (pv 3))
            (blkOk_by (N := ["sizes", "kinds", "result", "table", "choices", "kind", "entry"]) (sc := defScope sTable) (by decide +kernel)) (fun _ _ _ _ _ => pg_name (i := 6) scTb.nd rfl (.inl rfl)) (fun _ _ _ _ _ => pts_nil)
            (fun _ _ _ _ _ => pe_call GI hr (by rfl) DI.gl DI.kp bI .nil pass0 (pa_cons (pv 6) (pa_cons (pe_dget hu (pv 0) (pv 2) (fun _ _ => rfl)) pa_nil)))) pa_nil))))))), ?_⟩
    have wl : ws.length ≤ 2 := by omega
    refine ⟨_, rfl, o, rfl, ⟨_, SqT.of ho⟩, for_it (walk_tup (K := K) (a := o) (xs := ws.map V.str)) (fun i σ H2 => H2 = H ∧ ∃ v5, σ = [some (.ref sd), some (.ref o), some (.str r), some (.ref l), some (.int (choices sz (ws.take i))), v5, none] ∧ 1 ≤ choices sz (ws.take i) ∧ choices sz (ws.take i) ≤ 1000 ^ i)
      ⟨rfl, _, rfl, by show (1 : Int) ≤ 1; decide, by show (1 : Int) ≤ 1000 ^ 0; decide⟩ (fun i σ H2 _ ⟨e, _⟩ => e ▸ SqT.of ho) ?_ ?_⟩
    · rintro i x σ H2 H3 hi ⟨rfl, v5, rfl, c1, c2⟩ ⟨rfl, hx⟩
      rw [List.getElem?_map] at hx
      obtain ⟨k, hkk, rfl⟩ := Option.map_eq_some_iff.mp hx
      obtain ⟨m, hm, m1, m2⟩ := hk k (List.mem_of_getElem? hkk)
      have hi2 : i < 2 := by
        rw [List.length_map] at hi
        omega
      have p1 : (1000 : Int) ^ i ≤ 1000 := by
        have : i = 0 ∨ i = 1 := by omega
        rcases this with e | e <;> rw [e] <;> decide
      have gt : DGet H3 sd (.str k) (some (.int m)) := sz_some hm ▸ DGet.k (k := Sum.inr k) hs
      have ec : choices sz (ws.take (i + 1)) = choices sz (ws.take i) * m := by
        unfold choices
        rw [List.take_add_one, hkk, List.foldl_append]
        show _ * (sz.lookup k).getD 0 = _
        rw [hm]
        rfl
      refine ⟨_, rfl, _, rfl, _, rfl, sd, .int m, rfl, gt, _, _, rfl, rfl, .inl ⟨by omega, by omega⟩, rfl, some (.str k), ?_, ?_, ?_⟩
      · rw [ec]
        rfl
      · rw [ec]
        exact Int.le_trans (by decide : (1 : Int) ≤ 1 * 1) (Int.mul_le_mul c1 m1 (by decide) (by omega))
      · rw [ec, Int.pow_succ]
        exact Int.mul_le_mul c2 m2 (by omega) (by omega)
    · rintro σ H2 ⟨rfl, v5, rfl, c1, c2⟩
      have ew : choices sz (ws.take (ws.map V.str).length) = choices sz ws := by rw [List.length_map, List.take_length]
      rw [ew] at c1 c2 ⊢
      refine ⟨_, rfl, by show 2 ≤ sizeLine; decide, fun tp np => ?_⟩
      obtain ⟨H1, z, s1, e1⟩ := fresh np (.tup [.ty "list", .ty "tuple"])
      rw [z]
      clear z
      have l1 := s1 _ _ hl
      refine ⟨.ref l, tp, _, .type "list", [.type "list", .type "tuple"], true, rfl, e1, .cons (.ty _) (.cons (.ty _) .nil), .base (.lst l1), by rfl, _, rfl, ?_⟩
      refine ⟨_, rfl, l, _, rfl, .inl (SqL.of l1), _, rfl, rfl, ?_⟩
      rw [tab.len, K12.ne_same]
      refine ⟨_, rfl, _, rfl, rfl, _, rfl, ite2 (fun hb => ?_) (fun hb => ?_)⟩
      · have rb : r = "bit" := by simpa using hb
        refine ⟨_, rfl, l, rfl, ⟨_, SqL.of l1⟩, fun D nD => lc_it (walk_list (K := K) (a := l) (xs := es)) (fun i H2 => Same H1 H2 ∧ H2 D = some (.lst ((List.replicate i true).map V.bl))) ⟨same_new nD, upd_same⟩ (fun i H2 _ ⟨sm, _⟩ => SqL.of (sm _ _ l1)) ?_ ?_⟩
        · rintro i x H2 H3 hi ⟨sm, eD⟩ ⟨rfl, hx⟩
          have i1000 : i < 1000 := Nat.lt_of_lt_of_le hi tab.few
          have fin : ∀ {y : V}, y = .bl true → ∃ acc, H3 D = some (.lst acc) ∧ acc.length < sizeLine ∧ (Same H1 (upd H3 D (.lst (acc ++ [y]))) ∧ upd H3 D (.lst (acc ++ [y])) D = some (.lst ((List.replicate (i + 1) true).map V.bl))) := by
            rintro y rfl
            refine ⟨_, eD, by rw [List.length_map, List.length_replicate]; exact small1000 (by omega), fun b ob e => ?_, ?_⟩
            · rw [upd_ne (ne_of_none e nD)]
              exact sm b ob e
            · rw [upd_same, List.replicate_succ', List.map_append]
              rfl
          rcases tab.ents x (List.mem_of_getElem? hx) with ⟨_, rfl | rfl⟩ | ⟨nb, _⟩
          · exact ⟨rfl, _, rfl, rfl, _, rfl, fin rfl⟩
          · exact ⟨rfl, _, rfl, rfl, _, rfl, _, rfl, rfl, fin rfl⟩
          · exact absurd rb nb
        · rintro H2 ⟨sm, eD⟩
          refine ⟨D, List.replicate es.length true, rfl, SqL.of eD, ?_⟩
          rw [show (List.replicate es.length true).all id = true by simp]
          exact q H2 (s1.trans sm)
      · have rb : r ≠ "bit" := by simpa using hb
        refine ⟨_, rfl, l, rfl, ⟨_, SqL.of l1⟩, fun D nD => lc_it (walk_list (K := K) (a := l) (xs := es)) (fun i H2 => Same H1 H2 ∧ H2 D = some (.lst ((List.replicate i true).map V.bl))) ⟨same_new nD, upd_same⟩ (fun i H2 _ ⟨sm, _⟩ => SqL.of (sm _ _ l1)) ?_ ?_⟩
        · rintro i x H2 H3 hi ⟨sm, eD⟩ ⟨rfl, hx⟩
          have i1000 : i < 1000 := Nat.lt_of_lt_of_le hi tab.few
          rcases tab.ents x (List.mem_of_getElem? hx) with ⟨b, _⟩ | ⟨_, j, n, rfl, hn, j0, jn⟩
          · exact absurd b rb
          · have gt : DGet H3 sd (.str r) (some (.int n)) := sz_some hn ▸ DGet.k (k := Sum.inr r) (sm _ _ (s1 _ _ hs))
            refine ⟨rfl, _, rfl, _, rfl, _, rfl, sd, .int n, rfl, gt, j, n, rfl, fun H4 s4 => ⟨_, s4 _ _ eD, by rw [List.length_map, List.length_replicate]; exact small1000 (by omega), fun b ob e => ?_, ?_⟩⟩
            · rw [upd_ne (ne_of_none e nD)]
              exact s4 _ _ (sm b ob e)
            · rw [upd_same, decide_eq_true j0, decide_eq_true jn, List.replicate_succ', List.map_append]
              rfl
        · rintro H2 ⟨sm, eD⟩
          refine ⟨D, List.replicate es.length true, rfl, SqL.of eD, ?_⟩
          rw [show (List.replicate es.length true).all id = true by simp]
          exact q H2 (s1.trans sm)
end
end K12
/-! K12, 10: sizes and tables checked -/
namespace K12
open PySem PySem.Spec PyProof.Rows L2 Ver
/-- the methods of signatures that raise nothing -/
structure SigE (P : Program) (w : World) (K : PySem.W.Frag) (mg : Str → Option Value) (base : Heap) (C fk fp fv fh : Addr) (qk qp qv qh : FuncData) : Prop where
  S : SigC K C
  mk_ : Meth K C "kinds" fk
  gk : FnOk P w K mg base CX0 1 fk qk ["self"] (spKinds C)
  bk : Binds K qk ["self"] []
  mp : Meth K C "primitives" fp
  gp : FnOk P w K mg base CX0 1 fp qp ["self"] (spPrimitives C)
  bp : Binds K qp ["self"] []
  mv : Meth K C "variants" fv
  gv : FnOk P w K mg base CX0 1 fv qv ["self", "name"] (spVariants C)
  bv : Binds K qv ["self", "name"] []
  mh : Meth K C "has_kind" fh
  gh : FnOk P w K mg base CX0 1 fh qh ["self", "value"] (spHasKind C)
  bh : Binds K qh ["self", "value"] []
theorem SigAt.ins {N : Addr → Prop} {H : Hp} {C g : Addr} {ks : List Str} {ps : Prims} : SigAt N H C g ks ps → ∃ dx ka ow pr, H g = some (.ins C dx (sigF ka ow pr))
  | ⟨dx, ka, ow, pr, _, _, h1, _⟩ => ⟨dx, ka, ow, pr, h1⟩
def spCheckSizes (C : Addr) : Sp := fun vs H Q _ => ∃ (N : Addr → Prop) (g sd : Addr) (ks : List Str) (ps : Prims) (sz : Sizes), vs = [.ref g, .ref sd] ∧ SigAt N H C g ks ps ∧ N sd ∧ H sd = some (.dK (szD sz)) ∧ SizesOk ks sz ∧ ∀ H', Same H H' → Q .non H'
section
variable {P : Program} {w : World} {K : PySem.W.Frag} {mg : Str → Option Value} {base : Heap} {C fk fp fv fh : Addr} {qk qp qv qh : FuncData}
theorem scCs : FnScope ["signature", "sizes", "kind"] ["signature", "sizes"] (defScope sSizes) := ⟨rfl, rfl, rfl, by decide +kernel, rfl, by decide +kernel, by decide +kernel⟩
theorem ok_checkSizes {f fN : Addr} {fd fdN : FuncData} (F : Fun K "check_sizes" "check_sizes" sSizes f fd) (Z : SigE P w K mg base C fk fp fv fh qk qp qv qh) (GN : FnOk P w K mg base CX0 1 fN fdN ["value"] (spAsk (fun _ => True) numD)) (DN : Def K mg "is_number" fN) (bN : Binds K fdN ["value"] []) :
    FnOk P w K mg base CX0 2 f fd ["signature", "sizes"] (spCheckSizes C) := by
  refine F.ok scCs (fun vs H Q E h => ?_) (fun cdv A outer s H vs Q E hr h => ?_)
  · obtain ⟨N, g, sd, ks, ps, sz, rfl, _⟩ := h
    rfl
  · obtain ⟨N, g, sd, ks, ps, sz, rfl, sig, nsd, hsd, ok, q⟩ := h
    have hu := hu_of hr
    refine ⟨_, pss_cons (ps_for PassesOwn.never rfl (pi_list (pe_meth0 (pv 0) Z.S.cl Z.mk_ Z.gk hr Z.bk .nil pass0)) (pg_name (i := 2) scCs.nd rfl (.inl rfl))
        (pss_one (ps_if (PW.pt (pw_or (pt_cmp (pc_dnotin hu (pv 2) (pv 1))) (pw_or (pt_not (pt_val (pe_call GN hr (by rfl) DN.gl DN.kp bN .nil pass0 (pa_cons (pe_dget hu (pv 1) (pv 2) (fun _ _ => rfl)) pa_nil))))
          (pw_or1 (pt_cmpR op_lt (pe_dget hu (pv 1) (pv 2) (fun _ _ => rfl)) pe_int (nomark _)))))) pss_never pss_nil)))
      (pss_one (ps_lock (ps_for PassesOwn.never rfl (pi_keys (pv 1)) (pg_name (i := 2) scCs.nd rfl (.inl rfl))
        (pss_one (ps_if (pt_not (pt_val (pe_meth (pv 0) Z.S.cl Z.mh Z.gh hr Z.bh .nil pass0 (pa_cons (pv 2) pa_nil)))) pss_never pss_nil))))), ?_⟩
    obtain ⟨dx, ka, ow, pr, hg⟩ := sig.ins
    refine ⟨_, rfl, g, dx, _, rfl, hg, rfl, N, g, ks, ps, rfl, sig, fun L nL => ?_⟩
    obtain ⟨H1, z, s1, e1⟩ := fresh nL (.lst (ks.map V.str))
    rw [z]
    clear z
    refine ⟨L, rfl, ⟨_, SqL.of e1⟩, for_it (walk_list (K := K) (a := L) (xs := ks.map V.str)) (fun i σ H2 => Same H1 H2 ∧ ∃ v2, σ = [some (.ref g), some (.ref sd), v2]) ⟨Same.refl H1, _, rfl⟩ (fun i σ H2 _ ⟨sm, _⟩ => SqL.of (sm _ _ e1)) ?_ ?_⟩
    · rintro i x σ H2 H3 hi ⟨sm, v2, rfl⟩ ⟨rfl, hx⟩
      rw [List.getElem?_map] at hx
      obtain ⟨k, hk, rfl⟩ := Option.map_eq_some_iff.mp hx
      obtain ⟨n, hn, n1, n2⟩ := ok.at (List.mem_of_getElem? hk)
      have sd3 := sm _ _ (s1 _ _ hsd)
      have gt : DGet H3 sd (.str k) (some (.int n)) := sz_some hn ▸ DGet.k (k := Sum.inr k) sd3
      refine ⟨_, rfl, _, rfl, sd, _, rfl, gt, _, rfl, ?_⟩
      refine ⟨_, rfl, _, rfl, sd, .int n, rfl, gt, fun _ => False, .int n, .int n, rfl, .int n, trivial, fun H4 s4 => ⟨_, rfl, ?_⟩⟩
      rw [show numD (.int n) = true from decide_eq_true (by omega)]
      have gt4 : DGet H4 sd (.str k) (some (.int n)) := sz_some hn ▸ DGet.k (k := Sum.inr k) (s4 _ _ sd3)
      refine ⟨_, rfl, _, rfl, sd, .int n, rfl, gt4, _, _, rfl, rfl, _, rfl, ?_⟩
      rw [show decide (n < 1) = false from decide_eq_false (by omega)]
      exact ⟨sm.trans s4, _, rfl⟩
    · rintro σ H2 ⟨sm, v2, rfl⟩
      have s2 := s1.trans sm
      have sd2 := s2 _ _ hsd
      refine ⟨sd, _, sd2, trivial, fun od => ?_⟩
      have k0 : Keep (· = sd) H2 (upd H2 sd (.frz od (.dK (szD sz)))) := keep_upd
      generalize hH0 : upd H2 sd (.frz od (.dK (szD sz))) = H0 at k0
      have d0 : H0 sd = some (.frz od (.dK (szD sz))) := by rw [← hH0]; exact upd_same
      have sig0 : SigAt N H0 C g ks ps := (sig.same s2).keep (fun b o e n => k0 b o e fun z => n (z ▸ nsd)) (Tups.of_keepD k0 sd2)
      refine ⟨_, rfl, sd, od, rfl, .inl ⟨_, d0, for_it (walk_keys (d := sd) (o := od) (kvs := szD sz)) (fun i σ H3 => H3 = H0 ∧ ∃ v2, σ = [some (.ref g), some (.ref sd), v2]) ⟨rfl, _, rfl⟩ (fun i σ H3 _ ⟨e, _⟩ => e ▸ d0) ?_ ?_⟩⟩
      · rintro i x σ H3 H4 hi ⟨rfl, v2, rfl⟩ ⟨rfl, k, v, hk, rfl⟩
        have hk' : (sz.map fun p => ((Sum.inr p.1 : Key), V.int p.2))[i]? = some (k, v) := hk
        rw [List.getElem?_map] at hk'
        obtain ⟨p, hp, e⟩ := Option.map_eq_some_iff.mp hk'
        cases e
        have pm : p.1 ∈ ks := by
          rw [← ok.keys]
          exact List.mem_map.mpr ⟨p, List.mem_of_getElem? hp, rfl⟩
        obtain ⟨dx', ka', ow', pr', hg'⟩ := sig0.ins
        refine ⟨_, rfl, g, dx', _, rfl, hg', rfl, _, rfl, N, g, ks, ps, p.1, rfl, sig0, _, rfl, ?_⟩
        rw [decide_eq_true pm]
        exact ⟨rfl, _, rfl⟩
      · rintro σ H3 ⟨rfl, v2, rfl⟩
        refine ⟨d0, q _ fun b o e => ?_⟩
        by_cases hb : b = sd
        · rw [hb, hsd] at e
          cases e
          rw [hb]
          exact upd_same
        · rw [upd_ne hb]
          exact k0 _ _ (s2 _ _ e) hb
end
end K12
/-! K12, 11: tables checked -/
namespace K12
open PySem PySem.Spec PyProof.Rows L2 Ver
/-- an entry of a dict of lists by texts -/
def LEnt (H : Hp) (kv : Key × V) (e : Str × List V) : Prop := kv.1 = .inr e.1 ∧ ∃ l, kv.2 = .ref l ∧ H l = some (.lst e.2)
abbrev LEnts (H : Hp) (kvs : List (Key × V)) (tb : List (Str × List V)) : Prop := Paired (LEnt H) kvs tb
theorem LEnts.std {H H' : Hp} (k : Std H H') : ∀ {kvs : List (Key × V)} {tb : List (Str × List V)}, LEnts H kvs tb → LEnts H' kvs tb
  | _, _, .nil => .nil
  | _, _, .cons ⟨h1, l, h2, h3⟩ t => .cons ⟨h1, l, h2, k.l _ _ h3⟩ (LEnts.std k t)
theorem lents_keys {H : Hp} : ∀ {kvs : List (Key × V)} {tb : List (Str × List V)}, LEnts H kvs tb → kvs.map (·.1) = tb.map fun p => (.inr p.1 : Key)
  | _, _, .nil => rfl
  | kv :: kvs, p :: ps, .cons ⟨h, _⟩ t => by
    rw [List.map_cons, List.map_cons, h, lents_keys t]
theorem LEnts.some {H : Hp} {n : Str} {es : List V} : ∀ {kvs : List (Key × V)} {tb : List (Str × List V)}, LEnts H kvs tb → tb.lookup n = some es → ∃ l, valV kvs (Sum.inr n : Key) = some (.ref l) ∧ H l = some (.lst es)
  | _, _, .nil, h => by simp at h
  | kv :: kvs, (m, r) :: tb, .cons ⟨h1, l, h2, h3⟩ tl, h => by
    rw [List.lookup_cons] at h
    by_cases e : n = m
    · subst e
      rw [beq_self_eq_true] at h
      cases h
      exact ⟨l, by rw [valV_pos h1, h2], h3⟩
    · rw [beq_eq_false_iff_ne.mpr e] at h
      obtain ⟨l', q1, q2⟩ := LEnts.some tl h
      exact ⟨l', by rw [valV_neg (by rw [h1]; intro z; exact e (Sum.inr.inj z).symm)]; exact q1, q2⟩
/-- which tables may be told of variants -/
structure TabsOk (ps : Prims) (sz : Sizes) (tb : List (Str × List V)) : Prop where
  keys : tb.map Prod.fst = (ownersOf ps).map Prod.fst
  at_ : ∀ e ∈ ownersOf ps, ∃ es, tb.lookup e.1 = some es ∧ TabOk sz e.2.2.1 e.2.2.2 es
/-- the dict of known names -/
def knD (es : List (Str × Row)) : List (Key × V) := es.map fun e => (.inr e.1, .bl true)
theorem kn_none {n : Str} : ∀ {es : List (Str × Row)}, n ∉ es.map Prod.fst → valV (knD es) (.inr n : Key) = none
  | [], _ => rfl
  | e :: r, h => by
    rw [List.map_cons, List.mem_cons, not_or] at h
    show valV ((Sum.inr e.1, V.bl true) :: knD r) (Sum.inr n : Key) = none
    rw [valV_neg fun z => h.1 (Sum.inr.inj z).symm]
    exact kn_none h.2
theorem kn_some {n : Str} : ∀ {es : List (Str × Row)}, n ∈ es.map Prod.fst → valV (knD es) (.inr n : Key) = some (.bl true)
  | [], h => by simp at h
  | e :: r, h => by
    show valV ((Sum.inr e.1, V.bl true) :: knD r) (Sum.inr n : Key) = some (.bl true)
    by_cases z : e.1 = n
    · exact valV_pos (congrArg Sum.inr z)
    · rw [valV_neg fun y => z (Sum.inr.inj y)]
      rw [List.map_cons, List.mem_cons] at h
      exact kn_some (h.resolve_left fun y => z y.symm)
theorem lookup_at {α : Type} : ∀ {ps : List (Str × α)} {i : Nat} {p : Str × α}, (ps.map Prod.fst).Nodup → ps[i]? = some p → ps.lookup p.1 = some p.2
  | [], _, _, _, h => by simp at h
  | (m, j) :: r, 0, _, _, h => by
    simp at h
    subst h
    simp [List.lookup_cons]
  | (m, j) :: r, i + 1, p, nod, h => by
    have h' : r[i]? = some p := by simpa using h
    rw [List.map_cons, List.nodup_cons] at nod
    have hm : p.1 ∈ r.map Prod.fst := List.mem_map.mpr ⟨p, List.mem_of_getElem? h', rfl⟩
    have ne : p.1 ≠ m := fun z => nod.1 (z ▸ hm)
    rw [List.lookup_cons, beq_eq_false_iff_ne.mpr ne]
    exact lookup_at nod.2 h'
theorem owner_mem {ps : Prims} {i j : Nat} {p : Str × List Row} {r : Row} (e : ps[i]? = some p) (er : p.2[j]? = some r) : (r.1, (p.1, r.2.1, r.2.2)) ∈ ownersOf ps :=
  List.mem_flatMap.mpr ⟨p, List.mem_of_getElem? e, List.mem_map.mpr ⟨r, List.mem_of_getElem? er, rfl⟩⟩
def spCheckTables (C : Addr) : Sp := fun vs H Q _ => ∃ (N : Addr → Prop) (g sd td : Addr) (ks : List Str) (ps : Prims) (sz : Sizes) (tvs : List (Key × V)) (tb : List (Str × List V)), vs = [.ref g, .ref sd, .ref td] ∧ SigAt N H C g ks ps ∧ H sd = some (.dK (szD sz)) ∧ SizesOk ks sz ∧ PrimsOk ks ps ∧
  H td = some (.dK tvs) ∧ LEnts H tvs tb ∧ TabsOk ps sz tb ∧ ∀ H', Same H H' → Q .non H'
abbrev nCt : List Str := ["signature", "sizes", "tables", "known", "primitive", "name", "kinds", "result"]
section
variable {P : Program} {w : World} {K : PySem.W.Frag} {mg : Str → Option Value} {base : Heap} {C fk fp fv fh : Addr} {qk qp qv qh : FuncData}
theorem scCt : FnScope nCt ["signature", "sizes", "tables"] (defScope sTables) := ⟨rfl, rfl, rfl, by decide +kernel, rfl, by decide +kernel, by decide +kernel⟩
theorem ok_checkTables {f fT : Addr} {fd fdT : FuncData} (F : Fun K "check_tables" "check_tables" sTables f fd) (Z : SigE P w K mg base C fk fp fv fh qk qp qv qh) (GT : FnOk P w K mg base CX0 3 fT fdT ["sizes", "kinds", "result", "table"] spTable) (DT : Def K mg "is_table" fT) (bT : Binds K fdT ["sizes", "kinds", "result", "table"] []) :
    FnOk P w K mg base CX0 4 f fd ["signature", "sizes", "tables"] (spCheckTables C) := by
  refine F.ok scCt (fun vs H Q E h => ?_) (fun cdv A outer s H vs Q E hr h => ?_)
  · obtain ⟨N, g, sd, td, ks, ps, sz, tvs, tb, rfl, _⟩ := h
    rfl
  · obtain ⟨N, g, sd, td, ks, ps, sz, tvs, tb, rfl, sig, hsd, okS, okP, htd, ht, okT, q⟩ := h
    have hu := hu_of hr
    have hr1 : Room 1 _ := hr.mono (by decide)
    refine ⟨_, pss_cons (ps_set (i := 3) scCt.nd rfl (.inl rfl) pe_dnewK)
      (pss_cons (ps_for PassesOwn.never rfl (pi_list (pe_meth0 (pv 0) Z.S.cl Z.mp Z.gp hr1 Z.bp .nil pass0)) (pg_name (i := 4) scCt.nd rfl (.inl rfl))
        (pss_one (ps_for PassesOwn.never rfl (pi_list (pe_meth (pv 0) Z.S.cl Z.mv Z.gv hr1 Z.bv .nil pass0 (pa_cons (pv 4) pa_nil)))
          (pg_tup (by rfl) (pgs_cons (pg_name (i := 5) scCt.nd rfl (.inl rfl)) (pgs_cons (pg_name (i := 6) scCt.nd rfl (.inl rfl)) (pgs_cons (pg_name (i := 7) scCt.nd rfl (.inl rfl)) pgs_nil))))
          (pss_cons (ps_dput hu (pv 3) (pv 5) pe_bl rfl)
          (pss_one (ps_if (PW.pt (pw_or (pt_cmp (pc_dnotin hu (pv 5) (pv 2))) (pw_or1 (pt_not (pt_val (pe_call GT hr (by rfl) DT.gl DT.kp bT .nil pass0
            (pa_cons (pv 1) (pa_cons (pv 6) (pa_cons (pv 7) (pa_cons (pe_dget hu (pv 2) (pv 5) (fun _ _ => rfl)) pa_nil)))))))))) pss_never pss_nil))))))
      (pss_one (ps_lock (ps_for PassesOwn.never rfl (pi_keys (pv 2)) (pg_name (i := 5) scCt.nd rfl (.inl rfl))
        (pss_one (ps_if (pt_cmp (pc_dnotin hu (pv 5) (pv 3))) pss_never pss_nil)))))), ?_⟩
    refine fun kn nkn => ?_
    obtain ⟨H1, z, s1, e1⟩ := fresh nkn (.dK [])
    rw [z]
    clear z
    obtain ⟨dx, ka, ow, pr, hg⟩ := sig.ins
    refine ⟨_, rfl, g, dx, _, rfl, s1 _ _ hg, rfl, N, g, ks, ps, rfl, sig.same s1, fun L nL => ?_⟩
    obtain ⟨H2, z, s2, e2⟩ := fresh nL (.lst ((ps.map Prod.fst).map V.str))
    rw [z]
    clear z
    have S2 := s1.trans s2
    have knL : kn ≠ L := ne_of_none e1 nL
    have nLH : H L = none := by
      cases e : H L with
      | none => rfl
      | some o =>
        rw [s1 _ _ e] at nL
        cases nL
    refine ⟨L, rfl, ⟨_, SqL.of e2⟩, for_it (walk_list (K := K) (a := L) (xs := (ps.map Prod.fst).map V.str)) (fun i σ H3 => Same H H3 ∧ H3 L = some (.lst ((ps.map Prod.fst).map V.str)) ∧ H3 kn = some (.dK (knD (ownersOf (ps.take i)))) ∧ ∃ v4 v5 v6 v7, σ = [some (.ref g), some (.ref sd), some (.ref td), some (.ref kn), v4, v5, v6, v7])
      ⟨S2, e2, s2 _ _ e1, _, _, _, _, rfl⟩ (fun i σ H3 _ ⟨_, e, _⟩ => SqL.of e) ?_ ?_⟩
    · rintro i x σ H3 H4 hi ⟨s3, eL, ek, v4, v5, v6, v7, rfl⟩ ⟨rfl, hx⟩
      rw [List.getElem?_map, List.getElem?_map, Option.map_map] at hx
      obtain ⟨p, ep, rfl⟩ := Option.map_eq_some_iff.mp hx
      have hl : ps.lookup p.1 = some p.2 := lookup_at okP.names ep
      have sig3 := sig.same s3
      refine ⟨_, rfl, g, dx, _, rfl, s3 _ _ hg, rfl, _, rfl, N, g, ks, ps, p.1, p.2, rfl, sig3, hl, fun L2 as nL2 hrows => ?_⟩
      obtain ⟨H5, z, s5, e5⟩ := fresh nL2 (.lst (as.map V.ref))
      rw [z]
      clear z
      have S5 := s3.trans s5
      have nL2H : H L2 = none := by
        cases e : H L2 with
        | none => rfl
        | some o =>
          rw [s3 _ _ e] at nL2
          cases nL2
      refine ⟨L2, rfl, ⟨_, SqL.of e5⟩, for_it (walk_list (K := K) (a := L2) (xs := as.map V.ref)) (fun j σ H6 => Same H H6 ∧ Tups H5 H6 ∧ H6 L = some (.lst ((ps.map Prod.fst).map V.str)) ∧ H6 L2 = some (.lst (as.map V.ref)) ∧ H6 kn = some (.dK (knD (ownersOf (ps.take i) ++ (p.2.take j).map fun r => (r.1, (p.1, r.2.1, r.2.2))))) ∧
          ∃ v5 v6 v7, σ = [some (.ref g), some (.ref sd), some (.ref td), some (.ref kn), some (.str p.1), v5, v6, v7])
        ⟨S5, fun _ _ e => e, s5 _ _ eL, e5, by simpa using s5 _ _ ek, _, _, _, rfl⟩ (fun j σ H6 _ ⟨_, _, _, e, _⟩ => SqL.of e) ?_ ?_⟩
      · rintro j x σ H6 H7 hj ⟨s6, t6, eL6, eL2, ek6, v5, v6, v7, rfl⟩ ⟨rfl, hx⟩
        rw [List.getElem?_map] at hx
        obtain ⟨ra, hra, rfl⟩ := Option.map_eq_some_iff.mp hx
        obtain ⟨r, er, o, t1, t2⟩ := Paired.at (hrows.tups (Tups.of s5)) hra
        have nw := next_new okP ep er
        have em := owner_mem ep er
        obtain ⟨es, hes, tok⟩ := okT.at_ _ em
        have knlen : (knD (ownersOf (ps.take i) ++ (p.2.take j).map fun r => (r.1, (p.1, r.2.1, r.2.2)))).length < sizeLine := by
          unfold knD
          rw [List.length_map]
          refine small1000 (Nat.le_trans ?_ (Nat.le_trans okP.few (by decide)))
          rw [owners_split ep, List.length_append, List.length_append, List.length_append, List.length_map, List.length_map, List.length_take]
          omega
        refine ⟨ra, _, rfl, SqT.of (t6 _ _ t1), rfl, _, _, rfl, _, _, rfl, _, _, rfl, rfl, _, rfl, _, rfl, kn, _, rfl, DPut.k (k := Sum.inr r.1) ek6 knlen, ?_⟩
        rw [putK_new _ (kn_none nw)]
        have S7 : Same H (upd H7 kn (.dK (knD (ownersOf (ps.take i) ++ (p.2.take j).map fun r => (r.1, (p.1, r.2.1, r.2.2))) ++ [(Sum.inr r.1, .bl true)]))) := fun b ob e => by
          rw [upd_ne (ne_of_none e nkn)]
          exact s6 _ _ e
        have b7 : Std H7 (upd H7 kn (.dK (knD (ownersOf (ps.take i) ++ (p.2.take j).map fun r => (r.1, (p.1, r.2.1, r.2.2))) ++ [(Sum.inr r.1, .bl true)]))) := Std.but keep_upd ek6 (fun _ z => nomatch z) fun _ z => nomatch z
        have k7 : upd H7 kn (.dK (knD (ownersOf (ps.take i) ++ (p.2.take j).map fun r => (r.1, (p.1, r.2.1, r.2.2))) ++ [(Sum.inr r.1, .bl true)])) kn = some (.dK (knD (ownersOf (ps.take i) ++ (p.2.take (j + 1)).map fun r => (r.1, (p.1, r.2.1, r.2.2))))) := by
          rw [upd_same, List.take_add_one, er]
          simp [knD]
        generalize upd H7 kn (.dK (knD (ownersOf (ps.take i) ++ (p.2.take j).map fun r => (r.1, (p.1, r.2.1, r.2.2))) ++ [(Sum.inr r.1, .bl true)])) = H9 at S7 b7 k7
        have td7 := S7 _ _ htd
        obtain ⟨l, hvl, hll⟩ := (ht.std (Std.of S7)).some hes
        have gt : DGet H9 td (.str r.1) (some (.ref l)) := hvl ▸ DGet.k (k := Sum.inr r.1) td7
        refine ⟨_, rfl, _, rfl, td, _, rfl, gt, _, rfl, ?_⟩
        obtain ⟨w1, w2, w3⟩ := okP.own p (List.mem_of_getElem? ep) r (List.mem_of_getElem? er)
        refine ⟨_, rfl, _, rfl, _, rfl, _, rfl, _, rfl, td, .ref l, rfl, gt, sd, o, l, sz, r.2.1, r.2.2, es, rfl, S7 _ _ hsd, b7.t _ _ (t6 _ _ t2), hll, w1, fun k hk => okS.at (w2 k hk), tok, fun H8 s8 => ⟨_, rfl, ?_⟩⟩
        exact ⟨S7.trans s8, fun b xs e => s8 _ _ (b7.t _ _ (t6 _ _ e)), s8 _ _ (b7.l _ _ eL6), s8 _ _ (b7.l _ _ eL2), s8 _ _ k7, _, _, _, rfl⟩
      · rintro σ H6 ⟨s6, t6, eL6, eL2, ek6, v5, v6, v7, rfl⟩
        refine ⟨s6, eL6, ?_, _, _, _, _, rfl⟩
        rw [owners_take ep]
        have e1 : (as.map V.ref).length = p.2.length := by rw [List.length_map]; exact Paired.length hrows
        rw [e1, List.take_length] at ek6
        exact ek6
    · rintro σ H3 ⟨s3, eL, ek, v4, v5, v6, v7, rfl⟩
      rw [show (List.map V.str (List.map Prod.fst ps)).length = ps.length by rw [List.length_map, List.length_map], List.take_length] at ek
      have td3 := s3 _ _ htd
      have tk : td ≠ kn := ne_of_none htd nkn
      refine ⟨td, _, td3, trivial, fun od => ?_⟩
      have k0 : Keep (· = td) H3 (upd H3 td (.frz od (.dK tvs))) := keep_upd
      generalize hH0 : upd H3 td (.frz od (.dK tvs)) = H0 at k0
      have d0 : H0 td = some (.frz od (.dK tvs)) := by rw [← hH0]; exact upd_same
      have kn0 := k0 _ _ ek tk.symm
      refine ⟨_, rfl, td, od, rfl, .inl ⟨_, d0, for_it (walk_keys (d := td) (o := od) (kvs := tvs)) (fun i σ H4 => H4 = H0 ∧ ∃ v4 v5 v6 v7, σ = [some (.ref g), some (.ref sd), some (.ref td), some (.ref kn), v4, v5, v6, v7]) ⟨rfl, _, _, _, _, rfl⟩ (fun i σ H4 _ ⟨e, _⟩ => e ▸ d0) ?_ ?_⟩⟩
      · rintro i x σ H4 H5 hi ⟨rfl, v4, v5, v6, v7, rfl⟩ ⟨rfl, k, v, hk, rfl⟩
        have ek' := congrArg (fun l => l[i]?) (lents_keys ht)
        simp only [List.getElem?_map, hk, Option.map_some] at ek'
        obtain ⟨p, hp, e⟩ := Option.map_eq_some_iff.mp ek'.symm
        have e' : k = Sum.inr p.1 := e.symm
        subst e'
        have pm : p.1 ∈ (ownersOf ps).map Prod.fst := by
          rw [← okT.keys]
          exact List.mem_map.mpr ⟨p, List.mem_of_getElem? hp, rfl⟩
        refine ⟨_, rfl, _, rfl, kn, _, rfl, DGet.k (k := Sum.inr p.1) kn0, _, rfl, ?_⟩
        rw [kn_some pm]
        exact ⟨rfl, _, _, _, _, rfl⟩
      · rintro σ H4 ⟨rfl, v4, v5, v6, v7, rfl⟩
        refine ⟨d0, q _ fun b o e => ?_⟩
        by_cases hb : b = td
        · rw [hb, htd] at e
          cases e
          rw [hb]
          exact upd_same
        · rw [upd_ne hb]
          exact k0 _ _ (s3 _ _ e) hb
end
end K12
/-! K12, 12: a right book is made and asked -/
namespace K12
open PySem PySem.Spec PyProof.Rows L2 Ver
/-- an entry of a dict of tuples by texts -/
def VEnt (H : Hp) (kv : Key × V) (e : Str × List V) : Prop := kv.1 = .inr e.1 ∧ ∃ q, kv.2 = .ref q ∧ H q = some (.tup e.2)
abbrev VEnts (H : Hp) (kvs : List (Key × V)) (tb : List (Str × List V)) : Prop := Paired (VEnt H) kvs tb
theorem VEnts.tups {H H' : Hp} (k : Tups H H') : ∀ {kvs : List (Key × V)} {tb : List (Str × List V)}, VEnts H kvs tb → VEnts H' kvs tb
  | _, _, .nil => .nil
  | _, _, .cons ⟨h1, l, h2, h3⟩ t => .cons ⟨h1, l, h2, k _ _ h3⟩ (VEnts.tups k t)
theorem vents_keys {H : Hp} : ∀ {kvs : List (Key × V)} {tb : List (Str × List V)}, VEnts H kvs tb → kvs.map (·.1) = tb.map fun p => (.inr p.1 : Key)
  | _, _, .nil => rfl
  | kv :: kvs, p :: ps, .cons ⟨h, _⟩ t => by
    rw [List.map_cons, List.map_cons, h, vents_keys t]
theorem VEnts.some {H : Hp} {n : Str} {es : List V} : ∀ {kvs : List (Key × V)} {tb : List (Str × List V)}, VEnts H kvs tb → tb.lookup n = some es → ∃ l, valV kvs (Sum.inr n : Key) = some (.ref l) ∧ H l = some (.tup es)
  | _, _, .nil, h => by simp at h
  | kv :: kvs, (m, r) :: tb, .cons ⟨h1, l, h2, h3⟩ tl, h => by
    rw [List.lookup_cons] at h
    by_cases e : n = m
    · subst e
      rw [beq_self_eq_true] at h
      cases h
      exact ⟨l, by rw [valV_pos h1, h2], h3⟩
    · rw [beq_eq_false_iff_ne.mpr e] at h
      obtain ⟨l', q1, q2⟩ := VEnts.some tl h
      exact ⟨l', by rw [valV_neg (by rw [h1]; intro z; exact e (Sum.inr.inj z).symm)]; exact q1, q2⟩
abbrev bookF (g s t : Addr) : List (Str × V) := [("_signature", .ref g), ("_sizes", .ref s), ("_tables", .ref t)]
/-- a book stands at b -/
structure BookAt (N : Addr → Prop) (H : Hp) (CB C b : Addr) (ks : List Str) (ps : Prims) (sz : Sizes) (tb : List (Str × List V)) : Prop where
  ex : ∃ dx g s t tvs, H b = some (.ins CB dx (bookF g s t)) ∧ SigAt N H C g ks ps ∧ H s = some (.dK (szD sz)) ∧ H t = some (.dK tvs) ∧ VEnts H tvs tb ∧ ¬ N b ∧ ¬ N s ∧ ¬ N t
theorem BookAt.keep {N : Addr → Prop} {H H' : Hp} {CB C b : Addr} {ks : List Str} {ps : Prims} {sz : Sizes} {tb : List (Str × List V)} (k : Keep N H H') (t : Tups H H') : BookAt N H CB C b ks ps sz tb → BookAt N H' CB C b ks ps sz tb
  | ⟨dx, g, s, t', tvs, h1, h2, h3, h4, h5, n1, n2, n3⟩ => ⟨dx, g, s, t', tvs, k _ _ h1 n1, h2.keep k t, k _ _ h3 n2, k _ _ h4 n3, h5.tups t, n1, n2, n3⟩
theorem BookAt.same {N : Addr → Prop} {H H' : Hp} {CB C b : Addr} {ks : List Str} {ps : Prims} {sz : Sizes} {tb : List (Str × List V)} (s : Same H H') (h : BookAt N H CB C b ks ps sz tb) : BookAt N H' CB C b ks ps sz tb := h.keep (Same.keep s) (Tups.of s)
structure BookC (K : PySem.W.Frag) (C : Addr) : Prop where
  cl : Cls K C
  ng : NoAttr K C "_signature"
  ns : NoAttr K C "_sizes"
  nt : NoAttr K C "_tables"
def spBookInit (CB C : Addr) : Sp := fun vs H Q _ => ∃ (N : Addr → Prop) (b dx g sd td : Addr) (ks : List Str) (ps : Prims) (sz : Sizes) (tvs : List (Key × V)) (tb : List (Str × List V)), vs = [.ref b, .ref g, .ref sd, .ref td] ∧ H b = some (.ins CB dx []) ∧ SigAt N H C g ks ps ∧ N sd ∧ H sd = some (.dK (szD sz)) ∧
  SizesOk ks sz ∧ PrimsOk ks ps ∧ H td = some (.dK tvs) ∧ LEnts H tvs tb ∧ TabsOk ps sz tb ∧
  ∀ H' dx s t tvs', (∀ c o, c ≠ b → H c = some o → H' c = some o) → H' b = some (.ins CB dx (bookF g s t)) → H' s = some (.dK (szD sz)) → H' t = some (.dK tvs') → VEnts H' tvs' tb → H s = none → H t = none → Q .non H'
def spSignature (CB : Addr) : Sp := fun vs H Q _ => ∃ (N : Addr → Prop) (C b : Addr) (ks : List Str) (ps : Prims) (sz : Sizes) (tb : List (Str × List V)), vs = [.ref b] ∧ BookAt N H CB C b ks ps sz tb ∧ ∀ g, SigAt N H C g ks ps → Q (.ref g) H
def spSize (CB : Addr) : Sp := fun vs H Q _ => ∃ (N : Addr → Prop) (C b : Addr) (ks : List Str) (ps : Prims) (sz : Sizes) (tb : List (Str × List V)) (k : Str) (n : Int), vs = [.ref b, .str k] ∧ BookAt N H CB C b ks ps sz tb ∧ sz.lookup k = some n ∧ Q (.int n) H
def spTableOf (CB : Addr) : Sp := fun vs H Q _ => ∃ (N : Addr → Prop) (C b : Addr) (ks : List Str) (ps : Prims) (sz : Sizes) (tb : List (Str × List V)) (n : Str) (es : List V), vs = [.ref b, .str n] ∧ BookAt N H CB C b ks ps sz tb ∧ tb.lookup n = some es ∧ ∀ L, H L = none → Q (.ref L) (upd H L (.lst es))
section
variable {P : Program} {w : World} {K : PySem.W.Frag} {mg : Str → Option Value} {base : Heap} {CB C : Addr}
abbrev nBi : List Str := ["self", "signature", "sizes", "tables", "name"]
theorem scBi : FnScope nBi ["self", "signature", "sizes", "tables"] (defScope (meth 23 0)) := ⟨rfl, rfl, rfl, by decide +kernel, rfl, by decide +kernel, by decide +kernel⟩
theorem ok_bookInit {f fS fT : Addr} {fd fdS fdT : FuncData} (F : Fun K "__init__" "Book.__init__" (meth 23 0) f fd) (S : BookC K CB) (T : GlobS mg) (dictN : mg "dict" = none) (GS : FnOk P w K mg base CX0 2 fS fdS ["signature", "sizes"] (spCheckSizes C)) (DS : Def K mg "check_sizes" fS) (bS : Binds K fdS ["signature", "sizes"] [])
    (GT : FnOk P w K mg base CX0 4 fT fdT ["signature", "sizes", "tables"] (spCheckTables C)) (DT : Def K mg "check_tables" fT) (bT : Binds K fdT ["signature", "sizes", "tables"] []) : FnOk P w K mg base CX0 5 f fd ["self", "signature", "sizes", "tables"] (spBookInit CB C) := by
  refine F.ok scBi (fun vs H Q E h => ?_) (fun cdv A outer s H vs Q E hr h => ?_)
  · obtain ⟨N, b, dx, g, sd, td, ks, ps, sz, tvs, tb, rfl, _⟩ := h
    rfl
  · obtain ⟨N, b, dx, g, sd, td, ks, ps, sz, tvs, tb, rfl, hb, sig, nsd, hsd, okS, okP, htd, ht, okT, q⟩ := h
    have hu := hu_of hr
    have hr2 : Room 2 _ := hr.mono (by decide)
    refine ⟨_, pss_cons (ps_expr (pe_call GS hr2 (by rfl) DS.gl DS.kp bS .nil pass0 (pa_cons (pv 1) (pa_cons (pv 2) pa_nil))))
      (pss_cons (ps_expr (pe_call GT hr (by rfl) DT.gl DT.kp bT .nil pass0 (pa_cons (pv 1) (pa_cons (pv 2) (pa_cons (pv 3) pa_nil)))))
      (pss_cons (ps_fld (pv 0) (pv 1) rfl)
      (pss_cons (ps_fld (pv 0) (pe_callTy call_dictD (by rfl) dictN (by decide +kernel) (pa_cons (pv 2) pa_nil)) rfl)
      (pss_one (ps_fld (pv 0) (pe_lock (pe_dc (own := [("name", 4)]) (g := gName 4) (tt := tYes) rfl scBi.nd (pi_keys (pv 3))
        (blkOk_by (N := nBi) (sc := defScope (meth 23 0)) (by decide +kernel)) (fun _ _ _ _ _ => pg_name (i := 4) scBi.nd rfl (.inl rfl)) (fun _ _ _ _ _ => pts_nil)
        (fun _ _ _ _ _ => pv 4) (fun _ _ _ _ _ => pe_callTy call_tupU (by rfl) T.tuple (by decide +kernel) (pa_cons (pe_dget hu (pv 3) (pv 4) (fun _ _ => rfl)) pa_nil)))) rfl))))), ?_⟩
    refine ⟨_, rfl, _, rfl, N, g, sd, ks, ps, sz, rfl, sig, nsd, hsd, okS, fun H1 s1 => ?_⟩
    refine ⟨_, rfl, _, rfl, _, rfl, N, g, sd, td, ks, ps, sz, tvs, tb, rfl, sig.same s1, s1 _ _ hsd, okS, okP, s1 _ _ htd, ht.std (Std.of s1), okT, fun H2 s2 => ?_⟩
    have S2 := s1.trans s2
    have b2 := S2 _ _ hb
    refine ⟨_, rfl, _, rfl, b, CB, dx, [], rfl, b2, S.cl, S.ng, by show 0 < 1000; decide, ?_⟩
    have k3 : Keep (· = b) H (upd H2 b (.ins CB dx (putF "_signature" (.ref g) []))) := (Same.keep S2).trans keep_upd
    have b3 : upd H2 b (.ins CB dx (putF "_signature" (.ref g) [])) b = some (.ins CB dx [("_signature", .ref g)]) := upd_same
    generalize upd H2 b (.ins CB dx (putF "_signature" (.ref g) [])) = H3 at k3 b3
    have sdb : sd ≠ b := fun z => by
      rw [z, hb] at hsd
      cases hsd
    have tdb : td ≠ b := fun z => by
      rw [z, hb] at htd
      cases htd
    refine ⟨_, rfl, sd, _, rfl, .inl (k3 _ _ hsd sdb), fun s' ns => ?_⟩
    obtain ⟨H4, z, s4, e4⟩ := fresh ns (.dK (szD sz))
    rw [z]
    clear z
    have b4 := s4 _ _ b3
    refine ⟨_, rfl, b, CB, dx, _, rfl, b4, S.cl, S.ns, by show 1 < 1000; decide, ?_⟩
    have k5 : Keep (· = b) H (upd H4 b (.ins CB dx (putF "_sizes" (.ref s') [("_signature", .ref g)]))) := (k3.trans (Same.keep s4)).trans keep_upd
    have b5 : upd H4 b (.ins CB dx (putF "_sizes" (.ref s') [("_signature", .ref g)])) b = some (.ins CB dx [("_signature", .ref g), ("_sizes", .ref s')]) := upd_same
    have sb : s' ≠ b := (ne_of_none b3 ns).symm
    have s5 : upd H4 b (.ins CB dx (putF "_sizes" (.ref s') [("_signature", .ref g)])) s' = some (.dK (szD sz)) := by
      rw [upd_ne sb]
      exact e4
    generalize upd H4 b (.ins CB dx (putF "_sizes" (.ref s') [("_signature", .ref g)])) = H5 at k5 b5 s5
    have td5 := k5 _ _ htd tdb
    have st5 : Std H H5 := Std.but k5 hb (fun _ z => nomatch z) fun _ z => nomatch z
    have tds : td ≠ s' := fun z => by
      have := k3 _ _ htd tdb
      rw [z, ns] at this
      cases this
    refine ⟨td, _, td5, trivial, fun od => ?_⟩
    have k6 : Keep (· = td) H5 (upd H5 td (.frz od (.dK tvs))) := keep_upd
    generalize hH6 : upd H5 td (.frz od (.dK tvs)) = H6 at k6
    have d6 : H6 td = some (.frz od (.dK tvs)) := by rw [← hH6]; exact upd_same
    have st6 : Std H H6 := st5.trans (Std.but k6 td5 (fun _ z => nomatch z) fun _ z => nomatch z)
    have ht6 := ht.std st6
    have nodK : (tvs.map (·.1)).Nodup := by
      rw [lents_keys ht]
      have e : (tb.map fun p => (Sum.inr p.1 : Key)) = (tb.map Prod.fst).map fun n => (Sum.inr n : Key) := by rw [List.map_map]; rfl
      rw [e, okT.keys]
      exact nod_inr okP.vnames
    have spl : tvs.length = tb.length := Paired.length ht
    have few : tb.length ≤ 900 := by
      have := congrArg List.length okT.keys
      rw [List.length_map, List.length_map] at this
      rw [this]
      exact okP.few
    refine ⟨_, rfl, td, od, rfl, .inl ⟨tvs, d6, fun D nD => ?_⟩⟩
    have dD : td ≠ D := ne_of_none d6 nD
    refine dc_it (walk_keys (d := td) (o := od) (kvs := tvs)) (fun i H7 => Keep (· = D) H6 H7 ∧ ∃ kvs', H7 D = some (.dK kvs') ∧ VEnts H7 kvs' (tb.take i)) ⟨keep_upd, [], upd_same, .nil⟩ (fun i H7 _ ⟨k7, _⟩ => k7 _ _ d6 dD) ?_ ?_
    · rintro i x H7 H8 hi ⟨k7, kvs', eD, en⟩ ⟨rfl, k, v, hk, rfl⟩
      obtain ⟨p, ep, hk1, l, rfl, hl⟩ := Paired.at ht6 hk
      have hk1' : k = .inr p.1 := hk1
      subst hk1'
      have l7 := k7 _ _ hl (ne_of_none hl nD)
      refine ⟨rfl, _, rfl, _, rfl, _, rfl, td, .ref l, rfl, .inl ⟨tvs, .inr p.1, .inr ⟨od, k7 _ _ d6 dD⟩, rfl, (val_at nodK hk).symm⟩, l, _, rfl, .inl l7, fun t' H9 s9 et' _ => ?_⟩
      have D9 := s9 _ _ eD
      have l9 : kvs'.length < sizeLine := by
        rw [Paired.length en, List.length_take]
        exact small1000 (by omega)
      refine ⟨kvs', .inr p.1, rfl, D9, l9, ?_⟩
      have nodT : (tb.map Prod.fst).Nodup := by
        rw [okT.keys]
        exact okP.vnames
      have nk : valV kvs' (.inr p.1 : Key) = none := by
        cases e : valV kvs' (.inr p.1 : Key) with
        | none => rfl
        | some v =>
          have m := valV_in e
          rw [vents_keys en] at m
          obtain ⟨p', hp', e'⟩ := List.mem_map.mp m
          have e2 : p'.1 = p.1 := Sum.inr.inj e'
          obtain ⟨j, hj, ej⟩ := List.getElem_of_mem hp'
          rw [List.length_take] at hj
          rw [List.getElem_take] at ej
          obtain ⟨hi1, hi2⟩ := List.getElem?_eq_some_iff.mp ep
          have a1 : (tb.map Prod.fst)[j]'(by rw [List.length_map]; omega) = p'.1 := by rw [List.getElem_map, ej]
          have a2 : (tb.map Prod.fst)[i]'(by rw [List.length_map]; omega) = p.1 := by rw [List.getElem_map, hi2]
          have := (List.getElem_inj nodT).mp (a1.trans (e2.trans a2.symm))
          omega
      rw [putK_new _ nk]
      have kb : Keep (· = D) H6 (upd H9 D (.dK (kvs' ++ [(.inr p.1, .ref t')]))) := (k7.trans (Same.keep s9)).trans keep_upd
      have stb : Std H9 (upd H9 D (.dK (kvs' ++ [(.inr p.1, .ref t')]))) := Std.but keep_upd D9 (fun _ z => nomatch z) fun _ z => nomatch z
      refine ⟨kb, _, upd_same, ?_⟩
      rw [List.take_add_one, ep]
      exact Paired.snoc ((en.tups (Tups.of s9)).tups stb.t) ⟨rfl, t', rfl, stb.t _ _ et'⟩
    · rintro H7 ⟨k7, kvs', eD, en⟩
      have d7 := k7 _ _ d6 dD
      refine ⟨d7, ?_⟩
      rw [spl, List.take_length] at en
      have b8 : Tups H7 (upd H7 td (.dK tvs)) := Tups.lock d7 fun _ z => nomatch z
      have e6b : H6 b = some (.ins CB dx [("_signature", .ref g), ("_sizes", .ref s')]) := k6 _ _ b5 tdb.symm
      have bD : b ≠ D := ne_of_none e6b nD
      have e6s : H6 s' = some (.dK (szD sz)) := k6 _ _ s5 tds.symm
      have g8 : upd H7 td (.dK tvs) b = some (.ins CB dx [("_signature", .ref g), ("_sizes", .ref s')]) := by
        rw [upd_ne tdb.symm]
        exact k7 _ _ e6b bD
      have D8 : upd H7 td (.dK tvs) D = some (.dK kvs') := by
        rw [upd_ne dD.symm]
        exact eD
      have s8 : upd H7 td (.dK tvs) s' = some (.dK (szD sz)) := by
        rw [upd_ne tds.symm]
        exact k7 _ _ e6s (ne_of_none e6s nD)
      have back : Keep (· = b) H (upd H7 td (.dK tvs)) := fun c o e n => by
        by_cases hc : c = td
        · rw [hc, htd] at e
          cases e
          rw [hc]
          exact upd_same
        · rw [upd_ne hc]
          have e6 := k6 _ _ (k5 _ _ e n) hc
          exact k7 _ _ e6 (ne_of_none e6 nD)
      have en8 := en.tups b8
      clear b8
      generalize upd H7 td (.dK tvs) = H8 at g8 D8 back s8 en8
      refine ⟨_, rfl, b, CB, dx, _, rfl, g8, S.cl, S.nt, by show 2 < 1000; decide, ?_⟩
      have b9 : Std H8 (upd H8 b (.ins CB dx (putF "_tables" (.ref D) [("_signature", .ref g), ("_sizes", .ref s')]))) := Std.but keep_upd g8 (fun _ z => nomatch z) fun _ z => nomatch z
      have nDH : H D = none := by
        cases e : H D with
        | none => rfl
        | some o =>
          have e6 := k6 _ _ (k5 _ _ e bD.symm) dD.symm
          rw [nD] at e6
          cases e6
      have nsH : H s' = none := by
        cases e : H s' with
        | none => rfl
        | some o =>
          have e3 := k3 _ _ e sb
          rw [ns] at e3
          cases e3
      refine q _ dx s' D kvs' (fun c o n e => ?_) upd_same ?_ ?_ (en8.tups b9.t) nsH nDH
      · rw [upd_ne n]
        exact back c o e n
      · rw [upd_ne sb]
        exact s8
      · rw [upd_ne bD.symm]
        exact D8
theorem sc1b : FnScope ["self"] ["self"] (defScope (meth 23 1)) := ⟨rfl, rfl, rfl, by decide +kernel, rfl, by decide +kernel, by decide +kernel⟩
theorem ok_signature {f : Addr} {fd : FuncData} (F : Fun K "signature" "Book.signature" (meth 23 1) f fd) (S : BookC K CB) : FnOk P w K mg base CX0 1 f fd ["self"] (spSignature CB) := by
  refine F.ok sc1b (fun vs H Q E h => ?_) (fun cdv A outer s H vs Q E hr h => ?_)
  · obtain ⟨N, C, b, ks, ps, sz, tb, rfl, _⟩ := h
    rfl
  · obtain ⟨N, C, b, ks, ps, sz, tb, rfl, ⟨dx, g, s, t, tvs, h1, h2, h3, h4, h5, n1, n2, n3⟩, q⟩ := h
    exact ⟨_, pss_one (ps_ret (pe_fld (pv 0) rfl)), _, rfl, b, CB, dx, _, _, rfl, h1, S.cl, S.ng, rfl, q g h2⟩
theorem sc2b : FnScope ["self", "kind"] ["self", "kind"] (defScope (meth 23 2)) := ⟨rfl, rfl, rfl, by decide +kernel, rfl, by decide +kernel, by decide +kernel⟩
theorem ok_size {f : Addr} {fd : FuncData} (F : Fun K "size" "Book.size" (meth 23 2) f fd) (S : BookC K CB) (T : GlobS mg) : FnOk P w K mg base CX0 1 f fd ["self", "kind"] (spSize CB) := by
  refine F.ok sc2b (fun vs H Q E h => ?_) (fun cdv A outer s H vs Q E hr h => ?_)
  · obtain ⟨N, C, b, ks, ps, sz, tb, k, n, rfl, _⟩ := h
    rfl
  · obtain ⟨N, C, b, ks, ps, sz, tb, k, n, rfl, ⟨dx, g, s, t, tvs, h1, h2, h3, h4, h5, n1, n2, n3⟩, hn, q⟩ := h
    have hu := hu_of hr
    refine ⟨_, pss_cons (ps_if (PW.pt (pw_or (pt_not (pt_val (pe_callB call_isi (by rfl) T.isinstance (by decide +kernel) (pa_cons (pv 1) (pa_cons (pe_bltn (v := .ty "str") (by rfl) T.str (by decide +kernel) rfl) pa_nil)))))
        (pw_or1 (pt_cmp (pc_dnotin hu (pv 1) (pe_fld (pv 0) rfl)))))) pss_never pss_nil)
      (pss_one (ps_ret (pe_dget hu (pe_fld (pv 0) rfl) (pv 1) (fun _ _ => rfl)))), ?_⟩
    refine ⟨_, rfl, .str k, .ty "str", _, _, true, rfl, .ty _, .base (.str k), kit_ty (by decide +kernel), _, rfl, ?_⟩
    have gt : DGet H s (.str k) (some (.int n)) := sz_some hn ▸ DGet.k (k := Sum.inr k) h3
    refine ⟨_, rfl, _, rfl, b, CB, dx, _, _, rfl, h1, S.cl, S.ns, rfl, s, _, rfl, gt, _, rfl, ?_⟩
    exact ⟨_, rfl, b, CB, dx, _, _, rfl, h1, S.cl, S.ns, rfl, _, rfl, s, .int n, rfl, gt, q⟩
theorem sc3b : FnScope ["self", "name"] ["self", "name"] (defScope (meth 23 3)) := ⟨rfl, rfl, rfl, by decide +kernel, rfl, by decide +kernel, by decide +kernel⟩
theorem ok_tableOf {f : Addr} {fd : FuncData} (F : Fun K "table" "Book.table" (meth 23 3) f fd) (S : BookC K CB) (T : GlobS mg) : FnOk P w K mg base CX0 1 f fd ["self", "name"] (spTableOf CB) := by
  refine F.ok sc3b (fun vs H Q E h => ?_) (fun cdv A outer s H vs Q E hr h => ?_)
  · obtain ⟨N, C, b, ks, ps, sz, tb, n, es, rfl, _⟩ := h
    rfl
  · obtain ⟨N, C, b, ks, ps, sz, tb, n, es, rfl, ⟨dx, g, s, t, tvs, h1, h2, h3, h4, h5, n1, n2, n3⟩, hn, q⟩ := h
    have hu := hu_of hr
    refine ⟨_, pss_cons (ps_if (PW.pt (pw_or (pt_not (pt_val (pe_callB call_isi (by rfl) T.isinstance (by decide +kernel) (pa_cons (pv 1) (pa_cons (pe_bltn (v := .ty "str") (by rfl) T.str (by decide +kernel) rfl) pa_nil)))))
        (pw_or1 (pt_cmp (pc_dnotin hu (pv 1) (pe_fld (pv 0) rfl)))))) pss_never pss_nil)
      (pss_one (ps_ret (pe_callTy call_list_tupB (by rfl) T.list (by decide +kernel) (pa_cons (pe_dget hu (pe_fld (pv 0) rfl) (pv 1) (fun _ _ => rfl)) pa_nil)))), ?_⟩
    refine ⟨_, rfl, .str n, .ty "str", _, _, true, rfl, .ty _, .base (.str n), kit_ty (by decide +kernel), _, rfl, ?_⟩
    obtain ⟨l, hvl, hl⟩ := h5.some hn
    have gt : DGet H t (.str n) (some (.ref l)) := hvl ▸ DGet.k (k := Sum.inr n) h4
    refine ⟨_, rfl, _, rfl, b, CB, dx, _, _, rfl, h1, S.cl, S.nt, rfl, t, _, rfl, gt, _, rfl, ?_⟩
    exact ⟨_, rfl, b, CB, dx, _, _, rfl, h1, S.cl, S.nt, rfl, _, rfl, t, .ref l, rfl, gt, l, es, rfl, SqT.of hl, fun L nL _ => q L nL⟩
end
end K12
/-! K12, 13: tokens of a right book; the variant for kinds -/
namespace K12
open PySem PySem.Spec PyProof.Rows L2 Ver
abbrev sApply : Stmt := top 27
abbrev sVFor : Stmt := top 34
theorem str_ne {z x y : Str} (h : eqS (.str z) x = true) (hxy : x ≠ y) : eqS (.str z) y = false := by
  have e : z = x := by simpa [eqS] using h
  subst e
  simpa [eqS] using hxy
theorem eqS_nostr {d : PyData} {y : Str} (h : isStr d = false) : eqS d y = false := by
  cases d <;> first | rfl | cases h
theorem val_nostr {d : PyData} (h : isStr d = false) : ∀ {ds : List PyData}, valD (.tuple (d :: ds)) = false
  | [] => eqS_nostr h
  | [y] => by
    show pairD d y = false
    unfold pairD
    simp [eqS_nostr h]
  | [y, u] => by
    show (eqS d "tok" && _) = false
    rw [eqS_nostr h, Bool.false_and]
  | _ :: _ :: _ :: _ => rfl
/-- the form of what is a value -/
theorem val_form : ∀ {d : PyData}, valD d = true → ∃ d0 dr, d = .tuple (d0 :: dr) ∧ isStr d0 = true ∧ (eqS d0 "tok" = true → ∃ d1 d2, dr = [d1, d2] ∧ isStr d1 = true)
  | .tuple [], h => by cases h
  | .tuple (d0 :: dr), h => by
    refine ⟨d0, dr, rfl, ?_, fun g => ?_⟩
    · cases e : isStr d0 with
      | true => rfl
      | false =>
        rw [val_nostr e] at h
        cases h
    · match dr, h with
      | [], h =>
        have h' : eqS d0 "none" = true := h
        cases d0 with
        | str z =>
          rw [str_ne g (by decide)] at h'
          cases h'
        | _ => cases h'
      | [y], h =>
        have h' : pairD d0 y = true := h
        cases d0 with
        | str z =>
          unfold pairD at h'
          rw [str_ne g (by decide : ("tok" : Str) ≠ "bit"), str_ne g (by decide : ("tok" : Str) ≠ "err"), str_ne g (by decide : ("tok" : Str) ≠ "fun"), str_ne g (by decide : ("tok" : Str) ≠ "obj")] at h'
          simp at h'
        | _ => cases g
      | [d1, d2], h =>
        refine ⟨d1, d2, rfl, ?_⟩
        have h' : (eqS d0 "tok" && (kindD d1 && numD d2)) = true := h
        rw [g, Bool.true_and] at h'
        cases d1 with
        | str y => rfl
        | _ => cases h'
      | _ :: _ :: _ :: _, h => cases h
  | .none, h => by cases h
  | .bool _, h => by cases h
  | .int _, h => by cases h
  | .str _, h => by cases h
  | .list _, h => by cases h
  | .dict _, h => by cases h
theorem str_of {N : Addr → Prop} {H : Hp} {v : V} {d : PyData} (h : Da N H v d) (e : isStr d = true) : ∃ z, v = .str z := by
  cases h <;> first | exact ⟨_, rfl⟩ | cases e

/-- is the datum a token of a book of these sizes -/
def tokD (sz : Sizes) : PyData → Bool
  | .tuple [d0, .str k, .int i] => (eqS d0 "tok" && (kindD (.str k) && numD (.int i))) && (match sz.lookup k with | some n => decide (i < n) | none => false)
  | _ => false
theorem tok_form {sz : Sizes} : ∀ {d : PyData}, tokD sz d = true → ∃ k i n, d = .tuple [.str "tok", .str k, .int i] ∧ 0 ≤ i ∧ sz.lookup k = some n ∧ i < n
  | .tuple [d0, .str k, .int i], h => by
    have h' : ((eqS d0 "tok" && (kindD (.str k) && numD (.int i))) && (match sz.lookup k with | some n => decide (i < n) | none => false)) = true := h
    rw [Bool.and_eq_true, Bool.and_eq_true, Bool.and_eq_true] at h'
    obtain ⟨⟨h1, h2, h3⟩, h4⟩ := h'
    cases d0 with
    | str z =>
      have e : z = "tok" := by simpa [eqS] using h1
      subst e
      cases el : sz.lookup k with
      | none =>
        rw [el] at h4
        cases h4
      | some n =>
        rw [el] at h4
        exact ⟨k, i, n, rfl, of_decide_eq_true h3, el, of_decide_eq_true h4⟩
    | _ => cases h1
def spHasTok (CB : Addr) : Sp := fun vs H Q _ => ∃ (N : Addr → Prop) (C b : Addr) (ks : List Str) (ps : Prims) (sz : Sizes) (tb : List (Str × List V)) (v : V) (d : PyData), vs = [.ref b, v] ∧ BookAt N H CB C b ks ps sz tb ∧ Da N H v d ∧ ShortT d ∧ ∀ H', Same H H' → Q (.bl (tokD sz d)) H'
def spVFor (C : Addr) : Sp := fun vs H Q _ => ∃ (N : Addr → Prop) (g o : Addr) (ks : List Str) (ps : Prims) (n : Str) (ws : List Str) (rows : List Row), vs = [.ref g, .str n, .ref o] ∧ SigAt N H C g ks ps ∧ H o = some (.tup (ws.map V.str)) ∧ ps.lookup n = some rows ∧ rows.length ≤ 900 ∧
  ∀ H', Same H H' → Q (match rows.find? (fun r => decide (r.2.1 = ws)) with | some r => .str r.1 | none => .non) H'
section
variable {P : Program} {w : World} {K : PySem.W.Frag} {mg : Str → Option Value} {base : Heap} {CB C : Addr}
theorem tok_no {sz : Sizes} {d : PyData} (h : valD d = false) : tokD sz d = false := by
  cases e : tokD sz d with
  | false => rfl
  | true =>
    exfalso
    match d, e, h with
    | .tuple [d0, .str k, .int i], e, h =>
      have e' : ((eqS d0 "tok" && (kindD (.str k) && numD (.int i))) && (match sz.lookup k with | some n => decide (i < n) | none => false)) = true := e
      have h' : (eqS d0 "tok" && (kindD (.str k) && numD (.int i))) = false := h
      rw [h', Bool.false_and] at e'
      cases e'
theorem sc4b : FnScope ["self", "value"] ["self", "value"] (defScope (meth 23 4)) := ⟨rfl, rfl, rfl, by decide +kernel, rfl, by decide +kernel, by decide +kernel⟩
theorem ok_hasTok {f fV : Addr} {fd fdV : FuncData} (F : Fun K "has_token" "Book.has_token" (meth 23 4) f fd) (S : BookC K CB) (GV : FnOk P w K mg base CX0 3 fV fdV ["value"] (spAsk ShortT valD)) (DV : Def K mg "is_value" fV) (bV : Binds K fdV ["value"] []) :
    FnOk P w K mg base CX0 4 f fd ["self", "value"] (spHasTok CB) := by
  refine F.ok sc4b (fun vs H Q E h => ?_) (fun cdv A outer s H vs Q E hr h => ?_)
  · obtain ⟨N, C, b, ks, ps, sz, tb, v, d, rfl, _⟩ := h
    rfl
  · obtain ⟨N, C, b, ks, ps, sz, tb, v, d, rfl, bk, hv, hs, q⟩ := h
    have hu := hu_of hr
    refine ⟨_, pss_cons (ps_if (PW.pt (pw_or (pt_not (pt_val (pe_call GV hr (by rfl) DV.gl DV.kp bV .nil pass0 (pa_cons (pv 1) pa_nil))))
        (pw_or (pt_cmpR op_ne (pe_ix ix_tup (pv 1) pe_int (fun _ _ => rfl)) pe_str (nomark _))
          (pw_or1 (pt_cmp (pc_dnotin hu (pe_ix ix_tup (pv 1) pe_int (fun _ _ => rfl)) (pe_fld (pv 0) rfl))))))) (pss_one (ps_ret pe_bl)) pss_nil)
      (pss_one (ps_ret (pe_cmpR op_lt (pe_ix ix_tup (pv 1) pe_int (fun _ _ => rfl)) (pe_dget hu (pe_fld (pv 0) rfl) (pe_ix ix_tup (pv 1) pe_int (fun _ _ => rfl)) (fun _ _ => rfl)) (nomark _)))), ?_⟩
    refine ⟨_, rfl, N, v, d, rfl, hv, hs, fun H1 s1 => ?_⟩
    obtain ⟨dx, g, s', t, tvs, h1, h2, h3, h4, h5, n1, n2, n3⟩ := bk.same s1
    have hv1 := hv.keep (Same.keep s1)
    have q1 := q H1 s1
    refine ⟨_, rfl, ?_⟩
    cases ev : valD d with
    | false =>
      rw [tok_no ev] at q1
      exact q1
    | true =>
      obtain ⟨d0, dr, rfl, i0, form⟩ := val_form ev
      cases hv1 with
      | @tup a xs _ e nN qd =>
      cases qd with
      | @cons x0 xr _ _ q0 qr =>
      obtain ⟨z, rfl⟩ := str_of q0 i0
      obtain rfl : d0 = .str z := by cases q0; rfl
      have eT : SqT K H1 a (.str z :: xr) := SqT.of e
      refine ⟨_, rfl, a, _, _, .str z, rfl, rfl, eT, atI_nat (j := 0) rfl, rfl, _, rfl, ?_⟩
      by_cases ht : z = "tok"
      · subst ht
        obtain ⟨d1, d2, rfl, i1⟩ := form rfl
        cases qr with
        | @cons x1 xr _ _ q1' qr =>
        cases qr with
        | @cons x2 xr _ _ q2 qr =>
        cases qr
        obtain ⟨k, rfl⟩ := str_of q1' i1
        obtain rfl : d1 = .str k := by cases q1'; rfl
        have nm : numD d2 = true := by
          have ev' : (eqS (.str "tok") "tok" && (kindD (.str k) && numD d2)) = true := ev
          rw [Bool.and_eq_true, Bool.and_eq_true] at ev'
          exact ev'.2.2
        obtain ⟨i, rfl⟩ : ∃ i, d2 = .int i := by
          cases d2 <;> first | exact ⟨_, rfl⟩ | cases nm
        obtain rfl : x2 = .int i := by cases q2; rfl
        have kk : (eqS (.str "tok") "tok" && (kindD (.str k) && numD (.int i))) = true := ev
        have er : tokD sz (.tuple [.str "tok", .str k, .int i]) = (match sz.lookup k with | some n => decide (i < n) | none => false) := by
          show ((eqS (.str "tok") "tok" && (kindD (.str k) && numD (.int i))) && _) = _
          rw [kk, Bool.true_and]
        rw [er] at q1
        rw [ne_same]
        refine ⟨_, rfl, a, _, _, .str k, rfl, rfl, eT, atI_nat (j := 1) rfl, _, rfl, b, CB, dx, _, _, rfl, h1, S.cl, S.ns, rfl, s', _, rfl, DGet.k (k := Sum.inr k) h3, _, rfl, ?_⟩
        cases el : sz.lookup k with
        | none =>
          rw [sz_none el]
          rw [el] at q1
          exact q1
        | some n =>
          rw [sz_some el]
          rw [el] at q1
          have gt : DGet H1 s' (.str k) (some (.int n)) := sz_some el ▸ DGet.k (k := Sum.inr k) h3
          refine ⟨_, rfl, a, _, _, .int i, rfl, rfl, eT, atI_nat (j := 2) rfl, _, rfl, b, CB, dx, _, _, rfl, h1, S.cl, S.ns, rfl, _, rfl, a, _, _, .str k, rfl, rfl, eT, atI_nat (j := 1) rfl, s', .int n, rfl, gt, _, _, rfl, rfl, q1⟩
      · have nt : tokD sz (.tuple (.str z :: dr)) = false := by
          cases e : tokD sz (.tuple (.str z :: dr)) with
          | false => rfl
          | true =>
            obtain ⟨k, i, n, e1, _⟩ := tok_form e
            cases e1
            exact absurd rfl ht
        rw [nt] at q1
        have hz : (!decide ((V.str z : V) = V.str "tok")) = true := by
          rw [decide_eq_false]
          · rfl
          · intro y
            injection y with y
            exact ht y
        rw [hz]
        exact q1
theorem scVF : FnScope ["signature", "name", "kinds", "variant", "wanted", "_"] ["signature", "name", "kinds"] (defScope sVFor) := ⟨rfl, rfl, rfl, by decide +kernel, rfl, by decide +kernel, by decide +kernel⟩
theorem ok_vFor {fk fp fv fh : Addr} {qk qp qv qh : FuncData} {f : Addr} {fd : FuncData} (F : Fun K "variant_for" "variant_for" sVFor f fd) (Z : SigE P w K mg base C fk fp fv fh qk qp qv qh) : FnOk P w K mg base CX0 2 f fd ["signature", "name", "kinds"] (spVFor C) := by
  refine F.ok scVF (fun vs H Q E h => ?_) (fun cdv A outer s H vs Q E hr h => ?_)
  · obtain ⟨N, g, o, ks, ps, n, ws, rows, rfl, _⟩ := h
    rfl
  · obtain ⟨N, g, o, ks, ps, n, ws, rows, rfl, sig, ho, hl, few, q⟩ := h
    refine ⟨_, pss_cons (ps_for PassesOwn.never rfl (pi_list (pe_meth (pv 0) Z.S.cl Z.mv Z.gv hr Z.bv .nil pass0 (pa_cons (pv 1) pa_nil)))
        (pg_tup (by rfl) (pgs_cons (pg_name (i := 3) scVF.nd rfl (.inl rfl)) (pgs_cons (pg_name (i := 4) scVF.nd rfl (.inl rfl)) (pgs_cons (pg_name (i := 5) scVF.nd rfl (.inl rfl)) pgs_nil))))
        (pss_one (ps_if (pt_cmpR (r := rEqP K) (op_eqP hr.units) (pv 4) (pv 2) (nomark _)) (pss_one (ps_ret (pv 3))) pss_nil)))
      (pss_one (ps_ret pe_non)), ?_⟩
    obtain ⟨dx, ka, ow, pr, hg⟩ := sig.ins
    refine ⟨_, rfl, g, dx, _, rfl, hg, rfl, _, rfl, N, g, ks, ps, n, rows, rfl, sig, hl, fun L as nL hrows => ?_⟩
    obtain ⟨H1, z, s1, e1⟩ := fresh nL (.lst (as.map V.ref))
    rw [z]
    clear z
    have spl : as.length = rows.length := Paired.length hrows
    refine ⟨L, rfl, ⟨_, SqL.of e1⟩, for_it (walk_list (K := K) (a := L) (xs := as.map V.ref)) (fun i σ H2 => H2 = H1 ∧ (rows.take i).find? (fun r => decide (r.2.1 = ws)) = none ∧ ∃ v3 v4 v5, σ = [some (.ref g), some (.str n), some (.ref o), v3, v4, v5]) ⟨rfl, rfl, _, _, _, rfl⟩ (fun i σ H2 _ ⟨e, _⟩ => e ▸ SqL.of e1) ?_ ?_⟩
    · rintro i x σ H2 H3 hi ⟨rfl, nf, v3, v4, v5, rfl⟩ ⟨rfl, hx⟩
      rw [List.getElem?_map] at hx
      obtain ⟨ra, hra, rfl⟩ := Option.map_eq_some_iff.mp hx
      obtain ⟨r, er, o', t1, t2⟩ := Paired.at (hrows.tups (Tups.of s1)) hra
      refine ⟨ra, _, rfl, SqT.of t1, rfl, _, _, rfl, _, _, rfl, _, _, rfl, rfl, ?_⟩
      have q1 : Dp K H3 (.ref o') (txtsD r.2.1) := dp_tupS t2
      have q2 : Dp K H3 (.ref o) (txtsD ws) := dp_tupS (s1 _ _ ho)
      have dz : (txtsD r.2.1).depth ≤ 60 := by
        show PyData.depthAll (r.2.1.map .str) + 1 ≤ 60
        rw [depth_strs]
        decide
      refine ⟨_, rfl, _, rfl, _, _, q1, q2, dz, _, rfl, ?_⟩
      rw [eqv_txts]
      have et : rows.take (i + 1) = rows.take i ++ [r] := by rw [List.take_add_one, er]; rfl
      refine ite2 (fun h => ?_) (fun h => ?_)
      · have e : r.2.1 = ws := of_decide_eq_true h
        have fd : rows.find? (fun r => decide (r.2.1 = ws)) = some r := by
          obtain ⟨hi1, hi2⟩ := List.getElem?_eq_some_iff.mp er
          have hs : rows = rows.take i ++ r :: rows.drop (i + 1) := by
            conv => lhs; rw [← List.take_append_drop i rows, List.drop_eq_getElem_cons hi1, hi2]
          rw [hs, List.find?_append, nf]
          simp [e]
        have := q H3 s1
        rw [fd] at this
        exact ⟨_, rfl, this⟩
      · refine ⟨rfl, ?_, _, _, _, rfl⟩
        have h' : decide (r.2.1 = ws) = false := by
          cases e : decide (r.2.1 = ws) with
          | false => rfl
          | true => exact absurd e h
        rw [et, List.find?_append, nf]
        simp [h']
    · rintro σ H2 ⟨rfl, nf, v3, v4, v5, rfl⟩
      rw [List.length_map, spl, List.take_length] at nf
      have := q H2 s1
      rw [nf] at this
      exact this
end
end K12
/-! K12, 14: a variant applied -/
namespace K12
open PySem PySem.Spec PyProof.Rows L2 Ver
abbrev nAp : List Str := ["book", "name", "values", "_", "kinds", "result", "value", "place", "kind", "entry"]
def kindS : PyData → Str
  | .tuple [_, .str k, _] => k
  | _ => ""
def numS : PyData → Int
  | .tuple [_, _, .int i] => i
  | _ => 0
def okSeq (sz : Sizes) (ws : List Str) (ds : List PyData) : Bool := ds.all (tokD sz) && decide (ds.map kindS = ws)
/-- the numbers of right values -/
def okVals (sz : Sizes) (ws : List Str) : PyData → Option (List Int)
  | .list ds => if okSeq sz ws ds = true then some (ds.map numS) else none
  | .tuple ds => if okSeq sz ws ds = true then some (ds.map numS) else none
  | _ => none
def ShortV : PyData → Prop
  | .list ds => ds.length ≤ 1000 ∧ ∀ d ∈ ds, ShortT d
  | .tuple ds => ds.length ≤ 1000 ∧ ∀ d ∈ ds, ShortT d
  | _ => True
def placeOf (sz : Sizes) (l : List (Str × Int)) : Int := l.foldl (fun p x => p * (sz.lookup x.1).getD 0 + x.2) 0
theorem tok_at {N : Addr → Prop} {H : Hp} {sz : Sizes} {v : V} {d : PyData} (h : Da N H v d) (t : tokD sz d = true) : ∃ a k i n, v = .ref a ∧ H a = some (.tup [.str "tok", .str k, .int i]) ∧ d = .tuple [.str "tok", .str k, .int i] ∧ 0 ≤ i ∧ sz.lookup k = some n ∧ i < n := by
  obtain ⟨k, i, n, rfl, h0, hl, hn⟩ := tok_form t
  cases h with
  | @tup a xs _ e nN q =>
  cases q with
  | cons q0 q =>
  cases q with
  | cons q1 q =>
  cases q with
  | cons q2 q =>
  cases q
  cases q0
  cases q1
  cases q2
  exact ⟨a, k, i, n, rfl, e, rfl, h0, hl, hn⟩
theorem lookup_mem {α : Type} {n : Str} {r : α} : ∀ {l : List (Str × α)}, l.lookup n = some r → (n, r) ∈ l
  | [], h => by simp at h
  | (m, x) :: l, h => by
    rw [List.lookup_cons] at h
    by_cases e : n = m
    · subst e
      rw [beq_self_eq_true] at h
      cases h
      exact .head _
    · rw [beq_eq_false_iff_ne.mpr e] at h
      exact .tail _ (lookup_mem h)
theorem named_str {ps : Prims} {d : PyData} {row : Row} (h : named ps d = some row) : ∃ n, d = .str n ∧ (ownersOf ps).lookup n = some row := by
  cases d <;> first | exact ⟨_, rfl, h⟩ | cases h
theorem owner_own {ks : List Str} {ps : Prims} (ok : PrimsOk ks ps) {n p r : Str} {ws : List Str} (h : (n, (p, ws, r)) ∈ ownersOf ps) : (ws.length = 1 ∨ ws.length = 2) ∧ (∀ w ∈ ws, w ∈ ks) ∧ (r = "bit" ∨ r ∈ ks) := by
  obtain ⟨q, hq, hm⟩ := List.mem_flatMap.mp h
  obtain ⟨x, hx, e⟩ := List.mem_map.mp hm
  cases e
  exact ok.own q hq x hx
theorem BookAt.ins {N : Addr → Prop} {H : Hp} {CB C b : Addr} {ks : List Str} {ps : Prims} {sz : Sizes} {tb : List (Str × List V)} : BookAt N H CB C b ks ps sz tb → ∃ dx g s t, H b = some (.ins CB dx (bookF g s t))
  | ⟨dx, g, s, t, _, h1, _⟩ => ⟨dx, g, s, t, h1⟩
/-- what a variant gives -/
def resV (r : Str) (e : V) : List V := if r = "bit" then [.str "bit", e] else [.str "tok", .str r, e]
def spApply (CB C CU CV : Addr) : Sp := fun vs H Q E => ∃ (N : Addr → Prop) (b : Addr) (ks : List Str) (ps : Prims) (sz : Sizes) (tb : List (Str × List V)) (nv gv : V) (nd gd : PyData), vs = [.ref b, nv, gv] ∧ BookAt N H CB C b ks ps sz tb ∧ SizesOk ks sz ∧ PrimsOk ks ps ∧ TabsOk ps sz tb ∧
  Da N H nv nd ∧ TellOk nd ∧ Da N H gv gd ∧ ShortV gd ∧
  match named ps nd with
  | none => Refused CU nv H E
  | some row => match okVals sz row.2.1 gd with
    | none => ∀ H', Same H H' → Refused CV nv H' E
    | some ns => ∀ n es t e H', nd = .str n → tb.lookup n = some es → es[(placeOf sz (row.2.1.zip ns)).toNat]? = some e → Same H H' → H' t = some (.tup (resV row.2.2 e)) → Q (.ref t) H'
/-- the methods of books -/
structure BookE (P : Program) (w : World) (K : PySem.W.Frag) (mg : Str → Option Value) (base : Heap) (CB C fg fs ft fh : Addr) (qg qs qt qh : FuncData) : Prop where
  S : BookC K CB
  mg_ : Meth K CB "signature" fg
  gg : FnOk P w K mg base CX0 1 fg qg ["self"] (spSignature CB)
  bg : Binds K qg ["self"] []
  ms : Meth K CB "size" fs
  gs : FnOk P w K mg base CX0 1 fs qs ["self", "kind"] (spSize CB)
  bs : Binds K qs ["self", "kind"] []
  mt : Meth K CB "table" ft
  gt : FnOk P w K mg base CX0 1 ft qt ["self", "name"] (spTableOf CB)
  bt : Binds K qt ["self", "name"] []
  mh : Meth K CB "has_token" fh
  gh : FnOk P w K mg base CX0 4 fh qh ["self", "value"] (spHasTok CB)
  bh : Binds K qh ["self", "value"] []
section
variable {P : Program} {w : World} {K : PySem.W.Frag} {mg : Str → Option Value} {base : Heap} {CB C CU CV fg fs ft fh : Addr} {qg qs qt qh : FuncData}
theorem scAp : FnScope nAp ["book", "name", "values"] (defScope sApply) := ⟨rfl, rfl, rfl, by decide +kernel, rfl, by decide +kernel, by decide +kernel⟩
theorem ok_apply {f fVr fE fKo : Addr} {fd qVr qE qKo : FuncData} (F : Fun K "apply" "apply" sApply f fd) (T : GlobS mg) (zipN : mg "zip" = none) (B : BookE P w K mg base CB C fg fs ft fh qg qs qt qh) (cS : Cls K C) (mV : Meth K C "variant" fVr)
    (GV : FnOk P w K mg base (L2.CX P w) 4 fVr qVr ["self", "name"] (spVariant C CU)) (bV : Binds K qVr ["self", "name"] []) (M : MkE P w K mg base "BadVariant" CV fE qE bmV "ValueError.__new__")
    (GK : FnOk P w K mg base CX0 1 fKo qKo ["value"] (spKindOf K)) (DK : Def K mg "kind_of" fKo) (bK : Binds K qKo ["value"] []) :
    FnOk P w K mg base (L2.CX P w) 5 f fd ["book", "name", "values"] (spApply CB C CU CV) := by
  refine F.okX scAp (fun vs H Q E h => ?_) (fun cdv A outer s H vs Q E hr h => ?_)
  · obtain ⟨N, b, ks, ps, sz, tb, nv, gv, nd, gd, rfl, _⟩ := h
    rfl
  · obtain ⟨N, b, ks, ps, sz, tb, nv, gv, nd, gd, rfl, bk, okS, okP, okT, hn, hnt, hg, hgs, q⟩ := h
    have hu := hu_of hr
    have hr1 : Room 1 _ := hr.mono (by decide)
    have hr3 : Room 3 _ := hr.mono (by decide)
    obtain ⟨dx, g0, s0, t0, hb⟩ := bk.ins
    have refuse : ∀ {H' : Hp} {σ : L2.St}, Same H H' → σ[1]? = some (some nv) → Refused CV nv H' E → tMkO CV (spIni K bmV "ValueError.__new__" "name") [] (tCons (tVar 1) tNil) σ H' E := fun sm hσ r => ⟨nv, hσ, by show 1 ≤ 1000; decide, raised M.x M.nf (hn.keep (Same.keep sm)) hnt r⟩
    cases gd
    case list ds =>
     refine ⟨_, pss_cons (ps_asg (pe_meth (pe_meth0 (pv 0) B.S.cl B.mg_ B.gg hr1 B.bg .nil pass0) cS mV GV hr bV .nil (passes_call (takes_of rfl rfl rfl rfl) fun _ _ _ _ h => h) (pa_cons (pv 1) pa_nil))
           (pg_tup (by rfl) (pgs_cons (pg_name (i := 3) scAp.nd rfl (.inl rfl)) (pgs_cons (pg_name (i := 4) scAp.nd rfl (.inl rfl)) (pgs_cons (pg_name (i := 5) scAp.nd rfl (.inl rfl)) pgs_nil)))))
       (pss_cons (ps_if (PW.pt (pw_or (pt_not (pt_val (pe_callB call_isiT (by rfl) T.isinstance (by decide +kernel) (pa_cons (pv 2) (pa_cons (pe_tup (pa_cons (pe_bltn (v := .ty "list") (by rfl) T.list (by decide +kernel) rfl) (pa_cons (pe_bltn (v := .ty "tuple") (by rfl) T.tuple (by decide +kernel) rfl) pa_nil))) pa_nil)))))
           (pw_or1 (pt_not (pt_val (pe_callB (cr_all rfl) (by rfl) T.all (by decide +kernel) (pa_cons (pe_lc (own := [("value", 6)]) (g := gName 6) (tt := tYes) rfl scAp.nd (pi_list (pv 2)) (blkOk_by (N := nAp) (sc := defScope sApply) (by decide +kernel)) (fun _ _ _ _ _ => pg_name (i := 6) scAp.nd rfl (.inl rfl)) (fun _ _ _ _ _ => pts_nil)
             (fun _ _ _ _ _ => pe_meth (pv 0) B.S.cl B.mh B.gh hr B.bh .nil pass0 (pa_cons (pv 6) pa_nil))) pa_nil))))))) (pss_one (ps_raise rfl (takes_of rfl rfl rfl rfl) (pmk_x exB_VE M.x M.i M.t M.F hr3 M.b .nil pass0 (by rfl) M.g (pa_cons (pv 1) pa_nil)))) pss_nil)
       (pss_cons (ps_if (pt_cmpR (r := rNeP K) (op_neP hr.units) (pe_callTy call_tupU (by rfl) T.tuple (by decide +kernel) (pa_cons (pe_lc (own := [("value", 6)]) (g := gName 6) (tt := tYes) rfl scAp.nd (pi_list (pv 2)) (blkOk_by (N := nAp) (sc := defScope sApply) (by decide +kernel)) (fun _ _ _ _ _ => pg_name (i := 6) scAp.nd rfl (.inl rfl)) (fun _ _ _ _ _ => pts_nil)
             (fun _ _ _ _ _ => pe_call GK hr1 (by rfl) DK.gl DK.kp bK .nil pass0 (pa_cons (pv 6) pa_nil))) pa_nil)) (pv 4) (nomark _)) (pss_one (ps_raise rfl (takes_of rfl rfl rfl rfl) (pmk_x exB_VE M.x M.i M.t M.F hr3 M.b .nil pass0 (by rfl) M.g (pa_cons (pv 1) pa_nil)))) pss_nil)
       (pss_cons (ps_set (i := 7) scAp.nd rfl (.inl rfl) pe_int)
       (pss_cons (ps_for (passes_of rfl) rfl (pi_zipQ (by rfl) zipN (pa_cons (pv 4) (pa_cons (pv 2) pa_nil))) (pg_tup (by rfl) (pgs_cons (pg_name (i := 8) scAp.nd rfl (.inl rfl)) (pgs_cons (pg_name (i := 6) scAp.nd rfl (.inl rfl)) pgs_nil)))
           (pss_one (ps_set (i := 7) scAp.nd rfl (.inl rfl) (pe_op op_add (pe_op op_mul (pv 7) (pe_meth (pv 0) B.S.cl B.ms B.gs hr1 B.bs .nil pass0 (pa_cons (pv 8) pa_nil))) (pe_ix ix_tup (pv 6) pe_int (fun _ _ => rfl))))))
       (pss_cons (ps_set (i := 9) scAp.nd rfl (.inl rfl) (pe_ix ix_list (pe_meth (pv 0) B.S.cl B.mt B.gt hr1 B.bt .nil pass0 (pa_cons (pv 1) pa_nil)) (pv 7) (fun _ _ => rfl)))
       (pss_one (ps_ret (pe_ifExp (pt_cmpR op_eq (pv 5) pe_str (nomark _)) (pe_tup (pa_cons pe_str (pa_cons (pv 9) pa_nil))) (pe_tup (pa_cons pe_str (pa_cons (pv 5) (pa_cons (pv 9) pa_nil)))))))))))), ?_⟩
     refine ⟨_, rfl, b, dx, _, rfl, hb, rfl, N, C, b, ks, ps, sz, tb, rfl, bk, fun g sg => ?_⟩
     obtain ⟨dxg, ka, ow, pr, hsg⟩ := sg.ins
     refine ⟨g, dxg, _, rfl, hsg, rfl, _, rfl, N, g, ks, ps, nv, nd, rfl, sg, hn, hnt, ?_⟩
     cases en : named ps nd with
     | none =>
       rw [en] at q
       exact q
     | some row =>
     obtain ⟨prim, ws, r⟩ := row
     rw [en] at q
     rintro a ⟨o, t1, t2⟩
     refine ⟨a, _, rfl, SqT.of t1, rfl, _, _, rfl, _, _, rfl, _, _, rfl, rfl, ?_⟩
     refine ⟨_, rfl, by show 2 ≤ sizeLine; decide, fun tp np => ?_⟩
     obtain ⟨H1, z, s1, e1⟩ := fresh np (.tup [.ty "list", .ty "tuple"])
     rw [z]
     clear z
     have q : match (if okSeq sz ws ds = true then some (ds.map numS) else none : Option (List Int)) with
       | none => ∀ H', Same H H' → Refused CV nv H' E
       | some ns => ∀ n es t e H', nd = .str n → tb.lookup n = some es → es[(placeOf sz (ws.zip ns)).toNat]? = some e → Same H H' → H' t = some (.tup (resV r e)) → Q (.ref t) H' := q
     have hgs' : ds.length ≤ 1000 ∧ ∀ d ∈ ds, ShortT d := hgs
     cases hg with
     | @lst l xs _ hl nN zN qd =>
     have el := qd.length
     have l1 := s1 _ _ hl
     refine ⟨.ref l, tp, _, .type "list", [.type "list", .type "tuple"], true, rfl, e1, .cons (.ty _) (.cons (.ty _) .nil), .base (.lst l1), by rfl, _, rfl, ?_⟩
     refine ⟨_, rfl, l, rfl, ⟨_, SqL.of l1⟩, fun D nD => lc_it (walk_list (K := K) (a := l) (xs := xs)) (fun i H2 => Same H1 H2 ∧ H2 D = some (.lst (((ds.take i).map (tokD sz)).map V.bl))) ⟨same_new nD, upd_same⟩ (fun i H2 _ ⟨sm, _⟩ => SqL.of (sm _ _ l1)) ?_ ?_⟩
     · rintro i x H2 H3 hi ⟨sm, eD⟩ ⟨rfl, hx⟩
       have hx' : xs[i]? = some x := hx
       obtain ⟨d, hd, hvd⟩ := Das.fetch qd hx'
       have S3 := s1.trans sm
       refine ⟨rfl, _, rfl, b, dx, _, rfl, S3 _ _ hb, rfl, _, rfl, N, C, b, ks, ps, sz, tb, x, d, rfl, bk.same S3, hvd.keep (Same.keep S3), hgs'.2 d (List.mem_of_getElem? hd), fun H4 s4 => ⟨_, s4 _ _ eD, ?_, fun c ob e => ?_, ?_⟩⟩
       · rw [List.length_map, List.length_map, List.length_take]
         exact small1000 (by omega)
       · rw [upd_ne (ne_of_none e nD)]
         exact s4 _ _ (sm c ob e)
       · rw [upd_same, List.take_add_one, hd]
         simp
     · rintro H2 ⟨sm, eD⟩
       rw [el, List.take_length] at eD
       have S2 := s1.trans sm
       refine ⟨D, ds.map (tokD sz), rfl, SqL.of eD, ?_⟩
       rw [show (ds.map (tokD sz)).all id = ds.all (tokD sz) by rw [List.all_map]; rfl]
       cases ea : ds.all (tokD sz) with
       | false =>
         have ek : okSeq sz ws ds = false := by unfold okSeq; rw [ea]; rfl
         rw [ek] at q
         exact ⟨_, rfl, refuse S2 rfl (q H2 S2)⟩
       | true =>
       have tk : ∀ d ∈ ds, tokD sz d = true := List.all_eq_true.mp ea
       have l2 := S2 _ _ hl
       refine ⟨_, rfl, ?_⟩
       refine ⟨_, rfl, l, rfl, ⟨_, SqL.of l2⟩, fun D2 nD2 => lc_it (walk_list (K := K) (a := l) (xs := xs)) (fun i H3 => Same H2 H3 ∧ H3 D2 = some (.lst (((ds.take i).map kindS).map V.str))) ⟨same_new nD2, upd_same⟩ (fun i H3 _ ⟨sm, _⟩ => SqL.of (sm _ _ l2)) ?_ ?_⟩
       · rintro i x H3 H4 hi ⟨sm3, eD2⟩ ⟨rfl, hx⟩
         have hx' : xs[i]? = some x := hx
         obtain ⟨d, hd, hvd⟩ := Das.fetch qd hx'
         have S4 := S2.trans sm3
         obtain ⟨a', k, i', n, rfl, ha', rfl, i0, hk, hi'⟩ := tok_at (hvd.keep (Same.keep S4)) (tk d (List.mem_of_getElem? hd))
         refine ⟨rfl, _, rfl, N, a', _, .str "tok", .str k, .str "tok", rfl, SqT.of ha', rfl, .str _, fun _ => rfl, ?_⟩
         rw [if_pos (by rfl)]
         refine ⟨_, eD2, ?_, fun c ob e => ?_, ?_⟩
         · rw [List.length_map, List.length_map, List.length_take]
           exact small1000 (by omega)
         · rw [upd_ne (ne_of_none e nD2)]
           exact sm3 c ob e
         · rw [upd_same, List.take_add_one, hd]
           simp [kindS]
       · rintro H3 ⟨sm3, eD2⟩
         rw [el, List.take_length] at eD2
         refine ⟨D2, _, rfl, .inl eD2, fun t H4 s4 et _ => ?_⟩
         have S4 := S2.trans (sm3.trans s4)
         have dz : (txtsD (ds.map kindS)).depth ≤ 60 := by
           show PyData.depthAll ((ds.map kindS).map .str) + 1 ≤ 60
           rw [depth_strs]
           decide
         refine ⟨_, rfl, txtsD (ds.map kindS), txtsD ws, dp_tupS et, dp_tupS (S4 _ _ t2), dz, _, rfl, ?_⟩
         rw [eqv_txts]
         by_cases ew : ds.map kindS = ws
         · rw [decide_eq_true ew]
           have ek : okSeq sz ws ds = true := by unfold okSeq; rw [ea, decide_eq_true ew]; rfl
           rw [if_pos ek] at q
           obtain ⟨n, rfl, hnl⟩ := named_str en
           obtain rfl : nv = .str n := by cases hn; rfl
           have mem := lookup_mem hnl
           obtain ⟨wl, wk, wr⟩ := owner_own okP mem
           obtain ⟨es, hes, tok⟩ := okT.at_ _ mem
           have el2 : ws.length = ds.length := by rw [← ew, List.length_map]
           have lz : (ws.map V.str).length = xs.length := by rw [List.length_map, el, el2]
           have l4 := S4 _ _ hl
           refine ⟨_, rfl, _, rfl, o, l, _, _, rfl, SqT.of (S4 _ _ t2), .inr ⟨SqL.of l4, for_it (walk_zipQ (K := K) (a := o) (b := l) (xs := ws.map V.str) (ys := xs) lz) (fun i σ H5 => Same H4 H5 ∧ ∃ v6 v8, σ = [some (.ref b), some (.str n), some (.ref l), some (.str prim), some (.ref o), some (.str r), v6, some (.int (placeOf sz ((ws.zip (ds.map numS)).take i))), v8, none] ∧
               0 ≤ placeOf sz ((ws.zip (ds.map numS)).take i) ∧ placeOf sz ((ws.zip (ds.map numS)).take i) < choices sz (ws.take i) ∧ choices sz (ws.take i) ≤ 1000 ^ i)
             ⟨Same.refl H4, _, _, rfl, by show (0 : Int) ≤ 0; decide, by show (0 : Int) < 1; decide, by show (1 : Int) ≤ 1000 ^ 0; decide⟩ (fun i σ H5 _ ⟨sm, _⟩ => ⟨SqT.of (sm _ _ (S4 _ _ t2)), SqL.of (sm _ _ l4)⟩) ?_ ?_⟩⟩
           · rintro i x σ H5 H6 hi ⟨s5, v6, v8, rfl, c0, c1, c2⟩ ⟨T', x1, x2, rfl, nT, rfl, e1', e2'⟩
             have e3 : (ws.map V.str)[i]? = some x1 := e1'
             have e4 : xs[i]? = some x2 := e2'
             rw [List.getElem?_map] at e3
             obtain ⟨k, hkk, rfl⟩ := Option.map_eq_some_iff.mp e3
             obtain ⟨d, hd, hvd⟩ := Das.fetch qd e4
             have S5 := S4.trans s5
             have S6 : Same H (upd H5 T' (.tup [.str k, x2])) := S5.trans (same_new nT)
             obtain ⟨a', k', i', m, rfl, ha', rfl, i0, hm, hi'⟩ := tok_at (hvd.keep (Same.keep S6)) (tk d (List.mem_of_getElem? hd))
             have ekk : k' = k := by
               have := congrArg (fun l => l[i]?) ew
               simp only [List.getElem?_map, hd, hkk, Option.map_some] at this
               exact Option.some.inj this
             subst ekk
             have hi2 : i < 2 := by
               rw [List.length_map] at hi
               omega
             have p1 : (1000 : Int) ^ i ≤ 1000 := by
               have : i = 0 ∨ i = 1 := by omega
               rcases this with e | e <;> rw [e] <;> decide
             obtain ⟨m', hm', m1, m2⟩ := okS.at (wk k' (List.mem_of_getElem? hkk))
             obtain rfl : m' = m := by rw [hm] at hm'; exact (Option.some.inj hm').symm
             have ez : (ws.zip (ds.map numS))[i]? = some (k', i') := by
               rw [List.getElem?_zip_eq_some]
               exact ⟨hkk, by rw [List.getElem?_map, hd]; rfl⟩
             have ep : placeOf sz ((ws.zip (ds.map numS)).take (i + 1)) = placeOf sz ((ws.zip (ds.map numS)).take i) * m' + i' := by
               unfold placeOf
               rw [List.take_add_one, ez, List.foldl_append]
               show _ * (sz.lookup k').getD 0 + i' = _
               rw [hm]
               rfl
             have ec : choices sz (ws.take (i + 1)) = choices sz (ws.take i) * m' := by
               unfold choices
               rw [List.take_add_one, hkk, List.foldl_append]
               show _ * (sz.lookup k').getD 0 = _
               rw [hm]
               rfl
             refine ⟨T', _, rfl, SqT.of upd_same, rfl, _, _, rfl, _, _, rfl, rfl, _, rfl, _, rfl, b, dx, _, rfl, S6 _ _ hb, rfl, _, rfl, N, C, b, ks, ps, sz, tb, k', m', rfl, bk.same S6, hm, _, _, rfl, rfl, .inl ⟨by omega, by omega⟩, _, rfl, a', _, _, .int i', rfl, rfl, SqT.of ha', atI_nat (j := 2) rfl, _, _, rfl, rfl, s5.trans (same_new nT), some (.ref a'), some (.str k'), ?_, ?_, ?_, ?_⟩
             · rw [ep]
               rfl
             · rw [ep]
               have := Int.mul_nonneg c0 (by omega : 0 ≤ m')
               omega
             · rw [ep, ec]
               have h1 : placeOf sz ((ws.zip (ds.map numS)).take i) + 1 ≤ choices sz (ws.take i) := c1
               have h2 := Int.mul_le_mul_of_nonneg_right h1 (by omega : 0 ≤ m')
               rw [Int.add_mul, Int.one_mul] at h2
               omega
             · rw [ec, Int.pow_succ]
               exact Int.mul_le_mul c2 m2 (by omega) (by omega)
           · rintro σ H5 ⟨s5, v6, v8, rfl, c0, c1, c2⟩
             have ew2 : ws.take (ws.map V.str).length = ws := by rw [List.length_map, List.take_length]
             have ez2 : (ws.zip (ds.map numS)).take (ws.map V.str).length = ws.zip (ds.map numS) := by
               rw [List.take_of_length_le]
               rw [List.length_zip, List.length_map]
               omega
             rw [ew2, ez2] at c1
             rw [ez2] at c0 ⊢
             have S5 := S4.trans s5
             obtain ⟨pl, hpl⟩ := Int.eq_ofNat_of_zero_le c0
             have plt : pl < es.length := by
               have : (es.length : Int) = choices sz ws := tok.len
               omega
             have hget : es[pl]? = some es[pl] := List.getElem?_eq_getElem plt
             have fin := q n es
             rw [show (placeOf sz (ws.zip (ds.map numS))).toNat = pl by omega] at fin
             rw [hpl]
             refine ⟨_, rfl, b, dx, _, rfl, S5 _ _ hb, rfl, _, rfl, N, C, b, ks, ps, sz, tb, n, es, rfl, bk.same S5, hes, fun L nL => ?_⟩
             obtain ⟨H6, z, s6, e6⟩ := fresh nL (.lst es)
             rw [z]
             clear z
             have S6 := S5.trans s6
             refine ⟨_, rfl, L, _, _, es[pl], rfl, rfl, SqL.of e6, atI_nat hget, ?_⟩
             refine ⟨_, rfl, rfl, _, rfl, ite2 (fun hb => ?_) (fun hb => ?_)⟩
             · have rb : r = "bit" := by simpa using hb
               refine ⟨_, rfl, by show 2 ≤ sizeLine; decide, fun t' nt' => ?_⟩
               refine fin t' es[pl] _ rfl hes hget (S6.trans (same_new nt')) ?_
               unfold resV
               rw [if_pos rb]
               exact upd_same
             · have rb : ¬ r = "bit" := by simpa using hb
               refine ⟨_, rfl, _, rfl, by show 3 ≤ sizeLine; decide, fun t' nt' => ?_⟩
               refine fin t' es[pl] _ rfl hes hget (S6.trans (same_new nt')) ?_
               unfold resV
               rw [if_neg rb]
               exact upd_same
         · rw [decide_eq_false ew]
           have ek : okSeq sz ws ds = false := by unfold okSeq; rw [decide_eq_false ew, Bool.and_false]
           rw [ek] at q
           exact refuse S4 rfl (q H4 S4)
    case tuple ds =>
     refine ⟨_, pss_cons (ps_asg (pe_meth (pe_meth0 (pv 0) B.S.cl B.mg_ B.gg hr1 B.bg .nil pass0) cS mV GV hr bV .nil (passes_call (takes_of rfl rfl rfl rfl) fun _ _ _ _ h => h) (pa_cons (pv 1) pa_nil))
           (pg_tup (by rfl) (pgs_cons (pg_name (i := 3) scAp.nd rfl (.inl rfl)) (pgs_cons (pg_name (i := 4) scAp.nd rfl (.inl rfl)) (pgs_cons (pg_name (i := 5) scAp.nd rfl (.inl rfl)) pgs_nil)))))
       (pss_cons (ps_if (PW.pt (pw_or (pt_not (pt_val (pe_callB call_isiT (by rfl) T.isinstance (by decide +kernel) (pa_cons (pv 2) (pa_cons (pe_tup (pa_cons (pe_bltn (v := .ty "list") (by rfl) T.list (by decide +kernel) rfl) (pa_cons (pe_bltn (v := .ty "tuple") (by rfl) T.tuple (by decide +kernel) rfl) pa_nil))) pa_nil)))))
           (pw_or1 (pt_not (pt_val (pe_callB (cr_all rfl) (by rfl) T.all (by decide +kernel) (pa_cons (pe_lc (own := [("value", 6)]) (g := gName 6) (tt := tYes) rfl scAp.nd (pi_tup (pv 2)) (blkOk_by (N := nAp) (sc := defScope sApply) (by decide +kernel)) (fun _ _ _ _ _ => pg_name (i := 6) scAp.nd rfl (.inl rfl)) (fun _ _ _ _ _ => pts_nil)
             (fun _ _ _ _ _ => pe_meth (pv 0) B.S.cl B.mh B.gh hr B.bh .nil pass0 (pa_cons (pv 6) pa_nil))) pa_nil))))))) (pss_one (ps_raise rfl (takes_of rfl rfl rfl rfl) (pmk_x exB_VE M.x M.i M.t M.F hr3 M.b .nil pass0 (by rfl) M.g (pa_cons (pv 1) pa_nil)))) pss_nil)
       (pss_cons (ps_if (pt_cmpR (r := rNeP K) (op_neP hr.units) (pe_callTy call_tupU (by rfl) T.tuple (by decide +kernel) (pa_cons (pe_lc (own := [("value", 6)]) (g := gName 6) (tt := tYes) rfl scAp.nd (pi_tup (pv 2)) (blkOk_by (N := nAp) (sc := defScope sApply) (by decide +kernel)) (fun _ _ _ _ _ => pg_name (i := 6) scAp.nd rfl (.inl rfl)) (fun _ _ _ _ _ => pts_nil)
             (fun _ _ _ _ _ => pe_call GK hr1 (by rfl) DK.gl DK.kp bK .nil pass0 (pa_cons (pv 6) pa_nil))) pa_nil)) (pv 4) (nomark _)) (pss_one (ps_raise rfl (takes_of rfl rfl rfl rfl) (pmk_x exB_VE M.x M.i M.t M.F hr3 M.b .nil pass0 (by rfl) M.g (pa_cons (pv 1) pa_nil)))) pss_nil)
       (pss_cons (ps_set (i := 7) scAp.nd rfl (.inl rfl) pe_int)
       (pss_cons (ps_for (passes_of rfl) rfl (pi_zipQ (by rfl) zipN (pa_cons (pv 4) (pa_cons (pv 2) pa_nil))) (pg_tup (by rfl) (pgs_cons (pg_name (i := 8) scAp.nd rfl (.inl rfl)) (pgs_cons (pg_name (i := 6) scAp.nd rfl (.inl rfl)) pgs_nil)))
           (pss_one (ps_set (i := 7) scAp.nd rfl (.inl rfl) (pe_op op_add (pe_op op_mul (pv 7) (pe_meth (pv 0) B.S.cl B.ms B.gs hr1 B.bs .nil pass0 (pa_cons (pv 8) pa_nil))) (pe_ix ix_tup (pv 6) pe_int (fun _ _ => rfl))))))
       (pss_cons (ps_set (i := 9) scAp.nd rfl (.inl rfl) (pe_ix ix_list (pe_meth (pv 0) B.S.cl B.mt B.gt hr1 B.bt .nil pass0 (pa_cons (pv 1) pa_nil)) (pv 7) (fun _ _ => rfl)))
       (pss_one (ps_ret (pe_ifExp (pt_cmpR op_eq (pv 5) pe_str (nomark _)) (pe_tup (pa_cons pe_str (pa_cons (pv 9) pa_nil))) (pe_tup (pa_cons pe_str (pa_cons (pv 5) (pa_cons (pv 9) pa_nil)))))))))))), ?_⟩
     refine ⟨_, rfl, b, dx, _, rfl, hb, rfl, N, C, b, ks, ps, sz, tb, rfl, bk, fun g sg => ?_⟩
     obtain ⟨dxg, ka, ow, pr, hsg⟩ := sg.ins
     refine ⟨g, dxg, _, rfl, hsg, rfl, _, rfl, N, g, ks, ps, nv, nd, rfl, sg, hn, hnt, ?_⟩
     cases en : named ps nd with
     | none =>
       rw [en] at q
       exact q
     | some row =>
     obtain ⟨prim, ws, r⟩ := row
     rw [en] at q
     rintro a ⟨o, t1, t2⟩
     refine ⟨a, _, rfl, SqT.of t1, rfl, _, _, rfl, _, _, rfl, _, _, rfl, rfl, ?_⟩
     refine ⟨_, rfl, by show 2 ≤ sizeLine; decide, fun tp np => ?_⟩
     obtain ⟨H1, z, s1, e1⟩ := fresh np (.tup [.ty "list", .ty "tuple"])
     rw [z]
     clear z
     have q : match (if okSeq sz ws ds = true then some (ds.map numS) else none : Option (List Int)) with
       | none => ∀ H', Same H H' → Refused CV nv H' E
       | some ns => ∀ n es t e H', nd = .str n → tb.lookup n = some es → es[(placeOf sz (ws.zip ns)).toNat]? = some e → Same H H' → H' t = some (.tup (resV r e)) → Q (.ref t) H' := q
     have hgs' : ds.length ≤ 1000 ∧ ∀ d ∈ ds, ShortT d := hgs
     cases hg with
     | @tup l xs _ hl nN qd =>
     have el := qd.length
     have l1 := s1 _ _ hl
     refine ⟨.ref l, tp, _, .type "tuple", [.type "list", .type "tuple"], true, rfl, e1, .cons (.ty _) (.cons (.ty _) .nil), .base (.tup l1), by rfl, _, rfl, ?_⟩
     refine ⟨_, rfl, l, rfl, ⟨_, SqT.of l1⟩, fun D nD => lc_it (walk_tup (K := K) (a := l) (xs := xs)) (fun i H2 => Same H1 H2 ∧ H2 D = some (.lst (((ds.take i).map (tokD sz)).map V.bl))) ⟨same_new nD, upd_same⟩ (fun i H2 _ ⟨sm, _⟩ => SqT.of (sm _ _ l1)) ?_ ?_⟩
     · rintro i x H2 H3 hi ⟨sm, eD⟩ ⟨rfl, hx⟩
       have hx' : xs[i]? = some x := hx
       obtain ⟨d, hd, hvd⟩ := Das.fetch qd hx'
       have S3 := s1.trans sm
       refine ⟨rfl, _, rfl, b, dx, _, rfl, S3 _ _ hb, rfl, _, rfl, N, C, b, ks, ps, sz, tb, x, d, rfl, bk.same S3, hvd.keep (Same.keep S3), hgs'.2 d (List.mem_of_getElem? hd), fun H4 s4 => ⟨_, s4 _ _ eD, ?_, fun c ob e => ?_, ?_⟩⟩
       · rw [List.length_map, List.length_map, List.length_take]
         exact small1000 (by omega)
       · rw [upd_ne (ne_of_none e nD)]
         exact s4 _ _ (sm c ob e)
       · rw [upd_same, List.take_add_one, hd]
         simp
     · rintro H2 ⟨sm, eD⟩
       rw [el, List.take_length] at eD
       have S2 := s1.trans sm
       refine ⟨D, ds.map (tokD sz), rfl, SqL.of eD, ?_⟩
       rw [show (ds.map (tokD sz)).all id = ds.all (tokD sz) by rw [List.all_map]; rfl]
       cases ea : ds.all (tokD sz) with
       | false =>
         have ek : okSeq sz ws ds = false := by unfold okSeq; rw [ea]; rfl
         rw [ek] at q
         exact ⟨_, rfl, refuse S2 rfl (q H2 S2)⟩
       | true =>
       have tk : ∀ d ∈ ds, tokD sz d = true := List.all_eq_true.mp ea
       have l2 := S2 _ _ hl
       refine ⟨_, rfl, ?_⟩
       refine ⟨_, rfl, l, rfl, ⟨_, SqT.of l2⟩, fun D2 nD2 => lc_it (walk_tup (K := K) (a := l) (xs := xs)) (fun i H3 => Same H2 H3 ∧ H3 D2 = some (.lst (((ds.take i).map kindS).map V.str))) ⟨same_new nD2, upd_same⟩ (fun i H3 _ ⟨sm, _⟩ => SqT.of (sm _ _ l2)) ?_ ?_⟩
       · rintro i x H3 H4 hi ⟨sm3, eD2⟩ ⟨rfl, hx⟩
         have hx' : xs[i]? = some x := hx
         obtain ⟨d, hd, hvd⟩ := Das.fetch qd hx'
         have S4 := S2.trans sm3
         obtain ⟨a', k, i', n, rfl, ha', rfl, i0, hk, hi'⟩ := tok_at (hvd.keep (Same.keep S4)) (tk d (List.mem_of_getElem? hd))
         refine ⟨rfl, _, rfl, N, a', _, .str "tok", .str k, .str "tok", rfl, SqT.of ha', rfl, .str _, fun _ => rfl, ?_⟩
         rw [if_pos (by rfl)]
         refine ⟨_, eD2, ?_, fun c ob e => ?_, ?_⟩
         · rw [List.length_map, List.length_map, List.length_take]
           exact small1000 (by omega)
         · rw [upd_ne (ne_of_none e nD2)]
           exact sm3 c ob e
         · rw [upd_same, List.take_add_one, hd]
           simp [kindS]
       · rintro H3 ⟨sm3, eD2⟩
         rw [el, List.take_length] at eD2
         refine ⟨D2, _, rfl, .inl eD2, fun t H4 s4 et _ => ?_⟩
         have S4 := S2.trans (sm3.trans s4)
         have dz : (txtsD (ds.map kindS)).depth ≤ 60 := by
           show PyData.depthAll ((ds.map kindS).map .str) + 1 ≤ 60
           rw [depth_strs]
           decide
         refine ⟨_, rfl, txtsD (ds.map kindS), txtsD ws, dp_tupS et, dp_tupS (S4 _ _ t2), dz, _, rfl, ?_⟩
         rw [eqv_txts]
         by_cases ew : ds.map kindS = ws
         · rw [decide_eq_true ew]
           have ek : okSeq sz ws ds = true := by unfold okSeq; rw [ea, decide_eq_true ew]; rfl
           rw [if_pos ek] at q
           obtain ⟨n, rfl, hnl⟩ := named_str en
           obtain rfl : nv = .str n := by cases hn; rfl
           have mem := lookup_mem hnl
           obtain ⟨wl, wk, wr⟩ := owner_own okP mem
           obtain ⟨es, hes, tok⟩ := okT.at_ _ mem
           have el2 : ws.length = ds.length := by rw [← ew, List.length_map]
           have lz : (ws.map V.str).length = xs.length := by rw [List.length_map, el, el2]
           have l4 := S4 _ _ hl
           refine ⟨_, rfl, _, rfl, o, l, _, _, rfl, SqT.of (S4 _ _ t2), .inl ⟨SqT.of l4, for_it (walk_zipT (K := K) (a := o) (b := l) (xs := ws.map V.str) (ys := xs) lz) (fun i σ H5 => Same H4 H5 ∧ ∃ v6 v8, σ = [some (.ref b), some (.str n), some (.ref l), some (.str prim), some (.ref o), some (.str r), v6, some (.int (placeOf sz ((ws.zip (ds.map numS)).take i))), v8, none] ∧
               0 ≤ placeOf sz ((ws.zip (ds.map numS)).take i) ∧ placeOf sz ((ws.zip (ds.map numS)).take i) < choices sz (ws.take i) ∧ choices sz (ws.take i) ≤ 1000 ^ i)
             ⟨Same.refl H4, _, _, rfl, by show (0 : Int) ≤ 0; decide, by show (0 : Int) < 1; decide, by show (1 : Int) ≤ 1000 ^ 0; decide⟩ (fun i σ H5 _ ⟨sm, _⟩ => ⟨SqT.of (sm _ _ (S4 _ _ t2)), SqT.of (sm _ _ l4)⟩) ?_ ?_⟩⟩
           · rintro i x σ H5 H6 hi ⟨s5, v6, v8, rfl, c0, c1, c2⟩ ⟨T', x1, x2, rfl, nT, rfl, e1', e2'⟩
             have e3 : (ws.map V.str)[i]? = some x1 := e1'
             have e4 : xs[i]? = some x2 := e2'
             rw [List.getElem?_map] at e3
             obtain ⟨k, hkk, rfl⟩ := Option.map_eq_some_iff.mp e3
             obtain ⟨d, hd, hvd⟩ := Das.fetch qd e4
             have S5 := S4.trans s5
             have S6 : Same H (upd H5 T' (.tup [.str k, x2])) := S5.trans (same_new nT)
             obtain ⟨a', k', i', m, rfl, ha', rfl, i0, hm, hi'⟩ := tok_at (hvd.keep (Same.keep S6)) (tk d (List.mem_of_getElem? hd))
             have ekk : k' = k := by
               have := congrArg (fun l => l[i]?) ew
               simp only [List.getElem?_map, hd, hkk, Option.map_some] at this
               exact Option.some.inj this
             subst ekk
             have hi2 : i < 2 := by
               rw [List.length_map] at hi
               omega
             have p1 : (1000 : Int) ^ i ≤ 1000 := by
               have : i = 0 ∨ i = 1 := by omega
               rcases this with e | e <;> rw [e] <;> decide
             obtain ⟨m', hm', m1, m2⟩ := okS.at (wk k' (List.mem_of_getElem? hkk))
             obtain rfl : m' = m := by rw [hm] at hm'; exact (Option.some.inj hm').symm
             have ez : (ws.zip (ds.map numS))[i]? = some (k', i') := by
               rw [List.getElem?_zip_eq_some]
               exact ⟨hkk, by rw [List.getElem?_map, hd]; rfl⟩
             have ep : placeOf sz ((ws.zip (ds.map numS)).take (i + 1)) = placeOf sz ((ws.zip (ds.map numS)).take i) * m' + i' := by
               unfold placeOf
               rw [List.take_add_one, ez, List.foldl_append]
               show _ * (sz.lookup k').getD 0 + i' = _
               rw [hm]
               rfl
             have ec : choices sz (ws.take (i + 1)) = choices sz (ws.take i) * m' := by
               unfold choices
               rw [List.take_add_one, hkk, List.foldl_append]
               show _ * (sz.lookup k').getD 0 = _
               rw [hm]
               rfl
             refine ⟨T', _, rfl, SqT.of upd_same, rfl, _, _, rfl, _, _, rfl, rfl, _, rfl, _, rfl, b, dx, _, rfl, S6 _ _ hb, rfl, _, rfl, N, C, b, ks, ps, sz, tb, k', m', rfl, bk.same S6, hm, _, _, rfl, rfl, .inl ⟨by omega, by omega⟩, _, rfl, a', _, _, .int i', rfl, rfl, SqT.of ha', atI_nat (j := 2) rfl, _, _, rfl, rfl, s5.trans (same_new nT), some (.ref a'), some (.str k'), ?_, ?_, ?_, ?_⟩
             · rw [ep]
               rfl
             · rw [ep]
               have := Int.mul_nonneg c0 (by omega : 0 ≤ m')
               omega
             · rw [ep, ec]
               have h1 : placeOf sz ((ws.zip (ds.map numS)).take i) + 1 ≤ choices sz (ws.take i) := c1
               have h2 := Int.mul_le_mul_of_nonneg_right h1 (by omega : 0 ≤ m')
               rw [Int.add_mul, Int.one_mul] at h2
               omega
             · rw [ec, Int.pow_succ]
               exact Int.mul_le_mul c2 m2 (by omega) (by omega)
           · rintro σ H5 ⟨s5, v6, v8, rfl, c0, c1, c2⟩
             have ew2 : ws.take (ws.map V.str).length = ws := by rw [List.length_map, List.take_length]
             have ez2 : (ws.zip (ds.map numS)).take (ws.map V.str).length = ws.zip (ds.map numS) := by
               rw [List.take_of_length_le]
               rw [List.length_zip, List.length_map]
               omega
             rw [ew2, ez2] at c1
             rw [ez2] at c0 ⊢
             have S5 := S4.trans s5
             obtain ⟨pl, hpl⟩ := Int.eq_ofNat_of_zero_le c0
             have plt : pl < es.length := by
               have : (es.length : Int) = choices sz ws := tok.len
               omega
             have hget : es[pl]? = some es[pl] := List.getElem?_eq_getElem plt
             have fin := q n es
             rw [show (placeOf sz (ws.zip (ds.map numS))).toNat = pl by omega] at fin
             rw [hpl]
             refine ⟨_, rfl, b, dx, _, rfl, S5 _ _ hb, rfl, _, rfl, N, C, b, ks, ps, sz, tb, n, es, rfl, bk.same S5, hes, fun L nL => ?_⟩
             obtain ⟨H6, z, s6, e6⟩ := fresh nL (.lst es)
             rw [z]
             clear z
             have S6 := S5.trans s6
             refine ⟨_, rfl, L, _, _, es[pl], rfl, rfl, SqL.of e6, atI_nat hget, ?_⟩
             refine ⟨_, rfl, rfl, _, rfl, ite2 (fun hb => ?_) (fun hb => ?_)⟩
             · have rb : r = "bit" := by simpa using hb
               refine ⟨_, rfl, by show 2 ≤ sizeLine; decide, fun t' nt' => ?_⟩
               refine fin t' es[pl] _ rfl hes hget (S6.trans (same_new nt')) ?_
               unfold resV
               rw [if_pos rb]
               exact upd_same
             · have rb : ¬ r = "bit" := by simpa using hb
               refine ⟨_, rfl, _, rfl, by show 3 ≤ sizeLine; decide, fun t' nt' => ?_⟩
               refine fin t' es[pl] _ rfl hes hget (S6.trans (same_new nt')) ?_
               unfold resV
               rw [if_neg rb]
               exact upd_same
         · rw [decide_eq_false ew]
           have ek : okSeq sz ws ds = false := by unfold okSeq; rw [decide_eq_false ew, Bool.and_false]
           rw [ek] at q
           exact refuse S4 rfl (q H4 S4)
    all_goals
     refine ⟨_, pss_cons (ps_asg (pe_meth (pe_meth0 (pv 0) B.S.cl B.mg_ B.gg hr1 B.bg .nil pass0) cS mV GV hr bV .nil (passes_call (takes_of rfl rfl rfl rfl) fun _ _ _ _ h => h) (pa_cons (pv 1) pa_nil))
           (pg_tup (by rfl) (pgs_cons (pg_name (i := 3) scAp.nd rfl (.inl rfl)) (pgs_cons (pg_name (i := 4) scAp.nd rfl (.inl rfl)) (pgs_cons (pg_name (i := 5) scAp.nd rfl (.inl rfl)) pgs_nil)))))
       (pss_cons (ps_if (PW.pt (pw_or (pt_not (pt_val (pe_callB call_isiT (by rfl) T.isinstance (by decide +kernel) (pa_cons (pv 2) (pa_cons (pe_tup (pa_cons (pe_bltn (v := .ty "list") (by rfl) T.list (by decide +kernel) rfl) (pa_cons (pe_bltn (v := .ty "tuple") (by rfl) T.tuple (by decide +kernel) rfl) pa_nil))) pa_nil)))))
           (pw_or1 (pt_not (pt_val (pe_callB (cr_all rfl) (by rfl) T.all (by decide +kernel) (pa_cons (pe_lc (own := [("value", 6)]) (g := gName 6) (tt := tYes) rfl scAp.nd (pi_tup (pv 2)) (blkOk_by (N := nAp) (sc := defScope sApply) (by decide +kernel)) (fun _ _ _ _ _ => pg_name (i := 6) scAp.nd rfl (.inl rfl)) (fun _ _ _ _ _ => pts_nil)
             (fun _ _ _ _ _ => pe_meth (pv 0) B.S.cl B.mh B.gh hr B.bh .nil pass0 (pa_cons (pv 6) pa_nil))) pa_nil))))))) (pss_one (ps_raise rfl (takes_of rfl rfl rfl rfl) (pmk_x exB_VE M.x M.i M.t M.F hr3 M.b .nil pass0 (by rfl) M.g (pa_cons (pv 1) pa_nil)))) pss_nil)
       (pss_cons (ps_if (pt_cmpR (r := rNeP K) (op_neP hr.units) (pe_callTy call_tupU (by rfl) T.tuple (by decide +kernel) (pa_cons (pe_lc (own := [("value", 6)]) (g := gName 6) (tt := tYes) rfl scAp.nd (pi_tup (pv 2)) (blkOk_by (N := nAp) (sc := defScope sApply) (by decide +kernel)) (fun _ _ _ _ _ => pg_name (i := 6) scAp.nd rfl (.inl rfl)) (fun _ _ _ _ _ => pts_nil)
             (fun _ _ _ _ _ => pe_call GK hr1 (by rfl) DK.gl DK.kp bK .nil pass0 (pa_cons (pv 6) pa_nil))) pa_nil)) (pv 4) (nomark _)) (pss_one (ps_raise rfl (takes_of rfl rfl rfl rfl) (pmk_x exB_VE M.x M.i M.t M.F hr3 M.b .nil pass0 (by rfl) M.g (pa_cons (pv 1) pa_nil)))) pss_nil)
       (pss_cons (ps_set (i := 7) scAp.nd rfl (.inl rfl) pe_int)
       (pss_cons (ps_for (passes_of rfl) rfl (pi_zipQ (by rfl) zipN (pa_cons (pv 4) (pa_cons (pv 2) pa_nil))) (pg_tup (by rfl) (pgs_cons (pg_name (i := 8) scAp.nd rfl (.inl rfl)) (pgs_cons (pg_name (i := 6) scAp.nd rfl (.inl rfl)) pgs_nil)))
           (pss_one (ps_set (i := 7) scAp.nd rfl (.inl rfl) (pe_op op_add (pe_op op_mul (pv 7) (pe_meth (pv 0) B.S.cl B.ms B.gs hr1 B.bs .nil pass0 (pa_cons (pv 8) pa_nil))) (pe_ix ix_tup (pv 6) pe_int (fun _ _ => rfl))))))
       (pss_cons (ps_set (i := 9) scAp.nd rfl (.inl rfl) (pe_ix ix_list (pe_meth (pv 0) B.S.cl B.mt B.gt hr1 B.bt .nil pass0 (pa_cons (pv 1) pa_nil)) (pv 7) (fun _ _ => rfl)))
       (pss_one (ps_ret (pe_ifExp (pt_cmpR op_eq (pv 5) pe_str (nomark _)) (pe_tup (pa_cons pe_str (pa_cons (pv 9) pa_nil))) (pe_tup (pa_cons pe_str (pa_cons (pv 5) (pa_cons (pv 9) pa_nil)))))))))))), ?_⟩
     refine ⟨_, rfl, b, dx, _, rfl, hb, rfl, N, C, b, ks, ps, sz, tb, rfl, bk, fun g sg => ?_⟩
     obtain ⟨dxg, ka, ow, pr, hsg⟩ := sg.ins
     refine ⟨g, dxg, _, rfl, hsg, rfl, _, rfl, N, g, ks, ps, nv, nd, rfl, sg, hn, hnt, ?_⟩
     cases en : named ps nd with
     | none =>
       rw [en] at q
       exact q
     | some row =>
     obtain ⟨prim, ws, r⟩ := row
     rw [en] at q
     rintro a ⟨o, t1, t2⟩
     refine ⟨a, _, rfl, SqT.of t1, rfl, _, _, rfl, _, _, rfl, _, _, rfl, rfl, ?_⟩
     refine ⟨_, rfl, by show 2 ≤ sizeLine; decide, fun tp np => ?_⟩
     obtain ⟨H1, z, s1, e1⟩ := fresh np (.tup [.ty "list", .ty "tuple"])
     rw [z]
     clear z
     have q : ∀ H', Same H H' → Refused CV nv H' E := q
     refine ⟨_, tp, _, _, [.type "list", .type "tuple"], false, rfl, e1, .cons (.ty _) (.cons (.ty _) .nil), Da.ty (hg.keep (Same.keep s1)), by rfl, _, rfl, ?_⟩
     exact refuse s1 rfl (q H1 s1)
end
end K12
/-! K12, 15: the law's choices -/
namespace K12
open PySem PySem.Spec PyProof.Rows L2 Ver
abbrev sSig : Stmt := top 39
abbrev sRows : Stmt := top 40
abbrev sChoices : Stmt := top 41
abbrev sBook : Stmt := top 42
abbrev sRefusal : Stmt := top 43
abbrev sOdd : Stmt := top 44
abbrev sLaw : Stmt := top 45
theorem Src.tups {p c : Addr} {H H' : Hp} (S : Src p c H) (k : Keep (Off p c) H H') : Tups H H' := fun b xs e => k b _ e fun n => by
  obtain ⟨_, ns, l, m, t, hp, hc, _⟩ := S
  rcases n with n | n
  · rw [n, hp] at e
    cases e
  · rw [n, hc] at e
    cases e
/-- t + u, in one way -/
def rCatU : R2 := fun x y H Q => ∃ a b xs ys, x = .ref a ∧ y = .ref b ∧ H a = some (.tup xs) ∧ H b = some (.tup ys) ∧ xs.length + ys.length ≤ sizeLine ∧ ∀ t H', Same H H' → H' t = some (.tup (xs ++ ys)) → Q (.ref t) H'
theorem op_catU {X : Cx} : OpR X (binaryOp .Add) rCatU := by
  rintro pins s σ H x y v u Q I rx ry ⟨a, b, xs, ys, rfl, rfl, ha, hb, hl, q⟩
  refine op_catA pins s σ H _ _ v u Q I rx ry ⟨a, b, xs, ys, rfl, rfl, SqT.of ha, SqT.of hb, hl, fun z => ?_, fun _ z => ?_, fun _ _ t n => q t _ (same_new n) upd_same⟩
  · exact q b H (Same.refl H) (by rw [z]; exact hb)
  · exact q a H (Same.refl H) (by rw [z, List.append_nil]; exact ha)
/-- t[lo:hi], in one way -/
def rSlU (K : PySem.W.Frag) : V → Option Int → Option Int → Hp → VK → Prop := fun x lo hi H Q => ∃ a xs, x = .ref a ∧ H a = some (.tup xs) ∧ ∀ t H', Same H H' → H' t = some (.tup (cutV xs lo hi)) → Q (.ref t) H'
theorem sl_tupU {X : Cx} : SlR X (rSlU X.K) := by
  intro pins s σ H x v vl vu lo hi sl Q I rx hs pl pu h
  obtain ⟨a, xs, rfl, hx, q⟩ := h
  refine sl_tupA pins s σ H _ v vl vu lo hi sl Q I rx hs pl pu ⟨a, xs, rfl, SqT.of hx, fun ⟨z1, z2⟩ => q a H (Same.refl H) ?_, fun _ t n => q t _ (same_new n) upd_same⟩
  unfold cutV
  rw [z1, z2, Nat.sub_zero, List.drop_zero, List.take_length]
  exact hx
/-! ### the choices, in their sequence -/
def stepOf (sz : Sizes) (k : Str) (row : List Int) : List (List Int) := (List.range ((sz.lookup k).getD 0).toNat).map fun i : Nat => row ++ [(i : Int)]
def rowsOf (sz : Sizes) (ws : List Str) : List (List Int) := ws.foldl (fun found k => found.flatMap (stepOf sz k)) [[]]
theorem rowsOf_snoc (sz : Sizes) (ws : List Str) (k : Str) : rowsOf sz (ws ++ [k]) = (rowsOf sz ws).flatMap (stepOf sz k) := by
  unfold rowsOf
  rw [List.foldl_append]
  rfl
theorem flat_get {α β : Type} {n : Nat} {f : α → Nat → β} : ∀ {l : List α} {j : Nat} {x : β}, (l.flatMap fun a => (List.range n).map (f a))[j]? = some x → ∃ q r a, j = q * n + r ∧ r < n ∧ l[q]? = some a ∧ x = f a r
  | [], j, x, h => by simp at h
  | a :: l, j, x, h => by
    rw [List.flatMap_cons] at h
    by_cases hj : j < n
    · rw [List.getElem?_append_left (by simpa using hj), List.getElem?_map, List.getElem?_range hj] at h
      exact ⟨0, j, a, by simp, hj, rfl, (Option.some.inj h).symm⟩
    · rw [List.getElem?_append_right (by simp; omega)] at h
      obtain ⟨q, r, b, h1, h2, h3, h4⟩ := flat_get h
      rw [List.length_map, List.length_range] at h1
      refine ⟨q + 1, r, b, ?_, h2, h3, h4⟩
      rw [Nat.add_mul, Nat.one_mul]
      omega
/-- what is to be known of the choices -/
structure RowsOk (sz : Sizes) (ws : List Str) : Prop where
  len : ∀ r ∈ rowsOf sz ws, r.length = ws.length
  many : ((rowsOf sz ws).length : Int) = choices sz ws
  at_ : ∀ (j : Nat) r, (rowsOf sz ws)[j]? = some r → placeOf sz (ws.zip r) = j
  low : ∀ r ∈ rowsOf sz ws, ∀ x ∈ ws.zip r, 0 ≤ x.2 ∧ x.2 < (sz.lookup x.1).getD 0
theorem rows_nil (sz : Sizes) : RowsOk sz [] := by
  refine ⟨fun r h => ?_, rfl, fun j r h => ?_, fun r h x hx => by simp at hx⟩
  · have e : r = [] := List.mem_singleton.mp h
    rw [e]
    rfl
  · have h' : ([[]] : List (List Int))[j]? = some r := h
    have : j = 0 := by
      have := (List.getElem?_eq_some_iff.mp h').1
      simp at this
      exact this
    subst this
    rfl
theorem rows_snoc {sz : Sizes} {ws : List Str} {k : Str} (h0 : 0 ≤ (sz.lookup k).getD 0) (ok : RowsOk sz ws) : RowsOk sz (ws ++ [k]) := by
  have mem : ∀ r ∈ rowsOf sz (ws ++ [k]), ∃ row ∈ rowsOf sz ws, ∃ i : Nat, (i : Int) < (sz.lookup k).getD 0 ∧ r = row ++ [(i : Int)] := fun r h => by
    rw [rowsOf_snoc] at h
    obtain ⟨row, hr, hm⟩ := List.mem_flatMap.mp h
    obtain ⟨i, hi, rfl⟩ := List.mem_map.mp hm
    exact ⟨row, hr, i, by have := List.mem_range.mp hi; omega, rfl⟩
  refine ⟨fun r h => ?_, ?_, fun j r h => ?_, fun r h x hx => ?_⟩
  · obtain ⟨row, hr, i, hi, rfl⟩ := mem r h
    rw [List.length_append, List.length_append, ok.len row hr]
    rfl
  · rw [rowsOf_snoc, List.length_flatMap]
    have e : (rowsOf sz ws).map (fun a => (stepOf sz k a).length) = (rowsOf sz ws).map fun _ => ((sz.lookup k).getD 0).toNat := List.map_congr_left fun a _ => by
      unfold stepOf
      rw [List.length_map, List.length_range]
    rw [e, List.map_const', List.sum_replicate_nat]
    unfold choices
    rw [List.foldl_append]
    show _ = choices sz ws * (sz.lookup k).getD 0
    rw [← ok.many, Int.natCast_mul, Int.toNat_of_nonneg h0]
  · rw [rowsOf_snoc] at h
    obtain ⟨q, i, row, rfl, hi, hrow, rfl⟩ := flat_get h
    have hl := ok.len row (List.mem_of_getElem? hrow)
    rw [List.zip_append hl.symm]
    unfold placeOf
    rw [List.foldl_append]
    show placeOf sz (ws.zip row) * (sz.lookup k).getD 0 + (i : Int) = _
    rw [ok.at_ q row hrow, Int.natCast_add, Int.natCast_mul, Int.toNat_of_nonneg h0]
  · obtain ⟨row, hr, i, hi, rfl⟩ := mem r h
    rw [List.zip_append (ok.len row hr).symm] at hx
    rcases List.mem_append.mp hx with hx | hx
    · exact ok.low row hr x hx
    · have e : x = (k, (i : Int)) := by simpa using hx
      rw [e]
      exact ⟨by show (0 : Int) ≤ (i : Int); omega, hi⟩
theorem rows_ok {sz : Sizes} {ws : List Str} (hl : ws.length = 1 ∨ ws.length = 2) (h0 : ∀ k ∈ ws, 0 ≤ (sz.lookup k).getD 0) : RowsOk sz ws := by
  rcases hl with h | h
  · obtain ⟨a, rfl⟩ := len1 h
    exact rows_snoc (ws := []) (h0 a (by simp)) (rows_nil sz)
  · obtain ⟨a, b, rfl⟩ := len2 h
    exact rows_snoc (ws := [a]) (h0 b (by simp)) (rows_snoc (ws := []) (h0 a (by simp)) (rows_nil sz))
/-- numbers, as a tuple -/
def IRow (H : Hp) (a : Addr) (ns : List Int) : Prop := H a = some (.tup (ns.map V.int))
abbrev IRows (H : Hp) (as : List Addr) (rs : List (List Int)) : Prop := Paired (IRow H) as rs
theorem IRows.tups {H H' : Hp} (k : Tups H H') : ∀ {as : List Addr} {rs : List (List Int)}, IRows H as rs → IRows H' as rs
  | _, _, .nil => .nil
  | _, _, .cons h t => .cons (k _ _ h) (IRows.tups k t)
theorem Paired.app {α β : Type} {R : α → β → Prop} : ∀ {as cs : List α} {bs ds : List β}, Paired R as bs → Paired R cs ds → Paired R (as ++ cs) (bs ++ ds)
  | _, _, _, _, .nil, h => h
  | _, _, _, _, .cons h t, g => .cons h (Paired.app t g)
/-- few tokens of each kind -/
def FewOf (sz : Sizes) (ws : List Str) : Prop := ∀ k ∈ ws, ∃ i, sz.lookup k = some i ∧ 1 ≤ i ∧ i ≤ 4
theorem choice_le {sz : Sizes} : ∀ {ws : List Str}, FewOf sz ws → ∀ n : Int, 1 ≤ n → 1 ≤ ws.foldl (fun n k => n * (sz.lookup k).getD 0) n ∧ ws.foldl (fun n k => n * (sz.lookup k).getD 0) n ≤ n * 4 ^ ws.length
  | [], _, n, h => ⟨h, by simp⟩
  | k :: ws, f, n, h => by
    obtain ⟨i, hi, i1, i4⟩ := f k (.head _)
    have n2 : 1 ≤ n * i := Int.le_trans (by decide : (1 : Int) ≤ 1 * 1) (Int.mul_le_mul h i1 (by decide) (by omega))
    obtain ⟨h1, h2⟩ := choice_le (ws := ws) (fun k hk => f k (.tail _ hk)) (n * i) n2
    rw [List.foldl_cons, hi]
    refine ⟨h1, Int.le_trans h2 ?_⟩
    rw [List.length_cons, Int.pow_succ]
    have : n * i ≤ n * 4 := Int.mul_le_mul_of_nonneg_left i4 (by omega)
    have := Int.mul_le_mul_of_nonneg_right this (Int.pow_nonneg (by decide : (0 : Int) ≤ 4) : (0 : Int) ≤ 4 ^ ws.length)
    rw [Int.mul_comm (4 ^ ws.length) 4, ← Int.mul_assoc]
    exact this
theorem choice_16 {sz : Sizes} {ws : List Str} (f : FewOf sz ws) (hl : ws.length = 1 ∨ ws.length = 2) : 1 ≤ choices sz ws ∧ choices sz ws ≤ 16 := by
  obtain ⟨h1, h2⟩ := choice_le f 1 (by decide)
  refine ⟨h1, Int.le_trans h2 ?_⟩
  rcases hl with h | h <;> rw [h] <;> decide
def spChoices : Sp := fun vs H Q _ => ∃ (o sd : Addr) (ws : List Str) (sz : Sizes), vs = [.ref o, .ref sd] ∧ H o = some (.tup (ws.map V.str)) ∧ H sd = some (.dK (szD sz)) ∧ (ws.length = 1 ∨ ws.length = 2) ∧ FewOf sz ws ∧
  ∀ L as H', Same H H' → H L = none → H' L = some (.lst (as.map V.ref)) → IRows H' as (rowsOf sz ws) → Q (.ref L) H'
theorem few_take {sz : Sizes} {ws : List Str} (f : FewOf sz ws) (i : Nat) : FewOf sz (ws.take i) := fun k hk => f k (List.mem_of_mem_take hk)
theorem rows_take {sz : Sizes} {ws : List Str} (f : FewOf sz ws) (hl : ws.length = 1 ∨ ws.length = 2) {i : Nat} : (rowsOf sz (ws.take i)).length ≤ 16 := by
  have f' := few_take f i
  have g0 : ∀ k ∈ ws.take i, 0 ≤ (sz.lookup k).getD 0 := fun k hk => by
    obtain ⟨n, e, n1, _⟩ := f' k hk
    rw [e]
    show (0 : Int) ≤ n
    omega
  have : (ws.take i).length = 0 ∨ (ws.take i).length = 1 ∨ (ws.take i).length = 2 := by
    rw [List.length_take]
    omega
  rcases this with h | h
  · rw [List.eq_nil_of_length_eq_zero h]
    show 1 ≤ 16
    decide
  · have := (rows_ok h g0).many
    have := (choice_16 f' h).2
    omega
abbrev nCh : List Str := ["kinds", "sizes", "found", "kind", "longer", "row", "number"]
section
variable {P : Program} {w : World} {K : PySem.W.Frag} {mg : Str → Option Value} {base : Heap}
theorem scCh : FnScope nCh ["kinds", "sizes"] (defScope sChoices) := ⟨rfl, rfl, rfl, by decide +kernel, rfl, by decide +kernel, by decide +kernel⟩
theorem ok_choices {f : Addr} {fd : FuncData} (F : Fun K "_law_choices" "_law_choices" sChoices f fd) (T : Txt mg) : FnOk P w K mg base CX0 1 f fd ["kinds", "sizes"] spChoices := by
  refine F.ok scCh (fun vs H Q E h => ?_) (fun cdv A outer s H vs Q E hr h => ?_)
  · obtain ⟨o, sd, ws, sz, rfl, _⟩ := h
    rfl
  · obtain ⟨o, sd, ws, sz, rfl, ho, hsd, hl, few, q⟩ := h
    have hu := hu_of hr
    refine ⟨_, pss_cons (ps_set (i := 2) scCh.nd rfl (.inl rfl) (pe_lst (pa_cons (pe_tup pa_nil) pa_nil)))
      (pss_cons (ps_for PassesOwn.never rfl (pi_tup (pv 0)) (pg_name (i := 3) scCh.nd rfl (.inl rfl))
        (pss_cons (ps_set (i := 4) scCh.nd rfl (.inl rfl) (pe_lst pa_nil))
        (pss_cons (ps_for PassesOwn.never rfl (pi_list (pv 2)) (pg_name (i := 5) scCh.nd rfl (.inr rfl))
          (pss_one (ps_set (i := 4) scCh.nd rfl (.inl rfl) (pe_op op_cat (pv 4) (pe_lc (own := [("number", 6)]) (g := gName 6) (tt := tYes) rfl scCh.nd (pi_range1 (by rfl) T.range (pa_cons (pe_dget hu (pv 1) (pv 3) (fun _ _ => rfl)) pa_nil))
            (blkOk_by (N := nCh) (sc := defScope sChoices) (by decide +kernel)) (fun _ _ _ _ _ => pg_name (i := 6) scCh.nd rfl (.inl rfl)) (fun _ _ _ _ _ => pts_nil)
            (fun _ _ _ _ _ => pe_op op_catU (pv 5) (pe_tup (pa_cons (pv 6) pa_nil))))))))
        (pss_one (ps_set (i := 2) scCh.nd rfl (.inl rfl) (pv 4))))))
      (pss_one (ps_ret (pv 2)))), ?_⟩
    refine ⟨by show 0 ≤ sizeLine; decide, fun t nt => ?_⟩
    obtain ⟨H1, z, s1, e1⟩ := fresh nt (.tup [])
    rw [z]
    clear z
    refine ⟨by show 1 ≤ sizeLine; decide, fun f0 nf0 => ?_⟩
    obtain ⟨H2, z, s2, e2⟩ := fresh nf0 (.lst [.ref t])
    rw [z]
    clear z
    have S2 := s1.trans s2
    have nfH : H f0 = none := s1.free nf0
    refine ⟨_, rfl, o, rfl, ⟨_, SqT.of (S2 _ _ ho)⟩, for_it (walk_tup (K := K) (a := o) (xs := ws.map V.str)) (fun i σ H3 => Same H H3 ∧ ∃ fa as v3 v4 v5, σ = [some (.ref o), some (.ref sd), some (.ref fa), v3, v4, v5, none] ∧ H fa = none ∧ H3 fa = some (.lst (as.map V.ref)) ∧ IRows H3 as (rowsOf sz (ws.take i)))
      ⟨S2, f0, [t], _, _, _, rfl, nfH, e2, .cons (s2 _ _ e1) .nil⟩ (fun i σ H3 _ ⟨sm, _⟩ => SqT.of (sm _ _ ho)) ?_ ?_⟩
    · rintro i x σ H3 H4 hi ⟨s3, fa, as, v3, v4, v5, rfl, nfa, efa, hrows⟩ ⟨rfl, hx⟩
      rw [List.getElem?_map] at hx
      obtain ⟨k, hk, rfl⟩ := Option.map_eq_some_iff.mp hx
      obtain ⟨m, hm, m1, m4⟩ := few k (List.mem_of_getElem? hk)
      have spl : as.length = (rowsOf sz (ws.take i)).length := Paired.length hrows
      have n16 := rows_take few hl (i := i)
      have n16' := rows_take few hl (i := i + 1)
      have es : ws.take (i + 1) = ws.take i ++ [k] := by rw [List.take_add_one, hk]; rfl
      have em : (sz.lookup k).getD 0 = m := by rw [hm]; rfl
      refine ⟨by show 0 ≤ sizeLine; decide, fun g0 ng0 => ?_⟩
      obtain ⟨H5, z, s5, e5⟩ := fresh ng0 (.lst [])
      rw [z]
      clear z
      have S5 := s3.trans s5
      refine ⟨_, rfl, fa, rfl, ⟨_, SqL.of (s5 _ _ efa)⟩, for_it (walk_list (K := K) (a := fa) (xs := as.map V.ref)) (fun j σ H6 => Same H5 H6 ∧ ∃ ga bs v5, σ = [some (.ref o), some (.ref sd), some (.ref fa), some (.str k), some (.ref ga), v5, none] ∧ H ga = none ∧ H6 ga = some (.lst (bs.map V.ref)) ∧ IRows H6 bs (((rowsOf sz (ws.take i)).take j).flatMap (stepOf sz k)))
        ⟨Same.refl _, g0, [], _, rfl, s3.free ng0, e5, .nil⟩ (fun j σ H6 _ ⟨sm, _⟩ => SqL.of (sm _ _ (s5 _ _ efa))) ?_ ?_⟩
      · rintro j x σ H6 H7 hj ⟨s6, ga, bs, v5, rfl, nga, ega, hbs⟩ ⟨rfl, hx⟩
        rw [List.getElem?_map] at hx
        obtain ⟨ra, hra, rfl⟩ := Option.map_eq_some_iff.mp hx
        have S6 := S5.trans s6
        obtain ⟨row, er, hrow⟩ := Paired.at (hrows.tups (Tups.of (s5.trans s6))) hra
        have hlen : row.length ≤ 2 := by
          have g0' : ∀ k ∈ ws.take i, 0 ≤ (sz.lookup k).getD 0 := fun k hk => by
            obtain ⟨n, e, n1, _⟩ := few_take few i k hk
            rw [e]
            show (0 : Int) ≤ n
            omega
          have lt : (ws.take i).length = 0 ∨ (ws.take i).length = 1 ∨ (ws.take i).length = 2 := by
            rw [List.length_take]
            omega
          rcases lt with h | h
          · have e0 : ws.take i = [] := List.eq_nil_of_length_eq_zero h
            rw [e0] at er
            have := List.mem_of_getElem? er
            have e : row = [] := List.mem_singleton.mp this
            rw [e]
            decide
          · have := (rows_ok h g0').len row (List.mem_of_getElem? er)
            omega
        have gt : DGet H7 sd (.str k) (some (.int m)) := sz_some hm ▸ DGet.k (k := Sum.inr k) (S6 _ _ hsd)
        have bl : bs.length ≤ 16 := by
          have e1 := Paired.length hbs
          have e2 : (((rowsOf sz (ws.take i)).take j).flatMap (stepOf sz k)).length ≤ ((rowsOf sz (ws.take i)).flatMap (stepOf sz k)).length := by
            conv => rhs; rw [← List.take_append_drop j (rowsOf sz (ws.take i)), List.flatMap_append, List.length_append]
            omega
          rw [es, rowsOf_snoc] at n16'
          omega
        refine ⟨_, rfl, _, rfl, _, rfl, sd, .int m, rfl, gt, m, rfl, by omega, by omega, fun D nD => lc_range (lo := 0) (fun r H8 => Same H7 H8 ∧ ∃ cs, H8 D = some (.lst (cs.map V.ref)) ∧ IRows H8 cs ((List.range r).map fun i : Nat => row ++ [(i : Int)])) ⟨same_new nD, [], upd_same, .nil⟩ ?_ ?_⟩
        · rintro r H8 hr' ⟨s8, cs, eD, hcs⟩
          have cl : cs.length = r := by
            have := Paired.length hcs
            rwa [List.length_map, List.length_range] at this
          refine ⟨rfl, _, rfl, _, rfl, by show 1 ≤ sizeLine; decide, fun u nu => ?_⟩
          obtain ⟨H9, z, s9, e9⟩ := fresh nu (.tup [.int (0 + (r : Int))])
          erw [z]
          clear z
          have r8 : H8 ra = some (.tup (row.map V.int)) := s8 _ _ hrow
          refine ⟨ra, u, _, _, rfl, rfl, s9 _ _ r8, e9, ?_, fun t' H10 s10 et' => ⟨_, s10 _ _ (s9 _ _ eD), ?_, fun b ob e => ?_, cs ++ [t'], ?_, ?_⟩⟩
          · rw [List.length_map]
            exact Nat.le_trans (Nat.add_le_add hlen (Nat.le_refl 1)) (by decide)
          · rw [List.length_map, cl]
            exact small1000 (by omega)
          · rw [upd_ne (ne_of_none e nD)]
            exact s10 _ _ (s9 _ _ (s8 b ob e))
          · rw [upd_same, List.map_append]
            rfl
          · have tp : Tups H10 (upd H10 D (.lst (cs.map V.ref ++ [.ref t']))) := Tups.lock (s10 _ _ (s9 _ _ eD)) fun _ z => nomatch z
            rw [List.range_succ, List.map_append]
            refine Paired.snoc ((hcs.tups (Tups.of (s9.trans s10))).tups tp) (tp _ _ ?_)
            rw [et', List.map_append, Int.zero_add]
            rfl
        · rintro H8 ⟨s8, cs, eD, hcs⟩
          have cl : cs.length ≤ 4 := by
            have := Paired.length hcs
            rw [List.length_map, List.length_range] at this
            omega
          refine ⟨ga, D, _, _, rfl, rfl, s8 _ _ ega, eD, ?_, fun p' np' => ?_⟩
          · rw [List.length_map, List.length_map]
            exact Nat.le_trans (Nat.add_le_add bl cl) (by decide)
          · obtain ⟨H9, z, s9, e9⟩ := fresh np' (.lst (bs.map V.ref ++ cs.map V.ref))
            rw [z]
            clear z
            refine ⟨s6.trans (s8.trans s9), p', bs ++ cs, _, rfl, S6.free (s8.free np'), by rw [e9, List.map_append], ?_⟩
            rw [List.take_add_one, er, List.flatMap_append]
            have e1 : ([row] : List (List Int)).flatMap (stepOf sz k) = (List.range m.toNat).map fun i : Nat => row ++ [(i : Int)] := by
              show stepOf sz k row ++ [] = _
              rw [List.append_nil]
              unfold stepOf
              rw [em]
            show IRows H9 (bs ++ cs) (_ ++ ([row] : List (List Int)).flatMap (stepOf sz k))
            rw [e1]
            exact Paired.app (hbs.tups (Tups.of (s8.trans s9))) (hcs.tups (Tups.of s9))
      · rintro σ H6 ⟨s6, ga, bs, v5, rfl, nga, ega, hbs⟩
        rw [List.length_map, spl, List.take_length, ← rowsOf_snoc, ← es] at hbs
        exact ⟨_, rfl, S5.trans s6, ga, bs, _, _, _, rfl, nga, ega, hbs⟩
    · rintro σ H3 ⟨s3, fa, as, v3, v4, v5, rfl, nfa, efa, hrows⟩
      rw [List.length_map, List.take_length] at hrows
      exact ⟨_, rfl, q fa as H3 s3 nfa efa hrows⟩
end
end K12
/-! K12, 16: what was drawn; its rows; a refusal -/
namespace K12
open PySem PySem.Spec PyProof.Rows L2 Ver
/-- a primitive and its variants, as drawn -/
def GPair (N : Addr → Prop) (H : Hp) (a : Addr) (p : Str × List Row) : Prop := ∃ l as, H a = some (.tup [.str p.1, .ref l]) ∧ H l = some (.lst (as.map V.ref)) ∧ RowsAt H as p.2 ∧ ¬ N l
abbrev GPairs (N : Addr → Prop) (H : Hp) (as : List Addr) (ps : Prims) : Prop := Paired (GPair N H) as ps
theorem GPairs.keep {N : Addr → Prop} {H H' : Hp} (k : Keep N H H') (t : Tups H H') : ∀ {as : List Addr} {ps : Prims}, GPairs N H as ps → GPairs N H' as ps
  | _, _, .nil => .nil
  | _, _, .cons ⟨l, as, h1, h2, h3, h4⟩ r => .cons ⟨l, as, t _ _ h1, k _ _ h2 h4, h3.tups t, h4⟩ (GPairs.keep k t r)
abbrev grD (l f g : Addr) : List (Key × V) := [(Sum.inr "kinds", .ref l), (Sum.inr "primitives", .ref f), (Sum.inr "made", .ref g)]
/-- what the law drew of a signature stands at gr -/
structure GroundAt (N : Addr → Prop) (H : Hp) (C gr : Addr) (ks : List Str) (ps : Prims) : Prop where
  ex : ∃ l f g as, H gr = some (.dK (grD l f g)) ∧ H l = some (.lst (ks.map V.str)) ∧ H f = some (.lst (as.map V.ref)) ∧ GPairs N H as ps ∧ SigAt N H C g ks ps ∧ ¬ N gr ∧ ¬ N l ∧ ¬ N f
theorem GroundAt.keep {N : Addr → Prop} {H H' : Hp} {C gr : Addr} {ks : List Str} {ps : Prims} (k : Keep N H H') (t : Tups H H') : GroundAt N H C gr ks ps → GroundAt N H' C gr ks ps
  | ⟨l, f, g, as, h1, h2, h3, h4, h5, n1, n2, n3⟩ => ⟨l, f, g, as, k _ _ h1 n1, k _ _ h2 n2, k _ _ h3 n3, h4.keep k t, h5.keep k t, n1, n2, n3⟩
def spRowsOfV (C : Addr) : Sp := fun vs H Q _ => ∃ (N : Addr → Prop) (gr : Addr) (ks : List Str) (ps : Prims), vs = [.ref gr] ∧ GroundAt N H C gr ks ps ∧ (ownersOf ps).length ≤ 900 ∧
  ∀ L as H', Same H H' → H L = none → H' L = some (.lst (as.map V.ref)) → RowsAt H' as (ps.flatMap Prod.snd) → Q (.ref L) H'
def spRefusal (CB C : Addr) : Sp := fun vs H Q _ => ∃ (N : Addr → Prop) (b : Addr) (ks : List Str) (ps : Prims) (sz : Sizes) (tb : List (Str × List V)) (nv gv : V) (nd gd : PyData), vs = [.ref b, nv, gv] ∧ BookAt N H CB C b ks ps sz tb ∧ SizesOk ks sz ∧ PrimsOk ks ps ∧ TabsOk ps sz tb ∧
  Da N H nv nd ∧ TellOk nd ∧ Da N H gv gd ∧ ShortV gd ∧ (∀ row, named ps nd = some row → okVals sz row.2.1 gd = none) ∧
  ∀ L H', Same H H' → H L = none → H' L = some (.lst [.str (match named ps nd with | none => "unknown" | some _ => "variant"), nv]) → Q (.ref L) H'
theorem flat_len (ps : Prims) : (ps.flatMap Prod.snd).length = (ownersOf ps).length := by
  unfold ownersOf
  rw [List.length_flatMap, List.length_flatMap]
  refine congrArg List.sum (List.map_congr_left fun p _ => ?_)
  rw [List.length_map]
theorem flat_take {ps : Prims} {i : Nat} {p : Str × List Row} (e : ps[i]? = some p) : (ps.take (i + 1)).flatMap Prod.snd = (ps.take i).flatMap Prod.snd ++ p.2 := by
  rw [List.take_add_one, e, List.flatMap_append]
  simp
theorem flat_le (ps : Prims) (i : Nat) : ((ps.take i).flatMap Prod.snd).length ≤ (ps.flatMap Prod.snd).length := by
  conv => rhs; rw [← List.take_append_drop i ps, List.flatMap_append, List.length_append]
  omega
section
variable {P : Program} {w : World} {K : PySem.W.Frag} {mg : Str → Option Value} {base : Heap} {CB C CU CV : Addr}
theorem scRv : FnScope ["ground", "found", "name", "rows"] ["ground"] (defScope sRows) := ⟨rfl, rfl, rfl, by decide +kernel, rfl, by decide +kernel, by decide +kernel⟩
theorem ok_rowsOfV {f : Addr} {fd : FuncData} (F : Fun K "_law_rows_of_variants" "_law_rows_of_variants" sRows f fd) : FnOk P w K mg base CX0 1 f fd ["ground"] (spRowsOfV C) := by
  refine F.ok scRv (fun vs H Q E h => ?_) (fun cdv A outer s H vs Q E hr h => ?_)
  · obtain ⟨N, gr, ks, ps, rfl, _⟩ := h
    rfl
  · obtain ⟨N, gr, ks, ps, rfl, ⟨l, fa, g, as, h1, h2, h3, h4, h5, n1, n2, n3⟩, few, q⟩ := h
    have hu := hu_of hr
    refine ⟨_, pss_cons (ps_set (i := 1) scRv.nd rfl (.inl rfl) (pe_lst pa_nil))
      (pss_cons (ps_for PassesOwn.never rfl (pi_list (pe_dget hu (pv 0) pe_str (fun _ _ => rfl))) (pg_tup (by rfl) (pgs_cons (pg_name (i := 2) scRv.nd rfl (.inl rfl)) (pgs_cons (pg_name (i := 3) scRv.nd rfl (.inl rfl)) pgs_nil)))
        (pss_one (ps_set (i := 1) scRv.nd rfl (.inl rfl) (pe_op op_cat (pv 1) (pv 3)))))
      (pss_one (ps_ret (pv 1)))), ?_⟩
    refine ⟨by show 0 ≤ sizeLine; decide, fun g0 ng0 => ?_⟩
    obtain ⟨H1, z, s1, e1⟩ := fresh ng0 (.lst [])
    rw [z]
    clear z
    have gt : DGet H1 gr (.str "primitives") (some (.ref fa)) := DGet.k (k := Sum.inr "primitives") (s1 _ _ h1)
    have spl : as.length = ps.length := Paired.length h4
    have fl := flat_len ps
    refine ⟨_, rfl, gr, .ref fa, rfl, gt, fa, rfl, ⟨_, SqL.of (s1 _ _ h3)⟩, for_it (walk_list (K := K) (a := fa) (xs := as.map V.ref)) (fun i σ H2 => Same H H2 ∧ ∃ ga bs v2 v3, σ = [some (.ref gr), some (.ref ga), v2, v3] ∧ H ga = none ∧ H2 ga = some (.lst (bs.map V.ref)) ∧ RowsAt H2 bs ((ps.take i).flatMap Prod.snd))
      ⟨s1, g0, [], _, _, rfl, ng0, e1, .nil⟩ (fun i σ H2 _ ⟨sm, _⟩ => SqL.of (sm _ _ h3)) ?_ ?_⟩
    · rintro i x σ H2 H3 hi ⟨s2, ga, bs, v2, v3, rfl, nga, ega, hbs⟩ ⟨rfl, hx⟩
      rw [List.getElem?_map] at hx
      obtain ⟨ra, hra, rfl⟩ := Option.map_eq_some_iff.mp hx
      obtain ⟨p, ep, l', as', t1, t2, t3, _⟩ := Paired.at h4 hra
      have bl := Paired.length hbs
      have al := Paired.length t3
      have le1 := flat_le ps (i + 1)
      rw [flat_take ep, List.length_append] at le1
      refine ⟨ra, _, rfl, SqT.of (s2 _ _ t1), rfl, _, _, rfl, _, _, rfl, rfl, _, rfl, _, rfl, ga, l', _, _, rfl, rfl, ega, s2 _ _ t2, ?_, fun p' np' => ?_⟩
      · rw [List.length_map, List.length_map]
        exact Nat.le_trans (by omega : _ ≤ 900) (by decide)
      · obtain ⟨H4, z, s4, e4⟩ := fresh np' (.lst (bs.map V.ref ++ as'.map V.ref))
        rw [z]
        clear z
        refine ⟨s2.trans s4, p', bs ++ as', _, _, rfl, s2.free np', by rw [e4, List.map_append], ?_⟩
        rw [flat_take ep]
        exact Paired.app (hbs.tups (Tups.of s4)) (t3.tups (Tups.of (s2.trans s4)))
    · rintro σ H2 ⟨s2, ga, bs, v2, v3, rfl, nga, ega, hbs⟩
      rw [List.length_map, spl, List.take_length] at hbs
      exact ⟨_, rfl, q ga bs H2 s2 nga ega hbs⟩
theorem scRf : FnScope ["book", "name", "given", "error"] ["book", "name", "given"] (defScope sRefusal) := ⟨rfl, rfl, rfl, by decide +kernel, rfl, by decide +kernel, by decide +kernel⟩
theorem ok_refusal {f fA : Addr} {fd qA : FuncData} (F : Fun K "_law_refusal" "_law_refusal" sRefusal f fd) (GA : FnOk P w K mg base (L2.CX P w) 5 fA qA ["book", "name", "values"] (spApply CB C CU CV)) (DA : Def K mg "apply" fA) (bA : Binds K qA ["book", "name", "values"] [])
    (gU : mg "UnknownName" = some (.ref CU)) (gV : mg "BadVariant" = some (.ref CV)) (xU : XfC K CU) (xV : XfC K CV) (nU : PySem.W.findIn K (.ref CU) "name" = some none) (nV : PySem.W.findIn K (.ref CV) "name" = some none)
    (eUU : PySem.W.exmOne K (.ref CU) (.ref CU) = some true) (eVU : PySem.W.exmOne K (.ref CV) (.ref CU) = some false) (eVV : PySem.W.exmOne K (.ref CV) (.ref CV) = some true) :
    FnOk P w K mg base CX0 6 f fd ["book", "name", "given"] (spRefusal CB C) := by
  refine F.ok scRf (fun vs H Q E h => ?_) (fun cdv A outer s H vs Q E hr h => ?_)
  · obtain ⟨N, b, ks, ps, sz, tb, nv, gv, nd, gd, rfl, _⟩ := h
    rfl
  · obtain ⟨N, b, ks, ps, sz, tb, nv, gv, nd, gd, rfl, bk, okS, okP, okT, hn, hnt, hg, hgs, bad, q⟩ := h
    refine ⟨_, pss_cons (ps_try_clauses rfl rfl scRf.nd takes0 (fun W pn xe tk _ => pss_one (ps_expr (pe_callS GA hr rfl DA.gl DA.kp bA (fun σ => passAt tk σ) (pa_cons (pv 0) (pa_cons (pv 1) (pa_cons (pv 2) pa_nil))))))
        (.cons (k := ⟨.ref CU, 3, _⟩) ⟨rfl, by decide, .inl gU⟩ rfl rfl (fun a oe cls d pn hz hf => pss_one (ps_ret (pe_lst (pa_cons pe_str (pa_cons (pe_xf xU nU hz hf (pv 3)) pa_nil)))))
        (.cons (k := ⟨.ref CV, 3, _⟩) ⟨rfl, by decide, .inl gV⟩ rfl rfl (fun a oe cls d pn hz hf => pss_one (ps_ret (pe_lst (pa_cons pe_str (pa_cons (pe_xf xV nV hz hf (pv 3)) pa_nil))))) .nil)))
      (pss_one (ps_ret pe_non)), ?_⟩
    refine ⟨_, rfl, _, rfl, _, rfl, N, b, ks, ps, sz, tb, nv, gv, nd, gd, rfl, bk, okS, okP, okT, hn, hnt, hg, hgs, ?_⟩
    cases en : named ps nd with
    | none =>
      rw [en] at q
      intro d nd'
      refine ⟨true, eUU, fun _ a na => ?_, (fun z => by cases z)⟩
      refine ⟨_, rfl, rfl, rfl, d, _, nv, rfl, upd_same, rfl, by show 2 ≤ sizeLine; decide, fun L nL => ?_⟩
      have sm : Same H (upd H d (.xd [("name", nv)])) := same_new nd'
      exact q L _ (sm.trans (same_new nL)) (sm.free nL) upd_same
    | some row =>
      rw [en] at q
      have eb := bad row en
      simp only [eb]
      intro H' s' d nd'
      refine ⟨false, eVU, (fun z => by cases z), fun _ => ⟨true, eVV, fun _ a na => ?_, (fun z => by cases z)⟩⟩
      refine ⟨_, rfl, rfl, rfl, d, _, nv, rfl, upd_same, rfl, by show 2 ≤ sizeLine; decide, fun L nL => ?_⟩
      have sm : Same H (upd H' d (.xd [("name", nv)])) := s'.trans (same_new nd')
      exact q L _ (sm.trans (same_new nL)) (sm.free nL) upd_same
end
end K12
/-! K12, 17: what the law's signatures are drawn of -/
namespace K12
open PySem PySem.Spec PyProof.Rows L2 Ver
/-- the state of the draws behind, from H0 on -/
structure Dr (p c : Addr) (H0 H : Hp) : Prop where
  k : Keep (Off p c) H0 H
  s : Src p c H
theorem Dr.refl {p c : Addr} {H : Hp} (S : Src p c H) : Dr p c H H := ⟨Keep.refl, S⟩
theorem Src.at {p c : Addr} {H : Hp} (S : Src p c H) {a : Addr} {o : HO} (n : ¬ Off p c a) : Src p c (upd H a o) := by
  obtain ⟨n0, ns, l, m, t, hp, hc, hl⟩ := S
  exact ⟨n0, ns, l, m, t, by rw [upd_ne fun z => n (.inl z.symm)]; exact hp, by rw [upd_ne fun z => n (.inr z.symm)]; exact hc, hl⟩
theorem Dr.none {p c : Addr} {H0 H : Hp} (d : Dr p c H0 H) {a : Addr} (h : H a = none) : H0 a = none := by
  cases e : H0 a with
  | none => rfl
  | some o =>
    rw [d.k a o e (d.s.off h)] at h
    cases h
theorem Dr.same {p c : Addr} {H0 H H' : Hp} (d : Dr p c H0 H) (s : Same H H') : Dr p c H0 H' := ⟨d.k.trans (Same.keep s), d.s.same s⟩
theorem Dr.trans {p c : Addr} {H0 H H' : Hp} (d : Dr p c H0 H) (e : Dr p c H H') : Dr p c H0 H' := ⟨d.k.trans e.k, e.s⟩
/-- a change at what is newer than H0 -/
theorem Dr.at {p c : Addr} {H0 H : Hp} (d : Dr p c H0 H) {a : Addr} {o : HO} (h0 : H0 a = .none) (n : ¬ Off p c a) : Dr p c H0 (upd H a o) := ⟨fun b x e nb => by
  rw [upd_ne (ne_of_none e h0)]
  exact d.k b x e nb, d.s.at n⟩
theorem Keep.mono {N N' : Addr → Prop} {H H' : Hp} (h : ∀ a, N a → N' a) (k : Keep N H H') : Keep N' H H' := fun b o e n => k b o e fun z => n (h b z)
abbrev Or1 (N : Addr → Prop) (x : Addr) : Addr → Prop := fun a => N a ∨ a = x
theorem GPairs.wide {N : Addr → Prop} {H : Hp} {x : Addr} (n : H x = none) : ∀ {as : List Addr} {ps : Prims}, GPairs N H as ps → GPairs (Or1 N x) H as ps
  | _, _, .nil => .nil
  | _, _, .cons ⟨l, as, h1, h2, h3, h4⟩ r => .cons ⟨l, as, h1, h2, h3, fun z => z.elim h4 (ne_of_none h2 n)⟩ (GPairs.wide n r)
theorem GPairs.narrow {N N' : Addr → Prop} {H : Hp} (h : ∀ a, N' a → N a) : ∀ {as : List Addr} {ps : Prims}, GPairs N H as ps → GPairs N' H as ps
  | _, _, .nil => .nil
  | _, _, .cons ⟨l, as, h1, h2, h3, h4⟩ r => .cons ⟨l, as, h1, h2, h3, fun z => h4 (h l z)⟩ (GPairs.narrow h r)
/-! ### names of variants, as drawn -/
def vaw : List Str := ["v", "a", "w"]
def base3 : List Str := ["p", "a", "add"]
def kin3 : List Str := ["k", "num", "a"]
def nmV (x : Str) (j : Nat) : Str := x ++ Str.ofString (toString (j : Int))
theorem nm_all : (vaw.all fun x => vaw.all fun y => (List.range 9).all fun i => (List.range 9).all fun j => (!(nmV x i == nmV y j) || i == j)) = true := by decide +kernel
theorem nm_word : (vaw.all fun x => (List.range 9).all fun i => wordS (nmV x i) && decide ((nmV x i).length ≤ 1000)) = true := by decide +kernel
theorem nm_inj {x y : Str} {i j : Nat} (hx : x ∈ vaw) (hy : y ∈ vaw) (hi : i < 9) (hj : j < 9) (e : nmV x i = nmV y j) : i = j := by
  have h1 := List.all_eq_true.mp nm_all x hx
  have h2 := List.all_eq_true.mp h1 y hy
  have h3 := List.all_eq_true.mp h2 i (List.mem_range.mpr hi)
  have h4 := List.all_eq_true.mp h3 j (List.mem_range.mpr hj)
  rw [e, beq_self_eq_true] at h4
  simpa using h4
/-- the names, one by one -/
def NamesOk (l : List Str) : Prop := ∀ (j : Nat) y, l[j]? = some y → ∃ x ∈ vaw, y = nmV x j
theorem NamesOk.nil : NamesOk [] := fun j y h => by simp at h
theorem NamesOk.snoc {l : List Str} {x : Str} (h : NamesOk l) (hx : x ∈ vaw) : NamesOk (l ++ [nmV x l.length]) := fun j y e => by
  by_cases hj : j < l.length
  · rw [List.getElem?_append_left hj] at e
    exact h j y e
  · rw [List.getElem?_append_right (by omega)] at e
    have : j - l.length = 0 := by
      have := (List.getElem?_eq_some_iff.mp e).1
      simp at this
      omega
    rw [this] at e
    have e' : y = nmV x l.length := by simpa using e.symm
    exact ⟨x, hx, by rw [e', show j = l.length by omega]⟩
theorem NamesOk.nod {l : List Str} (h : NamesOk l) (h9 : l.length ≤ 9) : l.Nodup := by
  refine List.pairwise_iff_getElem.mpr fun i j hi hj hij e => ?_
  obtain ⟨x, hx, e1⟩ := h i _ (List.getElem?_eq_getElem hi)
  obtain ⟨y, hy, e2⟩ := h j _ (List.getElem?_eq_getElem hj)
  have := nm_inj hx hy (by omega) (by omega) (e1.symm.trans (e.trans e2))
  omega
theorem NamesOk.word {l : List Str} (h : NamesOk l) (h9 : l.length ≤ 9) : ∀ y ∈ l, wordS y = true ∧ y.length ≤ 1000 := fun y hy => by
  obtain ⟨j, hj, e⟩ := List.getElem_of_mem hy
  obtain ⟨x, hx, e1⟩ := h j y (by rw [List.getElem?_eq_getElem hj, e])
  have h2 := List.all_eq_true.mp nm_word x hx
  have h3 := List.all_eq_true.mp h2 j (List.mem_range.mpr (by omega))
  rw [Bool.and_eq_true, decide_eq_true_eq] at h3
  rw [e1]
  exact h3
/-- a row, as drawn -/
def RowOk (ks : List Str) (r : Row) : Prop := (r.2.1.length = 1 ∨ r.2.1.length = 2) ∧ (∀ w ∈ r.2.1, w ∈ ks) ∧ (r.2.2 = "bit" ∨ r.2.2 ∈ ks)
structure RowsIn (ks : List Str) (rows : List Row) : Prop where
  own : ∀ r ∈ rows, RowOk ks r
  nod : (rows.map fun r => r.2.1).Nodup
  few : rows.length ≤ 3
/-- primitives, as drawn: the first i -/
structure Drawn (ks : List Str) (ps : Prims) (i : Nat) : Prop where
  names : ps.map Prod.fst = base3.take i
  vn : NamesOk ((ownersOf ps).map Prod.fst)
  few : (ownersOf ps).length ≤ 3 * i
  rows : ∀ p ∈ ps, RowsIn ks p.2
theorem Drawn.nil (ks : List Str) : Drawn ks [] 0 := ⟨rfl, .nil, by decide, fun p h => by cases h⟩
theorem owners_snoc (ps : Prims) (p : Str × List Row) : ownersOf (ps ++ [p]) = ownersOf ps ++ p.2.map fun r => (r.1, (p.1, r.2.1, r.2.2)) := by
  unfold ownersOf
  rw [List.flatMap_append]
  simp
theorem Drawn.snoc {ks : List Str} {ps : Prims} {i : Nat} {x : Str} {rows : List Row} (d : Drawn ks ps i) (hx : base3[i]? = some x) (r : RowsIn ks rows) (h : NamesOk ((ownersOf ps).map Prod.fst ++ rows.map (·.1))) : Drawn ks (ps ++ [(x, rows)]) (i + 1) := by
  refine ⟨?_, ?_, ?_, fun p hp => ?_⟩
  · rw [List.map_append, d.names, List.take_add_one, hx]
    rfl
  · rw [owners_snoc, List.map_append, List.map_map]
    exact h
  · rw [owners_snoc, List.length_append, List.length_map]
    have := d.few
    have := r.few
    show _ + rows.length ≤ _
    omega
  · rcases List.mem_append.mp hp with hp | hp
    · exact d.rows p hp
    · cases List.mem_singleton.mp hp
      exact r
theorem Drawn.ok {ks : List Str} {ps : Prims} {i : Nat} (d : Drawn ks ps i) (hi : i ≤ 3) : PrimsOk ks ps := by
  have few := d.few
  have lv : ((ownersOf ps).map Prod.fst).length ≤ 9 := by
    rw [List.length_map]
    omega
  have b3 : base3.Nodup ∧ ∀ x ∈ base3, wordS x = true ∧ x.length ≤ 1000 := by decide +kernel
  have sub : ∀ x ∈ base3.take i, x ∈ base3 := fun x h => List.mem_of_mem_take h
  have lp : ps.length ≤ 3 := by
    have := congrArg List.length d.names
    rw [List.length_map, List.length_take] at this
    have : base3.length = 3 := rfl
    omega
  refine ⟨?_, fun p hp => ?_, d.vn.nod lv, fun p hp r hr => ?_, fun p hp r hr => (d.rows p hp).own r hr, fun p hp => (d.rows p hp).nod, by omega, by omega⟩
  · rw [d.names]
    exact b3.1.sublist (List.take_sublist _ _)
  · exact b3.2 _ (sub _ (by rw [← d.names]; exact List.mem_map.mpr ⟨p, hp, rfl⟩))
  · refine d.vn.word lv _ (List.mem_map.mpr ⟨(r.1, (p.1, r.2.1, r.2.2)), List.mem_flatMap.mpr ⟨p, hp, List.mem_map.mpr ⟨r, hr, rfl⟩⟩, rfl⟩)
theorem kinds_all : ∀ r < 3, (∀ k ∈ kin3.take (1 + r), kindD (.str k) = true ∧ k.length ≤ 1000) ∧ (kin3.take (1 + r)).Nodup := by decide +kernel
theorem kinds_ok {r : Nat} (h : r < 3) : KindsOk (kin3.take (1 + r)) := ⟨fun k hk => ((kinds_all r h).1 k hk).1, fun k hk => ((kinds_all r h).1 k hk).2, (kinds_all r h).2, by rw [List.length_take]; omega⟩
theorem kinds_rev {ks : List Str} (h : KindsOk ks) : KindsOk ks.reverse := ⟨fun k hk => h.word k (List.mem_reverse.mp hk), fun k hk => h.short k (List.mem_reverse.mp hk), List.pairwise_reverse.mpr (h.nod.imp fun z => z.symm), by rw [List.length_reverse]; exact h.few⟩
/-! ### dict(pairs) -/
theorem merge_nod : ∀ {kvs acc : List (Key × V)}, ((acc ++ kvs).map (·.1)).Nodup → mergeK acc kvs = acc ++ kvs
  | [], acc, _ => (List.append_nil _).symm
  | kv :: kvs, acc, h => by
    have e : acc ++ kv :: kvs = (acc ++ [kv]) ++ kvs := by simp
    rw [e] at h
    have nk : valV acc kv.1 = none := by
      cases ev : valV acc kv.1 with
      | none => rfl
      | some v =>
        have m := valV_in ev
        rw [List.map_append, List.map_append] at h
        have := (List.nodup_append.mp (List.nodup_append.mp h).1).2.2
        exact absurd rfl (this _ m _ (by simp))
    show mergeK (putK acc kv.1 kv.2) kvs = _
    rw [putK_new _ nk, e]
    exact merge_nod h
theorem pairs_dict {N : Addr → Prop} {K : PySem.W.Frag} {H : Hp} : ∀ {as : List Addr} {ps : Prims}, GPairs N H as ps → ∃ kvs, Paired (fun p kv => SqT K H p [kV kv.1, kv.2]) as kvs ∧ PEnts H kvs ps
  | _, _, .nil => ⟨[], .nil, .nil⟩
  | a :: as, p :: ps, .cons ⟨l, xs, h1, h2, h3, h4⟩ r => by
    obtain ⟨kvs, g1, g2⟩ := pairs_dict r
    exact ⟨(Sum.inr p.1, .ref l) :: kvs, .cons (SqT.of h1) g1, .cons ⟨rfl, l, xs, rfl, h2, h3⟩ g2⟩
end K12
/-! K12, 18: the law's signature, drawn -/
namespace K12
open PySem PySem.Spec PyProof.Rows L2 Ver
abbrev nSg : List Str := ["source", "kinds", "found", "many", "name", "rows", "turn", "own", "k", "row"]
def spLSig (C : Addr) : Sp := fun vs H Q _ => ∃ (p c : Addr), vs = [.ref p] ∧ Src p c H ∧
  ∀ gr ks ps i H', KindsOk ks → ("zz" : Str) ∉ ks → i ≤ 3 → Drawn ks ps i → GroundAt (Off p c) H' C gr ks ps → Dr p c H H' → ¬ Off p c gr → Q (.ref gr) H'
theorem cut_strs {l : List Str} {r : Int} (h : 0 ≤ r) (hl : 1 + r.toNat ≤ l.length) : cutV (l.map V.str) none (some (1 + r)) = (l.take (1 + r.toNat)).map V.str := by
  have e : (1 + r : Int) = ((1 + r.toNat : Nat) : Int) := by omega
  rw [e, cut_take (by rw [List.length_map]; exact hl), List.map_take]
theorem str_in {l : List Str} {v : V} (h : v ∈ l.map V.str) : ∃ x ∈ l, v = .str x := by
  obtain ⟨x, hx, e⟩ := List.mem_map.mp h
  exact ⟨x, hx, e.symm⟩
theorem Paired.imp {α β : Type} {R S : α → β → Prop} (h : ∀ a b, R a b → S a b) : ∀ {as : List α} {bs : List β}, Paired R as bs → Paired S as bs
  | _, _, .nil => .nil
  | _, _, .cons g t => .cons (h _ _ g) (Paired.imp h t)
theorem dps_rows {K : PySem.W.Frag} {H : Hp} : ∀ {os : List Addr} {rows : List Row}, Paired (fun o r => H o = some (.tup (r.2.1.map V.str))) os rows → DpAll K H (os.map V.ref) (rows.map fun r => txtsD r.2.1)
  | _, _, .nil => .nil
  | _, _, .cons h t => .cons (dp_tupS h) (dps_rows t)
theorem any_rows (rows : List Row) (us : List Str) : ((rows.map fun r => txtsD r.2.1).any fun e => PyData.eqv e (txtsD us)) = rows.any fun r => decide (r.2.1 = us) := by
  rw [List.any_map]
  exact congrArg rows.any (funext fun r => eqv_txts r.2.1 us)
section
variable {P : Program} {w : World} {K : PySem.W.Frag} {mg : Str → Option Value} {base : Heap} {C : Addr}
theorem scSg : FnScope nSg ["source"] (defScope sSig) := ⟨rfl, rfl, rfl, by decide +kernel, rfl, by decide +kernel, by decide +kernel⟩
theorem ok_lsig {f fP fO fI : Addr} {fd qP qO qI : FuncData} (F : Fun K "_law_signature" "_law_signature" sSig f fd) (T : Txt mg) (Gs : GlobS mg) (dictN : mg "dict" = none) (GP : FnOk P w K mg base CX0 1 fP qP ["source", "many"] spPick) (DP : Def K mg "_law_pick" fP) (bP : Binds K qP ["source", "many"] [])
    (GO : FnOk P w K mg base CX0 2 fO qO ["source", "some"] spOf) (DO : Def K mg "_law_of" fO) (bO : Binds K qO ["source", "some"] []) (M : Mk K C fI) (mSig : mg "Signature" = some (.ref C)) (GI : FnOk P w K mg base CX0 4 fI qI ["self", "kinds", "primitives"] (spSigInit C)) (bI : Binds K qI ["self", "kinds", "primitives"] []) :
    FnOk P w K mg base CX0 6 f fd ["source"] (spLSig C) := by
  refine F.ok scSg (fun vs H Q E h => ?_) (fun cdv A outer s H vs Q E hr h => ?_)
  · obtain ⟨p, c, rfl, _⟩ := h
    rfl
  · obtain ⟨p, c, rfl, S, q⟩ := h
    have hr1 : Room 1 _ := hr.mono (by decide)
    have hr2 : Room 2 _ := hr.mono (by decide)
    refine ⟨_, pss_cons (ps_asg (pe_tup (pa_cons (pe_slice sl_list (pe_lst (pa_cons pe_str (pa_cons pe_str (pa_cons pe_str pa_nil)))) po_none (po_some (pe_op op_add pe_int (pe_call GP hr1 (by rfl) DP.gl DP.kp bP .nil pass0 (pa_cons (pv 0) (pa_cons pe_int pa_nil)))))) (pa_cons (pe_lst pa_nil) (pa_cons pe_int pa_nil)))) (pg_tup (by rfl) (pgs_cons (pg_name (i := 1) scSg.nd rfl (.inr rfl)) (pgs_cons (pg_name (i := 2) scSg.nd rfl (.inl rfl)) (pgs_cons (pg_name (i := 3) scSg.nd rfl (.inl rfl)) pgs_nil)))))
      (pss_cons (ps_if (pt_cmpR op_eq (pe_call GP hr1 (by rfl) DP.gl DP.kp bP .nil pass0 (pa_cons (pv 0) (pa_cons pe_int pa_nil))) pe_int (nomark _)) (pss_one (ps_set (i := 1) scSg.nd rfl (.inr rfl) (pe_revL (pv 1)))) pss_nil)
      (pss_cons (ps_for PassesOwn.never rfl (pi_list (pe_slice sl_list (pe_lst (pa_cons pe_str (pa_cons pe_str (pa_cons pe_str pa_nil)))) po_none (po_some (pe_op op_add pe_int (pe_call GP hr1 (by rfl) DP.gl DP.kp bP .nil pass0 (pa_cons (pv 0) (pa_cons pe_int pa_nil))))))) (pg_name (i := 4) scSg.nd rfl (.inl rfl))
        (pss_cons (ps_set (i := 5) scSg.nd rfl (.inl rfl) (pe_lst pa_nil))
        (pss_cons (ps_for PassesOwn.never rfl (pi_range1 (by rfl) T.range (pa_cons (pe_call GP hr1 (by rfl) DP.gl DP.kp bP .nil pass0 (pa_cons (pv 0) (pa_cons pe_int pa_nil))) pa_nil)) (pg_name (i := 6) scSg.nd rfl (.inl rfl))
          (pss_cons (ps_set (i := 7) scSg.nd rfl (.inl rfl) (pe_callTy call_tupU (by rfl) Gs.tuple (by decide +kernel) (pa_cons (pe_lc (own := [("k", 8)]) (g := gName 8) (tt := tYes) rfl scSg.nd (pi_range1 (by rfl) T.range (pa_cons (pe_op op_add pe_int (pe_call GP hr1 (by rfl) DP.gl DP.kp bP .nil pass0 (pa_cons (pv 0) (pa_cons pe_int pa_nil)))) pa_nil)) (blkOk_by (N := nSg) (sc := defScope sSig) (by decide +kernel)) (fun _ _ _ _ _ => pg_name (i := 8) scSg.nd rfl (.inl rfl)) (fun _ _ _ _ _ => pts_nil)
              (fun _ _ _ _ _ => pe_call GO hr2 (by rfl) DO.gl DO.kp bO .nil pass0 (pa_cons (pv 0) (pa_cons (pv 1) pa_nil)))) pa_nil)))
          (pss_one (ps_if (pt_cmpR (r := rNotInP K) (op_notInP hr.units) (pv 7) (pe_lc (own := [("row", 9)]) (g := gName 9) (tt := tYes) rfl scSg.nd (pi_list (pv 5)) (blkOk_by (N := nSg) (sc := defScope sSig) (by decide +kernel)) (fun _ _ _ _ _ => pg_name (i := 9) scSg.nd rfl (.inl rfl)) (fun _ _ _ _ _ => pts_nil) (fun _ _ _ _ _ => pe_ix (r := rIxT K) ix_tup (pv 9) pe_int (fun _ _ => rfl))) (by rfl))
            (pss_cons (ps_expr (pe_bm PySem.F.plainAttrs_list PySem.F.slot_list_append PySem.F.type_list_append mt_append (pv 5) (pa_cons (pe_tup (pa_cons (pe_op op_add_str (pe_ix ix_list (pe_lst (pa_cons pe_str (pa_cons pe_str (pa_cons pe_str pa_nil)))) (pe_call GP hr1 (by rfl) DP.gl DP.kp bP .nil pass0 (pa_cons (pv 0) (pa_cons pe_int pa_nil))) (fun _ _ => rfl)) (pe_callTy call_str_int (by rfl) Gs.str (by decide +kernel) (pa_cons (pv 3) pa_nil))) (pa_cons (pv 7)
                (pa_cons (pe_call GO hr2 (by rfl) DO.gl DO.kp bO .nil pass0 (pa_cons (pv 0) (pa_cons (pe_op op_cat (pv 1) (pe_lst (pa_cons pe_str pa_nil))) pa_nil))) pa_nil)))) pa_nil)))
            (pss_one (ps_set (i := 3) scSg.nd rfl (.inl rfl) (pe_op op_add (pv 3) pe_int)))) pss_nil))))
        (pss_one (ps_expr (pe_bm PySem.F.plainAttrs_list PySem.F.slot_list_append PySem.F.type_list_append mt_append (pv 2) (pa_cons (pe_tup (pa_cons (pv 4) (pa_cons (pv 5) pa_nil))) pa_nil))))))
      ) (pss_one (ps_ret (pe_disp (pps_cons pe_str (pv 1) (pps_cons pe_str (pv 2) (pps_cons pe_str (pe_make M GI hr (by rfl) mSig bI .nil pass0 (pa_cons (pv 1) (pa_cons (pe_callTy (call_dictP rfl) (by rfl) dictN (by decide +kernel) (pa_cons (pv 2) pa_nil)) pa_nil))) pps_nil))) (by rfl) (by rfl) (fun z => by cases z) (by decide)))))), ?_⟩
    have d0 : Dr p c H H := Dr.refl S
    refine ⟨by show 3 ≤ sizeLine; decide, fun l0 nl0 => ?_⟩
    obtain ⟨H1, z, s1, e1⟩ := fresh nl0 (.lst (kin3.map V.str))
    erw [z]
    clear z
    have d1 := d0.same s1
    have ol0 := S.off nl0
    refine ⟨_, rfl, p, c, 3, rfl, d1.s, by decide, by decide, fun r H2 r0 r1 k2 S2 => ?_⟩
    have d2 : Dr p c H H2 := d1.trans ⟨k2, S2⟩
    refine ⟨_, _, rfl, rfl, _, rfl, l0, _, rfl, SqL.of (k2 _ _ e1 ol0), fun l nl => ?_⟩
    rw [cut_strs r0 (by show 1 + r.toNat ≤ 3; omega)]
    have okK0 : KindsOk (kin3.take (1 + r.toNat)) := kinds_ok (by omega)
    have ks10 : 1 ≤ (kin3.take (1 + r.toNat)).length := by
      rw [List.length_take]
      show 1 ≤ min _ 3
      omega
    have okZ0 : ("zz" : Str) ∉ kin3.take (1 + r.toNat) := fun h => absurd (List.mem_of_mem_take h) (by decide +kernel)
    generalize kin3.take (1 + r.toNat) = ks at okK0 ks10 okZ0
    obtain ⟨H3, z, s3, hl3⟩ := fresh nl (.lst (ks.map V.str))
    rw [z]
    clear z
    have d3 := d2.same s3
    have ol := d2.s.off nl
    have nlH := d2.none nl
    refine ⟨by show 0 ≤ sizeLine; decide, fun fa nfa => ?_⟩
    obtain ⟨H4, z, s4, hf4⟩ := fresh nfa (.lst [])
    rw [z]
    clear z
    have d4 := d3.same s4
    have ofa := d3.s.off nfa
    have nfaH := d3.none nfa
    have lfa : l ≠ fa := ne_of_none hl3 nfa
    refine ⟨by show 3 ≤ sizeLine; decide, fun t nt => ?_⟩
    obtain ⟨H5, z, s5, e5⟩ := fresh nt (.tup [.ref l, .ref fa, .int 0])
    erw [z]
    clear z
    have d5 := d4.same s5
    refine ⟨t, _, rfl, SqT.of e5, rfl, _, _, rfl, _, _, rfl, _, _, rfl, rfl, ?_⟩
    refine ⟨_, rfl, p, c, 2, rfl, d5.s, by decide, by decide, fun r2 H6 _ _ k6 S6 => ?_⟩
    have d6 : Dr p c H H6 := d5.trans ⟨k6, S6⟩
    have hl6 := k6 _ _ (s5 _ _ (s4 _ _ hl3)) ol
    have hf6 := k6 _ _ (s5 _ _ hf4) ofa
    clear k6 S6 d5 d4 d3 d2 d1 d0 hf4 hl3 s5 s4 s3 e5 k2 S2 e1 s1 nfa nl nt nl0 ol0
    refine ⟨rfl, _, rfl, ite2 (fun _ => ?_) (fun _ => ?_)⟩
    · refine ⟨_, rfl, l, _, rfl, SqL.of hl6, fun l' nl' => ?_⟩
      rw [← List.map_reverse]
      have okK := kinds_rev okK0
      have ks1 : 1 ≤ ks.reverse.length := by rw [List.length_reverse]; exact ks10
      have okZ : ("zz" : Str) ∉ ks.reverse := fun h => okZ0 (List.mem_reverse.mp h)
      clear okK0 ks10 okZ0
      obtain ⟨H7, z, s7, hl7⟩ := fresh nl' (.lst (ks.reverse.map V.str))
      rw [z]
      clear z
      have d7 := d6.same s7
      have ol' := d6.s.off nl'
      have nlH' := d6.none nl'
      have lfa' : l' ≠ fa := (ne_of_none hf6 nl').symm
      have hf7 := s7 _ _ hf6
      clear hl6 nl' s7 hf6 lfa d6 ol nlH
      generalize ks.reverse = ks' at okK ks1 okZ hl7
      clear ks
      refine ⟨by show 3 ≤ sizeLine; decide, fun b0 nb0 => ?_⟩
      obtain ⟨H8, z, s8, e8⟩ := fresh nb0 (.lst (base3.map V.str))
      erw [z]
      clear z
      have d8 := d7.same s8
      have ob0 := d7.s.off nb0
      refine ⟨_, rfl, p, c, 3, rfl, d8.s, by decide, by decide, fun r3 H9 r30 r31 k9 S9 => ?_⟩
      have d9 : Dr p c H H9 := d8.trans ⟨k9, S9⟩
      refine ⟨_, _, rfl, rfl, _, rfl, b0, _, rfl, SqL.of (k9 _ _ e8 ob0), fun nq nnq => ?_⟩
      rw [cut_strs r30 (by show 1 + r3.toNat ≤ 3; omega)]
      obtain ⟨n3, hn3⟩ : ∃ n3, n3 = 1 + r3.toNat := ⟨_, rfl⟩
      rw [← hn3]
      have n3le : n3 ≤ 3 := by omega
      obtain ⟨H10, z, s10, hq10⟩ := fresh nnq (.lst ((base3.take n3).map V.str))
      rw [z]
      clear z
      have d10 := d9.same s10
      have oq := d9.s.off nnq
      have hl10 := s10 _ _ (k9 _ _ (s8 _ _ hl7) ol')
      have hf10 := s10 _ _ (k9 _ _ (s8 _ _ hf7) ofa)
      have qfa : nq ≠ fa := (ne_of_none (k9 _ _ (s8 _ _ hf7) ofa) nnq).symm
      clear s10 k9 S9 s8 e8 d9 d8 nnq nb0 ob0 hl7 hf7 d7
      have nlen : ((base3.take n3).map V.str).length = n3 := by
        rw [List.length_map, List.length_take]
        show min n3 3 = n3
        omega
      refine ⟨nq, rfl, ⟨_, SqL.of hq10⟩, for_it (walk_list (K := K) (a := nq) (xs := (base3.take n3).map V.str)) (fun i σ H6 => Dr p c H H6 ∧ H6 nq = some (.lst ((base3.take n3).map V.str)) ∧ H6 l' = some (.lst (ks'.map V.str)) ∧ ∃ as ps v4 v5 v6 v7, σ = [some (.ref p), some (.ref l'), some (.ref fa), some (.int ((ownersOf ps).map Prod.fst).length), v4, v5, v6, v7, none, none] ∧
          H6 fa = some (.lst (as.map V.ref)) ∧ GPairs (Or1 (Off p c) fa) H6 as ps ∧ Drawn ks' ps i)
        ⟨d10, hq10, hl10, [], [], _, _, _, _, rfl, hf10, .nil, Drawn.nil _⟩ (fun i σ H6 _ ⟨_, e, _⟩ => SqL.of e) ?_ ?_⟩
      · clear d10 hq10 hl10 hf10 H10
        rintro i x σ H6 H7 hi ⟨d7, hq7, hl7, as, ps, v4, v5, v6, v7, rfl, hf7, hps, dr⟩ ⟨rfl, hx⟩
        rw [List.getElem?_map] at hx
        obtain ⟨nm, hnm, rfl⟩ := Option.map_eq_some_iff.mp hx
        have hnm3 : base3[i]? = some nm := by
          rw [nlen] at hi
          rw [List.getElem?_take, if_pos (by omega)] at hnm
          exact hnm
        refine ⟨by show 0 ≤ sizeLine; decide, fun ra nra => ?_⟩
        obtain ⟨H8, z, s8, hra8⟩ := fresh nra (.lst [])
        rw [z]
        clear z
        have d8 := d7.same s8
        have ora := d7.s.off nra
        have nraH := d7.none nra
        have rafa : ra ≠ fa := (ne_of_none hf7 nra).symm
        have ral : ra ≠ l' := (ne_of_none hl7 nra).symm
        have raq : ra ≠ nq := (ne_of_none hq7 nra).symm
        have hps8 : GPairs (Or1 (Or1 (Off p c) fa) ra) H8 as ps := (hps.wide nra).keep (Same.keep s8) (Tups.of s8)
        refine ⟨_, rfl, p, c, 4, rfl, d8.s, by decide, by decide, fun r4 H9 r40 r41 k9 S9 => ?_⟩
        have d9 : Dr p c H H9 := d8.trans ⟨k9, S9⟩
        have hps9 := hps8.keep (Keep.mono (fun a h => .inl (.inl h)) k9) (d8.s.tups k9)
        have hra9 := k9 _ _ hra8 ora
        have hf9 := k9 _ _ (s8 _ _ hf7) ofa
        have hl9 := k9 _ _ (s8 _ _ hl7) ol'
        have hq9 := k9 _ _ (s8 _ _ hq7) oq
        refine ⟨r4, rfl, by omega, by omega, for_it (walk_range (lo := 0) (n := r4.toNat)) (fun j σ Hx => Dr p c H Hx ∧ Keep (Or1 (Off p c) ra) H9 Hx ∧ ∃ rs rows v6 v7, σ = [some (.ref p), some (.ref l'), some (.ref fa), some (.int ((ownersOf ps).map Prod.fst ++ rows.map (·.1)).length), some (.str nm), some (.ref ra), v6, v7, none, none] ∧
            Hx ra = some (.lst (rs.map V.ref)) ∧ RowsAt Hx rs rows ∧ NamesOk ((ownersOf ps).map Prod.fst ++ rows.map (·.1)) ∧ (∀ r ∈ rows, RowOk ks' r) ∧ (rows.map fun r => r.2.1).Nodup ∧ rows.length ≤ j)
          ⟨d9, Keep.refl, [], [], _, _, by rw [List.map_nil, List.append_nil]; rfl, hra9, .nil, by rw [List.map_nil, List.append_nil]; exact dr.vn, (fun r h => nomatch h), List.nodup_nil, Nat.le_refl _⟩ (fun _ _ _ _ _ => trivial) ?_ ?_⟩
        · rintro j x σ Hx Hy hj ⟨dx, kx, rs, rows, v6, v7, rfl, hrax, hrows, nok, own, nod, few⟩ ⟨rfl, rfl⟩
          have j3 : j < 3 := by omega
          refine ⟨_, rfl, p, c, 2, rfl, dx.s, by decide, by decide, fun r5 Ha r50 r51 ka Sa => ?_⟩
          have da : Dr p c H Ha := dx.trans ⟨ka, Sa⟩
          have kxa : Keep (Or1 (Off p c) ra) H9 Ha := kx.trans (Keep.mono (fun a h => .inl h) ka)
          have hlx : Ha l' = some (.lst (ks'.map V.str)) := kxa _ _ hl9 (fun z => z.elim ol' ral.symm)
          refine ⟨_, _, rfl, rfl, _, rfl, by omega, by omega, fun D nD => lc_it (walk_range (lo := 0) (n := (1 + r5).toNat)) (fun t Hb => Dr p c Ha Hb ∧ ∃ us : List Str, Hb D = some (.lst (us.map V.str)) ∧ us.length = t ∧ ∀ u ∈ us, u ∈ ks') ⟨(Dr.refl Sa).same (same_new nD), [], upd_same, rfl, (fun u h => nomatch h)⟩ (fun _ _ _ _ => trivial) ?_ ?_⟩
          · rintro t x Hb Hc ht ⟨db, us, eD, lu, mu⟩ ⟨rfl, rfl⟩
            have oD := Sa.off nD
            refine ⟨rfl, _, rfl, _, rfl, p, c, l', _, rfl, db.s, db.k _ _ hlx ol', ol', by rw [List.length_map]; exact ks1, by rw [List.length_map]; have := okK.few; omega, fun v Hd hv kd Sd => ?_⟩
            obtain ⟨u, hu, rfl⟩ := str_in hv
            refine ⟨_, kd _ _ eD oD, ?_, (db.trans ⟨kd, Sd⟩).at nD oD, us ++ [u], ?_, ?_, ?_⟩
            · rw [List.length_map]
              exact small1000 (by omega)
            · rw [upd_same, List.map_append]
              rfl
            · rw [List.length_append, lu]
              rfl
            · intro y hy
              rcases List.mem_append.mp hy with hy | hy
              · exact mu y hy
              · cases List.mem_singleton.mp hy
                exact hu
          · rintro Hb ⟨db, us, eD, lu, mu⟩
            refine ⟨D, _, rfl, .inl eD, fun ot Hc sc eot _ => ?_⟩
            have dc : Dr p c H Hc := (da.trans db).same sc
            have kc : Keep (Or1 (Off p c) ra) H9 Hc := kxa.trans ((Keep.mono (fun a h => .inl h) db.k).trans (Same.keep sc))
            have tc : Tups Hy Hc := (dx.s.tups ka).trans ((Sa.tups db.k).trans (Tups.of sc))
            have hrac : Hc ra = some (.lst (rs.map V.ref)) := sc _ _ (db.k _ _ (ka _ _ hrax ora) ora)
            have hrowsc := hrows.tups tc
            have spl : rs.length = rows.length := Paired.length hrows
            have lus : us.length = 1 ∨ us.length = 2 := by omega
            clear db sc
            refine ⟨_, rfl, _, rfl, ra, rfl, ⟨_, SqL.of hrac⟩, fun D2 nD2 => lc_it (walk_list (K := K) (a := ra) (xs := rs.map V.ref)) (fun t Hd => Same Hc Hd ∧ ∃ os, Hd D2 = some (.lst (os.map V.ref)) ∧ Paired (fun o (r : Row) => Hc o = some (.tup (r.2.1.map V.str))) os (rows.take t)) ⟨same_new nD2, [], upd_same, .nil⟩ (fun t Hd _ ⟨sm, _⟩ => SqL.of (sm _ _ hrac)) ?_ ?_⟩
            · rintro t x Hd He ht ⟨sd, os, eD2, hos⟩ ⟨rfl, hx⟩
              rw [List.getElem?_map] at hx
              obtain ⟨a, ha, rfl⟩ := Option.map_eq_some_iff.mp hx
              obtain ⟨row, er, o, t1, t2⟩ := Paired.at hrowsc ha
              refine ⟨rfl, _, rfl, a, _, _, .ref o, rfl, rfl, SqT.of (sd _ _ t1), atI_nat (j := 1) rfl, _, eD2, ?_, fun b ob e => ?_, os ++ [o], ?_, ?_⟩
              · rw [List.length_map, Paired.length hos, List.length_take]
                exact small1000 (by omega)
              · rw [upd_ne (ne_of_none e nD2)]
                exact sd _ _ e
              · rw [upd_same, List.map_append]
                rfl
              · rw [List.take_add_one, er]
                exact Paired.snoc hos t2
            · rintro Hd ⟨sd, os, eD2, hos⟩
              rw [List.length_map, spl, List.take_length] at hos
              have hos' : Paired (fun o (r : Row) => Hd o = some (.tup (r.2.1.map V.str))) os rows := Paired.imp (fun _ _ h => sd _ _ h) hos
              have dz : (txtsD us).depth ≤ 60 := by
                show PyData.depthAll (us.map .str) + 1 ≤ 60
                rw [depth_strs]
                decide
              refine ⟨D2, _, _, txtsD us, rfl, SqL.of eD2, dps_rows hos', dp_tupS (sd _ _ eot), dz, _, rfl, ?_⟩
              rw [any_rows]
              have dd := dc.same sd
              have kd := kc.trans (Same.keep sd)
              have hrad := sd _ _ hrac
              have hrowsd := hrowsc.tups (Tups.of sd)
              have eotd := sd _ _ eot
              have hld : Hd l' = some (.lst (ks'.map V.str)) := kd _ _ hl9 (fun z => z.elim ol' ral.symm)
              clear sd dc kc hrac hrowsc eD2 hos hos' nD2 eot tc eD
              refine ite2 (fun hno => ?_) (fun _ => ?_)
              · have new : ∀ r ∈ rows, r.2.1 ≠ us := fun r hr e => by
                  have : rows.any (fun r => decide (r.2.1 = us)) = true := List.any_eq_true.mpr ⟨r, hr, decide_eq_true e⟩
                  rw [this] at hno
                  cases hno
                refine ⟨_, rfl, .inl ⟨rfl, _, SqL.of hrad⟩, by show 3 ≤ sizeLine; decide, fun g1 ng1 => ?_⟩
                obtain ⟨He, z, se, eg1⟩ := fresh ng1 (.lst (vaw.map V.str))
                erw [z]
                clear z
                have og1 := dd.s.off ng1
                have de := dd.same se
                refine ⟨_, rfl, p, c, 3, rfl, de.s, by decide, by decide, fun r6 Hf r60 r61 kf Sf => ?_⟩
                obtain ⟨vx, hvx, mvx⟩ := at_int (xs := vaw.map V.str) r60 r61
                obtain ⟨vn, hvn, rfl⟩ := str_in mvx
                have df : Dr p c H Hf := de.trans ⟨kf, Sf⟩
                have lvn : vn.length ≤ 1 := by
                  have h1 : ∀ y ∈ vaw, y.length ≤ 1 := by decide +kernel
                  exact h1 vn hvn
                have l9 : ((ownersOf ps).map Prod.fst ++ rows.map (·.1)).length ≤ 900 := by
                  rw [List.length_append, List.length_map, List.length_map]
                  have := dr.few
                  have : i < 3 := by rw [nlen] at hi; omega
                  omega
                refine ⟨g1, _, r6, _, rfl, rfl, SqL.of (kf _ _ eg1 og1), hvx, _, rfl, _, rfl, (toldInt (by omega) (by omega)).1, _, _, rfl, rfl, ?_, _, rfl, _, rfl, _, rfl, by show 1 ≤ sizeLine; decide, fun g2 ng2 => ?_⟩
                · have := (toldInt (i := (((ownersOf ps).map Prod.fst ++ rows.map (·.1)).length : Int)) (by omega) (by omega)).2
                  exact Nat.le_trans (Nat.add_le_add lvn this) (by decide)
                · obtain ⟨Hg, z, sg, eg2⟩ := fresh ng2 (.lst [.str "bit"])
                  rw [z]
                  clear z
                  have dg := df.same sg
                  have hlg : Hg l' = some (.lst (ks'.map V.str)) := sg _ _ (kf _ _ (se _ _ hld) ol')
                  refine ⟨l', g2, _, _, rfl, rfl, hlg, eg2, by rw [List.length_map]; exact Nat.le_trans (Nat.add_le_add okK.few (Nat.le_refl 1)) (by decide), fun g3 ng3 => ?_⟩
                  obtain ⟨Hh, z, sh, eg3⟩ := fresh ng3 (.lst (ks'.map V.str ++ [.str "bit"]))
                  rw [z]
                  clear z
                  have dh := dg.same sh
                  refine ⟨p, c, g3, _, rfl, dh.s, eg3, dg.s.off ng3, by rw [List.length_append]; exact Nat.le_add_left 1 _, ?_, fun v Hi hv ki Si => ?_⟩
                  · rw [List.length_append, List.length_map]
                    have := okK.few
                    show _ + 1 ≤ 1000
                    omega
                  · have di : Dr p c H Hi := dh.trans ⟨ki, Si⟩
                    obtain ⟨res, hres, rfl⟩ : ∃ res : Str, (res = "bit" ∨ res ∈ ks') ∧ v = .str res := by
                      rcases List.mem_append.mp hv with hv | hv
                      · obtain ⟨u, hu, rfl⟩ := str_in hv
                        exact ⟨u, .inr hu, rfl⟩
                      · exact ⟨"bit", .inl rfl, List.mem_singleton.mp hv⟩
                    have tdi : Tups Hd Hi := (Tups.of se).trans ((de.s.tups kf).trans ((Tups.of sg).trans ((Tups.of sh).trans (dh.s.tups ki))))
                    have kdi : Keep (Off p c) Hd Hi := (Same.keep se).trans (kf.trans ((Same.keep sg).trans ((Same.keep sh).trans ki)))
                    have nme : vn ++ Str.ofString (toString ((((ownersOf ps).map Prod.fst ++ rows.map (·.1)).length : Nat) : Int)) = nmV vn ((ownersOf ps).map Prod.fst ++ rows.map (·.1)).length := rfl
                    rw [nme]
                    refine ⟨by show 3 ≤ sizeLine; decide, fun rt nrt => ?_⟩
                    obtain ⟨Hj, z, sj, ert⟩ := fresh nrt (.tup [.str (nmV vn ((ownersOf ps).map Prod.fst ++ rows.map (·.1)).length), .ref ot, .str res])
                    rw [z]
                    clear z
                    have dj := di.same sj
                    have hraj : Hj ra = some (.lst (rs.map V.ref)) := sj _ _ (kdi _ _ hrad ora)
                    have tdj : Tups Hd Hj := tdi.trans (Tups.of sj)
                    refine ⟨ra, _, _, rfl, rfl, hraj, by rw [List.length_map, spl]; exact small1000 (by omega), _, rfl, _, _, rfl, rfl, ?_⟩
                    have tk : Tups Hj (upd Hj ra (.lst (rs.map V.ref ++ [.ref rt]))) := Tups.lock hraj fun _ z => nomatch z
                    refine ⟨dj.at nraH ora, (kd.trans (Keep.mono (fun a h => .inl h) kdi)).trans ((Same.keep sj).trans (Keep.mono (fun a h => .inr h) keep_upd)), rs ++ [rt], rows ++ [(nmV vn ((ownersOf ps).map Prod.fst ++ rows.map (·.1)).length, us, res)], some (.int (0 + (j : Int))), some (.ref ot), ?_, ?_, ?_, ?_, ?_, ?_, ?_⟩
                    · rw [List.map_append, ← List.append_assoc, List.length_append (as := (ownersOf ps).map Prod.fst ++ rows.map (·.1))]
                      rfl
                    · rw [upd_same, List.map_append]
                      rfl
                    · exact Paired.snoc (hrowsd.tups (tdj.trans tk)) ⟨ot, tk _ _ ert, tk _ _ (tdj _ _ eotd)⟩
                    · rw [List.map_append, ← List.append_assoc]
                      exact nok.snoc hvn
                    · intro r' hr'
                      rcases List.mem_append.mp hr' with hr' | hr'
                      · exact own r' hr'
                      · cases List.mem_singleton.mp hr'
                        exact ⟨lus, mu, hres⟩
                    · rw [List.map_append]
                      refine List.nodup_append.mpr ⟨nod, by simp, ?_⟩
                      rintro a ha b hb rfl
                      obtain ⟨r', hr', rfl⟩ := List.mem_map.mp ha
                      exact new r' hr' (List.mem_singleton.mp hb)
                    · rw [List.length_append]
                      show rows.length + 1 ≤ j + 1
                      omega
              · exact ⟨dd, kd, rs, rows, _, _, rfl, hrad, hrowsd, nok, own, nod, by omega⟩
        · rintro σ Hx ⟨dx, kx, rs, rows, v6, v7, rfl, hrax, hrows, nok, own, nod, few⟩
          have hfx : Hx fa = some (.lst (as.map V.ref)) := kx _ _ hf9 (fun z => z.elim ofa rafa.symm)
          have tx : Tups H9 Hx := fun b xs e => kx _ _ e (fun z => by
            rcases z with z | z
            · have := d9.s.tups (H' := H9) Keep.refl
              obtain ⟨_, ns, l1, m1, t1, hp1, hc1, _⟩ := d9.s
              rcases z with z | z
              · rw [z, hp1] at e
                cases e
              · rw [z, hc1] at e
                cases e
            · rw [z, hra9] at e
              cases e)
          have hpsx : GPairs (Or1 (Or1 (Off p c) fa) ra) Hx as ps := hps9.keep (Keep.mono (fun a h => h.elim (fun h => .inl (.inl h)) .inr) kx) tx
          have spl : as.length = ps.length := Paired.length hps
          have lps : ps.length ≤ 3 := by
            have := congrArg List.length dr.names
            rw [List.length_map, List.length_take] at this
            have b3 : base3.length = 3 := rfl
            omega
          refine ⟨_, rfl, .inl ⟨rfl, _, SqL.of hfx⟩, _, rfl, _, rfl, by show 2 ≤ sizeLine; decide, fun pt npt => ?_⟩
          obtain ⟨Hy, z, sy, ept⟩ := fresh npt (.tup [.str nm, .ref ra])
          rw [z]
          clear z
          have dy := dx.same sy
          have hfy := sy _ _ hfx
          refine ⟨fa, _, _, rfl, rfl, hfy, by rw [List.length_map, spl]; exact small1000 (by omega), ?_⟩
          have ty : Tups Hy (upd Hy fa (.lst (as.map V.ref ++ [.ref pt]))) := Tups.lock hfy fun _ z => nomatch z
          refine ⟨dy.at nfaH ofa, ?_, ?_, as ++ [pt], ps ++ [(nm, rows)], some (.str nm), some (.ref ra), v6, v7, ?_, ?_, ?_, ?_⟩
          · rw [upd_ne qfa]
            exact sy _ _ (kx _ _ hq9 (fun z => z.elim oq raq.symm))
          · rw [upd_ne lfa']
            exact sy _ _ (kx _ _ hl9 (fun z => z.elim ol' ral.symm))
          · rw [owners_snoc, List.map_append, List.map_map]
            rfl
          · rw [upd_same, List.map_append]
            rfl
          · refine Paired.snoc ((((hpsx.keep (Same.keep sy) (Tups.of sy)).narrow fun a h => .inl h)).keep (Keep.mono (fun a h => .inr h) keep_upd) ty) ⟨ra, rs, ty _ _ ept, ?_, (hrows.tups (Tups.of sy)).tups ty, fun z => z.elim ora rafa⟩
            rw [upd_ne rafa]
            exact sy _ _ hrax
          · exact dr.snoc hnm3 ⟨own, nod, by omega⟩ nok
      · rintro σ H6 ⟨d7, hq7, hl7, as, ps, v4, v5, v6, v7, rfl, hf7, hps, dr⟩
        rw [nlen] at dr
        have okP := dr.ok n3le
        intro gr ngr
        obtain ⟨H8, z, s8, eg8⟩ := fresh ngr (.dK [])
        rw [z]
        clear z
        have d8 := d7.same s8
        have hps8 := hps.keep (Same.keep s8) (Tups.of s8)
        obtain ⟨kvs, pk, pe⟩ := pairs_dict (K := K) hps8
        refine ⟨_, rfl, _, rfl, _, rfl, _, rfl, fa, as, kvs, rfl, SqL.of (s8 _ _ hf7), pk, fun dd ndd => ?_⟩
        have nodk : ((([] : List (Key × V)) ++ kvs).map (·.1)).Nodup := by
          rw [List.nil_append, pents_keys pe]
          have := nod_inr okP.names
          rwa [List.map_map] at this
        rw [merge_nod nodk, List.nil_append]
        obtain ⟨H9, z, s9, ed9⟩ := fresh ndd (.dK kvs)
        rw [z]
        clear z
        have d9 := d8.same s9
        intro x dx nx ndx ne
        have s10 : Same H9 (upd (upd H9 dx (.own x)) x (.ins C dx [])) := (same_new ndx).trans (same_new (by rw [upd_ne ne.symm]; exact nx))
        have x10 : upd (upd H9 dx (.own x)) x (.ins C dx []) x = some (.ins C dx []) := upd_same
        generalize upd (upd H9 dx (.own x)) x (.ins C dx []) = H10 at s10 x10
        have d10 := d9.same s10
        refine ⟨x, dx, l', dd, ks', kvs, ps, rfl, x10, s10 _ _ (s9 _ _ (s8 _ _ hl7)), okK, s10 _ _ ed9, (pe.std (Std.of s9)).std (Std.of s10), okP, fun H' dx' ka ow pr es kvs' back eg eka eow hes epr hpr now npr => ?_⟩
        have sb : Same H9 H' := fun b o e => back b o (ne_of_none e nx) (s10 _ _ e)
        have eg' := sb _ _ (s9 _ _ eg8)
        refine ⟨rfl, eg', [(Sum.inr "kinds", .ref l'), (Sum.inr "primitives", .ref fa), (Sum.inr "made", .ref x)], rfl, by show 3 ≤ 15; decide, ?_⟩
        have ogr := d7.s.off ngr
        have ngrH := d7.none ngr
        have S' : Same H8 H' := s9.trans sb
        have tg : Tups H' (upd H' gr (.dK (mergeK [] [(Sum.inr "kinds", .ref l'), (Sum.inr "primitives", .ref fa), (Sum.inr "made", .ref x)]))) := Tups.lock eg' fun _ z => nomatch z
        have kg : Keep (· = gr) H' (upd H' gr (.dK (mergeK [] [(Sum.inr "kinds", .ref l'), (Sum.inr "primitives", .ref fa), (Sum.inr "made", .ref x)]))) := keep_upd
        have g10 := s10 _ _ (s9 _ _ eg8)
        have lg : l' ≠ gr := ne_of_none hl7 ngr
        have fg : fa ≠ gr := ne_of_none hf7 ngr
        have hgps : GPairs (Or1 (Off p c) gr) H' as ps := ((hps.narrow fun a h => .inl h).wide ngr).keep (Same.keep (s8.trans S')) (Tups.of (s8.trans S'))
        refine q gr ks' ps n3 _ okK okZ n3le dr ⟨l', fa, x, as, upd_same, ?_, ?_, (hgps.keep (Keep.mono (fun a h => .inr h) kg) tg).narrow fun a h => .inl h, ⟨dx', ka, ow, pr, es, kvs', ?_, tg _ _ eka, ?_, hes.tups tg, ?_, hpr.tups tg, ?_, ?_, ?_⟩, ogr, ol', ofa⟩ ((d9.same sb).at ngrH ogr) ogr
        · rw [upd_ne lg]
          exact S' _ _ (s8 _ _ hl7)
        · rw [upd_ne fg]
          exact S' _ _ (s8 _ _ hf7)
        · exact kg _ _ eg (ne_of_none (s9 _ _ eg8) nx).symm
        · exact kg _ _ eow (ne_of_none g10 now).symm
        · exact kg _ _ epr (ne_of_none g10 npr).symm
        · exact d9.s.off nx
        · exact d10.s.off now
        · exact d10.s.off npr
    · have okK := okK0
      have ks1 := ks10
      have okZ := okZ0
      have hl7 := hl6
      have d7 := d6
      have hf7 := hf6
      have ol' := ol
      have nlH' := nlH
      have lfa' := lfa
      refine ⟨by show 3 ≤ sizeLine; decide, fun b0 nb0 => ?_⟩
      obtain ⟨H8, z, s8, e8⟩ := fresh nb0 (.lst (base3.map V.str))
      erw [z]
      clear z
      have d8 := d7.same s8
      have ob0 := d7.s.off nb0
      refine ⟨_, rfl, p, c, 3, rfl, d8.s, by decide, by decide, fun r3 H9 r30 r31 k9 S9 => ?_⟩
      have d9 : Dr p c H H9 := d8.trans ⟨k9, S9⟩
      refine ⟨_, _, rfl, rfl, _, rfl, b0, _, rfl, SqL.of (k9 _ _ e8 ob0), fun nq nnq => ?_⟩
      rw [cut_strs r30 (by show 1 + r3.toNat ≤ 3; omega)]
      obtain ⟨n3, hn3⟩ : ∃ n3, n3 = 1 + r3.toNat := ⟨_, rfl⟩
      rw [← hn3]
      have n3le : n3 ≤ 3 := by omega
      obtain ⟨H10, z, s10, hq10⟩ := fresh nnq (.lst ((base3.take n3).map V.str))
      rw [z]
      clear z
      have d10 := d9.same s10
      have oq := d9.s.off nnq
      have hl10 := s10 _ _ (k9 _ _ (s8 _ _ hl7) ol')
      have hf10 := s10 _ _ (k9 _ _ (s8 _ _ hf7) ofa)
      have qfa : nq ≠ fa := (ne_of_none (k9 _ _ (s8 _ _ hf7) ofa) nnq).symm
      clear s10 k9 S9 s8 e8 d9 d8 nnq nb0 ob0 hl7 hf7 d7
      have nlen : ((base3.take n3).map V.str).length = n3 := by
        rw [List.length_map, List.length_take]
        show min n3 3 = n3
        omega
      refine ⟨nq, rfl, ⟨_, SqL.of hq10⟩, for_it (walk_list (K := K) (a := nq) (xs := (base3.take n3).map V.str)) (fun i σ H6 => Dr p c H H6 ∧ H6 nq = some (.lst ((base3.take n3).map V.str)) ∧ H6 l = some (.lst (ks.map V.str)) ∧ ∃ as ps v4 v5 v6 v7, σ = [some (.ref p), some (.ref l), some (.ref fa), some (.int ((ownersOf ps).map Prod.fst).length), v4, v5, v6, v7, none, none] ∧
          H6 fa = some (.lst (as.map V.ref)) ∧ GPairs (Or1 (Off p c) fa) H6 as ps ∧ Drawn ks ps i)
        ⟨d10, hq10, hl10, [], [], _, _, _, _, rfl, hf10, .nil, Drawn.nil _⟩ (fun i σ H6 _ ⟨_, e, _⟩ => SqL.of e) ?_ ?_⟩
      · clear d10 hq10 hl10 hf10 H10
        rintro i x σ H6 H7 hi ⟨d7, hq7, hl7, as, ps, v4, v5, v6, v7, rfl, hf7, hps, dr⟩ ⟨rfl, hx⟩
        rw [List.getElem?_map] at hx
        obtain ⟨nm, hnm, rfl⟩ := Option.map_eq_some_iff.mp hx
        have hnm3 : base3[i]? = some nm := by
          rw [nlen] at hi
          rw [List.getElem?_take, if_pos (by omega)] at hnm
          exact hnm
        refine ⟨by show 0 ≤ sizeLine; decide, fun ra nra => ?_⟩
        obtain ⟨H8, z, s8, hra8⟩ := fresh nra (.lst [])
        rw [z]
        clear z
        have d8 := d7.same s8
        have ora := d7.s.off nra
        have nraH := d7.none nra
        have rafa : ra ≠ fa := (ne_of_none hf7 nra).symm
        have ral : ra ≠ l := (ne_of_none hl7 nra).symm
        have raq : ra ≠ nq := (ne_of_none hq7 nra).symm
        have hps8 : GPairs (Or1 (Or1 (Off p c) fa) ra) H8 as ps := (hps.wide nra).keep (Same.keep s8) (Tups.of s8)
        refine ⟨_, rfl, p, c, 4, rfl, d8.s, by decide, by decide, fun r4 H9 r40 r41 k9 S9 => ?_⟩
        have d9 : Dr p c H H9 := d8.trans ⟨k9, S9⟩
        have hps9 := hps8.keep (Keep.mono (fun a h => .inl (.inl h)) k9) (d8.s.tups k9)
        have hra9 := k9 _ _ hra8 ora
        have hf9 := k9 _ _ (s8 _ _ hf7) ofa
        have hl9 := k9 _ _ (s8 _ _ hl7) ol'
        have hq9 := k9 _ _ (s8 _ _ hq7) oq
        refine ⟨r4, rfl, by omega, by omega, for_it (walk_range (lo := 0) (n := r4.toNat)) (fun j σ Hx => Dr p c H Hx ∧ Keep (Or1 (Off p c) ra) H9 Hx ∧ ∃ rs rows v6 v7, σ = [some (.ref p), some (.ref l), some (.ref fa), some (.int ((ownersOf ps).map Prod.fst ++ rows.map (·.1)).length), some (.str nm), some (.ref ra), v6, v7, none, none] ∧
            Hx ra = some (.lst (rs.map V.ref)) ∧ RowsAt Hx rs rows ∧ NamesOk ((ownersOf ps).map Prod.fst ++ rows.map (·.1)) ∧ (∀ r ∈ rows, RowOk ks r) ∧ (rows.map fun r => r.2.1).Nodup ∧ rows.length ≤ j)
          ⟨d9, Keep.refl, [], [], _, _, by rw [List.map_nil, List.append_nil]; rfl, hra9, .nil, by rw [List.map_nil, List.append_nil]; exact dr.vn, (fun r h => nomatch h), List.nodup_nil, Nat.le_refl _⟩ (fun _ _ _ _ _ => trivial) ?_ ?_⟩
        · rintro j x σ Hx Hy hj ⟨dx, kx, rs, rows, v6, v7, rfl, hrax, hrows, nok, own, nod, few⟩ ⟨rfl, rfl⟩
          have j3 : j < 3 := by omega
          refine ⟨_, rfl, p, c, 2, rfl, dx.s, by decide, by decide, fun r5 Ha r50 r51 ka Sa => ?_⟩
          have da : Dr p c H Ha := dx.trans ⟨ka, Sa⟩
          have kxa : Keep (Or1 (Off p c) ra) H9 Ha := kx.trans (Keep.mono (fun a h => .inl h) ka)
          have hlx : Ha l = some (.lst (ks.map V.str)) := kxa _ _ hl9 (fun z => z.elim ol' ral.symm)
          refine ⟨_, _, rfl, rfl, _, rfl, by omega, by omega, fun D nD => lc_it (walk_range (lo := 0) (n := (1 + r5).toNat)) (fun t Hb => Dr p c Ha Hb ∧ ∃ us : List Str, Hb D = some (.lst (us.map V.str)) ∧ us.length = t ∧ ∀ u ∈ us, u ∈ ks) ⟨(Dr.refl Sa).same (same_new nD), [], upd_same, rfl, (fun u h => nomatch h)⟩ (fun _ _ _ _ => trivial) ?_ ?_⟩
          · rintro t x Hb Hc ht ⟨db, us, eD, lu, mu⟩ ⟨rfl, rfl⟩
            have oD := Sa.off nD
            refine ⟨rfl, _, rfl, _, rfl, p, c, l, _, rfl, db.s, db.k _ _ hlx ol', ol', by rw [List.length_map]; exact ks1, by rw [List.length_map]; have := okK.few; omega, fun v Hd hv kd Sd => ?_⟩
            obtain ⟨u, hu, rfl⟩ := str_in hv
            refine ⟨_, kd _ _ eD oD, ?_, (db.trans ⟨kd, Sd⟩).at nD oD, us ++ [u], ?_, ?_, ?_⟩
            · rw [List.length_map]
              exact small1000 (by omega)
            · rw [upd_same, List.map_append]
              rfl
            · rw [List.length_append, lu]
              rfl
            · intro y hy
              rcases List.mem_append.mp hy with hy | hy
              · exact mu y hy
              · cases List.mem_singleton.mp hy
                exact hu
          · rintro Hb ⟨db, us, eD, lu, mu⟩
            refine ⟨D, _, rfl, .inl eD, fun ot Hc sc eot _ => ?_⟩
            have dc : Dr p c H Hc := (da.trans db).same sc
            have kc : Keep (Or1 (Off p c) ra) H9 Hc := kxa.trans ((Keep.mono (fun a h => .inl h) db.k).trans (Same.keep sc))
            have tc : Tups Hy Hc := (dx.s.tups ka).trans ((Sa.tups db.k).trans (Tups.of sc))
            have hrac : Hc ra = some (.lst (rs.map V.ref)) := sc _ _ (db.k _ _ (ka _ _ hrax ora) ora)
            have hrowsc := hrows.tups tc
            have spl : rs.length = rows.length := Paired.length hrows
            have lus : us.length = 1 ∨ us.length = 2 := by omega
            clear db sc
            refine ⟨_, rfl, _, rfl, ra, rfl, ⟨_, SqL.of hrac⟩, fun D2 nD2 => lc_it (walk_list (K := K) (a := ra) (xs := rs.map V.ref)) (fun t Hd => Same Hc Hd ∧ ∃ os, Hd D2 = some (.lst (os.map V.ref)) ∧ Paired (fun o (r : Row) => Hc o = some (.tup (r.2.1.map V.str))) os (rows.take t)) ⟨same_new nD2, [], upd_same, .nil⟩ (fun t Hd _ ⟨sm, _⟩ => SqL.of (sm _ _ hrac)) ?_ ?_⟩
            · rintro t x Hd He ht ⟨sd, os, eD2, hos⟩ ⟨rfl, hx⟩
              rw [List.getElem?_map] at hx
              obtain ⟨a, ha, rfl⟩ := Option.map_eq_some_iff.mp hx
              obtain ⟨row, er, o, t1, t2⟩ := Paired.at hrowsc ha
              refine ⟨rfl, _, rfl, a, _, _, .ref o, rfl, rfl, SqT.of (sd _ _ t1), atI_nat (j := 1) rfl, _, eD2, ?_, fun b ob e => ?_, os ++ [o], ?_, ?_⟩
              · rw [List.length_map, Paired.length hos, List.length_take]
                exact small1000 (by omega)
              · rw [upd_ne (ne_of_none e nD2)]
                exact sd _ _ e
              · rw [upd_same, List.map_append]
                rfl
              · rw [List.take_add_one, er]
                exact Paired.snoc hos t2
            · rintro Hd ⟨sd, os, eD2, hos⟩
              rw [List.length_map, spl, List.take_length] at hos
              have hos' : Paired (fun o (r : Row) => Hd o = some (.tup (r.2.1.map V.str))) os rows := Paired.imp (fun _ _ h => sd _ _ h) hos
              have dz : (txtsD us).depth ≤ 60 := by
                show PyData.depthAll (us.map .str) + 1 ≤ 60
                rw [depth_strs]
                decide
              refine ⟨D2, _, _, txtsD us, rfl, SqL.of eD2, dps_rows hos', dp_tupS (sd _ _ eot), dz, _, rfl, ?_⟩
              rw [any_rows]
              have dd := dc.same sd
              have kd := kc.trans (Same.keep sd)
              have hrad := sd _ _ hrac
              have hrowsd := hrowsc.tups (Tups.of sd)
              have eotd := sd _ _ eot
              have hld : Hd l = some (.lst (ks.map V.str)) := kd _ _ hl9 (fun z => z.elim ol' ral.symm)
              clear sd dc kc hrac hrowsc eD2 hos hos' nD2 eot tc eD
              refine ite2 (fun hno => ?_) (fun _ => ?_)
              · have new : ∀ r ∈ rows, r.2.1 ≠ us := fun r hr e => by
                  have : rows.any (fun r => decide (r.2.1 = us)) = true := List.any_eq_true.mpr ⟨r, hr, decide_eq_true e⟩
                  rw [this] at hno
                  cases hno
                refine ⟨_, rfl, .inl ⟨rfl, _, SqL.of hrad⟩, by show 3 ≤ sizeLine; decide, fun g1 ng1 => ?_⟩
                obtain ⟨He, z, se, eg1⟩ := fresh ng1 (.lst (vaw.map V.str))
                erw [z]
                clear z
                have og1 := dd.s.off ng1
                have de := dd.same se
                refine ⟨_, rfl, p, c, 3, rfl, de.s, by decide, by decide, fun r6 Hf r60 r61 kf Sf => ?_⟩
                obtain ⟨vx, hvx, mvx⟩ := at_int (xs := vaw.map V.str) r60 r61
                obtain ⟨vn, hvn, rfl⟩ := str_in mvx
                have df : Dr p c H Hf := de.trans ⟨kf, Sf⟩
                have lvn : vn.length ≤ 1 := by
                  have h1 : ∀ y ∈ vaw, y.length ≤ 1 := by decide +kernel
                  exact h1 vn hvn
                have l9 : ((ownersOf ps).map Prod.fst ++ rows.map (·.1)).length ≤ 900 := by
                  rw [List.length_append, List.length_map, List.length_map]
                  have := dr.few
                  have : i < 3 := by rw [nlen] at hi; omega
                  omega
                refine ⟨g1, _, r6, _, rfl, rfl, SqL.of (kf _ _ eg1 og1), hvx, _, rfl, _, rfl, (toldInt (by omega) (by omega)).1, _, _, rfl, rfl, ?_, _, rfl, _, rfl, _, rfl, by show 1 ≤ sizeLine; decide, fun g2 ng2 => ?_⟩
                · have := (toldInt (i := (((ownersOf ps).map Prod.fst ++ rows.map (·.1)).length : Int)) (by omega) (by omega)).2
                  exact Nat.le_trans (Nat.add_le_add lvn this) (by decide)
                · obtain ⟨Hg, z, sg, eg2⟩ := fresh ng2 (.lst [.str "bit"])
                  rw [z]
                  clear z
                  have dg := df.same sg
                  have hlg : Hg l = some (.lst (ks.map V.str)) := sg _ _ (kf _ _ (se _ _ hld) ol')
                  refine ⟨l, g2, _, _, rfl, rfl, hlg, eg2, by rw [List.length_map]; exact Nat.le_trans (Nat.add_le_add okK.few (Nat.le_refl 1)) (by decide), fun g3 ng3 => ?_⟩
                  obtain ⟨Hh, z, sh, eg3⟩ := fresh ng3 (.lst (ks.map V.str ++ [.str "bit"]))
                  rw [z]
                  clear z
                  have dh := dg.same sh
                  refine ⟨p, c, g3, _, rfl, dh.s, eg3, dg.s.off ng3, by rw [List.length_append]; exact Nat.le_add_left 1 _, ?_, fun v Hi hv ki Si => ?_⟩
                  · rw [List.length_append, List.length_map]
                    have := okK.few
                    show _ + 1 ≤ 1000
                    omega
                  · have di : Dr p c H Hi := dh.trans ⟨ki, Si⟩
                    obtain ⟨res, hres, rfl⟩ : ∃ res : Str, (res = "bit" ∨ res ∈ ks) ∧ v = .str res := by
                      rcases List.mem_append.mp hv with hv | hv
                      · obtain ⟨u, hu, rfl⟩ := str_in hv
                        exact ⟨u, .inr hu, rfl⟩
                      · exact ⟨"bit", .inl rfl, List.mem_singleton.mp hv⟩
                    have tdi : Tups Hd Hi := (Tups.of se).trans ((de.s.tups kf).trans ((Tups.of sg).trans ((Tups.of sh).trans (dh.s.tups ki))))
                    have kdi : Keep (Off p c) Hd Hi := (Same.keep se).trans (kf.trans ((Same.keep sg).trans ((Same.keep sh).trans ki)))
                    have nme : vn ++ Str.ofString (toString ((((ownersOf ps).map Prod.fst ++ rows.map (·.1)).length : Nat) : Int)) = nmV vn ((ownersOf ps).map Prod.fst ++ rows.map (·.1)).length := rfl
                    rw [nme]
                    refine ⟨by show 3 ≤ sizeLine; decide, fun rt nrt => ?_⟩
                    obtain ⟨Hj, z, sj, ert⟩ := fresh nrt (.tup [.str (nmV vn ((ownersOf ps).map Prod.fst ++ rows.map (·.1)).length), .ref ot, .str res])
                    rw [z]
                    clear z
                    have dj := di.same sj
                    have hraj : Hj ra = some (.lst (rs.map V.ref)) := sj _ _ (kdi _ _ hrad ora)
                    have tdj : Tups Hd Hj := tdi.trans (Tups.of sj)
                    refine ⟨ra, _, _, rfl, rfl, hraj, by rw [List.length_map, spl]; exact small1000 (by omega), _, rfl, _, _, rfl, rfl, ?_⟩
                    have tk : Tups Hj (upd Hj ra (.lst (rs.map V.ref ++ [.ref rt]))) := Tups.lock hraj fun _ z => nomatch z
                    refine ⟨dj.at nraH ora, (kd.trans (Keep.mono (fun a h => .inl h) kdi)).trans ((Same.keep sj).trans (Keep.mono (fun a h => .inr h) keep_upd)), rs ++ [rt], rows ++ [(nmV vn ((ownersOf ps).map Prod.fst ++ rows.map (·.1)).length, us, res)], some (.int (0 + (j : Int))), some (.ref ot), ?_, ?_, ?_, ?_, ?_, ?_, ?_⟩
                    · rw [List.map_append, ← List.append_assoc, List.length_append (as := (ownersOf ps).map Prod.fst ++ rows.map (·.1))]
                      rfl
                    · rw [upd_same, List.map_append]
                      rfl
                    · exact Paired.snoc (hrowsd.tups (tdj.trans tk)) ⟨ot, tk _ _ ert, tk _ _ (tdj _ _ eotd)⟩
                    · rw [List.map_append, ← List.append_assoc]
                      exact nok.snoc hvn
                    · intro r' hr'
                      rcases List.mem_append.mp hr' with hr' | hr'
                      · exact own r' hr'
                      · cases List.mem_singleton.mp hr'
                        exact ⟨lus, mu, hres⟩
                    · rw [List.map_append]
                      refine List.nodup_append.mpr ⟨nod, by simp, ?_⟩
                      rintro a ha b hb rfl
                      obtain ⟨r', hr', rfl⟩ := List.mem_map.mp ha
                      exact new r' hr' (List.mem_singleton.mp hb)
                    · rw [List.length_append]
                      show rows.length + 1 ≤ j + 1
                      omega
              · exact ⟨dd, kd, rs, rows, _, _, rfl, hrad, hrowsd, nok, own, nod, by omega⟩
        · rintro σ Hx ⟨dx, kx, rs, rows, v6, v7, rfl, hrax, hrows, nok, own, nod, few⟩
          have hfx : Hx fa = some (.lst (as.map V.ref)) := kx _ _ hf9 (fun z => z.elim ofa rafa.symm)
          have tx : Tups H9 Hx := fun b xs e => kx _ _ e (fun z => by
            rcases z with z | z
            · have := d9.s.tups (H' := H9) Keep.refl
              obtain ⟨_, ns, l1, m1, t1, hp1, hc1, _⟩ := d9.s
              rcases z with z | z
              · rw [z, hp1] at e
                cases e
              · rw [z, hc1] at e
                cases e
            · rw [z, hra9] at e
              cases e)
          have hpsx : GPairs (Or1 (Or1 (Off p c) fa) ra) Hx as ps := hps9.keep (Keep.mono (fun a h => h.elim (fun h => .inl (.inl h)) .inr) kx) tx
          have spl : as.length = ps.length := Paired.length hps
          have lps : ps.length ≤ 3 := by
            have := congrArg List.length dr.names
            rw [List.length_map, List.length_take] at this
            have b3 : base3.length = 3 := rfl
            omega
          refine ⟨_, rfl, .inl ⟨rfl, _, SqL.of hfx⟩, _, rfl, _, rfl, by show 2 ≤ sizeLine; decide, fun pt npt => ?_⟩
          obtain ⟨Hy, z, sy, ept⟩ := fresh npt (.tup [.str nm, .ref ra])
          rw [z]
          clear z
          have dy := dx.same sy
          have hfy := sy _ _ hfx
          refine ⟨fa, _, _, rfl, rfl, hfy, by rw [List.length_map, spl]; exact small1000 (by omega), ?_⟩
          have ty : Tups Hy (upd Hy fa (.lst (as.map V.ref ++ [.ref pt]))) := Tups.lock hfy fun _ z => nomatch z
          refine ⟨dy.at nfaH ofa, ?_, ?_, as ++ [pt], ps ++ [(nm, rows)], some (.str nm), some (.ref ra), v6, v7, ?_, ?_, ?_, ?_⟩
          · rw [upd_ne qfa]
            exact sy _ _ (kx _ _ hq9 (fun z => z.elim oq raq.symm))
          · rw [upd_ne lfa']
            exact sy _ _ (kx _ _ hl9 (fun z => z.elim ol' ral.symm))
          · rw [owners_snoc, List.map_append, List.map_map]
            rfl
          · rw [upd_same, List.map_append]
            rfl
          · refine Paired.snoc ((((hpsx.keep (Same.keep sy) (Tups.of sy)).narrow fun a h => .inl h)).keep (Keep.mono (fun a h => .inr h) keep_upd) ty) ⟨ra, rs, ty _ _ ept, ?_, (hrows.tups (Tups.of sy)).tups ty, fun z => z.elim ora rafa⟩
            rw [upd_ne rafa]
            exact sy _ _ hrax
          · exact dr.snoc hnm3 ⟨own, nod, by omega⟩ nok
      · rintro σ H6 ⟨d7, hq7, hl7, as, ps, v4, v5, v6, v7, rfl, hf7, hps, dr⟩
        rw [nlen] at dr
        have okP := dr.ok n3le
        intro gr ngr
        obtain ⟨H8, z, s8, eg8⟩ := fresh ngr (.dK [])
        rw [z]
        clear z
        have d8 := d7.same s8
        have hps8 := hps.keep (Same.keep s8) (Tups.of s8)
        obtain ⟨kvs, pk, pe⟩ := pairs_dict (K := K) hps8
        refine ⟨_, rfl, _, rfl, _, rfl, _, rfl, fa, as, kvs, rfl, SqL.of (s8 _ _ hf7), pk, fun dd ndd => ?_⟩
        have nodk : ((([] : List (Key × V)) ++ kvs).map (·.1)).Nodup := by
          rw [List.nil_append, pents_keys pe]
          have := nod_inr okP.names
          rwa [List.map_map] at this
        rw [merge_nod nodk, List.nil_append]
        obtain ⟨H9, z, s9, ed9⟩ := fresh ndd (.dK kvs)
        rw [z]
        clear z
        have d9 := d8.same s9
        intro x dx nx ndx ne
        have s10 : Same H9 (upd (upd H9 dx (.own x)) x (.ins C dx [])) := (same_new ndx).trans (same_new (by rw [upd_ne ne.symm]; exact nx))
        have x10 : upd (upd H9 dx (.own x)) x (.ins C dx []) x = some (.ins C dx []) := upd_same
        generalize upd (upd H9 dx (.own x)) x (.ins C dx []) = H10 at s10 x10
        have d10 := d9.same s10
        refine ⟨x, dx, l, dd, ks, kvs, ps, rfl, x10, s10 _ _ (s9 _ _ (s8 _ _ hl7)), okK, s10 _ _ ed9, (pe.std (Std.of s9)).std (Std.of s10), okP, fun H' dx' ka ow pr es kvs' back eg eka eow hes epr hpr now npr => ?_⟩
        have sb : Same H9 H' := fun b o e => back b o (ne_of_none e nx) (s10 _ _ e)
        have eg' := sb _ _ (s9 _ _ eg8)
        refine ⟨rfl, eg', [(Sum.inr "kinds", .ref l), (Sum.inr "primitives", .ref fa), (Sum.inr "made", .ref x)], rfl, by show 3 ≤ 15; decide, ?_⟩
        have ogr := d7.s.off ngr
        have ngrH := d7.none ngr
        have S' : Same H8 H' := s9.trans sb
        have tg : Tups H' (upd H' gr (.dK (mergeK [] [(Sum.inr "kinds", .ref l), (Sum.inr "primitives", .ref fa), (Sum.inr "made", .ref x)]))) := Tups.lock eg' fun _ z => nomatch z
        have kg : Keep (· = gr) H' (upd H' gr (.dK (mergeK [] [(Sum.inr "kinds", .ref l), (Sum.inr "primitives", .ref fa), (Sum.inr "made", .ref x)]))) := keep_upd
        have g10 := s10 _ _ (s9 _ _ eg8)
        have lg : l ≠ gr := ne_of_none hl7 ngr
        have fg : fa ≠ gr := ne_of_none hf7 ngr
        have hgps : GPairs (Or1 (Off p c) gr) H' as ps := ((hps.narrow fun a h => .inl h).wide ngr).keep (Same.keep (s8.trans S')) (Tups.of (s8.trans S'))
        refine q gr ks ps n3 _ okK okZ n3le dr ⟨l, fa, x, as, upd_same, ?_, ?_, (hgps.keep (Keep.mono (fun a h => .inr h) kg) tg).narrow fun a h => .inl h, ⟨dx', ka, ow, pr, es, kvs', ?_, tg _ _ eka, ?_, hes.tups tg, ?_, hpr.tups tg, ?_, ?_, ?_⟩, ogr, ol', ofa⟩ ((d9.same sb).at ngrH ogr) ogr
        · rw [upd_ne lg]
          exact S' _ _ (s8 _ _ hl7)
        · rw [upd_ne fg]
          exact S' _ _ (s8 _ _ hf7)
        · exact kg _ _ eg (ne_of_none (s9 _ _ eg8) nx).symm
        · exact kg _ _ eow (ne_of_none g10 now).symm
        · exact kg _ _ epr (ne_of_none g10 npr).symm
        · exact d9.s.off nx
        · exact d10.s.off now
        · exact d10.s.off npr
end
end K12
/-! K12, 19: the law's book, drawn -/
namespace K12
open PySem PySem.Spec PyProof.Rows L2 Ver
abbrev nBk : List Str := ["source", "ground", "most", "sizes", "tables", "kind", "variant", "kinds", "result", "some", "row"]
def LEntN (N : Addr → Prop) (H : Hp) (kv : Key × V) (e : Str × List V) : Prop := kv.1 = .inr e.1 ∧ ∃ l, kv.2 = .ref l ∧ H l = some (.lst e.2) ∧ ¬ N l
abbrev LEntsN (N : Addr → Prop) (H : Hp) (kvs : List (Key × V)) (tb : List (Str × List V)) : Prop := Paired (LEntN N H) kvs tb
theorem LEntsN.keep {N : Addr → Prop} {H H' : Hp} (k : Keep N H H') {kvs : List (Key × V)} {tb : List (Str × List V)} (h : LEntsN N H kvs tb) : LEntsN N H' kvs tb := Paired.imp (fun _ _ ⟨h1, l, h2, h3, h4⟩ => ⟨h1, l, h2, k _ _ h3 h4, h4⟩) h
theorem LEntsN.wide {N : Addr → Prop} {H : Hp} {x : Addr} (n : H x = none) {kvs : List (Key × V)} {tb : List (Str × List V)} (h : LEntsN N H kvs tb) : LEntsN (Or1 N x) H kvs tb := Paired.imp (fun _ _ ⟨h1, l, h2, h3, h4⟩ => ⟨h1, l, h2, h3, fun z => z.elim h4 (ne_of_none h3 n)⟩) h
theorem LEntsN.narrow {N N' : Addr → Prop} {H : Hp} (f : ∀ a, N' a → N a) {kvs : List (Key × V)} {tb : List (Str × List V)} (h : LEntsN N H kvs tb) : LEntsN N' H kvs tb := Paired.imp (fun _ _ ⟨h1, l, h2, h3, h4⟩ => ⟨h1, l, h2, h3, fun z => h4 (f _ z)⟩) h
theorem LEntsN.plain {N : Addr → Prop} {H : Hp} {kvs : List (Key × V)} {tb : List (Str × List V)} (h : LEntsN N H kvs tb) : LEnts H kvs tb := Paired.imp (fun _ _ ⟨h1, l, h2, h3, h4⟩ => ⟨h1, l, h2, h3⟩) h
theorem SigAt.wide {N : Addr → Prop} {H : Hp} {C g x : Addr} {ks : List Str} {ps : Prims} (n : H x = none) : SigAt N H C g ks ps → SigAt (Or1 N x) H C g ks ps
  | ⟨dx, ka, ow, pr, es, kvs, h1, h2, h3, h4, h5, h6, n1, n2, n3⟩ => ⟨dx, ka, ow, pr, es, kvs, h1, h2, h3, h4, h5, h6, fun z => z.elim n1 (ne_of_none h1 n), fun z => z.elim n2 (ne_of_none h3 n), fun z => z.elim n3 (ne_of_none h5 n)⟩
theorem SigAt.narrow {N N' : Addr → Prop} {H : Hp} {C g : Addr} {ks : List Str} {ps : Prims} (f : ∀ a, N' a → N a) : SigAt N H C g ks ps → SigAt N' H C g ks ps
  | ⟨dx, ka, ow, pr, es, kvs, h1, h2, h3, h4, h5, h6, n1, n2, n3⟩ => ⟨dx, ka, ow, pr, es, kvs, h1, h2, h3, h4, h5, h6, fun z => n1 (f _ z), fun z => n2 (f _ z), fun z => n3 (f _ z)⟩
abbrev bkD (sd td b : Addr) : List (Key × V) := [(Sum.inr "sizes", .ref sd), (Sum.inr "tables", .ref td), (Sum.inr "made", .ref b)]
/-- what the law drew of a book stands at bd -/
structure BkAt (N : Addr → Prop) (H : Hp) (CB C bd b : Addr) (ks : List Str) (ps : Prims) (sz : Sizes) (tb : List (Str × List V)) : Prop where
  ex : ∃ sd td tvs, H bd = some (.dK (bkD sd td b)) ∧ H sd = some (.dK (szD sz)) ∧ H td = some (.dK tvs) ∧ LEntsN N H tvs tb ∧ BookAt N H CB C b ks ps sz tb ∧ ¬ N bd ∧ ¬ N sd ∧ ¬ N td
theorem BkAt.keep {N : Addr → Prop} {H H' : Hp} {CB C bd b : Addr} {ks : List Str} {ps : Prims} {sz : Sizes} {tb : List (Str × List V)} (k : Keep N H H') (t : Tups H H') : BkAt N H CB C bd b ks ps sz tb → BkAt N H' CB C bd b ks ps sz tb
  | ⟨sd, td, tvs, h1, h2, h3, h4, h5, n1, n2, n3⟩ => ⟨sd, td, tvs, k _ _ h1 n1, k _ _ h2 n2, k _ _ h3 n3, h4.keep k, h5.keep k t, n1, n2, n3⟩
def spLBook (CB C : Addr) : Sp := fun vs H Q _ => ∃ (p c gr : Addr) (ks : List Str) (ps : Prims), vs = [.ref p, .ref gr, .int 4] ∧ Src p c H ∧ KindsOk ks ∧ PrimsOk ks ps ∧ GroundAt (Off p c) H C gr ks ps ∧
  ∀ bd b sz tb H', SizesOk ks sz → (∀ x ∈ sz, x.2 ≤ 4) → TabsOk ps sz tb → BkAt (Off p c) H' CB C bd b ks ps sz tb → Dr p c H H' → Q (.ref bd) H'
theorem flat_names (ps : Prims) : (ownersOf ps).map Prod.fst = (ps.flatMap Prod.snd).map (·.1) := by
  unfold ownersOf
  rw [List.map_flatMap, List.map_flatMap]
  exact congrArg (fun f : (Str × List Row) → List Str => List.flatMap f ps) (funext fun p => by rw [List.map_map]; rfl)
/-- the tables so far -/
abbrev TabsIn (sz : Sizes) (tb : List (Str × List V)) (rows : List Row) : Prop := Paired (fun (e : Str × List V) (r : Row) => e.1 = r.1 ∧ TabOk sz r.2.1 r.2.2 e.2) tb rows
theorem tabs_names {sz : Sizes} : ∀ {tb : List (Str × List V)} {rows : List Row}, TabsIn sz tb rows → tb.map Prod.fst = rows.map (·.1)
  | _, _, .nil => rfl
  | e :: tb, r :: rows, .cons h t => by rw [List.map_cons, List.map_cons, h.1, tabs_names t]
theorem Paired.at2 {α β : Type} {R : α → β → Prop} : ∀ {as : List α} {bs : List β} {i : Nat} {b : β}, Paired R as bs → bs[i]? = some b → ∃ a, as[i]? = some a ∧ R a b
  | _, _, _, _, .nil, e => by simp at e
  | _, _, 0, _, .cons h _, e => by
    simp at e
    subst e
    exact ⟨_, rfl, h⟩
  | _, _, i + 1, _, .cons _ t, e => by
    obtain ⟨a, h1, h2⟩ := Paired.at2 (i := i) t (by simpa using e)
    exact ⟨a, by simpa using h1, h2⟩
theorem tabs_ok {ks : List Str} {ps : Prims} {sz : Sizes} {tb : List (Str × List V)} (ok : PrimsOk ks ps) (h : TabsIn sz tb (ps.flatMap Prod.snd)) : TabsOk ps sz tb := by
  have hn : tb.map Prod.fst = (ownersOf ps).map Prod.fst := by rw [tabs_names h, flat_names]
  refine ⟨hn, fun e he => ?_⟩
  obtain ⟨p, hp, hm⟩ := List.mem_flatMap.mp he
  obtain ⟨r, hr, rfl⟩ := List.mem_map.mp hm
  obtain ⟨j, hj, ej⟩ := List.getElem_of_mem (List.mem_flatMap.mpr ⟨p, hp, hr⟩ : r ∈ ps.flatMap Prod.snd)
  obtain ⟨x, hx, e1, e2⟩ := Paired.at2 h (by rw [List.getElem?_eq_getElem hj, ej] : (ps.flatMap Prod.snd)[j]? = some r)
  refine ⟨x.2, ?_, e2⟩
  show tb.lookup r.1 = some x.2
  rw [← e1]
  exact lookup_at (by rw [hn]; exact ok.vnames) hx
section
variable {P : Program} {w : World} {K : PySem.W.Frag} {mg : Str → Option Value} {base : Heap} {CB C : Addr}
theorem scBk : FnScope nBk ["source", "ground", "most"] (defScope sBook) := ⟨rfl, rfl, rfl, by decide +kernel, rfl, by decide +kernel, by decide +kernel⟩
theorem ok_lbook {f fP fO fR fC fI : Addr} {fd qP qO qR qC qI : FuncData} (F : Fun K "_law_book" "_law_book" sBook f fd) (T : Txt mg) (Gs : GlobS mg) (GP : FnOk P w K mg base CX0 1 fP qP ["source", "many"] spPick) (DP : Def K mg "_law_pick" fP) (bP : Binds K qP ["source", "many"] [])
    (GO : FnOk P w K mg base CX0 2 fO qO ["source", "some"] spOf) (DO : Def K mg "_law_of" fO) (bO : Binds K qO ["source", "some"] []) (GR : FnOk P w K mg base CX0 1 fR qR ["ground"] (spRowsOfV C)) (DR : Def K mg "_law_rows_of_variants" fR) (bR : Binds K qR ["ground"] [])
    (GC : FnOk P w K mg base CX0 1 fC qC ["kinds", "sizes"] spChoices) (DC : Def K mg "_law_choices" fC) (bC : Binds K qC ["kinds", "sizes"] [])
    (M : Mk K CB fI) (mBk : mg "Book" = some (.ref CB)) (GI : FnOk P w K mg base CX0 5 fI qI ["self", "signature", "sizes", "tables"] (spBookInit CB C)) (bI : Binds K qI ["self", "signature", "sizes", "tables"] []) :
    FnOk P w K mg base CX0 7 f fd ["source", "ground", "most"] (spLBook CB C) := by
  refine F.ok scBk (fun vs H Q E h => ?_) (fun cdv A outer s H vs Q E hr h => ?_)
  · obtain ⟨p, c, gr, ks, ps, rfl, _⟩ := h
    rfl
  · obtain ⟨p, c, gr, ks, ps, rfl, S, okK, okP, hG, q⟩ := h
    have hu := hu_of hr
    have hr1 : Room 1 _ := hr.mono (by decide)
    have hr2 : Room 2 _ := hr.mono (by decide)
    refine ⟨_, pss_cons (ps_par (i := 3) (j := 4) (by rfl) scBk.nd rfl rfl (by decide) rfl rfl (pa_cons pe_dnewK (pa_cons pe_dnewK pa_nil)) (by rfl))
      (pss_cons (ps_for PassesOwn.never rfl (pi_list (pe_dget hu (pv 1) pe_str (fun _ _ => rfl))) (pg_name (i := 5) scBk.nd rfl (.inl rfl))
        (pss_one (ps_dput hu (pv 3) (pv 5) (pe_op op_add pe_int (pe_call GP hr1 (by rfl) DP.gl DP.kp bP .nil pass0 (pa_cons (pv 0) (pa_cons (pv 2) pa_nil)))) rfl)))
      (pss_cons (ps_for PassesOwn.never rfl (pi_list (pe_call GR hr1 (by rfl) DR.gl DR.kp bR .nil pass0 (pa_cons (pv 1) pa_nil))) (pg_tup (by rfl) (pgs_cons (pg_name (i := 6) scBk.nd rfl (.inl rfl)) (pgs_cons (pg_name (i := 7) scBk.nd rfl (.inl rfl)) (pgs_cons (pg_name (i := 8) scBk.nd rfl (.inl rfl)) pgs_nil))))
        (pss_cons (ps_set (i := 9) scBk.nd rfl (.inr rfl) (pe_ifExp (pt_cmpR op_eq (pv 8) pe_str (nomark _)) (pe_lst (pa_cons pe_str (pa_cons pe_str pa_nil))) (pe_listRg rfl (by rfl) Gs.list (prg_1 (by rfl) T.range (pe_dget hu (pv 3) (pv 8) (fun _ _ => rfl))))))
        (pss_one (ps_dput hu (pv 4) (pv 6) (pe_lc (own := [("row", 10)]) (g := gName 10) (tt := tYes) rfl scBk.nd (pi_list (pe_call GC hr1 (by rfl) DC.gl DC.kp bC .nil pass0 (pa_cons (pv 7) (pa_cons (pv 3) pa_nil)))) (blkOk_by (N := nBk) (sc := defScope sBook) (by decide +kernel)) (fun _ _ _ _ _ => pg_name (i := 10) scBk.nd rfl (.inl rfl)) (fun _ _ _ _ _ => pts_nil)
          (fun _ _ _ _ _ => pe_call GO hr2 (by rfl) DO.gl DO.kp bO .nil pass0 (pa_cons (pv 0) (pa_cons (pv 9) pa_nil)))) rfl))))
      (pss_one (ps_ret (pe_disp (pps_cons pe_str (pv 3) (pps_cons pe_str (pv 4) (pps_cons pe_str (pe_make M GI hr (by rfl) mBk bI .nil pass0 (pa_cons (pe_dget hu (pv 1) pe_str (fun _ _ => rfl)) (pa_cons (pv 3) (pa_cons (pv 4) pa_nil)))) pps_nil))) (by rfl) (by rfl) (fun z => by cases z) (by decide)))))), ?_⟩
    have d0 : Dr p c H H := Dr.refl S
    obtain ⟨l, fg, g, as, g1, g2, g3, g4, g5, ngr, nl, nfg⟩ := id hG
    intro sd nsd
    obtain ⟨H1, z, s1, e1⟩ := fresh nsd (.dK [])
    rw [z]
    clear z
    have osd := S.off nsd
    have d1 := d0.same s1
    intro td ntd
    obtain ⟨H2, z, s2, e2⟩ := fresh ntd (.dK [])
    rw [z]
    clear z
    have otd := d1.s.off ntd
    have ntdH := d1.none ntd
    have d2 := d1.same s2
    have sdtd : sd ≠ td := ne_of_none e1 ntd
    refine ⟨_, _, rfl, ?_⟩
    have gK : DGet H2 gr (.str "kinds") (some (.ref l)) := DGet.k (k := Sum.inr "kinds") (s2 _ _ (s1 _ _ g1))
    refine ⟨_, rfl, gr, .ref l, rfl, gK, l, rfl, ⟨_, SqL.of (s2 _ _ (s1 _ _ g2))⟩, for_it (walk_list (K := K) (a := l) (xs := ks.map V.str)) (fun i σ H3 => Dr p c H H3 ∧ H3 td = some (.dK []) ∧ ∃ sz v5, σ = [some (.ref p), some (.ref gr), some (.int 4), some (.ref sd), some (.ref td), v5, none, none, none, none, none] ∧
        H3 sd = some (.dK (szD sz)) ∧ sz.map Prod.fst = ks.take i ∧ ∀ x ∈ sz, 1 ≤ x.2 ∧ x.2 ≤ 4)
      ⟨d2, e2, [], _, rfl, s2 _ _ e1, rfl, fun x h => nomatch h⟩ (fun i σ H3 _ ⟨d, _⟩ => SqL.of (d.k _ _ g2 nl)) ?_ ?_⟩
    · clear d2 e2 s2 d1 e1 s1 gK
      rintro i x σ H3 H4 hi ⟨d3, etd, sz, v5, rfl, esd, hk, hb⟩ ⟨rfl, hx⟩
      rw [List.getElem?_map] at hx
      obtain ⟨k, ek, rfl⟩ := Option.map_eq_some_iff.mp hx
      refine ⟨_, rfl, _, rfl, p, c, 4, rfl, d3.s, by decide, by decide, fun r H5 r0 r1 k5 S5 => ?_⟩
      have d5 : Dr p c H H5 := d3.trans ⟨k5, S5⟩
      have esd5 := k5 _ _ esd osd
      have len : (szD sz).length < sizeLine := by
        unfold szD
        rw [List.length_map]
        have := congrArg List.length hk
        rw [List.length_map, List.length_take] at this
        have := okK.few
        exact small1000 (by omega)
      have nk : k ∉ sz.map Prod.fst := by
        rw [hk]
        intro hm
        obtain ⟨j, hj, ej⟩ := List.getElem_of_mem hm
        rw [List.length_take] at hj
        rw [List.getElem_take] at ej
        obtain ⟨hi1, hi2⟩ := List.getElem?_eq_some_iff.mp ek
        have := (List.getElem_inj okK.nod).mp (ej.trans hi2.symm)
        omega
      have nl : sz.lookup k = none := by
        cases el : sz.lookup k with
        | none => rfl
        | some n => exact absurd (List.mem_map.mpr ⟨_, lookup_mem el, rfl⟩) nk
      refine ⟨_, _, rfl, rfl, _, rfl, _, rfl, sd, _, rfl, DPut.k (k := Sum.inr k) esd5 len, ?_⟩
      rw [putK_new _ (sz_none nl)]
      refine ⟨d5.at nsd osd, ?_, sz ++ [(k, 1 + r)], _, rfl, ?_, ?_, ?_⟩
      · rw [upd_ne sdtd.symm]
        exact k5 _ _ etd otd
      · rw [upd_same]
        unfold szD
        rw [List.map_append]
        rfl
      · rw [List.map_append, hk, List.take_add_one, ek]
        rfl
      · intro x hx
        rcases List.mem_append.mp hx with hx | hx
        · exact hb x hx
        · cases List.mem_singleton.mp hx
          exact ⟨by show (1 : Int) ≤ 1 + r; omega, by show (1 + r : Int) ≤ 4; omega⟩
    · clear d2 e2 s2 d1 e1 s1 gK
      rintro σ H3 ⟨d3, etd, sz, v5, rfl, esd, hk, hb⟩
      rw [List.length_map, List.take_length] at hk
      have okS : SizesOk ks sz := ⟨hk, fun x h => (hb x h).1, fun x h => by have := (hb x h).2; omega⟩
      have low : ∀ k ∈ ks, ∃ i, sz.lookup k = some i ∧ 1 ≤ i ∧ i ≤ 4 := fun k h => by
        obtain ⟨i, h1, h2⟩ := look_mem (sz := sz) (n := k) (by rw [hk]; exact h)
        exact ⟨i, h1, (hb _ h2).1, (hb _ h2).2⟩
      have hG3 := hG.keep d3.k (S.tups d3.k)
      refine ⟨_, rfl, Off p c, gr, ks, ps, rfl, hG3, okP.few, fun L rs H4 s4 nL eL hrows => ?_⟩
      have d4 := d3.same s4
      have oL := d3.s.off nL
      have nLH := d3.none nL
      have spl : rs.length = (ps.flatMap Prod.snd).length := Paired.length hrows
      have fl := flat_len ps
      have few := okP.few
      have Lsd : L ≠ sd := (ne_of_none esd nL).symm
      have Ltd : L ≠ td := (ne_of_none etd nL).symm
      have hrN : ∀ {Hx : Hp}, Dr p c H4 Hx → RowsAt Hx rs (ps.flatMap Prod.snd) := fun d => hrows.tups (d4.s.tups d.k)
      have esd4 := s4 _ _ esd
      have etd4 := s4 _ _ etd
      refine ⟨L, rfl, ⟨_, SqL.of eL⟩, for_it (walk_list (K := K) (a := L) (xs := rs.map V.ref)) (fun i σ H5 => Dr p c H H5 ∧ Keep (Or1 (Off p c) td) H4 H5 ∧ ∃ tvs tb v6 v7 v8 v9, σ = [some (.ref p), some (.ref gr), some (.int 4), some (.ref sd), some (.ref td), v5, v6, v7, v8, v9, none] ∧
          H5 td = some (.dK tvs) ∧ LEntsN (Or1 (Off p c) td) H5 tvs tb ∧ TabsIn sz tb ((ps.flatMap Prod.snd).take i))
        ⟨d4, Keep.refl, [], [], _, _, _, _, rfl, etd4, .nil, .nil⟩ (fun i σ H5 _ ⟨_, k, _⟩ => SqL.of (k _ _ eL (fun z => z.elim oL Ltd))) ?_ ?_⟩
      · rintro i x σ H5 H6 hi ⟨d6, k6, tvs, tb, v6, v7, v8, v9, rfl, etd6, hen, htb⟩ ⟨rfl, hx⟩
        rw [List.getElem?_map] at hx
        obtain ⟨ra, hra, rfl⟩ := Option.map_eq_some_iff.mp hx
        have t6 : Tups H4 H6 := fun b xs e => k6 _ _ e (fun z => by
          rcases z with z | z
          · obtain ⟨_, ns, l1, m1, t1, hp1, hc1, _⟩ := d4.s
            rcases z with z | z
            · rw [z, hp1] at e
              cases e
            · rw [z, hc1] at e
              cases e
          · rw [z, etd4] at e
            cases e)
        obtain ⟨r, er, o, t1, t2⟩ := Paired.at (hrows.tups t6) hra
        have esd6 := k6 _ _ esd4 (fun z => z.elim osd sdtd)
        obtain ⟨p0, hp0, hr0⟩ := List.mem_flatMap.mp (List.mem_of_getElem? er)
        obtain ⟨wl, wk, wr⟩ := okP.own p0 hp0 r hr0
        have fewW : FewOf sz r.2.1 := fun k hk => low k (wk k hk)
        refine ⟨ra, _, rfl, SqT.of t1, rfl, _, _, rfl, _, _, rfl, _, _, rfl, rfl, ?_⟩
        refine ⟨_, rfl, rfl, _, rfl, ite2 (fun hb' => ?_) (fun hb' => ?_)⟩
        · have rb : r.2.2 = "bit" := by simpa using hb'
          refine ⟨by show 2 ≤ sizeLine; decide, fun so nso => ?_⟩
          have entOk : ∀ v ∈ ([.str "yes", .str "no"] : List V), EntOk sz r.2.2 v := fun v hv => .inl ⟨rb, by simpa using hv⟩
          have lso : 1 ≤ ([.str "yes", .str "no"] : List V).length ∧ ([.str "yes", .str "no"] : List V).length ≤ 1000 := by decide
          generalize ([.str "yes", .str "no"] : List V) = so' at entOk lso
          obtain ⟨H7, z, s7, eso⟩ := fresh nso (.lst so')
          rw [z]
          clear z
          have oso := d6.s.off nso
          have d7 := d6.same s7
          refine ⟨_, rfl, _, rfl, o, sd, r.2.1, sz, rfl, s7 _ _ t2, s7 _ _ esd6, wl, fewW, fun LC cs H8 s8 nLC eLC hcs => ?_⟩
          have d8 := d7.same s8
          have oLC := d7.s.off nLC
          have cl : (cs.length : Int) = choices sz r.2.1 := by
            rw [Paired.length hcs]
            exact (rows_ok wl (fun k hk => by obtain ⟨i, e, i1, _⟩ := fewW k hk; rw [e]; show (0 : Int) ≤ i; omega)).many
          have c16 := (choice_16 fewW wl).2
          have eso8 := s8 _ _ eso
          refine ⟨LC, rfl, ⟨_, SqL.of eLC⟩, fun D nD => lc_it (walk_list (K := K) (a := LC) (xs := cs.map V.ref)) (fun t H9 => Dr p c H8 H9 ∧ ∃ ys, H9 D = some (.lst ys) ∧ ys.length = t ∧ ∀ y ∈ ys, EntOk sz r.2.2 y) ⟨(Dr.refl d8.s).same (same_new nD), [], upd_same, rfl, fun y h => nomatch h⟩ (fun t H9 _ ⟨d, _⟩ => SqL.of (d.k _ _ eLC oLC)) ?_ ?_⟩
          · rintro t x H9 Ha ht ⟨d9, ys, eD, ly, hy⟩ ⟨rfl, hx⟩
            have oD := d8.s.off nD
            rw [List.length_map] at ht
            refine ⟨rfl, _, rfl, _, rfl, p, c, so, _, rfl, d9.s, d9.k _ _ eso8 oso, oso, lso.1, lso.2, fun v Hb hv kb Sb => ?_⟩
            refine ⟨ys, kb _ _ eD oD, ?_, (d9.trans ⟨kb, Sb⟩).at nD oD, ys ++ [v], upd_same, ?_, ?_⟩
            · rw [ly]
              exact small1000 (by omega)
            · rw [List.length_append, ly]
              rfl
            · intro y h
              rcases List.mem_append.mp h with h | h
              · exact hy y h
              · cases List.mem_singleton.mp h
                exact entOk v hv
          · rintro H9 ⟨d9, ys, eD, ly, hy⟩
            rw [List.length_map] at ly
            have oD := d8.s.off nD
            have nDH := d8.none nD
            have etd9 : H9 td = some (.dK tvs) := d9.k _ _ (s8 _ _ (s7 _ _ etd6)) otd
            have tlen : tvs.length < sizeLine := by
              rw [Paired.length hen, Paired.length htb, List.length_take]
              exact small1000 (by omega)
            have nk : valV tvs (.inr r.1 : Key) = none := by
              cases e : valV tvs (.inr r.1 : Key) with
              | none => rfl
              | some v =>
                exfalso
                have m := valV_in e
                rw [lents_keys hen.plain] at m
                obtain ⟨p', hp', e'⟩ := List.mem_map.mp m
                have e2 : p'.1 = r.1 := Sum.inr.inj e'
                obtain ⟨j, hj, ej⟩ := List.getElem_of_mem hp'
                have h1 := tabs_names htb
                have nod := okP.vnames
                rw [flat_names] at nod
                have a1 : ((ps.flatMap Prod.snd).map (·.1))[j]? = some r.1 := by
                  have := congrArg (fun l => l[j]?) h1
                  simp only [List.getElem?_map, List.getElem?_eq_getElem hj, Option.map_some, ej, e2] at this
                  have lj : j < i := by
                    have := Paired.length htb
                    rw [List.length_take] at this
                    omega
                  rw [List.getElem?_take, if_pos lj] at this
                  rw [List.getElem?_map]
                  exact this.symm
                have a2 : ((ps.flatMap Prod.snd).map (·.1))[i]? = some r.1 := by rw [List.getElem?_map, er]; rfl
                obtain ⟨b1, b2⟩ := List.getElem?_eq_some_iff.mp a1
                obtain ⟨b3, b4⟩ := List.getElem?_eq_some_iff.mp a2
                have := (List.getElem_inj nod).mp (b2.trans b4.symm)
                have lj : j < i := by
                  have := Paired.length htb
                  rw [List.length_take] at this
                  omega
                omega
            refine ⟨_, rfl, _, rfl, td, _, rfl, DPut.k (k := Sum.inr r.1) etd9 tlen, ?_⟩
            rw [putK_new _ nk]
            have k69 : Keep (Off p c) H6 H9 := (Same.keep s7).trans ((Same.keep s8).trans d9.k)
            have Dtd : D ≠ td := (ne_of_none (s8 _ _ (s7 _ _ etd6)) nD).symm
            refine ⟨(d8.trans d9).at ntdH otd, (k6.trans (Keep.mono (fun a h => .inl h) k69)).trans (Keep.mono (fun a h => .inr h) keep_upd), tvs ++ [(.inr r.1, .ref D)], tb ++ [(r.1, ys)], some (.str r.1), some (.ref o), some (.str r.2.2), some (.ref so), rfl, upd_same, ?_, ?_⟩
            · refine Paired.snoc ((hen.keep (Keep.mono (fun a h => .inl h) k69)).keep (Keep.mono (fun a h => .inr h) keep_upd)) ⟨rfl, D, rfl, ?_, fun z => z.elim oD Dtd⟩
              rw [upd_ne Dtd]
              exact eD
            · rw [List.take_add_one, er]
              exact Paired.snoc htb ⟨rfl, ⟨by rw [ly]; exact cl, hy, by show ys.length ≤ 1000; omega⟩⟩
        · have rb : r.2.2 ≠ "bit" := by simpa using hb'
          obtain ⟨n, hn, n1, n4⟩ := low _ (wr.resolve_left rb)
          have gt : DGet H6 sd (.str r.2.2) (some (.int n)) := sz_some hn ▸ DGet.k (k := Sum.inr r.2.2) esd6
          refine ⟨_, rfl, _, rfl, sd, .int n, rfl, gt, n, rfl, .of_le (by decide) (by omega) (by decide) (by omega), fun so nso => ?_⟩
          have entOk : ∀ v ∈ rgV 0 n, EntOk sz r.2.2 v := fun v hv => by
            obtain ⟨i, hi, rfl⟩ := List.mem_map.mp hv
            have := List.mem_range.mp hi
            exact .inr ⟨rb, _, n, rfl, hn, by omega, by omega⟩
          have lso : 1 ≤ (rgV 0 n).length ∧ (rgV 0 n).length ≤ 1000 := by
            rw [rgV_length]
            omega
          clear gt
          generalize rgV 0 n = so' at entOk lso
          obtain ⟨H7, z, s7, eso⟩ := fresh nso (.lst so')
          rw [z]
          clear z
          have oso := d6.s.off nso
          have d7 := d6.same s7
          refine ⟨_, rfl, _, rfl, o, sd, r.2.1, sz, rfl, s7 _ _ t2, s7 _ _ esd6, wl, fewW, fun LC cs H8 s8 nLC eLC hcs => ?_⟩
          have d8 := d7.same s8
          have oLC := d7.s.off nLC
          have cl : (cs.length : Int) = choices sz r.2.1 := by
            rw [Paired.length hcs]
            exact (rows_ok wl (fun k hk => by obtain ⟨i, e, i1, _⟩ := fewW k hk; rw [e]; show (0 : Int) ≤ i; omega)).many
          have c16 := (choice_16 fewW wl).2
          have eso8 := s8 _ _ eso
          refine ⟨LC, rfl, ⟨_, SqL.of eLC⟩, fun D nD => lc_it (walk_list (K := K) (a := LC) (xs := cs.map V.ref)) (fun t H9 => Dr p c H8 H9 ∧ ∃ ys, H9 D = some (.lst ys) ∧ ys.length = t ∧ ∀ y ∈ ys, EntOk sz r.2.2 y) ⟨(Dr.refl d8.s).same (same_new nD), [], upd_same, rfl, fun y h => nomatch h⟩ (fun t H9 _ ⟨d, _⟩ => SqL.of (d.k _ _ eLC oLC)) ?_ ?_⟩
          · rintro t x H9 Ha ht ⟨d9, ys, eD, ly, hy⟩ ⟨rfl, hx⟩
            have oD := d8.s.off nD
            rw [List.length_map] at ht
            refine ⟨rfl, _, rfl, _, rfl, p, c, so, _, rfl, d9.s, d9.k _ _ eso8 oso, oso, lso.1, lso.2, fun v Hb hv kb Sb => ?_⟩
            refine ⟨ys, kb _ _ eD oD, ?_, (d9.trans ⟨kb, Sb⟩).at nD oD, ys ++ [v], upd_same, ?_, ?_⟩
            · rw [ly]
              exact small1000 (by omega)
            · rw [List.length_append, ly]
              rfl
            · intro y h
              rcases List.mem_append.mp h with h | h
              · exact hy y h
              · cases List.mem_singleton.mp h
                exact entOk v hv
          · rintro H9 ⟨d9, ys, eD, ly, hy⟩
            rw [List.length_map] at ly
            have oD := d8.s.off nD
            have nDH := d8.none nD
            have etd9 : H9 td = some (.dK tvs) := d9.k _ _ (s8 _ _ (s7 _ _ etd6)) otd
            have tlen : tvs.length < sizeLine := by
              rw [Paired.length hen, Paired.length htb, List.length_take]
              exact small1000 (by omega)
            have nk : valV tvs (.inr r.1 : Key) = none := by
              cases e : valV tvs (.inr r.1 : Key) with
              | none => rfl
              | some v =>
                exfalso
                have m := valV_in e
                rw [lents_keys hen.plain] at m
                obtain ⟨p', hp', e'⟩ := List.mem_map.mp m
                have e2 : p'.1 = r.1 := Sum.inr.inj e'
                obtain ⟨j, hj, ej⟩ := List.getElem_of_mem hp'
                have h1 := tabs_names htb
                have nod := okP.vnames
                rw [flat_names] at nod
                have a1 : ((ps.flatMap Prod.snd).map (·.1))[j]? = some r.1 := by
                  have := congrArg (fun l => l[j]?) h1
                  simp only [List.getElem?_map, List.getElem?_eq_getElem hj, Option.map_some, ej, e2] at this
                  have lj : j < i := by
                    have := Paired.length htb
                    rw [List.length_take] at this
                    omega
                  rw [List.getElem?_take, if_pos lj] at this
                  rw [List.getElem?_map]
                  exact this.symm
                have a2 : ((ps.flatMap Prod.snd).map (·.1))[i]? = some r.1 := by rw [List.getElem?_map, er]; rfl
                obtain ⟨b1, b2⟩ := List.getElem?_eq_some_iff.mp a1
                obtain ⟨b3, b4⟩ := List.getElem?_eq_some_iff.mp a2
                have := (List.getElem_inj nod).mp (b2.trans b4.symm)
                have lj : j < i := by
                  have := Paired.length htb
                  rw [List.length_take] at this
                  omega
                omega
            refine ⟨_, rfl, _, rfl, td, _, rfl, DPut.k (k := Sum.inr r.1) etd9 tlen, ?_⟩
            rw [putK_new _ nk]
            have k69 : Keep (Off p c) H6 H9 := (Same.keep s7).trans ((Same.keep s8).trans d9.k)
            have Dtd : D ≠ td := (ne_of_none (s8 _ _ (s7 _ _ etd6)) nD).symm
            refine ⟨(d8.trans d9).at ntdH otd, (k6.trans (Keep.mono (fun a h => .inl h) k69)).trans (Keep.mono (fun a h => .inr h) keep_upd), tvs ++ [(.inr r.1, .ref D)], tb ++ [(r.1, ys)], some (.str r.1), some (.ref o), some (.str r.2.2), some (.ref so), rfl, upd_same, ?_, ?_⟩
            · refine Paired.snoc ((hen.keep (Keep.mono (fun a h => .inl h) k69)).keep (Keep.mono (fun a h => .inr h) keep_upd)) ⟨rfl, D, rfl, ?_, fun z => z.elim oD Dtd⟩
              rw [upd_ne Dtd]
              exact eD
            · rw [List.take_add_one, er]
              exact Paired.snoc htb ⟨rfl, ⟨by rw [ly]; exact cl, hy, by show ys.length ≤ 1000; omega⟩⟩
      · rintro σ H5 ⟨d5, k5, tvs, tb, v6, v7, v8, v9, rfl, etd5, hen, htb⟩
        rw [List.length_map, spl, List.take_length] at htb
        have okT := tabs_ok okP htb
        have esd5 := k5 _ _ esd4 (fun z => z.elim osd sdtd)
        intro bd nbd
        obtain ⟨H6, z, s6, ebd⟩ := fresh nbd (.dK [])
        rw [z]
        clear z
        have d6 := d5.same s6
        have obd := d5.s.off nbd
        have nbdH := d5.none nbd
        obtain ⟨l', fg', g', as', g1', g2', g3', g4', g5', _⟩ := hG.keep d6.k (S.tups d6.k)
        have eg : g' = g ∧ l' = l := by
          have h1 := d6.k _ _ g1 ngr
          rw [h1] at g1'
          cases g1'
          exact ⟨rfl, rfl⟩
        obtain ⟨rfl, rfl⟩ := eg
        have gM : DGet H6 gr (.str "made") (some (.ref g')) := DGet.k (k := Sum.inr "made") g1'
        refine ⟨_, rfl, _, rfl, _, rfl, gr, .ref g', rfl, gM, _, rfl, _, rfl, ?_⟩
        intro x dx nx ndx ne
        have s10 : Same H6 (upd (upd H6 dx (.own x)) x (.ins CB dx [])) := (same_new ndx).trans (same_new (by rw [upd_ne ne.symm]; exact nx))
        have x10 : upd (upd H6 dx (.own x)) x (.ins CB dx []) x = some (.ins CB dx []) := upd_same
        generalize upd (upd H6 dx (.own x)) x (.ins CB dx []) = H10 at s10 x10
        have d10 := d6.same s10
        have sg0 : SigAt (Or1 (Off p c) sd) H C g' ks ps := g5.wide nsd
        have sg10 : SigAt (Or1 (Off p c) sd) H10 C g' ks ps := sg0.keep (Keep.mono (fun a h => .inl h) d10.k) (S.tups d10.k)
        have esd6 := s6 _ _ esd5
        have etd6 := s6 _ _ etd5
        have hen6 := (hen.keep (Same.keep s6)).keep (Same.keep s10)
        refine ⟨_, x, dx, g', sd, td, ks, ps, sz, tvs, tb, rfl, x10, sg10, .inr rfl, s10 _ _ esd6, okS, okP, s10 _ _ etd6, hen6.plain, okT, fun H' dx' s' t' tvs' back eg es' et' hven ns' nt' => ?_⟩
        have sb : Same H6 H' := fun b o e => back b o (ne_of_none e nx) (s10 _ _ e)
        have ebd' := sb _ _ ebd
        refine ⟨rfl, ebd', [(Sum.inr "sizes", .ref sd), (Sum.inr "tables", .ref td), (Sum.inr "made", .ref x)], rfl, by show 3 ≤ 15; decide, ?_⟩
        have tg : Tups H' (upd H' bd (.dK (mergeK [] [(Sum.inr "sizes", .ref sd), (Sum.inr "tables", .ref td), (Sum.inr "made", .ref x)]))) := Tups.lock ebd' fun _ z => nomatch z
        have kg : Keep (· = bd) H' (upd H' bd (.dK (mergeK [] [(Sum.inr "sizes", .ref sd), (Sum.inr "tables", .ref td), (Sum.inr "made", .ref x)]))) := keep_upd
        have b10 := s10 _ _ ebd
        have d' := d6.same sb
        have xbd : x ≠ bd := (ne_of_none ebd nx).symm
        have hen' : LEntsN (Or1 (Off p c) bd) H' tvs tb := (((hen.narrow fun a h => .inl h).wide nbd).keep (Same.keep s6)).keep (Same.keep sb)
        have sg' : SigAt (Or1 (Off p c) bd) H' C g' ks ps := (g5.wide nbdH).keep (Keep.mono (fun a h => .inl h) d'.k) (S.tups d'.k)
        refine q bd x sz tb _ okS (fun x h => (hb x h).2) okT ⟨sd, td, tvs, upd_same, ?_, ?_, (hen'.keep (Keep.mono (fun a h => .inr h) kg)).narrow fun a h => .inl h, ⟨dx', g', s', t', tvs', ?_, (sg'.keep (Keep.mono (fun a h => .inr h) kg) tg).narrow fun a h => .inl h, ?_, ?_, hven.tups tg, ?_, ?_, ?_⟩, obd, osd, otd⟩ (d'.at nbdH obd)
        · rw [upd_ne (ne_of_none esd5 nbd)]
          exact sb _ _ esd6
        · rw [upd_ne (ne_of_none etd5 nbd)]
          exact sb _ _ etd6
        · exact kg _ _ eg xbd
        · exact kg _ _ es' (ne_of_none b10 ns').symm
        · exact kg _ _ et' (ne_of_none b10 nt').symm
        · exact d6.s.off nx
        · exact d10.s.off ns'
        · exact d10.s.off nt'
end
end K12
/-! K12, 20: values that don't fit, drawn -/
namespace K12
open PySem PySem.Spec PyProof.Rows L2 Ver
abbrev nOd : List Str := ["source", "sizes", "kinds", "given", "at", "kind", "number", "odd", "bent", "other"]
/-- the token nought of a kind -/
def tk0 (k : Str) : PyData := .tuple [.str "tok", .str k, .int 0]
/-- the given tokens -/
def GivAt (N : Addr → Prop) (H : Hp) (ts : List Addr) (ws : List Str) : Prop := Paired (fun t k => H t = some (.tup [.str "tok", .str k, .int 0]) ∧ ¬ N t) ts ws
theorem GivAt.da {N : Addr → Prop} {H : Hp} : ∀ {ts : List Addr} {ws : List Str}, GivAt N H ts ws → Das N H (ts.map V.ref) (ws.map tk0)
  | _, _, .nil => .nil
  | _, _, .cons ⟨h, n⟩ t => .cons (.tup h n (.cons (.str _) (.cons (.str _) (.cons (.int _) .nil)))) (GivAt.da t)
theorem Das.append {N : Addr → Prop} {H : Hp} : ∀ {vs ws : List V} {ds es : List PyData}, Das N H vs ds → Das N H ws es → Das N H (vs ++ ws) (ds ++ es)
  | _, _, _, _, .nil, q => q
  | _, _, _, _, .cons h t, q => .cons h (Das.append t q)
theorem Das.take {N : Addr → Prop} {H : Hp} : ∀ {vs : List V} {ds : List PyData} (n : Nat), Das N H vs ds → Das N H (vs.take n) (ds.take n)
  | _, _, 0, _ => .nil
  | _, _, _ + 1, .nil => .nil
  | _, _, n + 1, .cons h t => .cons h (Das.take n t)
theorem Das.drop {N : Addr → Prop} {H : Hp} : ∀ {vs : List V} {ds : List PyData} (n : Nat), Das N H vs ds → Das N H (vs.drop n) (ds.drop n)
  | _, _, 0, q => q
  | _, _, _ + 1, .nil => .nil
  | _, _, n + 1, .cons _ t => Das.drop n t
theorem cut_drop {xs : List V} {i : Nat} (h : i ≤ xs.length) : cutV xs (some (i : Int)) none = xs.drop i := by
  have e1 : HT.sIx xs.length xs.length none = xs.length := rfl
  have e0 : HT.sIx xs.length 0 (some (i : Int)) = i := by
    show (if (i : Int) < 0 then ((i : Int) + xs.length).toNat else min (i : Int).toNat xs.length) = i
    rw [if_neg (by omega)]
    simp
    omega
  unfold cutV
  rw [e0, e1, List.take_of_length_le (by rw [List.length_drop]; exact Nat.le_refl _)]
theorem cut_last {xs : List V} : cutV xs none (some (-1)) = xs.take (xs.length - 1) := by
  have e0 : HT.sIx xs.length 0 none = 0 := rfl
  have e1 : HT.sIx xs.length xs.length (some (-1)) = xs.length - 1 := by
    show (if (-1 : Int) < 0 then ((-1 : Int) + xs.length).toNat else min (-1 : Int).toNat xs.length) = _
    rw [if_pos (by decide)]
    omega
  unfold cutV
  rw [e0, e1, Nat.sub_zero, List.drop_zero]
/-- an odd thing in the place of a token of the kind k -/
def Bad1 (p c : Addr) (sz : Sizes) (k : Str) (H : Hp) (v : V) : Prop := ∃ d, Da (Off p c) H v d ∧ ShortT d ∧ (tokD sz d = false ∨ kindS d ≠ k)
theorem Bad1.keep {p c : Addr} {sz : Sizes} {k : Str} {H H' : Hp} {v : V} (h : Keep (Off p c) H H') : Bad1 p c sz k H v → Bad1 p c sz k H' v := fun ⟨d, h1, h2⟩ => ⟨d, h1.keep h, h2⟩
/-- the token nought of another kind -/
def OthTok (p c : Addr) (k : Str) (H : Hp) (v : V) : Prop := ∃ a o, v = .ref a ∧ H a = some (.tup [.str "tok", .str o, .int 0]) ∧ ¬ Off p c a ∧ o ≠ k ∧ o.length ≤ 1000
theorem OthTok.tups {p c : Addr} {k : Str} {H H' : Hp} {v : V} (t : Tups H H') : OthTok p c k H v → OthTok p c k H' v := fun ⟨a, o, h1, h2, h3⟩ => ⟨a, o, h1, t _ _ h2, h3⟩
/-- what is handed in and refused -/
def BadV (p c : Addr) (sz : Sizes) (ws : List Str) (H : Hp) (v : V) : Prop := ∃ d, Da (Off p c) H v d ∧ ShortV d ∧ okVals sz ws d = none
theorem BadV.keep {p c : Addr} {sz : Sizes} {ws : List Str} {H H' : Hp} {v : V} (h : Keep (Off p c) H H') : BadV p c sz ws H v → BadV p c sz ws H' v := fun ⟨d, h1, h2⟩ => ⟨d, h1.keep h, h2⟩
theorem ok_len {sz : Sizes} {ws : List Str} {ds : List PyData} (h : ds.length ≠ ws.length) : okVals sz ws (.tuple ds) = none := by
  have e : okSeq sz ws ds = false := by
    unfold okSeq
    rw [decide_eq_false, Bool.and_false]
    intro z
    exact h (by rw [← z, List.length_map])
  show (if okSeq sz ws ds = true then _ else _) = _
  rw [e]
  rfl
theorem ok_bad {sz : Sizes} {ws : List Str} {ds : List PyData} {i : Nat} {k : Str} {d : PyData} (hd : ds[i]? = some d) (hk : ws[i]? = some k) (b : tokD sz d = false ∨ kindS d ≠ k) : okVals sz ws (.tuple ds) = none := by
  have e : okSeq sz ws ds = false := by
    cases e : okSeq sz ws ds with
    | false => rfl
    | true =>
      exfalso
      unfold okSeq at e
      rw [Bool.and_eq_true, decide_eq_true_eq] at e
      rcases b with b | b
      · have := List.all_eq_true.mp e.1 d (List.mem_of_getElem? hd)
        rw [b] at this
        cases this
      · have := congrArg (fun l => l[i]?) e.2
        simp only [List.getElem?_map, hd, hk, Option.map_some] at this
        exact b (Option.some.inj this)
  show (if okSeq sz ws ds = true then _ else _) = _
  rw [e]
  rfl
theorem tk0_short {k : Str} (h : k.length ≤ 1000) : ShortT (tk0 k) := fun d hd => by
  simp only [List.mem_cons, List.not_mem_nil, or_false] at hd
  rcases hd with rfl | rfl | rfl
  · show (Str.ofString "tok").length ≤ 1000
    decide
  · exact h
  · trivial
theorem tok_neg {sz : Sizes} {k : Str} {i : Int} (h : i < 0) : tokD sz (.tuple [.str "tok", .str k, .int i]) = false := by
  show ((_ && (_ && decide (0 ≤ i))) && _) = false
  rw [decide_eq_false (by omega), Bool.and_false, Bool.and_false, Bool.false_and]
theorem tok_big {sz : Sizes} {k : Str} {i : Int} (h : sz.lookup k = some i) : tokD sz (.tuple [.str "tok", .str k, .int i]) = false := by
  show (_ && (match sz.lookup k with | some n => decide (i < n) | none => false)) = false
  rw [h]
  show (_ && decide (i < i)) = false
  rw [decide_eq_false (by omega), Bool.and_false]
theorem tok_none {sz : Sizes} {k : Str} {i : Int} (h : sz.lookup k = none) : tokD sz (.tuple [.str "tok", .str k, .int i]) = false := by
  show (_ && (match sz.lookup k with | some n => decide (i < n) | none => false)) = false
  rw [h, Bool.and_false]
theorem lookup_none {n : Str} {sz : Sizes} (h : n ∉ sz.map Prod.fst) : sz.lookup n = none := by
  cases e : sz.lookup n with
  | none => rfl
  | some i => exact absurd (List.mem_map.mpr ⟨_, lookup_mem e, rfl⟩) h
theorem Src.tupOff {p c : Addr} {H : Hp} (S : Src p c H) {t : Addr} {xs : List V} (e : H t = some (.tup xs)) : ¬ Off p c t := by
  obtain ⟨_, ns, l, m, u, hp, hc, _⟩ := S
  rintro (z | z)
  · rw [z, hp] at e
    cases e
  · rw [z, hc] at e
    cases e
def spOdd : Sp := fun vs H Q _ => ∃ (p c sd o gv : Addr) (ks ws : List Str) (sz : Sizes) (ts : List Addr), vs = [.ref p, .ref sd, .ref o, .ref gv] ∧ Src p c H ∧ H sd = some (.dK (szD sz)) ∧ ¬ Off p c sd ∧ H gv = some (.tup (ts.map V.ref)) ∧ ¬ Off p c gv ∧ GivAt (Off p c) H ts ws ∧
  (ws.length = 1 ∨ ws.length = 2) ∧ (∀ w ∈ ws, w ∈ ks) ∧ KindsOk ks ∧ ("zz" : Str) ∉ ks ∧ SizesOk ks sz ∧ ∀ v H', BadV p c sz ws H' v → Dr p c H H' → Q v H'
section
variable {P : Program} {w : World} {K : PySem.W.Frag} {mg : Str → Option Value} {base : Heap}
theorem scOd : FnScope nOd ["source", "sizes", "kinds", "given"] (defScope sOdd) := ⟨rfl, rfl, rfl, by decide +kernel, rfl, by decide +kernel, by decide +kernel⟩
theorem ok_odd {f fP fO : Addr} {fd qP qO : FuncData} (F : Fun K "_law_odd_values" "_law_odd_values" sOdd f fd) (T : Txt mg) (GP : FnOk P w K mg base CX0 1 fP qP ["source", "many"] spPick) (DP : Def K mg "_law_pick" fP) (bP : Binds K qP ["source", "many"] [])
    (GO : FnOk P w K mg base CX0 2 fO qO ["source", "some"] spOf) (DO : Def K mg "_law_of" fO) (bO : Binds K qO ["source", "some"] []) : FnOk P w K mg base CX0 3 f fd ["source", "sizes", "kinds", "given"] spOdd := by
  refine F.ok scOd (fun vs H Q E h => ?_) (fun cdv A outer s H vs Q E hr h => ?_)
  · obtain ⟨p, c, sd, o, gv, ks, ws, sz, ts, rfl, _⟩ := h
    rfl
  · obtain ⟨p, c, sd, o, gv, ks, ws, sz, ts, rfl, S, hsd, osd, hgv, ogv, hts, wl, wk, okK, zz, okS, q⟩ := h
    have hu := hu_of hr
    have hr1 : Room 1 _ := hr.mono (by decide)
    have hr2 : Room 2 _ := hr.mono (by decide)
    refine ⟨_, pss_cons (ps_set (i := 4) scOd.nd rfl (.inl rfl) (pe_call GP hr1 (by rfl) DP.gl DP.kp bP .nil pass0 (pa_cons (pv 0) (pa_cons (pe_callB (r := rLen K) call_len_seq (by rfl) T.len PySem.boot_len (pa_cons (pv 3) pa_nil)) pa_nil))))
      (pss_cons (ps_asg (pe_slice (r := rSlU K) sl_tupU (pe_ix ix_tup (pv 3) (pv 4) (fun _ _ => rfl)) (po_some pe_int) po_none) (pg_tup (by rfl) (pgs_cons (pg_name (i := 5) scOd.nd rfl (.inr rfl)) (pgs_cons (pg_name (i := 6) scOd.nd rfl (.inl rfl)) pgs_nil))))
      (pss_cons (ps_set (i := 7) scOd.nd rfl (.inl rfl) (pe_lst (pa_cons (pe_tup (pa_cons pe_str (pa_cons (pv 5) (pa_cons (pe_dget hu (pv 1) (pv 5) (fun _ _ => rfl)) pa_nil)))) (pa_cons (pe_tup (pa_cons pe_str (pa_cons (pv 5) (pa_cons (pe_op op_sub pe_int pe_int) pa_nil)))) (pa_cons (pe_tup (pa_cons pe_str (pa_cons (pv 5) (pa_cons pe_bl pa_nil)))) (pa_cons (pe_tup (pa_cons pe_str (pa_cons pe_str (pa_cons pe_int pa_nil)))) (pa_cons (pe_tup (pa_cons pe_str (pa_cons pe_str pa_nil))) (pa_cons pe_non pa_nil))))))))
      (pss_cons (ps_set (i := 7) scOd.nd rfl (.inl rfl) (pe_op op_cat (pv 7) (pe_lst (pa_cons (pe_lstB (pa_cons pe_str (pa_cons (pv 5) (pa_cons (pv 6) pa_nil)))) (pa_cons (pe_tup (pa_cons pe_str (pa_cons (pv 5) pa_nil))) (pa_cons (pe_tup (pa_cons pe_str pa_nil)) (pa_cons (pe_tup (pa_cons pe_str (pa_cons pe_int pa_nil))) (pa_cons (pv 5) (pa_cons (pe_tup (pa_cons pe_str (pa_cons (pv 5) (pa_cons (pv 6) (pa_cons pe_int pa_nil))))) pa_nil)))))))))
      (pss_cons (ps_set (i := 7) scOd.nd rfl (.inl rfl) (pe_op op_cat (pv 7) (pe_lock (pe_lc (own := [("other", 9)]) (g := gName 9) rfl scOd.nd (pi_keys (pv 1)) (blkOk_by (N := nOd) (sc := defScope sOdd) (by decide +kernel)) (fun _ _ _ _ _ => pg_name (i := 9) scOd.nd rfl (.inl rfl)) (fun _ _ _ _ _ => pts_one (pt_cmpR op_ne (pv 9) (pv 5) (nomark _))) (fun _ _ _ _ _ => (pe_tup (pa_cons pe_str (pa_cons (pv 9) (pa_cons pe_int pa_nil)))))))))
      (pss_cons (ps_set (i := 8) scOd.nd rfl (.inl rfl) (pe_op op_catU (pe_op op_catU (pe_slice (r := rSlU K) sl_tupU (pv 3) po_none (po_some (pv 4))) (pe_tup (pa_cons (pe_call GO hr2 (by rfl) DO.gl DO.kp bO .nil pass0 (pa_cons (pv 0) (pa_cons (pv 7) pa_nil))) pa_nil))) (pe_slice (r := rSlU K) sl_tupU (pv 3) (po_some (pe_op op_add (pv 4) pe_int)) po_none)))
      (pss_one (ps_ret (pe_call GO hr2 (by rfl) DO.gl DO.kp bO .nil pass0 (pa_cons (pv 0) (pa_cons (pe_op op_cat (pe_op op_rep (pe_lst (pa_cons (pv 8) pa_nil)) pe_int) (pe_lst (pa_cons (pe_slice (r := rSlU K) sl_tupU (pv 3) po_none (po_some (pe_un un_neg pe_int))) (pa_cons (pe_op op_catU (pv 3) (pe_slice (r := rSlU K) sl_tupU (pv 3) po_none (po_some pe_int))) (pa_cons (pe_tup pa_nil) (pa_cons pe_non (pa_cons pe_int (pa_cons pe_str (pa_cons pe_dnewK pa_nil))))))))) pa_nil)))))))))), ?_⟩
    have lt : ts.length = ws.length := Paired.length hts
    have lt2 : (ts.map V.ref).length = ws.length := by rw [List.length_map, lt]
    refine ⟨_, rfl, _, rfl, gv, _, rfl, .inr (SqT.of hgv), p, c, _, rfl, S, by omega, by omega, fun r H1 r0 r1 k1 S1 => ?_⟩
    obtain ⟨at_, hat⟩ := Int.eq_ofNat_of_zero_le r0
    subst hat
    have ha : at_ < ws.length := by omega
    have d1 : Dr p c H H1 := ⟨k1, S1⟩
    have hgv1 := k1 _ _ hgv ogv
    have hsd1 := k1 _ _ hsd osd
    have hts1 : GivAt (Off p c) H1 ts ws := Paired.imp (fun _ _ ⟨h, n⟩ => ⟨k1 _ _ h n, n⟩) hts
    obtain ⟨ta, hta⟩ : ∃ ta, ts[at_]? = some ta := ⟨_, List.getElem?_eq_getElem (by omega)⟩
    obtain ⟨kd, hkd, et, ota⟩ := Paired.at hts1 hta
    have km : kd ∈ ks := wk kd (List.mem_of_getElem? hkd)
    have ksh := okK.short kd km
    obtain ⟨n, hn, n1, n1000⟩ := okS.at km
    refine ⟨_, rfl, _, rfl, gv, _, _, .ref ta, rfl, rfl, SqT.of hgv1, atI_nat (by rw [List.getElem?_map, hta]; rfl), 1, rfl, ta, _, rfl, et, fun t2 H2 s2 e2 => ?_⟩
    have e2' : H2 t2 = some (.tup [.str kd, .int 0]) := e2
    have S2 := S1.same s2
    refine ⟨t2, _, rfl, SqT.of e2', rfl, _, _, rfl, _, _, rfl, rfl, ?_⟩
    -- odd, the first six
    have hsd2 := s2 _ _ hsd1
    have gt : DGet H2 sd (.str kd) (some (.int n)) := sz_some hn ▸ DGet.k (k := Sum.inr kd) hsd2
    have short : ∀ {ds : List PyData}, (∀ d ∈ ds, Short d) → ShortT (.tuple ds) := fun h => h
    have sT : Short (.str "tok") := by show (Str.ofString "tok").length ≤ 1000; decide
    have sB : Short (.str "bit") := by show (Str.ofString "bit").length ≤ 1000; decide
    have sk : Short (.str kd) := ksh
    refine ⟨_, rfl, _, rfl, _, rfl, sd, .int n, rfl, gt, by show 3 ≤ sizeLine; decide, fun a1 na1 => ?_⟩
    obtain ⟨H3, z, s3, S3, h3, o3⟩ := new_obj S2 na1 (.tup [.str "tok", .str kd, .int n])
    rw [z]
    clear z
    refine ⟨_, rfl, _, _, rfl, rfl, by show 3 ≤ sizeLine; decide, fun a2 na2 => ?_⟩
    obtain ⟨H4, z, s4, S4, h4, o4⟩ := new_obj S3 na2 (.tup [.str "tok", .str kd, .int (0 - 1)])
    rw [z]
    clear z
    refine ⟨_, rfl, by show 3 ≤ sizeLine; decide, fun a3 na3 => ?_⟩
    obtain ⟨H5, z, s5, S5, h5, o5⟩ := new_obj S4 na3 (.tup [.str "tok", .str kd, .bl true])
    rw [z]
    clear z
    refine ⟨by show 3 ≤ sizeLine; decide, fun a4 na4 => ?_⟩
    obtain ⟨H6, z, s6, S6, h6, o6⟩ := new_obj S5 na4 (.tup [.str "tok", .str "zz", .int 0])
    rw [z]
    clear z
    refine ⟨by show 2 ≤ sizeLine; decide, fun a5 na5 => ?_⟩
    obtain ⟨H7, z, s7, S7, h7, o7⟩ := new_obj S6 na5 (.tup [.str "bit", .str "yes"])
    rw [z]
    clear z
    refine ⟨by show 6 ≤ sizeLine; decide, fun l1 nl1 => ?_⟩
    obtain ⟨H8, z, s8, S8, h8, o8⟩ := new_obj S7 nl1 (.lst [.ref a1, .ref a2, .ref a3, .ref a4, .ref a5, .non])
    rw [z]
    clear z
    have b8 : ∀ v ∈ ([.ref a1, .ref a2, .ref a3, .ref a4, .ref a5, .non] : List V), Bad1 p c sz kd H8 v := by
      intro v hv
      simp only [List.mem_cons, List.not_mem_nil, or_false] at hv
      rcases hv with rfl | rfl | rfl | rfl | rfl | rfl
      · refine ⟨_, .tup (s8 _ _ (s7 _ _ (s6 _ _ (s5 _ _ (s4 _ _ h3))))) o3 (.cons (.str _) (.cons (.str _) (.cons (.int _) .nil))), short ?_, .inl (tok_big hn)⟩
        intro d hd
        simp only [List.mem_cons, List.not_mem_nil, or_false] at hd
        rcases hd with rfl | rfl | rfl
        · exact sT
        · exact sk
        · trivial
      · refine ⟨_, .tup (s8 _ _ (s7 _ _ (s6 _ _ (s5 _ _ h4)))) o4 (.cons (.str _) (.cons (.str _) (.cons (.int _) .nil))), short ?_, .inl (tok_neg (by decide))⟩
        intro d hd
        simp only [List.mem_cons, List.not_mem_nil, or_false] at hd
        rcases hd with rfl | rfl | rfl
        · exact sT
        · exact sk
        · trivial
      · refine ⟨_, .tup (s8 _ _ (s7 _ _ (s6 _ _ h5))) o5 (.cons (.str _) (.cons (.str _) (.cons (.bl _) .nil))), short ?_, .inl rfl⟩
        intro d hd
        simp only [List.mem_cons, List.not_mem_nil, or_false] at hd
        rcases hd with rfl | rfl | rfl
        · exact sT
        · exact sk
        · trivial
      · refine ⟨_, .tup (s8 _ _ (s7 _ _ h6)) o6 (.cons (.str _) (.cons (.str _) (.cons (.int _) .nil))), short ?_, .inl (tok_none (lookup_none (by rw [okS.keys]; exact zz)))⟩
        intro d hd
        simp only [List.mem_cons, List.not_mem_nil, or_false] at hd
        rcases hd with rfl | rfl | rfl
        · exact sT
        · show (Str.ofString "zz").length ≤ 1000
          decide
        · trivial
      · refine ⟨_, .tup (s8 _ _ h7) o7 (.cons (.str _) (.cons (.str _) .nil)), short ?_, .inl rfl⟩
        intro d hd
        simp only [List.mem_cons, List.not_mem_nil, or_false] at hd
        rcases hd with rfl | rfl
        · exact sB
        · show (Str.ofString "yes").length ≤ 1000
          decide
      · exact ⟨.none, .non, trivial, .inl rfl⟩
    have sm28 : Same H2 H8 := s3.trans (s4.trans (s5.trans (s6.trans (s7.trans s8))))
    clear s3 s4 s5 s6 s7 s8 h3 h4 h5 h6 h7 S3 S4 S5 S6 S7 gt
    have ll1 : ([.ref a1, .ref a2, .ref a3, .ref a4, .ref a5, .non] : List V).length = 6 := rfl
    generalize ([.ref a1, .ref a2, .ref a3, .ref a4, .ref a5, .non] : List V) = od1 at b8 h8 ll1
    -- odd, six more
    have k02 : Keep (Off p c) H H8 := d1.k.trans (Same.keep (s2.trans sm28))
    clear s2 sm28 e2 e2' hsd2 S2
    have d8 : Dr p c H H8 := ⟨k02, S8⟩
    refine ⟨_, rfl, _, rfl, _, rfl, by show 3 ≤ sizeLine; decide, fun b1 nb1 zb1 => ?_⟩
    obtain ⟨H3, z, s3, S3, h3, o3⟩ := new_obj S8 nb1 (.lst [.str "tok", .str kd, .int 0])
    rw [z]
    clear z
    refine ⟨_, rfl, by show 2 ≤ sizeLine; decide, fun b2 nb2 => ?_⟩
    obtain ⟨H4, z, s4, S4, h4, o4⟩ := new_obj S3 nb2 (.tup [.str "tok", .str kd])
    rw [z]
    clear z
    refine ⟨by show 1 ≤ sizeLine; decide, fun b3 nb3 => ?_⟩
    obtain ⟨H5, z, s5, S5, h5, o5⟩ := new_obj S4 nb3 (.tup [.str "none"])
    rw [z]
    clear z
    refine ⟨by show 2 ≤ sizeLine; decide, fun b4 nb4 => ?_⟩
    obtain ⟨H6, z, s6, S6, h6, o6⟩ := new_obj S5 nb4 (.tup [.str "obj", .int 0])
    rw [z]
    clear z
    refine ⟨_, rfl, _, rfl, _, rfl, by show 4 ≤ sizeLine; decide, fun b5 nb5 => ?_⟩
    obtain ⟨H7, z, s7, S7, h7, o7⟩ := new_obj S6 nb5 (.tup [.str "tok", .str kd, .int 0, .int 0])
    rw [z]
    clear z
    refine ⟨by show 6 ≤ sizeLine; decide, fun l2 nl2 => ?_⟩
    obtain ⟨H9, z, s9, S9, h9, o9⟩ := new_obj S7 nl2 (.lst [.ref b1, .ref b2, .ref b3, .ref b4, .str kd, .ref b5])
    rw [z]
    clear z
    have b9 : ∀ v ∈ ([.ref b1, .ref b2, .ref b3, .ref b4, .str kd, .ref b5] : List V), Bad1 p c sz kd H9 v := by
      intro v hv
      simp only [List.mem_cons, List.not_mem_nil, or_false] at hv
      rcases hv with rfl | rfl | rfl | rfl | rfl | rfl
      · exact ⟨_, .lst (s9 _ _ (s7 _ _ (s6 _ _ (s5 _ _ (s4 _ _ h3))))) o3 zb1 (.cons (.str _) (.cons (.str _) (.cons (.int _) .nil))), trivial, .inl rfl⟩
      · refine ⟨_, .tup (s9 _ _ (s7 _ _ (s6 _ _ (s5 _ _ h4)))) o4 (.cons (.str _) (.cons (.str _) .nil)), short ?_, .inl rfl⟩
        intro d hd
        simp only [List.mem_cons, List.not_mem_nil, or_false] at hd
        rcases hd with rfl | rfl
        · exact sT
        · exact sk
      · refine ⟨_, .tup (s9 _ _ (s7 _ _ (s6 _ _ h5))) o5 (.cons (.str _) .nil), short ?_, .inl rfl⟩
        intro d hd
        simp only [List.mem_cons, List.not_mem_nil, or_false] at hd
        rw [hd]
        show (Str.ofString "none").length ≤ 1000
        decide
      · refine ⟨_, .tup (s9 _ _ (s7 _ _ h6)) o6 (.cons (.str _) (.cons (.int _) .nil)), short ?_, .inl rfl⟩
        intro d hd
        simp only [List.mem_cons, List.not_mem_nil, or_false] at hd
        rcases hd with rfl | rfl
        · show (Str.ofString "obj").length ≤ 1000
          decide
        · trivial
      · exact ⟨_, .str _, ksh, .inl rfl⟩
      · refine ⟨_, .tup (s9 _ _ h7) o7 (.cons (.str _) (.cons (.str _) (.cons (.int _) (.cons (.int _) .nil)))), short ?_, .inl rfl⟩
        intro d hd
        simp only [List.mem_cons, List.not_mem_nil, or_false] at hd
        rcases hd with rfl | rfl | rfl | rfl
        · exact sT
        · exact sk
        · trivial
        · trivial
    have sm89 : Same H8 H9 := s3.trans (s4.trans (s5.trans (s6.trans (s7.trans s9))))
    have ll2 : ([.ref b1, .ref b2, .ref b3, .ref b4, .str kd, .ref b5] : List V).length = 6 := rfl
    generalize ([.ref b1, .ref b2, .ref b3, .ref b4, .str kd, .ref b5] : List V) = od2 at b9 h9 ll2
    clear s3 s4 s5 s6 s7 s9 h3 h4 h5 h6 h7 S3 S4 S5 S6 S7
    have d9 := d8.same sm89
    refine ⟨l1, l2, od1, od2, rfl, rfl, sm89 _ _ h8, h9, by rw [ll1, ll2]; decide, fun l3 nl3 => ?_⟩
    obtain ⟨Ha, z, sa, Sa, ha', oa⟩ := new_obj S9 nl3 (.lst (od1 ++ od2))
    rw [z]
    clear z
    have da := d9.same sa
    have bA : ∀ v ∈ od1 ++ od2, Bad1 p c sz kd Ha v := fun v hv => by
      rcases List.mem_append.mp hv with hv | hv
      · exact (b8 v hv).keep (Same.keep (sm89.trans sa))
      · exact (b9 v hv).keep (Same.keep sa)
    have llA : (od1 ++ od2).length = 12 := by rw [List.length_append, ll1, ll2]
    generalize od1 ++ od2 = odA at bA ha' llA
    clear b8 b9 h8 h9 sm89 sa d9 d8 S9 S8 nl3
    -- the other kinds
    have hsda := da.k _ _ hsd osd
    refine ⟨_, rfl, sd, _, hsda, trivial, fun od => ?_⟩
    have kl : Keep (· = sd) Ha (upd Ha sd (.frz od (.dK (szD sz)))) := keep_upd
    have l3sd : l3 ≠ sd := fun z => by
      rw [z, hsda] at ha'
      cases ha'
    generalize hHb : upd Ha sd (.frz od (.dK (szD sz))) = Hb at kl
    have db0 : Hb sd = some (.frz od (.dK (szD sz))) := by rw [← hHb]; exact upd_same
    have Sb : Src p c Hb := by rw [← hHb]; exact Sa.at osd
    have ksl : (szD sz).length ≤ 100 := by
      unfold szD
      rw [List.length_map]
      have := congrArg List.length okS.keys
      rw [List.length_map] at this
      have := okK.few
      omega
    refine ⟨_, rfl, sd, od, rfl, .inl ⟨_, db0, fun D nD => lc_it (walk_keys (d := sd) (o := od) (kvs := szD sz)) (fun i Hc => Same Hb Hc ∧ ∃ ys, Hc D = some (.lst ys) ∧ ys.length ≤ i ∧ ∀ y ∈ ys, OthTok p c kd Hc y) ⟨same_new nD, [], upd_same, Nat.le_refl _, fun y h => nomatch h⟩ (fun i Hc _ ⟨sm, _⟩ => sm _ _ db0) ?_ ?_⟩⟩
    · rintro i x Hc Hd hi ⟨sm, ys, eD, ly, hy⟩ ⟨rfl, kk, v, hk, rfl⟩
      have hk' : (sz.map fun p => ((Sum.inr p.1 : Key), V.int p.2))[i]? = some (kk, v) := hk
      rw [List.getElem?_map] at hk'
      obtain ⟨ot, hot, e⟩ := Option.map_eq_some_iff.mp hk'
      cases e
      have Sc := Sb.same sm
      refine ⟨rfl, _, rfl, _, rfl, rfl, _, rfl, ?_⟩
      have om : ot.1 ∈ ks := by
        rw [← okS.keys]
        exact List.mem_map.mpr ⟨ot, List.mem_of_getElem? hot, rfl⟩
      refine ite2 (fun hne => ?_) (fun _ => ?_)
      · have ne : ot.1 ≠ kd := fun z => by
          rw [z, show kV (Sum.inr kd : Key) = V.str kd from rfl, ne_same] at hne
          cases hne
        refine ⟨_, rfl, by show 3 ≤ sizeLine; decide, fun u nu => ?_⟩
        obtain ⟨He, z, se, Se, hu', ou⟩ := new_obj Sc nu (.tup [.str "tok", .str ot.1, .int 0])
        erw [z]
        clear z
        have eDe := se _ _ eD
        have oD : ¬ Off p c D := Sb.off nD
        refine ⟨ys, eDe, small1000 (by omega), fun b ob e => ?_, ys ++ [.ref u], upd_same, ?_, ?_⟩
        · rw [upd_ne (ne_of_none e nD)]
          exact se _ _ (sm _ _ e)
        · rw [List.length_append]
          exact Nat.add_le_add ly (Nat.le_refl 1)
        · have tu : Tups He (upd He D (.lst (ys ++ [.ref u]))) := Tups.lock eDe fun _ z => nomatch z
          intro y h
          rcases List.mem_append.mp h with h | h
          · exact (hy y h).tups ((Tups.of se).trans tu)
          · cases List.mem_singleton.mp h
            exact ⟨u, ot.1, rfl, tu _ _ hu', ou, ne, okK.short _ om⟩
      · exact ⟨sm, ys, eD, by omega, hy⟩
    · rintro Hc ⟨sm, ys, eD, ly, hy⟩
      have dfz := sm _ _ db0
      refine ⟨dfz, ?_⟩
      have back : Same Ha (upd Hc sd (.dK (szD sz))) := fun b o e => by
        by_cases hb : b = sd
        · rw [hb, hsda] at e
          cases e
          rw [hb]
          exact upd_same
        · rw [upd_ne hb]
          exact sm _ _ (kl _ _ e hb)
      have tc : Tups Hc (upd Hc sd (.dK (szD sz))) := Tups.lock dfz fun _ z => nomatch z
      have Dsd : D ≠ sd := (ne_of_none db0 nD).symm
      have eD' : upd Hc sd (.dK (szD sz)) D = some (.lst ys) := by
        rw [upd_ne Dsd]
        exact eD
      have hyc : ∀ y ∈ ys, OthTok p c kd (upd Hc sd (.dK (szD sz))) y := fun y h => (hy y h).tups tc
      generalize upd Hc sd (.dK (szD sz)) = He at back eD' hyc
      clear sm eD hy dfz tc kl db0 Sb hHb
      have de := da.same back
      refine ⟨l3, D, odA, ys, rfl, rfl, back _ _ ha', eD', Nat.le_trans (Nat.add_le_add (Nat.le_of_eq llA) (Nat.le_trans ly ksl)) (by decide), fun l4 nl4 => ?_⟩
      obtain ⟨Hf, z, sf, Sf, hf', of_⟩ := new_obj de.s nl4 (.lst (odA ++ ys))
      rw [z]
      clear z
      have df := de.same sf
      have bF : ∀ v ∈ odA ++ ys, Bad1 p c sz kd Hf v := fun v hv => by
        rcases List.mem_append.mp hv with hv | hv
        · exact (bA v hv).keep (Same.keep (back.trans sf))
        · obtain ⟨a, ok', rfl, h1, h2, h3, h4⟩ := (hyc v hv).tups (Tups.of sf)
          exact ⟨tk0 ok', .tup h1 h2 (.cons (.str _) (.cons (.str _) (.cons (.int _) .nil))), tk0_short h4, .inr h3⟩
      have llF : 1 ≤ (odA ++ ys).length ∧ (odA ++ ys).length ≤ 1000 := by
        rw [List.length_append]
        have : (szD sz).length ≤ 100 := ksl
        omega
      generalize odA ++ ys = odF at bF hf' llF
      clear bA ha' hyc eD' back da de sf Sa nl4
      -- bent
      have hgvf := df.k _ _ hgv ogv
      refine ⟨_, rfl, _, rfl, (at_ : Int), rfl, gv, _, rfl, hgvf, fun t1 Hg sg et1 => ?_⟩
      rw [cut_take (by omega)] at et1
      have dg := df.same sg
      refine ⟨_, rfl, _, rfl, p, c, l4, odF, rfl, dg.s, sg _ _ hf', of_, llF.1, llF.2, fun v Hh hv kh Sh => ?_⟩
      have dh : Dr p c H Hh := dg.trans ⟨kh, Sh⟩
      have bv : Bad1 p c sz kd Hh v := (bF v hv).keep ((Same.keep sg).trans kh)
      refine ⟨by show 1 ≤ sizeLine; decide, fun u nu => ?_⟩
      obtain ⟨Hi, z, si, Si, eu, ou⟩ := new_obj Sh nu (.tup [v])
      rw [z]
      clear z
      have di := dh.same si
      have et1i := si _ _ (dg.s.tups kh _ _ et1)
      refine ⟨t1, u, _, _, rfl, rfl, et1i, eu, ?_, fun t3 Hj sj et3 => ?_⟩
      · rw [List.length_take]
        exact Nat.le_trans (by show min at_ _ + 1 ≤ 4; omega) (by decide : 4 ≤ sizeLine)
      have dj := di.same sj
      refine ⟨_, rfl, _, rfl, _, _, rfl, rfl, ((at_ : Int) + 1), rfl, gv, _, rfl, dj.k _ _ hgv ogv, fun t4 Hk sk' et4 => ?_⟩
      rw [show ((at_ : Int) + 1) = ((at_ + 1 : Nat) : Int) by omega, cut_drop (by omega)] at et4
      have dk := dj.same sk'
      refine ⟨t3, t4, _, _, rfl, rfl, sk' _ _ et3, et4, ?_, fun t5 Hl sl et5 => ?_⟩
      · rw [List.length_append, List.length_take, List.length_drop]
        exact Nat.le_trans (by show min at_ _ + 1 + (_ - _) ≤ 6; omega) (by decide : 6 ≤ sizeLine)
      have dl := dk.same sl
      have htsl : GivAt (Off p c) Hl ts ws := Paired.imp (fun _ _ ⟨h, n⟩ => ⟨dl.k _ _ h n, n⟩) hts
      obtain ⟨dv, hdv, sdv, bdv⟩ := bv.keep (Same.keep (si.trans (sj.trans (sk'.trans sl))))
      have bent : BadV p c sz ws Hl (.ref t5) := by
        refine ⟨_, .tup et5 (dl.s.tupOff et5) (Das.append (Das.append (Das.take at_ htsl.da) (.cons hdv .nil)) (Das.drop (at_ + 1) htsl.da)), ⟨?_, ?_⟩, ok_bad (i := at_) (k := kd) (d := dv) ?_ hkd bdv⟩
        · rw [List.length_append, List.length_append, List.length_take, List.length_drop, List.length_map]
          show min at_ _ + 1 + (_ - _) ≤ 1000
          omega
        · intro d hd
          rcases List.mem_append.mp hd with hd | hd
          · rcases List.mem_append.mp hd with hd | hd
            · obtain ⟨k', hk', rfl⟩ := List.mem_map.mp (List.mem_of_mem_take hd)
              exact tk0_short (okK.short _ (wk _ hk'))
            · cases List.mem_singleton.mp hd
              exact sdv
          · obtain ⟨k', hk', rfl⟩ := List.mem_map.mp (List.mem_of_mem_drop hd)
            exact tk0_short (okK.short _ (wk _ hk'))
        · have l1' : ((ws.map tk0).take at_).length = at_ := by
            rw [List.length_take, List.length_map]
            omega
          rw [List.append_assoc, List.getElem?_append_right (by omega), l1', Nat.sub_self]
          rfl
      -- what is handed in
      clear bF bv et1i et3 et4 hdv sdv bdv hf' llF
      have tkS : ∀ d ∈ ws.map tk0, ShortT d := fun d hd => by
        obtain ⟨k', hk', rfl⟩ := List.mem_map.mp hd
        exact tk0_short (okK.short _ (wk _ hk'))
      have wl3 : (ws.map tk0).length = ws.length := List.length_map ..
      refine ⟨_, rfl, _, rfl, by show 1 ≤ sizeLine; decide, fun m1 nm1 => ?_⟩
      obtain ⟨Hm, z, sm, Sm', em1, om1⟩ := new_obj dl.s nm1 (.lst [.ref t5])
      rw [z]
      clear z
      refine ⟨m1, 6, _, rfl, rfl, em1, by decide, by decide, by show 1 * 6 ≤ sizeLine; decide, fun m2 nm2 => ?_⟩
      obtain ⟨Hn, z, sn, Sn, em2, om2⟩ := new_obj Sm' nm2 (.lst (List.replicate (6 : Int).toNat [V.ref t5]).flatten)
      rw [z]
      clear z
      have dn := (dl.same sm).same sn
      refine ⟨_, rfl, 1, rfl, -1, rfl, gv, _, rfl, dn.k _ _ hgv ogv, fun c1 Ho so ec1 => ?_⟩
      rw [cut_last] at ec1
      have do_ := dn.same so
      refine ⟨_, rfl, _, rfl, 1, rfl, gv, _, rfl, do_.k _ _ hgv ogv, fun c2 Hp' sp ec2 => ?_⟩
      rw [show (1 : Int) = ((1 : Nat) : Int) from rfl, cut_take (by omega)] at ec2
      have dp := do_.same sp
      refine ⟨gv, c2, _, _, rfl, rfl, dp.k _ _ hgv ogv, ec2, ?_, fun c3 Hq sq ec3 => ?_⟩
      · rw [List.length_take]
        exact Nat.le_trans (by show _ + min 1 _ ≤ 3; omega) (by decide : 3 ≤ sizeLine)
      have dq := dp.same sq
      refine ⟨by show 0 ≤ sizeLine; decide, fun c4 nc4 => ?_⟩
      obtain ⟨Hr, z, sr, Sr, ec4, oc4⟩ := new_obj dq.s nc4 (.tup [])
      rw [z]
      clear z
      intro c5 nc5
      obtain ⟨Hs, z, ss, Ss, ec5, oc5⟩ := new_obj Sr nc5 (.dK [])
      rw [z]
      clear z
      refine ⟨by show 7 ≤ sizeLine; decide, fun m3 nm3 => ?_⟩
      obtain ⟨Ht, z, st, St, em3, om3⟩ := new_obj Ss nm3 (.lst [.ref c1, .ref c3, .ref c4, .non, .int 0, .str "k", .ref c5])
      rw [z]
      clear z
      have dt := ((dq.same sr).same ss).same st
      have hw : ∀ {Hz : Hp}, Dr p c H Hz → GivAt (Off p c) Hz ts ws := fun d => Paired.imp (fun _ _ ⟨h, n⟩ => ⟨d.k _ _ h n, n⟩) hts
      have smT : Same Hl Ht := sm.trans (sn.trans (so.trans (sp.trans (sq.trans (sr.trans (ss.trans st))))))
      have bT : ∀ v ∈ (List.replicate (6 : Int).toNat [V.ref t5]).flatten ++ [.ref c1, .ref c3, .ref c4, .non, .int 0, .str "k", .ref c5], BadV p c sz ws Ht v := by
        intro v hv
        rcases List.mem_append.mp hv with hv | hv
        · have e : v = .ref t5 := by
            obtain ⟨l, hl, hv⟩ := List.mem_flatten.mp hv
            rw [List.eq_of_mem_replicate hl] at hv
            exact List.mem_singleton.mp hv
          rw [e]
          exact bent.keep (Same.keep smT)
        · simp only [List.mem_cons, List.not_mem_nil, or_false] at hv
          rcases hv with rfl | rfl | rfl | rfl | rfl | rfl | rfl
          · have ec1' := st _ _ (ss _ _ (sr _ _ (sq _ _ (sp _ _ ec1))))
            refine ⟨_, .tup ec1' (St.tupOff ec1') (Das.take _ (hw dt).da), ⟨?_, fun d hd => tkS d (List.mem_of_mem_take hd)⟩, ok_len ?_⟩
            · rw [List.length_take]
              omega
            · rw [List.length_take]
              omega
          · have ec3' := st _ _ (ss _ _ (sr _ _ ec3))
            refine ⟨_, .tup ec3' (St.tupOff ec3') (Das.append (hw dt).da (Das.take _ (hw dt).da)), ⟨?_, fun d hd => (List.mem_append.mp hd).elim (tkS d) fun hd => tkS d (List.mem_of_mem_take hd)⟩, ok_len ?_⟩
            · rw [List.length_append, List.length_take]
              omega
            · rw [List.length_append, List.length_take]
              omega
          · refine ⟨_, .tup (st _ _ (ss _ _ ec4)) oc4 .nil, ⟨by decide, fun d hd => nomatch hd⟩, ok_len ?_⟩
            show 0 ≠ ws.length
            omega
          · exact ⟨.none, .non, trivial, rfl⟩
          · exact ⟨.int 0, .int 0, trivial, rfl⟩
          · exact ⟨.str "k", .str "k", trivial, rfl⟩
          · exact ⟨.dict [], .emp (st _ _ ec5) oc5, trivial, rfl⟩
      have em2' := st _ _ (ss _ _ (sr _ _ (sq _ _ (sp _ _ (so _ _ em2)))))
      refine ⟨m2, m3, _, _, rfl, rfl, em2', em3, by show 13 ≤ sizeLine; decide, fun m4 nm4 => ?_⟩
      obtain ⟨Hu, z, su, Su, em4, om4⟩ := new_obj St nm4 (.lst ((List.replicate (6 : Int).toNat [V.ref t5]).flatten ++ [.ref c1, .ref c3, .ref c4, .non, .int 0, .str "k", .ref c5]))
      rw [z]
      clear z
      have du := dt.same su
      refine ⟨p, c, m4, _, rfl, Su, em4, om4, by show 1 ≤ 13; decide, by show 13 ≤ 1000; decide, fun v Hv hv kv Sv => ?_⟩
      exact q v Hv ((bT v hv).keep ((Same.keep su).trans kv)) (du.trans ⟨kv, Sv⟩)
end
end K12
/-! K12, 21: what the law looks at -/
namespace K12
open PySem PySem.Spec PyProof.Rows L2 Ver
/-- of a def that may raise, where nothing is to be raised -/
theorem fnOk_calm {P : Program} {w : World} {K : PySem.W.Frag} {mg : Str → Option Value} {base : Heap} {k : Nat} {f : Addr} {fd : FuncData} {ps : List Str} {sp : Sp} (F : FnOk P w K mg base (L2.CX P w) k f fd ps sp) :
    FnOk P w K mg base CX0 k f fd ps (fun vs H Q _ => sp vs H Q fun _ _ _ => False) :=
  ⟨fun vs H Q E h => F.len vs H Q _ h, fun A outer s H args us vs Q E hr he hb hv hs => codeAny_mono (F.run A outer s H args us vs Q _ hr he hb hv hs) fun r s' h => by
    match r, h with
    | .ok (.ret u), h => exact h
    | .ok .next, h => exact h.elim
    | .ok .brk, h => exact h.elim
    | .ok .cont, h => exact h.elim
    | .error e, h =>
      obtain ⟨_, _, _, _, _, _, _, _, _, _, _, _, z⟩ := h
      exact z.elim⟩
/-- tokens, one by one -/
def tkA (x : Str × Int) : PyData := .tuple [.str "tok", .str x.1, .int x.2]
def TkAt (H : Hp) (t : Addr) (x : Str × Int) : Prop := H t = some (.tup [.str "tok", .str x.1, .int x.2])
theorem tks_tups {H H' : Hp} (k : Tups H H') : ∀ {ts : List Addr} {xs : List (Str × Int)}, Paired (TkAt H) ts xs → Paired (TkAt H') ts xs
  | _, _, .nil => .nil
  | _, _, .cons h t => .cons (k _ _ h) (tks_tups k t)
theorem tks_da {p c : Addr} {H : Hp} (S : Src p c H) : ∀ {ts : List Addr} {xs : List (Str × Int)}, Paired (TkAt H) ts xs → Das (Off p c) H (ts.map V.ref) (xs.map tkA)
  | _, _, .nil => .nil
  | _, _, .cons h t => .cons (.tup h (S.tupOff h) (.cons (.str _) (.cons (.str _) (.cons (.int _) .nil)))) (tks_da S t)
theorem tok_true {sz : Sizes} {k : Str} {i n : Int} (hk : kindD (.str k) = true) (h0 : 0 ≤ i) (hn : sz.lookup k = some n) (hi : i < n) : tokD sz (tkA (k, i)) = true := by
  show ((eqS (.str "tok") "tok" && (kindD (.str k) && decide (0 ≤ i))) && (match sz.lookup k with | some n => decide (i < n) | none => false)) = true
  rw [hk, hn, decide_eq_true h0]
  show ((eqS (.str "tok") "tok" && true) && decide (i < n)) = true
  rw [decide_eq_true hi]
  rfl
theorem map_fst_zip {α β : Type} : ∀ {as : List α} {bs : List β}, bs.length = as.length → (as.zip bs).map Prod.fst = as
  | [], _, _ => rfl
  | a :: as, [], h => by simp at h
  | a :: as, b :: bs, h => by
    rw [List.zip_cons_cons, List.map_cons, map_fst_zip (by simpa using h)]
theorem map_snd_zip {α β : Type} : ∀ {as : List α} {bs : List β}, bs.length = as.length → (as.zip bs).map Prod.snd = bs
  | [], [], _ => rfl
  | [], b :: bs, h => by simp at h
  | a :: as, [], h => by simp at h
  | a :: as, b :: bs, h => by
    rw [List.zip_cons_cons, List.map_cons, map_snd_zip (by simpa using h)]
/-- a right choice of tokens -/
theorem ok_row {ks ws : List Str} {sz : Sizes} {ns : List Int} (okK : KindsOk ks) (wk : ∀ w ∈ ws, w ∈ ks) (okS : SizesOk ks sz) (ro : RowsOk sz ws) (hn : ns ∈ rowsOf sz ws) :
    okSeq sz ws ((ws.zip ns).map tkA) = true ∧ ((ws.zip ns).map tkA).map numS = ns := by
  have hl := ro.len ns hn
  refine ⟨?_, ?_⟩
  · unfold okSeq
    rw [Bool.and_eq_true, decide_eq_true_eq, List.all_eq_true]
    refine ⟨fun d hd => ?_, ?_⟩
    · obtain ⟨x, hx, rfl⟩ := List.mem_map.mp hd
      obtain ⟨h0, h1⟩ := ro.low ns hn x hx
      have hw := wk x.1 (List.of_mem_zip (a := x.1) (b := x.2) hx).1
      obtain ⟨n, e, _, _⟩ := okS.at hw
      rw [e] at h1
      exact tok_true (okK.word _ hw) h0 e h1
    · rw [List.map_map]
      exact map_fst_zip hl
  · rw [List.map_map]
    exact map_snd_zip hl
theorem vals_tup {sz : Sizes} {ws : List Str} {ds : List PyData} (h : okSeq sz ws ds = true) : okVals sz ws (.tuple ds) = some (ds.map numS) := if_pos h
theorem vals_lst {sz : Sizes} {ws : List Str} {ds : List PyData} (h : okSeq sz ws ds = true) : okVals sz ws (.list ds) = some (ds.map numS) := if_pos h
theorem tkA_short {x : Str × Int} (h : x.1.length ≤ 1000) : ShortT (tkA x) := fun d hd => by
  simp only [List.mem_cons, List.not_mem_nil, or_false] at hd
  rcases hd with rfl | rfl | rfl
  · show (Str.ofString "tok").length ≤ 1000
    decide
  · exact h
  · trivial
/-- the first row with these kinds -/
theorem find_own : ∀ {rows : List Row} {j : Nat} {row : Row}, (rows.map fun r => r.2.1).Nodup → rows[j]? = some row → rows.find? (fun r => decide (r.2.1 = row.2.1)) = some row
  | [], _, _, _, h => by simp at h
  | r :: rows, 0, row, nod, h => by
    simp at h
    subst h
    rw [List.find?_cons, decide_eq_true rfl]
  | r :: rows, j + 1, row, nod, h => by
    rw [List.map_cons, List.nodup_cons] at nod
    have h' : rows[j]? = some row := by simpa using h
    have ne : ¬ r.2.1 = row.2.1 := fun e => nod.1 (by rw [e]; exact List.mem_map.mpr ⟨row, List.mem_of_getElem? h', rfl⟩)
    rw [List.find?_cons, decide_eq_false ne]
    exact find_own nod.2 h'
theorem own_in {ps : Prims} {p : Str × List Row} {row : Row} (hp : p ∈ ps) (hr : row ∈ p.2) : (row.1, (p.1, row.2.1, row.2.2)) ∈ ownersOf ps := List.mem_flatMap.mpr ⟨p, hp, List.mem_map.mpr ⟨row, hr, rfl⟩⟩
theorem own_named {ks : List Str} {ps : Prims} (ok : PrimsOk ks ps) {p : Str × List Row} {row : Row} (hp : p ∈ ps) (hr : row ∈ p.2) : named ps (.str row.1) = some (p.1, row.2.1, row.2.2) := by
  obtain ⟨j, hj, e⟩ := List.getElem_of_mem (own_in hp hr)
  exact lookup_at (p := (row.1, (p.1, row.2.1, row.2.2))) ok.vnames (by rw [List.getElem?_eq_getElem hj, e])
theorem nm_zz : (vaw.all fun x => (List.range 9).all fun i => !(nmV x i == "zz")) = true := by decide +kernel
theorem named_zz {ks : List Str} {ps : Prims} {i : Nat} (d : Drawn ks ps i) (hi : i ≤ 3) : named ps (.str "zz") = none := by
  show (ownersOf ps).lookup ("zz" : Str) = none
  cases e : (ownersOf ps).lookup ("zz" : Str) with
  | none => rfl
  | some r =>
    exfalso
    have m : ("zz" : Str) ∈ (ownersOf ps).map Prod.fst := List.mem_map.mpr ⟨_, lookup_mem e, rfl⟩
    obtain ⟨j, hj, ej⟩ := List.getElem_of_mem m
    have few := d.few
    rw [List.length_map] at hj
    obtain ⟨x, hx, e1⟩ := d.vn j "zz" (by rw [List.getElem?_eq_getElem (by rw [List.length_map]; exact hj), ej])
    have h2 := List.all_eq_true.mp (List.all_eq_true.mp nm_zz x hx) j (List.mem_range.mpr (by omega))
    rw [← e1, beq_self_eq_true] at h2
    cases h2
/-- what a variant gives, as data -/
theorem res_dp {K : PySem.W.Frag} {sz : Sizes} {r : Str} {e : V} (o : EntOk sz r e) : ∃ d, d.depth ≤ 60 ∧ PyData.eqv d d = true ∧ ∀ H' t', H' t' = some (.tup (resV r e)) → Dp K H' (.ref t') d := by
  unfold resV
  rcases o with ⟨rb, he⟩ | ⟨rb, i, n, rfl, _⟩
  · rw [if_pos rb]
    obtain ⟨x, rfl⟩ : ∃ x, e = .str x := he.elim (fun h => ⟨_, h⟩) fun h => ⟨_, h⟩
    exact ⟨.tuple [.str "bit", .str x], by show _ ≤ 60; simp [PyData.depth, PyData.depthAll], (eqv_txts ["bit", x] ["bit", x]).trans (decide_eq_true rfl), fun H' t' h' => .tup (SqT.of h') (.cons (.str _) (.cons (.str _) .nil))⟩
  · rw [if_neg rb]
    exact ⟨.tuple [.str "tok", .str r, .int i], by show _ ≤ 60; simp [PyData.depth, PyData.depthAll], by simp [PyData.eqv, PyData.eqvAll], fun H' t' h' => .tup (SqT.of h') (.cons (.str _) (.cons (.str _) (.cons (.int _) .nil)))⟩
theorem eqv_self_strs (ws : List Str) : PyData.eqv (.list (ws.map .str)) (.list (ws.map .str)) = true := (eqv_strs ws ws).trans (decide_eq_true rfl)
theorem eqv_lsts (ws us : List Str) : PyData.eqv (.list (ws.map .str)) (.list (us.map .str)) = decide (ws = us) := eqv_strs ws us
end K12
/-! K12, 22: the law's walk -/
namespace K12
open PySem PySem.Spec PyProof.Rows L2 Ver
theorem nm_tell : (vaw.all fun x => (List.range 9).all fun i => decide ((reprText (nmV x i)).length ≤ 1000)) = true := by decide +kernel
theorem drawn_tell {ks : List Str} {ps : Prims} {i : Nat} (d : Drawn ks ps i) (hi : i ≤ 3) {p : Str × List Row} {row : Row} (hp : p ∈ ps) (hr : row ∈ p.2) : TellOk (.str row.1) := by
  refine ⟨((d.ok hi).vword p hp row hr).2, ?_⟩
  have m : row.1 ∈ (ownersOf ps).map Prod.fst := List.mem_map.mpr ⟨_, own_in hp hr, rfl⟩
  obtain ⟨j, hj, ej⟩ := List.getElem_of_mem m
  have few := d.few
  rw [List.length_map] at hj
  obtain ⟨x, hx, e1⟩ := d.vn j row.1 (by rw [List.getElem?_eq_getElem (by rw [List.length_map]; exact hj), ej])
  have h2 := List.all_eq_true.mp (List.all_eq_true.mp nm_tell x hx) j (List.mem_range.mpr (by omega))
  rw [e1]
  exact of_decide_eq_true h2
theorem pe_w {X : Cx} {e : Expr} {t t' : TE} (h : PE X e t) (g : ∀ σ H Q, t' σ H Q → t σ H Q) : PE X e t' := ⟨fun pins s σ H Q I q => h.run pins s σ H Q I (g σ H Q q)⟩
theorem ps_w {X : Cx} {st : Stmt} {t t' : TS} (h : PS X st t) (g : ∀ D σ H, t' D σ H → t D σ H) : PS X st t' := ⟨fun pins s σ H D I q => h.run pins s σ H D I (g D σ H q)⟩
theorem iteB {b : Bool} {A B : Prop} (h : b = true) (q : B) : if (!b) = true then A else B := by
  subst h
  exact q
abbrev nLw : List Str := ["script", "source", "lap", "ground", "book", "name", "variants", "variant", "kinds", "result", "rows", "at", "given", "kind", "number", "found", "due", "handed", "turn", "odd", "some", "k", "fitting", "row"]
abbrev At (σ : L2.St) (i : Nat) (v : V) : Prop := σ[i]? = some (some v)
theorem len24 {σ : L2.St} (h : σ.length = 24) : ∃ v0 v1 v2 v3 v4 v5 v6 v7 v8 v9 va vb vc vd ve vf vg vh vi vj vk vl vm vn, σ = [v0, v1, v2, v3, v4, v5, v6, v7, v8, v9, va, vb, vc, vd, ve, vf, vg, vh, vi, vj, vk, vl, vm, vn] := by
  match σ, h with
  | [v0, v1, v2, v3, v4, v5, v6, v7, v8, v9, va, vb, vc, vd, ve, vf, vg, vh, vi, vj, vk, vl, vm, vn], _ => exact ⟨_, _, _, _, _, _, _, _, _, _, _, _, _, _, _, _, _, _, _, _, _, _, _, _, rfl⟩
/-- the given tokens -/
def tGiv : TE := fun σ H Q => σ.length = 24 ∧ ∃ (o L ca : Addr) (ws : List Str) (ns : List Int) (xs : List V) (i : Int), At σ 8 (.ref o) ∧ At σ 10 (.ref L) ∧ At σ 11 (.int i) ∧ H L = some (.lst xs) ∧ atI xs i = some (.ref ca) ∧ H o = some (.tup (ws.map V.str)) ∧ H ca = some (.tup (ns.map V.int)) ∧
  ns.length = ws.length ∧ ws.length ≤ 2 ∧ ∀ t ts H', Same H H' → H' t = some (.tup (ts.map V.ref)) → Paired (TkAt H') ts (ws.zip ns) → Q (.ref t) H'
def tDue : TE := fun σ H Q => ∃ (r : Str) (e : V), At σ 9 (.str r) ∧ At σ 15 e ∧ ∀ u H', Same H H' → H' u = some (.tup (resV r e)) → Q (.ref u) H'
def tHand : TE := fun σ H Q => ∃ (p c t : Addr) (xs : List V), At σ 1 (.ref p) ∧ At σ 12 (.ref t) ∧ Src p c H ∧ H t = some (.tup xs) ∧ ∀ v H', Dr p c H H' → (v = .ref t ∨ ∃ l, v = .ref l ∧ H' l = some (.lst xs) ∧ l ≠ sysModules ∧ ¬ Off p c l) → Q v H'
def tZero : TE := fun σ H Q => σ.length = 24 ∧ ∃ (p c o : Addr) (ws : List Str), At σ 8 (.ref o) ∧ Src p c H ∧ H o = some (.tup (ws.map V.str)) ∧ ws.length ≤ 2 ∧ ∀ t ts H', Same H H' → H' t = some (.tup (ts.map V.ref)) → GivAt (Off p c) H' ts ws → Q (.ref t) H'
def tSome : TE := fun σ H Q => σ.length = 24 ∧ ∃ (p c gr l fa g : Addr) (ks : List Str), At σ 1 (.ref p) ∧ At σ 3 (.ref gr) ∧ Src p c H ∧ H gr = some (.dK (grD l fa g)) ∧ H l = some (.lst (ks.map V.str)) ∧ ¬ Off p c gr ∧ ¬ Off p c l ∧ ks.length ≤ 900 ∧
  ∀ (t : Addr) (us : List Str) (H' : Hp), Dr p c H H' → H' t = some (.tup (us.map V.str)) → Q (.ref t) H'
def tFit : TS := fun D σ H => σ.length = 24 ∧ ∃ (l' t : Addr) (as : List Addr) (rows : List Row) (us : List Str), At σ 6 (.ref l') ∧ At σ 20 (.ref t) ∧ H l' = some (.lst (as.map V.ref)) ∧ RowsAt H as rows ∧ rows.length ≤ 900 ∧ H t = some (.tup (us.map V.str)) ∧
  ∀ f H', Same H H' → H' f = some (.lst (((rows.filter fun r => decide (r.2.1 = us)).map (·.1)).map V.str)) → D.nx (σ.set 22 (some (.ref f))) H'
def headV : List Str → V
  | [] => .non
  | w :: _ => .str w
def tHead : TE := fun σ H Q => ∃ (f : Addr) (ws : List Str), At σ 22 (.ref f) ∧ H f = some (.lst (ws.map V.str)) ∧ ∀ H', Same H H' → Q (headV ws) H'
/-- what must be known of an odd name -/
def OddOk (p c : Addr) (ps : Prims) (H : Hp) (v : V) : Prop := ∃ d, Da (Off p c) H v d ∧ named ps d = none ∧ TellOk d ∧ Fit 200 3 (.list [.str "unknown", d])
theorem OddOk.same {p c : Addr} {ps : Prims} {H H' : Hp} {v : V} (s : Same H H') : OddOk p c ps H v → OddOk p c ps H' v := fun ⟨d, h1, h2⟩ => ⟨d, h1.keep (Same.keep s), h2⟩
/-- what the law's defs promise -/
structure Env (P : Program) (w : World) (K : PySem.W.Frag) (mg : Str → Option Value) (base : Heap) (CB C CU CV fS fP fO fG fC fB fR fD fA fV : Addr) (qS qP qO qG qC qB qR qD qA qV : FuncData) : Prop where
  T : Txt mg
  Gs : GlobS mg
  zip : mg "zip" = none
  repr : mg "repr" = none
  gS : FnOk P w K mg base CX0 1 fS qS ["script"] (spSource K)
  dS : Def K mg "_law_source" fS
  bS : Binds K qS ["script"] []
  gP : FnOk P w K mg base CX0 1 fP qP ["source", "many"] spPick
  dP : Def K mg "_law_pick" fP
  bP : Binds K qP ["source", "many"] []
  gO : FnOk P w K mg base CX0 2 fO qO ["source", "some"] spOf
  dO : Def K mg "_law_of" fO
  bO : Binds K qO ["source", "some"] []
  gG : FnOk P w K mg base CX0 6 fG qG ["source"] (spLSig C)
  dG : Def K mg "_law_signature" fG
  bG : Binds K qG ["source"] []
  gC : FnOk P w K mg base CX0 1 fC qC ["kinds", "sizes"] spChoices
  dC : Def K mg "_law_choices" fC
  bC : Binds K qC ["kinds", "sizes"] []
  gB : FnOk P w K mg base CX0 7 fB qB ["source", "ground", "most"] (spLBook CB C)
  dB : Def K mg "_law_book" fB
  bB : Binds K qB ["source", "ground", "most"] []
  gR : FnOk P w K mg base CX0 6 fR qR ["book", "name", "given"] (spRefusal CB C)
  dR : Def K mg "_law_refusal" fR
  bR : Binds K qR ["book", "name", "given"] []
  gD : FnOk P w K mg base CX0 3 fD qD ["source", "sizes", "kinds", "given"] spOdd
  dD : Def K mg "_law_odd_values" fD
  bD : Binds K qD ["source", "sizes", "kinds", "given"] []
  gA : FnOk P w K mg base (L2.CX P w) 5 fA qA ["book", "name", "values"] (spApply CB C CU CV)
  dA : Def K mg "apply" fA
  bA : Binds K qA ["book", "name", "values"] []
  gV : FnOk P w K mg base CX0 2 fV qV ["signature", "name", "kinds"] (spVFor C)
  dV : Def K mg "variant_for" fV
  bV : Binds K qV ["signature", "name", "kinds"] []
def spLaw (K : PySem.W.Frag) : Sp := fun vs H Q _ => ∃ (a : Addr) (ns : List Int), vs = [.ref a] ∧ SqL K H a (ns.map V.int) ∧ ns.length ≤ 63 ∧ ∀ H', Q (.bl true) H'
section
variable {P : Program} {w : World} {K : PySem.W.Frag} {mg : Str → Option Value} {base : Heap} {CB C CU CV fS fP fO fG fC fB fR fD fA fV : Addr} {qS qP qO qG qC qB qR qD qA qV : FuncData}
theorem scLw : FnScope nLw ["script"] (defScope sLaw) := ⟨rfl, rfl, rfl, by decide +kernel, rfl, by decide +kernel, by decide +kernel⟩
theorem ok_law {f : Addr} {fd : FuncData} (F : Fun K "law" "law" sLaw f fd) (Y : Env P w K mg base CB C CU CV fS fP fO fG fC fB fR fD fA fV qS qP qO qG qC qB qR qD qA qV) : FnQ P w K mg base CX0 8 f fd ["script"] (spLaw K) := by
  refine fnQ_ok F scLw (fun vs H Q E h => ?_) (fun cdv A outer s H vs Q E hg hr h => ?_)
  · obtain ⟨a, ns, rfl, _⟩ := h
    rfl
  · obtain ⟨a, ns, rfl, hS, hl, k⟩ := h
    have hu := hu_of hr
    have hr1 : Room 1 _ := hr.mono (by decide)
    have hr2 : Room 2 _ := hr.mono (by decide)
    have hr3 : Room 3 _ := hr.mono (by decide)
    have hr5 : Room 5 _ := hr.mono (by decide)
    have hr6 : Room 6 _ := hr.mono (by decide)
    have hq : (A.deeper (envOfC "law" (defScope sLaw) s.heap.objs.size f cdv)).guards = some [] := hg
    have hu4 : (A.deeper (envOfC "law" (defScope sLaw) s.heap.objs.size f cdv)).units + (3 + 1) < cLine := Nat.lt_of_le_of_lt (Nat.add_le_add_left (by decide) _) hr.units
    have n1000 : 200 ≤ sizeLine := by decide
    have GA := fnOk_calm Y.gA
    refine ⟨_, pss_cons (ps_set (i := 1) scLw.nd rfl (.inr rfl) (pe_call Y.gS hr1 (by rfl) Y.dS.gl Y.dS.kp Y.bS .nil pass0 (pa_cons (pv 0) pa_nil)))
      (pss_cons (ps_for PassesOwn.never rfl (pi_range1 (by rfl) Y.T.range (pa_cons pe_int pa_nil)) (pg_name (i := 2) scLw.nd rfl (.inl rfl))
          (pss_cons (ps_set (i := 3) scLw.nd rfl (.inr rfl) (pe_call Y.gG hr6 (by rfl) Y.dG.gl Y.dG.kp Y.bG .nil pass0 (pa_cons (pv 1) pa_nil)))
        (pss_cons (ps_set (i := 4) scLw.nd rfl (.inl rfl) (pe_call Y.gB hr (by rfl) Y.dB.gl Y.dB.kp Y.bB .nil pass0 (pa_cons (pv 1) (pa_cons (pv 3) (pa_cons pe_int pa_nil)))))
        (pss_cons (ps_for PassesOwn.never rfl (pi_list (pe_dget hu (pv 3) pe_str (fun _ _ => rfl))) (pg_tup (by rfl) (pgs_cons (pg_name (i := 5) scLw.nd rfl (.inl rfl)) (pgs_cons (pg_name (i := 6) scLw.nd rfl (.inl rfl)) pgs_nil)))
          (pss_cons (ps_for PassesOwn.never rfl (pi_list (pv 6)) (pg_tup (by rfl) (pgs_cons (pg_name (i := 7) scLw.nd rfl (.inl rfl)) (pgs_cons (pg_name (i := 8) scLw.nd rfl (.inl rfl)) (pgs_cons (pg_name (i := 9) scLw.nd rfl (.inl rfl)) pgs_nil))))
          (pss_cons (ps_set (i := 10) scLw.nd rfl (.inl rfl) (pe_call Y.gC hr1 (by rfl) Y.dC.gl Y.dC.kp Y.bC .nil pass0 (pa_cons (pv 8) (pa_cons (pe_dget hu (pv 4) pe_str (fun _ _ => rfl)) pa_nil))))
          (pss_cons (ps_for PassesOwn.never rfl (pi_range1 (by rfl) Y.T.range (pa_cons (pe_callB (r := rLen K) call_len_seq (by rfl) Y.T.len PySem.boot_len (pa_cons (pv 10) pa_nil)) pa_nil)) (pg_name (i := 11) scLw.nd rfl (.inl rfl))
          (pss_cons (ps_set (i := 12) scLw.nd rfl (.inl rfl) (pe_w (t' := tGiv) (pe_callTy call_tupU (by rfl) Y.Gs.tuple (by decide +kernel) (pa_cons (pe_lc (own := [("kind", 13), ("number", 14)]) (g := gTup K 2 (gCons (gName 13) (gCons (gName 14) gNil))) (tt := tYes) rfl scLw.nd (pi_zipQ (by rfl) Y.zip (pa_cons (pv 8) (pa_cons (pe_ix ix_list (pv 10) (pv 11) (fun _ _ => rfl)) pa_nil))) (blkOk_by (N := nLw) (sc := defScope sLaw) (by decide +kernel)) (fun _ _ _ _ _ => pg_tup (by rfl) (pgs_cons (pg_name (i := 13) scLw.nd rfl (.inl rfl)) (pgs_cons (pg_name (i := 14) scLw.nd rfl (.inl rfl)) pgs_nil))) (fun _ _ _ _ _ => pts_nil) (fun _ _ _ _ _ => pe_tup (pa_cons pe_str (pa_cons (pv 13) (pa_cons (pv 14) pa_nil))))) pa_nil)) ?giv))
            (pss_cons (ps_set (i := 15) scLw.nd rfl (.inl rfl) (pe_ix ix_list (pe_dget hu (pe_dget hu (pv 4) pe_str (fun _ _ => rfl)) (pv 7) (fun _ _ => rfl)) (pv 11) (fun _ _ => rfl)))
            (pss_cons (ps_set (i := 16) scLw.nd rfl (.inl rfl) (pe_w (t' := tDue) (pe_ifExp (pt_cmpR op_eq (pv 9) pe_str (nomark _)) (pe_tup (pa_cons pe_str (pa_cons (pv 15) pa_nil))) (pe_tup (pa_cons pe_str (pa_cons (pv 9) (pa_cons (pv 15) pa_nil))))) ?due))
            (pss_cons (ps_set (i := 17) scLw.nd rfl (.inl rfl) (pe_w (t' := tHand) (pe_ifExp (pt_cmpR op_eq (pe_call Y.gP hr1 (by rfl) Y.dP.gl Y.dP.kp Y.bP .nil pass0 (pa_cons (pv 1) (pa_cons pe_int pa_nil))) pe_int (nomark _)) (pe_callTy call_list_tupB (by rfl) Y.Gs.list (by decide +kernel) (pa_cons (pv 12) pa_nil)) (pv 12)) ?hand))
            (pss_one (ps_if (PW.pt (pw_or (pt_cmpR (r := rNeP K) (op_neP hr.units) (pe_call GA hr5 (by rfl) Y.dA.gl Y.dA.kp Y.bA .nil pass0 (pa_cons (pe_dget hu (pv 4) pe_str (fun _ _ => rfl)) (pa_cons (pv 7) (pa_cons (pv 17) pa_nil)))) (pv 16) (nomark _)) (pw_or1 (pt_cmpR op_ne (pe_call Y.gV hr2 (by rfl) Y.dV.gl Y.dV.kp Y.bV .nil pass0 (pa_cons (pe_dget hu (pv 3) pe_str (fun _ _ => rfl)) (pa_cons (pv 5) (pa_cons (pv 8) pa_nil)))) (pv 7) (nomark _))))) (pss_one (ps_ret pe_bl)) pss_nil)))))))
          (pss_cons (ps_set (i := 12) scLw.nd rfl (.inl rfl) (pe_w (t' := tZero) (pe_callTy call_tupU (by rfl) Y.Gs.tuple (by decide +kernel) (pa_cons (pe_lc (own := [("kind", 13)]) (g := gName 13) (tt := tYes) rfl scLw.nd (pi_tup (pv 8)) (blkOk_by (N := nLw) (sc := defScope sLaw) (by decide +kernel)) (fun _ _ _ _ _ => (pg_name (i := 13) scLw.nd rfl (.inl rfl))) (fun _ _ _ _ _ => pts_nil) (fun _ _ _ _ _ => pe_tup (pa_cons pe_str (pa_cons (pv 13) (pa_cons pe_int pa_nil))))) pa_nil)) ?zero))
          (pss_one (ps_for PassesOwn.never rfl (pi_range1 (by rfl) Y.T.range (pa_cons pe_int pa_nil)) (pg_name (i := 18) scLw.nd rfl (.inl rfl))
          (pss_cons (ps_set (i := 19) scLw.nd rfl (.inl rfl) (pe_call Y.gD hr3 (by rfl) Y.dD.gl Y.dD.kp Y.bD .nil pass0 (pa_cons (pv 1) (pa_cons (pe_dget hu (pv 4) pe_str (fun _ _ => rfl)) (pa_cons (pv 8) (pa_cons (pv 12) pa_nil))))))
            (pss_one (ps_if (pt_cmpR (r := rNeP K) (op_neP hr.units) (pe_call Y.gR hr6 (by rfl) Y.dR.gl Y.dR.kp Y.bR .nil pass0 (pa_cons (pe_dget hu (pv 4) pe_str (fun _ _ => rfl)) (pa_cons (pv 7) (pa_cons (pv 19) pa_nil)))) (pe_lst (pa_cons pe_str (pa_cons (pv 7) pa_nil))) (nomark _)) (pss_one (ps_ret pe_bl)) pss_nil)))))))))
        (pss_one (ps_for PassesOwn.never rfl (pi_range1 (by rfl) Y.T.range (pa_cons pe_int pa_nil)) (pg_name (i := 18) scLw.nd rfl (.inl rfl))
          (pss_cons (ps_set (i := 20) scLw.nd rfl (.inr rfl) (pe_w (t' := tSome) (pe_callTy call_tupU (by rfl) Y.Gs.tuple (by decide +kernel) (pa_cons (pe_lc (own := [("k", 21)]) (g := gName 21) (tt := tYes) rfl scLw.nd (pi_range1 (by rfl) Y.T.range (pa_cons (pe_call Y.gP hr1 (by rfl) Y.dP.gl Y.dP.kp Y.bP .nil pass0 (pa_cons (pv 1) (pa_cons pe_int pa_nil))) pa_nil)) (blkOk_by (N := nLw) (sc := defScope sLaw) (by decide +kernel)) (fun _ _ _ _ _ => (pg_name (i := 21) scLw.nd rfl (.inl rfl))) (fun _ _ _ _ _ => pts_nil) (fun _ _ _ _ _ => (pe_call Y.gO hr2 (by rfl) Y.dO.gl Y.dO.kp Y.bO .nil pass0 (pa_cons (pv 1) (pa_cons (pe_op op_cat (pe_dget hu (pv 3) pe_str (fun _ _ => rfl)) (pe_lst (pa_cons pe_str (pa_cons pe_str pa_nil)))) pa_nil))))) pa_nil)) ?some))
          (pss_cons (ps_w (t' := tFit) (ps_setLc (i := 22) (own := [("row", 23)]) (g := gName 23) rfl scLw.nd rfl rfl (sw_true rfl rfl rfl (by decide +kernel)) (pi_list (pv 6)) (blkOk_by (N := nLw) (sc := defScope sLaw) (by decide +kernel)) (fun _ _ _ _ _ => (pg_name (i := 23) scLw.nd rfl (.inl rfl))) (fun _ _ _ _ _ => pts_one (pt_cmpR (r := rEqP K) (op_eqP hr.units) (pe_ix (r := rIxT K) ix_tup (pv 23) pe_int (fun _ _ => rfl)) (pv 20) (nomark _))) (fun _ _ _ _ _ => pe_ix (r := rIxT K) ix_tup (pv 23) pe_int (fun _ _ => rfl))) ?fit)
          (pss_one (ps_if (pt_cmpR op_ne (pe_call Y.gV hr2 (by rfl) Y.dV.gl Y.dV.kp Y.bV .nil pass0 (pa_cons (pe_dget hu (pv 3) pe_str (fun _ _ => rfl)) (pa_cons (pv 5) (pa_cons (pv 20) pa_nil)))) (pe_w (t' := tHead) (pe_ifExp (pt_cmpR (r := rNeP K) (op_neP hr.units) (pv 22) (pe_lst pa_nil) (nomark _)) (pe_ix ix_list (pv 22) pe_int (fun _ _ => rfl)) pe_non) ?head) (nomark _)) (pss_one (ps_ret pe_bl)) pss_nil))))))))
        (pss_one (ps_for PassesOwn.never rfl (pi_list (pe_lst (pa_cons pe_str (pa_cons pe_non (pa_cons pe_int (pa_cons (pe_lstB (pa_cons pe_str pa_nil)) (pa_cons pe_dnewK pa_nil))))))) (pg_name (i := 19) scLw.nd rfl (.inl rfl))
          (pss_one (ps_if (pt_cmpR op_ne (pe_callB (call_reprL hq hu4 n1000) (by rfl) Y.repr (by decide +kernel) (pa_cons (pe_call Y.gR hr6 (by rfl) Y.dR.gl Y.dR.kp Y.bR .nil pass0 (pa_cons (pe_dget hu (pv 4) pe_str (fun _ _ => rfl)) (pa_cons (pv 19) (pa_cons pe_non pa_nil)))) pa_nil)) (pe_callB (call_reprL hq hu4 n1000) (by rfl) Y.repr (by decide +kernel) (pa_cons (pe_lst (pa_cons pe_str (pa_cons (pv 19) pa_nil))) pa_nil)) (nomark _)) (pss_one (ps_ret pe_bl)) pss_nil))))))))
      (pss_one (ps_ret pe_bl))), ?_⟩
    case giv =>
      rintro σ H Q ⟨l24, o, L, ca, ws, ns, xs, i, h8, h10, h11, eL, hat, ho, hca, hns, hws, q⟩
      obtain ⟨v0, v1, v2, v3, v4, v5, v6, v7, v8, v9, va, vb, vc, vd, ve, vf, vg, vh, vi, vj, vk, vl, vm, vn, rfl⟩ := len24 l24
      have lz : (ws.map V.str).length = (ns.map V.int).length := by rw [List.length_map, List.length_map, hns]
      refine ⟨_, h8, _, h10, _, h11, L, _, _, .ref ca, rfl, rfl, SqL.of eL, hat, o, ca, _, _, rfl, SqT.of ho, .inl ⟨SqT.of hca, fun D nD => lc_it (walk_zipT (K := K) (a := o) (b := ca) (xs := ws.map V.str) (ys := ns.map V.int) lz) (fun i Hb => Same H Hb ∧ ∃ ts, Hb D = some (.lst (ts.map V.ref)) ∧ Paired (TkAt Hb) ts ((ws.zip ns).take i)) ⟨same_new nD, [], upd_same, .nil⟩ (fun i Hb _ ⟨sm, _⟩ => ⟨SqT.of (sm _ _ ho), SqT.of (sm _ _ hca)⟩) ?_ ?_⟩⟩
      · rintro i Hx Hb Hc hi ⟨sb, ts, eD, hts⟩ ⟨T', x1, x2, rfl, nT, rfl, e1', e2'⟩
        have e3 : (ws.map V.str)[i]? = some x1 := e1'
        have e4 : (ns.map V.int)[i]? = some x2 := e2'
        rw [List.getElem?_map] at e3 e4
        obtain ⟨kd, hk, rfl⟩ := Option.map_eq_some_iff.mp e3
        obtain ⟨n, hn, rfl⟩ := Option.map_eq_some_iff.mp e4
        have sc : Same Hb (upd Hb T' (.tup [.str kd, .int n])) := same_new nT
        refine ⟨T', _, rfl, SqT.of upd_same, rfl, _, _, rfl, _, _, rfl, rfl, rfl, _, rfl, _, rfl, by show 3 ≤ sizeLine; decide, fun t2 nt2 => ?_⟩
        obtain ⟨Hd, z, sd, ed⟩ := fresh nt2 (.tup [.str "tok", .str kd, .int n])
        rw [z]
        clear z
        have eD2 := sd _ _ (sc _ _ eD)
        have et : (ws.zip ns).take (i + 1) = (ws.zip ns).take i ++ [(kd, n)] := by
          rw [List.take_add_one, List.getElem?_zip_eq_some (z := (kd, n)).mpr ⟨hk, hn⟩]
          rfl
        have tl : Tups Hd (upd Hd D (.lst (ts.map V.ref ++ [.ref t2]))) := Tups.lock eD2 fun _ z => nomatch z
        refine ⟨ts.map V.ref, eD2, ?_, fun c' ob e => ?_, ts ++ [t2], ?_, ?_⟩
        · rw [List.length_map, Paired.length hts, List.length_take, List.length_zip]
          exact small1000 (by omega)
        · rw [upd_ne (ne_of_none e nD)]
          exact sd _ _ (sc _ _ (sb _ _ e))
        · rw [upd_same, List.map_append]
          rfl
        · rw [et]
          exact Paired.snoc (tks_tups tl (tks_tups (Tups.of (sc.trans sd)) hts)) (tl _ _ ed)
      · rintro Hb ⟨sb, ts, eD, hts⟩
        rw [List.length_map, List.take_of_length_le (by rw [List.length_zip]; omega)] at hts
        exact ⟨D, _, rfl, .inl eD, fun t0 Hc sc et _ => q t0 ts Hc (sb.trans sc) et (tks_tups (Tups.of sc) hts)⟩
    case due =>
      rintro σ H Q ⟨r, e, h9, h15, q⟩
      refine ⟨_, h9, rfl, _, rfl, ite2 (fun hb => ?_) (fun hb => ?_)⟩
      · have rb : r = "bit" := by simpa using hb
        exact ⟨_, h15, by show 2 ≤ sizeLine; decide, fun u nu => q u _ (same_new nu) (by unfold resV; rw [if_pos rb]; exact upd_same)⟩
      · have rb : ¬ r = "bit" := by simpa using hb
        exact ⟨_, h9, _, h15, by show 3 ≤ sizeLine; decide, fun u nu => q u _ (same_new nu) (by unfold resV; rw [if_neg rb]; exact upd_same)⟩
    case hand =>
      rintro σ H Q ⟨p, c, t, xs, h1, h12, S, ht, q⟩
      refine ⟨_, h1, p, c, 4, rfl, S, by decide, by decide, fun r H1 r0 r1 k1 S1 => ?_⟩
      have d1 : Dr p c H H1 := ⟨k1, S1⟩
      have ht1 := k1 _ _ ht (S.tupOff ht)
      refine ⟨rfl, _, rfl, ite2 (fun hb => ?_) (fun hb => ?_)⟩
      · exact ⟨_, h12, t, xs, rfl, SqT.of ht1, fun l nl zl => q _ _ (d1.same (same_new nl)) (.inr ⟨l, rfl, upd_same, zl, S1.off nl⟩)⟩
      · exact ⟨_, h12, q _ _ d1 (.inl rfl)⟩
    case zero =>
      rintro σ H Q ⟨l24, p, c, o, ws, h8, S, ho, hws, q⟩
      obtain ⟨v0, v1, v2, v3, v4, v5, v6, v7, v8, v9, va, vb, vc, vd, ve, vf, vg, vh, vi, vj, vk, vl, vm, vn, rfl⟩ := len24 l24
      refine ⟨_, h8, o, rfl, ⟨_, SqT.of ho⟩, fun D nD => lc_it (walk_tup (K := K) (a := o) (xs := ws.map V.str)) (fun i Hb => Same H Hb ∧ ∃ ts, Hb D = some (.lst (ts.map V.ref)) ∧ GivAt (Off p c) Hb ts (ws.take i)) ⟨same_new nD, [], upd_same, .nil⟩ (fun i Hb _ ⟨sm, _⟩ => SqT.of (sm _ _ ho)) ?_ ?_⟩
      · rintro i x Hb Hc hi ⟨sb, ts, eD, hts⟩ ⟨rfl, hx⟩
        rw [List.getElem?_map] at hx
        obtain ⟨kd, hk, rfl⟩ := Option.map_eq_some_iff.mp hx
        refine ⟨rfl, _, rfl, by show 3 ≤ sizeLine; decide, fun t2 nt2 => ?_⟩
        have S2 := S.same sb
        obtain ⟨Hd, z, sd, ed⟩ := fresh nt2 (.tup [.str "tok", .str kd, .int 0])
        rw [z]
        clear z
        have ot2 := S2.off nt2
        have eD2 := sd _ _ eD
        have tl : Tups Hd (upd Hd D (.lst (ts.map V.ref ++ [.ref t2]))) := Tups.lock eD2 fun _ z => nomatch z
        refine ⟨ts.map V.ref, eD2, ?_, fun c' ob e => ?_, ts ++ [t2], ?_, ?_⟩
        · rw [List.length_map, Paired.length hts, List.length_take]
          exact small1000 (by omega)
        · rw [upd_ne (ne_of_none e nD)]
          exact sd _ _ (sb _ _ e)
        · rw [upd_same, List.map_append]
          rfl
        · rw [List.take_add_one, hk]
          exact Paired.snoc (Paired.imp (fun _ _ ⟨h, n⟩ => ⟨tl _ _ (sd _ _ h), n⟩) hts) ⟨tl _ _ ed, ot2⟩
      · rintro Hb ⟨sb, ts, eD, hts⟩
        rw [List.length_map, List.take_length] at hts
        exact ⟨D, _, rfl, .inl eD, fun t0 Hc sc et _ => q t0 ts Hc (sb.trans sc) et (Paired.imp (fun _ _ ⟨h, n⟩ => ⟨sc _ _ h, n⟩) hts)⟩
    case some =>
      rintro σ H Q ⟨l24, p, c, gr, l, fa, g, ks, h1, h3, S, hgr, hl', ogr, ol, hks, q⟩
      obtain ⟨v0, v1, v2, v3, v4, v5, v6, v7, v8, v9, va, vb, vc, vd, ve, vf, vg, vh, vi, vj, vk, vl, vm, vn, rfl⟩ := len24 l24
      refine ⟨_, h1, p, c, 4, rfl, S, by decide, by decide, fun r H1 r0 r1 k1 S1 => ?_⟩
      have r4 : r < 4 := r1
      have d1 : Dr p c H H1 := ⟨k1, S1⟩
      have lo : -(2 ^ 62) ≤ r := by
        have : -(2 ^ 62 : Int) ≤ 0 := by decide
        omega
      have hi' : r < 2 ^ 62 := by
        have : (4 : Int) ≤ 2 ^ 62 := by decide
        omega
      refine ⟨r, rfl, lo, hi', fun D nD => lc_it (walk_range (lo := 0) (n := r.toNat)) (fun i Hb => Dr p c H1 Hb ∧ ∃ us : List Str, Hb D = some (.lst (us.map V.str)) ∧ us.length = i) ⟨(Dr.refl S1).same (same_new nD), [], upd_same, rfl⟩ (fun _ _ _ _ => trivial) ?_ ?_⟩
      · rintro i x Hb Hc hi ⟨db, us, eD, lu⟩ ⟨rfl, rfl⟩
        have oD := S1.off nD
        have db' := d1.trans db
        have gK : DGet Hc gr (.str "kinds") (some (.ref l)) := DGet.k (k := Sum.inr "kinds") (db'.k _ _ hgr ogr)
        refine ⟨rfl, _, h1, _, h3, gr, .ref l, rfl, gK, by show 2 ≤ sizeLine; decide, fun L2 nL2 => ?_⟩
        have kl := db'.k _ _ hl' ol
        obtain ⟨Hd, z, sd, ed⟩ := fresh nL2 (.lst [.str "bit", .str "zz"])
        rw [z]
        clear z
        refine ⟨l, L2, _, _, rfl, rfl, sd _ _ kl, ed, ?_, fun L3 nL3 => ?_⟩
        · rw [List.length_map]
          exact Nat.le_trans (by show ks.length + 2 ≤ 1000; omega) (by decide)
        have Sd := db.s.same sd
        obtain ⟨He, z, se, ee⟩ := fresh nL3 (.lst (ks.map V.str ++ [.str "bit", .str "zz"]))
        rw [z]
        clear z
        have Se := Sd.same se
        refine ⟨p, c, L3, _, rfl, Se, ee, Sd.off nL3, by rw [List.length_append]; show 1 ≤ _ + 2; omega, by rw [List.length_append, List.length_map]; show ks.length + 2 ≤ 1000; omega, fun v Hf hv kf Sf => ?_⟩
        obtain ⟨u, rfl⟩ : ∃ u, v = .str u := by
          rcases List.mem_append.mp hv with h | h
          · obtain ⟨x, _, e⟩ := List.mem_map.mp h
            exact ⟨x, e.symm⟩
          · simp only [List.mem_cons, List.not_mem_nil, or_false] at h
            rcases h with h | h <;> exact ⟨_, h⟩
        have df : Dr p c Hc Hf := ((Dr.refl db.s).same (sd.trans se)).trans ⟨kf, Sf⟩
        refine ⟨us.map V.str, df.k _ _ eD oD, ?_, (db.trans df).at nD oD, us ++ [u], ?_, ?_⟩
        · rw [List.length_map]
          exact small1000 (by omega)
        · rw [upd_same, List.map_append]
          rfl
        · rw [List.length_append, lu]
          rfl
      · rintro Hb ⟨db, us, eD, lu⟩
        exact ⟨D, _, rfl, .inl eD, fun t0 Hc sc et _ => q t0 us Hc ((d1.trans db).same sc) et⟩
    case fit =>
      rintro Dn σ H ⟨l24, l', t, as, rows, us, h6, h20, hl', hrows, few, ht, q⟩
      obtain ⟨v0, v1, v2, v3, v4, v5, v6, v7, v8, v9, va, vb, vc, vd, ve, vf, vg, vh, vi, vj, vk, vl, vm, vn, rfl⟩ := len24 l24
      have spl : as.length = rows.length := Paired.length hrows
      refine ⟨_, h6, l', rfl, ⟨_, SqL.of hl'⟩, fun D nD => lc_it (walk_list (K := K) (a := l') (xs := as.map V.ref)) (fun i Hb => Same H Hb ∧ Hb D = some (.lst ((((rows.take i).filter fun r => decide (r.2.1 = us)).map (·.1)).map V.str))) ⟨same_new nD, upd_same⟩ (fun i Hb _ ⟨sm, _⟩ => SqL.of (sm _ _ hl')) ?_ ?_⟩
      · rintro i x Hb Hc hi ⟨sb, eD⟩ ⟨rfl, hx⟩
        rw [List.getElem?_map] at hx
        obtain ⟨ra, hra, rfl⟩ := Option.map_eq_some_iff.mp hx
        obtain ⟨row, er, o, u1, u2⟩ := Paired.at (hrows.tups (Tups.of sb)) hra
        have dz : (txtsD row.2.1).depth ≤ 60 := by
          show PyData.depthAll (row.2.1.map .str) + 1 ≤ 60
          rw [depth_strs]
          decide
        have et : rows.take (i + 1) = rows.take i ++ [row] := by
          rw [List.take_add_one, er]
          rfl
        refine ⟨rfl, _, rfl, ra, _, _, .ref o, rfl, rfl, SqT.of u1, atI_nat (j := 1) rfl, _, h20, txtsD row.2.1, txtsD us, dp_tupS u2, dp_tupS (sb _ _ ht), dz, _, rfl, ?_⟩
        rw [eqv_txts]
        refine ite2 (fun hb => ?_) (fun hb => ?_)
        · have e : row.2.1 = us := of_decide_eq_true hb
          refine ⟨_, rfl, ra, _, _, .str row.1, rfl, rfl, SqT.of u1, atI_nat (j := 0) rfl, _, eD, ?_, fun c' ob e => ?_, ?_⟩
          · rw [List.length_map, List.length_map]
            refine small1000 ?_
            have := List.length_filter_le (fun r : Row => decide (r.2.1 = us)) (rows.take i)
            rw [List.length_take] at this
            omega
          · rw [upd_ne (ne_of_none e nD)]
            exact sb _ _ e
          · rw [upd_same, et, List.filter_append]
            simp [e]
        · refine ⟨sb, ?_⟩
          rw [et, List.filter_append]
          have hb' : ¬ row.2.1 = us := fun e => hb (decide_eq_true e)
          simp [hb', eD]
      · rintro Hb ⟨sb, eD⟩
        rw [List.length_map, spl, List.take_length] at eD
        exact q D Hb sb eD
    case head =>
      rintro σ H Q ⟨f, ws, h22, hf, q⟩
      refine ⟨_, h22, by show 0 ≤ sizeLine; decide, fun l nl => ?_⟩
      obtain ⟨Hd, z, sd, ed⟩ := fresh nl (.lst [])
      rw [z]
      clear z
      have dz : (PyData.list (ws.map .str)).depth ≤ 60 := by
        show PyData.depthAll (ws.map .str) + 1 ≤ 60
        rw [depth_strs]
        decide
      refine ⟨.list (ws.map .str), .list ([].map .str), dp_lstS (sd _ _ hf), dp_lstS ed, dz, _, rfl, ?_⟩
      rw [eqv_lsts]
      cases ws with
      | nil => exact q Hd sd
      | cons w ws => exact ⟨_, h22, f, _, _, .str w, rfl, rfl, SqL.of (sd _ _ hf), atI_nat (j := 0) rfl, q Hd sd⟩
    refine ⟨_, rfl, a, ns, rfl, hS, hl, fun p c H1 _ _ _ S1 => ⟨2, rfl, by decide, by decide, ?_⟩⟩
    refine for_range (lo := 0) (n := 2) (fun i σ H2 => Src p c H2 ∧ ∃ w2 w3 w4 w5 w6 w7 w8 w9 w10 w11 w12 w15 w16 w17 w18 w19 w20 w22, σ = [some (.ref a), some (.ref p), w2, w3, w4, w5, w6, w7, w8, w9, w10, w11, w12, none, none, w15, w16, w17, w18, w19, w20, none, w22, none]) ⟨S1, _, _, _, _, _, _, _, _, _, _, _, _, _, _, _, _, _, _, rfl⟩ ?_ (fun σ H2 _ => k H2)
    rintro i2 σ H2 hi2 ⟨S2, w2, w3, w4, w5, w6, w7, w8, w9, w10, w11, w12, w15, w16, w17, w18, w19, w20, w22, rfl⟩
    -- the signature, the book
    refine ⟨_, rfl, p, c, rfl, S2, fun gr ks ps i3 H3 okK zz hi3 dr hG d3 ogr => ?_⟩
    have okP := dr.ok hi3
    refine ⟨_, rfl, _, rfl, p, c, gr, ks, ps, rfl, d3.s, okK, okP, hG, fun bd b sz tb H4 okS sz4 okT hB d4 => ?_⟩
    have hG4 := hG.keep d4.k (d3.s.tups d4.k)
    clear hG
    obtain ⟨l, fa, g, as, g1, g2, g3, g4, g5, ngr, nl, nfa⟩ := hG4
    obtain ⟨sd, td, tvs, b1, b2, b3, b4, b5, nbd, nsd, ntd⟩ := hB
    have S4 := d4.s
    have gP : DGet H4 gr (.str "primitives") (some (.ref fa)) := DGet.k (k := Sum.inr "primitives") g1
    have fewP := okP.few
    have fl := flat_len ps
    refine ⟨_, rfl, gr, .ref fa, rfl, gP, fa, rfl, ⟨_, SqL.of g3⟩, for_it (walk_list (K := K) (a := fa) (xs := as.map V.ref)) (fun i σ H5 => Dr p c H4 H5 ∧ ∃ w5 w6 w7 w8 w9 w10 w11 w12 w15 w16 w17 w18 w19 w20 w22, σ = [some (.ref a), some (.ref p), some (.int (0 + (i2 : Int))), some (.ref gr), some (.ref bd), w5, w6, w7, w8, w9, w10, w11, w12, none, none, w15, w16, w17, w18, w19, w20, none, w22, none]) ⟨Dr.refl S4, _, _, _, _, _, _, _, _, _, _, _, _, _, _, _, rfl⟩ (fun i σ H5 _ ⟨d, _⟩ => SqL.of (d.k _ _ g3 nfa)) ?_ ?_⟩
    · rintro i5 x σ H5 H6 hi5 ⟨d6, w5, w6, w7, w8, w9, w10, w11, w12, w15, w16, w17, w18, w19, w20, w22, rfl⟩ ⟨rfl, hx⟩
      rw [List.getElem?_map] at hx
      obtain ⟨ra, hra, rfl⟩ := Option.map_eq_some_iff.mp hx
      obtain ⟨pr, ep, l', as', p1, p2, p3, nl'⟩ := Paired.at (g4.keep d6.k (S4.tups d6.k)) hra
      have hpr := List.mem_of_getElem? ep
      have fewR : pr.2.length ≤ 900 := by
        have h1 := flat_le ps (i5 + 1)
        rw [flat_take ep, List.length_append] at h1
        omega
      refine ⟨ra, _, rfl, SqT.of p1, rfl, _, _, rfl, _, _, rfl, rfl, ?_⟩
      refine ⟨_, rfl, l', rfl, ⟨_, SqL.of p2⟩, for_it (walk_list (K := K) (a := l') (xs := as'.map V.ref)) (fun i σ H7 => Dr p c H6 H7 ∧ ∃ w7 w8 w9 w10 w11 w12 w15 w16 w17 w18 w19, σ = [some (.ref a), some (.ref p), some (.int (0 + (i2 : Int))), some (.ref gr), some (.ref bd), some (.str pr.1), some (.ref l'), w7, w8, w9, w10, w11, w12, none, none, w15, w16, w17, w18, w19, w20, none, w22, none]) ⟨Dr.refl d6.s, _, _, _, _, _, _, _, _, _, _, _, rfl⟩ (fun i σ H7 _ ⟨d, _⟩ => SqL.of (d.k _ _ p2 nl')) ?_ ?_⟩
      · rintro i7 x σ H7 H8 hi7 ⟨d8, w7, w8, w9, w10, w11, w12, w15, w16, w17, w18, w19, rfl⟩ ⟨rfl, hx⟩
        rw [List.getElem?_map] at hx
        obtain ⟨rb, hrb, rfl⟩ := Option.map_eq_some_iff.mp hx
        have d48 : Dr p c H4 H8 := d6.trans d8
        obtain ⟨row, er, o, u1, u2⟩ := Paired.at (p3.tups (d6.s.tups d8.k)) hrb
        have hrow := List.mem_of_getElem? er
        obtain ⟨wl, wk, wr⟩ := okP.own pr hpr row hrow
        have few : FewOf sz row.2.1 := fun k hk => by
          obtain ⟨i, h1, h2⟩ := look_mem (sz := sz) (n := k) (by rw [okS.keys]; exact wk k hk)
          exact ⟨i, h1, okS.low _ h2, sz4 _ h2⟩
        have ro := rows_ok wl (fun k hk => by obtain ⟨i, e, i1, _⟩ := few k hk; rw [e]; show (0 : Int) ≤ i; omega)
        obtain ⟨es, hes, tok⟩ := okT.at_ _ (own_in hpr hrow)
        have hes : tb.lookup row.1 = some es := hes
        have tok : TabOk sz row.2.1 row.2.2 es := tok
        have hnm := own_named okP hpr hrow
        have tell : TellOk (.str row.1) := drawn_tell dr hi3 hpr hrow
        have wl2 : row.2.1.length ≤ 2 := by omega
        refine ⟨rb, _, rfl, SqT.of u1, rfl, _, _, rfl, _, _, rfl, _, _, rfl, rfl, ?_⟩
        have gs8 : DGet H8 bd (.str "sizes") (some (.ref sd)) := DGet.k (k := Sum.inr "sizes") (d48.k _ _ b1 nbd)
        refine ⟨_, rfl, _, rfl, bd, .ref sd, rfl, gs8, o, sd, row.2.1, sz, rfl, u2, d48.k _ _ b2 nsd, wl, few, fun L cs H9 s9 nL eL hcs => ?_⟩
        have d9 : Dr p c H8 H9 := (Dr.refl d48.s).same s9
        have oL := d48.s.off nL
        have cl : (cs.length : Int) = choices sz row.2.1 := by
          rw [Paired.length hcs]
          exact ro.many
        have c16 := choice_16 few wl
        have lcs : cs.length ≤ 16 := by omega
        have lo : -(2 ^ 62) ≤ ((cs.map V.ref).length : Int) := Int.le_trans (by decide : -(2 ^ 62 : Int) ≤ 0) (Int.natCast_nonneg _)
        have hi' : ((cs.map V.ref).length : Int) < 2 ^ 62 := by
          rw [List.length_map]
          exact Int.lt_of_le_of_lt (by omega : (cs.length : Int) ≤ 16) (by decide)
        refine ⟨_, rfl, L, _, rfl, .inl (SqL.of eL), _, rfl, lo, hi', ?_⟩
        refine for_range (lo := 0) (n := (cs.map V.ref).length) (fun t σ Ha => Dr p c H9 Ha ∧ ∃ w11 w12 w15 w16 w17, σ = [some (.ref a), some (.ref p), some (.int (0 + (i2 : Int))), some (.ref gr), some (.ref bd), some (.str pr.1), some (.ref l'), some (.str row.1), some (.ref o), some (.str row.2.2), some (.ref L), w11, w12, none, none, w15, w16, w17, w18, w19, w20, none, w22, none]) ⟨Dr.refl d9.s, _, _, _, _, _, rfl⟩ ?_ ?_
        · rintro t σ Ha ht ⟨da, w11, w12, w15, w16, w17, rfl⟩
          rw [List.length_map] at ht
          have d4a := (d48.trans d9).trans da
          have ta := (d48.trans d9).s.tups da.k
          have eLa := da.k _ _ eL oL
          obtain ⟨ca, hca⟩ : ∃ ca, cs[t]? = some ca := ⟨_, List.getElem?_eq_getElem ht⟩
          obtain ⟨nsr, ens, hct⟩ := Paired.at (hcs.tups ta) hca
          have hmem := List.mem_of_getElem? ens
          have lenr := ro.len nsr hmem
          obtain ⟨okq, numq⟩ := ok_row okK wk okS ro hmem
          have hat : atI (cs.map V.ref) (0 + (t : Int)) = some (.ref ca) := by
            rw [Int.zero_add]
            exact atI_nat (by rw [List.getElem?_map, hca]; rfl)
          have u2a := ta _ _ (s9 _ _ u2)
          refine ⟨rfl, o, L, ca, row.2.1, nsr, _, _, rfl, rfl, rfl, eLa, hat, u2a, hct, lenr, wl2, fun gv ts Hb sb egv hts => ?_⟩
          have d4b := d4a.same sb
          obtain ⟨lt, vt, elt⟩ := ((b4.keep d4b.k).plain).some hes
          have gT : DGet Hb bd (.str "tables") (some (.ref td)) := DGet.k (k := Sum.inr "tables") (d4b.k _ _ b1 nbd)
          have gV : DGet Hb td (.str row.1) (some (.ref lt)) := vt ▸ DGet.k (k := Sum.inr row.1) (d4b.k _ _ b3 ntd)
          have tlt : t < es.length := by
            have := tok.len
            omega
          have hget : es[t]? = some es[t] := List.getElem?_eq_getElem tlt
          generalize es[t] = e at hget
          have ent := tok.ents e (List.mem_of_getElem? hget)
          have hate : atI es (0 + (t : Int)) = some e := by
            rw [Int.zero_add]
            exact atI_nat hget
          refine ⟨_, rfl, bd, .ref td, rfl, gT, _, rfl, td, .ref lt, rfl, gV, _, rfl, lt, _, _, e, rfl, rfl, SqL.of elt, hate, ?_⟩
          refine ⟨row.2.2, e, rfl, rfl, fun u Hc sc eu => ?_⟩
          have d4c := d4b.same sc
          have egc := sc _ _ egv
          refine ⟨p, c, gv, _, rfl, rfl, d4c.s, egc, fun hv Hd dd hcase => ?_⟩
          have d4d := d4c.trans dd
          have td4 := d4c.s.tups dd.k
          have eud := td4 _ _ eu
          have htd := tks_tups td4 (tks_tups (Tups.of sc) hts)
          have das := tks_da dd.s htd
          obtain ⟨gd, hgd, shg, okv⟩ : ∃ gd, Da (Off p c) Hd hv gd ∧ ShortV gd ∧ okVals sz row.2.1 gd = some nsr := by
            have sh : ((row.2.1.zip nsr).map tkA).length ≤ 1000 ∧ ∀ d ∈ (row.2.1.zip nsr).map tkA, ShortT d := by
              refine ⟨by rw [List.length_map, List.length_zip]; omega, fun d hd => ?_⟩
              obtain ⟨x, hx, rfl⟩ := List.mem_map.mp hd
              exact tkA_short (okK.short _ (wk x.1 (List.of_mem_zip (a := x.1) (b := x.2) hx).1))
            rcases hcase with rfl | ⟨lh, rfl, elh, zl, ol⟩
            · have e1 := td4 _ _ egc
              exact ⟨.tuple _, .tup e1 (dd.s.tupOff e1) das, sh, by rw [vals_tup okq, numq]⟩
            · exact ⟨.list _, .lst elh ol zl das, sh, by rw [vals_lst okq, numq]⟩
          have bkd := b5.keep d4d.k (S4.tups d4d.k)
          have gM : DGet Hd bd (.str "made") (some (.ref b)) := DGet.k (k := Sum.inr "made") (d4d.k _ _ b1 nbd)
          obtain ⟨rd, rdz, rdq, rdp⟩ := res_dp ent
          refine ⟨_, rfl, bd, .ref b, rfl, gM, _, rfl, _, rfl, Off p c, b, ks, ps, sz, tb, .str row.1, hv, .str row.1, gd, rfl, bkd, okS, okP, okT, .str _, tell, hgd, shg, ?_⟩
          rw [hnm]
          show match okVals sz row.2.1 gd with | none => _ | some ns => _
          rw [okv]
          intro n' es' t' e' He hn' hes' he' se et'
          cases hn'
          rw [hes] at hes'
          cases hes'
          rw [ro.at_ t nsr ens] at he'
          have he2 : es[t]? = some e' := he'
          rw [hget] at he2
          cases he2
          have d4e := d4d.same se
          refine ⟨_, rfl, rd, rd, rdp _ _ et', rdp _ _ (se _ _ eud), rdz, ?_⟩
          rw [rdq]
          refine ⟨_, rfl, ?_⟩
          have gMe : DGet He gr (.str "made") (some (.ref g)) := DGet.k (k := Sum.inr "made") (d4e.k _ _ g1 ngr)
          have u2e := se _ _ (td4 _ _ (sc _ _ (sb _ _ u2a)))
          refine ⟨_, rfl, gr, .ref g, rfl, gMe, _, rfl, _, rfl, Off p c, g, o, ks, ps, pr.1, row.2.1, pr.2, rfl, g5.keep d4e.k (S4.tups d4e.k), u2e, lookup_at okP.names ep, fewR, fun Hf sf => ?_⟩
          rw [find_own (okP.owns pr hpr) er]
          refine ⟨_, rfl, rfl, _, rfl, iteNS rfl ?_⟩
          exact ⟨((((da.same sb).same sc).trans dd).same se).same sf, _, _, _, _, _, rfl⟩
        · rintro σ Ha ⟨da, w11, w12, w15, w16, w17, rfl⟩
          have d4a := (d48.trans d9).trans da
          have ta := (d48.trans d9).s.tups da.k
          have u2a := ta _ _ (s9 _ _ u2)
          refine ⟨rfl, p, c, o, row.2.1, rfl, d4a.s, u2a, wl2, fun gv ts Hb sb egv hts => ?_⟩
          have dab := (d9.trans da).same sb
          have ogv := dab.s.tupOff egv
          refine ⟨4, rfl, by decide, by decide, ?_⟩
          refine for_range (lo := 0) (n := 4) (fun t σ Hc => Dr p c Hb Hc ∧ ∃ w18 w19, σ = [some (.ref a), some (.ref p), some (.int (0 + (i2 : Int))), some (.ref gr), some (.ref bd), some (.str pr.1), some (.ref l'), some (.str row.1), some (.ref o), some (.str row.2.2), some (.ref L), w11, some (.ref gv), none, none, w15, w16, w17, w18, w19, w20, none, w22, none]) ⟨Dr.refl dab.s, _, _, rfl⟩ ?_ ?_
          · rintro t σ Hc ht ⟨dc, w18, w19, rfl⟩
            have d4c := (d48.trans dab).trans dc
            have tc := dab.s.tups dc.k
            have gsc : DGet Hc bd (.str "sizes") (some (.ref sd)) := DGet.k (k := Sum.inr "sizes") (d4c.k _ _ b1 nbd)
            refine ⟨_, rfl, _, rfl, bd, .ref sd, rfl, gsc, _, rfl, _, rfl, p, c, sd, o, gv, ks, row.2.1, sz, ts, rfl, dc.s, d4c.k _ _ b2 nsd, nsd, tc _ _ egv, ogv, Paired.imp (fun _ _ ⟨h, n⟩ => ⟨tc _ _ h, n⟩) hts, wl, wk, okK, zz, okS, fun v Hd bad dd => ?_⟩
            have d4d := d4c.trans dd
            obtain ⟨vd, hvd, shv, nov⟩ := bad
            have bkd := b5.keep d4d.k (S4.tups d4d.k)
            have gM : DGet Hd bd (.str "made") (some (.ref b)) := DGet.k (k := Sum.inr "made") (d4d.k _ _ b1 nbd)
            refine ⟨_, rfl, bd, .ref b, rfl, gM, _, rfl, _, rfl, Off p c, b, ks, ps, sz, tb, .str row.1, v, .str row.1, vd, rfl, bkd, okS, okP, okT, .str _, tell, hvd, shv, (fun r hr' => by rw [hnm] at hr'; cases hr'; exact nov), fun L1 He se nL1 eL1 => ?_⟩
            rw [hnm] at eL1
            have eL1' : He L1 = some (.lst ((["variant", row.1] : List Str).map V.str)) := eL1
            refine ⟨_, rfl, by show 2 ≤ sizeLine; decide, fun L2 nL2 => ?_⟩
            obtain ⟨Hf, z, sf, ef⟩ := fresh nL2 (.lst [.str "variant", .str row.1])
            rw [z]
            clear z
            have ef' : Hf L2 = some (.lst ((["variant", row.1] : List Str).map V.str)) := ef
            refine ⟨.list ((["variant", row.1] : List Str).map .str), .list ((["variant", row.1] : List Str).map .str), dp_lstS (sf _ _ eL1'), dp_lstS ef', by show _ ≤ 60; simp [PyData.depth, PyData.depthAll], ?_⟩
            rw [eqv_self_strs]
            refine ⟨_, rfl, ?_⟩
            exact ⟨((dc.trans dd).same se).same sf, _, _, rfl⟩
          · rintro σ Hc ⟨dc, w18, w19, rfl⟩
            exact ⟨(d8.trans dab).trans dc, _, _, _, _, _, _, _, _, _, _, _, rfl⟩
      · rintro σ H7 ⟨d7, w7, w8, w9, w10, w11, w12, w15, w16, w17, w18, w19, rfl⟩
        refine ⟨3, rfl, by decide, by decide, ?_⟩
        have d47 := d6.trans d7
        refine for_range (lo := 0) (n := 3) (fun t σ H8 => Dr p c H7 H8 ∧ ∃ w18 w20 w22, σ = [some (.ref a), some (.ref p), some (.int (0 + (i2 : Int))), some (.ref gr), some (.ref bd), some (.str pr.1), some (.ref l'), w7, w8, w9, w10, w11, w12, none, none, w15, w16, w17, w18, w19, w20, none, w22, none]) ⟨Dr.refl d7.s, _, _, _, rfl⟩ ?_ ?_
        · rintro t σ H8 ht ⟨d8, w18, w20, w22, rfl⟩
          have d48 := d47.trans d8
          have fks := okK.few
          refine ⟨rfl, p, c, gr, l, fa, g, ks, rfl, rfl, d8.s, d48.k _ _ g1 ngr, d48.k _ _ g2 nl, ngr, nl, by omega, fun t0 us H9 d9 et0 => ?_⟩
          have d49 := d48.trans d9
          have d69 := (d7.trans d8).trans d9
          have p39 := p3.tups (d6.s.tups d69.k)
          refine ⟨rfl, l', t0, as', pr.2, us, rfl, rfl, d69.k _ _ p2 nl', p39, fewR, et0, fun f0 Ha sa ef0 => ?_⟩
          have d4a := d49.same sa
          have gMe : DGet Ha gr (.str "made") (some (.ref g)) := DGet.k (k := Sum.inr "made") (d4a.k _ _ g1 ngr)
          refine ⟨_, rfl, gr, .ref g, rfl, gMe, _, rfl, _, rfl, Off p c, g, t0, ks, ps, pr.1, us, pr.2, rfl, g5.keep d4a.k (S4.tups d4a.k), sa _ _ et0, lookup_at okP.names ep, fewR, fun Hb sb => ?_⟩
          rw [← List.head?_filter]
          generalize (pr.2.filter fun r => decide (r.2.1 = us)) = fx at ef0 ⊢
          cases fx with
          | nil => exact ⟨f0, [], rfl, sb _ _ ef0, fun Hc sc => ⟨rfl, _, rfl, iteNS rfl ⟨(((d8.trans d9).same sa).same sb).same sc, _, _, _, rfl⟩⟩⟩
          | cons x fx => exact ⟨f0, (x :: fx).map (fun r : Row => r.1), rfl, sb _ _ ef0, fun Hc sc => ⟨rfl, _, rfl, iteNS rfl ⟨(((d8.trans d9).same sa).same sb).same sc, _, _, _, rfl⟩⟩⟩
        · rintro σ H8 ⟨d8, w18, w20, w22, rfl⟩
          exact ⟨d47.trans d8, _, _, _, _, _, _, _, _, _, _, _, _, _, _, _, rfl⟩
    · rintro σ H5 ⟨d5, w5, w6, w7, w8, w9, w10, w11, w12, w15, w16, w17, w18, w19, w20, w22, rfl⟩
      refine ⟨by show 1 ≤ sizeLine; decide, fun l1 n1 z1 => ?_⟩
      obtain ⟨H6, z, s6, e6⟩ := fresh n1 (.lst [.str "v0"])
      rw [z]
      clear z
      have o1 := d5.s.off n1
      have d6 := d5.same s6
      intro m1 nm1
      obtain ⟨H7, z, s7, e7⟩ := fresh nm1 (.dK [])
      rw [z]
      clear z
      have om1 := d6.s.off nm1
      have d7 := d6.same s7
      refine ⟨by show 5 ≤ sizeLine; decide, fun L nL => ?_⟩
      obtain ⟨H8, z, s8, e8⟩ := fresh nL (.lst [.str "zz", .non, .int 0, .ref l1, .ref m1])
      rw [z]
      clear z
      have oL := d7.s.off nL
      have d8 := d7.same s8
      have odd : ∀ v ∈ ([.str "zz", .non, .int 0, .ref l1, .ref m1] : List V), OddOk p c ps H8 v := fun v hv => by
        simp only [List.mem_cons, List.not_mem_nil, or_false] at hv
        rcases hv with rfl | rfl | rfl | rfl | rfl
        · exact ⟨.str "zz", .str _, named_zz dr hi3, ⟨by decide +kernel, by decide +kernel⟩, ⟨by decide +kernel, by decide +kernel, by decide +kernel⟩⟩
        · exact ⟨.none, .non, rfl, trivial, ⟨by decide +kernel, by decide +kernel, by decide +kernel⟩⟩
        · exact ⟨.int 0, .int 0, rfl, trivial, ⟨by decide +kernel, by decide +kernel, by decide +kernel⟩⟩
        · exact ⟨.list [.str "v0"], .lst (s8 _ _ (s7 _ _ e6)) o1 z1 (.cons (.str _) .nil), rfl, trivial, ⟨by decide +kernel, by decide +kernel, by decide +kernel⟩⟩
        · exact ⟨.dict [], .emp (s8 _ _ e7) om1, rfl, trivial, ⟨by decide +kernel, by decide +kernel, by decide +kernel⟩⟩
      generalize ([.str "zz", .non, .int 0, .ref l1, .ref m1] : List V) = odds at odd e8
      refine ⟨L, rfl, ⟨_, SqL.of e8⟩, for_it (walk_list (K := K) (a := L) (xs := odds)) (fun i σ H9 => Same H8 H9 ∧ ∃ w19, σ = [some (.ref a), some (.ref p), some (.int (0 + (i2 : Int))), some (.ref gr), some (.ref bd), w5, w6, w7, w8, w9, w10, w11, w12, none, none, w15, w16, w17, w18, w19, w20, none, w22, none]) ⟨Same.refl H8, _, rfl⟩ (fun i σ H9 _ ⟨d, _⟩ => SqL.of (d _ _ e8)) ?_ ?_⟩
      · rintro i x σ H9 Ha hi ⟨sa, w19, rfl⟩ ⟨rfl, hx⟩
        obtain ⟨d, hd, hnd, htl, hft⟩ := (odd x (List.mem_of_getElem? hx)).same sa
        have da := d8.same sa
        have bkd := b5.keep da.k (S4.tups da.k)
        have gM : DGet Ha bd (.str "made") (some (.ref b)) := DGet.k (k := Sum.inr "made") (da.k _ _ b1 nbd)
        refine ⟨_, rfl, bd, .ref b, rfl, gM, _, rfl, Off p c, b, ks, ps, sz, tb, x, .non, d, .none, rfl, bkd, okS, okP, okT, hd, htl, .non, trivial, (fun r hr' => by rw [hnd] at hr'; cases hr'), fun L1 Hb sb nL1 eL1 => ?_⟩
        rw [hnd] at eL1
        have hdb := hd.keep (Same.keep sb)
        refine ⟨Off p c, L1, _, [.str "unknown", d], rfl, eL1, (fun z => by cases z), .cons (.str _) (.cons hdb .nil), hft, ?_⟩
        refine ⟨_, rfl, by show 2 ≤ sizeLine; decide, fun L2 nL2 => ?_⟩
        obtain ⟨Hc, z, sc, ec⟩ := fresh nL2 (.lst [.str "unknown", x])
        rw [z]
        clear z
        refine ⟨Off p c, L2, _, [.str "unknown", d], rfl, ec, (fun z => by cases z), .cons (.str _) (.cons (hdb.keep (Same.keep sc)) .nil), hft, rfl, _, rfl, iteNS rfl ?_⟩
        exact ⟨(sa.trans sb).trans sc, _, rfl⟩
      · rintro σ H9 ⟨s9, w19, rfl⟩
        exact ⟨d8.s.same s9, _, _, _, _, _, _, _, _, _, _, _, _, _, _, _, _, _, _, rfl⟩
end
end K12
/-! K12, 23: what the top has written, and the end -/
namespace K12
open PySem PySem.Spec PyProof.Rows L2 Ver
set_option maxHeartbeats 16000000 in
theorem all_mk {l : PySem.W.OpenLaw} {w : World} {K : PySem.W.Frag} {h : Heap} {mg : Str → Option Value} {fa aR aN C CB CV CU G M f0 f1 f2 f3 f4 f5 f6 f7 f8 f9 f10 f11 f12 f13 f14 f15 f16 f17 f18 f19 f20 f21 f22 f23 f24 f25 f26 m0 m1 m2 m3 m4 m5 m6 m7 m8 m9 m10 g0 g1 : Addr} (X : K.In h) (Gn : h.Ns mainGlobals mg) (hfa : mg "law" = some (.ref fa))
    {odR odN od0 an0 od1 an1 od2 an2 od3 an3 od4 an4 od5 an5 od6 an6 od7 an7 od8 an8 od9 an9 od10 an10 od11 an11 od12 an12 od13 an13 od14 an14 od15 an15 od16 an16 od17 an17 od18 an18 od19 an19 od20 an20 od21 an21 od22 an22 od23 an23 od24 an24 od25 an25 od26 an26 pd0 pn0 pd1 pn1 pd2 pn2 pd3 pn3 pd4 pn4 pd5 pn5 pd6 pn6 pd7 pn7 pd8 pn8 pd9 pn9 pd10 pn10 qd0 qn0 qd1 qn1 : Option Addr} {slR slN sl0 sl1 sl2 sl3 sl4 sl5 sl6 sl7 sl8 sl9 sl10 sl11 sl12 sl13 sl14 sl15 sl16 sl17 sl18 sl19 sl20 sl21 sl22 sl23 sl24 sl25 sl26 ps0 ps1 ps2 ps3 ps4 ps5 ps6 ps7 ps8 ps9 ps10 qs0 qs1 : Array (Option Value)} {nR nN : Nat} {tL tS tG r1 r2 r3 r4 r5 u1 : Tok} {oc0 kV0 dc0 pm0 cd0 ct0 oc1 kV1 dc1 pm1 cd1 ct1 oc2 kV2 dc2 pm2 cd2 ct2 oc3 kV3 dc3 pm3 cd3 ct3 oc4 kV4 dc4 pm4 cd4 ct4 oc5 kV5 dc5 pm5 cd5 ct5 oc6 kV6 dc6 pm6 cd6 ct6 oc7 kV7 dc7 pm7 cd7 ct7 oc8 kV8 dc8 pm8 cd8 ct8 oc9 kV9 dc9 pm9 cd9 ct9 oc10 kV10 dc10 pm10 cd10 ct10 oc11 kV11 dc11 pm11 cd11 ct11 oc12 kV12 dc12 pm12 cd12 ct12 oc13 kV13 dc13 pm13 cd13 ct13 oc14 kV14 dc14 pm14 cd14 ct14 oc15 kV15 dc15 pm15 cd15 ct15 oc16 kV16 dc16 pm16 cd16 ct16 oc17 kV17 dc17 pm17 cd17 ct17 oc18 kV18 dc18 pm18 cd18 ct18 oc19 kV19 dc19 pm19 cd19 ct19 oc20 kV20 dc20 pm20 cd20 ct20 oc21 kV21 dc21 pm21 cd21 ct21 oc22 kV22 dc22 pm22 cd22 ct22 oc23 kV23 dc23 pm23 cd23 ct23 oc24 kV24 dc24 pm24 cd24 ct24 oc25 kV25 dc25 pm25 cd25 ct25 oc26 kV26 dc26 pm26 cd26 ct26 pc0 pV0 pq0 pp0 pe0 pt0 pc1 pV1 pq1 pp1 pe1 pt1 pc2 pV2 pq2 pp2 pe2 pt2 pc3 pV3 pq3 pp3 pe3 pt3 pc4 pV4 pq4 pp4 pe4 pt4 pc5 pV5 pq5 pp5 pe5 pt5 pc6 pV6 pq6 pp6 pe6 pt6 pc7 pV7 pq7 pp7 pe7 pt7 pc8 pV8 pq8 pp8 pe8 pt8 pc9 pV9 pq9 pp9 pe9 pt9 pc10 pV10 pq10 pp10 pe10 pt10 qc0 qV0 qq0 qp0 qe0 qt0 qc1 qV1 qq1 qp1 qe1 qt1 : Value}
    (a0 : PySem.W.nsIn K mainGlobals "told" = some (some (.ref f0))) (l0 : K.lookup f0 = some ⟨oc0, od0, .func (PySem.W.fnOf "told" "told" (defArgs sTold) (defBody sTold) (defScope sTold) .none kV0 dc0 pm0 an0 cd0 ct0), sl0⟩) (e0 : PySem.W.codeIn K cd0 "told" = true) (k0 : PySem.W.keepIn K (.ref f0) = true)
    (a1 : PySem.W.nsIn K mainGlobals "is_word" = some (some (.ref f1))) (l1 : K.lookup f1 = some ⟨oc1, od1, .func (PySem.W.fnOf "is_word" "is_word" (defArgs sWord) (defBody sWord) (defScope sWord) .none kV1 dc1 pm1 an1 cd1 ct1), sl1⟩) (e1 : PySem.W.codeIn K cd1 "is_word" = true) (k1 : PySem.W.keepIn K (.ref f1) = true)
    (a2 : PySem.W.nsIn K mainGlobals "is_kind_word" = some (some (.ref f2))) (l2 : K.lookup f2 = some ⟨oc2, od2, .func (PySem.W.fnOf "is_kind_word" "is_kind_word" (defArgs sKind) (defBody sKind) (defScope sKind) .none kV2 dc2 pm2 an2 cd2 ct2), sl2⟩) (e2 : PySem.W.codeIn K cd2 "is_kind_word" = true) (k2 : PySem.W.keepIn K (.ref f2) = true)
    (a3 : PySem.W.nsIn K mainGlobals "is_number" = some (some (.ref f3))) (l3 : K.lookup f3 = some ⟨oc3, od3, .func (PySem.W.fnOf "is_number" "is_number" (defArgs sNum) (defBody sNum) (defScope sNum) .none kV3 dc3 pm3 an3 cd3 ct3), sl3⟩) (e3 : PySem.W.codeIn K cd3 "is_number" = true) (k3 : PySem.W.keepIn K (.ref f3) = true)
    (a4 : PySem.W.nsIn K mainGlobals "is_index" = some (some (.ref f4))) (l4 : K.lookup f4 = some ⟨oc4, od4, .func (PySem.W.fnOf "is_index" "is_index" (defArgs sIndex) (defBody sIndex) (defScope sIndex) .none kV4 dc4 pm4 an4 cd4 ct4), sl4⟩) (e4 : PySem.W.codeIn K cd4 "is_index" = true) (k4 : PySem.W.keepIn K (.ref f4) = true)
    (a5 : PySem.W.nsIn K mainGlobals "is_value" = some (some (.ref f5))) (l5 : K.lookup f5 = some ⟨oc5, od5, .func (PySem.W.fnOf "is_value" "is_value" (defArgs sVal) (defBody sVal) (defScope sVal) .none kV5 dc5 pm5 an5 cd5 ct5), sl5⟩) (e5 : PySem.W.codeIn K cd5 "is_value" = true) (k5 : PySem.W.keepIn K (.ref f5) = true)
    (a6 : PySem.W.nsIn K mainGlobals "is_pair_value" = some (some (.ref f6))) (l6 : K.lookup f6 = some ⟨oc6, od6, .func (PySem.W.fnOf "is_pair_value" "is_pair_value" (defArgs sPair) (defBody sPair) (defScope sPair) .none kV6 dc6 pm6 an6 cd6 ct6), sl6⟩) (e6 : PySem.W.codeIn K cd6 "is_pair_value" = true) (k6 : PySem.W.keepIn K (.ref f6) = true)
    (a7 : PySem.W.nsIn K mainGlobals "kind_of" = some (some (.ref f7))) (l7 : K.lookup f7 = some ⟨oc7, od7, .func (PySem.W.fnOf "kind_of" "kind_of" (defArgs sKindOf) (defBody sKindOf) (defScope sKindOf) .none kV7 dc7 pm7 an7 cd7 ct7), sl7⟩) (e7 : PySem.W.codeIn K cd7 "kind_of" = true) (k7 : PySem.W.keepIn K (.ref f7) = true)
    (a8 : PySem.W.nsIn K mainGlobals "check_sizes" = some (some (.ref f8))) (l8 : K.lookup f8 = some ⟨oc8, od8, .func (PySem.W.fnOf "check_sizes" "check_sizes" (defArgs sSizes) (defBody sSizes) (defScope sSizes) .none kV8 dc8 pm8 an8 cd8 ct8), sl8⟩) (e8 : PySem.W.codeIn K cd8 "check_sizes" = true) (k8 : PySem.W.keepIn K (.ref f8) = true)
    (a9 : PySem.W.nsIn K mainGlobals "check_tables" = some (some (.ref f9))) (l9 : K.lookup f9 = some ⟨oc9, od9, .func (PySem.W.fnOf "check_tables" "check_tables" (defArgs sTables) (defBody sTables) (defScope sTables) .none kV9 dc9 pm9 an9 cd9 ct9), sl9⟩) (e9 : PySem.W.codeIn K cd9 "check_tables" = true) (k9 : PySem.W.keepIn K (.ref f9) = true)
    (a10 : PySem.W.nsIn K mainGlobals "is_table" = some (some (.ref f10))) (l10 : K.lookup f10 = some ⟨oc10, od10, .func (PySem.W.fnOf "is_table" "is_table" (defArgs sTable) (defBody sTable) (defScope sTable) .none kV10 dc10 pm10 an10 cd10 ct10), sl10⟩) (e10 : PySem.W.codeIn K cd10 "is_table" = true) (k10 : PySem.W.keepIn K (.ref f10) = true)
    (a11 : PySem.W.nsIn K mainGlobals "apply" = some (some (.ref f11))) (l11 : K.lookup f11 = some ⟨oc11, od11, .func (PySem.W.fnOf "apply" "apply" (defArgs sApply) (defBody sApply) (defScope sApply) .none kV11 dc11 pm11 an11 cd11 ct11), sl11⟩) (e11 : PySem.W.codeIn K cd11 "apply" = true) (k11 : PySem.W.keepIn K (.ref f11) = true)
    (a12 : PySem.W.nsIn K mainGlobals "check_kinds" = some (some (.ref f12))) (l12 : K.lookup f12 = some ⟨oc12, od12, .func (PySem.W.fnOf "check_kinds" "check_kinds" (defArgs sCheckKinds) (defBody sCheckKinds) (defScope sCheckKinds) .none kV12 dc12 pm12 an12 cd12 ct12), sl12⟩) (e12 : PySem.W.codeIn K cd12 "check_kinds" = true) (k12 : PySem.W.keepIn K (.ref f12) = true)
    (a13 : PySem.W.nsIn K mainGlobals "owners_of" = some (some (.ref f13))) (l13 : K.lookup f13 = some ⟨oc13, od13, .func (PySem.W.fnOf "owners_of" "owners_of" (defArgs sOwners) (defBody sOwners) (defScope sOwners) .none kV13 dc13 pm13 an13 cd13 ct13), sl13⟩) (e13 : PySem.W.codeIn K cd13 "owners_of" = true) (k13 : PySem.W.keepIn K (.ref f13) = true)
    (a14 : PySem.W.nsIn K mainGlobals "are_known" = some (some (.ref f14))) (l14 : K.lookup f14 = some ⟨oc14, od14, .func (PySem.W.fnOf "are_known" "are_known" (defArgs sKnown) (defBody sKnown) (defScope sKnown) .none kV14 dc14 pm14 an14 cd14 ct14), sl14⟩) (e14 : PySem.W.codeIn K cd14 "are_known" = true) (k14 : PySem.W.keepIn K (.ref f14) = true)
    (a15 : PySem.W.nsIn K mainGlobals "is_ambiguous" = some (some (.ref f15))) (l15 : K.lookup f15 = some ⟨oc15, od15, .func (PySem.W.fnOf "is_ambiguous" "is_ambiguous" (defArgs sAmbig) (defBody sAmbig) (defScope sAmbig) .none kV15 dc15 pm15 an15 cd15 ct15), sl15⟩) (e15 : PySem.W.codeIn K cd15 "is_ambiguous" = true) (k15 : PySem.W.keepIn K (.ref f15) = true)
    (a16 : PySem.W.nsIn K mainGlobals "variant_for" = some (some (.ref f16))) (l16 : K.lookup f16 = some ⟨oc16, od16, .func (PySem.W.fnOf "variant_for" "variant_for" (defArgs sVFor) (defBody sVFor) (defScope sVFor) .none kV16 dc16 pm16 an16 cd16 ct16), sl16⟩) (e16 : PySem.W.codeIn K cd16 "variant_for" = true) (k16 : PySem.W.keepIn K (.ref f16) = true)
    (a17 : PySem.W.nsIn K mainGlobals "_law_source" = some (some (.ref f17))) (l17 : K.lookup f17 = some ⟨oc17, od17, .func (PySem.W.fnOf "_law_source" "_law_source" (defArgs sSource) (defBody sSource) (defScope sSource) .none kV17 dc17 pm17 an17 cd17 ct17), sl17⟩) (e17 : PySem.W.codeIn K cd17 "_law_source" = true) (k17 : PySem.W.keepIn K (.ref f17) = true)
    (a18 : PySem.W.nsIn K mainGlobals "_law_pick" = some (some (.ref f18))) (l18 : K.lookup f18 = some ⟨oc18, od18, .func (PySem.W.fnOf "_law_pick" "_law_pick" (defArgs sPick) (defBody sPick) (defScope sPick) .none kV18 dc18 pm18 an18 cd18 ct18), sl18⟩) (e18 : PySem.W.codeIn K cd18 "_law_pick" = true) (k18 : PySem.W.keepIn K (.ref f18) = true)
    (a19 : PySem.W.nsIn K mainGlobals "_law_of" = some (some (.ref f19))) (l19 : K.lookup f19 = some ⟨oc19, od19, .func (PySem.W.fnOf "_law_of" "_law_of" (defArgs sOf) (defBody sOf) (defScope sOf) .none kV19 dc19 pm19 an19 cd19 ct19), sl19⟩) (e19 : PySem.W.codeIn K cd19 "_law_of" = true) (k19 : PySem.W.keepIn K (.ref f19) = true)
    (a20 : PySem.W.nsIn K mainGlobals "_law_signature" = some (some (.ref f20))) (l20 : K.lookup f20 = some ⟨oc20, od20, .func (PySem.W.fnOf "_law_signature" "_law_signature" (defArgs sSig) (defBody sSig) (defScope sSig) .none kV20 dc20 pm20 an20 cd20 ct20), sl20⟩) (e20 : PySem.W.codeIn K cd20 "_law_signature" = true) (k20 : PySem.W.keepIn K (.ref f20) = true)
    (a21 : PySem.W.nsIn K mainGlobals "_law_rows_of_variants" = some (some (.ref f21))) (l21 : K.lookup f21 = some ⟨oc21, od21, .func (PySem.W.fnOf "_law_rows_of_variants" "_law_rows_of_variants" (defArgs sRows) (defBody sRows) (defScope sRows) .none kV21 dc21 pm21 an21 cd21 ct21), sl21⟩) (e21 : PySem.W.codeIn K cd21 "_law_rows_of_variants" = true) (k21 : PySem.W.keepIn K (.ref f21) = true)
    (a22 : PySem.W.nsIn K mainGlobals "_law_choices" = some (some (.ref f22))) (l22 : K.lookup f22 = some ⟨oc22, od22, .func (PySem.W.fnOf "_law_choices" "_law_choices" (defArgs sChoices) (defBody sChoices) (defScope sChoices) .none kV22 dc22 pm22 an22 cd22 ct22), sl22⟩) (e22 : PySem.W.codeIn K cd22 "_law_choices" = true) (k22 : PySem.W.keepIn K (.ref f22) = true)
    (a23 : PySem.W.nsIn K mainGlobals "_law_book" = some (some (.ref f23))) (l23 : K.lookup f23 = some ⟨oc23, od23, .func (PySem.W.fnOf "_law_book" "_law_book" (defArgs sBook) (defBody sBook) (defScope sBook) .none kV23 dc23 pm23 an23 cd23 ct23), sl23⟩) (e23 : PySem.W.codeIn K cd23 "_law_book" = true) (k23 : PySem.W.keepIn K (.ref f23) = true)
    (a24 : PySem.W.nsIn K mainGlobals "_law_refusal" = some (some (.ref f24))) (l24 : K.lookup f24 = some ⟨oc24, od24, .func (PySem.W.fnOf "_law_refusal" "_law_refusal" (defArgs sRefusal) (defBody sRefusal) (defScope sRefusal) .none kV24 dc24 pm24 an24 cd24 ct24), sl24⟩) (e24 : PySem.W.codeIn K cd24 "_law_refusal" = true) (k24 : PySem.W.keepIn K (.ref f24) = true)
    (a25 : PySem.W.nsIn K mainGlobals "_law_odd_values" = some (some (.ref f25))) (l25 : K.lookup f25 = some ⟨oc25, od25, .func (PySem.W.fnOf "_law_odd_values" "_law_odd_values" (defArgs sOdd) (defBody sOdd) (defScope sOdd) .none kV25 dc25 pm25 an25 cd25 ct25), sl25⟩) (e25 : PySem.W.codeIn K cd25 "_law_odd_values" = true) (k25 : PySem.W.keepIn K (.ref f25) = true)
    (a26 : PySem.W.nsIn K mainGlobals "law" = some (some (.ref f26))) (l26 : K.lookup f26 = some ⟨oc26, od26, .func (PySem.W.fnOf "law" "law" (defArgs sLaw) (defBody sLaw) (defScope sLaw) .none kV26 dc26 pm26 an26 cd26 ct26), sl26⟩) (e26 : PySem.W.codeIn K cd26 "law" = true) (k26 : PySem.W.keepIn K (.ref f26) = true)
    (nG : PySem.W.nsIn K mainGlobals "GuessError" = some (some (.ref G))) (bG : BaseC K G "ValueError.__init__")
    (nM : PySem.W.nsIn K mainGlobals "NameMissing" = some (some (.ref M))) (bM : BaseC K M "LookupError.__init__")
    (nC : PySem.W.nsIn K mainGlobals "Signature" = some (some (.ref C))) (pgC : PySem.W.plainGet K C Str.empty = true) (hdC : PySem.W.hasDictIn K C = true) (poC : PySem.W.plainOver K C = true) (saC : PySem.W.findIn K (.ref C) "__setattr__" = some (some (.builtin "object.__setattr__"))) (mkC : PySem.W.makesIn K C = true) (kcC : PySem.W.keepIn K (.ref C) = true)
    (noC_kinds : PySem.W.findIn K (.ref C) "_kinds" = some none)
    (noC_owners : PySem.W.findIn K (.ref C) "_owners" = some none)
    (noC_primitives : PySem.W.findIn K (.ref C) "_primitives" = some none)
    (nCB : PySem.W.nsIn K mainGlobals "Book" = some (some (.ref CB))) (pgCB : PySem.W.plainGet K CB Str.empty = true) (hdCB : PySem.W.hasDictIn K CB = true) (poCB : PySem.W.plainOver K CB = true) (saCB : PySem.W.findIn K (.ref CB) "__setattr__" = some (some (.builtin "object.__setattr__"))) (mkCB : PySem.W.makesIn K CB = true) (kcCB : PySem.W.keepIn K (.ref CB) = true)
    (noCB_signature : PySem.W.findIn K (.ref CB) "_signature" = some none)
    (noCB_sizes : PySem.W.findIn K (.ref CB) "_sizes" = some none)
    (noCB_tables : PySem.W.findIn K (.ref CB) "_tables" = some none)
    (x0 : PySem.W.findIn K (.ref C) "__init__" = some (some (.ref m0))) (y0 : PySem.W.isFn K (.ref m0) = true) (lM0 : K.lookup m0 = some ⟨pc0, pd0, .func (PySem.W.fnOf "__init__" "Signature.__init__" (defArgs (meth 29 0)) (defBody (meth 29 0)) (defScope (meth 29 0)) .none pV0 pq0 pp0 pn0 pe0 pt0), ps0⟩) (eM0 : PySem.W.codeIn K pe0 "Signature.__init__" = true) (kM0 : PySem.W.keepIn K (.ref m0) = true)
    (x1 : PySem.W.findIn K (.ref C) "kinds" = some (some (.ref m1))) (y1 : PySem.W.isFn K (.ref m1) = true) (lM1 : K.lookup m1 = some ⟨pc1, pd1, .func (PySem.W.fnOf "kinds" "Signature.kinds" (defArgs (meth 29 1)) (defBody (meth 29 1)) (defScope (meth 29 1)) .none pV1 pq1 pp1 pn1 pe1 pt1), ps1⟩) (eM1 : PySem.W.codeIn K pe1 "Signature.kinds" = true) (kM1 : PySem.W.keepIn K (.ref m1) = true)
    (x2 : PySem.W.findIn K (.ref C) "primitives" = some (some (.ref m2))) (y2 : PySem.W.isFn K (.ref m2) = true) (lM2 : K.lookup m2 = some ⟨pc2, pd2, .func (PySem.W.fnOf "primitives" "Signature.primitives" (defArgs (meth 29 2)) (defBody (meth 29 2)) (defScope (meth 29 2)) .none pV2 pq2 pp2 pn2 pe2 pt2), ps2⟩) (eM2 : PySem.W.codeIn K pe2 "Signature.primitives" = true) (kM2 : PySem.W.keepIn K (.ref m2) = true)
    (x3 : PySem.W.findIn K (.ref C) "variants" = some (some (.ref m3))) (y3 : PySem.W.isFn K (.ref m3) = true) (lM3 : K.lookup m3 = some ⟨pc3, pd3, .func (PySem.W.fnOf "variants" "Signature.variants" (defArgs (meth 29 3)) (defBody (meth 29 3)) (defScope (meth 29 3)) .none pV3 pq3 pp3 pn3 pe3 pt3), ps3⟩) (eM3 : PySem.W.codeIn K pe3 "Signature.variants" = true) (kM3 : PySem.W.keepIn K (.ref m3) = true)
    (x4 : PySem.W.findIn K (.ref C) "variant" = some (some (.ref m4))) (y4 : PySem.W.isFn K (.ref m4) = true) (lM4 : K.lookup m4 = some ⟨pc4, pd4, .func (PySem.W.fnOf "variant" "Signature.variant" (defArgs (meth 29 4)) (defBody (meth 29 4)) (defScope (meth 29 4)) .none pV4 pq4 pp4 pn4 pe4 pt4), ps4⟩) (eM4 : PySem.W.codeIn K pe4 "Signature.variant" = true) (kM4 : PySem.W.keepIn K (.ref m4) = true)
    (x5 : PySem.W.findIn K (.ref C) "has_kind" = some (some (.ref m5))) (y5 : PySem.W.isFn K (.ref m5) = true) (lM5 : K.lookup m5 = some ⟨pc5, pd5, .func (PySem.W.fnOf "has_kind" "Signature.has_kind" (defArgs (meth 29 5)) (defBody (meth 29 5)) (defScope (meth 29 5)) .none pV5 pq5 pp5 pn5 pe5 pt5), ps5⟩) (eM5 : PySem.W.codeIn K pe5 "Signature.has_kind" = true) (kM5 : PySem.W.keepIn K (.ref m5) = true)
    (x6 : PySem.W.findIn K (.ref CB) "__init__" = some (some (.ref m6))) (y6 : PySem.W.isFn K (.ref m6) = true) (lM6 : K.lookup m6 = some ⟨pc6, pd6, .func (PySem.W.fnOf "__init__" "Book.__init__" (defArgs (meth 23 0)) (defBody (meth 23 0)) (defScope (meth 23 0)) .none pV6 pq6 pp6 pn6 pe6 pt6), ps6⟩) (eM6 : PySem.W.codeIn K pe6 "Book.__init__" = true) (kM6 : PySem.W.keepIn K (.ref m6) = true)
    (x7 : PySem.W.findIn K (.ref CB) "signature" = some (some (.ref m7))) (y7 : PySem.W.isFn K (.ref m7) = true) (lM7 : K.lookup m7 = some ⟨pc7, pd7, .func (PySem.W.fnOf "signature" "Book.signature" (defArgs (meth 23 1)) (defBody (meth 23 1)) (defScope (meth 23 1)) .none pV7 pq7 pp7 pn7 pe7 pt7), ps7⟩) (eM7 : PySem.W.codeIn K pe7 "Book.signature" = true) (kM7 : PySem.W.keepIn K (.ref m7) = true)
    (x8 : PySem.W.findIn K (.ref CB) "size" = some (some (.ref m8))) (y8 : PySem.W.isFn K (.ref m8) = true) (lM8 : K.lookup m8 = some ⟨pc8, pd8, .func (PySem.W.fnOf "size" "Book.size" (defArgs (meth 23 2)) (defBody (meth 23 2)) (defScope (meth 23 2)) .none pV8 pq8 pp8 pn8 pe8 pt8), ps8⟩) (eM8 : PySem.W.codeIn K pe8 "Book.size" = true) (kM8 : PySem.W.keepIn K (.ref m8) = true)
    (x9 : PySem.W.findIn K (.ref CB) "table" = some (some (.ref m9))) (y9 : PySem.W.isFn K (.ref m9) = true) (lM9 : K.lookup m9 = some ⟨pc9, pd9, .func (PySem.W.fnOf "table" "Book.table" (defArgs (meth 23 3)) (defBody (meth 23 3)) (defScope (meth 23 3)) .none pV9 pq9 pp9 pn9 pe9 pt9), ps9⟩) (eM9 : PySem.W.codeIn K pe9 "Book.table" = true) (kM9 : PySem.W.keepIn K (.ref m9) = true)
    (x10 : PySem.W.findIn K (.ref CB) "has_token" = some (some (.ref m10))) (y10 : PySem.W.isFn K (.ref m10) = true) (lM10 : K.lookup m10 = some ⟨pc10, pd10, .func (PySem.W.fnOf "has_token" "Book.has_token" (defArgs (meth 23 4)) (defBody (meth 23 4)) (defScope (meth 23 4)) .none pV10 pq10 pp10 pn10 pe10 pt10), ps10⟩) (eM10 : PySem.W.codeIn K pe10 "Book.has_token" = true) (kM10 : PySem.W.keepIn K (.ref m10) = true)
    (nE0 : PySem.W.nsIn K mainGlobals "BadVariant" = some (some (.ref CV))) (xE0 : ExC K CV bmV "ValueError.__new__") (xf0 : XfC K CV) (iE0 : PySem.W.findIn K (.ref CV) "__init__" = some (some (.ref g0))) (uE0 : PySem.W.typeIn K (.ref g0) = some (.type "function")) (wE0 : PySem.W.findIn K (.ref CV) "name" = some none)
    (lI0 : K.lookup g0 = some ⟨qc0, qd0, .func (PySem.W.fnOf "__init__" "BadVariant.__init__" (defArgs (ini 6)) (defBody (ini 6)) (defScope (ini 6)) .none qV0 qq0 qp0 qn0 qe0 qt0), qs0⟩) (eI0 : PySem.W.codeIn K qe0 "BadVariant.__init__" = true) (kI0 : PySem.W.keepIn K (.ref g0) = true)
    (nE1 : PySem.W.nsIn K mainGlobals "UnknownName" = some (some (.ref CU))) (xE1 : ExC K CU bmL "LookupError.__new__") (xf1 : XfC K CU) (iE1 : PySem.W.findIn K (.ref CU) "__init__" = some (some (.ref g1))) (uE1 : PySem.W.typeIn K (.ref g1) = some (.type "function")) (wE1 : PySem.W.findIn K (.ref CU) "name" = some none)
    (lI1 : K.lookup g1 = some ⟨qc1, qd1, .func (PySem.W.fnOf "__init__" "UnknownName.__init__" (defArgs (ini 8)) (defBody (ini 8)) (defScope (ini 8)) .none qV1 qq1 qp1 qn1 qe1 qt1), qs1⟩) (eI1 : PySem.W.codeIn K qe1 "UnknownName.__init__" = true) (kI1 : PySem.W.keepIn K (.ref g1) = true)
    (eUU : PySem.W.exmOne K (.ref CU) (.ref CU) = some true) (eVU : PySem.W.exmOne K (.ref CV) (.ref CU) = some false) (eVV : PySem.W.exmOne K (.ref CV) (.ref CV) = some true)
    (gL : PySem.W.nsIn K mainGlobals "LETTERS" = some (some (.str lets tL))) (gS : PySem.W.nsIn K mainGlobals "WORD_SIGNS" = some (some (.str sgns tS))) (gG : PySem.W.nsIn K mainGlobals "LONGEST_WORD" = some (some (.int 12 tG)))
    (gR : PySem.W.nsIn K mainGlobals "RESERVED" = some (some (.ref aR))) (lR : K.lookup aR = some ⟨.type "tuple", odR, .seq #[.str "none" r1, .str "bit" r2, .str "err" r3, .str "fun" r4, .str "obj" r5] nR, slR⟩)
    (gN : PySem.W.nsIn K mainGlobals "NONE" = some (some (.ref aN))) (lN : K.lookup aN = some ⟨.type "tuple", odN, .seq #[.str "none" u1] nN, slN⟩)
    (z0 : PySem.W.nsIn K mainGlobals "len" = some none) (z1 : PySem.W.nsIn K mainGlobals "int" = some none) (z2 : PySem.W.nsIn K mainGlobals "abs" = some none) (z3 : PySem.W.nsIn K mainGlobals "range" = some none) (z4 : PySem.W.nsIn K mainGlobals "isinstance" = some none) (z5 : PySem.W.nsIn K mainGlobals "str" = some none) (z6 : PySem.W.nsIn K mainGlobals "bool" = some none) (z7 : PySem.W.nsIn K mainGlobals "tuple" = some none) (z8 : PySem.W.nsIn K mainGlobals "all" = some none) (z9 : PySem.W.nsIn K mainGlobals "list" = some none) (z10 : PySem.W.nsIn K mainGlobals "repr" = some none) (z11 : PySem.W.nsIn K mainGlobals "enumerate" = some none) (z12 : PySem.W.nsIn K mainGlobals "any" = some none) (z13 : PySem.W.nsIn K mainGlobals "zip" = some none) (z14 : PySem.W.nsIn K mainGlobals "dict" = some none) :
    ∃ fd : FuncData, (∀ (s : Shared) (v : Value), BindsTo s fd ⟨[v], []⟩ [("script", v)]) ∧ ∀ base : Heap, K.In base → base.Ns mainGlobals mg → FnQ l.prog w K mg base CX0 8 fa fd ["script"] (spLaw K) := by
  have e := hfa.symm.trans (PySem.W.mg_of X Gn a26)
  cases e
  have T : Txt mg := ⟨PySem.W.mg_none_of X Gn z0, PySem.W.mg_none_of X Gn z1, PySem.W.mg_none_of X Gn z2, PySem.W.mg_none_of X Gn z3⟩
  have D : Glob mg := ⟨PySem.W.mg_none_of X Gn z0, PySem.W.mg_none_of X Gn z4, PySem.W.mg_none_of X Gn z5, PySem.W.mg_none_of X Gn z1, PySem.W.mg_none_of X Gn z6, PySem.W.mg_none_of X Gn z7, PySem.W.mg_none_of X Gn z8, ⟨_, PySem.W.mg_of X Gn gL⟩, ⟨_, PySem.W.mg_of X Gn gS⟩, ⟨_, PySem.W.mg_of X Gn gG⟩⟩
  have Tt : GlobT mg := ⟨PySem.W.mg_none_of X Gn z0, PySem.W.mg_none_of X Gn z4, PySem.W.mg_none_of X Gn z5, PySem.W.mg_none_of X Gn z1, PySem.W.mg_none_of X Gn z10, PySem.W.mg_none_of X Gn z7⟩
  have Gs : GlobS mg := ⟨PySem.W.mg_none_of X Gn z11, PySem.W.mg_none_of X Gn z0, PySem.W.mg_none_of X Gn z4, PySem.W.mg_none_of X Gn z7, PySem.W.mg_none_of X Gn z9, PySem.W.mg_none_of X Gn z5, PySem.W.mg_none_of X Gn z8, PySem.W.mg_none_of X Gn z12⟩
  have F0 := fun_mk (st := sTold) l0 e0 k0
  have b0 := F0.binds (ps := ["value"]) fun _ _ _ _ _ _ us hl => match us, hl with | [_], _ => rfl
  have d0 : Def K mg "told" f0 := ⟨PySem.W.mg_of X Gn a0, k0⟩
  have F1 := fun_mk (st := sWord) l1 e1 k1
  have b1 := F1.binds (ps := ["value"]) fun _ _ _ _ _ _ us hl => match us, hl with | [_], _ => rfl
  have d1 : Def K mg "is_word" f1 := ⟨PySem.W.mg_of X Gn a1, k1⟩
  have F2 := fun_mk (st := sKind) l2 e2 k2
  have b2 := F2.binds (ps := ["value"]) fun _ _ _ _ _ _ us hl => match us, hl with | [_], _ => rfl
  have d2 : Def K mg "is_kind_word" f2 := ⟨PySem.W.mg_of X Gn a2, k2⟩
  have F3 := fun_mk (st := sNum) l3 e3 k3
  have b3 := F3.binds (ps := ["value"]) fun _ _ _ _ _ _ us hl => match us, hl with | [_], _ => rfl
  have d3 : Def K mg "is_number" f3 := ⟨PySem.W.mg_of X Gn a3, k3⟩
  have F4 := fun_mk (st := sIndex) l4 e4 k4
  have b4 := F4.binds (ps := ["value", "many"]) fun _ _ _ _ _ _ us hl => match us, hl with | [_, _], _ => rfl
  have d4 : Def K mg "is_index" f4 := ⟨PySem.W.mg_of X Gn a4, k4⟩
  have F5 := fun_mk (st := sVal) l5 e5 k5
  have b5 := F5.binds (ps := ["value"]) fun _ _ _ _ _ _ us hl => match us, hl with | [_], _ => rfl
  have d5 : Def K mg "is_value" f5 := ⟨PySem.W.mg_of X Gn a5, k5⟩
  have F6 := fun_mk (st := sPair) l6 e6 k6
  have b6 := F6.binds (ps := ["word", "content"]) fun _ _ _ _ _ _ us hl => match us, hl with | [_, _], _ => rfl
  have d6 : Def K mg "is_pair_value" f6 := ⟨PySem.W.mg_of X Gn a6, k6⟩
  have F7 := fun_mk (st := sKindOf) l7 e7 k7
  have b7 := F7.binds (ps := ["value"]) fun _ _ _ _ _ _ us hl => match us, hl with | [_], _ => rfl
  have d7 : Def K mg "kind_of" f7 := ⟨PySem.W.mg_of X Gn a7, k7⟩
  have F8 := fun_mk (st := sSizes) l8 e8 k8
  have b8 := F8.binds (ps := ["signature", "sizes"]) fun _ _ _ _ _ _ us hl => match us, hl with | [_, _], _ => rfl
  have d8 : Def K mg "check_sizes" f8 := ⟨PySem.W.mg_of X Gn a8, k8⟩
  have F9 := fun_mk (st := sTables) l9 e9 k9
  have b9 := F9.binds (ps := ["signature", "sizes", "tables"]) fun _ _ _ _ _ _ us hl => match us, hl with | [_, _, _], _ => rfl
  have d9 : Def K mg "check_tables" f9 := ⟨PySem.W.mg_of X Gn a9, k9⟩
  have F10 := fun_mk (st := sTable) l10 e10 k10
  have b10 := F10.binds (ps := ["sizes", "kinds", "result", "table"]) fun _ _ _ _ _ _ us hl => match us, hl with | [_, _, _, _], _ => rfl
  have d10 : Def K mg "is_table" f10 := ⟨PySem.W.mg_of X Gn a10, k10⟩
  have F11 := fun_mk (st := sApply) l11 e11 k11
  have b11 := F11.binds (ps := ["book", "name", "values"]) fun _ _ _ _ _ _ us hl => match us, hl with | [_, _, _], _ => rfl
  have d11 : Def K mg "apply" f11 := ⟨PySem.W.mg_of X Gn a11, k11⟩
  have F12 := fun_mk (st := sCheckKinds) l12 e12 k12
  have b12 := F12.binds (ps := ["kinds"]) fun _ _ _ _ _ _ us hl => match us, hl with | [_], _ => rfl
  have d12 : Def K mg "check_kinds" f12 := ⟨PySem.W.mg_of X Gn a12, k12⟩
  have F13 := fun_mk (st := sOwners) l13 e13 k13
  have b13 := F13.binds (ps := ["kinds", "primitives"]) fun _ _ _ _ _ _ us hl => match us, hl with | [_, _], _ => rfl
  have d13 : Def K mg "owners_of" f13 := ⟨PySem.W.mg_of X Gn a13, k13⟩
  have F14 := fun_mk (st := sKnown) l14 e14 k14
  have b14 := F14.binds (ps := ["kinds", "wanted", "result"]) fun _ _ _ _ _ _ us hl => match us, hl with | [_, _, _], _ => rfl
  have d14 : Def K mg "are_known" f14 := ⟨PySem.W.mg_of X Gn a14, k14⟩
  have F15 := fun_mk (st := sAmbig) l15 e15 k15
  have b15 := F15.binds (ps := ["owners", "row"]) fun _ _ _ _ _ _ us hl => match us, hl with | [_, _], _ => rfl
  have d15 : Def K mg "is_ambiguous" f15 := ⟨PySem.W.mg_of X Gn a15, k15⟩
  have F16 := fun_mk (st := sVFor) l16 e16 k16
  have b16 := F16.binds (ps := ["signature", "name", "kinds"]) fun _ _ _ _ _ _ us hl => match us, hl with | [_, _, _], _ => rfl
  have d16 : Def K mg "variant_for" f16 := ⟨PySem.W.mg_of X Gn a16, k16⟩
  have F17 := fun_mk (st := sSource) l17 e17 k17
  have b17 := F17.binds (ps := ["script"]) fun _ _ _ _ _ _ us hl => match us, hl with | [_], _ => rfl
  have d17 : Def K mg "_law_source" f17 := ⟨PySem.W.mg_of X Gn a17, k17⟩
  have F18 := fun_mk (st := sPick) l18 e18 k18
  have b18 := F18.binds (ps := ["source", "many"]) fun _ _ _ _ _ _ us hl => match us, hl with | [_, _], _ => rfl
  have d18 : Def K mg "_law_pick" f18 := ⟨PySem.W.mg_of X Gn a18, k18⟩
  have F19 := fun_mk (st := sOf) l19 e19 k19
  have b19 := F19.binds (ps := ["source", "some"]) fun _ _ _ _ _ _ us hl => match us, hl with | [_, _], _ => rfl
  have d19 : Def K mg "_law_of" f19 := ⟨PySem.W.mg_of X Gn a19, k19⟩
  have F20 := fun_mk (st := sSig) l20 e20 k20
  have b20 := F20.binds (ps := ["source"]) fun _ _ _ _ _ _ us hl => match us, hl with | [_], _ => rfl
  have d20 : Def K mg "_law_signature" f20 := ⟨PySem.W.mg_of X Gn a20, k20⟩
  have F21 := fun_mk (st := sRows) l21 e21 k21
  have b21 := F21.binds (ps := ["ground"]) fun _ _ _ _ _ _ us hl => match us, hl with | [_], _ => rfl
  have d21 : Def K mg "_law_rows_of_variants" f21 := ⟨PySem.W.mg_of X Gn a21, k21⟩
  have F22 := fun_mk (st := sChoices) l22 e22 k22
  have b22 := F22.binds (ps := ["kinds", "sizes"]) fun _ _ _ _ _ _ us hl => match us, hl with | [_, _], _ => rfl
  have d22 : Def K mg "_law_choices" f22 := ⟨PySem.W.mg_of X Gn a22, k22⟩
  have F23 := fun_mk (st := sBook) l23 e23 k23
  have b23 := F23.binds (ps := ["source", "ground", "most"]) fun _ _ _ _ _ _ us hl => match us, hl with | [_, _, _], _ => rfl
  have d23 : Def K mg "_law_book" f23 := ⟨PySem.W.mg_of X Gn a23, k23⟩
  have F24 := fun_mk (st := sRefusal) l24 e24 k24
  have b24 := F24.binds (ps := ["book", "name", "given"]) fun _ _ _ _ _ _ us hl => match us, hl with | [_, _, _], _ => rfl
  have d24 : Def K mg "_law_refusal" f24 := ⟨PySem.W.mg_of X Gn a24, k24⟩
  have F25 := fun_mk (st := sOdd) l25 e25 k25
  have b25 := F25.binds (ps := ["source", "sizes", "kinds", "given"]) fun _ _ _ _ _ _ us hl => match us, hl with | [_, _, _, _], _ => rfl
  have d25 : Def K mg "_law_odd_values" f25 := ⟨PySem.W.mg_of X Gn a25, k25⟩
  have F26 := fun_mk (st := sLaw) l26 e26 k26
  have FM0 := fun_mk (st := meth 29 0) lM0 eM0 kM0
  have bM0 := FM0.binds (ps := ["self", "kinds", "primitives"]) fun _ _ _ _ _ _ us hl => match us, hl with | [_, _, _], _ => rfl
  have FM1 := fun_mk (st := meth 29 1) lM1 eM1 kM1
  have bM1 := FM1.binds (ps := ["self"]) fun _ _ _ _ _ _ us hl => match us, hl with | [_], _ => rfl
  have M1 : Meth K C "kinds" m1 := ⟨x1, y1, kM1⟩
  have FM2 := fun_mk (st := meth 29 2) lM2 eM2 kM2
  have bM2 := FM2.binds (ps := ["self"]) fun _ _ _ _ _ _ us hl => match us, hl with | [_], _ => rfl
  have M2 : Meth K C "primitives" m2 := ⟨x2, y2, kM2⟩
  have FM3 := fun_mk (st := meth 29 3) lM3 eM3 kM3
  have bM3 := FM3.binds (ps := ["self", "name"]) fun _ _ _ _ _ _ us hl => match us, hl with | [_, _], _ => rfl
  have M3 : Meth K C "variants" m3 := ⟨x3, y3, kM3⟩
  have FM4 := fun_mk (st := meth 29 4) lM4 eM4 kM4
  have bM4 := FM4.binds (ps := ["self", "name"]) fun _ _ _ _ _ _ us hl => match us, hl with | [_, _], _ => rfl
  have M4 : Meth K C "variant" m4 := ⟨x4, y4, kM4⟩
  have FM5 := fun_mk (st := meth 29 5) lM5 eM5 kM5
  have bM5 := FM5.binds (ps := ["self", "value"]) fun _ _ _ _ _ _ us hl => match us, hl with | [_, _], _ => rfl
  have M5 : Meth K C "has_kind" m5 := ⟨x5, y5, kM5⟩
  have FM6 := fun_mk (st := meth 23 0) lM6 eM6 kM6
  have bM6 := FM6.binds (ps := ["self", "signature", "sizes", "tables"]) fun _ _ _ _ _ _ us hl => match us, hl with | [_, _, _, _], _ => rfl
  have FM7 := fun_mk (st := meth 23 1) lM7 eM7 kM7
  have bM7 := FM7.binds (ps := ["self"]) fun _ _ _ _ _ _ us hl => match us, hl with | [_], _ => rfl
  have M7 : Meth K CB "signature" m7 := ⟨x7, y7, kM7⟩
  have FM8 := fun_mk (st := meth 23 2) lM8 eM8 kM8
  have bM8 := FM8.binds (ps := ["self", "kind"]) fun _ _ _ _ _ _ us hl => match us, hl with | [_, _], _ => rfl
  have M8 : Meth K CB "size" m8 := ⟨x8, y8, kM8⟩
  have FM9 := fun_mk (st := meth 23 3) lM9 eM9 kM9
  have bM9 := FM9.binds (ps := ["self", "name"]) fun _ _ _ _ _ _ us hl => match us, hl with | [_, _], _ => rfl
  have M9 : Meth K CB "table" m9 := ⟨x9, y9, kM9⟩
  have FM10 := fun_mk (st := meth 23 4) lM10 eM10 kM10
  have bM10 := FM10.binds (ps := ["self", "value"]) fun _ _ _ _ _ _ us hl => match us, hl with | [_, _], _ => rfl
  have M10 : Meth K CB "has_token" m10 := ⟨x10, y10, kM10⟩
  have FI0 := fun_mk (st := ini 6) lI0 eI0 kI0
  have bI0 := FI0.binds (ps := ["self", "name"]) fun _ _ _ _ _ _ us hl => match us, hl with | [_, _], _ => rfl
  have FI1 := fun_mk (st := ini 8) lI1 eI1 kI1
  have bI1 := FI1.binds (ps := ["self", "name"]) fun _ _ _ _ _ _ us hl => match us, hl with | [_, _], _ => rfl
  have clS : Cls K C := ⟨pgC, hdC, poC, saC⟩
  have clB : Cls K CB := ⟨pgCB, hdCB, poCB, saCB⟩
  have SC : SigC K C := ⟨clS, noC_kinds, noC_owners, noC_primitives⟩
  have BC : BookC K CB := ⟨clB, noCB_signature, noCB_sizes, noCB_tables⟩
  have MS : Mk K C m0 := ⟨mkC, x0, y0, kcC⟩
  have MB : Mk K CB m6 := ⟨mkCB, x6, y6, kcCB⟩
  have hR : ∀ H, SqT K H aR (resv.map V.str) := fun H => .inr ⟨_, _, _, lR, rfl, rfl, by show 5 ≤ sizeLine; decide, .cons ⟨_, rfl⟩ (.cons ⟨_, rfl⟩ (.cons ⟨_, rfl⟩ (.cons ⟨_, rfl⟩ (.cons ⟨_, rfl⟩ .nil))))⟩
  have hN : ∀ H, SqT K H aN [V.str "none"] := fun H => .inr ⟨_, _, _, lN, rfl, rfl, by show 1 ≤ sizeLine; decide, .cons ⟨_, rfl⟩ .nil⟩
  refine ⟨PySem.W.fnOf "law" "law" (defArgs sLaw) (defBody sLaw) (defScope sLaw) .none kV26 dc26 pm26 an26 cd26 ct26, fun s v => .of_eq rfl, fun base _ _ => ?_⟩
  have G0 := ok_told (P := l.prog) (w := w) (base := base) F0 Tt
  have U : Up l.prog w K mg base G M f0 _ := ⟨PySem.W.mg_of X Gn nG, bG, PySem.W.mg_of X Gn nM, bM, G0, d0, b0⟩
  have I0 := ok_i0 (P := l.prog) (w := w) (base := base) FI0 U
  have I1 := ok_i1 (P := l.prog) (w := w) (base := base) FI1 U
  have EV : MkE l.prog w K mg base "BadVariant" CV g0 _ bmV "ValueError.__new__" := ⟨xE0, iE0, uE0, I0, bI0, PySem.W.mg_of X Gn nE0, wE0⟩
  have EU : MkE l.prog w K mg base "UnknownName" CU g1 _ bmL "LookupError.__new__" := ⟨xE1, iE1, uE1, I1, bI1, PySem.W.mg_of X Gn nE1, wE1⟩
  have G1 := ok_word (P := l.prog) (w := w) (base := base) F1 D
  have G2 := ok_kind (P := l.prog) (w := w) (base := base) F2 G1 d1 b1 (PySem.W.mg_of X Gn gR) hR
  have G3 := ok_num (P := l.prog) (w := w) (base := base) F3 D
  have G4 := ok_index (P := l.prog) (w := w) (base := base) F4 G3 d3 b3
  have G6 := ok_pair (P := l.prog) (w := w) (base := base) F6 G1 d1 b1 G3 d3 b3
  have G5 := ok_val (P := l.prog) (w := w) (base := base) F5 D G2 d2 b2 G3 d3 b3 G6 d6 b6 (PySem.W.mg_of X Gn gN) hN
  have G7 := ok_kindOf (P := l.prog) (w := w) (base := base) (mg := mg) F7
  have G12 := ok_checkKinds (P := l.prog) (w := w) (base := base) F12 Gs G2 d2 b2
  have G14 := ok_known (P := l.prog) (w := w) (base := base) F14 Gs
  have G15 := ok_ambig (P := l.prog) (w := w) (base := base) F15 Gs
  have G13 := ok_owners (P := l.prog) (w := w) (base := base) F13 G1 d1 b1 G14 d14 b14 G15 d15 b15
  have H0 := ok_sigInit (P := l.prog) (w := w) (base := base) FM0 SC Gs G12 d12 b12 G13 d13 b13
  have H1 := ok_kinds (P := l.prog) (w := w) (base := base) FM1 SC Gs
  have H2 := ok_primitives (P := l.prog) (w := w) (base := base) FM2 SC Gs
  have H3 := ok_variants (P := l.prog) (w := w) (base := base) FM3 SC Gs
  have H4 := ok_variant (P := l.prog) (w := w) (base := base) FM4 SC Gs EU
  have H5 := ok_hasKind (P := l.prog) (w := w) (base := base) (mg := mg) FM5 SC
  have Z : SigE l.prog w K mg base C m1 m2 m3 m5 _ _ _ _ := ⟨SC, M1, H1, bM1, M2, H2, bM2, M3, H3, bM3, M5, H5, bM5⟩
  have G10 := ok_table (P := l.prog) (w := w) (base := base) F10 Gs G4 d4 b4
  have G8 := ok_checkSizes (P := l.prog) (w := w) (base := base) F8 Z G3 d3 b3
  have G9 := ok_checkTables (P := l.prog) (w := w) (base := base) F9 Z G10 d10 b10
  have H6 := ok_bookInit (P := l.prog) (w := w) (base := base) (C := C) FM6 BC Gs (PySem.W.mg_none_of X Gn z14) G8 d8 b8 G9 d9 b9
  have H7 := ok_signature (P := l.prog) (w := w) (base := base) (mg := mg) FM7 BC
  have H8 := ok_size (P := l.prog) (w := w) (base := base) FM8 BC Gs
  have H9 := ok_tableOf (P := l.prog) (w := w) (base := base) FM9 BC Gs
  have H10 := ok_hasTok (P := l.prog) (w := w) (base := base) FM10 BC G5 d5 b5
  have BE : BookE l.prog w K mg base CB C m7 m8 m9 m10 _ _ _ _ := ⟨BC, M7, H7, bM7, M8, H8, bM8, M9, H9, bM9, M10, H10, bM10⟩
  have G11 := ok_apply (P := l.prog) (w := w) (base := base) F11 Gs (PySem.W.mg_none_of X Gn z13) BE clS M4 H4 bM4 EV G7 d7 b7
  have G16 := ok_vFor (P := l.prog) (w := w) (base := base) F16 Z
  have G17 := ok_source (P := l.prog) (w := w) (base := base) F17 T
  have G18 := ok_pick (P := l.prog) (w := w) (base := base) F18 T
  have G19 := ok_of (P := l.prog) (w := w) (base := base) F19 T G18 d18 b18
  have G20 := ok_lsig (P := l.prog) (w := w) (base := base) F20 T Gs (PySem.W.mg_none_of X Gn z14) G18 d18 b18 G19 d19 b19 MS (PySem.W.mg_of X Gn nC) H0 bM0
  have G21 := ok_rowsOfV (P := l.prog) (w := w) (base := base) (mg := mg) (C := C) F21
  have G22 := ok_choices (P := l.prog) (w := w) (base := base) F22 T
  have G23 := ok_lbook (P := l.prog) (w := w) (base := base) (C := C) F23 T Gs G18 d18 b18 G19 d19 b19 G21 d21 b21 G22 d22 b22 MB (PySem.W.mg_of X Gn nCB) H6 bM6
  have G24 := ok_refusal (P := l.prog) (w := w) (base := base) F24 G11 d11 b11 (PySem.W.mg_of X Gn nE1) (PySem.W.mg_of X Gn nE0) xf1 xf0 wE1 wE0 eUU eVU eVV
  have G25 := ok_odd (P := l.prog) (w := w) (base := base) F25 T G18 d18 b18 G19 d19 b19
  exact ok_law F26 ⟨T, Gs, PySem.W.mg_none_of X Gn z13, PySem.W.mg_none_of X Gn z10, G17, d17, b17, G18, d18, b18, G19, d19, b19, G20, d20, b20, G22, d22, b22, G23, d23, b23, G24, d24, b24, G25, d25, b25, G11, d11, b11, G16, d16, b16⟩
end K12
open PySem PySem.W PyProof.Rows
set_option maxRecDepth 100000 in
set_option maxHeartbeats 0 in
theorem PySem.Challenge.cw_shapeguess_k12_variants_applied_holds : PySem.Challenge.rw_shapeguess_k12_variants_applied.Holds := by
  w_on; o_law; k_head; (case hw => w_witness2)
  k_fill
  refine Ver.walkQ (l := PySem.Challenge.rw_shapeguess_k12_variants_applied) (n := 63) (k := 8) (x := "script") (sp := fun K => K12.spLaw K) rfl (by decide) rfl ⟨rfl, by decide, by decide⟩ (fun w h Y => PySem.W.kIn_of Y) ?F ?S
  case S => exact fun K H a ns hl _ hS => ⟨a, ns, rfl, hS, hl, fun _ => rfl⟩
  case F =>
    intro w mg fa h KX G hmg
    refine' K12.all_mk KX G hmg ?a0 ?l0 ?e0 ?k0 ?a1 ?l1 ?e1 ?k1 ?a2 ?l2 ?e2 ?k2 ?a3 ?l3 ?e3 ?k3 ?a4 ?l4 ?e4 ?k4 ?a5 ?l5 ?e5 ?k5 ?a6 ?l6 ?e6 ?k6 ?a7 ?l7 ?e7 ?k7 ?a8 ?l8 ?e8 ?k8 ?a9 ?l9 ?e9 ?k9 ?a10 ?l10 ?e10 ?k10 ?a11 ?l11 ?e11 ?k11 ?a12 ?l12 ?e12 ?k12 ?a13 ?l13 ?e13 ?k13 ?a14 ?l14 ?e14 ?k14 ?a15 ?l15 ?e15 ?k15 ?a16 ?l16 ?e16 ?k16 ?a17 ?l17 ?e17 ?k17 ?a18 ?l18 ?e18 ?k18 ?a19 ?l19 ?e19 ?k19 ?a20 ?l20 ?e20 ?k20 ?a21 ?l21 ?e21 ?k21 ?a22 ?l22 ?e22 ?k22 ?a23 ?l23 ?e23 ?k23 ?a24 ?l24 ?e24 ?k24 ?a25 ?l25 ?e25 ?k25 ?a26 ?l26 ?e26 ?k26 ?nG ?bG ?nM ?bM ?nC ?pgC ?hdC ?poC ?saC ?mkC ?kcC ?noC_kinds ?noC_owners ?noC_primitives ?nCB ?pgCB ?hdCB ?poCB ?saCB ?mkCB ?kcCB ?noCB_signature ?noCB_sizes ?noCB_tables ?x0 ?y0 ?lM0 ?eM0 ?kM0 ?x1 ?y1 ?lM1 ?eM1 ?kM1 ?x2 ?y2 ?lM2 ?eM2 ?kM2 ?x3 ?y3 ?lM3 ?eM3 ?kM3 ?x4 ?y4 ?lM4 ?eM4 ?kM4 ?x5 ?y5 ?lM5 ?eM5 ?kM5 ?x6 ?y6 ?lM6 ?eM6 ?kM6 ?x7 ?y7 ?lM7 ?eM7 ?kM7 ?x8 ?y8 ?lM8 ?eM8 ?kM8 ?x9 ?y9 ?lM9 ?eM9 ?kM9 ?x10 ?y10 ?lM10 ?eM10 ?kM10 ?nE0 ?xE0 ?xf0 ?iE0 ?uE0 ?wE0 ?lI0 ?eI0 ?kI0 ?nE1 ?xE1 ?xf1 ?iE1 ?uE1 ?wE1 ?lI1 ?eI1 ?kI1 ?eUU ?eVU ?eVV ?gL ?gS ?gG ?gR ?lR ?gN ?lN ?z0 ?z1 ?z2 ?z3 ?z4 ?z5 ?z6 ?z7 ?z8 ?z9 ?z10 ?z11 ?z12 ?z13 ?z14
    (case a0 => k_is); (case l0 => k_is); (case e0 => k_is); (case k0 => k_is); (case a1 => k_is); (case l1 => k_is); (case e1 => k_is); (case k1 => k_is)
    (case a2 => k_is); (case l2 => k_is); (case e2 => k_is); (case k2 => k_is); (case a3 => k_is); (case l3 => k_is); (case e3 => k_is); (case k3 => k_is)
    (case a4 => k_is); (case l4 => k_is); (case e4 => k_is); (case k4 => k_is); (case a5 => k_is); (case l5 => k_is); (case e5 => k_is); (case k5 => k_is)
    (case a6 => k_is); (case l6 => k_is); (case e6 => k_is); (case k6 => k_is); (case a7 => k_is); (case l7 => k_is); (case e7 => k_is); (case k7 => k_is)
    (case a8 => k_is); (case l8 => k_is); (case e8 => k_is); (case k8 => k_is); (case a9 => k_is); (case l9 => k_is); (case e9 => k_is); (case k9 => k_is)
    (case a10 => k_is); (case l10 => k_is); (case e10 => k_is); (case k10 => k_is); (case a11 => k_is); (case l11 => k_is); (case e11 => k_is); (case k11 => k_is)
    (case a12 => k_is); (case l12 => k_is); (case e12 => k_is); (case k12 => k_is); (case a13 => k_is); (case l13 => k_is); (case e13 => k_is); (case k13 => k_is)
    (case a14 => k_is); (case l14 => k_is); (case e14 => k_is); (case k14 => k_is); (case a15 => k_is); (case l15 => k_is); (case e15 => k_is); (case k15 => k_is)
    (case a16 => k_is); (case l16 => k_is); (case e16 => k_is); (case k16 => k_is); (case a17 => k_is); (case l17 => k_is); (case e17 => k_is); (case k17 => k_is)
    (case a18 => k_is); (case l18 => k_is); (case e18 => k_is); (case k18 => k_is); (case a19 => k_is); (case l19 => k_is); (case e19 => k_is); (case k19 => k_is)
    (case a20 => k_is); (case l20 => k_is); (case e20 => k_is); (case k20 => k_is); (case a21 => k_is); (case l21 => k_is); (case e21 => k_is); (case k21 => k_is)
    (case a22 => k_is); (case l22 => k_is); (case e22 => k_is); (case k22 => k_is); (case a23 => k_is); (case l23 => k_is); (case e23 => k_is); (case k23 => k_is)
    (case a24 => k_is); (case l24 => k_is); (case e24 => k_is); (case k24 => k_is); (case a25 => k_is); (case l25 => k_is); (case e25 => k_is); (case k25 => k_is)
    (case a26 => k_is); (case l26 => k_is); (case e26 => k_is); (case k26 => k_is); (case nG => k_is); (case bG => exact ⟨by k_is, by k_is, by k_is⟩); (case nM => k_is); (case bM => exact ⟨by k_is, by k_is, by k_is⟩)
    (case nC => k_is); (case pgC => k_is); (case hdC => k_is); (case poC => k_is); (case saC => k_is); (case mkC => k_is); (case kcC => k_is); (case noC_kinds => k_is)
    (case noC_owners => k_is); (case noC_primitives => k_is); (case nCB => k_is); (case pgCB => k_is); (case hdCB => k_is); (case poCB => k_is); (case saCB => k_is); (case mkCB => k_is)
    (case kcCB => k_is); (case noCB_signature => k_is); (case noCB_sizes => k_is); (case noCB_tables => k_is); (case x0 => k_is); (case y0 => k_is); (case lM0 => k_is); (case eM0 => k_is)
    (case kM0 => k_is); (case x1 => k_is); (case y1 => k_is); (case lM1 => k_is); (case eM1 => k_is); (case kM1 => k_is); (case x2 => k_is); (case y2 => k_is)
    (case lM2 => k_is); (case eM2 => k_is); (case kM2 => k_is); (case x3 => k_is); (case y3 => k_is); (case lM3 => k_is); (case eM3 => k_is); (case kM3 => k_is)
    (case x4 => k_is); (case y4 => k_is); (case lM4 => k_is); (case eM4 => k_is); (case kM4 => k_is); (case x5 => k_is); (case y5 => k_is); (case lM5 => k_is)
    (case eM5 => k_is); (case kM5 => k_is); (case x6 => k_is); (case y6 => k_is); (case lM6 => k_is); (case eM6 => k_is); (case kM6 => k_is); (case x7 => k_is)
    (case y7 => k_is); (case lM7 => k_is); (case eM7 => k_is); (case kM7 => k_is); (case x8 => k_is); (case y8 => k_is); (case lM8 => k_is); (case eM8 => k_is)
    (case kM8 => k_is); (case x9 => k_is); (case y9 => k_is); (case lM9 => k_is); (case eM9 => k_is); (case kM9 => k_is); (case x10 => k_is); (case y10 => k_is)
    (case lM10 => k_is); (case eM10 => k_is); (case kM10 => k_is); (case nE0 => k_is); (case xE0 => exact ⟨by kernel_rfl, by kernel_rfl, by k_is, by k_is, by k_is, by k_is, by k_is, by k_is, by k_is, by k_is, by k_is⟩); (case xf0 => exact ⟨by k_is, by k_is, by k_is, by k_is⟩); (case iE0 => k_is); (case uE0 => k_is)
    (case wE0 => k_is); (case lI0 => k_is); (case eI0 => k_is); (case kI0 => k_is); (case nE1 => k_is); (case xE1 => exact ⟨by kernel_rfl, by kernel_rfl, by k_is, by k_is, by k_is, by k_is, by k_is, by k_is, by k_is, by k_is, by k_is⟩); (case xf1 => exact ⟨by k_is, by k_is, by k_is, by k_is⟩); (case iE1 => k_is)
    (case uE1 => k_is); (case wE1 => k_is); (case lI1 => k_is); (case eI1 => k_is); (case kI1 => k_is); (case eUU => kernel_rfl); (case eVU => kernel_rfl); (case eVV => kernel_rfl)
    (case gL => k_is); (case gS => k_is); (case gG => k_is); (case gR => k_is); (case lR => k_is); (case gN => k_is); (case lN => k_is); (case z0 => k_is)
    (case z1 => k_is); (case z2 => k_is); (case z3 => k_is); (case z4 => k_is); (case z5 => k_is); (case z6 => k_is); (case z7 => k_is); (case z8 => k_is)
    (case z9 => k_is); (case z10 => k_is); (case z11 => k_is); (case z12 => k_is); (case z13 => k_is); (case z14 => k_is)
