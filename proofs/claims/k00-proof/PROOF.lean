import PyProof.Rows.All
import Wide.All
import OpenK.AllK
import Wide.FinOn
import HandS.ForMost
import HandS.IsInst
import HandS.ExcInit
import HandS.FStr
import KE.KExcInit
import KE.KExcIs
import PySem.Challenge.RW_shapeguess_k00_errors
set_option Elab.async false
set_option linter.all false
set_option maxRecDepth 100000
set_option maxHeartbeats 4000000
/-! Ver, 1: an empty dict is no text; plain data of the call's own heap, shown and compared -/
namespace Ver
open PySem PySem.SeqAt
section
variable {A : Around} {s : Shared}
/-- a dict declines to be a text -/
theorem dict_no_text (l : Addr) (o : Obj) (hc : o.cls = .type "dict") (b : Str) (u : Tok) :
    Meets (Builtin.«dict.__eq__» ⟨[.ref l, .str b u], []⟩) (fun _ R s => s.heap.get? l = some o ∧ R (.ok (.ret .notImplemented)) s) :=
  .of_wp fun prog w A R s h => by
    obtain ⟨hp, g, d, tk, os⟩ := s
    obtain ⟨hl, h⟩ := h
    have f1 := F.sub_str_dict
    obtain ⟨c, dd, dt, sl⟩ := o
    subst hc
    wp_walk using AutoSeq1.wpAny_loadPart' hl, wpAny_load hl
    exact ⟨_, rfl, h⟩
/-- a text declines to be a dict -/
theorem text_no_dict (l : Addr) (o : Obj) (es : Array DictEntry) (n : Nat) (hc : o.cls = .type "dict") (hd : o.data = .dict es n) (b : Str) (u : Tok) :
    Meets (Builtin.«str.__eq__» ⟨[.str b u, .ref l], []⟩) (fun _ R s => s.heap.get? l = some o ∧ R (.ok (.ret .notImplemented)) s) :=
  .of_wp fun prog w A R s h => by
    obtain ⟨hp, g, d, tk, os⟩ := s
    obtain ⟨hl, h⟩ := h
    obtain ⟨c, dd, dt, sl⟩ := o
    simp only at hc hd
    subst hc hd
    wp_walk using AutoSeq1.wpAny_loadPart' hl, wpAny_load hl
    exact ⟨_, rfl, h⟩
theorem rc_dict_text {l : Addr} {o : Obj} {es : Array DictEntry} {n : Nat} (ho : s.heap.get? l = some o) (hc : o.cls = .type "dict") (hd : o.data = .dict es n) (b : Str) (u : Tok) (hu : A.units < cLine) :
    RcAt A s (.ref l) (.str b u) false := fun prog w E Q h =>
  rc_eq_decline_or (k := false) ⟨_, ho, hc⟩ (typeIs_str s b u) (by decide) F.sub_str_dict F.slot_dict_eq F.slot_str_eq_refl
    (fun _ hq => call_meets F.slot_dict_eq ⟨_, ho, hc⟩ F.entry_dict_eq (F.args_dict_eq_2 _ _) (dict_no_text l o hc b u) ⟨ho, hq⟩)
    (fun _ hq => call_meets F.slot_str_eq_refl (typeIs_str s b u) F.entry_str_eq (F.args_str_eq_2 _ _) (text_no_dict l o es n hc hd b u) ⟨ho, hq⟩)
    (fun _ hq => wpAny_of_eq (rfl : isSame (.ref l) (.str b u) = pure false) hq) (.inr hu) h
theorem eq_dict_text {l : Addr} {o : Obj} {es : Array DictEntry} {n : Nat} (ho : s.heap.get? l = some o) (hc : o.cls = .type "dict") (hd : o.data = .dict es n) (b : Str) (u : Tok) (hu : A.units < cLine) :
    EqAt A s (.ref l) (.str b u) false := fun prog w E Q h => by
  unfold eqBool
  refine wpAny_holding (wpAny_ite_split (fun z => absurd (eq_of_beq z) nofun) fun _ => ?_)
  exact wpAny_bind (rc_dict_text ho hc hd b u hu prog w E _ (wpAny_truthy_bool h))
end
end Ver
/-! Ver, 2: plain data (Da), its text, its equality with texts and tuples of texts -/
namespace Ver
open PySem PySem.Spec PyProof.Rows L2
open PySem.SeqAt (EqAt RcAt)
mutual
/-- x is the plain datum d in the heap H; no address that N names has a part in it -/
inductive Da (N : Addr → Prop) (H : Hp) : V → PyData → Prop
  | non : Da N H .non .none
  | bl (b : Bool) : Da N H (.bl b) (.bool b)
  | int (i : Int) : Da N H (.int i) (.int i)
  | str (x : Str) : Da N H (.str x) (.str x)
  | lst {a : Addr} {xs : List V} {ds : List PyData} : H a = some (.lst xs) → ¬ N a → a ≠ sysModules → Das N H xs ds → Da N H (.ref a) (.list ds)
  | tup {a : Addr} {xs : List V} {ds : List PyData} : H a = some (.tup xs) → ¬ N a → Das N H xs ds → Da N H (.ref a) (.tuple ds)
  | emp {a : Addr} : H a = some (.dK []) → ¬ N a → Da N H (.ref a) (.dict [])
inductive Das (N : Addr → Prop) (H : Hp) : List V → List PyData → Prop
  | nil : Das N H [] []
  | cons {v : V} {vs : List V} {d : PyData} {ds : List PyData} : Da N H v d → Das N H vs ds → Das N H (v :: vs) (d :: ds)
end
/-- all but what N names is as it was -/
def Keep (N : Addr → Prop) (H H' : Hp) : Prop := ∀ b o, H b = some o → ¬ N b → H' b = some o
theorem Keep.refl {N : Addr → Prop} {H : Hp} : Keep N H H := fun _ _ h _ => h
theorem Keep.trans {N : Addr → Prop} {H H1 H2 : Hp} (a : Keep N H H1) (b : Keep N H1 H2) : Keep N H H2 := fun c o h n => b c o (a c o h n) n
theorem Same.keep {N : Addr → Prop} {H H' : Hp} (e : Same H H') : Keep N H H' := fun b o h _ => e b o h
theorem same_new {H : Hp} {p : Addr} {o : HO} (h : H p = none) : Same H (upd H p o) := fun b x e => by
  rw [upd_ne (ne_of_none e h)]
  exact e
mutual
theorem Da.keep {N : Addr → Prop} {H H' : Hp} (k : Keep N H H') : ∀ {v : V} {d : PyData}, Da N H v d → Da N H' v d
  | _, _, .non => .non
  | _, _, .bl b => .bl b
  | _, _, .int i => .int i
  | _, _, .str x => .str x
  | _, _, .lst e n z q => .lst (k _ _ e n) n z (Das.keep k q)
  | _, _, .tup e n q => .tup (k _ _ e n) n (Das.keep k q)
  | _, _, .emp e n => .emp (k _ _ e n) n
theorem Das.keep {N : Addr → Prop} {H H' : Hp} (k : Keep N H H') : ∀ {vs : List V} {ds : List PyData}, Das N H vs ds → Das N H' vs ds
  | _, _, .nil => .nil
  | _, _, .cons h t => .cons (Da.keep k h) (Das.keep k t)
end
theorem Das.length {N : Addr → Prop} {H : Hp} : ∀ {vs : List V} {ds : List PyData}, Das N H vs ds → vs.length = ds.length
  | _, _, .nil => rfl
  | _, _, .cons _ t => congrArg (· + 1) (Das.length t)
theorem Das.get {N : Addr → Prop} {H : Hp} : ∀ {vs : List V} {ds : List PyData} {i : Nat} {d : PyData}, Das N H vs ds → ds[i]? = some d → ∃ v, vs[i]? = some v ∧ Da N H v d
  | _, _, _, _, .nil, e => by simp at e
  | _, _, 0, _, .cons h _, e => by
    simp at e
    subst e
    exact ⟨_, rfl, h⟩
  | _, _, i + 1, _, .cons _ t, e => by
    obtain ⟨v, h1, h2⟩ := Das.get (i := i) t (by simpa using e)
    exact ⟨v, by simpa using h1, h2⟩

/-- an empty dict of ours, as the library reads it; it is not sys.modules -/
theorem reads_emp {P : Program} {w : World} {H : Hp} {s : Shared} {a : Addr} (hok : HOk P w H s.heap) (e : H a = some (.dK [])) :
    ∃ (o : Obj) (es : Array DictEntry) (n : Nat), s.heap.get? a = some o ∧ o.cls = .type "dict" ∧ o.data = .dict es n ∧ es.toList = [] ∧ a ≠ sysModules := by
  obtain ⟨_, ns, vs, rel, o, es, ep, ho, hx, hd, _, hp, _⟩ := hok a _ e
  cases rel
  refine ⟨o, es, ep, ho, hx.1, hd, ?_, fun z => by rw [z] at ns; simp at ns⟩
  generalize es.toList = l at hp
  cases hp
  rfl
section
variable {X : Cx} {pins : List (Addr × Obj)} {σ : L2.St} {H : Hp} {s : Shared} {N : Addr → Prop}
mutual
theorem Da.reads (I : Inv X pins σ H s) : ∀ {v : V} {d : PyData} {u : Value}, Da N H v d → RelV v u → ∃ as, Reads s.heap u d as ∧ sysModules ∉ as
  | _, _, _, .non, r => by
    cases r
    exact ⟨[], .none, by simp⟩
  | _, _, _, .bl b, r => by
    cases r
    exact ⟨[], .bool b, by simp⟩
  | _, _, _, .int i, r => by
    obtain ⟨t, rfl⟩ := r
    exact ⟨[], .int i t, by simp⟩
  | _, _, _, .str x, r => by
    obtain ⟨t, rfl⟩ := r
    exact ⟨[], .str x t, by simp⟩
  | _, _, _, .lst e n z q, r => by
    cases r
    obtain ⟨its, rv, ⟨o, m, ho, hc, _, hd⟩, _⟩ := I.list (SqL.of e)
    obtain ⟨as, h1, h2⟩ := Das.reads I q rv
    exact ⟨_, .list ho hc hd h1, fun hm => (List.mem_cons.mp hm).elim (fun e => z e.symm) h2⟩
  | _, _, _, .tup e n q, r => by
    cases r
    obtain ⟨its, rv, ⟨o, ho, hc, m, hd⟩, _⟩ := I.tuple (SqT.of e)
    obtain ⟨as, h1, h2⟩ := Das.reads I q rv
    exact ⟨_, .tuple ho hc hd h1, h2⟩
  | _, _, _, .emp e n, r => by
    cases r
    obtain ⟨o, es, m, ho, hc, hd, hz, ns⟩ := reads_emp I.hok e
    exact ⟨_, .dict ho hc hd (by rw [hz]; exact .nil) (by rw [hz]; exact .nil), fun hm => by
      rcases List.mem_cons.mp hm with e | e
      · exact ns e.symm
      · simp at e⟩
theorem Das.reads (I : Inv X pins σ H s) : ∀ {vs : List V} {ds : List PyData} {us : List Value}, Das N H vs ds → Vals vs us → ∃ as, ReadsAll s.heap us ds as ∧ sysModules ∉ as
  | _, _, _, .nil, r => by
    cases r
    exact ⟨[], .nil, by simp⟩
  | _, _, _, .cons h t, r => by
    cases r with
    | cons r1 r2 =>
      obtain ⟨as, h1, h2⟩ := Da.reads I h r1
      obtain ⟨bs, h3, h4⟩ := Das.reads I t r2
      exact ⟨_, .cons h1 h3, fun hm => (List.mem_append.mp hm).elim h2 h4⟩
end
/-- what can be shown: its text is at most n signs long, it is at most k deep -/
structure Fit (n k : Nat) (d : PyData) : Prop where
  ok : d.showable = true
  len : d.shown.length ≤ n
  dep : d.depth ≤ k
/-- repr(x), x plain data -/
theorem call_reprD {n k : Nat} (hg : X.A.guards = some []) (hu : X.A.units + (k + 1) < cLine) (hn : n ≤ sizeLine) :
    CallR X (.builtin "repr") (fun xs H Q => ∃ v d, xs = [v] ∧ Da N H v d ∧ Fit n k d ∧ Q (.str d.shown) H) := by
  intro pins s σ H xs us Q I r h
  obtain ⟨v, d, rfl, hv, ⟨f1, f2, f3⟩, q⟩ := h
  obtain ⟨u, rfl, ru⟩ := vals1 r
  obtain ⟨as, hr, hs⟩ := hv.reads I ru
  have hz : d.shown.length ≤ sizeLine := Nat.le_trans f2 hn
  cases hv with
  | non =>
    cases ru
    exact PySem.P.repr_of_none ⟨.str _, H, I.tok _, ⟨_, rfl⟩, q⟩
  | bl b =>
    cases ru
    exact PySem.P.repr_of_bool ⟨.str _, H, I.tok _, ⟨_, rfl⟩, by cases b <;> exact q⟩
  | int i =>
    obtain ⟨t, rfl⟩ := ru
    exact PySem.P.repr_of_int (by simpa [PyData.showable] using f1) ⟨.str _, H, I.tok _, ⟨_, rfl⟩, q⟩
  | str x =>
    obtain ⟨t, rfl⟩ := ru
    exact PySem.P.repr_of_str ⟨.str _, H, I.tok _, ⟨_, rfl⟩, q⟩ hz
  | lst e _ _ _ =>
    cases ru
    exact repr_of_reads' hr f1 (fun _ => hs) hg (by omega) (fun _ _ e => e) (fun h' t tk kk => ⟨.str _, H, I.kept kk, ⟨_, rfl⟩, q⟩) hz
  | tup e _ _ =>
    cases ru
    exact repr_of_reads' hr f1 (fun _ => hs) hg (by omega) (fun _ _ e => e) (fun h' t tk kk => ⟨.str _, H, I.kept kk, ⟨_, rfl⟩, q⟩) hz
  | emp e _ =>
    cases ru
    exact repr_of_reads' hr f1 (fun _ => hs) hg (by omega) (fun _ _ e => e) (fun h' t tk kk => ⟨.str _, H, I.kept kk, ⟨_, rfl⟩, q⟩) hz
end
end Ver
/-! Ver, 3: what fits; equality of data with texts and with tuples of texts; x in [..]; text * int; list(tuple); lists behind sys.modules -/
namespace Ver
open PySem PySem.Spec PyProof.Rows L2
open PySem.SeqAt (EqAt RcAt)
theorem Fit.mono {n n' k k' : Nat} {d : PyData} (f : Fit n k d) (h : n ≤ n') (hk : k ≤ k') : Fit n' k' d := ⟨f.ok, Nat.le_trans f.len h, Nat.le_trans f.dep hk⟩
theorem fits_all {n k : Nat} : ∀ {ds : List PyData}, (∀ d ∈ ds, Fit n k d) → PyData.showableAll ds = true ∧ piled (PyData.shownAll ds) ≤ ds.length * (n + 2) ∧ PyData.depthAll ds ≤ k ∧ (PyData.shownAll ds).length = ds.length
  | [], _ => ⟨rfl, by simp [PyData.shownAll, piled], by simp [PyData.depthAll], rfl⟩
  | d :: ds, h => by
    obtain ⟨h1, h2, h3, h4⟩ := fits_all (ds := ds) fun e he => h e (List.mem_cons_of_mem _ he)
    obtain ⟨f1, f2, f3⟩ := h d List.mem_cons_self
    refine ⟨by simp [PyData.showableAll, f1, h1], ?_, by simp [PyData.depthAll]; omega, by simp [PyData.shownAll, h4]⟩
    show piled (d.shown :: PyData.shownAll ds) ≤ (ds.length + 1) * (n + 2)
    rw [piled_cons, Nat.add_mul]
    omega
theorem join_le (ts : List Str) : (Str.join ", " ts).length ≤ piled ts := by
  by_cases h : ts = []
  · subst h
    exact Nat.zero_le _
  · have := join_length_add ts h
    omega
theorem fit_tup {n k m : Nat} {ds : List PyData} (h : ∀ d ∈ ds, Fit n k d) (hm : ds.length * (n + 2) + 3 ≤ m) : Fit m (k + 1) (.tuple ds) := by
  obtain ⟨h1, h2, h3, h4⟩ := fits_all h
  refine ⟨by simpa [PyData.showable] using h1, ?_, by simp [PyData.depth]; omega⟩
  show (tupleText (PyData.shownAll ds)).length ≤ m
  unfold tupleText
  rw [strLen_append, strLen_append]
  have e1 : (("(" : String) : Str).length = 1 := rfl
  have e2 : ((if (PyData.shownAll ds).length == 1 then ",)" else ")" : String) : Str).length ≤ 2 := by
    split <;> decide
  have := join_le (PyData.shownAll ds)
  omega
theorem textFrom_le : ∀ (ts : List Str) (k : Nat) (acc : Str), (textFrom k acc ts).length ≤ acc.length + piled ts
  | [], k, acc => Nat.le_add_right _ _
  | t :: r, k, acc => by
    have h := textFrom_le r (k + 1) (acc ++ (if k > 0 then ", " else "" : String) ++ t)
    have e : (acc ++ (if k > 0 then ", " else "" : String) ++ t).length ≤ acc.length + 2 + t.length := by
      rw [strLen_append, strLen_append]
      have : ((if k > 0 then ", " else "" : String) : Str).length ≤ 2 := by split <;> decide
      omega
    rw [piled_cons]
    show (textFrom (k + 1) (acc ++ (if k > 0 then ", " else "" : String) ++ t) r).length ≤ _
    omega
theorem fit_lst {n k m : Nat} {ds : List PyData} (h : ∀ d ∈ ds, Fit n k d) (hm : ds.length * (n + 2) + 2 ≤ m) : Fit m (k + 1) (.list ds) := by
  obtain ⟨h1, h2, h3, h4⟩ := fits_all h
  refine ⟨by simpa [PyData.showable] using h1, ?_, by simp [PyData.depth]; omega⟩
  show (textFrom 0 "[" (PyData.shownAll ds) ++ "]" : Str).length ≤ m
  rw [strLen_append]
  have := textFrom_le (PyData.shownAll ds) 0 "["
  have e1 : (("[" : String) : Str).length = 1 := rfl
  have e2 : (("]" : String) : Str).length = 1 := rfl
  omega
theorem fit_none {n k : Nat} (h : 4 ≤ n) : Fit n k .none := ⟨rfl, h, Nat.zero_le _⟩
theorem fit_bool {n k : Nat} (b : Bool) (h : 5 ≤ n) : Fit n k (.bool b) := ⟨rfl, by cases b <;> (refine Nat.le_trans ?_ h; decide), Nat.zero_le _⟩
theorem fit_emp {n k : Nat} (h : 2 ≤ n) (hk : 1 ≤ k) : Fit n k (.dict []) := ⟨rfl, by refine Nat.le_trans ?_ h; decide, by simpa [PyData.depth, PyData.depthKv] using hk⟩
theorem fit_str {n k : Nat} {x : Str} (hx : ∀ c ∈ x.cps.toList, c < 16 ^ 8) (h : 10 * x.length + 2 ≤ n) : Fit n k (.str x) :=
  ⟨rfl, Nat.le_trans (StrLaws.reprText_len x hx) h, Nat.zero_le _⟩
/-! ### equality with texts -/
/-- is the datum this text -/
def eqS : PyData → Str → Bool
  | .str x, y => x == y
  | _, _ => false
/-- are the data these texts, one by one -/
def eqSs : List PyData → List Str → Bool
  | [], [] => true
  | d :: ds, y :: ys => eqS d y && eqSs ds ys
  | _, _ => false
section
variable {X : Cx} {pins : List (Addr × Obj)} {σ : L2.St} {H : Hp} {s : Shared} {N : Addr → Prop}
theorem Da.rcText {A : Around} (I : Inv X pins σ H s) {v : V} {d : PyData} {u : Value} (h : Da N H v d) (r : RelV v u) (y : Str) (t : Tok) (hu : A.units < cLine) : RcAt A s u (.str y t) (eqS d y) := by
  cases h with
  | non =>
    cases r
    exact .none_str y t
  | bl b =>
    cases r
    exact .bool_str b y t
  | int i =>
    obtain ⟨t', rfl⟩ := r
    exact .int_str i t' y t
  | str x =>
    obtain ⟨t', rfl⟩ := r
    exact .str_str x t' y t
  | lst e _ _ _ =>
    cases r
    obtain ⟨its, rv, p, _⟩ := I.list (SqL.of e)
    exact .list_str y t p.isList hu
  | tup e _ _ =>
    cases r
    obtain ⟨its, rv, p, _⟩ := I.tuple (SqT.of e)
    exact .tuple_str y t p hu
  | emp e _ =>
    cases r
    obtain ⟨o, es, n, ho, hc, hd, _, _⟩ := reads_emp I.hok e
    exact rc_dict_text ho hc hd y t hu
theorem Da.eqText {A : Around} (I : Inv X pins σ H s) {v : V} {d : PyData} {u : Value} (h : Da N H v d) (r : RelV v u) (y : Str) (t : Tok) (hu : A.units < cLine) : EqAt A s u (.str y t) (eqS d y) := by
  cases h with
  | non =>
    cases r
    exact .none_str y t
  | bl b =>
    cases r
    exact .bool_str b y t
  | int i =>
    obtain ⟨t', rfl⟩ := r
    exact .int_str i t' y t
  | str x =>
    obtain ⟨t', rfl⟩ := r
    exact .str_str x t' y t
  | lst e _ _ _ =>
    cases r
    obtain ⟨its, rv, p, _⟩ := I.list (SqL.of e)
    exact .list_str y t p.isList hu
  | tup e _ _ =>
    cases r
    obtain ⟨its, rv, p, _⟩ := I.tuple (SqT.of e)
    exact .tuple_str y t p hu
  | emp e _ =>
    cases r
    obtain ⟨o, es, n, ho, hc, hd, _, _⟩ := reads_emp I.hok e
    exact eq_dict_text ho hc hd y t hu
/-- place by place, as the comparison of two tuples asks -/
theorem eqSs_range : ∀ (ds : List PyData) (ys : List Str),
    ((List.range (min ds.length ys.length)).all (fun j => eqS (ds.getD j .none) (ys.getD j Str.empty)) && ds.length == ys.length) = eqSs ds ys
  | [], [] => rfl
  | [], _ :: _ => by simp [eqSs]
  | _ :: _, [] => by simp [eqSs]
  | d :: ds, y :: ys => by
    have ih := eqSs_range ds ys
    show _ = (eqS d y && eqSs ds ys)
    rw [← ih, List.length_cons, List.length_cons, Nat.succ_min_succ, List.range_succ_eq_map, List.all_cons, List.all_map, Bool.and_assoc]
    have e : (ds.length + 1 == ys.length + 1) = (ds.length == ys.length) := by simp
    rw [e]
    rfl
theorem Das.eqTexts {A : Around} (I : Inv X pins σ H s) (hu : A.units < cLine) : ∀ {vs : List V} {ds : List PyData} {us ws : List Value} {ys : List Str}, Das N H vs ds → Vals vs us → Vals (ys.map V.str) ws →
    ∀ (j : Nat) (h1 : j < us.length) (h2 : j < ws.length), EqAt A s us[j] ws[j] (eqS (ds.getD j .none) (ys.getD j Str.empty))
  | _, _, _, _, _, .nil, .nil, _ => fun j h1 _ => absurd h1 (Nat.not_lt_zero _)
  | _, _, _, _, [], .cons _ _, _, r => fun j _ h2 => by
    cases r
    exact absurd h2 (Nat.not_lt_zero _)
  | _, _, _, _, y :: ys, .cons h t, .cons r1 r2, r => fun j h1 h2 => by
    cases r with
    | cons r3 r4 =>
      cases j with
      | zero =>
        obtain ⟨t', rfl⟩ := r3
        exact h.eqText I r1 y t' hu
      | succ j => exact Das.eqTexts I hu t r2 r4 j (by simpa using h1) (by simpa using h2)
theorem Das.rcTexts {A : Around} {a b : Addr} {xs : List V} {ds : List PyData} {ys : List Str} (I : Inv X pins σ H s) (e : SqT X.K H a xs) (q : Das N H xs ds) (f : SqT X.K H b (ys.map V.str)) (hu : A.units + 1 < cLine) :
    RcAt A s (.ref a) (.ref b) (eqSs ds ys) := by
  obtain ⟨its, rv, p, _⟩ := I.tuple e
  obtain ⟨jts, rw', p', _⟩ := I.tuple f
  have l1 : its.length = ds.length := rv.length.symm.trans q.length
  have l2 : jts.length = ys.length := by
    have := rw'.length
    rw [List.length_map] at this
    exact this.symm
  have h := RcAt.tuples (A := A) (s := s) (e := fun j => eqS (ds.getD j .none) (ys.getD j Str.empty)) p p' (by omega) (fun j h1 h2 => by
    have := Das.eqTexts (A := A.in1) I (show A.units + 1 < cLine from hu) q rv rw' j (by simpa using h1) (by simpa using h2)
    simpa using this)
  have e1 : its.toArray.size = ds.length := by simpa using l1
  have e2 : jts.toArray.size = ys.length := by simpa using l2
  rw [e1, e2] at h
  rw [eqSs_range] at h
  exact h
/-- tuples stand apart or are one: then the answer is yes on both sides -/
theorem Das.eqTextsRef {A : Around} {a b : Addr} {xs : List V} {ds : List PyData} {ys : List Str} (I : Inv X pins σ H s) (e : SqT X.K H a xs) (q : Das N H xs ds) (f : SqT X.K H b (ys.map V.str)) (hu : A.units + 1 < cLine) :
    EqAt A s (.ref a) (.ref b) (eqSs ds ys) := by
  by_cases hab : a = b
  · subst hab
    have ex : xs = ys.map V.str := I.tuple_inj e f
    subst ex
    have : eqSs ds ys = true := by
      clear e f hu I
      induction ys generalizing ds with
      | nil =>
        cases q
        rfl
      | cons y ys ih =>
        cases q with
        | cons h t =>
          cases h
          show (y == y && eqSs _ ys) = true
          rw [ih t, beq_self_eq_true]
          rfl
    rw [this]
    exact .same _
  · exact .of_refs hab (Das.rcTexts I e q f hu)
end
section
variable {X : Cx} {N : Addr → Prop}
/-- x == "..", x any datum -/
def rEqS (N : Addr → Prop) : R2 := fun x y H Q => ∃ d z, Da N H x d ∧ y = .str z ∧ Q (.bl (eqS d z)) H
theorem op_eqS (hu : X.A.units < cLine) : OpR X (compareOp .Eq) (rEqS N) := by
  intro pins s σ H x y v u Q I rx ry h
  obtain ⟨d, z, hd, rfl, q⟩ := h
  obtain ⟨t, rfl⟩ := ry
  exact hd.rcText I rx z t hu _ _ _ _ ⟨.bl _, H, I, rfl, q⟩
/-- x == (.., ..), a tuple of data against a tuple of texts -/
def rEqT (K : PySem.W.Frag) (N : Addr → Prop) : R2 := fun x y H Q => ∃ a xs ds b ys, x = .ref a ∧ SqT K H a xs ∧ Das N H xs ds ∧ y = .ref b ∧ SqT K H b (ys.map V.str) ∧ Q (.bl (eqSs ds ys)) H
theorem op_eqT (hu : X.A.units + 1 < cLine) : OpR X (compareOp .Eq) (rEqT X.K N) := by
  intro pins s σ H x y v u Q I rx ry h
  obtain ⟨a, xs, ds, b, ys, rfl, e, q, rfl, f, k⟩ := h
  cases rx
  cases ry
  exact Das.rcTexts I e q f hu _ _ _ _ ⟨.bl _, H, I, rfl, k⟩
end
end Ver
/-! Ver, 4: x in [(..), ..]; text * int; list(tuple); lists behind sys.modules; a def that is called where nothing is being shown; the law's call -/
namespace Ver
open PySem PySem.Spec PyProof.Rows L2
open PySem.SeqAt (EqAt RcAt)
section
variable {A : Around} {s : Shared}
theorem sub_dict_text : isSubtype (.type "dict") (.type "str") = pure false := by
  rw [isSubtype_type]
  kernel_rfl
theorem eq_text_dict {l : Addr} {o : Obj} {es : Array DictEntry} {n : Nat} (ho : s.heap.get? l = some o) (hc : o.cls = .type "dict") (hd : o.data = .dict es n) (b : Str) (u : Tok) (hu : A.units < cLine) :
    EqAt A s (.str b u) (.ref l) false := fun prog w E Q h => by
  unfold eqBool
  refine wpAny_holding (wpAny_ite_split (fun z => absurd (eq_of_beq z) nofun) fun _ => ?_)
  refine wpAny_bind (SeqAt.rc_eq_decline_or (k := false) (typeIs_str s b u) ⟨_, ho, hc⟩ (by decide) sub_dict_text F.slot_str_eq F.slot_dict_eq_refl
    (fun _ hq => call_meets F.slot_str_eq (typeIs_str s b u) F.entry_str_eq (F.args_str_eq_2 _ _) (text_no_dict l o es n hc hd b u) ⟨ho, hq⟩)
    (fun _ hq => call_meets F.slot_dict_eq_refl ⟨_, ho, hc⟩ F.entry_dict_eq (F.args_dict_eq_2 _ _) (dict_no_text l o hc b u) ⟨ho, hq⟩)
    (fun _ hq => wpAny_of_eq (rfl : isSame (.str b u) (.ref l) = pure false) hq) (.inr hu) (wpAny_truthy_bool h))
end
theorem beq_comm_str (x y : Str) : (x == y) = (y == x) := by
  by_cases h : x = y
  · rw [h]
  · rw [beq_eq_false_iff_ne.mpr h, beq_eq_false_iff_ne.mpr (Ne.symm h)]
section
variable {X : Cx} {pins : List (Addr × Obj)} {σ : L2.St} {H : Hp} {s : Shared} {N : Addr → Prop}
theorem Da.textEq {A : Around} (I : Inv X pins σ H s) {v : V} {d : PyData} {u : Value} (h : Da N H v d) (r : RelV v u) (y : Str) (t : Tok) (hu : A.units < cLine) : EqAt A s (.str y t) u (eqS d y) := by
  cases h with
  | non =>
    cases r
    exact .str_none y t
  | bl b =>
    cases r
    exact .str_bool y t b
  | int i =>
    obtain ⟨t', rfl⟩ := r
    exact .str_int y t i t'
  | str x =>
    obtain ⟨t', rfl⟩ := r
    have e : eqS (.str x) y = (y == x) := beq_comm_str x y
    rw [e]
    exact .str_str y t x t'
  | lst e _ _ _ =>
    cases r
    obtain ⟨its, rv, p, _⟩ := I.list (SqL.of e)
    exact .str_list y t p.isList hu
  | tup e _ _ =>
    cases r
    obtain ⟨its, rv, p, _⟩ := I.tuple (SqT.of e)
    exact .str_tuple y t p hu
  | emp e _ =>
    cases r
    obtain ⟨o, es, n, ho, hc, hd, _, _⟩ := reads_emp I.hok e
    exact eq_text_dict ho hc hd y t hu
theorem eqSs_rangeR : ∀ (ds : List PyData) (ys : List Str),
    ((List.range (min ys.length ds.length)).all (fun j => eqS (ds.getD j .none) (ys.getD j Str.empty)) && ys.length == ds.length) = eqSs ds ys := fun ds ys => by
  rw [← eqSs_range, Nat.min_comm]
  congr 1
  by_cases h : ys.length = ds.length
  · rw [h]
  · rw [beq_eq_false_iff_ne.mpr h, beq_eq_false_iff_ne.mpr (Ne.symm h)]
theorem Das.textsEq {A : Around} (I : Inv X pins σ H s) (hu : A.units < cLine) : ∀ {vs : List V} {ds : List PyData} {us ws : List Value} {ys : List Str}, Das N H vs ds → Vals vs us → Vals (ys.map V.str) ws →
    ∀ (j : Nat) (h2 : j < ws.length) (h1 : j < us.length), EqAt A s ws[j] us[j] (eqS (ds.getD j .none) (ys.getD j Str.empty))
  | _, _, _, _, _, .nil, .nil, _ => fun j _ h1 => absurd h1 (Nat.not_lt_zero _)
  | _, _, _, _, [], .cons _ _, _, r => fun j h2 _ => by
    cases r
    exact absurd h2 (Nat.not_lt_zero _)
  | _, _, _, _, y :: ys, .cons h t, .cons r1 r2, r => fun j h2 h1 => by
    cases r with
    | cons r3 r4 =>
      cases j with
      | zero =>
        obtain ⟨t', rfl⟩ := r3
        exact h.textEq I r1 y t' hu
      | succ j => exact Das.textsEq I hu t r2 r4 j (by simpa using h2) (by simpa using h1)
theorem Das.textsEqRef {A : Around} {a b : Addr} {xs : List V} {ds : List PyData} {ys : List Str} (I : Inv X pins σ H s) (e : SqT X.K H a xs) (q : Das N H xs ds) (f : SqT X.K H b (ys.map V.str)) (hu : A.units + 1 < cLine) :
    EqAt A s (.ref b) (.ref a) (eqSs ds ys) := by
  by_cases hab : a = b
  · subst hab
    have h1 := Das.eqTextsRef (A := A) I e q f hu
    exact h1
  · obtain ⟨its, rv, p, _⟩ := I.tuple e
    obtain ⟨jts, rw', p', _⟩ := I.tuple f
    have l1 : its.length = ds.length := rv.length.symm.trans q.length
    have l2 : jts.length = ys.length := by
      have := rw'.length
      rw [List.length_map] at this
      exact this.symm
    have h := RcAt.tuples (A := A) (s := s) (e := fun j => eqS (ds.getD j .none) (ys.getD j Str.empty)) p' p (by omega) (fun j h1 h2 => by
      have := Das.textsEq (A := A.in1) I (show A.units + 1 < cLine from hu) q rv rw' j (by simpa using h1) (by simpa using h2)
      simpa using this)
    have e1 : its.toArray.size = ds.length := by simpa using l1
    have e2 : jts.toArray.size = ys.length := by simpa using l2
    rw [e1, e2, eqSs_rangeR] at h
    exact .of_refs (Ne.symm hab) h
end
section
variable {X : Cx} {N : Addr → Prop}
/-- x in [(..), (..), (..)]: is it one of these -/
def rInT (K : PySem.W.Frag) (N : Addr → Prop) : R2 := fun x y H Q => ∃ a xs ds l b1 b2 b3 y1 y2 y3, x = .ref a ∧ SqT K H a xs ∧ Das N H xs ds ∧ y = .ref l ∧ SqL K H l [.ref b1, .ref b2, .ref b3] ∧
  (SqT K H b1 (y1.map V.str) ∧ SqT K H b2 (y2.map V.str) ∧ SqT K H b3 (y3.map V.str)) ∧ (b1 ≠ b2 ∧ b1 ≠ b3 ∧ b2 ≠ b3) ∧ Q (.bl (eqSs ds y1 || eqSs ds y2 || eqSs ds y3)) H
theorem op_inT (hu : X.A.units + 2 < cLine) : OpR X (compareOp .In) (rInT X.K N) := by
  intro pins s σ H x y v u Q I rx ry h
  obtain ⟨a, xs, ds, l, b1, b2, b3, y1, y2, y3, rfl, e, q, rfl, hl, ⟨f1, f2, f3⟩, ⟨n1, n2, n3⟩, k⟩ := h
  cases rx
  cases ry
  obtain ⟨its, rv, p, _⟩ := I.list hl
  obtain rfl : its = [.ref b1, .ref b2, .ref b3] := by
    cases rv with
    | cons r1 rv =>
      cases rv with
      | cons r2 rv =>
        cases rv with
        | cons r3 rv =>
          cases rv
          cases r1
          cases r2
          cases r3
          rfl
  refine SeqAt.in_listAt (fun u => if u = .ref b1 then eqSs ds y1 else if u = .ref b2 then eqSs ds y2 else eqSs ds y3) p.isList (fun w hw => ?_) ⟨.bl _, H, I, rfl, ?_⟩
  · have hw' : w = .ref b1 ∨ w = .ref b2 ∨ w = .ref b3 := by simpa using hw
    have hu' : X.A.in1.units + 1 < cLine := hu
    rcases hw' with rfl | rfl | rfl
    · rw [if_pos rfl]
      exact Das.textsEqRef I e q f1 hu'
    · rw [if_neg (fun z => n1 (by injection z with z; exact z.symm)), if_pos rfl]
      exact Das.textsEqRef I e q f2 hu'
    · rw [if_neg (fun z => n2 (by injection z with z; exact z.symm)), if_neg (fun z => n3 (by injection z with z; exact z.symm))]
      exact Das.textsEqRef I e q f3 hu'
  · have h2 : (Value.ref b2 = Value.ref b1) = False := eq_false fun z => n1 (by injection z with z; exact z.symm)
    have h3 : (Value.ref b3 = Value.ref b1) = False := eq_false fun z => n2 (by injection z with z; exact z.symm)
    have h4 : (Value.ref b3 = Value.ref b2) = False := eq_false fun z => n3 (by injection z with z; exact z.symm)
    simp only [List.any_toArray, List.any_cons, List.any_nil, if_true, h2, h3, h4, if_false, Bool.or_false]
    simpa [Bool.or_assoc] using k
/-- text * n, n a small number -/
theorem op_times : OpR X (binaryOp .Mult) (fun x y H Q => ∃ z n, x = .str z ∧ y = .int n ∧ MulOk z n ∧ Q (.str (Txt.mul z n)) H) := by
  intro pins s σ H x y v u Q I rx ry h
  obtain ⟨z, n, rfl, rfl, hm, q⟩ := h
  obtain ⟨t, rfl⟩ := rx
  obtain ⟨t', rfl⟩ := ry
  exact PySem.SB.mul hm fun t2 k => ⟨.str _, H, I.tok _, ⟨_, rfl⟩, q⟩
/-- a new list, which is not sys.modules -/
def tLstB (t : TA) : TE := fun σ H Q => t σ H fun xs H1 => xs.length ≤ sizeLine ∧ ∀ p, H1 p = none → p ≠ sysModules → Q (.ref p) (upd H1 p (.lst xs))
theorem pe_lstB {es : List Expr} {t : TA} {pos : Pos} (h : PA X es t) : PE X (.List es pos) (tLstB t) := by
  refine ⟨fun pins s σ H Q I hq => wpAny_List_spliced (thn (h.run pos pins s σ H _ I hq) ?_)⟩
  rintro us s1 ⟨xs, H1, I1, r, z, q⟩
  have new : H1 s1.heap.objs.size = none := I1.hok.fresh (Nat.le_refl _)
  have big : s1.heap.objs.size ≠ sysModules := Nat.ne_of_gt I1.big
  refine ⟨by rw [← r.length]; exact z, .ref s1.heap.objs.size, upd H1 s1.heap.objs.size (.lst xs), ?_, rfl, q _ new big⟩
  refine I1.laid (t' := s1.toks) (fun b u e => Heap.get?_push_of_some _ e) (Nat.le_refl _) ?_
  exact ⟨z, us, 0, r, Heap.get?_push_size _ rfl⟩
/-- list(t), t a tuple; the new list is not sys.modules -/
theorem call_list_tupB : CallR X (.type "list") (fun xs H Q => ∃ p ys, xs = [.ref p] ∧ SqT X.K H p ys ∧ ∀ l, H l = none → l ≠ sysModules → Q (.ref l) (upd H l (.lst ys))) := by
  rintro pins s σ H xs us Q I r ⟨p, ys, rfl, hq, q⟩
  obtain ⟨u, rfl, rx⟩ := vals1 r
  cases rx
  obtain ⟨its, rv, ⟨o, ho, hc, n, hd⟩, hz⟩ := I.tuple hq
  have hl := rv.length
  refine call_list_seq p (.inr rfl) ho hc hd (fun h' c' kp e => ?_) (by rw [List.size_toArray]; omega)
  have new : H s.heap.objs.size = none := I.hok.fresh (Nat.le_refl _)
  exact ⟨.ref _, _, I.laid (t' := s.toks) (o := .lst ys) kp (Nat.le_refl _) ⟨hz, its, c', rv, e⟩, rfl, q _ new (Nat.ne_of_gt I.big)⟩
end
end Ver
/-! Ver, 5: defs that are called where nothing is being shown (repr asks that), up to the law's own call -/
namespace Ver
open PySem PySem.Spec PyProof.Rows L2
/-- a promise kept wherever nothing is being shown -/
structure FnQ (P : Program) (w : World) (K : PySem.W.Frag) (mg : Str → Option Value) (base : Heap) (CX : CXT) (k : Nat) (f : Addr) (fd : FuncData) (ps : List Str) (sp : Sp) : Prop where
  len : ∀ vs H Q E, sp vs H Q E → vs.length = ps.length
  run : ∀ (A : Around) (outer : List Env) (s : Shared) (H : Hp) (args : Args) (us : List Value) (vs : List V) (Q : VK) (E : XK),
    A.guards = some [] → Room k A → Env0 P w K mg base A outer s H → BindsTo s fd args (ps.zip us) → Vals vs us → sp vs H Q E →
      codeAny (model P w) A (.call (.ref f) args) (CR CX outer P w H s Q E) s
section
variable {CX : CXT} {P : Program} {w : World} {K : PySem.W.Frag} {mg : Str → Option Value} {base : Heap}
/-- such a def by its body: there, too, nothing is being shown -/
theorem fnQ_of {k : Nat} {f : Addr} {x qual : Str} {st : Stmt} {fd : FuncData} {N ps : List Str} {sp : Sp} (F : Fun K x qual st f fd) (S : FnScope N ps (defScope st))
    (len : ∀ vs H Q E, sp vs H Q E → vs.length = ps.length)
    (body : ∀ (cdv : Value) (A : Around) (outer : List Env) (s : Shared) (H : Hp) (vs : List V) (Q : VK) (E : XK), A.guards = some [] →
      Room k (A.deeper (envOfC qual (defScope st) s.heap.objs.size f cdv)) → sp vs H Q E →
        ∃ t, PSs (cxOf CX P w K mg base N qual (defScope st) f cdv A outer s H E) (defBody st) t ∧ t { nx := fun _ H' => Q .non H', rt := Q } (start N vs) H) :
    FnQ P w K mg base CX (k + 1) f fd ps sp := by
  obtain ⟨oc, od, kV, doc, pm, an, cdv, ct, osl, rfl, lk, hcd⟩ := F.ex
  refine ⟨len, ?_⟩
  intro A outer s H args us vs Q E hg hr e0 hb r hsp
  have old : ∀ b o, base.get? b = some o → s.heap.get? b = some o := fun b o e => (e0.bs b o e).1
  have written : K.In s.heap := e0.mod.kin.keeps old
  refine codeAny_call_function hr.depth (written _ _ lk) rfl S.co S.gen rfl (PySem.W.codeRec_of written hcd) (hb _ _ _ _ ?_)
  refine wpAny_newFunctionEnv_cells S.kind (fun y hy => ?_) (fun env he s1 x => ?_)
  · have hp := S.par y.1 (List.of_mem_zip (a := y.1) (b := y.2) hy).1
    exact hp.imp id fun q => ⟨q, PySem.W.cellsFrom_some _ _ _ (.inl q)⟩
  subst he
  refine ⟨(e0.mod.nolimit.keeps old).keeps x.toInCall.keep, codeAny_func ?_⟩
  obtain ⟨t, ht, hq⟩ := body cdv A outer s H vs Q E hg (hr.deeper _) hsp
  have I := inv_start (CX := CX) (E := E) S hr.hd e0 (len _ _ _ _ hsp) r x
  refine wpAny_mono (ht.run [] s1 (start N vs) H _ I hq) ?_ fun _ _ z => z
  intro fl s' h
  cases fl with
  | brk => exact h.elim fun _ ⟨_, _, z⟩ => z.elim
  | cont => exact h.elim fun _ ⟨_, _, z⟩ => z.elim
  | next =>
    obtain ⟨_, H', J, q⟩ := h
    exact ⟨.non, H', J.os, J.bare, J.base, J.hok, rfl, q⟩
  | ret u =>
    obtain ⟨v, _, H', J, rv, q⟩ := h
    exact ⟨v, H', J.os, J.bare, J.base, J.hok, rv, q⟩
/-- .. from which no exception leaves -/
theorem fnQ_ok {k : Nat} {f : Addr} {x qual : Str} {st : Stmt} {fd : FuncData} {N ps : List Str} {sp : Sp} (F : Fun K x qual st f fd) (S : FnScope N ps (defScope st))
    (len : ∀ vs H Q E, sp vs H Q E → vs.length = ps.length)
    (body : ∀ (cdv : Value) (A : Around) (outer : List Env) (s : Shared) (H : Hp) (vs : List V) (Q : VK) (E : XK), A.guards = some [] →
      Room k (A.deeper (envOfC qual (defScope st) s.heap.objs.size f cdv)) → sp vs H Q E →
        ∃ t, PSs (cxOf CX0 P w K mg base N qual (defScope st) f cdv A outer s H E).nox (defBody st) t ∧ t { nx := fun _ H' => Q .non H', rt := Q } (start N vs) H) :
    FnQ P w K mg base CX0 (k + 1) f fd ps sp := fnQ_of F S len fun cdv A outer s H vs Q E hg hr hsp =>
  let ⟨t, h, q⟩ := body cdv A outer s H vs Q E hg hr hsp
  ⟨t, h.nox, q⟩
end
/-! ### a call of such a def -/
section
variable {X : Cx} {CX : CXT} {k : Nat} {f : Addr} {fd : FuncData} {ps : List Str} {sp : Sp} {dvs : List V} {ds : List Value} {E : XK} {x : Str} {p pos : Pos} {e : Expr} {es : List Expr} {t : TA}
theorem pe_callQ (hg0 : X.A.guards = some []) (F : FnQ X.prog X.w X.K X.mg X.base CX k f fd ps sp) (hr : Room k X.A) (hg : Gl X x) (hm : X.mg x = some (.ref f)) (hk : PySem.W.keepIn X.K (.ref f) = true)
    (hb : Binds X.K fd ps ds) (hd : Vals dvs ds) (hx : Passes CX X E) (ha : PA X (e :: es) t) (hdb : (x == ("__debug__" : Str)) = false := by decide)
    (he : starEach (e :: es) X.env = (false, eval e X.env) :: starEach es X.env := by rfl) (hpl : (backTo pos (starEach es X.env)).any (·.1) = false := by rfl) :
    PE X (.Call (.Name x p) (e :: es) [] pos) (tCall sp dvs E t) := by
  refine ⟨fun pins s σ H Q I h => wpAny_Call_Name_kw (ld_glob I hg hm ?_ hdb)⟩
  refine PySem.W.callWith_K (h₀ := X.base) I.ok.mod.kin hk (thn (ha.run pos pins s σ H _ I h) ?_) he hpl
  rintro us s1 ⟨vs, H1, I1, r, q⟩
  refine ⟨I1.kIn, wpAny_call ?_⟩
  have all : Vals (vs ++ dvs) (us ++ ds) := r.append hd
  have many : (us ++ ds).length = ps.length := all.length.symm.trans (F.len _ _ _ _ q)
  refine codeAny_mono (F.run X.A X.stack s1 H1 ⟨us, []⟩ _ _ Q E hg0 hr I1.env0 (hb s1 us I1.kIn many) all q) ?_
  intro res s2 hq
  match res, hq with
  | .ok (.ret u), hq => exact I1.after hq
  | .error er, hq => exact hx pins σ H1 s1 er s2 I1 hq
  | .ok .next, hq => exact hq.elim
  | .ok .brk, hq => exact hq.elim
  | .ok .cont, hq => exact hq.elim
end
/-! ### the law's call -/
section
variable {P : Program} {w : World} {K : PySem.W.Frag} {mg mb : Str → Option Value} {k : Nat} {fa a : Addr} {fd : FuncData} {x : Str} {sp : Sp} {s₁ : Shared} {vs : List Value} {ns : List Int}
abbrev Good (s₁ : Shared) (r : Result) (s' : Shared) : Prop := r = .ok (.ret (.bool true)) ∧ OldK s₁.heap s'.heap ∧ s'.os = s₁.os ∧ AllBare s'.gens
/-- from an abstract heap in which at most the script is known -/
theorem call_at {H : Hp} (KX : K.In s₁.heap) (hns : s₁.heap.Ns mainGlobals mg) (hb : s₁.heap.Ns builtinsNs mb) (hbb : ∀ x : Str, x ≠ "__name__" → mb x = bootBuiltins x) (hlim : s₁.heap.NoLimit) (hg : s₁.gens = #[])
    (ha : s₁.heap.get? a = some { cls := .type "list", data := .seq vs.toArray }) (hr : Room k callerA)
    (F : ∀ base : Heap, K.In base → base.Ns mainGlobals mg → FnQ P w K mg base CX0 k fa fd [x] sp) (hbind : ∀ (s : Shared) (u : Value), BindsTo s fd ⟨[u], []⟩ [(x, u)])
    (hO : Only H) (hA : ∀ b, H b ≠ none → b = a) (hK : H a ≠ none → K.lookup a = none) (hok : HOk P w H s₁.heap) (hsp : sp [.ref a] H (fun v _ => v = .bl true) fun _ _ _ => False) :
    codeAny (model P w) callerA (.call (.ref fa) ⟨[.ref a], []⟩) (Good s₁) s₁ := by
  have un : ∀ b, b ≠ a → H b = none := fun b hb => Classical.byContradiction fun z => hb (hA b z)
  have dictUn : ∀ {b : Addr} {o : Obj} {es : Array DictEntry} {ep : Nat}, s₁.heap.get? b = some o → o.data = .dict es ep → H b = none := by
    intro b o es ep e d
    refine un b fun z => ?_
    rw [z, ha] at e
    cases e
    cases d
  have ns : ∀ {b : Addr} {m : Str → Option Value}, s₁.heap.Ns b m → (hidT s₁.heap H).Ns b m := by
    rintro b m ⟨o, es, ep, e, d, r⟩
    exact ⟨o, es, ep, hidT_get e (dictUn e d), d, r⟩
  have hKb : K.In (hidT s₁.heap H) := by
    intro b o e
    refine hidT_get (KX b o e) ?_
    by_cases hb : b = a
    · exact Classical.byContradiction fun z => by
        have q := hK (by rw [← hb]; exact z)
        rw [← hb, e] at q
        cases q
    · exact un b hb
  have hM : Mod K mg (hidT s₁.heap H) := ⟨hKb, ns hns, ⟨mb, ns hb, hbb⟩, hlim.imp fun mc h => ⟨ns h.1, h.2⟩⟩
  have e0 : Env0 P w K mg (hidT s₁.heap H) callerA [] s₁ H :=
    ⟨rfl, hM, fun b o e => of_hidT e, Nat.le_of_eq (hidT_size _ _), trivial, fun b hb => absurd (show b ∈ ([] : List Addr) from hb) List.not_mem_nil, hok, .of_eq hg⟩
  refine codeAny_mono ((F _ hKb (ns hns)).run callerA [] s₁ H ⟨[.ref a], []⟩ [.ref a] [.ref a] _ _ rfl hr e0 (hbind s₁ (.ref a)) (.cons rfl .nil) hsp) ?_
  intro r s' h
  match r, h with
  | .error e, h => exact h.elim
  | .ok .next, h => exact h.elim
  | .ok .brk, h => exact h.elim
  | .ok .cont, h => exact h.elim
  | .ok (.ret u), ⟨v, H', os, bare, u1, hok', rv, q⟩ =>
    obtain rfl : v = .bl true := q
    obtain rfl : u = .bool true := rv
    refine ⟨rfl, OldK.of_keep fun b o e => ?_, os, bare⟩
    rcases hO b with z | ⟨ob, xs, z⟩
    · exact u1.keep b o e z (show b ∉ ([] : List Addr) from List.not_mem_nil) List.not_mem_nil
    · have e1 := (hok b _ z).1
      have e2 := (hok' b _ (u1.frzs b ob _ z)).1
      exact e2.trans (e1.symm.trans e)
theorem call_law (KX : K.In s₁.heap) (hns : s₁.heap.Ns mainGlobals mg) (hb : s₁.heap.Ns builtinsNs mb) (hbb : ∀ x : Str, x ≠ "__name__" → mb x = bootBuiltins x) (hlim : s₁.heap.NoLimit) (hg : s₁.gens = #[])
    (ha : s₁.heap.get? a = some { cls := .type "list", data := .seq vs.toArray }) (hi : IntsAre vs ns) (hl : ns.length ≤ sizeLine) (hr : Room k callerA)
    (F : ∀ base : Heap, K.In base → base.Ns mainGlobals mg → FnQ P w K mg base CX0 k fa fd [x] sp) (hbind : ∀ (s : Shared) (u : Value), BindsTo s fd ⟨[u], []⟩ [(x, u)])
    (hsp : ∀ H : Hp, Only H → SqL K H a (ns.map V.int) → sp [.ref a] H (fun v _ => v = .bl true) fun _ _ _ => False) :
    codeAny (model P w) callerA (.call (.ref fa) ⟨[.ref a], []⟩) (Good s₁) s₁ := by
  have rv := vals_ints hi
  cases hk : K.lookup a with
  | some o =>
    have e : o = { cls := .type "list", data := .seq vs.toArray } := Option.some.inj ((KX a o hk).symm.trans ha)
    subst e
    have O : Only fun _ => none := fun _ => .inl rfl
    refine call_at (H := fun _ => none) KX hns hb hbb hlim hg ha hr F hbind O (fun b z => absurd rfl z) (fun z => absurd rfl z) (fun b u z => nomatch z) (hsp _ O (.inr ?_))
    exact ⟨_, vs.toArray, _, hk, rfl, rfl, rfl, by rw [List.size_toArray, hi.length]; exact hl, rv⟩
  | none =>
    let H : Hp := fun b => if b = a then some (.frz { cls := .type "list", data := .seq vs.toArray } (.lst (ns.map V.int))) else none
    have at_a : H a = some (.frz { cls := .type "list", data := .seq vs.toArray } (.lst (ns.map V.int))) := if_pos rfl
    have off : ∀ b, b ≠ a → H b = none := fun b hb => if_neg hb
    have O : Only H := fun b => by
      by_cases hb : b = a
      · exact .inr ⟨_, _, by rw [hb]; exact at_a⟩
      · exact .inl (off b hb)
    refine call_at (H := H) KX hns hb hbb hlim hg ha hr F hbind O (fun b z => Classical.byContradiction fun q => z (off b q)) (fun _ => hk) (fun b u z => ?_) (hsp H O (.inl (.inr ⟨_, at_a⟩)))
    by_cases hb : b = a
    · subst hb
      rw [at_a] at z
      cases z
      exact ⟨ha, by rw [List.length_map]; exact hl, vs, _, rv, ha⟩
    · rw [off b hb] at z
      cases z
end
/-- what the head leaves, from the law's promise -/
theorem walkQ {l : PySem.W.OpenLaw} {n k : Nat} {q : Program} {loose : List Str} {XP : (Str → Option Value) → Heap → Prop} {YP : World → Heap → Prop} {d : DefRec} {K : Params → PySem.W.Frag} {sp : PySem.W.Frag → Sp} {x : Str}
    (hn : l.most = some n) (hn2 : n ≤ sizeLine) (hdf : d.params.defaults = []) (hr : Room k callerA) (hY : ∀ (w : World) (h : Heap), YP w h → (K w.params).In h)
    (F : ∀ (w : World) (mg : Str → Option Value) (fa : Addr) (h : Heap), (K w.params).In h → h.Ns mainGlobals mg → mg d.name = some (.ref fa) →
      ∃ fd : FuncData, (∀ (s : Shared) (u : Value), BindsTo s fd ⟨[u], []⟩ [(x, u)]) ∧
        ∀ base : Heap, (K w.params).In base → base.Ns mainGlobals mg → FnQ l.prog w (K w.params) mg base CX0 k fa fd [x] (sp (K w.params)))
    (hsp : ∀ (K : PySem.W.Frag) (H : Hp) (a : Addr) (ns : List Int), ns.length ≤ n → Only H → SqL K H a (ns.map V.int) → sp K [.ref a] H (fun v _ => v = .bl true) fun _ _ _ => False) :
    PySem.W.WalkO q loose XP YP l.row.toRowW d [] (fun f vs => PySem.call f vs) := by
  refine Att.attach_call hn hdf ?_
  intro w s₀ s₁ mg mb fa o pm cd doc a vs ns G Y ho hd hcd hmg hobj hints hlen hg
  obtain ⟨fd, hb, hF⟩ := F w mg fa _ (hY w _ Y) G.T.g hmg
  exact call_law (hY w _ Y) G.T.g G.T.b G.T.builtins G.T.nolimit hg hobj hints (Nat.le_trans hlen hn2) hr hF hb fun H hO hS => hsp _ H a ns hlen hO hS
end Ver
namespace Ver
open PySem PySem.Spec PyProof.Rows L2
/-! ### types -/
def tyName : PyData → String
  | .none => "NoneType"
  | .bool _ => "bool"
  | .int _ => "int"
  | .str _ => "str"
  | .list _ => "list"
  | .tuple _ => "tuple"
  | .dict _ => "dict"
theorem Da.ty {K : PySem.W.Frag} {N : Addr → Prop} {H : Hp} : ∀ {v : V} {d : PyData}, Da N H v d → TyX K H v (.type (tyName d))
  | _, _, .non => .base .non
  | _, _, .bl b => .base (.bl b)
  | _, _, .int i => .base (.int i)
  | _, _, .str x => .base (.str x)
  | _, _, .lst e _ _ _ => .base (.lst e)
  | _, _, .tup e _ _ => .base (.tup e)
  | _, _, .emp e _ => .base (.dK e)
def isStr : PyData → Bool
  | .str _ => true
  | _ => false
def isTup : PyData → Bool
  | .tuple _ => true
  | _ => false
def isInt : PyData → Bool
  | .int _ => true
  | .bool _ => true
  | _ => false
def isBool : PyData → Bool
  | .bool _ => true
  | _ => false
section
variable {K : PySem.W.Frag}
theorem kit_str (d : PyData) : PySem.W.kitOne K (.type (tyName d)) (.type "str") = some (isStr d) := by
  cases d <;> (dsimp only [tyName, isStr]; exact kit_ty (by decide +kernel))
theorem kit_tuple (d : PyData) : PySem.W.kitOne K (.type (tyName d)) (.type "tuple") = some (isTup d) := by
  cases d <;> (dsimp only [tyName, isTup]; exact kit_ty (by decide +kernel))
theorem kit_int (d : PyData) : PySem.W.kitOne K (.type (tyName d)) (.type "int") = some (isInt d) := by
  cases d <;> (dsimp only [tyName, isInt]; exact kit_ty (by decide +kernel))
theorem kit_bool (d : PyData) : PySem.W.kitOne K (.type (tyName d)) (.type "bool") = some (isBool d) := by
  cases d <;> (dsimp only [tyName, isBool]; exact kit_ty (by decide +kernel))
end
section
variable {X : Cx}
/-- the same rules, where it is told last which addresses are left out -/
def rEqE : R2 := fun x y H Q => ∃ N, rEqS N x y H Q
theorem op_eqE (hu : X.A.units < cLine) : OpR X (compareOp .Eq) rEqE := fun pins s σ H x y v u Q I rx ry ⟨N, h⟩ => op_eqS (N := N) hu pins s σ H x y v u Q I rx ry h
theorem call_reprE {n k : Nat} (hg : X.A.guards = some []) (hu : X.A.units + (k + 1) < cLine) (hn : n ≤ sizeLine) :
    CallR X (.builtin "repr") (fun xs H Q => ∃ N v d, xs = [v] ∧ Da N H v d ∧ Fit n k d ∧ Q (.str d.shown) H) :=
  fun pins s σ H xs us Q I r ⟨N, h⟩ => call_reprD (N := N) hg hu hn pins s σ H xs us Q I r h
end
end Ver
/-! Ver, 7: own exceptions over ValueError or LookupError whose __init__ says Base.__init__(self, text): made, asked, read -/
namespace Ver
open PySem PySem.Spec PyProof.Rows L2
open PySem.W (excInitIn excOver findIn hasDictIn keepIn subIn typeIn)
/-- what the built-in base gives -/
structure ExB (bmB : List Value) (newId initId : String) : Prop where
  ex : ∃ B, ExcBaseFacts B newId initId bmB ∧ StoreFacts B bmB "object.__setattr__" "object"
theorem exB_VE : ExB [.type "ValueError", .type "Exception", .type "BaseException", .type "object"] "ValueError.__new__" "ValueError.__init__" := ⟨_, F.excBase_ValueError, F.store_ValueError⟩
theorem exB_LE : ExB [.type "LookupError", .type "Exception", .type "BaseException", .type "object"] "LookupError.__new__" "LookupError.__init__" := ⟨_, F.excBase_LookupError, F.store_LookupError⟩
/-- what the top says of such a class -/
structure ExC (K : PySem.W.Frag) (C : Addr) (bmB : List Value) (newId : String) : Prop where
  ini : excInitIn K C bmB newId = true
  ovr : excOver K C bmB = true
  dic : hasDictIn K C = true
  sa : findIn K (.ref C) "__setattr__" = some (some (.builtin "object.__setattr__"))
  kC : keepIn K (.ref C) = true
  ga : findIn K (.ref C) "__getattribute__" = some (some (.builtin "BaseException.__getattribute__"))
  gg : findIn K (.ref C) "__getattr__" = some none
  exC : subIn K (.ref C) (.type "BaseException") = some true
  tyC : typeIn K (.ref C) = some (.type "type")
  ha : findIn K (.ref C) "__class__" = some (some (.builtin "object.__class__"))
  hm : PySem.W.mroIn K C (.type "object") = some true
section
variable {prog : Program} {w : World} {A : Around} {E : Value → Shared → Prop} {R : Result → Shared → Prop} {hp : Heap} {g : Array GenState} {d : Drawn} {t : Nat} {os : OsState}
theorem cls_dict {K : PySem.W.Frag} {C : Addr} (h : hasDictIn K C = true) : ∃ cd, PySem.W.clsIn K C = some cd ∧ cd.hasDict = true := by
  obtain ⟨cd, h1, h2⟩ := PySem.W.any_some h
  exact ⟨cd, h1, h2⟩
/-- x.name = v on an exception without a dict as yet -/
theorem store_first {K : PySem.W.Frag} {bmB : List Value} {newId initId : String} {name : Str} {tk : Tok} {v : Value} {x C : Addr} {fv : Array Value} (B : ExB bmB newId initId) (T : ExC K C bmB newId) (X : K.In hp) (hx : hp.get? x = some { cls := .ref C, data := .fields fv })
    (ha : findIn K (.ref C) name = some none)
    (hq : ∀ h' tk' dx, (∀ b o, b ≠ x → hp.get? b = some o → h'.get? b = some o) → hp.objs.size ≤ dx → dx ≠ x → h'.get? x = some { cls := .ref C, dict := some dx, data := .fields fv } →
      h'.Ns1 dx (fun y => if y = name then some v else none) → R (.ok (.ret .none)) ⟨h', g, d, tk', os⟩) :
    codeAny (model prog w) A (.call (.builtin "object.__setattr__") ⟨[.ref x, .str name tk, v], []⟩) R ⟨hp, g, d, t, os⟩ := by
  obtain ⟨_, _, SF⟩ := B.ex
  obtain ⟨cd, hcd, hh⟩ := cls_dict T.dic
  have I : PySem.W.InstAt hp x { cls := .ref C, data := .fields fv } C none := ⟨hx, rfl, rfl, trivial⟩
  have apart : x ≠ hp.objs.size := Nat.ne_of_lt (Heap.lt_size hx)
  have look : PySem.W.Looks (model prog w) hp (classData C) cd := PySem.W.looks_clsIn X hcd
  refine PySem.W.osa_openX SF X I T.ovr (NoAttr.taker (show NoAttr K C name from ha)) fun b => ?_
  obtain ⟨nm, bs, mro, ns, qn, hd, sn, sb, ab, col, del⟩ := cd
  dsimp only at hh
  subst hh
  unfold Builtin.ObjectAttr.storeInOwnDict Builtin.ObjectAttr.ownDictForStores
  repeat (first | with_reducible refine PySem.HandSPX.store_in_new ?_ ?_ | with_reducible refine wpAny_loadPart_at hx ?_ | with_reducible refine look.at ?_ | wp_step)
  · exact ⟨_, #[], _, (Heap.get?_update_ne _ _ _ _ apart.symm).trans (Heap.get?_push_at rfl rfl), rfl, fun e he => absurd he (by simp), fun _ => rfl⟩
  · intro h' tk' hn' hs
    have hx₁ : (hp.push { cls := .type "dict", data := .dict #[] }).get? x = some { cls := .ref C, data := .fields fv } := Heap.get?_push_of_some _ hx
    refine hq h' tk' hp.objs.size (fun b o hb ho => ?_) (Nat.le_refl _) apart.symm ((hs.2 x apart).trans (Heap.get?_update_self _ hx₁ rfl)) hn'
    exact (hs.2 b (Nat.ne_of_lt (Heap.lt_size ho))).trans ((Heap.get?_update_ne _ _ _ _ hb).trans (Heap.get?_push_of_some _ ho))
end
section
variable {X : Cx} {pins : List (Addr × Obj)} {σ : L2.St} {H : Hp} {s : Shared} {a C dx : Addr} {f : Str} {y : V} {u : Value} {A : Around} {bmB : List Value} {newId initId : String}
/-- the tree of an exception's class, of its own -/
theorem exC_obj (T : ExC X.K C bmB newId) (I : Inv X pins σ H s) : ∃ nm N qn bs bm hdct sn sub ab col dd k0 k1 k2 k3 k5,
    s.heap.get? C = some (excClassObj nm qn C N bs bm hdct sn sub ab col dd k0 k1 k2 k3 k5 newId) ∧ ∀ Y : String, bm.contains (.type Y) = bmB.contains (.type Y) := PySem.W.excInit_of I.kIn T.ini
/-- self.f = y, the only one -/
theorem set_first {E : Value → Shared → Prop} {Q : Unit → Shared → Prop} (B : ExB bmB newId initId) (T : ExC X.K C bmB newId) (I : Inv X pins σ H s) (e : H a = some (exo a C none)) (hno : findIn X.K (.ref C) f = some none) (ry : RelV y u)
    (h : ∀ dx s', H dx = none → dx ≠ a → Inv X pins σ (upd (upd H dx (exd dx [(f, y)])) a (exo a C (some dx))) s' → Q () s') : wpAny (model X.prog X.w) A (setAttr (.ref a) f u) Q E s := by
  obtain ⟨t1, ho⟩ := exo_at I.hok e
  obtain ⟨hp, g, d, t, os⟩ := s
  refine PySem.W.set_plain I.kIn (ox := { cls := .ref C, dict := none, data := .fields #[.ref t1, .none, .none, .none, .bool false, .none] }) (od := none) ⟨ho, rfl, rfl, trivial⟩ T.sa ?_
  refine store_first B T I.kIn ho hno ?_
  intro h' tk' dx keep new apart hx hn
  have free : H dx = none := I.hok.fresh new
  have old : ∀ {b : Addr} {o : Obj}, hp.get? b = some o → b ≠ dx := fun {b o} q => Nat.ne_of_lt (Nat.lt_of_lt_of_le (Heap.lt_size q) new)
  have offA : ∀ {b : Addr}, H b = none → b ≠ a := fun {b} n z => by
    rw [z, e] at n
    cases n
  have U : Un X.fs [] H (upd (upd H dx (exd dx [(f, y)])) a (exo a C (some dx))) hp h' :=
    ⟨fun b o q n _ _ => keep b o (offA n) q, fun b o q n _ _ => ⟨o.slots, keep b o (offA n) q⟩,
     fun b o q n _ => by rw [upd_ne (offA n), upd_ne (old q)]; exact n,
     fun b o q _ => (Classical.em (b = a)).elim (fun z => ⟨_, (congrArg h'.get? z).trans hx⟩) fun z => ⟨o, keep b o z q⟩,
     fun b xs q => by rw [upd_ne (at_ne e q exo_tup), upd_ne (ne_of_none q free)]; exact q,
     fun b o v q => by rw [upd_ne (at_ne e q exo_frz), upd_ne (ne_of_none q free)]; exact q,
     fun b ps q => ⟨#[], by rw [upd_ne (at_ne e q exo_tbl), upd_ne (ne_of_none q free), q]; simp⟩⟩
  refine h dx _ free apart (I.un (t' := tk') U fun b o q => ?_)
  rcases Classical.em (b = a) with hb | hb
  · subst hb
    obtain rfl := Option.some.inj (upd_same.symm.trans q)
    exact exo_ok hx
  · rw [upd_ne hb] at q
    rcases Classical.em (b = dx) with hd | hd
    · subst hd
      obtain rfl := Option.some.inj (upd_same.symm.trans q)
      exact exd_ok hn (relO_put (fs := []) ry fun g => trivial)
    · rw [upd_ne hd] at q
      refine (I.hok b o q).stay (fun c v hc z => keep c v ?_ z) (fun c hc => ?_) fun c xs hc => ?_
      · rcases hc with hc | hc
        · rwa [hc]
        · exact at_ne e hc exo_own
      · rw [upd_ne (at_ne e hc exo_own), upd_ne (ne_of_none hc free)]
        exact hc
      · rw [upd_ne (at_ne e hc exo_tup), upd_ne (ne_of_none hc free)]
        exact hc
/-- Base.__init__(self, ..): nothing of it is told -/
theorem base_init {E : Value → Shared → Prop} {Q : Value → Shared → Prop} {us : List Value} (B : ExB bmB newId initId) (T : ExC X.K C bmB newId) (I : Inv X pins σ H s) (e : H a = some (exo a C none)) (hl : us.length ≤ sizeLine) (h : ∀ s', Inv X pins σ H s' → Q .none s') :
    wpAny (model X.prog X.w) A (call (.builtin initId) (.ref a :: us)) Q E s := by
  obtain ⟨_, FB, _⟩ := B.ex
  obtain ⟨nm, N, qn, bs, bm, hdct, sn, sub, ab, col, dd, k0, k1, k2, k3, k5, hC, hT⟩ := exC_obj T I
  obtain ⟨t1, ho⟩ := exo_at I.hok e
  obtain ⟨hp, g, d, t, os⟩ := s
  refine wpAny_call (PySem.HandSPX.init_base FB hT hC ho hl fun h' t2 keep hx => ?_)
  have same : upd H a (exo a C none) = H := by
    funext b
    rcases Classical.em (b = a) with hb | hb
    · rw [hb, upd_same, e]
    · exact upd_ne hb
  have J := I.write (t' := t) (x := a) (e := a) (o := exo a C none) (by rw [e]; exact trivial) (.inl rfl) keep ⟨_, hx⟩ (exo_ok hx)
  exact h _ (same ▸ J)
end
/-! ### readings and rules -/
/-- Base.__init__(self, ..) -/
def tBI (K : PySem.W.Frag) (bmB : List Value) (newId : String) (ta : TA) : TE := fun σ H Q => ta σ H fun vs H1 => ∃ (a C : Addr) (ws : List V), vs = .ref a :: ws ∧ ws.length ≤ 1000 ∧ ExC K C bmB newId ∧ H1 a = some (exo a C none) ∧ Q .non H1
/-- self.f = e, the only one -/
def tSt1 (K : PySem.W.Frag) (bmB : List Value) (newId : String) (f : Str) (to te : TE) : TS := fun D σ H => te σ H fun y H1 => to σ H1 fun x H2 => ∃ a C : Addr, x = .ref a ∧ ExC K C bmB newId ∧ findIn K (.ref C) f = some none ∧ H2 a = some (exo a C none) ∧
  ∀ dx, H2 dx = none → dx ≠ a → D.nx σ (upd (upd H2 dx (exd dx [(f, y)])) a (exo a C (some dx)))
/-- C(e, ..) as a value -/
def tMkX (C : Addr) (sp : Sp) (dvs : List V) (ta : TA) : TE := fun σ H Q => ta σ H fun vs H1 => vs.length ≤ 1000 ∧ ∀ a, H1 a = none → sp (.ref a :: (vs ++ dvs)) (upd H1 a (exo a C none)) (fun v H2 => v = .non ∧ Q (.ref a) H2) (fun _ _ _ => False)
/-- the base of own exceptions, a class of the top: what reading its __init__ asks -/
structure BaseC (K : PySem.W.Frag) (G : Addr) (initId : String) : Prop where
  sp : PySem.W.specialIn K (.ref G) "__getattribute__" = some (some (.builtin "type.__getattribute__"))
  rd : PySem.W.readsIn K G (.type "type") = true
  fc : PySem.W.findCls K (.ref G) (.type "type") "__init__" = some (.val (.builtin initId))
section
variable {X : Cx} {o e : Expr} {es : List Expr} {to te : TE} {ta : TA} {f x : Str} {p p' p1 p2 pos : Pos} {bmB : List Value} {newId initId : String} {G : Addr}
theorem pe_binit {pl : Sem Bool} (B : ExB bmB newId initId) (hg : Gl X x) (hm : X.mg x = some (.ref G)) (T : BaseC X.K G initId) (hh : PySem.W.handedIn (.builtin initId) = true) (hty : typeOf (.builtin initId) = pure (.type "wrapper_descriptor")) (ha : PA X (e :: es) ta)
    (hdb : (x == ("__debug__" : Str)) = false := by decide)
    (hc : eval (.Call (.Attribute (.Name x p1) "__init__" p2) (e :: es) [] pos) X.env = (do
      let ov ← eval (.Name x p1) X.env
      standAt p2.atName
      let (f, first) ← holding [ov] (getMethod ov "__init__" pl)
      callWith pos f first (backTo pos (starEach (e :: es) X.env)) (backToKw pos (keywordEach [] X.env))) := by rfl)
    (he : starEach (e :: es) X.env = (false, eval e X.env) :: starEach es X.env := by rfl) (hpl : (backTo pos (starEach es X.env)).any (·.1) = false := by rfl) :
    PE X (.Call (.Attribute (.Name x p1) "__init__" p2) (e :: es) [] pos) (tBI X.K bmB newId ta) := by
  refine ⟨fun pins s σ H Q I h => ?_⟩
  refine PySem.W.methodCall_KW (ld_glob I hg hm ?_ hdb) hc
  refine PySem.W.method_cls I.kIn T.sp (PySem.W.cls_value I.kIn T.rd T.fc hh ?_)
  show wpAny _ _ (callWith pos (Value.builtin initId) [] (backTo pos (starEach (e :: es) X.env)) []) _ _ _
  refine callWith_method1 (thn (ha.run pos pins _ σ H _ (I.tok _) h) ?_) he hpl
  rintro us s1 ⟨vs, H1, I1, r1, a, C, ws, rfl, hl, TC, ea, q⟩
  cases r1 with
  | @cons _ u0 _ ur ra rw' =>
    obtain rfl : u0 = Value.ref a := ra
    refine base_init B TC I1 ea ?_ fun s' J => ⟨.non, H1, J, rfl, q⟩
    rw [← Paired.length rw']
    exact Nat.le_trans hl (by decide)
/-- self.f = e -/
theorem ps_st1 (B : ExB bmB newId initId) (ho : PE X o to) (he : PE X e te) (hs : swapsWith e (some (.Attribute o f p')) pos.line X.env = pure false := by rfl) : PS X (.Assign [.Attribute o f p'] e pos) (tSt1 X.K bmB newId f to te) := by
  refine ⟨fun pins s σ H D I h => ?_⟩
  refine plainObj_wpAny_Assign_Attribute (thn (he.run pins s σ H _ I h) ?_) hs
  rintro v s1 ⟨y, H1, I1, r1, q1⟩
  refine thn (ho.run pins s1 σ H1 _ I1 q1) ?_
  rintro u s2 ⟨x, H2, I2, r2, a, C, rfl, T, hno, ea, q⟩
  obtain rfl : u = Value.ref a := r2
  exact set_first B T I2 ea hno r1 fun dx s' n ne J => ⟨σ, _, J, q dx n ne⟩
/-- making is one callee more -/
theorem run_mkx {CX : CXT} {C fI : Addr} {k : Nat} {fd : FuncData} {ps : List Str} {sp : Sp} {ds : List Value} {dvs : List V} {pins : List (Addr × Obj)} {σ : L2.St} {H1 : Hp} {s1 : Shared} {vs : List V} {us : List Value} {Q : VK} (B : ExB bmB newId initId) (T : ExC X.K C bmB newId)
    (iC : findIn X.K (.ref C) "__init__" = some (some (.ref fI))) (tI : typeIn X.K (.ref fI) = some (.type "function")) (F1 : FnOk X.prog X.w X.K X.mg X.base CX k fI fd ps sp) (hr : Room (k + 1) X.A) (hb : Binds X.K fd ps ds) (hd : Vals dvs ds) (hx : Passes CX X (fun _ _ _ => False))
    (I1 : Inv X pins σ H1 s1) (r1 : Vals vs us) (hz : vs.length ≤ 1000)
    (q1 : ∀ a, H1 a = none → sp (.ref a :: (vs ++ dvs)) (upd H1 a (exo a C none)) (fun v H2 => v = .non ∧ Q (.ref a) H2) (fun _ _ _ => False)) : wpAny (model X.prog X.w) X.A (call (.ref C) us) (EP X pins σ Q) X.xe s1 := by
  obtain ⟨_, FB, _⟩ := B.ex
  obtain ⟨nm, N, qn, bs, bm, hdct, sn, sub, ab, col, dd, k0, k1, k2, k3, k5, hC, hT⟩ := exC_obj T I1
  have li := PySem.W.looks_findIn (M := model X.prog X.w) I1.kIn iC
  have lb := fun self => PySem.W.bind_fn (M := model X.prog X.w) I1.kIn self tI
  obtain ⟨hp, g, dr, tk, os⟩ := s1
  have next : hp.objs.size ≤ hp.objs.size + 1 := Nat.le_succ _
  have q2 := q1 (hp.objs.size + 1) (I1.hok.fresh next)
  have keep : ∀ b o, hp.get? b = some o → ((hp.push (PySem.W.kdv_tup us)).push (PySem.HandSPX.excO C hp.objs.size)).get? b = some o := fun b o e => Heap.get?_push_of_some _ (Heap.get?_push_of_some _ e)
  have there : ((hp.push (PySem.W.kdv_tup us)).push (PySem.HandSPX.excO C hp.objs.size)).get? (hp.objs.size + 1) = some (PySem.HandSPX.excO C hp.objs.size) := by heap_get
  have I2 : Inv X pins σ (upd H1 (hp.objs.size + 1) (exo (hp.objs.size + 1) C none)) ⟨(hp.push (PySem.W.kdv_tup us)).push (PySem.HandSPX.excO C hp.objs.size), g, dr, tk, os⟩ :=
    I1.laid (t' := tk) (a := hp.objs.size + 1) (o := exo (hp.objs.size + 1) C none) keep next (exo_ok there)
  have r2 : Vals (V.ref (hp.objs.size + 1) :: (vs ++ dvs)) (Value.ref (hp.objs.size + 1) :: (us ++ ds)) := .cons rfl (r1.append hd)
  have many : (Value.ref (hp.objs.size + 1) :: us ++ ds).length = ps.length := r2.length.symm.trans (F1.len _ _ _ _ q2)
  have small : us.length ≤ sizeLine := by
    rw [← Paired.length r1]
    exact Nat.le_trans hz (by decide)
  refine wpAny_call (PySem.HandSPX.call_own FB hT hC li lb small (codeAny_mono (F1.run _ X.stack _ _ ⟨Value.ref (hp.objs.size + 1) :: us, []⟩ _ _ _ (fun _ _ _ => False) (hr.make C us []) (I2.env0.make C us []) (hb _ (Value.ref (hp.objs.size + 1) :: us) I2.kIn many) r2 q2) ?_))
  intro r s' hq
  match r, hq with
  | .error er, hq => exact hx pins σ _ _ er s' I2 hq
  | .ok .next, hq => exact hq.elim
  | .ok .brk, hq => exact hq.elim
  | .ok .cont, hq => exact hq.elim
  | .ok (.ret u), hq =>
    obtain ⟨v, H2, J, rv, rfl, q⟩ := I2.after hq
    exact ⟨rv, .ref _, H2, J, rfl, q⟩
/-- C() -/
theorem pe_mkx0 {CX : CXT} {C fI : Addr} {k : Nat} {fd : FuncData} {ps : List Str} {sp : Sp} {ds : List Value} {dvs : List V} (B : ExB bmB newId initId) (T : ExC X.K C bmB newId) (iC : findIn X.K (.ref C) "__init__" = some (some (.ref fI)))
    (tI : typeIn X.K (.ref fI) = some (.type "function")) (F1 : FnOk X.prog X.w X.K X.mg X.base CX k fI fd ps sp) (hr : Room (k + 1) X.A) (hb : Binds X.K fd ps ds) (hd : Vals dvs ds) (hx : Passes CX X (fun _ _ _ => False)) (hg : Gl X x) (hm : X.mg x = some (.ref C))
    (hdb : (x == ("__debug__" : Str)) = false := by decide) : PE X (.Call (.Name x p) [] [] pos) (tMkX C sp dvs tNil) := by
  refine ⟨fun pins s σ H Q I h => ?_⟩
  refine wpAny_Call_Name_kw (ld_glob I hg hm ?_ hdb)
  exact PySem.W.callWith_K0 I.kIn T.kC (run_mkx (us := []) B T iC tI F1 hr hb hd hx I .nil (by decide) h.2)
/-- C(e, ..) -/
theorem pe_mkx1 {CX : CXT} {C fI : Addr} {k : Nat} {fd : FuncData} {ps : List Str} {sp : Sp} {ds : List Value} {dvs : List V} (B : ExB bmB newId initId) (T : ExC X.K C bmB newId) (iC : findIn X.K (.ref C) "__init__" = some (some (.ref fI)))
    (tI : typeIn X.K (.ref fI) = some (.type "function")) (F1 : FnOk X.prog X.w X.K X.mg X.base CX k fI fd ps sp) (hr : Room (k + 1) X.A) (hb : Binds X.K fd ps ds) (hd : Vals dvs ds) (hx : Passes CX X (fun _ _ _ => False)) (hg : Gl X x) (hm : X.mg x = some (.ref C))
    (ha : PA X (e :: es) ta) (hdb : (x == ("__debug__" : Str)) = false := by decide)
    (he : starEach (e :: es) X.env = (false, eval e X.env) :: starEach es X.env := by rfl) (hpl : (backTo pos (starEach es X.env)).any (·.1) = false := by rfl) : PE X (.Call (.Name x p) (e :: es) [] pos) (tMkX C sp dvs ta) :=
  ⟨fun pins s σ H Q I h => wpAny_Call_Name_kw (ld_glob I hg hm (PySem.W.callWith_K (h₀ := X.base) I.ok.mod.kin T.kC (thn (ha.run pos pins s σ H _ I h) fun us s1 ⟨vs, H1, I1, r1, hz, q1⟩ => ⟨I1.kIn, run_mkx B T iC tI F1 hr hb hd hx I1 r1 hz q1⟩) he hpl) hdb)⟩
end
/-! ### asking and reading -/
/-- what the top says of object.__class__ -/
structure ClsAttr (K : PySem.W.Frag) : Prop where
  hn : PySem.W.specialIn K (.builtin "object.__class__") "__get__" = some (some (.builtin "getset_descriptor.__get__"))
  ht : PySem.W.takesIn K (.builtin "object.__class__") = some true
/-- isinstance(x, c), x an exception of ours -/
def rIsX (K : PySem.W.Frag) : List V → Hp → VK → Prop := fun xs H Q => ∃ (bmB : List Value) (newId : String) (a C : Addr) (d : Option Addr) (c : V) (u : Value) (b : Bool), xs = [.ref a, c] ∧ ClsV c u ∧ ExC K C bmB newId ∧ H a = some (exo a C d) ∧
  (∀ dx, d = some dx → ∃ fs, H dx = some (exd dx fs)) ∧ PySem.W.kitOne K (.ref C) u = some b ∧ Q (.bl b) H
section
variable {X : Cx} {bmB : List Value} {newId : String}
/-- an exception of ours as an instance -/
theorem exo_inst {pins : List (Addr × Obj)} {σ : L2.St} {H : Hp} {s : Shared} {a C : Addr} {d : Option Addr} (I : Inv X pins σ H s) (e : H a = some (exo a C d)) (hd : ∀ dx, d = some dx → ∃ fs, H dx = some (exd dx fs)) : ∃ ox od, PySem.W.InstAt s.heap a ox C od := by
  obtain ⟨t1, ho⟩ := exo_at I.hok e
  cases d with
  | none => exact ⟨_, none, ho, rfl, rfl, trivial⟩
  | some dx =>
    obtain ⟨fs, ed⟩ := hd dx rfl
    obtain ⟨mA, ⟨oD, _, _, hD, _⟩, _⟩ := exd_at I.hok ed
    exact ⟨_, some oD, ho, rfl, rfl, hD⟩
theorem call_isX (A : ClsAttr X.K) : CallR X (.builtin "isinstance") (rIsX X.K) := by
  rintro pins s σ H xs us Q I r ⟨bmB, newId, a, C, d, c, u, b, rfl, k, T, ea, hd, e, q⟩
  obtain ⟨u1, u2, rfl, r1, r2⟩ := vals2 r
  obtain rfl := k.eq r2
  obtain rfl : u1 = Value.ref a := r1
  obtain ⟨ox, od, J⟩ := exo_inst I ea hd
  obtain ⟨cd, hcd, _⟩ := cls_dict T.dic
  exact PySem.W.kia_one (PySem.W.kitx_exc (by rw [hcd]; rfl) T.ga T.gg T.exC T.ha A.hn A.ht T.hm) I.kIn J e (fun z => nomatch z) fun tk => ⟨.bl b, H, I.tok tk, rfl, q⟩
/-- e.f, e an exception of ours -/
def tXf (K : PySem.W.Frag) (f : Str) (te : TE) : TE := fun σ H Q => te σ H fun x H1 => ∃ (bmB : List Value) (newId : String) (a C d : Addr) (fs : List (Str × V)) (v : V), x = .ref a ∧ ExC K C bmB newId ∧ findIn K (.ref C) f = some none ∧ H1 a = some (exo a C (some d)) ∧ H1 d = some (exd d fs) ∧ fs.lookup f = some v ∧ Q v H1
theorem pe_xfld {e : Expr} {te : TE} {f : Str} {pos : Pos} (he : PE X e te) (hb : attributeBase e f X.env (eval e X.env) = eval e X.env := by rfl) : PE X (.Attribute e f pos) (tXf X.K f te) := by
  refine ⟨fun pins s σ H Q I h => attr_of hb (thn (he.run pins s σ H _ I h) ?_)⟩
  rintro u s1 ⟨x, H1, I1, rx, bmB, newId, a, C, d, fs, v, rfl, T, hno, ea, ed, l, q⟩
  obtain rfl : u = Value.ref a := rx
  obtain ⟨t1, ho⟩ := exo_at I1.hok ea
  obtain ⟨mA, hns, hr⟩ := exd_at I1.hok ed
  obtain ⟨od, hod, hl⟩ := lookIn_ns hns
  obtain ⟨u, hu, ru⟩ := RelO.some_of (v := v) (o := mA f) (by rw [← l]; exact hr f)
  have J : PySem.W.InstAt s1.heap a { cls := .ref C, dict := some d, data := .fields #[.ref t1, .none, .none, .none, .bool false, .none] } C (some od) := ⟨ho, rfl, rfl, hod⟩
  exact PySem.HandSPX.exc_get I1.kIn J T.ga T.gg T.exC (PySem.W.findObj_own T.dic hno rfl (by rw [hl, hu])) (handed_of ru) ⟨v, H1, I1.tok _, ru, q⟩
theorem pe_xfldK {K : PySem.W.Frag} {e : Expr} {te : TE} {f : Str} {pos : Pos} (hK : X.K = K) (he : PE X e te) (hb : attributeBase e f X.env (eval e X.env) = eval e X.env := by rfl) : PE X (.Attribute e f pos) (tXf K f te) := by
  subst hK
  exact pe_xfld he hb
end
end Ver
/-! Ver, 8: which classes an own exception is of; texts shown; an exception's object with at most one field -/
namespace Ver
open PySem PySem.Spec PyProof.Rows L2
open PySem.W (clsIn typeIn kitOne kitCls kitMeta subIn mroIn findIn)
/-- the classes of C, itself ahead -/
def mroAt (K : PySem.W.Frag) (C : Addr) : Option (List Value) := (clsIn K C).map (·.mro)
theorem sub_mro {K : PySem.W.Frag} {C : Addr} {m : List Value} {v : Value} (h : mroAt K C = some (.ref C :: m)) : subIn K (.ref C) v = some ((Value.ref C :: m).contains v) := by
  obtain ⟨cd, h1, h2⟩ := Option.map_eq_some_iff.mp h
  show mroIn K C v = _
  unfold mroIn
  rw [h1, Option.bind_some, h2]
  rfl
theorem kit_own {K : PySem.W.Frag} {C D : Addr} {m : List Value} (h : mroAt K C = some (.ref C :: m)) (hD : (clsIn K D).isSome = true) (tD : typeIn K (.ref D) = some (.type "type")) :
    kitOne K (.ref C) (.ref D) = some ((Value.ref C :: m).contains (.ref D)) := by
  unfold kitOne
  split
  · rename_i e
    have e' : Value.ref C = Value.ref D := beq_iff_eq.mp e
    rw [← e', List.contains_cons, beq_self_eq_true, Bool.true_or]
  · show kitCls K (.ref C) (.ref D) = _
    unfold kitCls
    dsimp only
    rw [if_pos (by rw [hD, tD]; rfl), sub_mro h]
theorem kit_bi {K : PySem.W.Frag} {C : Addr} {T : String} {m : List Value} (h : mroAt K C = some (.ref C :: m)) (hT : kitMeta T = true) : kitOne K (.ref C) (.type T) = some ((Value.ref C :: m).contains (.type T)) := by
  unfold kitOne
  rw [if_neg (by show ¬ (Value.ref C == Value.type T) = true; intro e; cases (beq_iff_eq.mp e))]
  show kitCls K (.ref C) (.type T) = _
  unfold kitCls
  dsimp only
  rw [if_pos hT, sub_mro h]
/-- the object at a: of the class C, with at most one field -/
def Exn (H : Hp) (a C : Addr) : Option (Str × V) → Prop
  | none => H a = some (exo a C none)
  | some (f, v) => ∃ dx, H a = some (exo a C (some dx)) ∧ H dx = some (exd dx [(f, v)])
theorem Exn.same {H H' : Hp} {a C : Addr} (k : Same H H') : ∀ {o : Option (Str × V)}, Exn H a C o → Exn H' a C o
  | none, h => k _ _ h
  | some _, ⟨dx, h1, h2⟩ => ⟨dx, k _ _ h1, k _ _ h2⟩
theorem Exn.is {H : Hp} {a C : Addr} : ∀ {o : Option (Str × V)}, Exn H a C o → ∃ d, H a = some (exo a C d) ∧ ∀ dx, d = some dx → ∃ fs, H dx = some (exd dx fs)
  | none, h => ⟨none, h, fun _ z => nomatch z⟩
  | some _, ⟨dx, h1, h2⟩ => ⟨some dx, h1, fun y z => by cases z; exact ⟨_, h2⟩⟩
section
variable {X : Cx}
/-- repr(x), x a text -/
theorem call_reprT : CallR X (.builtin "repr") (fun xs H Q => ∃ x : Str, xs = [.str x] ∧ (reprText x).length ≤ sizeLine ∧ Q (.str (reprText x)) H) := by
  rintro pins s σ H xs us Q I r ⟨x, rfl, hz, q⟩
  obtain ⟨u, rfl, t, rfl⟩ := vals1 r
  exact PySem.P.repr_of_str ⟨.str _, H, I.tok _, ⟨_, rfl⟩, q⟩ hz
end
section
variable {X : Cx}
/-- tuple(x), x a list or a tuple: in one way -/
theorem call_tupU : CallR X (.type "tuple") (fun xs H Q => ∃ p ys, xs = [.ref p] ∧ (H p = some (.lst ys) ∨ H p = some (.tup ys)) ∧ ∀ t H', Same H H' → H' t = some (.tup ys) → (t = p ∨ H t = none) → Q (.ref t) H') := by
  rintro pins s σ H xs us Q I r ⟨p, ys, rfl, h, q⟩
  refine call_tuple_of pins s σ H _ us Q I r ⟨p, ys, rfl, ?_⟩
  rcases h with h | h
  · exact .inl ⟨SqL.of h, fun l hl => q l _ (same_new hl) upd_same (.inr hl)⟩
  · exact .inr ⟨SqT.of h, q p H (Same.refl H) h (.inl rfl)⟩
end
theorem fresh {H : Hp} {t : Addr} (n : H t = none) (o : HO) : ∃ H', upd H t o = H' ∧ Same H H' ∧ H' t = some o := ⟨_, rfl, same_new n, upd_same⟩
/-- what can be told in a text of at most a thousand signs -/
def TellOk : PyData → Prop
  | .str x => x.length ≤ 1000 ∧ (reprText x).length ≤ 1000
  | .bool _ => False
  | _ => True
/-- told(x): some text -/
def spTold : Sp := fun vs H Q _ => ∃ N v d, vs = [v] ∧ Da N H v d ∧ TellOk d ∧ ∀ t : Str, t.length ≤ 1000 → Q (.str t) H
theorem toldInt {i : Int} (h1 : -1000000 < i) (h2 : i < 1000000) : i.natAbs.log2 < 1920 ∧ (Str.ofString (toString i)).length ≤ 1000 := by
  have h3 : i.natAbs < 1000000 := by omega
  have h4 : i.natAbs.log2 < 20 := by
    rcases Nat.eq_zero_or_pos i.natAbs with z | z
    · rw [z]
      decide
    · exact (Nat.log2_lt (by omega)).mpr (by omega)
  refine ⟨by omega, ?_⟩
  have e := PySem.int_text_length_le (a := i) (k := 20) (by decide) h4
  rw [PySem.ofString_length]
  omega
theorem Das.fetch {N : Addr → Prop} {H : Hp} : ∀ {vs : List V} {ds : List PyData} {i : Nat} {v : V}, Das N H vs ds → vs[i]? = some v → ∃ d, ds[i]? = some d ∧ Da N H v d
  | _, _, _, _, .nil, e => by simp at e
  | _, _, 0, _, .cons h _, e => by
    simp at e
    subst e
    exact ⟨_, rfl, h⟩
  | _, _, i + 1, _, .cons _ t, e => by
    obtain ⟨v, h1, h2⟩ := Das.fetch (i := i) t (by simpa using e)
    exact ⟨v, by simpa using h1, h2⟩
theorem sum_le2 (l : List Str) (h : ∀ t ∈ l, t.length ≤ 1000) : (l.map (·.length)).sum ≤ 1000 * l.length := by
  induction l with
  | nil => simp
  | cons t r ih =>
    have h1 := h t (List.mem_cons_self ..)
    have h2 := ih fun u hu => h u (List.mem_cons_of_mem _ hu)
    simp only [List.map_cons, List.sum_cons, List.length_cons]
    omega
theorem join_le2 (a : Str) (ha : a.length ≤ 1000) (l : List Str) (h : ∀ t ∈ l, t.length ≤ 1000) : (Txt.join a l).length ≤ 2000 * l.length := by
  have e : (Txt.join a l).length ≤ (l.map (·.length)).sum + l.length * a.length := by
    unfold Txt.join
    rw [StrLaws.glued_eq_join]
    exact StrLaws.join_length_le a l
  have s : (l.map (·.length)).sum ≤ 1000 * l.length := by
    clear e
    induction l with
    | nil => simp
    | cons t r ih =>
      have h1 := h t (List.mem_cons_self ..)
      have h2 := ih fun u hu => h u (List.mem_cons_of_mem _ hu)
      simp only [List.map_cons, List.sum_cons, List.length_cons]
      omega
  have m : l.length * a.length ≤ l.length * 1000 := Nat.mul_le_mul_left _ ha
  omega
end Ver
/-! Ver, 9: repr of a list of plain data, wherever the list itself stands -/
namespace Ver
open PySem PySem.Spec PyProof.Rows L2
section
variable {X : Cx}
/-- repr(x), x a list of plain data, not empty; nothing is asked of where it stands -/
def rReprL (n k : Nat) : List V → Hp → VK → Prop := fun xs H Q => ∃ (N : Addr → Prop) (a : Addr) (vs : List V) (ds : List PyData), xs = [.ref a] ∧ H a = some (.lst vs) ∧ vs ≠ [] ∧ Das N H vs ds ∧ Fit n k (.list ds) ∧ Q (.str (PyData.list ds).shown) H
theorem call_reprL {n k : Nat} (hg : X.A.guards = some []) (hu : X.A.units + (k + 1) < cLine) (hn : n ≤ sizeLine) : CallR X (.builtin "repr") (rReprL n k) := by
  rintro pins s σ H xs us Q I r ⟨N, a, vs, ds, rfl, e, ne, hD, ⟨f1, f2, f3⟩, q⟩
  obtain ⟨u, rfl, ru⟩ := vals1 r
  cases ru
  obtain ⟨its, rv, ⟨o, m, ho, hc, _, hd⟩, _⟩ := I.list (SqL.of e)
  obtain ⟨as, h1, h2⟩ := hD.reads I rv
  have whole : Reads s.heap (.ref a) (.list ds) _ := .list ho hc hd h1
  have short : (listText (PyData.shownAll ds)).length ≤ sizeLine := Nat.le_trans f2 hn
  have able : PyData.showableAll ds = true := by simpa [PyData.showable] using f1
  obtain ⟨bs, most, parts⟩ := ReprAllK.of_readsAll (prog := X.prog) (w := X.w) h1 able (fun _ => h2) fun t ht => Nat.le_trans (listText_mem_le ht) short
  have apart : a ∉ bs := not_mem_of_deeper whole (by show PyData.depthAll ds < PyData.depthAll ds + 1; omega) most
  have deep : PyData.depthAll ds + 1 ≤ k := f3
  match its, rv, hd, parts with
  | [], rv, _, _ => exact (ne (by cases rv; rfl)).elim
  | x :: l, rv, hd, parts =>
    refine call_repr_slot (by omega) ⟨o, ho, hc⟩ F.slot_list_repr.toG (call_list_reprK ho hc hd apart (by simpa using parts.length_eq) (fun i y z => parts.item i y (by simpa using z)) hg (fun b _ => Clear.nil b)
      (by show X.A.units + 1 + (PyData.depthAll ds + 1) < cLine; omega) (fun _ _ z => z) (fun h' t tk kk => ⟨_, _, rfl, .str _, H, I.kept kk, ⟨_, rfl⟩, q⟩) short)
end
end Ver
/-! K00, 1: the draws -/
namespace K00
open PySem PySem.Spec PyProof.Rows L2 Ver
def top (i : Nat) : Stmt := PySem.Challenge.pw_shapeguess_k00_errors.main.body.getD i (.Pass ⟨0, 0, 0, 0⟩)
abbrev sSource : Stmt := top 23
abbrev sPick : Stmt := top 24
/-- the draws' dict -/
def dsrc (c : Addr) (l m t : Int) : List (Key × V) := [(Sum.inr "cells", .ref c), (Sum.inr "left", .int l), (Sum.inr "mixed", .int m), (Sum.inr "turn", .int t)]
/-- the draws' state: a dict at p, its list at c -/
def Src (p c : Addr) (H : Hp) : Prop := p ≠ c ∧ ∃ (ns : List Int) (l m t : Int), H p = some (.dK (dsrc c l m t)) ∧ H c = some (.lst (ns.map V.int)) ∧ ns.length ≤ 63
section
variable {H : Hp} {p c : Addr} {l m t : Int} (h : H p = some (.dK (dsrc c l m t)))
include h
theorem get_cells : DGet H p (.str "cells") (some (.ref c)) := DGet.k (k := Sum.inr "cells") h
theorem get_left : DGet H p (.str "left") (some (.int l)) := DGet.k (k := Sum.inr "left") h
theorem get_mixed : DGet H p (.str "mixed") (some (.int m)) := DGet.k (k := Sum.inr "mixed") h
theorem get_turn : DGet H p (.str "turn") (some (.int t)) := DGet.k (k := Sum.inr "turn") h
theorem put_left (z : Int) : DPut H p (.str "left") (.int z) (upd H p (.dK (dsrc c z m t))) := DPut.k (k := Sum.inr "left") (v := .int z) h (by show 4 < sizeLine; decide)
theorem put_turn (z : Int) : DPut H p (.str "turn") (.int z) (upd H p (.dK (dsrc c l m z))) := DPut.k (k := Sum.inr "turn") (v := .int z) h (by show 4 < sizeLine; decide)
end
/-- the two addresses that draws change -/
def Off (p c : Addr) : Addr → Prop := fun a => a = p ∨ a = c
/-- len(x), x a list or a tuple -/
def rLen (K : PySem.W.Frag) : List V → Hp → VK → Prop := fun xs H Q => ∃ p ys, xs = [V.ref p] ∧ (SqL K H p ys ∨ SqT K H p ys) ∧ Q (.int ys.length) H
theorem int_at {ns : List Int} {i : Nat} {y : V} (h : (ns.map V.int)[i]? = some y) : ∃ z, y = .int z := by
  rw [List.getElem?_map] at h
  obtain ⟨z, _, e⟩ := Option.map_eq_some_iff.mp h
  exact ⟨z, e.symm⟩
theorem merge4 (a b c d : V) : mergeK [] [(Sum.inr "cells", a), (Sum.inr "left", b), (Sum.inr "mixed", c), (Sum.inr "turn", d)] = ([(Sum.inr "cells", a), (Sum.inr "left", b), (Sum.inr "mixed", c), (Sum.inr "turn", d)] : List (Key × V)) := by
  rfl
def spSource (K : PySem.W.Frag) : Sp := fun vs H Q _ => ∃ (a : Addr) (ns : List Int), vs = [.ref a] ∧ SqL K H a (ns.map V.int) ∧ ns.length ≤ 63 ∧ ∀ p c H', Same H H' → H p = none → H c = none → Src p c H' → Q (.ref p) H'
def spPick : Sp := fun vs H Q _ => ∃ (p c : Addr) (many : Int), vs = [.ref p, .int many] ∧ Src p c H ∧ 1 ≤ many ∧ many ≤ 1000 ∧
  ∀ (r : Int) (H' : Hp), 0 ≤ r → r < many → Keep (Off p c) H H' → Src p c H' → Q (.int r) H'
structure Txt (mg : Str → Option Value) : Prop where
  len : mg "len" = none
  int : mg "int" = none
  abs : mg "abs" = none
  range : mg "range" = none
section
variable {P : Program} {w : World} {K : PySem.W.Frag} {mg : Str → Option Value} {base : Heap}
theorem scS : FnScope ["script", "mixed", "cell", "cells", "k"] ["script"] (defScope sSource) := ⟨rfl, rfl, rfl, by decide +kernel, rfl, by decide +kernel, by decide +kernel⟩
theorem ok_source {f : Addr} {fd : FuncData} (F : Fun K "_law_source" "_law_source" sSource f fd) (T : Txt mg) : FnOk P w K mg base CX0 1 f fd ["script"] (spSource K) := by
  refine F.ok scS (fun vs H Q E h => ?_) (fun cdv A outer s H vs Q E hr h => ?_)
  · obtain ⟨a, ns, rfl, _⟩ := h
    rfl
  · obtain ⟨a, ns, rfl, hS, hl, k⟩ := h
    refine ⟨_, pss_cons (ps_set (i := 1) scS.nd rfl (.inl rfl) pe_int)
      (pss_cons (ps_for PassesOwn.never rfl (pi_list (pv 0)) (pg_name (i := 2) scS.nd rfl (.inl rfl))
        (pss_one (ps_set (i := 1) scS.nd rfl (.inl rfl) (pe_op op_mod (pe_callTy call_int1 (by rfl) T.int (by decide +kernel)
          (pa_cons (pe_op op_add (pe_op op_add (pe_op op_mul (pv 1) pe_int) (pe_op op_mul (pv 2) pe_int)) pe_int) pa_nil)) pe_int))))
      (pss_cons (ps_set (i := 3) scS.nd rfl (.inr rfl) (pe_lc (own := [("cell", 2)]) (g := gName 2) (tt := tYes) rfl scS.nd (pi_list (pv 0))
        (blkOk_by (N := ["script", "mixed", "cell", "cells", "k"]) (sc := defScope sSource) (by decide +kernel)) (fun _ _ _ _ _ => pg_name (i := 2) scS.nd rfl (.inl rfl)) (fun _ _ _ _ _ => pts_nil)
        (fun _ _ _ _ _ => pe_callB call_abs (by rfl) T.abs (by decide +kernel) (pa_cons (pv 2) pa_nil))))
      (pss_one (ps_ret (pe_disp (pps_cons pe_str (pe_lc (own := [("k", 4)]) (g := gName 4) (tt := tYes) rfl scS.nd
          (pi_range1 (by rfl) T.range (pa_cons (pe_callB call_len_seq (by rfl) T.len PySem.boot_len (pa_cons (pv 3) pa_nil)) pa_nil))
          (blkOk_by (N := ["script", "mixed", "cell", "cells", "k"]) (sc := defScope sSource) (by decide +kernel)) (fun _ _ _ _ _ => pg_name (i := 4) scS.nd rfl (.inl rfl)) (fun _ _ _ _ _ => pts_nil)
          (fun _ _ _ _ _ => pe_ix (r := rIxL K) ix_list (pv 3) (pe_op op_sub (pe_op op_sub (pe_callB (r := rLen K) call_len_seq (by rfl) T.len PySem.boot_len (pa_cons (pv 3) pa_nil)) pe_int) (pv 4)) (fun _ _ => rfl)))
        (pps_cons pe_str pe_int (pps_cons pe_str (pv 1) (pps_cons pe_str pe_int pps_nil)))) (by rfl) (by rfl) (fun z => by cases z) (by decide)))))), ?_⟩
    -- mixed = 11; for cell in script
    refine ⟨_, rfl, a, rfl, ⟨_, hS⟩, for_list (K := K) (a := a) (xs := ns.map V.int) (fun i σ H2 => ∃ m v, σ = [some (.ref a), some (.int m), v, none, none] ∧ H2 = H ∧ 0 ≤ m ∧ m < 2147483629)
      ⟨11, none, rfl, rfl, by decide, by decide⟩ (fun i σ H2 _ ⟨_, _, _, e, _⟩ => e ▸ hS) ?_ ?_⟩
    · rintro i y σ H2 hi ⟨m, v, rfl, rfl, h0, h1⟩
      obtain ⟨z, rfl⟩ := int_at hi
      refine ⟨_, rfl, _, _, rfl, rfl, .inl ⟨by omega, by omega⟩, _, rfl, _, _, rfl, rfl, .inr ⟨by decide, by decide⟩, _, _, rfl, rfl, _, _, rfl, rfl, .inl ⟨_, rfl, _, _, rfl, rfl, by show (0 : Int) < 2147483629; decide, ?_⟩⟩
      exact ⟨_, _, rfl, rfl, Int.emod_nonneg _ (by decide), Int.emod_lt_of_pos _ (by decide)⟩
    · rintro σ H2 ⟨m, v, rfl, rfl, h0, h1⟩
      -- digits = [abs(cell) for cell in script]
      refine ⟨_, rfl, a, rfl, ⟨_, hS⟩, fun D nD => lc_list (K := K) (a := a) (xs := ns.map V.int) (fun i H3 => Same H2 H3 ∧ ∃ ms : List Int, H3 D = some (.lst (ms.map V.int)) ∧ ms.length = i)
        ⟨same_new nD, [], upd_same, rfl⟩ (fun i H3 _ ⟨sm, _⟩ => sm.seq hS) ?_ ?_⟩
      · rintro i y H3 hi ⟨sm, ms, hD, hm⟩
        obtain ⟨z, rfl⟩ := int_at hi
        have hil : i < ns.length := by
          have := (List.getElem?_eq_some_iff.mp hi).1
          rwa [List.length_map] at this
        refine ⟨rfl, _, rfl, _, rfl, _, hD, by rw [List.length_map]; exact small1000 (by omega), ?_⟩
        exact ⟨fun b o e => by rw [upd_ne (ne_of_none e nD)]; exact sm b o e, ms ++ [_], by rw [upd_same, List.map_append]; rfl, by rw [List.length_append, hm]; rfl⟩
      · rintro H3 ⟨sm, ms, hD, hm⟩
        rw [List.length_map] at hm
        -- the display
        intro p np
        have nDp : D ≠ p := ne_of_none hD np
        have hD' : (upd H3 p (.dK [])) D = some (.lst (ms.map V.int)) := by
          rw [upd_ne nDp]
          exact hD
        refine ⟨_, rfl, _, _, rfl, .inl (SqL.of hD'), _, rfl, by rw [List.length_map]; omega, by rw [List.length_map]; omega, fun C nC => ?_⟩
        have nCp : p ≠ C := ne_of_none (upd_same : (upd H3 p (.dK [])) p = _) nC
        have nCD : D ≠ C := ne_of_none hD' nC
        refine lc_range (lo := 0) (fun i H4 => Same (upd H3 p (.dK [])) H4 ∧ ∃ ks : List Int, H4 C = some (.lst (ks.map V.int)) ∧ ks.length = i) ⟨same_new nC, [], upd_same, rfl⟩ ?_ ?_
        · rintro i H4 hi ⟨sm4, ks, hC, hk⟩
          have hD4 := sm4 _ _ hD'
          have hi' : i < ms.length := by
            rw [List.length_map] at hi
            omega
          have hlt : ms.length - 1 - i < (ms.map V.int).length := by
            rw [List.length_map]
            omega
          refine ⟨rfl, _, rfl, _, rfl, _, _, rfl, .inl (SqL.of hD4), _, _, rfl, rfl, _, rfl, _, _, rfl, rfl, _, _, _, (ms.map V.int)[ms.length - 1 - i], rfl, rfl, SqL.of hD4, ?_, _, hC, by rw [List.length_map]; exact small1000 (by omega), ?_⟩
          · have e : (((ms.map V.int).length : Nat) : Int) - 1 - (0 + (i : Int)) = ((ms.length - 1 - i : Nat) : Int) := by
              rw [List.length_map]
              omega
            rw [e]
            exact atI_nat (List.getElem?_eq_getElem hlt)
          · refine ⟨fun b o e => by rw [upd_ne (ne_of_none e nC)]; exact sm4 b o e, ks ++ [ms[ms.length - 1 - i]], ?_, by rw [List.length_append, hk]; rfl⟩
            rw [upd_same, List.map_append, List.getElem_map]
            rfl
        · rintro H4 ⟨sm4, ks, hC, hk⟩
          rw [List.length_map] at hk
          have hp4 := sm4 _ _ (upd_same : (upd H3 p (.dK [])) p = _)
          refine ⟨_, rfl, hp4, [(Sum.inr "cells", .ref C), (Sum.inr "left", .int 1), (Sum.inr "mixed", .int m), (Sum.inr "turn", .int 0)], rfl, by show 4 ≤ 15; decide, ?_⟩
          have up : Same H3 (upd H3 p (.dK [])) := same_new np
          have s0 : Same H2 H4 := sm.trans (up.trans sm4)
          refine k p C _ (fun b o e => ?_) (sm.free np) (sm.free (up.free nC)) ⟨nCp, ks, 1, m, 0, ?_, ?_, by omega⟩
          · rw [upd_ne (ne_of_none e (sm.free np))]
            exact s0 b o e
          · rw [upd_same, merge4]
            rfl
          · rw [upd_ne nCp.symm]
            exact hC
theorem scP : FnScope ["source", "many", "cells", "left", "turn", "mixed"] ["source", "many"] (defScope sPick) := ⟨rfl, rfl, rfl, by decide +kernel, rfl, by decide +kernel, by decide +kernel⟩
theorem fmod_in {a b : Int} (hb : 1 ≤ b) : 0 ≤ a.fmod b ∧ a.fmod b < b := by
  rw [Int.fmod_eq_emod_of_nonneg _ (by omega)]
  exact ⟨Int.emod_nonneg _ (by omega), Int.emod_lt_of_pos _ (by omega)⟩
/-- a change at p or c -/
theorem keep_at {p c a : Addr} {H H' : Hp} {o : HO} (ha : Off p c a) (k : Keep (Off p c) H H') : Keep (Off p c) H (upd H' a o) := fun b x e n => by
  rw [upd_ne (fun z => n (by rw [z]; exact ha))]
  exact k b x e n
theorem ok_pick {f : Addr} {fd : FuncData} (F : Fun K "_law_pick" "_law_pick" sPick f fd) (T : Txt mg) : FnOk P w K mg base CX0 1 f fd ["source", "many"] spPick := by
  refine F.ok scP (fun vs H Q E h => ?_) (fun cdv A outer s H vs Q E hr h => ?_)
  · obtain ⟨p, c, many, rfl, _⟩ := h
    rfl
  · obtain ⟨p, c, many, rfl, ⟨npc, ns, l, m, t, hp, hc, hns⟩, h1, h2, k⟩ := h
    have hu := hu_of hr
    refine ⟨_, pss_cons (ps_if (pt_cmpR op_lt (pv 1) pe_int (nomark _)) (pss_one (ps_ret pe_int)) pss_nil)
      (pss_cons (ps_set (i := 2) scP.nd rfl (.inl rfl) (pe_dget hu (pv 0) pe_str (fun _ _ => rfl)))
      (pss_cons (ps_while PassesOwn.never (PW.pt (pw_and (pt_cmpR op_lt (pe_dget hu (pv 0) pe_str (fun _ _ => rfl)) pe_int (nomark _))
          (pw_and1 (pt_cmpR op_gt (pe_callB (r := rLen K) call_len_seq (by rfl) T.len PySem.boot_len (pa_cons (pv 2) pa_nil)) pe_int (nomark _)))))
        (pss_one (ps_dput hu (pv 0) pe_str (pe_bm0 PySem.F.plainAttrs_list PySem.F.slot_list_pop PySem.F.type_list_pop mt_pop (pv 2)) rfl)))
      (pss_cons (ps_set (i := 3) scP.nd rfl (.inl rfl) (pe_dget hu (pv 0) pe_str (fun _ _ => rfl)))
      (pss_cons (ps_if (pt_cmpR op_gt (pv 3) pe_int (nomark _))
        (pss_cons (ps_dput hu (pv 0) pe_str (pe_op op_fdivN (pv 3) (pv 1)) rfl)
          (pss_one (ps_ret (pe_op op_modN (pe_callTy call_int1 (by rfl) T.int (by decide +kernel) (pa_cons (pv 3) pa_nil)) (pv 1))))) pss_nil)
      (pss_cons (ps_dput hu (pv 0) pe_str (pe_op op_add (pe_dget hu (pv 0) pe_str (fun _ _ => rfl)) pe_int) rfl)
      (pss_cons (ps_set (i := 4) scP.nd rfl (.inl rfl) (pe_dget hu (pv 0) pe_str (fun _ _ => rfl)))
      (pss_cons (ps_set (i := 5) scP.nd rfl (.inl rfl) (pe_op op_mod (pe_callTy call_int1 (by rfl) T.int (by decide +kernel)
        (pa_cons (pe_op op_add (pe_dget hu (pv 0) pe_str (fun _ _ => rfl)) (pe_op op_mul (pv 4) pe_int)) pa_nil)) pe_int))
      (pss_cons (ps_set (i := 5) scP.nd rfl (.inl rfl) (pe_op op_mod (pe_callTy call_int1 (by rfl) T.int (by decide +kernel)
        (pa_cons (pe_op op_add (pe_op op_mul (pv 5) (pv 5)) (pe_op op_mul (pv 4) pe_int)) pa_nil)) pe_int))
      (pss_one (ps_ret (pe_op op_modN (pe_callTy call_int1 (by rfl) T.int (by decide +kernel) (pa_cons (pe_op op_fdiv (pv 5) pe_int) pa_nil)) (pv 1)))))))))))), ?_⟩
    -- if many < 2: return 0
    refine ⟨_, rfl, _, _, rfl, rfl, _, rfl, ite2 (fun _ => ?_) (fun _ => ?_)⟩
    · exact k 0 H (Int.le_refl _) (by omega) .refl ⟨npc, ns, l, m, t, hp, hc, hns⟩
    -- digits = source['cells']; while ..
    refine ⟨_, rfl, p, _, rfl, get_cells hp, fun j σ H2 => ∃ (ns : List Int) (l : Int), j = ns.length ∧ ns.length ≤ 63 ∧ σ = [some (.ref p), some (.int many), some (.ref c), none, none, none] ∧
      H2 p = some (.dK (dsrc c l m t)) ∧ H2 c = some (.lst (ns.map V.int)) ∧ Keep (Off p c) H H2, ⟨_, ns, l, rfl, hns, rfl, hp, hc, .refl⟩, ?_⟩
    rintro j σ H2 ⟨ns, l, rfl, hns, rfl, hp, hc, kp⟩
    refine ⟨_, rfl, p, _, rfl, get_left hp, _, _, rfl, rfl, _, rfl, ite2 (fun _ => ⟨_, rfl, _, _, rfl, .inl (SqL.of hc), _, _, rfl, rfl, _, rfl, ite2 (fun hpos => ?_) ?_⟩) ?_⟩
    · -- source['left'] = digits.pop()
      have hn0 : 0 < ns.length := by simpa using hpos
      have last : (ns.map V.int)[(ns.map V.int).length - 1]? = some (.int ns[ns.length - 1]) := by
        rw [List.length_map, List.getElem?_map, List.getElem?_eq_getElem (by omega)]
        rfl
      have hp' : (upd H2 c (.lst (ns.map V.int).dropLast)) p = some (.dK (dsrc c l m t)) := by
        rw [upd_ne npc]
        exact hp
      refine ⟨_, fun _ _ h => h, _, rfl, .inl ⟨rfl, _, SqL.of hc⟩, c, _, _, rfl, rfl, hc, last, _, rfl, p, _, rfl, put_left hp' _, ns.length - 1, by omega, ns.dropLast, _, by rw [List.length_dropLast], by rw [List.length_dropLast]; omega, rfl, upd_same, ?_, ?_⟩
      · rw [upd_ne npc.symm, upd_same, List.map_dropLast]
      · exact keep_at (.inl rfl) (keep_at (.inr rfl) kp)
    all_goals
      intro _
      -- left = source['left']; if left > 1
      refine ⟨_, rfl, p, _, rfl, get_left hp, _, rfl, _, _, rfl, rfl, _, rfl, ite2 (fun _ => ?_) (fun _ => ?_)⟩
      · refine ⟨_, rfl, _, rfl, _, _, rfl, rfl, ⟨by omega, by omega⟩, _, rfl, p, _, rfl, put_left hp _, _, rfl, .inl ⟨_, rfl, _, rfl, _, _, rfl, rfl, by omega, ?_⟩⟩
        exact k _ _ (fmod_in h1).1 (fmod_in h1).2 (keep_at (.inl rfl) kp) ⟨npc, ns, _, _, _, upd_same, by rw [upd_ne npc.symm]; exact hc, by omega⟩
      · -- source['turn'] = source['turn'] + 1; turn; mixed, twice
        have hp2 : (upd H2 p (.dK (dsrc c l m (t + 1)))) p = some (.dK (dsrc c l m (t + 1))) := upd_same
        have low : 0 ≤ (m + (t + 1) * 104729) % 998244353 := Int.emod_nonneg _ (by decide)
        have high : (m + (t + 1) * 104729) % 998244353 < 998244353 := Int.emod_lt_of_pos _ (by decide)
        refine ⟨_, rfl, p, _, rfl, get_turn hp, _, _, rfl, rfl, _, rfl, p, _, rfl, put_turn hp _, _, rfl, p, _, rfl, get_turn hp2, ?_⟩
        refine ⟨_, rfl, p, _, rfl, get_mixed hp2, _, rfl, _, _, rfl, rfl, .inr ⟨by decide, by decide⟩, _, _, rfl, rfl, .inl ⟨_, rfl, _, _, rfl, rfl, by show (0 : Int) < 998244353; decide, ?_⟩⟩
        refine ⟨_, rfl, _, rfl, _, _, rfl, rfl, .inl ⟨by omega, by omega⟩, _, rfl, _, _, rfl, rfl, .inr ⟨by decide, by decide⟩, _, _, rfl, rfl, .inl ⟨_, rfl, _, _, rfl, rfl, by show (0 : Int) < 2147483647; decide, ?_⟩⟩
        refine ⟨_, rfl, _, _, rfl, rfl, ⟨by decide, by decide⟩, .inl ⟨_, rfl, _, rfl, _, _, rfl, rfl, by omega, ?_⟩⟩
        exact k _ _ (fmod_in h1).1 (fmod_in h1).2 (keep_at (.inl rfl) kp) ⟨npc, ns, _, _, _, upd_same, by rw [upd_ne npc.symm]; exact hc, by omega⟩
end
end K00
/-! K00, 2: told, and the inits of the eighteen classes -/
namespace K00
open PySem PySem.Spec PyProof.Rows L2 Ver
open PySem.W (findIn)
abbrev sTold : Stmt := top 1
def ini (i : Nat) : Stmt := match top i with
  | .ClassDef _ _ _ b _ _ _ _ _ _ _ => b.getD 0 (.Pass ⟨0, 0, 0, 0⟩)
  | _ => .Pass ⟨0, 0, 0, 0⟩
structure Glob (mg : Str → Option Value) : Prop where
  len : mg "len" = none
  isinstance : mg "isinstance" = none
  str : mg "str" = none
  int : mg "int" = none
  repr : mg "repr" = none
  tuple : mg "tuple" = none
/-- a def of the top, by its name -/
structure Def (K : PySem.W.Frag) (mg : Str → Option Value) (x : Str) (f : Addr) : Prop where
  gl : mg x = some (.ref f)
  kp : PySem.W.keepIn K (.ref f) = true
abbrev bmV : List Value := [.type "ValueError", .type "Exception", .type "BaseException", .type "object"]
abbrev bmL : List Value := [.type "LookupError", .type "Exception", .type "BaseException", .type "object"]
/-- what the inits lean on -/
structure Up (P : Program) (w : World) (K : PySem.W.Frag) (mg : Str → Option Value) (base : Heap) (G M fT : Addr) (qT : FuncData) : Prop where
  gG : mg "GuessError" = some (.ref G)
  bG : BaseC K G "ValueError.__init__"
  gM : mg "NameMissing" = some (.ref M)
  bM : BaseC K M "LookupError.__init__"
  gT : FnOk P w K mg base CX0 1 fT qT ["value"] spTold
  dT : Def K mg "told" fT
  bT : Binds K qT ["value"] []
theorem cat1000 {x y : Str} (h1 : x.length ≤ 1000) (h2 : y.length ≤ 1000) : (x ++ y).length ≤ sizeLine := by
  rw [PySem.Str.length_append]
  exact Nat.le_trans (Nat.add_le_add h1 h2) (by decide)
theorem hV : PySem.W.handedIn (.builtin "ValueError.__init__") = true := by kernel_rfl
theorem hL : PySem.W.handedIn (.builtin "LookupError.__init__") = true := by kernel_rfl
theorem tV : typeOf (.builtin "ValueError.__init__") = pure (.type "wrapper_descriptor") := by kernel_rfl
theorem tL : typeOf (.builtin "LookupError.__init__") = pure (.type "wrapper_descriptor") := by kernel_rfl
/-- one argument, kept as the only field -/
def spIni (K : PySem.W.Frag) (bmB : List Value) (newId : String) (f : Str) : Sp := fun vs H Q _ => ∃ (N : Addr → Prop) (a C : Addr) (v : V) (d : PyData), vs = [.ref a, v] ∧ H a = some (exo a C none) ∧ ExC K C bmB newId ∧ findIn K (.ref C) f = some none ∧ Da N H v d ∧ TellOk d ∧
  ∀ dx, H dx = none → dx ≠ a → Q .non (upd (upd H dx (exd dx [(f, v)])) a (exo a C (some dx)))
/-- a list or a tuple, kept as a tuple -/
def spIniT (K : PySem.W.Frag) (bmB : List Value) (newId : String) : Sp := fun vs H Q _ => ∃ (N : Addr → Prop) (a C b : Addr) (xs : List V) (ds : List PyData), vs = [.ref a, .ref b] ∧ H a = some (exo a C none) ∧ ExC K C bmB newId ∧ findIn K (.ref C) "path" = some none ∧
  (H b = some (.lst xs) ∨ H b = some (.tup xs)) ∧ Das N H xs ds ∧ (∀ d ∈ ds, TellOk d) ∧ ds.length ≤ 1000 ∧ ∀ t dx H', H' t = some (.tup xs) → (t = b ∨ H t = none) → (∀ c o, c ≠ a → H c = some o → H' c = some o) → H' a = some (exo a C (some dx)) → H' dx = some (exd dx [("path", .ref t)]) → Q .non H'
def spIni0 (K : PySem.W.Frag) (bmB : List Value) (newId : String) : Sp := fun vs H Q _ => ∃ (a C : Addr), vs = [.ref a] ∧ H a = some (exo a C none) ∧ ExC K C bmB newId ∧ Q .non H
section
variable {P : Program} {w : World} {K : PySem.W.Frag} {mg : Str → Option Value} {base : Heap}
theorem scT : FnScope ["value"] ["value"] (defScope sTold) := ⟨rfl, rfl, rfl, by decide +kernel, rfl, by decide +kernel, by decide +kernel⟩
theorem ok_told {f : Addr} {fd : FuncData} (F : Fun K "told" "told" sTold f fd) (T : Glob mg) : FnOk P w K mg base CX0 1 f fd ["value"] spTold := by
  refine F.ok scT (fun vs H Q E h => ?_) (fun cdv A outer s H vs Q E hr h => ?_)
  · obtain ⟨N, v, d, rfl, _⟩ := h
    rfl
  · obtain ⟨N, v, d, rfl, hv, hs, k⟩ := h
    refine ⟨_, pss_cons (ps_if (PW.pt (pw_and (pt_val (pe_callB call_isi (by rfl) T.isinstance (by decide +kernel) (pa_cons (pv 0) (pa_cons (pe_bltn (v := .ty "str") (by rfl) T.str (by decide +kernel) rfl) pa_nil))))
          (pw_and1 (pt_cmpR op_le (pe_callB call_len_str (by rfl) T.len PySem.boot_len (pa_cons (pv 0) pa_nil)) pe_int (nomark _)))))
        (pss_one (ps_ret (pe_callB call_reprT (by rfl) T.repr (by decide +kernel) (pa_cons (pv 0) pa_nil)))) pss_nil)
      (pss_cons (ps_if (PW.pt (pw_and (pt_val (pe_callB call_isi (by rfl) T.isinstance (by decide +kernel) (pa_cons (pv 0) (pa_cons (pe_bltn (v := .ty "int") (by rfl) T.int (by decide +kernel) rfl) pa_nil))))
          (pw_and1 (pt_chain op_lt op_lt (pe_un un_neg pe_int) (pv 0) pe_int))))
        (pss_one (ps_ret (pe_callTy call_str_int (by rfl) T.str (by decide +kernel) (pa_cons (pv 0) pa_nil)))) pss_nil)
      (pss_one (ps_ret pe_str))), ?_⟩
    refine ⟨_, rfl, v, .ty "str", _, _, _, rfl, .ty _, Da.ty hv, kit_str d, _, rfl, ?_⟩
    cases d with
    | str x =>
      cases hv
      obtain ⟨hs1, hs2⟩ := hs
      have e1000 : 1000 ≤ sizeLine := by decide
      refine ⟨_, rfl, x, rfl, Nat.le_trans hs1 e1000, _, _, rfl, rfl, _, rfl, ite2 (fun _ => ?_) (fun _ => ?_)⟩
      · exact ⟨_, rfl, x, rfl, Nat.le_trans hs2 e1000, k _ hs2⟩
      · refine ⟨_, rfl, .str x, .ty "int", _, _, _, rfl, .ty _, .base (.str x), kit_int (.str x), _, rfl, ?_⟩
        exact k _ (by decide)
    | int i =>
      cases hv
      refine ⟨_, rfl, .int i, .ty "int", _, _, _, rfl, .ty _, .base (.int i), kit_int (.int i), _, rfl, ?_⟩
      refine ⟨_, rfl, _, rfl, _, _, rfl, rfl, _, rfl, ?_⟩
      refine ite2 (fun h1 => ⟨_, _, rfl, rfl, _, rfl, ite2 (fun h2 => ?_) (fun _ => ?_)⟩) (fun _ => ⟨_, rfl, ?_⟩)
      · have q := toldInt (of_decide_eq_true h1) (of_decide_eq_true h2)
        exact ⟨_, rfl, i, rfl, q.1, k _ q.2⟩
      · exact k _ (by decide)
      · exact k _ (by decide)
    | bool b => exact hs.elim
    | _ =>
      refine ⟨_, rfl, v, .ty "int", _, _, _, rfl, .ty _, Da.ty hv, kit_int _, _, rfl, ?_⟩
      exact k _ (by decide)
variable {G M fT : Addr} {qT : FuncData}
theorem sc0 : FnScope ["self"] ["self"] (defScope (ini 4)) := ⟨rfl, rfl, rfl, by decide +kernel, rfl, by decide +kernel, by decide +kernel⟩
theorem ok_i0 {f : Addr} {fd : FuncData} (F : Fun K "__init__" "BadPaper.__init__" (ini 4) f fd) (U : Up P w K mg base G M fT qT) : FnOk P w K mg base CX0 2 f fd ["self"] (spIni0 K bmV "ValueError.__new__") := by
  refine F.ok sc0 (fun vs H Q E h => ?_) (fun cdv A outer s H vs Q E hr h => ?_)
  · obtain ⟨a, C, rfl, _⟩ := h
    rfl
  · obtain ⟨a, C, rfl, ha, T, q⟩ := h
    refine ⟨_, pss_one (ps_expr (pe_binit exB_VE (by rfl) U.gG U.bG hV tV (pa_cons (pv 0) (pa_cons pe_str pa_nil)))), ?_⟩
    exact ⟨_, rfl, a, C, _, rfl, by decide, T, ha, q⟩
theorem sc1 : FnScope ["self"] ["self"] (defScope (ini 5)) := ⟨rfl, rfl, rfl, by decide +kernel, rfl, by decide +kernel, by decide +kernel⟩
theorem ok_i1 {f : Addr} {fd : FuncData} (F : Fun K "__init__" "BadShape.__init__" (ini 5) f fd) (U : Up P w K mg base G M fT qT) : FnOk P w K mg base CX0 2 f fd ["self"] (spIni0 K bmV "ValueError.__new__") := by
  refine F.ok sc1 (fun vs H Q E h => ?_) (fun cdv A outer s H vs Q E hr h => ?_)
  · obtain ⟨a, C, rfl, _⟩ := h
    rfl
  · obtain ⟨a, C, rfl, ha, T, q⟩ := h
    refine ⟨_, pss_one (ps_expr (pe_binit exB_VE (by rfl) U.gG U.bG hV tV (pa_cons (pv 0) (pa_cons pe_str pa_nil)))), ?_⟩
    exact ⟨_, rfl, a, C, _, rfl, by decide, T, ha, q⟩
theorem sc2 : FnScope ["self"] ["self"] (defScope (ini 6)) := ⟨rfl, rfl, rfl, by decide +kernel, rfl, by decide +kernel, by decide +kernel⟩
theorem ok_i2 {f : Addr} {fd : FuncData} (F : Fun K "__init__" "BadChoice.__init__" (ini 6) f fd) (U : Up P w K mg base G M fT qT) : FnOk P w K mg base CX0 2 f fd ["self"] (spIni0 K bmV "ValueError.__new__") := by
  refine F.ok sc2 (fun vs H Q E h => ?_) (fun cdv A outer s H vs Q E hr h => ?_)
  · obtain ⟨a, C, rfl, _⟩ := h
    rfl
  · obtain ⟨a, C, rfl, ha, T, q⟩ := h
    refine ⟨_, pss_one (ps_expr (pe_binit exB_VE (by rfl) U.gG U.bG hV tV (pa_cons (pv 0) (pa_cons pe_str pa_nil)))), ?_⟩
    exact ⟨_, rfl, a, C, _, rfl, by decide, T, ha, q⟩
theorem sc3 : FnScope ["self"] ["self"] (defScope (ini 7)) := ⟨rfl, rfl, rfl, by decide +kernel, rfl, by decide +kernel, by decide +kernel⟩
theorem ok_i3 {f : Addr} {fd : FuncData} (F : Fun K "__init__" "MixedPrograms.__init__" (ini 7) f fd) (U : Up P w K mg base G M fT qT) : FnOk P w K mg base CX0 2 f fd ["self"] (spIni0 K bmV "ValueError.__new__") := by
  refine F.ok sc3 (fun vs H Q E h => ?_) (fun cdv A outer s H vs Q E hr h => ?_)
  · obtain ⟨a, C, rfl, _⟩ := h
    rfl
  · obtain ⟨a, C, rfl, ha, T, q⟩ := h
    refine ⟨_, pss_one (ps_expr (pe_binit exB_VE (by rfl) U.gG U.bG hV tV (pa_cons (pv 0) (pa_cons pe_str pa_nil)))), ?_⟩
    exact ⟨_, rfl, a, C, _, rfl, by decide, T, ha, q⟩
theorem sc4 : FnScope ["self", "name"] ["self", "name"] (defScope (ini 8)) := ⟨rfl, rfl, rfl, by decide +kernel, rfl, by decide +kernel, by decide +kernel⟩
theorem ok_i4 {f : Addr} {fd : FuncData} (F : Fun K "__init__" "BadName.__init__" (ini 8) f fd) (U : Up P w K mg base G M fT qT) : FnOk P w K mg base CX0 2 f fd ["self", "name"] (spIni K bmV "ValueError.__new__" "name") := by
  refine F.ok sc4 (fun vs H Q E h => ?_) (fun cdv A outer s H vs Q E hr h => ?_)
  · obtain ⟨N, a, C, v, d, rfl, _⟩ := h
    rfl
  · obtain ⟨N, a, C, v, d, rfl, ha, T, hf, hv, ht, q⟩ := h
    refine ⟨_, pss_cons (ps_expr (pe_binit exB_VE (by rfl) U.gG U.bG hV tV (pa_cons (pv 0) (pa_cons (pe_joined (.cons pe_str (.cons (pe_fmt (pe_call U.gT hr (by rfl) U.dT.gl U.dT.kp U.bT .nil pass0 (pa_cons (pv 1) pa_nil))) .nil))) pa_nil)))) (pss_one (ps_st1 exB_VE (pv 0) (pv 1))), ?_⟩
    refine ⟨_, rfl, _, rfl, by decide, _, rfl, N, v, d, rfl, hv, ht, fun t tz => .inl ⟨t, rfl, Nat.le_of_lt (small1000 tz), t, rfl, cat1000 (by decide) tz, a, C, _, rfl, by show 1 ≤ 1000; decide, T, ha, _, rfl, _, rfl, a, C, rfl, T, hf, ha, q⟩⟩
theorem sc5 : FnScope ["self", "name"] ["self", "name"] (defScope (ini 9)) := ⟨rfl, rfl, rfl, by decide +kernel, rfl, by decide +kernel, by decide +kernel⟩
theorem ok_i5 {f : Addr} {fd : FuncData} (F : Fun K "__init__" "TwiceTold.__init__" (ini 9) f fd) (U : Up P w K mg base G M fT qT) : FnOk P w K mg base CX0 2 f fd ["self", "name"] (spIni K bmV "ValueError.__new__" "name") := by
  refine F.ok sc5 (fun vs H Q E h => ?_) (fun cdv A outer s H vs Q E hr h => ?_)
  · obtain ⟨N, a, C, v, d, rfl, _⟩ := h
    rfl
  · obtain ⟨N, a, C, v, d, rfl, ha, T, hf, hv, ht, q⟩ := h
    refine ⟨_, pss_cons (ps_expr (pe_binit exB_VE (by rfl) U.gG U.bG hV tV (pa_cons (pv 0) (pa_cons (pe_joined (.cons pe_str (.cons (pe_fmt (pe_call U.gT hr (by rfl) U.dT.gl U.dT.kp U.bT .nil pass0 (pa_cons (pv 1) pa_nil))) .nil))) pa_nil)))) (pss_one (ps_st1 exB_VE (pv 0) (pv 1))), ?_⟩
    refine ⟨_, rfl, _, rfl, by decide, _, rfl, N, v, d, rfl, hv, ht, fun t tz => .inl ⟨t, rfl, Nat.le_of_lt (small1000 tz), t, rfl, cat1000 (by decide) tz, a, C, _, rfl, by show 1 ≤ 1000; decide, T, ha, _, rfl, _, rfl, a, C, rfl, T, hf, ha, q⟩⟩
theorem sc6 : FnScope ["self", "name"] ["self", "name"] (defScope (ini 10)) := ⟨rfl, rfl, rfl, by decide +kernel, rfl, by decide +kernel, by decide +kernel⟩
theorem ok_i6 {f : Addr} {fd : FuncData} (F : Fun K "__init__" "BadVariant.__init__" (ini 10) f fd) (U : Up P w K mg base G M fT qT) : FnOk P w K mg base CX0 2 f fd ["self", "name"] (spIni K bmV "ValueError.__new__" "name") := by
  refine F.ok sc6 (fun vs H Q E h => ?_) (fun cdv A outer s H vs Q E hr h => ?_)
  · obtain ⟨N, a, C, v, d, rfl, _⟩ := h
    rfl
  · obtain ⟨N, a, C, v, d, rfl, ha, T, hf, hv, ht, q⟩ := h
    refine ⟨_, pss_cons (ps_expr (pe_binit exB_VE (by rfl) U.gG U.bG hV tV (pa_cons (pv 0) (pa_cons (pe_joined (.cons pe_str (.cons (pe_fmt (pe_call U.gT hr (by rfl) U.dT.gl U.dT.kp U.bT .nil pass0 (pa_cons (pv 1) pa_nil))) .nil))) pa_nil)))) (pss_one (ps_st1 exB_VE (pv 0) (pv 1))), ?_⟩
    refine ⟨_, rfl, _, rfl, by decide, _, rfl, N, v, d, rfl, hv, ht, fun t tz => .inl ⟨t, rfl, Nat.le_of_lt (small1000 tz), t, rfl, cat1000 (by decide) tz, a, C, _, rfl, by show 1 ≤ 1000; decide, T, ha, _, rfl, _, rfl, a, C, rfl, T, hf, ha, q⟩⟩
theorem sc7 : FnScope ["self", "name"] ["self", "name"] (defScope (ini 11)) := ⟨rfl, rfl, rfl, by decide +kernel, rfl, by decide +kernel, by decide +kernel⟩
theorem ok_i7 {f : Addr} {fd : FuncData} (F : Fun K "__init__" "BadBook.__init__" (ini 11) f fd) (U : Up P w K mg base G M fT qT) : FnOk P w K mg base CX0 2 f fd ["self", "name"] (spIni K bmV "ValueError.__new__" "name") := by
  refine F.ok sc7 (fun vs H Q E h => ?_) (fun cdv A outer s H vs Q E hr h => ?_)
  · obtain ⟨N, a, C, v, d, rfl, _⟩ := h
    rfl
  · obtain ⟨N, a, C, v, d, rfl, ha, T, hf, hv, ht, q⟩ := h
    refine ⟨_, pss_cons (ps_expr (pe_binit exB_VE (by rfl) U.gG U.bG hV tV (pa_cons (pv 0) (pa_cons (pe_joined (.cons pe_str (.cons (pe_fmt (pe_call U.gT hr (by rfl) U.dT.gl U.dT.kp U.bT .nil pass0 (pa_cons (pv 1) pa_nil))) .nil))) pa_nil)))) (pss_one (ps_st1 exB_VE (pv 0) (pv 1))), ?_⟩
    refine ⟨_, rfl, _, rfl, by decide, _, rfl, N, v, d, rfl, hv, ht, fun t tz => .inl ⟨t, rfl, Nat.le_of_lt (small1000 tz), t, rfl, cat1000 (by decide) tz, a, C, _, rfl, by show 1 ≤ 1000; decide, T, ha, _, rfl, _, rfl, a, C, rfl, T, hf, ha, q⟩⟩
theorem sc8 : FnScope ["self", "word"] ["self", "word"] (defScope (ini 12)) := ⟨rfl, rfl, rfl, by decide +kernel, rfl, by decide +kernel, by decide +kernel⟩
theorem ok_i8 {f : Addr} {fd : FuncData} (F : Fun K "__init__" "BadState.__init__" (ini 12) f fd) (U : Up P w K mg base G M fT qT) : FnOk P w K mg base CX0 2 f fd ["self", "word"] (spIni K bmV "ValueError.__new__" "word") := by
  refine F.ok sc8 (fun vs H Q E h => ?_) (fun cdv A outer s H vs Q E hr h => ?_)
  · obtain ⟨N, a, C, v, d, rfl, _⟩ := h
    rfl
  · obtain ⟨N, a, C, v, d, rfl, ha, T, hf, hv, ht, q⟩ := h
    refine ⟨_, pss_cons (ps_expr (pe_binit exB_VE (by rfl) U.gG U.bG hV tV (pa_cons (pv 0) (pa_cons (pe_joined (.cons pe_str (.cons (pe_fmt (pe_call U.gT hr (by rfl) U.dT.gl U.dT.kp U.bT .nil pass0 (pa_cons (pv 1) pa_nil))) .nil))) pa_nil)))) (pss_one (ps_st1 exB_VE (pv 0) (pv 1))), ?_⟩
    refine ⟨_, rfl, _, rfl, by decide, _, rfl, N, v, d, rfl, hv, ht, fun t tz => .inl ⟨t, rfl, Nat.le_of_lt (small1000 tz), t, rfl, cat1000 (by decide) tz, a, C, _, rfl, by show 1 ≤ 1000; decide, T, ha, _, rfl, _, rfl, a, C, rfl, T, hf, ha, q⟩⟩
theorem sc10 : FnScope ["self", "place"] ["self", "place"] (defScope (ini 14)) := ⟨rfl, rfl, rfl, by decide +kernel, rfl, by decide +kernel, by decide +kernel⟩
theorem ok_i10 {f : Addr} {fd : FuncData} (F : Fun K "__init__" "BadText.__init__" (ini 14) f fd) (U : Up P w K mg base G M fT qT) : FnOk P w K mg base CX0 2 f fd ["self", "place"] (spIni K bmV "ValueError.__new__" "place") := by
  refine F.ok sc10 (fun vs H Q E h => ?_) (fun cdv A outer s H vs Q E hr h => ?_)
  · obtain ⟨N, a, C, v, d, rfl, _⟩ := h
    rfl
  · obtain ⟨N, a, C, v, d, rfl, ha, T, hf, hv, ht, q⟩ := h
    refine ⟨_, pss_cons (ps_expr (pe_binit exB_VE (by rfl) U.gG U.bG hV tV (pa_cons (pv 0) (pa_cons (pe_joined (.cons pe_str (.cons (pe_fmt (pe_call U.gT hr (by rfl) U.dT.gl U.dT.kp U.bT .nil pass0 (pa_cons (pv 1) pa_nil))) .nil))) pa_nil)))) (pss_one (ps_st1 exB_VE (pv 0) (pv 1))), ?_⟩
    refine ⟨_, rfl, _, rfl, by decide, _, rfl, N, v, d, rfl, hv, ht, fun t tz => .inl ⟨t, rfl, Nat.le_of_lt (small1000 tz), t, rfl, cat1000 (by decide) tz, a, C, _, rfl, by show 1 ≤ 1000; decide, T, ha, _, rfl, _, rfl, a, C, rfl, T, hf, ha, q⟩⟩
theorem sc11 : FnScope ["self", "place"] ["self", "place"] (defScope (ini 15)) := ⟨rfl, rfl, rfl, by decide +kernel, rfl, by decide +kernel, by decide +kernel⟩
theorem ok_i11 {f : Addr} {fd : FuncData} (F : Fun K "__init__" "BadVersion.__init__" (ini 15) f fd) (U : Up P w K mg base G M fT qT) : FnOk P w K mg base CX0 2 f fd ["self", "place"] (spIni K bmV "ValueError.__new__" "place") := by
  refine F.ok sc11 (fun vs H Q E h => ?_) (fun cdv A outer s H vs Q E hr h => ?_)
  · obtain ⟨N, a, C, v, d, rfl, _⟩ := h
    rfl
  · obtain ⟨N, a, C, v, d, rfl, ha, T, hf, hv, ht, q⟩ := h
    refine ⟨_, pss_cons (ps_expr (pe_binit exB_VE (by rfl) U.gG U.bG hV tV (pa_cons (pv 0) (pa_cons pe_str pa_nil)))) (pss_one (ps_st1 exB_VE (pv 0) (pv 1))), ?_⟩
    exact ⟨_, rfl, a, C, _, rfl, by decide, T, ha, _, rfl, _, rfl, a, C, rfl, T, hf, ha, q⟩
theorem sc12 : FnScope ["self", "number"] ["self", "number"] (defScope (ini 16)) := ⟨rfl, rfl, rfl, by decide +kernel, rfl, by decide +kernel, by decide +kernel⟩
theorem ok_i12 {f : Addr} {fd : FuncData} (F : Fun K "__init__" "StuckRow.__init__" (ini 16) f fd) (U : Up P w K mg base G M fT qT) : FnOk P w K mg base CX0 2 f fd ["self", "number"] (spIni K bmV "ValueError.__new__" "number") := by
  refine F.ok sc12 (fun vs H Q E h => ?_) (fun cdv A outer s H vs Q E hr h => ?_)
  · obtain ⟨N, a, C, v, d, rfl, _⟩ := h
    rfl
  · obtain ⟨N, a, C, v, d, rfl, ha, T, hf, hv, ht, q⟩ := h
    refine ⟨_, pss_cons (ps_expr (pe_binit exB_VE (by rfl) U.gG U.bG hV tV (pa_cons (pv 0) (pa_cons (pe_joined (.cons pe_str (.cons (pe_fmt (pe_call U.gT hr (by rfl) U.dT.gl U.dT.kp U.bT .nil pass0 (pa_cons (pv 1) pa_nil))) .nil))) pa_nil)))) (pss_one (ps_st1 exB_VE (pv 0) (pv 1))), ?_⟩
    refine ⟨_, rfl, _, rfl, by decide, _, rfl, N, v, d, rfl, hv, ht, fun t tz => .inl ⟨t, rfl, Nat.le_of_lt (small1000 tz), t, rfl, cat1000 (by decide) tz, a, C, _, rfl, by show 1 ≤ 1000; decide, T, ha, _, rfl, _, rfl, a, C, rfl, T, hf, ha, q⟩⟩
theorem sc13 : FnScope ["self", "limit"] ["self", "limit"] (defScope (ini 17)) := ⟨rfl, rfl, rfl, by decide +kernel, rfl, by decide +kernel, by decide +kernel⟩
theorem ok_i13 {f : Addr} {fd : FuncData} (F : Fun K "__init__" "TooLong.__init__" (ini 17) f fd) (U : Up P w K mg base G M fT qT) : FnOk P w K mg base CX0 2 f fd ["self", "limit"] (spIni K bmV "ValueError.__new__" "limit") := by
  refine F.ok sc13 (fun vs H Q E h => ?_) (fun cdv A outer s H vs Q E hr h => ?_)
  · obtain ⟨N, a, C, v, d, rfl, _⟩ := h
    rfl
  · obtain ⟨N, a, C, v, d, rfl, ha, T, hf, hv, ht, q⟩ := h
    refine ⟨_, pss_cons (ps_expr (pe_binit exB_VE (by rfl) U.gG U.bG hV tV (pa_cons (pv 0) (pa_cons (pe_joined (.cons pe_str (.cons (pe_fmt (pe_call U.gT hr (by rfl) U.dT.gl U.dT.kp U.bT .nil pass0 (pa_cons (pv 1) pa_nil))) .nil))) pa_nil)))) (pss_one (ps_st1 exB_VE (pv 0) (pv 1))), ?_⟩
    refine ⟨_, rfl, _, rfl, by decide, _, rfl, N, v, d, rfl, hv, ht, fun t tz => .inl ⟨t, rfl, Nat.le_of_lt (small1000 tz), t, rfl, cat1000 (by decide) tz, a, C, _, rfl, by show 1 ≤ 1000; decide, T, ha, _, rfl, _, rfl, a, C, rfl, T, hf, ha, q⟩⟩
theorem sc14 : FnScope ["self", "name"] ["self", "name"] (defScope (ini 18)) := ⟨rfl, rfl, rfl, by decide +kernel, rfl, by decide +kernel, by decide +kernel⟩
theorem ok_i14 {f : Addr} {fd : FuncData} (F : Fun K "__init__" "UnknownName.__init__" (ini 18) f fd) (U : Up P w K mg base G M fT qT) : FnOk P w K mg base CX0 2 f fd ["self", "name"] (spIni K bmL "LookupError.__new__" "name") := by
  refine F.ok sc14 (fun vs H Q E h => ?_) (fun cdv A outer s H vs Q E hr h => ?_)
  · obtain ⟨N, a, C, v, d, rfl, _⟩ := h
    rfl
  · obtain ⟨N, a, C, v, d, rfl, ha, T, hf, hv, ht, q⟩ := h
    refine ⟨_, pss_cons (ps_expr (pe_binit exB_LE (by rfl) U.gM U.bM hL tL (pa_cons (pv 0) (pa_cons (pe_joined (.cons pe_str (.cons (pe_fmt (pe_call U.gT hr (by rfl) U.dT.gl U.dT.kp U.bT .nil pass0 (pa_cons (pv 1) pa_nil))) .nil))) pa_nil)))) (pss_one (ps_st1 exB_LE (pv 0) (pv 1))), ?_⟩
    refine ⟨_, rfl, _, rfl, by decide, _, rfl, N, v, d, rfl, hv, ht, fun t tz => .inl ⟨t, rfl, Nat.le_of_lt (small1000 tz), t, rfl, cat1000 (by decide) tz, a, C, _, rfl, by show 1 ≤ 1000; decide, T, ha, _, rfl, _, rfl, a, C, rfl, T, hf, ha, q⟩⟩
theorem sc15 : FnScope ["self", "name"] ["self", "name"] (defScope (ini 19)) := ⟨rfl, rfl, rfl, by decide +kernel, rfl, by decide +kernel, by decide +kernel⟩
theorem ok_i15 {f : Addr} {fd : FuncData} (F : Fun K "__init__" "NoFunction.__init__" (ini 19) f fd) (U : Up P w K mg base G M fT qT) : FnOk P w K mg base CX0 2 f fd ["self", "name"] (spIni K bmL "LookupError.__new__" "name") := by
  refine F.ok sc15 (fun vs H Q E h => ?_) (fun cdv A outer s H vs Q E hr h => ?_)
  · obtain ⟨N, a, C, v, d, rfl, _⟩ := h
    rfl
  · obtain ⟨N, a, C, v, d, rfl, ha, T, hf, hv, ht, q⟩ := h
    refine ⟨_, pss_cons (ps_expr (pe_binit exB_LE (by rfl) U.gM U.bM hL tL (pa_cons (pv 0) (pa_cons (pe_joined (.cons pe_str (.cons (pe_fmt (pe_call U.gT hr (by rfl) U.dT.gl U.dT.kp U.bT .nil pass0 (pa_cons (pv 1) pa_nil))) .nil))) pa_nil)))) (pss_one (ps_st1 exB_LE (pv 0) (pv 1))), ?_⟩
    refine ⟨_, rfl, _, rfl, by decide, _, rfl, N, v, d, rfl, hv, ht, fun t tz => .inl ⟨t, rfl, Nat.le_of_lt (small1000 tz), t, rfl, cat1000 (by decide) tz, a, C, _, rfl, by show 1 ≤ 1000; decide, T, ha, _, rfl, _, rfl, a, C, rfl, T, hf, ha, q⟩⟩
theorem sc16 : FnScope ["self", "number"] ["self", "number"] (defScope (ini 20)) := ⟨rfl, rfl, rfl, by decide +kernel, rfl, by decide +kernel, by decide +kernel⟩
theorem ok_i16 {f : Addr} {fd : FuncData} (F : Fun K "__init__" "NoVersion.__init__" (ini 20) f fd) (U : Up P w K mg base G M fT qT) : FnOk P w K mg base CX0 2 f fd ["self", "number"] (spIni K bmL "LookupError.__new__" "number") := by
  refine F.ok sc16 (fun vs H Q E h => ?_) (fun cdv A outer s H vs Q E hr h => ?_)
  · obtain ⟨N, a, C, v, d, rfl, _⟩ := h
    rfl
  · obtain ⟨N, a, C, v, d, rfl, ha, T, hf, hv, ht, q⟩ := h
    refine ⟨_, pss_cons (ps_expr (pe_binit exB_LE (by rfl) U.gM U.bM hL tL (pa_cons (pv 0) (pa_cons (pe_joined (.cons pe_str (.cons (pe_fmt (pe_call U.gT hr (by rfl) U.dT.gl U.dT.kp U.bT .nil pass0 (pa_cons (pv 1) pa_nil))) .nil))) pa_nil)))) (pss_one (ps_st1 exB_LE (pv 0) (pv 1))), ?_⟩
    refine ⟨_, rfl, _, rfl, by decide, _, rfl, N, v, d, rfl, hv, ht, fun t tz => .inl ⟨t, rfl, Nat.le_of_lt (small1000 tz), t, rfl, cat1000 (by decide) tz, a, C, _, rfl, by show 1 ≤ 1000; decide, T, ha, _, rfl, _, rfl, a, C, rfl, T, hf, ha, q⟩⟩
theorem sc17 : FnScope ["self", "number"] ["self", "number"] (defScope (ini 21)) := ⟨rfl, rfl, rfl, by decide +kernel, rfl, by decide +kernel, by decide +kernel⟩
theorem ok_i17 {f : Addr} {fd : FuncData} (F : Fun K "__init__" "NotThere.__init__" (ini 21) f fd) (U : Up P w K mg base G M fT qT) : FnOk P w K mg base CX0 2 f fd ["self", "number"] (spIni K bmL "LookupError.__new__" "number") := by
  refine F.ok sc17 (fun vs H Q E h => ?_) (fun cdv A outer s H vs Q E hr h => ?_)
  · obtain ⟨N, a, C, v, d, rfl, _⟩ := h
    rfl
  · obtain ⟨N, a, C, v, d, rfl, ha, T, hf, hv, ht, q⟩ := h
    refine ⟨_, pss_cons (ps_expr (pe_binit exB_LE (by rfl) U.gM U.bM hL tL (pa_cons (pv 0) (pa_cons (pe_joined (.cons pe_str (.cons (pe_fmt (pe_call U.gT hr (by rfl) U.dT.gl U.dT.kp U.bT .nil pass0 (pa_cons (pv 1) pa_nil))) .nil))) pa_nil)))) (pss_one (ps_st1 exB_LE (pv 0) (pv 1))), ?_⟩
    refine ⟨_, rfl, _, rfl, by decide, _, rfl, N, v, d, rfl, hv, ht, fun t tz => .inl ⟨t, rfl, Nat.le_of_lt (small1000 tz), t, rfl, cat1000 (by decide) tz, a, C, _, rfl, by show 1 ≤ 1000; decide, T, ha, _, rfl, _, rfl, a, C, rfl, T, hf, ha, q⟩⟩
end
end K00
/-! K00, 3: BadTree's init -/
namespace K00
open PySem PySem.Spec PyProof.Rows L2 Ver
section
variable {P : Program} {w : World} {K : PySem.W.Frag} {mg : Str → Option Value} {base : Heap} {G M fT : Addr} {qT : FuncData}
theorem sc9 : FnScope ["self", "path", "number", "text"] ["self", "path"] (defScope (ini 13)) := ⟨rfl, rfl, rfl, by decide +kernel, rfl, by decide +kernel, by decide +kernel⟩
theorem ok_i9 {f : Addr} {fd : FuncData} (F : Fun K "__init__" "BadTree.__init__" (ini 13) f fd) (T : Glob mg) (U : Up P w K mg base G M fT qT) : FnOk P w K mg base CX0 2 f fd ["self", "path"] (spIniT K bmV "ValueError.__new__") := by
  refine F.ok sc9 (fun vs H Q E h => ?_) (fun cdv A outer s H vs Q E hr h => ?_)
  · obtain ⟨N, a, C, b, xs, ds, rfl, _⟩ := h
    rfl
  · obtain ⟨N, a, C, b, xs, ds, rfl, ha, TC, hf, hb, hD, hT, hl, q⟩ := h
    refine ⟨_, pss_cons (ps_set (i := 1) sc9.nd rfl (.inl rfl) (pe_callTy call_tupU (by rfl) T.tuple (by decide +kernel) (pa_cons (pv 1) pa_nil)))
      (pss_cons (ps_set (i := 3) sc9.nd rfl (.inl rfl) (pe_join pe_str (pe_lc (own := [("number", 2)]) (g := gName 2) (tt := tYes) rfl sc9.nd (pi_tup (pv 1))
          (blkOk_by (N := ["self", "path", "number", "text"]) (sc := defScope (ini 13)) (by decide +kernel)) (fun _ _ _ _ _ => pg_name (i := 2) sc9.nd rfl (.inl rfl)) (fun _ _ _ _ _ => pts_nil)
          (fun _ _ _ _ _ => pe_call U.gT hr (by rfl) U.dT.gl U.dT.kp U.bT .nil pass0 (pa_cons (pv 2) pa_nil)))))
      (pss_cons (ps_expr (pe_binit exB_VE (by rfl) U.gG U.bG hV tV (pa_cons (pv 0) (pa_cons (pe_joined (.cons pe_str (.cons (pe_fmt (pv 3)) (.cons pe_str .nil)))) pa_nil))))
        (pss_one (ps_st1 exB_VE (pv 0) (pv 1))))), ?_⟩
    refine ⟨_, rfl, b, xs, rfl, hb, fun t H1 s1 ht hor => ?_⟩
    have n1 : xs.length ≤ 1000 := by rw [Das.length hD]; exact hl
    refine ⟨⟨_, rfl⟩, _, rfl, t, rfl, ⟨_, SqT.of ht⟩, fun D nD => lc_tup (K := K) (a := t) (xs := xs) (fun i H2 => Same H1 H2 ∧ ∃ ys : List Str, H2 D = some (.lst (ys.map V.str)) ∧ ys.length = i ∧ ∀ y ∈ ys, y.length ≤ 1000)
      ⟨same_new nD, [], upd_same, rfl, fun _ z => nomatch z⟩ (fun i H2 _ ⟨sm, _⟩ => SqT.of (sm _ _ ht)) ?_ ?_⟩
    · rintro i y H2 hi ⟨sm, ys, eD, el, hy⟩
      obtain ⟨d, hd, hv⟩ : ∃ d, ds[i]? = some d ∧ Da N H y d := Das.fetch hD hi
      have hil : i < xs.length := (List.getElem?_eq_some_iff.mp hi).1
      refine ⟨rfl, _, rfl, N, y, d, rfl, hv.keep (Same.keep (s1.trans sm)), hT d (List.mem_of_getElem? hd), fun u hu => ⟨_, eD, by rw [List.length_map]; exact small1000 (by omega), ?_⟩⟩
      refine ⟨fun b o e => by rw [upd_ne (ne_of_none e nD)]; exact sm b o e, ys ++ [u], by rw [upd_same, List.map_append]; rfl, by rw [List.length_append, el]; rfl, ?_⟩
      intro z hz
      rcases List.mem_append.mp hz with hz | hz
      · exact hy z hz
      · rw [List.mem_singleton.mp hz]
        exact hu
    · rintro H2 ⟨sm, ys, eD, el, hy⟩
      have lj := join_le2 (", " : Str) (by decide) ys hy
      have ny : ys.length ≤ 1000 := by omega
      have sy := sum_le2 ys hy
      have e2 : (", " : Str).length = 2 := by decide
      have e26 : (Str.empty ++ ("a wrong part at the path (" : Str)).length = 26 := by decide
      have e1 : (")" : Str).length = 1 := by decide
      have e24 : sizeLine = 16777216 := by decide
      refine ⟨_, D, ys, rfl, rfl, .inl (SqL.of eD), ?_, ?_⟩
      · rw [e2]
        omega
      refine ⟨_, rfl, _, rfl, ?_, _, rfl, .inl ⟨_, rfl, ?_, _, rfl, ?_, _, rfl, ?_, a, C, _, rfl, by show 1 ≤ 1000; decide, TC, ?_, ?_⟩⟩
      · decide
      · omega
      · rw [PySem.Str.length_append]
        omega
      · rw [PySem.Str.length_append, PySem.Str.length_append]
        omega
      · exact sm _ _ (s1 _ _ ha)
      · have a2 := sm _ _ (s1 _ _ ha)
        have t2 := sm _ _ ht
        have nta : t ≠ a := fun z => by
          rw [z, a2] at t2
          cases t2
        refine ⟨_, rfl, _, rfl, a, C, rfl, TC, hf, a2, fun dx ndx nax => q t dx _ ?_ hor (fun c o nc hc => ?_) upd_same ?_⟩
        · rw [upd_ne nta, upd_ne (ne_of_none t2 ndx)]
          exact t2
        · have c2 := sm _ _ (s1 _ _ hc)
          rw [upd_ne nc, upd_ne (ne_of_none c2 ndx)]
          exact c2
        · rw [upd_ne nax, upd_same]
end
end K00
/-! K00, 4: which of the eighteen classes an exception is of -/
namespace K00
open PySem PySem.Spec PyProof.Rows L2 Ver
open PySem.W (findIn clsIn typeIn kitOne)
abbrev sKinds : Stmt := top 25
abbrev sBases : Stmt := top 26
/-- the k-th class -/
structure Cl (K : PySem.W.Frag) (G M : Addr) (k : Nat) (C : Addr) : Prop where
  lo : k < 14 → ExC K C bmV "ValueError.__new__" ∧ mroAt K C = some (.ref C :: .ref G :: bmV)
  hi : 14 ≤ k → ExC K C bmL "LookupError.__new__" ∧ mroAt K C = some (.ref C :: .ref M :: bmL)
  cls : (clsIn K C).isSome = true
  ty : typeIn K (.ref C) = some (.type "type")
structure Cs (K : PySem.W.Frag) (mg : Str → Option Value) (G M c0 c1 c2 c3 c4 c5 c6 c7 c8 c9 c10 c11 c12 c13 c14 c15 c16 c17 : Addr) : Prop where
  cl : ∀ k C, [c0, c1, c2, c3, c4, c5, c6, c7, c8, c9, c10, c11, c12, c13, c14, c15, c16, c17][k]? = some C → Cl K G M k C
  nod : [G, M, c0, c1, c2, c3, c4, c5, c6, c7, c8, c9, c10, c11, c12, c13, c14, c15, c16, c17].Nodup
  isi : mg "isinstance" = none
  gVE : mg "ValueError" = none
  gLE : mg "LookupError" = none
  gG : mg "GuessError" = some (.ref G)
  gM : mg "NameMissing" = some (.ref M)
  clsG : (clsIn K G).isSome = true
  tyG : typeIn K (.ref G) = some (.type "type")
  clsM : (clsIn K M).isSome = true
  tyM : typeIn K (.ref M) = some (.type "type")
  at_ : ClsAttr K
  g0 : mg "BadPaper" = some (.ref c0)
  g1 : mg "BadShape" = some (.ref c1)
  g2 : mg "BadChoice" = some (.ref c2)
  g3 : mg "MixedPrograms" = some (.ref c3)
  g4 : mg "BadName" = some (.ref c4)
  g5 : mg "TwiceTold" = some (.ref c5)
  g6 : mg "BadVariant" = some (.ref c6)
  g7 : mg "BadBook" = some (.ref c7)
  g8 : mg "BadState" = some (.ref c8)
  g9 : mg "BadTree" = some (.ref c9)
  g10 : mg "BadText" = some (.ref c10)
  g11 : mg "BadVersion" = some (.ref c11)
  g12 : mg "StuckRow" = some (.ref c12)
  g13 : mg "TooLong" = some (.ref c13)
  g14 : mg "UnknownName" = some (.ref c14)
  g15 : mg "NoFunction" = some (.ref c15)
  g16 : mg "NoVersion" = some (.ref c16)
  g17 : mg "NotThere" = some (.ref c17)
theorem beq_ref (a b : Addr) : (Value.ref a == Value.ref b) = decide (a = b) := by
  by_cases h : a = b
  · subst h
    rw [beq_self_eq_true, decide_eq_true rfl]
  · rw [decide_eq_false h, beq_eq_false_iff_ne]
    intro e
    cases e
    exact h rfl
theorem bmV_ref (a : Addr) : bmV.contains (.ref a) = false := rfl
theorem bmL_ref (a : Addr) : bmL.contains (.ref a) = false := rfl
theorem nod_ne {cs : List Addr} (h : cs.Nodup) {i j : Nat} {a b : Addr} (ha : cs[i]? = some a) (hb : cs[j]? = some b) (hij : i ≠ j) : a ≠ b := by
  intro e
  subst e
  obtain ⟨h1, e1⟩ := List.getElem?_eq_some_iff.mp ha
  obtain ⟨h2, e2⟩ := List.getElem?_eq_some_iff.mp hb
  exact hij ((List.getElem_inj h).mp (e1.trans e2.symm))
section
variable {K : PySem.W.Frag} {mg : Str → Option Value} {G M c0 c1 c2 c3 c4 c5 c6 c7 c8 c9 c10 c11 c12 c13 c14 c15 c16 c17 : Addr}
/-- an object of the k-th class, asked for the j-th -/
theorem Cs.kit (T : Cs K mg G M c0 c1 c2 c3 c4 c5 c6 c7 c8 c9 c10 c11 c12 c13 c14 c15 c16 c17) {k j : Nat} {C D : Addr} (hk : [c0, c1, c2, c3, c4, c5, c6, c7, c8, c9, c10, c11, c12, c13, c14, c15, c16, c17][k]? = some C) (hj : [c0, c1, c2, c3, c4, c5, c6, c7, c8, c9, c10, c11, c12, c13, c14, c15, c16, c17][j]? = some D) : kitOne K (.ref C) (.ref D) = some (decide (j = k)) := by
  have ck := T.cl k C hk
  have cj := T.cl j D hj
  have hjG : D ≠ G := fun e => nod_ne T.nod (i := j + 2) (j := 0) (a := D) (b := G) (by simpa using hj) rfl (by omega) e
  have hjM : D ≠ M := fun e => nod_ne T.nod (i := j + 2) (j := 1) (a := D) (b := M) (by simpa using hj) rfl (by omega) e
  have e : decide (D = C) = decide (j = k) := by
    by_cases h : j = k
    · subst h
      rw [hk] at hj
      cases hj
      simp
    · have n := nod_ne T.nod (i := j + 2) (j := k + 2) (a := D) (b := C) (by simpa using hj) (by simpa using hk) (by omega)
      rw [decide_eq_false n, decide_eq_false h]
  rcases Nat.lt_or_ge k 14 with h | h
  · obtain ⟨_, m⟩ := ck.lo h
    rw [kit_own m cj.cls cj.ty, List.contains_cons, List.contains_cons, beq_ref, beq_ref, bmV_ref, decide_eq_false hjG, e]
    simp
  · obtain ⟨_, m⟩ := ck.hi h
    rw [kit_own m cj.cls cj.ty, List.contains_cons, List.contains_cons, beq_ref, beq_ref, bmL_ref, decide_eq_false hjM, e]
    simp
theorem Cs.kitG (T : Cs K mg G M c0 c1 c2 c3 c4 c5 c6 c7 c8 c9 c10 c11 c12 c13 c14 c15 c16 c17) {k : Nat} {C : Addr} (hk : [c0, c1, c2, c3, c4, c5, c6, c7, c8, c9, c10, c11, c12, c13, c14, c15, c16, c17][k]? = some C) : kitOne K (.ref C) (.ref G) = some (decide (k < 14)) := by
  have ck := T.cl k C hk
  have hG : G ≠ C := fun e => nod_ne T.nod (i := k + 2) (j := 0) (a := C) (b := G) (by simpa using hk) rfl (by omega) e.symm
  have hM : G ≠ M := fun e => nod_ne T.nod (i := 0) (j := 1) (a := G) (b := M) rfl rfl (by omega) e
  rcases Nat.lt_or_ge k 14 with h | h
  · obtain ⟨_, m⟩ := ck.lo h
    rw [kit_own m T.clsG T.tyG, List.contains_cons, List.contains_cons, beq_ref, beq_ref, bmV_ref, decide_eq_false hG, decide_eq_true h]
    simp
  · obtain ⟨_, m⟩ := ck.hi h
    rw [kit_own m T.clsG T.tyG, List.contains_cons, List.contains_cons, beq_ref, beq_ref, bmL_ref, decide_eq_false hG, decide_eq_false hM, decide_eq_false (by omega)]
    simp
theorem Cs.kitM (T : Cs K mg G M c0 c1 c2 c3 c4 c5 c6 c7 c8 c9 c10 c11 c12 c13 c14 c15 c16 c17) {k : Nat} {C : Addr} (hk : [c0, c1, c2, c3, c4, c5, c6, c7, c8, c9, c10, c11, c12, c13, c14, c15, c16, c17][k]? = some C) : kitOne K (.ref C) (.ref M) = some (decide (k ≥ 14)) := by
  have ck := T.cl k C hk
  have hM : M ≠ C := fun e => nod_ne T.nod (i := k + 2) (j := 1) (a := C) (b := M) (by simpa using hk) rfl (by omega) e.symm
  have hG : M ≠ G := fun e => nod_ne T.nod (i := 0) (j := 1) (a := G) (b := M) rfl rfl (by omega) e.symm
  rcases Nat.lt_or_ge k 14 with h | h
  · obtain ⟨_, m⟩ := ck.lo h
    rw [kit_own m T.clsM T.tyM, List.contains_cons, List.contains_cons, beq_ref, beq_ref, bmV_ref, decide_eq_false hM, decide_eq_false hG, decide_eq_false (by omega)]
    simp
  · obtain ⟨_, m⟩ := ck.hi h
    rw [kit_own m T.clsM T.tyM, List.contains_cons, List.contains_cons, beq_ref, beq_ref, bmL_ref, decide_eq_false hM, decide_eq_true h]
    simp
theorem mV : PySem.W.kitMeta "ValueError" = true := by decide +kernel
theorem mL : PySem.W.kitMeta "LookupError" = true := by decide +kernel
theorem con_nref {C B : Addr} {T : String} {bm : List Value} : (Value.ref C :: .ref B :: bm).contains (.type T) = bm.contains (.type T) := by
  rw [List.contains_cons, List.contains_cons]
  rfl
theorem Cs.kitV (T : Cs K mg G M c0 c1 c2 c3 c4 c5 c6 c7 c8 c9 c10 c11 c12 c13 c14 c15 c16 c17) {k : Nat} {C : Addr} (hk : [c0, c1, c2, c3, c4, c5, c6, c7, c8, c9, c10, c11, c12, c13, c14, c15, c16, c17][k]? = some C) : kitOne K (.ref C) (.type "ValueError") = some (decide (k < 14)) := by
  have ck := T.cl k C hk
  rcases Nat.lt_or_ge k 14 with h | h
  · obtain ⟨_, m⟩ := ck.lo h
    rw [kit_bi m mV, con_nref, decide_eq_true h]
    rfl
  · obtain ⟨_, m⟩ := ck.hi h
    rw [kit_bi m mV, con_nref, decide_eq_false (by omega)]
    rfl
theorem Cs.kitL (T : Cs K mg G M c0 c1 c2 c3 c4 c5 c6 c7 c8 c9 c10 c11 c12 c13 c14 c15 c16 c17) {k : Nat} {C : Addr} (hk : [c0, c1, c2, c3, c4, c5, c6, c7, c8, c9, c10, c11, c12, c13, c14, c15, c16, c17][k]? = some C) : kitOne K (.ref C) (.type "LookupError") = some (decide (k ≥ 14)) := by
  have ck := T.cl k C hk
  rcases Nat.lt_or_ge k 14 with h | h
  · obtain ⟨_, m⟩ := ck.lo h
    rw [kit_bi m mL, con_nref, decide_eq_false (by omega)]
    rfl
  · obtain ⟨_, m⟩ := ck.hi h
    rw [kit_bi m mL, con_nref, decide_eq_true h]
    rfl
theorem Cs.ex (T : Cs K mg G M c0 c1 c2 c3 c4 c5 c6 c7 c8 c9 c10 c11 c12 c13 c14 c15 c16 c17) {k : Nat} {C : Addr} (hk : [c0, c1, c2, c3, c4, c5, c6, c7, c8, c9, c10, c11, c12, c13, c14, c15, c16, c17][k]? = some C) : ∃ bm new, ExC K C bm new := by
  have ck := T.cl k C hk
  rcases Nat.lt_or_ge k 14 with h | h
  · exact ⟨_, _, (ck.lo h).1⟩
  · exact ⟨_, _, (ck.hi h).1⟩
end
theorem isx {K : PySem.W.Frag} {a C D : Addr} {o : Option (Str × V)} {H : Hp} {Q : VK} {b : Bool} (X : ∃ bm new, ExC K C bm new) (ho : Exn H a C o) (h : kitOne K (.ref C) (.ref D) = some b) (q : Q (.bl b) H) : rIsX K [.ref a, .ref D] H Q := by
  obtain ⟨d, ea, hd⟩ := ho.is
  obtain ⟨bm, new, X⟩ := X
  exact ⟨bm, new, a, C, d, .ref D, .ref D, b, rfl, .own D, X, ea, hd, h, q⟩
theorem isxT {K : PySem.W.Frag} {a C : Addr} {T : String} {o : Option (Str × V)} {H : Hp} {Q : VK} {b : Bool} (X : ∃ bm new, ExC K C bm new) (ho : Exn H a C o) (h : kitOne K (.ref C) (.type T) = some b) (q : Q (.bl b) H) : rIsX K [.ref a, .ty T] H Q := by
  obtain ⟨d, ea, hd⟩ := ho.is
  obtain ⟨bm, new, X⟩ := X
  exact ⟨bm, new, a, C, d, .ty T, .type T, b, rfl, .ty T, X, ea, hd, h, q⟩
/-- a question about one exception, answered by a list of flags -/
def spFlags (cs : List Addr) (g : Nat → List Bool) : Sp := fun vs H Q _ => ∃ (a : Addr) (k : Nat) (C : Addr) (o : Option (Str × V)), vs = [.ref a] ∧ cs[k]? = some C ∧ Exn H a C o ∧
  ∀ L H', Same H H' → H' L = some (.lst ((g k).map V.bl)) → Q (.ref L) H'
section
variable {P : Program} {w : World} {K : PySem.W.Frag} {mg : Str → Option Value} {base : Heap} {G M c0 c1 c2 c3 c4 c5 c6 c7 c8 c9 c10 c11 c12 c13 c14 c15 c16 c17 : Addr}
theorem scK : FnScope ["e", "found"] ["e"] (defScope sKinds) := ⟨rfl, rfl, rfl, by decide +kernel, rfl, by decide +kernel, by decide +kernel⟩
theorem scB : FnScope ["e", "found"] ["e"] (defScope sBases) := ⟨rfl, rfl, rfl, by decide +kernel, rfl, by decide +kernel, by decide +kernel⟩
theorem ok_kinds {f : Addr} {fd : FuncData} (F : Fun K "_law_kinds" "_law_kinds" sKinds f fd) (T : Cs K mg G M c0 c1 c2 c3 c4 c5 c6 c7 c8 c9 c10 c11 c12 c13 c14 c15 c16 c17) : FnOk P w K mg base CX0 1 f fd ["e"] (spFlags [c0, c1, c2, c3, c4, c5, c6, c7, c8, c9, c10, c11, c12, c13, c14, c15, c16, c17] fun k => (List.range 18).map fun j => decide (j = k)) := by
  refine F.ok scK (fun vs H Q E h => ?_) (fun cdv A outer s H vs Q E hr h => ?_)
  · obtain ⟨a, k, C, o, rfl, _⟩ := h
    rfl
  · obtain ⟨a, k, C, o, rfl, hk, ho, q⟩ := h
    obtain ⟨d, ea, hd⟩ := ho.is
    obtain ⟨bm, new, X⟩ := T.ex hk
    refine ⟨_, pss_cons (ps_set (i := 1) scK.nd rfl (.inl rfl) (pe_lst (pa_cons (pe_callB (call_isX T.at_) (by rfl) T.isi (by decide +kernel) (pa_cons (pv 0) (pa_cons (pe_glob (v := .ref c0) rfl T.g0 rfl) pa_nil))) (pa_cons (pe_callB (call_isX T.at_) (by rfl) T.isi (by decide +kernel) (pa_cons (pv 0) (pa_cons (pe_glob (v := .ref c1) rfl T.g1 rfl) pa_nil))) (pa_cons (pe_callB (call_isX T.at_) (by rfl) T.isi (by decide +kernel) (pa_cons (pv 0) (pa_cons (pe_glob (v := .ref c2) rfl T.g2 rfl) pa_nil))) pa_nil)))))
      (pss_cons (ps_set (i := 1) scK.nd rfl (.inl rfl) (pe_op op_cat (pv 1) (pe_lst (pa_cons (pe_callB (call_isX T.at_) (by rfl) T.isi (by decide +kernel) (pa_cons (pv 0) (pa_cons (pe_glob (v := .ref c3) rfl T.g3 rfl) pa_nil))) (pa_cons (pe_callB (call_isX T.at_) (by rfl) T.isi (by decide +kernel) (pa_cons (pv 0) (pa_cons (pe_glob (v := .ref c4) rfl T.g4 rfl) pa_nil))) (pa_cons (pe_callB (call_isX T.at_) (by rfl) T.isi (by decide +kernel) (pa_cons (pv 0) (pa_cons (pe_glob (v := .ref c5) rfl T.g5 rfl) pa_nil))) pa_nil))))))
      (pss_cons (ps_set (i := 1) scK.nd rfl (.inl rfl) (pe_op op_cat (pv 1) (pe_lst (pa_cons (pe_callB (call_isX T.at_) (by rfl) T.isi (by decide +kernel) (pa_cons (pv 0) (pa_cons (pe_glob (v := .ref c6) rfl T.g6 rfl) pa_nil))) (pa_cons (pe_callB (call_isX T.at_) (by rfl) T.isi (by decide +kernel) (pa_cons (pv 0) (pa_cons (pe_glob (v := .ref c7) rfl T.g7 rfl) pa_nil))) (pa_cons (pe_callB (call_isX T.at_) (by rfl) T.isi (by decide +kernel) (pa_cons (pv 0) (pa_cons (pe_glob (v := .ref c8) rfl T.g8 rfl) pa_nil))) pa_nil))))))
      (pss_cons (ps_set (i := 1) scK.nd rfl (.inl rfl) (pe_op op_cat (pv 1) (pe_lst (pa_cons (pe_callB (call_isX T.at_) (by rfl) T.isi (by decide +kernel) (pa_cons (pv 0) (pa_cons (pe_glob (v := .ref c9) rfl T.g9 rfl) pa_nil))) (pa_cons (pe_callB (call_isX T.at_) (by rfl) T.isi (by decide +kernel) (pa_cons (pv 0) (pa_cons (pe_glob (v := .ref c10) rfl T.g10 rfl) pa_nil))) (pa_cons (pe_callB (call_isX T.at_) (by rfl) T.isi (by decide +kernel) (pa_cons (pv 0) (pa_cons (pe_glob (v := .ref c11) rfl T.g11 rfl) pa_nil))) pa_nil))))))
      (pss_cons (ps_set (i := 1) scK.nd rfl (.inl rfl) (pe_op op_cat (pv 1) (pe_lst (pa_cons (pe_callB (call_isX T.at_) (by rfl) T.isi (by decide +kernel) (pa_cons (pv 0) (pa_cons (pe_glob (v := .ref c12) rfl T.g12 rfl) pa_nil))) (pa_cons (pe_callB (call_isX T.at_) (by rfl) T.isi (by decide +kernel) (pa_cons (pv 0) (pa_cons (pe_glob (v := .ref c13) rfl T.g13 rfl) pa_nil))) (pa_cons (pe_callB (call_isX T.at_) (by rfl) T.isi (by decide +kernel) (pa_cons (pv 0) (pa_cons (pe_glob (v := .ref c14) rfl T.g14 rfl) pa_nil))) pa_nil))))))
      (pss_one (ps_ret (pe_op op_cat (pv 1) (pe_lst (pa_cons (pe_callB (call_isX T.at_) (by rfl) T.isi (by decide +kernel) (pa_cons (pv 0) (pa_cons (pe_glob (v := .ref c15) rfl T.g15 rfl) pa_nil))) (pa_cons (pe_callB (call_isX T.at_) (by rfl) T.isi (by decide +kernel) (pa_cons (pv 0) (pa_cons (pe_glob (v := .ref c16) rfl T.g16 rfl) pa_nil))) (pa_cons (pe_callB (call_isX T.at_) (by rfl) T.isi (by decide +kernel) (pa_cons (pv 0) (pa_cons (pe_glob (v := .ref c17) rfl T.g17 rfl) pa_nil))) pa_nil))))))))))), ?_⟩
    refine ⟨_, rfl, bm, new, a, C, d, .ref c0, .ref c0, _, rfl, .own _, X, ea, hd, T.kit hk (j := 0) rfl, ⟨_, rfl, bm, new, a, C, d, .ref c1, .ref c1, _, rfl, .own _, X, ea, hd, T.kit hk (j := 1) rfl, ⟨_, rfl, bm, new, a, C, d, .ref c2, .ref c2, _, rfl, .own _, X, ea, hd, T.kit hk (j := 2) rfl, ⟨by show 3 ≤ sizeLine; decide, fun t0 n0 => ?_⟩⟩⟩⟩
    obtain ⟨H0, z, s0, e0⟩ := fresh n0 (.lst [V.bl (decide (0 = k)), V.bl (decide (1 = k)), V.bl (decide (2 = k))])
    rw [z]
    clear z
    have o1 := ho.same s0
    obtain ⟨d1, ea1, hd1⟩ := o1.is
    refine ⟨_, rfl, ⟨_, rfl, bm, new, a, C, d1, .ref c3, .ref c3, _, rfl, .own _, X, ea1, hd1, T.kit hk (j := 3) rfl, ⟨_, rfl, bm, new, a, C, d1, .ref c4, .ref c4, _, rfl, .own _, X, ea1, hd1, T.kit hk (j := 4) rfl, ⟨_, rfl, bm, new, a, C, d1, .ref c5, .ref c5, _, rfl, .own _, X, ea1, hd1, T.kit hk (j := 5) rfl, ⟨by show 3 ≤ sizeLine; decide, fun t10 n10 => ?_⟩⟩⟩⟩⟩
    obtain ⟨H1a, z, s1a', e1a'⟩ := fresh n10 (.lst [V.bl (decide (3 = k)), V.bl (decide (4 = k)), V.bl (decide (5 = k))])
    rw [z]
    clear z
    refine ⟨_, _, _, _, rfl, rfl, s1a' _ _ e0, e1a', by show 3 + 3 ≤ sizeLine; decide, fun t11 n11 => ?_⟩
    obtain ⟨H1, z, s1', e1⟩ := fresh n11 (.lst [V.bl (decide (0 = k)), V.bl (decide (1 = k)), V.bl (decide (2 = k)), V.bl (decide (3 = k)), V.bl (decide (4 = k)), V.bl (decide (5 = k))])
    replace z := z
    erw [z]
    clear z
    have s1 := s0.trans (s1a'.trans s1')
    have o2 := ho.same s1
    obtain ⟨d2, ea2, hd2⟩ := o2.is
    refine ⟨_, rfl, ⟨_, rfl, bm, new, a, C, d2, .ref c6, .ref c6, _, rfl, .own _, X, ea2, hd2, T.kit hk (j := 6) rfl, ⟨_, rfl, bm, new, a, C, d2, .ref c7, .ref c7, _, rfl, .own _, X, ea2, hd2, T.kit hk (j := 7) rfl, ⟨_, rfl, bm, new, a, C, d2, .ref c8, .ref c8, _, rfl, .own _, X, ea2, hd2, T.kit hk (j := 8) rfl, ⟨by show 3 ≤ sizeLine; decide, fun t20 n20 => ?_⟩⟩⟩⟩⟩
    obtain ⟨H2a, z, s2a', e2a'⟩ := fresh n20 (.lst [V.bl (decide (6 = k)), V.bl (decide (7 = k)), V.bl (decide (8 = k))])
    rw [z]
    clear z
    refine ⟨_, _, _, _, rfl, rfl, s2a' _ _ e1, e2a', by show 6 + 3 ≤ sizeLine; decide, fun t21 n21 => ?_⟩
    obtain ⟨H2, z, s2', e2⟩ := fresh n21 (.lst [V.bl (decide (0 = k)), V.bl (decide (1 = k)), V.bl (decide (2 = k)), V.bl (decide (3 = k)), V.bl (decide (4 = k)), V.bl (decide (5 = k)), V.bl (decide (6 = k)), V.bl (decide (7 = k)), V.bl (decide (8 = k))])
    replace z := z
    erw [z]
    clear z
    have s2 := s1.trans (s2a'.trans s2')
    have o3 := ho.same s2
    obtain ⟨d3, ea3, hd3⟩ := o3.is
    refine ⟨_, rfl, ⟨_, rfl, bm, new, a, C, d3, .ref c9, .ref c9, _, rfl, .own _, X, ea3, hd3, T.kit hk (j := 9) rfl, ⟨_, rfl, bm, new, a, C, d3, .ref c10, .ref c10, _, rfl, .own _, X, ea3, hd3, T.kit hk (j := 10) rfl, ⟨_, rfl, bm, new, a, C, d3, .ref c11, .ref c11, _, rfl, .own _, X, ea3, hd3, T.kit hk (j := 11) rfl, ⟨by show 3 ≤ sizeLine; decide, fun t30 n30 => ?_⟩⟩⟩⟩⟩
    obtain ⟨H3a, z, s3a', e3a'⟩ := fresh n30 (.lst [V.bl (decide (9 = k)), V.bl (decide (10 = k)), V.bl (decide (11 = k))])
    rw [z]
    clear z
    refine ⟨_, _, _, _, rfl, rfl, s3a' _ _ e2, e3a', by show 9 + 3 ≤ sizeLine; decide, fun t31 n31 => ?_⟩
    obtain ⟨H3, z, s3', e3⟩ := fresh n31 (.lst [V.bl (decide (0 = k)), V.bl (decide (1 = k)), V.bl (decide (2 = k)), V.bl (decide (3 = k)), V.bl (decide (4 = k)), V.bl (decide (5 = k)), V.bl (decide (6 = k)), V.bl (decide (7 = k)), V.bl (decide (8 = k)), V.bl (decide (9 = k)), V.bl (decide (10 = k)), V.bl (decide (11 = k))])
    replace z := z
    erw [z]
    clear z
    have s3 := s2.trans (s3a'.trans s3')
    have o4 := ho.same s3
    obtain ⟨d4, ea4, hd4⟩ := o4.is
    refine ⟨_, rfl, ⟨_, rfl, bm, new, a, C, d4, .ref c12, .ref c12, _, rfl, .own _, X, ea4, hd4, T.kit hk (j := 12) rfl, ⟨_, rfl, bm, new, a, C, d4, .ref c13, .ref c13, _, rfl, .own _, X, ea4, hd4, T.kit hk (j := 13) rfl, ⟨_, rfl, bm, new, a, C, d4, .ref c14, .ref c14, _, rfl, .own _, X, ea4, hd4, T.kit hk (j := 14) rfl, ⟨by show 3 ≤ sizeLine; decide, fun t40 n40 => ?_⟩⟩⟩⟩⟩
    obtain ⟨H4a, z, s4a', e4a'⟩ := fresh n40 (.lst [V.bl (decide (12 = k)), V.bl (decide (13 = k)), V.bl (decide (14 = k))])
    rw [z]
    clear z
    refine ⟨_, _, _, _, rfl, rfl, s4a' _ _ e3, e4a', by show 12 + 3 ≤ sizeLine; decide, fun t41 n41 => ?_⟩
    obtain ⟨H4, z, s4', e4⟩ := fresh n41 (.lst [V.bl (decide (0 = k)), V.bl (decide (1 = k)), V.bl (decide (2 = k)), V.bl (decide (3 = k)), V.bl (decide (4 = k)), V.bl (decide (5 = k)), V.bl (decide (6 = k)), V.bl (decide (7 = k)), V.bl (decide (8 = k)), V.bl (decide (9 = k)), V.bl (decide (10 = k)), V.bl (decide (11 = k)), V.bl (decide (12 = k)), V.bl (decide (13 = k)), V.bl (decide (14 = k))])
    replace z := z
    erw [z]
    clear z
    have s4 := s3.trans (s4a'.trans s4')
    have o5 := ho.same s4
    obtain ⟨d5, ea5, hd5⟩ := o5.is
    refine ⟨_, rfl, ⟨_, rfl, bm, new, a, C, d5, .ref c15, .ref c15, _, rfl, .own _, X, ea5, hd5, T.kit hk (j := 15) rfl, ⟨_, rfl, bm, new, a, C, d5, .ref c16, .ref c16, _, rfl, .own _, X, ea5, hd5, T.kit hk (j := 16) rfl, ⟨_, rfl, bm, new, a, C, d5, .ref c17, .ref c17, _, rfl, .own _, X, ea5, hd5, T.kit hk (j := 17) rfl, ⟨by show 3 ≤ sizeLine; decide, fun t50 n50 => ?_⟩⟩⟩⟩⟩
    obtain ⟨H5a, z, s5a', e5a'⟩ := fresh n50 (.lst [V.bl (decide (15 = k)), V.bl (decide (16 = k)), V.bl (decide (17 = k))])
    rw [z]
    clear z
    refine ⟨_, _, _, _, rfl, rfl, s5a' _ _ e4, e5a', by show 15 + 3 ≤ sizeLine; decide, fun t51 n51 => ?_⟩
    obtain ⟨H5, z, s5', e5⟩ := fresh n51 (.lst [V.bl (decide (0 = k)), V.bl (decide (1 = k)), V.bl (decide (2 = k)), V.bl (decide (3 = k)), V.bl (decide (4 = k)), V.bl (decide (5 = k)), V.bl (decide (6 = k)), V.bl (decide (7 = k)), V.bl (decide (8 = k)), V.bl (decide (9 = k)), V.bl (decide (10 = k)), V.bl (decide (11 = k)), V.bl (decide (12 = k)), V.bl (decide (13 = k)), V.bl (decide (14 = k)), V.bl (decide (15 = k)), V.bl (decide (16 = k)), V.bl (decide (17 = k))])
    exact q _ _ (s4.trans (s5a'.trans (same_new n51))) upd_same
theorem ok_bases {f : Addr} {fd : FuncData} (F : Fun K "_law_bases" "_law_bases" sBases f fd) (T : Cs K mg G M c0 c1 c2 c3 c4 c5 c6 c7 c8 c9 c10 c11 c12 c13 c14 c15 c16 c17) : FnOk P w K mg base CX0 1 f fd ["e"] (spFlags [c0, c1, c2, c3, c4, c5, c6, c7, c8, c9, c10, c11, c12, c13, c14, c15, c16, c17] fun k => [decide (k < 14), decide (k < 14), decide (k ≥ 14), decide (k ≥ 14)]) := by
  refine F.ok scB (fun vs H Q E h => ?_) (fun cdv A outer s H vs Q E hr h => ?_)
  · obtain ⟨a, k, C, o, rfl, _⟩ := h
    rfl
  · obtain ⟨a, k, C, o, rfl, hk, ho, q⟩ := h
    obtain ⟨d, ea, hd⟩ := ho.is
    obtain ⟨bm, new, X⟩ := T.ex hk
    refine ⟨_, pss_cons (ps_set (i := 1) scB.nd rfl (.inl rfl) (pe_lst (pa_cons (pe_callB (call_isX T.at_) (by rfl) T.isi (by decide +kernel) (pa_cons (pv 0) (pa_cons (pe_glob (v := .ref G) rfl T.gG rfl) pa_nil))) (pa_cons (pe_callB (call_isX T.at_) (by rfl) T.isi (by decide +kernel) (pa_cons (pv 0) (pa_cons (pe_bltn (v := .ty "ValueError") (by rfl) T.gVE (by decide +kernel) rfl) pa_nil))) pa_nil))))
      (pss_one (ps_ret (pe_op op_cat (pv 1) (pe_lst (pa_cons (pe_callB (call_isX T.at_) (by rfl) T.isi (by decide +kernel) (pa_cons (pv 0) (pa_cons (pe_glob (v := .ref M) rfl T.gM rfl) pa_nil))) (pa_cons (pe_callB (call_isX T.at_) (by rfl) T.isi (by decide +kernel) (pa_cons (pv 0) (pa_cons (pe_bltn (v := .ty "LookupError") (by rfl) T.gLE (by decide +kernel) rfl) pa_nil))) pa_nil)))))), ?_⟩
    refine ⟨_, rfl, bm, new, a, C, d, .ref G, .ref G, _, rfl, .own _, X, ea, hd, T.kitG hk, _, rfl, bm, new, a, C, d, .ty "ValueError", .type "ValueError", _, rfl, .ty _, X, ea, hd, T.kitV hk, by show 2 ≤ sizeLine; decide, fun t0 n0 => ?_⟩
    obtain ⟨H0, z, s0, e0⟩ := fresh n0 (.lst [V.bl (decide (k < 14)), V.bl (decide (k < 14))])
    rw [z]
    clear z
    obtain ⟨d1, ea1, hd1⟩ := (ho.same s0).is
    refine ⟨_, rfl, _, rfl, bm, new, a, C, d1, .ref M, .ref M, _, rfl, .own _, X, ea1, hd1, T.kitM hk, _, rfl, bm, new, a, C, d1, .ty "LookupError", .type "LookupError", _, rfl, .ty _, X, ea1, hd1, T.kitL hk, by show 2 ≤ sizeLine; decide, fun t1 n1 => ?_⟩
    obtain ⟨H1, z, s1, e1⟩ := fresh n1 (.lst [V.bl (decide (k ≥ 14)), V.bl (decide (k ≥ 14))])
    rw [z]
    clear z
    exact ⟨_, _, _, _, rfl, rfl, s1 _ _ e0, e1, by show 2 + 2 ≤ sizeLine; decide, fun t2 n2 => q _ _ (s0.trans (s1.trans (same_new n2))) upd_same⟩
end
end K00
/-! K00, 5: one of each class is made -/
namespace K00
open PySem PySem.Spec PyProof.Rows L2 Ver
open PySem.W (findIn clsIn typeIn kitOne)
abbrev sEvery : Stmt := top 27
/-- how objects of the class C are made -/
structure Mk (P : Program) (w : World) (K : PySem.W.Frag) (mg : Str → Option Value) (base : Heap) (C f : Addr) (q : FuncData) (ps : List Str) (sp : Sp) : Prop where
  i : findIn K (.ref C) "__init__" = some (some (.ref f))
  t : typeIn K (.ref f) = some (.type "function")
  F : FnOk P w K mg base CX0 2 f q ps sp
  b : Binds K q ps []
/-- the objects, one by one -/
def Evs (H : Hp) : List Addr → List Addr → List (Option (Str × V)) → Prop
  | [], [], [] => True
  | e :: es, C :: cs, o :: os => Exn H e C o ∧ Evs H es cs os
  | _, _, _ => False
theorem Evs.same {H H' : Hp} (k : Same H H') : ∀ {es cs : List Addr} {os : List (Option (Str × V))}, Evs H es cs os → Evs H' es cs os
  | [], [], [], h => h
  | _ :: _, _ :: _, _ :: _, ⟨h1, h2⟩ => ⟨h1.same k, Evs.same k h2⟩
  | [], _ :: _, _, h => h.elim
  | [], [], _ :: _, h => h.elim
  | _ :: _, [], _, h => h.elim
  | _ :: _, _ :: _, [], h => h.elim
theorem Evs.get {H : Hp} : ∀ {es cs : List Addr} {os : List (Option (Str × V))} {k : Nat} {e : Addr}, Evs H es cs os → es[k]? = some e → ∃ C o, cs[k]? = some C ∧ os[k]? = some o ∧ Exn H e C o
  | [], _, _, _, _, _, h => by simp at h
  | _ :: _, C :: _, o :: _, 0, _, ⟨h1, _⟩, e => ⟨C, o, rfl, rfl, by simp at e; subst e; exact h1⟩
  | _ :: _, C :: _, o :: _, k + 1, _, ⟨_, h2⟩, e => by
    obtain ⟨D, p, a, b, c⟩ := Evs.get (k := k) h2 (by simpa using e)
    exact ⟨D, p, by simpa using a, by simpa using b, c⟩
  | _ :: _, [], _, _, _, h, _ => h.elim
  | _ :: _, _ :: _, [], _, _, h, _ => h.elim
/-- what each keeps -/
def fos (w n s : V) (t : Addr) : List (Option (Str × V)) := [none, none, none, none, some ("name", w), some ("name", w), some ("name", w), some ("name", w), some ("word", w), some ("path", .ref t), some ("place", n), some ("place", s), some ("number", n), some ("limit", n), some ("name", w), some ("name", w), some ("number", n), some ("number", n)]
/-- what may be handed to the classes that take lists -/
def SomeOk : PyData → Prop
  | .list ds => (∀ d ∈ ds, TellOk d) ∧ ds.length ≤ 1000
  | .tuple ds => (∀ d ∈ ds, TellOk d) ∧ ds.length ≤ 1000
  | _ => False
theorem someTell : ∀ {d : PyData}, SomeOk d → TellOk d
  | .list _, _ => trivial
  | .tuple _, _ => trivial
  | .none, h => h.elim
  | .bool _, h => h.elim
  | .int _, h => h.elim
  | .str _, h => h.elim
  | .dict _, h => h.elim
def tupOf : PyData → PyData
  | .list ds => .tuple ds
  | d => d
def spEvery (cs : List Addr) : Sp := fun vs H Q _ => ∃ (N : Addr → Prop) (vw vn vs' : V) (dw dn ds : PyData), vs = [vw, vn, vs'] ∧ Da N H vw dw ∧ TellOk dw ∧ Da N H vn dn ∧ TellOk dn ∧ Da N H vs' ds ∧ SomeOk ds ∧ (∀ a, H a = none → ¬ N a) ∧
  ∀ L es t H', Same H H' → H' L = some (.lst (es.map V.ref)) → Evs H' es cs (fos vw vn vs' t) → Da N H' (.ref t) (tupOf ds) → Q (.ref L) H'
section
variable {K : PySem.W.Frag} {H : Hp} {a C : Addr} {bm : List Value} {new : String} {f : Str} {v : V} {d : PyData} {N : Addr → Prop} {R : Hp → Prop}
theorem mk0 (n : H a = none) (T : ExC K C bm new) (q : ∀ H', Same H H' → Exn H' a C none → R H') : spIni0 K bm new (.ref a :: ([] ++ [])) (upd H a (exo a C none)) (fun v H2 => v = .non ∧ R H2) (fun _ _ _ => False) :=
  ⟨a, C, rfl, upd_same, T, rfl, q _ (same_new n) upd_same⟩
theorem mk1 (n : H a = none) (T : ExC K C bm new) (hf : findIn K (.ref C) f = some none) (hv : Da N H v d) (ht : TellOk d) (q : ∀ H', Same H H' → Exn H' a C (some (f, v)) → R H') :
    spIni K bm new f (.ref a :: ([v] ++ [])) (upd H a (exo a C none)) (fun v H2 => v = .non ∧ R H2) (fun _ _ _ => False) := by
  refine ⟨N, a, C, v, d, rfl, upd_same, T, hf, hv.keep (Same.keep (same_new n)), ht, fun dx nd ne => ⟨rfl, q _ (fun b o e => ?_) ⟨dx, upd_same, ?_⟩⟩⟩
  · have e2 : upd H a (exo a C none) b = some o := same_new n _ _ e
    rw [upd_ne (ne_of_none e n), upd_ne (ne_of_none e2 nd)]
    exact e2
  · rw [upd_ne ne, upd_same]
theorem mkT (n : H a = none) (T : ExC K C bm new) (hf : findIn K (.ref C) "path" = some none) (hv : Da N H v d) (ht : SomeOk d) (hN : ∀ a, H a = none → ¬ N a) (q : ∀ H' t, Same H H' → Exn H' a C (some ("path", .ref t)) → Da N H' (.ref t) (tupOf d) → R H') :
    spIniT K bm new (.ref a :: ([v] ++ [])) (upd H a (exo a C none)) (fun v H2 => v = .non ∧ R H2) (fun _ _ _ => False) := by
  have sn : Same H (upd H a (exo a C none)) := same_new n
  have fin : ∀ {b : Addr} {xs : List V} {ds : List PyData}, (H b = some (.lst xs) ∨ H b = some (.tup xs)) → ¬ N b → Das N H xs ds → (∀ d ∈ ds, TellOk d) → ds.length ≤ 1000 → v = .ref b → tupOf d = .tuple ds →
      spIniT K bm new (.ref a :: ([v] ++ [])) (upd H a (exo a C none)) (fun v H2 => v = .non ∧ R H2) (fun _ _ _ => False) := by
    intro b xs ds hb nb hD h1 h2 ev ed
    refine ⟨N, a, C, b, xs, ds, by rw [ev]; rfl, upd_same, T, hf, hb.imp (sn _ _) (sn _ _), hD.keep (Same.keep sn), h1, h2, fun t dx H' et hor keep ea ex => ⟨rfl, ?_⟩⟩
    have sm : Same H H' := fun c o e => keep c o (ne_of_none e n) (sn _ _ e)
    refine q H' t sm ⟨dx, ea, ex⟩ ?_
    rw [ed]
    refine .tup et ?_ (hD.keep (Same.keep sm))
    rcases hor with h | h
    · rw [h]
      exact nb
    · refine hN t ?_
      by_cases z : t = a
      · rw [z]
        exact n
      · rwa [upd_ne z] at h
  cases hv with
  | lst e nb z hD => exact fin (.inl e) nb hD ht.1 ht.2 rfl rfl
  | tup e nb hD => exact fin (.inr e) nb hD ht.1 ht.2 rfl rfl
  | _ => exact ht.elim
end
section
variable {P : Program} {w : World} {K : PySem.W.Frag} {mg : Str → Option Value} {base : Heap} {G M c0 c1 c2 c3 c4 c5 c6 c7 c8 c9 c10 c11 c12 c13 c14 c15 c16 c17 f0 f1 f2 f3 f4 f5 f6 f7 f8 f9 f10 f11 f12 f13 f14 f15 f16 f17 : Addr} {q0 q1 q2 q3 q4 q5 q6 q7 q8 q9 q10 q11 q12 q13 q14 q15 q16 q17 : FuncData}
theorem scE : FnScope ["word", "number", "some", "found"] ["word", "number", "some"] (defScope sEvery) := ⟨rfl, rfl, rfl, by decide +kernel, rfl, by decide +kernel, by decide +kernel⟩
set_option maxHeartbeats 8000000 in
theorem ok_every {f : Addr} {fd : FuncData} (F : Fun K "_law_every" "_law_every" sEvery f fd) (T : Cs K mg G M c0 c1 c2 c3 c4 c5 c6 c7 c8 c9 c10 c11 c12 c13 c14 c15 c16 c17) (m0 : Mk P w K mg base c0 f0 q0 ["self"] (spIni0 K bmV "ValueError.__new__")) (m1 : Mk P w K mg base c1 f1 q1 ["self"] (spIni0 K bmV "ValueError.__new__")) (m2 : Mk P w K mg base c2 f2 q2 ["self"] (spIni0 K bmV "ValueError.__new__")) (m3 : Mk P w K mg base c3 f3 q3 ["self"] (spIni0 K bmV "ValueError.__new__")) (m4 : Mk P w K mg base c4 f4 q4 ["self", "name"] (spIni K bmV "ValueError.__new__" "name")) (m5 : Mk P w K mg base c5 f5 q5 ["self", "name"] (spIni K bmV "ValueError.__new__" "name")) (m6 : Mk P w K mg base c6 f6 q6 ["self", "name"] (spIni K bmV "ValueError.__new__" "name")) (m7 : Mk P w K mg base c7 f7 q7 ["self", "name"] (spIni K bmV "ValueError.__new__" "name")) (m8 : Mk P w K mg base c8 f8 q8 ["self", "word"] (spIni K bmV "ValueError.__new__" "word")) (m9 : Mk P w K mg base c9 f9 q9 ["self", "path"] (spIniT K bmV "ValueError.__new__")) (m10 : Mk P w K mg base c10 f10 q10 ["self", "place"] (spIni K bmV "ValueError.__new__" "place")) (m11 : Mk P w K mg base c11 f11 q11 ["self", "place"] (spIni K bmV "ValueError.__new__" "place")) (m12 : Mk P w K mg base c12 f12 q12 ["self", "number"] (spIni K bmV "ValueError.__new__" "number")) (m13 : Mk P w K mg base c13 f13 q13 ["self", "limit"] (spIni K bmV "ValueError.__new__" "limit")) (m14 : Mk P w K mg base c14 f14 q14 ["self", "name"] (spIni K bmL "LookupError.__new__" "name")) (m15 : Mk P w K mg base c15 f15 q15 ["self", "name"] (spIni K bmL "LookupError.__new__" "name")) (m16 : Mk P w K mg base c16 f16 q16 ["self", "number"] (spIni K bmL "LookupError.__new__" "number")) (m17 : Mk P w K mg base c17 f17 q17 ["self", "number"] (spIni K bmL "LookupError.__new__" "number")) (w4 : findIn K (.ref c4) "name" = some none) (w5 : findIn K (.ref c5) "name" = some none) (w6 : findIn K (.ref c6) "name" = some none) (w7 : findIn K (.ref c7) "name" = some none) (w8 : findIn K (.ref c8) "word" = some none) (w9 : findIn K (.ref c9) "path" = some none) (w10 : findIn K (.ref c10) "place" = some none) (w11 : findIn K (.ref c11) "place" = some none) (w12 : findIn K (.ref c12) "number" = some none) (w13 : findIn K (.ref c13) "limit" = some none) (w14 : findIn K (.ref c14) "name" = some none) (w15 : findIn K (.ref c15) "name" = some none) (w16 : findIn K (.ref c16) "number" = some none) (w17 : findIn K (.ref c17) "number" = some none) : FnOk P w K mg base CX0 4 f fd ["word", "number", "some"] (spEvery [c0, c1, c2, c3, c4, c5, c6, c7, c8, c9, c10, c11, c12, c13, c14, c15, c16, c17]) := by
  refine F.ok scE (fun vs H Q E h => ?_) (fun cdv A outer s H vs Q E hr h => ?_)
  · obtain ⟨N, vw, vn, vs', dw, dn, ds, rfl, _⟩ := h
    rfl
  · obtain ⟨N, vw, vn, vs', dw, dn, ds, rfl, hw, tw, hn, tn, hs, ts, hN, q⟩ := h
    refine ⟨_, pss_cons (ps_set (i := 3) scE.nd rfl (.inl rfl) (pe_lst (pa_cons (pe_mkx0 exB_VE ((T.cl 0 c0 rfl).lo (by decide)).1 m0.i m0.t m0.F hr m0.b .nil pass0 (by rfl) T.g0) (pa_cons (pe_mkx0 exB_VE ((T.cl 1 c1 rfl).lo (by decide)).1 m1.i m1.t m1.F hr m1.b .nil pass0 (by rfl) T.g1) (pa_cons (pe_mkx0 exB_VE ((T.cl 2 c2 rfl).lo (by decide)).1 m2.i m2.t m2.F hr m2.b .nil pass0 (by rfl) T.g2) (pa_cons (pe_mkx0 exB_VE ((T.cl 3 c3 rfl).lo (by decide)).1 m3.i m3.t m3.F hr m3.b .nil pass0 (by rfl) T.g3) pa_nil))))))
      (pss_cons (ps_set (i := 3) scE.nd rfl (.inl rfl) (pe_op op_cat (pv 3) (pe_lst (pa_cons (pe_mkx1 exB_VE ((T.cl 4 c4 rfl).lo (by decide)).1 m4.i m4.t m4.F hr m4.b .nil pass0 (by rfl) T.g4 (pa_cons (pv 0) pa_nil)) (pa_cons (pe_mkx1 exB_VE ((T.cl 5 c5 rfl).lo (by decide)).1 m5.i m5.t m5.F hr m5.b .nil pass0 (by rfl) T.g5 (pa_cons (pv 0) pa_nil)) (pa_cons (pe_mkx1 exB_VE ((T.cl 6 c6 rfl).lo (by decide)).1 m6.i m6.t m6.F hr m6.b .nil pass0 (by rfl) T.g6 (pa_cons (pv 0) pa_nil)) (pa_cons (pe_mkx1 exB_VE ((T.cl 7 c7 rfl).lo (by decide)).1 m7.i m7.t m7.F hr m7.b .nil pass0 (by rfl) T.g7 (pa_cons (pv 0) pa_nil)) (pa_cons (pe_mkx1 exB_VE ((T.cl 8 c8 rfl).lo (by decide)).1 m8.i m8.t m8.F hr m8.b .nil pass0 (by rfl) T.g8 (pa_cons (pv 0) pa_nil)) pa_nil))))))))
      (pss_cons (ps_set (i := 3) scE.nd rfl (.inl rfl) (pe_op op_cat (pv 3) (pe_lst (pa_cons (pe_mkx1 exB_VE ((T.cl 9 c9 rfl).lo (by decide)).1 m9.i m9.t m9.F hr m9.b .nil pass0 (by rfl) T.g9 (pa_cons (pv 2) pa_nil)) (pa_cons (pe_mkx1 exB_VE ((T.cl 10 c10 rfl).lo (by decide)).1 m10.i m10.t m10.F hr m10.b .nil pass0 (by rfl) T.g10 (pa_cons (pv 1) pa_nil)) (pa_cons (pe_mkx1 exB_VE ((T.cl 11 c11 rfl).lo (by decide)).1 m11.i m11.t m11.F hr m11.b .nil pass0 (by rfl) T.g11 (pa_cons (pv 2) pa_nil)) (pa_cons (pe_mkx1 exB_VE ((T.cl 12 c12 rfl).lo (by decide)).1 m12.i m12.t m12.F hr m12.b .nil pass0 (by rfl) T.g12 (pa_cons (pv 1) pa_nil)) (pa_cons (pe_mkx1 exB_VE ((T.cl 13 c13 rfl).lo (by decide)).1 m13.i m13.t m13.F hr m13.b .nil pass0 (by rfl) T.g13 (pa_cons (pv 1) pa_nil)) pa_nil))))))))
      (pss_one (ps_ret (pe_op op_cat (pv 3) (pe_lst (pa_cons (pe_mkx1 exB_LE ((T.cl 14 c14 rfl).hi (by decide)).1 m14.i m14.t m14.F hr m14.b .nil pass0 (by rfl) T.g14 (pa_cons (pv 0) pa_nil)) (pa_cons (pe_mkx1 exB_LE ((T.cl 15 c15 rfl).hi (by decide)).1 m15.i m15.t m15.F hr m15.b .nil pass0 (by rfl) T.g15 (pa_cons (pv 0) pa_nil)) (pa_cons (pe_mkx1 exB_LE ((T.cl 16 c16 rfl).hi (by decide)).1 m16.i m16.t m16.F hr m16.b .nil pass0 (by rfl) T.g16 (pa_cons (pv 1) pa_nil)) (pa_cons (pe_mkx1 exB_LE ((T.cl 17 c17 rfl).hi (by decide)).1 m17.i m17.t m17.F hr m17.b .nil pass0 (by rfl) T.g17 (pa_cons (pv 1) pa_nil)) pa_nil)))))))))), ?_⟩
    have hN0 : ∀ a, H a = none → ¬ N a := hN
    have r0 := Same.refl H
    refine ⟨by show 0 ≤ 1000; decide, fun e0 n0 => mk0 n0 ((T.cl 0 c0 rfl).lo (by decide)).1 fun H1 s1 x0 => ?_⟩
    have r1 : Same H H1 := r0.trans s1
    refine ⟨by show 0 ≤ 1000; decide, fun e1 n1 => mk0 n1 ((T.cl 1 c1 rfl).lo (by decide)).1 fun H2 s2 x1 => ?_⟩
    have r2 : Same H H2 := r1.trans s2
    refine ⟨by show 0 ≤ 1000; decide, fun e2 n2 => mk0 n2 ((T.cl 2 c2 rfl).lo (by decide)).1 fun H3 s3 x2 => ?_⟩
    have r3 : Same H H3 := r2.trans s3
    refine ⟨by show 0 ≤ 1000; decide, fun e3 n3 => mk0 n3 ((T.cl 3 c3 rfl).lo (by decide)).1 fun H4 s4 x3 => ?_⟩
    have r4 : Same H H4 := r3.trans s4
    refine ⟨by show 4 ≤ sizeLine; decide, fun l0 nl0 => ?_⟩
    obtain ⟨H5, z, s5, el0⟩ := fresh nl0 (.lst [V.ref e0, V.ref e1, V.ref e2, V.ref e3])
    rw [z]
    clear z
    have r5 : Same H H5 := r4.trans s5
    have em0 := el0
    refine ⟨_, rfl, ?_⟩
    refine ⟨_, rfl, by show 1 ≤ 1000; decide, fun e4 n4 => mk1 n4 ((T.cl 4 c4 rfl).lo (by decide)).1 w4 (hw.keep (Same.keep r5)) tw fun H6 s6 x4 => ?_⟩
    have r6 : Same H H6 := r5.trans s6
    refine ⟨_, rfl, by show 1 ≤ 1000; decide, fun e5 n5 => mk1 n5 ((T.cl 5 c5 rfl).lo (by decide)).1 w5 (hw.keep (Same.keep r6)) tw fun H7 s7 x5 => ?_⟩
    have r7 : Same H H7 := r6.trans s7
    refine ⟨_, rfl, by show 1 ≤ 1000; decide, fun e6 n6 => mk1 n6 ((T.cl 6 c6 rfl).lo (by decide)).1 w6 (hw.keep (Same.keep r7)) tw fun H8 s8 x6 => ?_⟩
    have r8 : Same H H8 := r7.trans s8
    refine ⟨_, rfl, by show 1 ≤ 1000; decide, fun e7 n7 => mk1 n7 ((T.cl 7 c7 rfl).lo (by decide)).1 w7 (hw.keep (Same.keep r8)) tw fun H9 s9 x7 => ?_⟩
    have r9 : Same H H9 := r8.trans s9
    refine ⟨_, rfl, by show 1 ≤ 1000; decide, fun e8 n8 => mk1 n8 ((T.cl 8 c8 rfl).lo (by decide)).1 w8 (hw.keep (Same.keep r9)) tw fun H10 s10 x8 => ?_⟩
    have r10 : Same H H10 := r9.trans s10
    refine ⟨by show 5 ≤ sizeLine; decide, fun l1 nl1 => ?_⟩
    obtain ⟨H11, z, s11, el1⟩ := fresh nl1 (.lst [V.ref e4, V.ref e5, V.ref e6, V.ref e7, V.ref e8])
    rw [z]
    clear z
    have r11 : Same H H11 := r10.trans s11
    refine ⟨_, _, _, _, rfl, rfl, (((((((Same.refl H5).trans s6).trans s7).trans s8).trans s9).trans s10).trans s11) _ _ em0, el1, by show 4 + 5 ≤ sizeLine; decide, fun m1_ nm1 => ?_⟩
    obtain ⟨H12, z, s12, em1⟩ := fresh nm1 (.lst [V.ref e0, V.ref e1, V.ref e2, V.ref e3, V.ref e4, V.ref e5, V.ref e6, V.ref e7, V.ref e8])
    erw [z]
    clear z
    have r12 : Same H H12 := r11.trans s12
    refine ⟨_, rfl, ?_⟩
    refine ⟨_, rfl, by show 1 ≤ 1000; decide, fun e9 n9 => mkT n9 ((T.cl 9 c9 rfl).lo (by decide)).1 w9 (hs.keep (Same.keep r12)) ts (fun a na => hN a ((r12).free na)) fun H13 t s13 x9 ht => ?_⟩
    have r13 : Same H H13 := r12.trans s13
    refine ⟨_, rfl, by show 1 ≤ 1000; decide, fun e10 n10 => mk1 n10 ((T.cl 10 c10 rfl).lo (by decide)).1 w10 (hn.keep (Same.keep r13)) tn fun H14 s14 x10 => ?_⟩
    have r14 : Same H H14 := r13.trans s14
    refine ⟨_, rfl, by show 1 ≤ 1000; decide, fun e11 n11 => mk1 n11 ((T.cl 11 c11 rfl).lo (by decide)).1 w11 (hs.keep (Same.keep r14)) (someTell ts) fun H15 s15 x11 => ?_⟩
    have r15 : Same H H15 := r14.trans s15
    refine ⟨_, rfl, by show 1 ≤ 1000; decide, fun e12 n12 => mk1 n12 ((T.cl 12 c12 rfl).lo (by decide)).1 w12 (hn.keep (Same.keep r15)) tn fun H16 s16 x12 => ?_⟩
    have r16 : Same H H16 := r15.trans s16
    refine ⟨_, rfl, by show 1 ≤ 1000; decide, fun e13 n13 => mk1 n13 ((T.cl 13 c13 rfl).lo (by decide)).1 w13 (hn.keep (Same.keep r16)) tn fun H17 s17 x13 => ?_⟩
    have r17 : Same H H17 := r16.trans s17
    refine ⟨by show 5 ≤ sizeLine; decide, fun l2 nl2 => ?_⟩
    obtain ⟨H18, z, s18, el2⟩ := fresh nl2 (.lst [V.ref e9, V.ref e10, V.ref e11, V.ref e12, V.ref e13])
    rw [z]
    clear z
    have r18 : Same H H18 := r17.trans s18
    refine ⟨_, _, _, _, rfl, rfl, (((((((Same.refl H12).trans s13).trans s14).trans s15).trans s16).trans s17).trans s18) _ _ em1, el2, by show 9 + 5 ≤ sizeLine; decide, fun m2_ nm2 => ?_⟩
    obtain ⟨H19, z, s19, em2⟩ := fresh nm2 (.lst [V.ref e0, V.ref e1, V.ref e2, V.ref e3, V.ref e4, V.ref e5, V.ref e6, V.ref e7, V.ref e8, V.ref e9, V.ref e10, V.ref e11, V.ref e12, V.ref e13])
    erw [z]
    clear z
    have r19 : Same H H19 := r18.trans s19
    refine ⟨_, rfl, ?_⟩
    refine ⟨_, rfl, by show 1 ≤ 1000; decide, fun e14 n14 => mk1 n14 ((T.cl 14 c14 rfl).hi (by decide)).1 w14 (hw.keep (Same.keep r19)) tw fun H20 s20 x14 => ?_⟩
    have r20 : Same H H20 := r19.trans s20
    refine ⟨_, rfl, by show 1 ≤ 1000; decide, fun e15 n15 => mk1 n15 ((T.cl 15 c15 rfl).hi (by decide)).1 w15 (hw.keep (Same.keep r20)) tw fun H21 s21 x15 => ?_⟩
    have r21 : Same H H21 := r20.trans s21
    refine ⟨_, rfl, by show 1 ≤ 1000; decide, fun e16 n16 => mk1 n16 ((T.cl 16 c16 rfl).hi (by decide)).1 w16 (hn.keep (Same.keep r21)) tn fun H22 s22 x16 => ?_⟩
    have r22 : Same H H22 := r21.trans s22
    refine ⟨_, rfl, by show 1 ≤ 1000; decide, fun e17 n17 => mk1 n17 ((T.cl 17 c17 rfl).hi (by decide)).1 w17 (hn.keep (Same.keep r22)) tn fun H23 s23 x17 => ?_⟩
    have r23 : Same H H23 := r22.trans s23
    refine ⟨by show 4 ≤ sizeLine; decide, fun l3 nl3 => ?_⟩
    obtain ⟨H24, z, s24, el3⟩ := fresh nl3 (.lst [V.ref e14, V.ref e15, V.ref e16, V.ref e17])
    rw [z]
    clear z
    have r24 : Same H H24 := r23.trans s24
    refine ⟨_, _, _, _, rfl, rfl, ((((((Same.refl H19).trans s20).trans s21).trans s22).trans s23).trans s24) _ _ em2, el3, by show 14 + 4 ≤ sizeLine; decide, fun m3_ nm3 => ?_⟩
    obtain ⟨H25, z, s25, em3⟩ := fresh nm3 (.lst [V.ref e0, V.ref e1, V.ref e2, V.ref e3, V.ref e4, V.ref e5, V.ref e6, V.ref e7, V.ref e8, V.ref e9, V.ref e10, V.ref e11, V.ref e12, V.ref e13, V.ref e14, V.ref e15, V.ref e16, V.ref e17])
    erw [z]
    have r25 : Same H H25 := r24.trans s25
    refine q _ [e0, e1, e2, e3, e4, e5, e6, e7, e8, e9, e10, e11, e12, e13, e14, e15, e16, e17] t _ r25 em3 ⟨x0.same (Same.trans (Same.trans (Same.trans (Same.trans (Same.trans (Same.trans (Same.trans (Same.trans (Same.trans (Same.trans (Same.trans (Same.trans (Same.trans (Same.trans (Same.trans (Same.trans (Same.trans (Same.trans (Same.trans (Same.trans (Same.trans (Same.trans (Same.trans s2 s3) s4) s5) s6) s7) s8) s9) s10) s11) s12) s13) s14) s15) s16) s17) s18) s19) s20) s21) s22) s23) s24) s25), x1.same (Same.trans (Same.trans (Same.trans (Same.trans (Same.trans (Same.trans (Same.trans (Same.trans (Same.trans (Same.trans (Same.trans (Same.trans (Same.trans (Same.trans (Same.trans (Same.trans (Same.trans (Same.trans (Same.trans (Same.trans (Same.trans (Same.trans s3 s4) s5) s6) s7) s8) s9) s10) s11) s12) s13) s14) s15) s16) s17) s18) s19) s20) s21) s22) s23) s24) s25), x2.same (Same.trans (Same.trans (Same.trans (Same.trans (Same.trans (Same.trans (Same.trans (Same.trans (Same.trans (Same.trans (Same.trans (Same.trans (Same.trans (Same.trans (Same.trans (Same.trans (Same.trans (Same.trans (Same.trans (Same.trans (Same.trans s4 s5) s6) s7) s8) s9) s10) s11) s12) s13) s14) s15) s16) s17) s18) s19) s20) s21) s22) s23) s24) s25), x3.same (Same.trans (Same.trans (Same.trans (Same.trans (Same.trans (Same.trans (Same.trans (Same.trans (Same.trans (Same.trans (Same.trans (Same.trans (Same.trans (Same.trans (Same.trans (Same.trans (Same.trans (Same.trans (Same.trans (Same.trans s5 s6) s7) s8) s9) s10) s11) s12) s13) s14) s15) s16) s17) s18) s19) s20) s21) s22) s23) s24) s25), x4.same (Same.trans (Same.trans (Same.trans (Same.trans (Same.trans (Same.trans (Same.trans (Same.trans (Same.trans (Same.trans (Same.trans (Same.trans (Same.trans (Same.trans (Same.trans (Same.trans (Same.trans (Same.trans s7 s8) s9) s10) s11) s12) s13) s14) s15) s16) s17) s18) s19) s20) s21) s22) s23) s24) s25), x5.same (Same.trans (Same.trans (Same.trans (Same.trans (Same.trans (Same.trans (Same.trans (Same.trans (Same.trans (Same.trans (Same.trans (Same.trans (Same.trans (Same.trans (Same.trans (Same.trans (Same.trans s8 s9) s10) s11) s12) s13) s14) s15) s16) s17) s18) s19) s20) s21) s22) s23) s24) s25), x6.same (Same.trans (Same.trans (Same.trans (Same.trans (Same.trans (Same.trans (Same.trans (Same.trans (Same.trans (Same.trans (Same.trans (Same.trans (Same.trans (Same.trans (Same.trans (Same.trans s9 s10) s11) s12) s13) s14) s15) s16) s17) s18) s19) s20) s21) s22) s23) s24) s25), x7.same (Same.trans (Same.trans (Same.trans (Same.trans (Same.trans (Same.trans (Same.trans (Same.trans (Same.trans (Same.trans (Same.trans (Same.trans (Same.trans (Same.trans (Same.trans s10 s11) s12) s13) s14) s15) s16) s17) s18) s19) s20) s21) s22) s23) s24) s25), x8.same (Same.trans (Same.trans (Same.trans (Same.trans (Same.trans (Same.trans (Same.trans (Same.trans (Same.trans (Same.trans (Same.trans (Same.trans (Same.trans (Same.trans s11 s12) s13) s14) s15) s16) s17) s18) s19) s20) s21) s22) s23) s24) s25), x9.same (Same.trans (Same.trans (Same.trans (Same.trans (Same.trans (Same.trans (Same.trans (Same.trans (Same.trans (Same.trans (Same.trans s14 s15) s16) s17) s18) s19) s20) s21) s22) s23) s24) s25), x10.same (Same.trans (Same.trans (Same.trans (Same.trans (Same.trans (Same.trans (Same.trans (Same.trans (Same.trans (Same.trans s15 s16) s17) s18) s19) s20) s21) s22) s23) s24) s25), x11.same (Same.trans (Same.trans (Same.trans (Same.trans (Same.trans (Same.trans (Same.trans (Same.trans (Same.trans s16 s17) s18) s19) s20) s21) s22) s23) s24) s25), x12.same (Same.trans (Same.trans (Same.trans (Same.trans (Same.trans (Same.trans (Same.trans (Same.trans s17 s18) s19) s20) s21) s22) s23) s24) s25), x13.same (Same.trans (Same.trans (Same.trans (Same.trans (Same.trans (Same.trans (Same.trans s18 s19) s20) s21) s22) s23) s24) s25), x14.same (Same.trans (Same.trans (Same.trans (Same.trans s21 s22) s23) s24) s25), x15.same (Same.trans (Same.trans (Same.trans s22 s23) s24) s25), x16.same (Same.trans (Same.trans s23 s24) s25), x17.same (Same.trans s24 s25), trivial⟩ (ht.keep (Same.keep (Same.trans (Same.trans (Same.trans (Same.trans (Same.trans (Same.trans (Same.trans (Same.trans (Same.trans (Same.trans (Same.trans s14 s15) s16) s17) s18) s19) s20) s21) s22) s23) s24) s25)))
end
end K00
/-! K00, 6: what was handed over is kept -/
namespace K00
open PySem PySem.Spec PyProof.Rows L2 Ver
open PySem.W (findIn clsIn typeIn kitOne)
abbrev sKept : Stmt := top 28
theorem Evs.at {H : Hp} : ∀ {es cs : List Addr} {os : List (Option (Str × V))} {k : Nat} {C : Addr} {o : Option (Str × V)}, Evs H es cs os → cs[k]? = some C → os[k]? = some o → ∃ e, (es.map V.ref)[k]? = some (.ref e) ∧ Exn H e C o
  | [], [], [], k, _, _, _, a, _ => by simp at a
  | e :: es, C :: cs, o :: os, 0, _, _, ⟨h1, _⟩, a, b => by
    simp at a b
    subst a b
    exact ⟨e, rfl, h1⟩
  | e :: es, C :: cs, o :: os, k + 1, _, _, ⟨_, h2⟩, a, b => by
    obtain ⟨x, p, q⟩ := Evs.at (k := k) h2 (by simpa using a) (by simpa using b)
    exact ⟨x, by simpa using p, q⟩
  | [], _ :: _, _, _, _, _, h, _, _ => h.elim
  | [], [], _ :: _, _, _, _, h, _, _ => h.elim
  | _ :: _, [], _, _, _, _, h, _, _ => h.elim
  | _ :: _, _ :: _, [], _, _, _, h, _, _ => h.elim
theorem Evs.len {H : Hp} : ∀ {es cs : List Addr} {os : List (Option (Str × V))}, Evs H es cs os → es.length = cs.length
  | [], [], [], _ => rfl
  | _ :: _, _ :: _, _ :: _, ⟨_, h⟩ => congrArg (· + 1) (Evs.len h)
  | [], _ :: _, _, h => h.elim
  | [], [], _ :: _, h => h.elim
  | _ :: _, [], _, h => h.elim
  | _ :: _, _ :: _, [], h => h.elim
/-- the parts of a thing that the classes for lists take -/
theorem some_parts {N : Addr → Prop} {H : Hp} {v : V} {d : PyData} (h : Da N H v d) (ok : SomeOk d) : ∃ b xs es, v = .ref b ∧ (H b = some (.lst xs) ∨ H b = some (.tup xs)) ∧ ¬ N b ∧ Das N H xs es ∧ tupOf d = .tuple es := by
  cases h with
  | lst e n z hD => exact ⟨_, _, _, rfl, .inl e, n, hD, rfl⟩
  | tup e n hD => exact ⟨_, _, _, rfl, .inr e, n, hD, rfl⟩
  | _ => exact ok.elim
/-- what reading a field asks -/
structure FldAt (K : PySem.W.Frag) (H : Hp) (e : Addr) (f : Str) (v : V) : Prop where
  ex : ∃ (bm : List Value) (new : String) (C dx : Addr), ExC K C bm new ∧ findIn K (.ref C) f = some none ∧ H e = some (exo e C (some dx)) ∧ H dx = some (exd dx [(f, v)])
theorem FldAt.same {K : PySem.W.Frag} {H H' : Hp} {e : Addr} {f : Str} {v : V} (k : Same H H') : FldAt K H e f v → FldAt K H' e f v
  | ⟨bm, new, C, dx, T, hf, h1, h2⟩ => ⟨bm, new, C, dx, T, hf, k _ _ h1, k _ _ h2⟩
theorem fld_look {f : Str} {v : V} : ([(f, v)] : List (Str × V)).lookup f = some v := by simp
/-- small: it can be shown in a text of at most two hundred signs -/
abbrev Sma (d : PyData) : Prop := Fit 200 2 d
theorem fit_reps {d : PyData} {m : Nat} (h : Sma d) (hm : m ≤ 6) : Fit 100000 3 (.list (List.replicate m d)) := by
  refine fit_lst (n := 200) (k := 2) (fun e he => ?_) ?_
  · rw [List.eq_of_mem_replicate he]
    exact h
  · rw [List.length_replicate]
    omega
theorem das_reps {N : Addr → Prop} {H : Hp} {v : V} {d : PyData} (h : Da N H v d) : ∀ m, Das N H (List.replicate m v) (List.replicate m d)
  | 0 => .nil
  | m + 1 => .cons h (das_reps h m)
theorem ne_same {x : V} : (!decide (x = x)) = false := by simp
theorem eq_same {x : V} : decide (x = x) = true := by simp
structure GlobK (mg : Str → Option Value) : Prop where
  repr : mg "repr" = none
  tuple : mg "tuple" = none
def spKept (cs : List Addr) : Sp := fun vs H Q _ => ∃ (N : Addr → Prop) (L : Addr) (es : List Addr) (t : Addr) (vw vn vs' : V) (dw dn ds : PyData), vs = [.ref L, vw, vn, vs'] ∧ H L = some (.lst (es.map V.ref)) ∧ Evs H es cs (fos vw vn vs' t) ∧
  Da N H vw dw ∧ Sma dw ∧ Da N H vn dn ∧ Sma dn ∧ Da N H vs' ds ∧ Sma ds ∧ SomeOk ds ∧ Da N H (.ref t) (tupOf ds) ∧ Sma (tupOf ds) ∧ (∀ a, H a = none → ¬ N a) ∧ ∀ H', Same H H' → Q (.bl true) H'
section
variable {P : Program} {w : World} {K : PySem.W.Frag} {mg : Str → Option Value} {base : Heap} {G M c0 c1 c2 c3 c4 c5 c6 c7 c8 c9 c10 c11 c12 c13 c14 c15 c16 c17 : Addr}
abbrev nKept : List Str := ["every", "word", "number", "some", "names", "k", "numbers"]
theorem scKe : FnScope nKept ["every", "word", "number", "some"] (defScope sKept) := ⟨rfl, rfl, rfl, by decide +kernel, rfl, by decide +kernel, by decide +kernel⟩
theorem ok_kept {f : Addr} {fd : FuncData} (F : Fun K "_law_kept" "_law_kept" sKept f fd) (T : Cs K mg G M c0 c1 c2 c3 c4 c5 c6 c7 c8 c9 c10 c11 c12 c13 c14 c15 c16 c17) (U : GlobK mg)
    (w4 : findIn K (.ref c4) "name" = some none) (w5 : findIn K (.ref c5) "name" = some none) (w6 : findIn K (.ref c6) "name" = some none) (w7 : findIn K (.ref c7) "name" = some none)
    (w8 : findIn K (.ref c8) "word" = some none) (w9 : findIn K (.ref c9) "path" = some none) (w10 : findIn K (.ref c10) "place" = some none) (w11 : findIn K (.ref c11) "place" = some none)
    (w12 : findIn K (.ref c12) "number" = some none) (w13 : findIn K (.ref c13) "limit" = some none) (w14 : findIn K (.ref c14) "name" = some none) (w15 : findIn K (.ref c15) "name" = some none)
    (w16 : findIn K (.ref c16) "number" = some none) (w17 : findIn K (.ref c17) "number" = some none) :
    FnQ P w K mg base CX0 1 f fd ["every", "word", "number", "some"] (spKept [c0, c1, c2, c3, c4, c5, c6, c7, c8, c9, c10, c11, c12, c13, c14, c15, c16, c17]) := by
  refine fnQ_ok F scKe (fun vs H Q E h => ?_) (fun cdv A outer s H vs Q E hg hr h => ?_)
  · obtain ⟨N, L, es, t, vw, vn, vs', dw, dn, ds, rfl, _⟩ := h
    rfl
  · obtain ⟨N, L, es, t, vw, vn, vs', dw, dn, ds, rfl, hL, hE, hw, fw, hn, fn, hs, fs, os, ht, ft, hN, q⟩ := h
    have hq : (A.deeper (envOfC "_law_kept" (defScope sKept) s.heap.objs.size f cdv)).guards = some [] := hg
    have hu4 : (A.deeper (envOfC "_law_kept" (defScope sKept) s.heap.objs.size f cdv)).units + (3 + 1) < cLine := Nat.lt_of_le_of_lt (Nat.add_le_add_left (by decide) _) hr.units
    have nb : 100000 ≤ sizeLine := by decide
    refine ⟨_, pss_cons (ps_setLc (i := 4) (own := [("k", 5)]) (g := gName 5) (tt := tYes) rfl scKe.nd rfl rfl rfl (pi_list (pe_lst (pa_cons pe_int (pa_cons pe_int (pa_cons pe_int (pa_cons pe_int (pa_cons pe_int (pa_cons pe_int pa_nil))))))))
          (blkOk_by (N := nKept) (sc := defScope sKept) (by decide +kernel)) (fun _ _ _ _ _ => pg_name (i := 5) scKe.nd rfl (.inl rfl)) (fun _ _ _ _ _ => pts_nil)
          (fun _ _ _ _ _ => pe_xfldK (K := K) rfl (pe_ix (r := rIxL K) ix_list (pv 0) (pv 5) (fun _ _ => rfl))))
      (pss_cons (ps_if (PW.pt (pw_or (pt_cmpR op_ne (pe_callB (call_reprL hq hu4 nb) (by rfl) U.repr (by decide +kernel) (pa_cons (pv 4) pa_nil)) (pe_callB (call_reprL hq hu4 nb) (by rfl) U.repr (by decide +kernel) (pa_cons (pe_op op_rep (pe_lst (pa_cons (pv 1) pa_nil)) pe_int) pa_nil)) (nomark _))
          (pw_or1 (pt_cmpR op_ne (pe_callB (call_reprE hq hu4 nb) (by rfl) U.repr (by decide +kernel) (pa_cons (pe_xfld (pe_ix ix_list (pv 0) pe_int (fun _ _ => rfl))) pa_nil)) (pe_callB (call_reprE hq hu4 nb) (by rfl) U.repr (by decide +kernel) (pa_cons (pv 1) pa_nil)) (nomark _)))))
        (pss_one (ps_ret pe_bl)) pss_nil)
      (pss_cons (ps_if (PW.pt (pw_or (pt_cmpR op_ne (pe_callB (call_reprE hq hu4 nb) (by rfl) U.repr (by decide +kernel) (pa_cons (pe_xfld (pe_ix ix_list (pv 0) pe_int (fun _ _ => rfl))) pa_nil)) (pe_callB (call_reprE hq hu4 nb) (by rfl) U.repr (by decide +kernel) (pa_cons (pe_callTy call_tupU (by rfl) U.tuple (by decide +kernel) (pa_cons (pv 3) pa_nil)) pa_nil)) (nomark _))
          (pw_or1 (pt_cmpR op_ne (pe_callB (call_reprL hq hu4 nb) (by rfl) U.repr (by decide +kernel) (pa_cons (pe_lst (pa_cons (pe_xfld (pe_ix ix_list (pv 0) pe_int (fun _ _ => rfl))) (pa_cons (pe_xfld (pe_ix ix_list (pv 0) pe_int (fun _ _ => rfl))) pa_nil))) pa_nil))
            (pe_callB (call_reprL hq hu4 nb) (by rfl) U.repr (by decide +kernel) (pa_cons (pe_lst (pa_cons (pv 2) (pa_cons (pv 3) pa_nil))) pa_nil)) (nomark _)))))
        (pss_one (ps_ret pe_bl)) pss_nil)
      (pss_cons (ps_set (i := 6) scKe.nd rfl (.inl rfl) (pe_lst (pa_cons (pe_xfld (pe_ix ix_list (pv 0) pe_int (fun _ _ => rfl))) (pa_cons (pe_xfld (pe_ix ix_list (pv 0) pe_int (fun _ _ => rfl))) (pa_cons (pe_xfld (pe_ix ix_list (pv 0) pe_int (fun _ _ => rfl))) (pa_cons (pe_xfld (pe_ix ix_list (pv 0) pe_int (fun _ _ => rfl))) pa_nil))))))
      (pss_one (ps_ret (pe_cmpR op_eq (pe_callB (call_reprL hq hu4 nb) (by rfl) U.repr (by decide +kernel) (pa_cons (pv 6) pa_nil)) (pe_callB (call_reprL hq hu4 nb) (by rfl) U.repr (by decide +kernel) (pa_cons (pe_op op_rep (pe_lst (pa_cons (pv 2) pa_nil)) pe_int) pa_nil)) (nomark _))))))), ?_⟩
    have fld : ∀ (k : Nat) (C : Addr) (f : Str) (v : V), [c0, c1, c2, c3, c4, c5, c6, c7, c8, c9, c10, c11, c12, c13, c14, c15, c16, c17][k]? = some C → (fos vw vn vs' t)[k]? = some (some (f, v)) → findIn K (.ref C) f = some none →
        ∃ e, atI (es.map V.ref) (k : Int) = some (.ref e) ∧ FldAt K H e f v := by
      intro k C f v hC ho hf
      obtain ⟨e, h1, dx, h2, h3⟩ := hE.at hC ho
      obtain ⟨bm, new, X⟩ := T.ex hC
      exact ⟨e, atI_nat h1, bm, new, C, dx, X, hf, h2, h3⟩
    have names : ∀ (i : Nat) (y : V), ([.int 4, .int 5, .int 6, .int 7, .int 14, .int 15] : List V)[i]? = some y → ∃ (k : Int) (e : Addr), y = .int k ∧ atI (es.map V.ref) k = some (.ref e) ∧ FldAt K H e "name" vw := by
      intro i y hi
      match i, hi with
      | 0, hi => cases hi; obtain ⟨e, h1, h2⟩ := fld 4 c4 "name" vw rfl rfl w4; exact ⟨_, e, rfl, h1, h2⟩
      | 1, hi => cases hi; obtain ⟨e, h1, h2⟩ := fld 5 c5 "name" vw rfl rfl w5; exact ⟨_, e, rfl, h1, h2⟩
      | 2, hi => cases hi; obtain ⟨e, h1, h2⟩ := fld 6 c6 "name" vw rfl rfl w6; exact ⟨_, e, rfl, h1, h2⟩
      | 3, hi => cases hi; obtain ⟨e, h1, h2⟩ := fld 7 c7 "name" vw rfl rfl w7; exact ⟨_, e, rfl, h1, h2⟩
      | 4, hi => cases hi; obtain ⟨e, h1, h2⟩ := fld 14 c14 "name" vw rfl rfl w14; exact ⟨_, e, rfl, h1, h2⟩
      | 5, hi => cases hi; obtain ⟨e, h1, h2⟩ := fld 15 c15 "name" vw rfl rfl w15; exact ⟨_, e, rfl, h1, h2⟩
      | n + 6, hi => simp at hi
    -- names = [..]
    refine ⟨by show 6 ≤ sizeLine; decide, fun I nI => ?_⟩
    obtain ⟨H1, z, s1, e1⟩ := fresh nI (.lst [.int 4, .int 5, .int 6, .int 7, .int 14, .int 15])
    rw [z]
    clear z
    refine ⟨I, rfl, ⟨_, SqL.of e1⟩, fun D nD => lc_list (K := K) (a := I) (xs := [.int 4, .int 5, .int 6, .int 7, .int 14, .int 15]) (fun i H2 => Same H1 H2 ∧ H2 D = some (.lst (List.replicate i vw))) ⟨same_new nD, upd_same⟩ (fun i H2 _ ⟨sm, _⟩ => SqL.of (sm _ _ e1)) ?_ ?_⟩
    · rintro i y H2 hi ⟨sm, eD⟩
      obtain ⟨k, e, rfl, hk, hf⟩ := names i y hi
      obtain ⟨bm, new, C, dx, X, nf, h1, h2⟩ := hf.same (s1.trans sm)
      have hi6 : i < 6 := by simpa using (List.getElem?_eq_some_iff.mp hi).1
      refine ⟨rfl, _, rfl, _, rfl, L, _, k, .ref e, rfl, rfl, SqL.of (sm _ _ (s1 _ _ hL)), hk, bm, new, e, C, dx, _, vw, rfl, X, nf, h1, h2, fld_look, _, eD, by rw [List.length_replicate]; exact small1000 (by omega), ?_⟩
      refine ⟨fun b o z => by rw [upd_ne (ne_of_none z nD)]; exact sm b o z, ?_⟩
      rw [upd_same, List.replicate_succ']
    rintro H2 ⟨sm, eD⟩
    have S2 : Same H H2 := s1.trans sm
    -- the first question
    refine ⟨_, rfl, N, D, _, List.replicate 6 dw, rfl, eD, by simp, (das_reps hw 6).keep (Same.keep S2), fit_reps fw (by decide), _, rfl, by show 1 ≤ sizeLine; decide, fun l nl => ?_⟩
    obtain ⟨H3, z, s3, e3⟩ := fresh nl (.lst [vw])
    rw [z]
    clear z
    refine ⟨l, 6, [vw], rfl, rfl, e3, by decide, by decide, by show 6 ≤ sizeLine; decide, fun p np => ?_⟩
    obtain ⟨H4, z, s4, e4⟩ := fresh np (.lst [vw, vw, vw, vw, vw, vw])
    erw [z]
    clear z
    have S4 : Same H H4 := S2.trans (s3.trans s4)
    refine ⟨N, p, _, List.replicate 6 dw, rfl, e4, by simp, (das_reps hw 6).keep (Same.keep S4), fit_reps fw (by decide), rfl, ?_⟩
    rw [ne_same]
    have sm3 : ∀ {d : PyData}, Sma d → Fit 100000 3 d := fun h => h.mono (by decide) (by decide)
    -- the word
    obtain ⟨e8, k8, f8⟩ := fld 8 c8 "word" vw rfl rfl w8
    obtain ⟨bm8, nw8, C8, d8, X8, n8, x8, y8⟩ := f8.same S4
    refine ⟨_, rfl, _, rfl, L, _, 8, .ref e8, rfl, rfl, SqL.of (S4 _ _ hL), k8, bm8, nw8, e8, C8, d8, _, vw, rfl, X8, n8, x8, y8, fld_look, N, vw, dw, rfl, hw.keep (Same.keep S4), sm3 fw, _, rfl, N, vw, dw, rfl, hw.keep (Same.keep S4), sm3 fw, rfl, ?_⟩
    rw [ne_same]
    -- the path
    obtain ⟨e9, k9, f9⟩ := fld 9 c9 "path" (.ref t) rfl rfl w9
    obtain ⟨bm9, nw9, C9, d9, X9, n9, x9, y9⟩ := f9.same S4
    obtain ⟨b, xs, ps, rfl, hb, nb', hD, et⟩ := some_parts hs os
    refine ⟨_, rfl, _, rfl, L, _, 9, .ref e9, rfl, rfl, SqL.of (S4 _ _ hL), k9, bm9, nw9, e9, C9, d9, _, .ref t, rfl, X9, n9, x9, y9, fld_look, N, .ref t, tupOf ds, rfl, ht.keep (Same.keep S4), sm3 ft, _, rfl, b, xs, rfl, hb.imp (S4 _ _) (S4 _ _), fun t2 H5 s5 e5 hor => ?_⟩
    have S5 := S4.trans s5
    have nt2 : ¬ N t2 := by
      rcases hor with h | h
      · rw [h]
        exact nb'
      · exact hN _ (S4.free h)
    have ht2 : Da N H5 (.ref t2) (tupOf ds) := by
      rw [et]
      exact .tup e5 nt2 (hD.keep (Same.keep S5))
    refine ⟨N, .ref t2, tupOf ds, rfl, ht2, sm3 ft, rfl, ?_⟩
    rw [ne_same]
    -- the places
    obtain ⟨e10, k10, f10⟩ := fld 10 c10 "place" vn rfl rfl w10
    obtain ⟨e11, k11, f11⟩ := fld 11 c11 "place" (.ref b) rfl rfl w11
    obtain ⟨bm10, nw10, C10, d10, X10, n10, x10, y10⟩ := f10.same S5
    obtain ⟨bm11, nw11, C11, d11, X11, n11, x11, y11⟩ := f11.same S5
    refine ⟨_, rfl, _, rfl, L, _, 10, .ref e10, rfl, rfl, SqL.of (S5 _ _ hL), k10, bm10, nw10, e10, C10, d10, _, vn, rfl, X10, n10, x10, y10, fld_look, _, rfl, L, _, 11, .ref e11, rfl, rfl, SqL.of (S5 _ _ hL), k11, bm11, nw11, e11, C11, d11, _, .ref b, rfl, X11, n11, x11, y11, fld_look, by show 2 ≤ sizeLine; decide, fun l6 n6 => ?_⟩
    obtain ⟨H6, z, s6, e6⟩ := fresh n6 (.lst [vn, .ref b])
    rw [z]
    clear z
    have S6 := S5.trans s6
    have d2 : ∀ {H' : Hp}, Same H H' → Das N H' [vn, .ref b] [dn, ds] := fun S => .cons (hn.keep (Same.keep S)) (.cons (hs.keep (Same.keep S)) .nil)
    have f2 : Fit 100000 3 (.list [dn, ds]) := fit_lst (n := 200) (k := 2) (fun e he => by
      rcases List.mem_cons.mp he with rfl | he
      · exact fn
      · rw [List.mem_singleton.mp he]
        exact fs) (by show 2 * 202 + 2 ≤ 100000; decide)
    refine ⟨N, l6, _, [dn, ds], rfl, e6, by simp, d2 S6, f2, _, rfl, _, rfl, by show 2 ≤ sizeLine; decide, fun l7 n7 => ?_⟩
    obtain ⟨H7, z, s7, e7⟩ := fresh n7 (.lst [vn, .ref b])
    rw [z]
    clear z
    have S7 := S6.trans s7
    refine ⟨N, l7, _, [dn, ds], rfl, e7, by simp, d2 S7, f2, rfl, ?_⟩
    rw [ne_same]
    -- the numbers
    obtain ⟨e12, k12, f12⟩ := fld 12 c12 "number" vn rfl rfl w12
    obtain ⟨bm12, nw12, C12, d12, X12, n12, x12, y12⟩ := f12.same S7
    obtain ⟨e13, k13, f13⟩ := fld 13 c13 "limit" vn rfl rfl w13
    obtain ⟨bm13, nw13, C13, d13, X13, n13, x13, y13⟩ := f13.same S7
    obtain ⟨e16, k16, f16⟩ := fld 16 c16 "number" vn rfl rfl w16
    obtain ⟨bm16, nw16, C16, d16, X16, n16, x16, y16⟩ := f16.same S7
    obtain ⟨e17, k17, f17⟩ := fld 17 c17 "number" vn rfl rfl w17
    obtain ⟨bm17, nw17, C17, d17, X17, n17, x17, y17⟩ := f17.same S7
    refine ⟨_, rfl, _, rfl, L, _, 12, .ref e12, rfl, rfl, SqL.of (S7 _ _ hL), k12, bm12, nw12, e12, C12, d12, _, vn, rfl, X12, n12, x12, y12, fld_look, _, rfl, L, _, 13, .ref e13, rfl, rfl, SqL.of (S7 _ _ hL), k13, bm13, nw13, e13, C13, d13, _, vn, rfl, X13, n13, x13, y13, fld_look, _, rfl, L, _, 16, .ref e16, rfl, rfl, SqL.of (S7 _ _ hL), k16, bm16, nw16, e16, C16, d16, _, vn, rfl, X16, n16, x16, y16, fld_look, _, rfl, L, _, 17, .ref e17, rfl, rfl, SqL.of (S7 _ _ hL), k17, bm17, nw17, e17, C17, d17, _, vn, rfl, X17, n17, x17, y17, fld_look, by show 4 ≤ sizeLine; decide, fun l8 n8 => ?_⟩
    obtain ⟨H8, z, s8, e8'⟩ := fresh n8 (.lst [vn, vn, vn, vn])
    rw [z]
    clear z
    have S8 := S7.trans s8
    refine ⟨_, rfl, N, l8, _, List.replicate 4 dn, rfl, e8', by simp, (das_reps hn 4).keep (Same.keep S8), fit_reps fn (by decide), _, rfl, by show 1 ≤ sizeLine; decide, fun l9 n9' => ?_⟩
    obtain ⟨H9, z, s9, e9'⟩ := fresh n9' (.lst [vn])
    rw [z]
    clear z
    refine ⟨l9, 4, [vn], rfl, rfl, e9', by decide, by decide, by show 4 ≤ sizeLine; decide, fun la na => ?_⟩
    obtain ⟨Ha, z, sa, ea⟩ := fresh na (.lst [vn, vn, vn, vn])
    erw [z]
    clear z
    have Sa := S8.trans (s9.trans sa)
    refine ⟨N, la, _, List.replicate 4 dn, rfl, ea, by simp, (das_reps hn 4).keep (Same.keep Sa), fit_reps fn (by decide), rfl, ?_⟩
    rw [eq_same]
    exact q _ Sa
end
end K00
/-! K00, 7: the law -/
namespace K00
open PySem PySem.Spec PyProof.Rows L2 Ver
open PySem.W (findIn clsIn typeIn kitOne)
abbrev sLaw : Stmt := top 29
/-- a new address is none of the draws' -/
theorem Src.off {p c : Addr} {H : Hp} (S : Src p c H) {a : Addr} (h : H a = none) : ¬ Off p c a := by
  obtain ⟨_, ns, l, m, t, hp, hc, _⟩ := S
  rintro (e | e)
  · rw [e, hp] at h
    cases h
  · rw [e, hc] at h
    cases h
/-- a new object leaves the draws' state -/
theorem Src.new {p c : Addr} {H : Hp} (S : Src p c H) {a : Addr} {o : HO} (h : H a = none) : Src p c (upd H a o) := by
  obtain ⟨n, ns, l, m, t, hp, hc, hl⟩ := S
  exact ⟨n, ns, l, m, t, by rw [upd_ne (ne_of_none hp h)]; exact hp, by rw [upd_ne (ne_of_none hc h)]; exact hc, hl⟩
theorem Src.same {p c : Addr} {H H' : Hp} (S : Src p c H) (k : Same H H') : Src p c H' := by
  obtain ⟨n, ns, l, m, t, hp, hc, hl⟩ := S
  exact ⟨n, ns, l, m, t, k _ _ hp, k _ _ hc, hl⟩
theorem keep_new {N : Addr → Prop} {H H' : Hp} {a : Addr} {o : HO} (k : Keep N H H') (h : H' a = none) : Keep N H (upd H' a o) := fun b x e n => by
  rw [upd_ne (ne_of_none (k b x e n) h)]
  exact k b x e n
/-- what is new behind was not there ahead -/
theorem keep_none {p c : Addr} {H H' : Hp} (S : Src p c H) (k : Keep (Off p c) H H') {a : Addr} (h : H' a = none) (n : ¬ Off p c a) : H a = none := by
  cases e : H a with
  | none => rfl
  | some o =>
    rw [k a o e n] at h
    cases h
theorem at_int {α : Type} {xs : List α} {r : Int} (h0 : 0 ≤ r) (h1 : r < xs.length) : ∃ v, atI xs r = some v ∧ v ∈ xs := by
  obtain ⟨n, rfl⟩ := Int.eq_ofNat_of_zero_le h0
  have hi : n < xs.length := by omega
  exact ⟨xs[n], atI_nat (List.getElem?_eq_getElem hi), List.getElem_mem hi⟩
theorem new_obj {p c t : Addr} {H : Hp} (S : Src p c H) (n : H t = none) (o : HO) : ∃ H', upd H t o = H' ∧ Same H H' ∧ Src p c H' ∧ H' t = some o ∧ ¬ Off p c t := ⟨_, rfl, same_new n, S.new n, upd_same, S.off n⟩
/-- a list of flags, as data -/
def bls (l : List Bool) : PyData := .list (l.map .bool)
theorem dp_bls {K : PySem.W.Frag} {H : Hp} {L : Addr} {l : List Bool} (h : H L = some (.lst (l.map V.bl))) : Dp K H (.ref L) (bls l) := by
  refine .lst (SqL.of h) ?_
  clear h
  induction l with
  | nil => exact .nil
  | cons b r ih => exact .cons (.bl b) ih
theorem bls_can : ∀ l : List Bool, PyData.canLayAll0 (l.map .bool) = true ∧ PyData.depthAll (l.map .bool) = 0
  | [] => ⟨rfl, rfl⟩
  | b :: r => by
    obtain ⟨h1, h2⟩ := bls_can r
    exact ⟨by simpa [PyData.canLayAll0, PyData.canLay0] using h1, by simpa [PyData.depthAll, PyData.depth] using h2⟩
theorem bls_shaped (l : List Bool) : SeqAt.shaped (bls l) = true := by
  obtain ⟨h1, h2⟩ := bls_can l
  unfold SeqAt.shaped bls
  rw [Bool.and_eq_true, decide_eq_true_eq]
  refine ⟨by simpa [PyData.canLay0] using h1, ?_⟩
  show PyData.depthAll (l.map .bool) + 1 ≤ 64
  rw [h2]
  decide
theorem bls_same (l : List Bool) : (!PyData.eqv (bls l) (bls l)) = false := by
  rw [SeqAt.eqv_refl (bls l) (by have := (bls_can l).1; simpa [bls, PyData.canLay0] using this)]
  rfl
theorem dec_int0 {m j : Nat} : decide ((V.int (0 + (m : Int)) : V) = V.int (0 + (j : Int))) = decide (m = j) := by
  by_cases h : m = j
  · subst h
    simp
  · rw [decide_eq_false h, decide_eq_false]
    intro e
    injection e with e
    omega
/-- a drawn thing -/
def Item (p c : Addr) (H : Hp) (v : V) : Prop := ∃ d, Da (Off p c) H v d ∧ Sma d ∧ TellOk d
theorem Item.keep {p c : Addr} {H H' : Hp} {v : V} (k : Keep (Off p c) H H') : Item p c H v → Item p c H' v := fun ⟨d, h, t⟩ => ⟨d, h.keep k, t⟩
/-- .. one that the classes for lists take -/
def Some' (p c : Addr) (H : Hp) (v : V) : Prop := ∃ d, Da (Off p c) H v d ∧ Sma d ∧ SomeOk d ∧ Sma (tupOf d)
theorem Some'.keep {p c : Addr} {H H' : Hp} {v : V} (k : Keep (Off p c) H H') : Some' p c H v → Some' p c H' v := fun ⟨d, h, t⟩ => ⟨d, h.keep k, t⟩
theorem fit_int {i : Int} (h : (decide (i.natAbs.log2 < 1920) && decide ((toString i : Str).length ≤ 198)) = true) : Fit 198 0 (.int i) := by
  simp only [Bool.and_eq_true, decide_eq_true_eq] at h
  exact ⟨by simpa [PyData.showable] using h.1, h.2, by show 0 ≤ 0; decide⟩
theorem fit_text {x : Str} (h : (decide (x.length ≤ 1000) && decide ((reprText x).length ≤ 150)) = true) : Fit 150 0 (.str x) ∧ TellOk (.str x) := by
  simp only [Bool.and_eq_true, decide_eq_true_eq] at h
  exact ⟨⟨rfl, h.2, Nat.zero_le _⟩, h.1, by omega⟩
def spLaw (K : PySem.W.Frag) : Sp := fun vs H Q _ => ∃ (a : Addr) (ns : List Int), vs = [.ref a] ∧ SqL K H a (ns.map V.int) ∧ ns.length ≤ 63 ∧ ∀ H', Q (.bl true) H'
/-- every def that the law calls -/
structure Env (P : Program) (w : World) (K : PySem.W.Frag) (mg : Str → Option Value) (base : Heap) (cs : List Addr) (fS fP fE fK fB fT : Addr) (qS qP qE qK qB qT : FuncData) : Prop where
  gS : FnOk P w K mg base CX0 1 fS qS ["script"] (spSource K)
  dS : Def K mg "_law_source" fS
  bS : L2.Binds K qS ["script"] []
  gP : FnOk P w K mg base CX0 1 fP qP ["source", "many"] spPick
  dP : Def K mg "_law_pick" fP
  bP : L2.Binds K qP ["source", "many"] []
  gE : FnOk P w K mg base CX0 4 fE qE ["word", "number", "some"] (spEvery cs)
  dE : Def K mg "_law_every" fE
  bE : L2.Binds K qE ["word", "number", "some"] []
  gK : FnOk P w K mg base CX0 1 fK qK ["e"] (spFlags cs fun k => (List.range 18).map fun j => decide (j = k))
  dK : Def K mg "_law_kinds" fK
  bK : L2.Binds K qK ["e"] []
  gB : FnOk P w K mg base CX0 1 fB qB ["e"] (spFlags cs fun k => [decide (k < 14), decide (k < 14), decide (k ≥ 14), decide (k ≥ 14)])
  dB : Def K mg "_law_bases" fB
  bB : L2.Binds K qB ["e"] []
  gT : FnQ P w K mg base CX0 1 fT qT ["every", "word", "number", "some"] (spKept cs)
  dT : Def K mg "_law_kept" fT
  bT : L2.Binds K qT ["every", "word", "number", "some"] []
  range : mg "range" = none
  len : mg "len" = none
  int : mg "int" = none
section
variable {P : Program} {w : World} {K : PySem.W.Frag} {mg : Str → Option Value} {base : Heap} {fS fP fE fK fB fT : Addr} {qS qP qE qK qB qT : FuncData} {cs : List Addr}
abbrev nLaw : List Str := ["script", "source", "great", "lap", "word", "number", "some", "every", "k", "j"]
theorem scLaw : FnScope nLaw ["script"] (defScope sLaw) := ⟨rfl, rfl, rfl, by decide +kernel, rfl, by decide +kernel, by decide +kernel⟩
theorem ok_law {f : Addr} {fd : FuncData} (F : Fun K "law" "law" sLaw f fd) (hcs : cs.length = 18) (V : Env P w K mg base cs fS fP fE fK fB fT qS qP qE qK qB qT) : FnQ P w K mg base CX0 5 f fd ["script"] (spLaw K) := by
  refine fnQ_ok F scLaw (fun vs H Q E h => ?_) (fun cdv A outer s H vs Q E hg hr h => ?_)
  · obtain ⟨a, ns, rfl, _⟩ := h
    rfl
  · obtain ⟨a, ns, rfl, hS, hl, k⟩ := h
    have hr1 : Room 1 _ := hr.mono (by decide)
    have hq : (A.deeper (envOfC "law" (defScope sLaw) s.heap.objs.size f cdv)).guards = some [] := hg
    refine ⟨_, pss_cons (ps_set (i := 1) scLaw.nd rfl (.inl rfl) (pe_call V.gS hr1 (by rfl) V.dS.gl V.dS.kp V.bS .nil pass0 (pa_cons (pv 0) pa_nil)))
      (pss_cons (ps_set (i := 2) scLaw.nd rfl (.inl rfl) (pe_callTy call_int_str (by rfl) V.int (by decide +kernel) (pa_cons (pe_op op_add_str pe_str (pe_op op_times pe_str pe_int)) pa_nil)))
      (pss_cons (ps_for PassesOwn.never rfl (pi_range1 (by rfl) V.range (pa_cons pe_int pa_nil)) (pg_name (i := 3) scLaw.nd rfl (.inl rfl))
        (pss_cons (ps_set (i := 4) scLaw.nd rfl (.inl rfl) (pe_ix ix_list (pe_lst (pa_cons pe_str (pa_cons pe_str (pa_cons pe_str (pa_cons pe_non (pa_cons (pe_op op_times pe_str pe_int) (pa_cons (pe_tup (pa_cons pe_str pa_nil))
            (pa_cons pe_int (pa_cons (pe_lstB (pa_cons pe_str (pa_cons pe_dnewK pa_nil))) pa_nil))))))))) (pe_call V.gP hr1 (by rfl) V.dP.gl V.dP.kp V.bP .nil pass0 (pa_cons (pv 1) (pa_cons pe_int pa_nil))) (fun _ _ => rfl)))
        (pss_cons (ps_set (i := 5) scLaw.nd rfl (.inl rfl) (pe_ix ix_list (pe_lst (pa_cons pe_int (pa_cons pe_int (pa_cons pe_int (pa_cons pe_int (pa_cons (pv 2) (pa_cons (pe_un un_neg pe_int) (pa_cons pe_non pa_nil))))))))
            (pe_call V.gP hr1 (by rfl) V.dP.gl V.dP.kp V.bP .nil pass0 (pa_cons (pv 1) (pa_cons pe_int pa_nil))) (fun _ _ => rfl)))
        (pss_cons (ps_set (i := 6) scLaw.nd rfl (.inl rfl) (pe_ix ix_list (pe_lst (pa_cons (pe_lstB (pa_cons pe_str (pa_cons pe_str pa_nil))) (pa_cons (pe_lstB pa_nil) (pa_cons (pe_tup (pa_cons pe_str pa_nil)) (pa_cons (pe_lstB (pa_cons pe_int (pa_cons pe_int (pa_cons pe_int pa_nil))))
            (pa_cons (pe_tup (pa_cons (pe_tup (pa_cons pe_str (pa_cons pe_str pa_nil))) pa_nil)) pa_nil)))))) (pe_call V.gP hr1 (by rfl) V.dP.gl V.dP.kp V.bP .nil pass0 (pa_cons (pv 1) (pa_cons pe_int pa_nil))) (fun _ _ => rfl)))
        (pss_cons (ps_set (i := 7) scLaw.nd rfl (.inl rfl) (pe_call V.gE hr (by rfl) V.dE.gl V.dE.kp V.bE .nil pass0 (pa_cons (pv 4) (pa_cons (pv 5) (pa_cons (pv 6) pa_nil)))))
        (pss_cons (ps_for PassesOwn.never rfl (pi_range1 (by rfl) V.range (pa_cons (pe_callB (r := rLen K) call_len_seq (by rfl) V.len PySem.boot_len (pa_cons (pv 7) pa_nil)) pa_nil)) (pg_name (i := 8) scLaw.nd rfl (.inr rfl))
          (pss_cons (ps_if (pt_cmpR (op_neD hr.units) (pe_call V.gK hr1 (by rfl) V.dK.gl V.dK.kp V.bK .nil pass0 (pa_cons (pe_ix ix_list (pv 7) (pv 8) (fun _ _ => rfl)) pa_nil))
              (pe_lc (own := [("j", 9)]) (g := gName 9) (tt := tYes) rfl scLaw.nd (pi_range1 (by rfl) V.range (pa_cons (pe_callB (r := rLen K) call_len_seq (by rfl) V.len PySem.boot_len (pa_cons (pv 7) pa_nil)) pa_nil))
                (blkOk_by (N := nLaw) (sc := defScope sLaw) (by decide +kernel)) (fun _ _ _ _ _ => pg_name (i := 9) scLaw.nd rfl (.inl rfl)) (fun _ _ _ _ _ => pts_nil)
                (fun _ _ _ _ _ => pe_cmpR op_eq (pv 9) (pv 8) (nomark _))) (nomark _)) (pss_one (ps_ret pe_bl)) pss_nil)
          (pss_one (ps_if (pt_cmpR (op_neD hr.units) (pe_call V.gB hr1 (by rfl) V.dB.gl V.dB.kp V.bB .nil pass0 (pa_cons (pe_ix ix_list (pv 7) (pv 8) (fun _ _ => rfl)) pa_nil))
              (pe_lst (pa_cons (pe_cmpR op_lt (pv 8) pe_int (nomark _)) (pa_cons (pe_cmpR op_lt (pv 8) pe_int (nomark _)) (pa_cons (pe_cmpR op_ge (pv 8) pe_int (nomark _)) (pa_cons (pe_cmpR op_ge (pv 8) pe_int (nomark _)) pa_nil))))) (nomark _)) (pss_one (ps_ret pe_bl)) pss_nil))))
        (pss_one (ps_if (PW.pt (pw_or (pt_cmpR op_ne (pe_callB (r := rLen K) call_len_seq (by rfl) V.len PySem.boot_len (pa_cons (pv 7) pa_nil)) pe_int (nomark _))
            (pw_or1 (pt_not (pt_val (pe_callQ hq V.gT hr1 (by rfl) V.dT.gl V.dT.kp V.bT .nil pass0 (pa_cons (pv 7) (pa_cons (pv 4) (pa_cons (pv 5) (pa_cons (pv 6) pa_nil)))))))))) (pss_one (ps_ret pe_bl)) pss_nil))))))))
      (pss_one (ps_ret pe_bl)))), ?_⟩
    refine ⟨_, rfl, a, ns, rfl, hS, hl, fun p c H1 _ _ _ S1 => ?_⟩
    have m30 : MulOk "0" 30 := ⟨by decide +kernel, by decide +kernel, by decide +kernel⟩
    have m100 : MulOk "x" 100 := ⟨by decide +kernel, by decide +kernel, by decide +kernel⟩
    refine ⟨_, _, rfl, rfl, m30, _, _, rfl, rfl, by decide +kernel, _, (10 : Int) ^ 30, rfl, by decide +kernel, by decide +kernel, 2, rfl, by decide, by decide, ?_⟩
    refine for_range (lo := 0) (n := 2) (fun i σ H2 => Src p c H2 ∧ ∃ v3 v4 v5 v6 v7 v8 v9, σ = [some (.ref a), some (.ref p), some (.int ((10 : Int) ^ 30)), v3, v4, v5, v6, v7, v8, v9]) ⟨S1, _, _, _, _, _, _, _, rfl⟩ ?_ ?_
    · rintro i σ H2 hi ⟨S2, v3, v4, v5, v6, v7, v8, v9, rfl⟩
      -- word
      refine ⟨_, _, rfl, rfl, m100, by show 1 ≤ sizeLine; decide, fun t1 n1 => ?_⟩
      obtain ⟨H3, z, s3, S3, h3, o3⟩ := new_obj S2 n1 (.tup [.str "a"])
      rw [z]
      clear z
      refine fun d1 nd => ?_
      obtain ⟨H4, z, s4, S4, h4, o4⟩ := new_obj S3 nd (.dK [])
      rw [z]
      clear z
      refine ⟨by show 2 ≤ sizeLine; decide, fun l1 n1 z1 => ?_⟩
      obtain ⟨H5, z, s5, S5, h5, o5⟩ := new_obj S4 n1 (.lst [.str "a", .ref d1])
      rw [z]
      clear z
      refine ⟨by show 8 ≤ sizeLine; decide, fun g1 n1 => ?_⟩
      obtain ⟨H6, z, s6, S6, h6, o6⟩ := new_obj S5 n1 (.lst [.str "", .str "x", .str "no such name", .non, .str (Txt.mul "x" 100), .ref t1, .int 0, .ref l1])
      rw [z]
      clear z
      refine ⟨_, rfl, p, c, 8, rfl, S6, by decide, by decide, fun r H7 r0 r1 k7 S7 => ?_⟩
      obtain ⟨vw, hv, hm⟩ := at_int (xs := ([.str "", .str "x", .str "no such name", .non, .str (Txt.mul "x" 100), .ref t1, .int 0, .ref l1] : List L2.V)) r0 r1
      have k5 : Keep (Off p c) H5 H7 := (Same.keep s6).trans k7
      have k3 : Keep (Off p c) H3 H7 := (Same.keep (s4.trans s5)).trans k5
      have iw : Item p c H7 vw := by
        simp only [List.mem_cons, List.not_mem_nil, or_false] at hm
        have txt : ∀ {x : Str}, (decide (x.length ≤ 1000) && decide ((reprText x).length ≤ 150)) = true → Item p c H7 (.str x) := fun h => ⟨_, .str _, (fit_text h).1.mono (by decide) (by decide), (fit_text h).2⟩
        have fa : Fit 150 0 (.str "a") := (fit_text (by decide +kernel)).1
        have fa1 : Fit 10 1 (.str "a") := ⟨rfl, by decide +kernel, Nat.zero_le _⟩
        have k4 : Keep (Off p c) H4 H7 := (Same.keep s5).trans k5
        rcases hm with rfl | rfl | rfl | rfl | rfl | rfl | rfl | rfl
        · exact txt (by decide +kernel)
        · exact txt (by decide +kernel)
        · exact txt (by decide +kernel)
        · exact ⟨_, .non, fit_none (by decide), trivial⟩
        · exact txt (by decide +kernel)
        · exact ⟨_, .tup (k3 _ _ h3 o3) o3 (.cons (.str _) .nil), (fit_tup (n := 150) (k := 0) (m := 155) (fun d h => by cases List.mem_singleton.mp h; exact fa) (by decide)).mono (by decide) (by decide), trivial⟩
        · exact ⟨_, .int _, (fit_int (by decide +kernel)).mono (by decide) (by decide), trivial⟩
        · exact ⟨_, .lst (k5 _ _ h5 o5) o5 z1 (.cons (.str _) (.cons (.emp (k4 _ _ h4 o4) o4) .nil)), (fit_lst (n := 10) (k := 1) (m := 30) (fun d h => by
            rcases List.mem_cons.mp h with rfl | h
            · exact fa1
            · cases List.mem_singleton.mp h
              exact fit_emp (by decide) (by decide)) (by decide)).mono (by decide) (by decide), trivial⟩
      refine ⟨g1, _, r, vw, rfl, rfl, SqL.of (k7 _ _ h6 o6), hv, ?_⟩
      clear hm hv
      -- number
      refine ⟨_, rfl, _, rfl, by show 7 ≤ sizeLine; decide, fun g2 n1 => ?_⟩
      obtain ⟨H8, z, s8, S8, h8, o8⟩ := new_obj S7 n1 (.lst [.int 0, .int 1, .int 7, .int 200, .int ((10 : Int) ^ 30), .int (-1), .non])
      rw [z]
      clear z
      refine ⟨_, rfl, p, c, 7, rfl, S8, by decide, by decide, fun r2 H9 r20 r21 k9 S9 => ?_⟩
      obtain ⟨vn, hv, hm⟩ := at_int (xs := ([.int 0, .int 1, .int 7, .int 200, .int ((10 : Int) ^ 30), .int (-1), .non] : List L2.V)) r20 r21
      have k79 : Keep (Off p c) H7 H9 := (Same.keep s8).trans k9
      have im : Item p c H9 vn := by
        simp only [List.mem_cons, List.not_mem_nil, or_false] at hm
        have nm : ∀ {x : Int}, (decide (x.natAbs.log2 < 1920) && decide ((toString x : Str).length ≤ 198)) = true → Item p c H9 (.int x) := fun h => ⟨_, .int _, (fit_int h).mono (by decide) (by decide), trivial⟩
        rcases hm with rfl | rfl | rfl | rfl | rfl | rfl | rfl
        · exact nm (by decide +kernel)
        · exact nm (by decide +kernel)
        · exact nm (by decide +kernel)
        · exact nm (by decide +kernel)
        · exact nm (by decide +kernel)
        · exact nm (by decide +kernel)
        · exact ⟨_, .non, fit_none (by decide), trivial⟩
      refine ⟨g2, _, r2, vn, rfl, rfl, SqL.of (k9 _ _ h8 o8), hv, ?_⟩
      clear hm hv
      -- some
      refine ⟨by show 2 ≤ sizeLine; decide, fun a1 n1 za1 => ?_⟩
      obtain ⟨Ha, z, sa, Sa, ha, oa⟩ := new_obj S9 n1 (.lst [.str "a", .str "b"])
      rw [z]
      clear z
      refine ⟨by show 0 ≤ sizeLine; decide, fun a2 n1 za2 => ?_⟩
      obtain ⟨Hb, z, sb, Sb, hb, ob⟩ := new_obj Sa n1 (.lst [])
      rw [z]
      clear z
      refine ⟨by show 1 ≤ sizeLine; decide, fun a3 n1 => ?_⟩
      obtain ⟨Hc, z, sc, Sc, hc, oc⟩ := new_obj Sb n1 (.tup [.str "a"])
      rw [z]
      clear z
      refine ⟨by show 3 ≤ sizeLine; decide, fun a4 n1 za4 => ?_⟩
      obtain ⟨Hd, z, sd, Sd, hd, od⟩ := new_obj Sc n1 (.lst [.int 0, .int 1, .int 0])
      rw [z]
      clear z
      refine ⟨by show 2 ≤ sizeLine; decide, fun a5 n1 => ?_⟩
      obtain ⟨He, z, se, Se, he, oe⟩ := new_obj Sd n1 (.tup [.str "x", .str "y"])
      rw [z]
      clear z
      refine ⟨by show 1 ≤ sizeLine; decide, fun a6 n1 => ?_⟩
      obtain ⟨Hf, z, sf, Sf, hf, of⟩ := new_obj Se n1 (.tup [.ref a5])
      rw [z]
      clear z
      refine ⟨by show 5 ≤ sizeLine; decide, fun g3 n1 => ?_⟩
      obtain ⟨Hg, z, sg, Sg, hg3, og⟩ := new_obj Sf n1 (.lst [.ref a1, .ref a2, .ref a3, .ref a4, .ref a6])
      rw [z]
      clear z
      refine ⟨_, rfl, p, c, 5, rfl, Sg, by decide, by decide, fun r3 Hh r30 r31 kh Sh => ?_⟩
      obtain ⟨vs', hv, hm⟩ := at_int (xs := ([.ref a1, .ref a2, .ref a3, .ref a4, .ref a6] : List L2.V)) r30 r31
      have kf : Keep (Off p c) Hf Hh := (Same.keep sg).trans kh
      have ke : Keep (Off p c) He Hh := (Same.keep sf).trans kf
      have kd : Keep (Off p c) Hd Hh := (Same.keep se).trans ke
      have kc : Keep (Off p c) Hc Hh := (Same.keep sd).trans kd
      have kb : Keep (Off p c) Hb Hh := (Same.keep sc).trans kc
      have ka : Keep (Off p c) Ha Hh := (Same.keep sb).trans kb
      have k9h : Keep (Off p c) H9 Hh := (Same.keep sa).trans ka
      have is : Some' p c Hh vs' := by
        simp only [List.mem_cons, List.not_mem_nil, or_false] at hm
        have small : ∀ {ds : List PyData}, (∀ d ∈ ds, Fit 30 1 d) → ds.length ≤ 3 → (∀ d ∈ ds, TellOk d) → Sma (.list ds) ∧ SomeOk (.list ds) ∧ Sma (.tuple ds) ∧ SomeOk (.tuple ds) := fun {ds} f hl ht => by
          have m : ds.length * (30 + 2) ≤ 3 * (30 + 2) := Nat.mul_le_mul_right _ hl
          exact ⟨fit_lst f (by omega), ⟨ht, by omega⟩, fit_tup f (by omega), ⟨ht, by omega⟩⟩
        have wd : ∀ {x : Str}, decide ((reprText x).length ≤ 30) = true → Fit 30 1 (.str x) := fun h => ⟨rfl, of_decide_eq_true h, Nat.zero_le _⟩
        have w1 : ∀ {x : Str}, (decide (x.length ≤ 1000) && decide ((reprText x).length ≤ 150)) = true → TellOk (.str x) := fun h => (fit_text h).2
        have f0 : Fit 30 1 (.int 0) := ⟨by decide +kernel, by decide +kernel, Nat.zero_le _⟩
        have f1 : Fit 30 1 (.int 1) := ⟨by decide +kernel, by decide +kernel, Nat.zero_le _⟩
        rcases hm with rfl | rfl | rfl | rfl | rfl
        · have q := small (ds := [.str "a", .str "b"]) (fun d h => by
            rcases List.mem_cons.mp h with rfl | h
            · exact wd (by decide +kernel)
            · cases List.mem_singleton.mp h
              exact wd (by decide +kernel)) (by decide) (fun d h => by
            rcases List.mem_cons.mp h with rfl | h
            · exact w1 (by decide +kernel)
            · cases List.mem_singleton.mp h
              exact w1 (by decide +kernel))
          exact ⟨_, .lst (ka _ _ ha oa) oa za1 (.cons (.str _) (.cons (.str _) .nil)), q.1, q.2.1, q.2.2.1⟩
        · have q := small (ds := []) (fun d h => nomatch h) (by decide) (fun d h => nomatch h)
          exact ⟨_, .lst (kb _ _ hb ob) ob za2 .nil, q.1, q.2.1, q.2.2.1⟩
        · have q := small (ds := [.str "a"]) (fun d h => by cases List.mem_singleton.mp h; exact wd (by decide +kernel)) (by decide) (fun d h => by cases List.mem_singleton.mp h; exact w1 (by decide +kernel))
          exact ⟨_, .tup (kc _ _ hc oc) oc (.cons (.str _) .nil), q.2.2.1, q.2.2.2, q.2.2.1⟩
        · have q := small (ds := [.int 0, .int 1, .int 0]) (fun d h => by
            rcases List.mem_cons.mp h with rfl | h
            · exact f0
            · rcases List.mem_cons.mp h with rfl | h
              · exact f1
              · cases List.mem_singleton.mp h
                exact f0) (by decide) (fun d h => by
            rcases List.mem_cons.mp h with rfl | h
            · trivial
            · rcases List.mem_cons.mp h with rfl | h
              · trivial
              · cases List.mem_singleton.mp h
                trivial)
          exact ⟨_, .lst (kd _ _ hd od) od za4 (.cons (.int _) (.cons (.int _) (.cons (.int _) .nil))), q.1, q.2.1, q.2.2.1⟩
        · have fx : Fit 20 1 (.tuple [.str "x", .str "y"]) := ⟨by decide +kernel, by decide +kernel, by decide +kernel⟩
          have q := small (ds := [.tuple [.str "x", .str "y"]]) (fun d h => by cases List.mem_singleton.mp h; exact fx.mono (by decide) (by decide)) (by decide) (fun d h => by cases List.mem_singleton.mp h; trivial)
          exact ⟨_, .tup (kf _ _ hf of) of (.cons (.tup (ke _ _ he oe) oe (.cons (.str _) (.cons (.str _) .nil))) .nil), q.2.2.1, q.2.2.2, q.2.2.1⟩
      refine ⟨g3, _, r3, vs', rfl, rfl, SqL.of (kh _ _ hg3 og), hv, ?_⟩
      clear hm hv
      obtain ⟨dw, hw, fw, tw⟩ := iw.keep (k79.trans k9h)
      obtain ⟨dn, hn, fn, tn⟩ := im.keep k9h
      obtain ⟨ds, hs, fs, os, fs'⟩ := is
      refine ⟨_, rfl, _, rfl, _, rfl, Off p c, vw, vn, vs', dw, dn, ds, rfl, hw, tw, hn, tn, hs, os, fun a na => Sh.off na, fun L es t Hi si hL hE ht => ?_⟩
      have Si := Sh.same si
      have l18 : (es.map L2.V.ref).length = 18 := by rw [List.length_map, hE.len, hcs]
      -- one by one
      refine ⟨_, rfl, L, _, rfl, .inl (SqL.of hL), _, rfl, by rw [l18]; decide, by rw [l18]; decide, ?_⟩
      refine for_range (lo := 0) (fun j σ H3 => Same Hi H3 ∧ ∃ w8 w9, σ = [some (.ref a), some (.ref p), some (.int ((10 : Int) ^ 30)), some (.int (0 + (i : Int))), some vw, some vn, some vs', some (.ref L), w8, w9]) ⟨Same.refl Hi, _, _, rfl⟩ ?_ ?_
      · rintro j σ H3 hj ⟨sj, w8, w9, rfl⟩
        have hj18 : j < 18 := by rwa [l18] at hj
        have hje : j < es.length := by rwa [List.length_map] at hj
        obtain ⟨C, o, hC, ho, hx⟩ := hE.get (k := j) (e := es[j]) (List.getElem?_eq_getElem hje)
        have hat : atI (es.map L2.V.ref) (0 + (j : Int)) = some (.ref es[j]) := by
          rw [Int.zero_add]
          exact atI_nat (by rw [List.getElem?_map, List.getElem?_eq_getElem hje]; rfl)
        refine ⟨_, rfl, _, rfl, L, _, 0 + (j : Int), .ref es[j], rfl, rfl, SqL.of (sj _ _ hL), hat, es[j], j, C, o, rfl, hC, hx.same sj, fun K1 H4 s4 e4 => ?_⟩
        -- [j == k for j in range(len(every))]
        have S4 : Same Hi H4 := sj.trans s4
        refine ⟨_, rfl, L, _, rfl, .inl (SqL.of (S4 _ _ hL)), _, rfl, by rw [l18]; decide, by rw [l18]; decide, fun D nD => ?_⟩
        refine lc_range (lo := 0) (fun m H5 => Same H4 H5 ∧ H5 D = some (.lst (((List.range m).map fun x => decide (x = j)).map L2.V.bl))) ⟨same_new nD, upd_same⟩ ?_ ?_
        · rintro m H5 hm ⟨sm, eD⟩
          have hm18 : m < 18 := by rwa [l18] at hm
          refine ⟨rfl, _, rfl, _, rfl, rfl, _, eD, by rw [List.length_map, List.length_map, List.length_range]; exact small1000 (by omega), fun b o e => by rw [upd_ne (ne_of_none e nD)]; exact sm b o e, ?_⟩
          rw [upd_same, List.range_succ, List.map_append, List.map_append, dec_int0]
          rfl
        · rintro H5 ⟨sm, eD⟩
          rw [l18] at eD
          refine ⟨bls ((List.range 18).map fun x => decide (x = j)), bls ((List.range 18).map fun x => decide (x = j)), dp_bls (sm _ _ e4), dp_bls eD, bls_shaped _, bls_shaped _, ?_⟩
          rw [bls_same]
          have S5 : Same Hi H5 := S4.trans sm
          refine ⟨_, rfl, ?_⟩
          -- its bases
          refine ⟨_, rfl, _, rfl, L, _, 0 + (j : Int), .ref es[j], rfl, rfl, SqL.of (S5 _ _ hL), hat, es[j], j, C, o, rfl, hC, hx.same S5, fun K2 H6 s6 e6 => ?_⟩
          refine ⟨_, rfl, _, _, rfl, rfl, _, rfl, _, _, rfl, rfl, _, rfl, _, _, rfl, rfl, _, rfl, _, _, rfl, rfl, by show 4 ≤ sizeLine; decide, fun LL n1 => ?_⟩
          have b1 : decide ((0 + (j : Int)) < 14) = decide (j < 14) := decide_eq_decide.mpr (by omega)
          have b2 : decide ((14 : Int) ≤ 0 + (j : Int)) = decide (j ≥ 14) := decide_eq_decide.mpr (by omega)
          obtain ⟨H7', z, s7, e7⟩ := fresh n1 (.lst [L2.V.bl (decide ((0 + (j : Int)) < 14)), L2.V.bl (decide ((0 + (j : Int)) < 14)), L2.V.bl (decide ((14 : Int) ≤ 0 + (j : Int))), L2.V.bl (decide ((14 : Int) ≤ 0 + (j : Int)))])
          erw [z]
          clear z
          rw [b1, b2] at e7
          refine ⟨bls [decide (j < 14), decide (j < 14), decide (j ≥ 14), decide (j ≥ 14)], bls [decide (j < 14), decide (j < 14), decide (j ≥ 14), decide (j ≥ 14)], dp_bls (s7 _ _ e6), dp_bls e7, bls_shaped _, bls_shaped _, ?_⟩
          rw [bls_same]
          exact ⟨_, rfl, S5.trans (s6.trans s7), _, _, rfl⟩
      · rintro σ H3 ⟨sj, w8, w9, rfl⟩
        have S3' := Sh.same (si.trans sj)
        refine ⟨_, rfl, L, _, rfl, .inl (SqL.of (sj _ _ hL)), rfl, ?_⟩
        rw [l18]
        refine ⟨_, rfl, ?_⟩
        have kd : ∀ {v : L2.V} {d : PyData}, Da (Off p c) Hh v d → Da (Off p c) H3 v d := fun h => h.keep (Same.keep (si.trans sj))
        refine ⟨_, rfl, _, rfl, _, rfl, _, rfl, Off p c, L, es, t, vw, vn, vs', dw, dn, ds, rfl, sj _ _ hL, hE.same sj, kd hw, fw, kd hn, fn, kd hs, fs, os, ht.keep (Same.keep sj), fs', fun a na => S3'.off na, fun H4 s4 => ?_⟩
        exact ⟨_, rfl, S3'.same s4, _, _, _, _, _, _, _, rfl⟩
    · rintro σ H2 ⟨S2, v3, v4, v5, v6, v7, v8, v9, rfl⟩
      exact k H2
end
end K00
namespace K00
open PySem PySem.Spec PyProof.Rows L2 Ver
set_option maxHeartbeats 16000000 in
theorem all_mk {l : PySem.W.OpenLaw} {w : World} {K : PySem.W.Frag} {h : Heap} {mg : Str → Option Value} {fa G M f0 f1 f2 f3 f4 f5 f6 f7 c0 c1 c2 c3 c4 c5 c6 c7 c8 c9 c10 c11 c12 c13 c14 c15 c16 c17 g0 g1 g2 g3 g4 g5 g6 g7 g8 g9 g10 g11 g12 g13 g14 g15 g16 g17 : Addr} (X : K.In h) (Gn : h.Ns mainGlobals mg) (hfa : mg "law" = some (.ref fa))
    {od0 an0 od1 an1 od2 an2 od3 an3 od4 an4 od5 an5 od6 an6 od7 an7 pd0 pn0 pd1 pn1 pd2 pn2 pd3 pn3 pd4 pn4 pd5 pn5 pd6 pn6 pd7 pn7 pd8 pn8 pd9 pn9 pd10 pn10 pd11 pn11 pd12 pn12 pd13 pn13 pd14 pn14 pd15 pn15 pd16 pn16 pd17 pn17 : Option Addr} {sl0 sl1 sl2 sl3 sl4 sl5 sl6 sl7 ps0 ps1 ps2 ps3 ps4 ps5 ps6 ps7 ps8 ps9 ps10 ps11 ps12 ps13 ps14 ps15 ps16 ps17 : Array (Option Value)} {oc0 kV0 dc0 pm0 cd0 ct0 oc1 kV1 dc1 pm1 cd1 ct1 oc2 kV2 dc2 pm2 cd2 ct2 oc3 kV3 dc3 pm3 cd3 ct3 oc4 kV4 dc4 pm4 cd4 ct4 oc5 kV5 dc5 pm5 cd5 ct5 oc6 kV6 dc6 pm6 cd6 ct6 oc7 kV7 dc7 pm7 cd7 ct7 qc0 qV0 qd0 qm0 qe0 qt0 qc1 qV1 qd1 qm1 qe1 qt1 qc2 qV2 qd2 qm2 qe2 qt2 qc3 qV3 qd3 qm3 qe3 qt3 qc4 qV4 qd4 qm4 qe4 qt4 qc5 qV5 qd5 qm5 qe5 qt5 qc6 qV6 qd6 qm6 qe6 qt6 qc7 qV7 qd7 qm7 qe7 qt7 qc8 qV8 qd8 qm8 qe8 qt8 qc9 qV9 qd9 qm9 qe9 qt9 qc10 qV10 qd10 qm10 qe10 qt10 qc11 qV11 qd11 qm11 qe11 qt11 qc12 qV12 qd12 qm12 qe12 qt12 qc13 qV13 qd13 qm13 qe13 qt13 qc14 qV14 qd14 qm14 qe14 qt14 qc15 qV15 qd15 qm15 qe15 qt15 qc16 qV16 qd16 qm16 qe16 qt16 qc17 qV17 qd17 qm17 qe17 qt17 : Value}
    (a0 : PySem.W.nsIn K mainGlobals "told" = some (some (.ref f0))) (l0 : K.lookup f0 = some ⟨oc0, od0, .func (PySem.W.fnOf "told" "told" (defArgs sTold) (defBody sTold) (defScope sTold) .none kV0 dc0 pm0 an0 cd0 ct0), sl0⟩) (e0 : PySem.W.codeIn K cd0 "told" = true) (k0 : PySem.W.keepIn K (.ref f0) = true)
    (a1 : PySem.W.nsIn K mainGlobals "_law_source" = some (some (.ref f1))) (l1 : K.lookup f1 = some ⟨oc1, od1, .func (PySem.W.fnOf "_law_source" "_law_source" (defArgs sSource) (defBody sSource) (defScope sSource) .none kV1 dc1 pm1 an1 cd1 ct1), sl1⟩) (e1 : PySem.W.codeIn K cd1 "_law_source" = true) (k1 : PySem.W.keepIn K (.ref f1) = true)
    (a2 : PySem.W.nsIn K mainGlobals "_law_pick" = some (some (.ref f2))) (l2 : K.lookup f2 = some ⟨oc2, od2, .func (PySem.W.fnOf "_law_pick" "_law_pick" (defArgs sPick) (defBody sPick) (defScope sPick) .none kV2 dc2 pm2 an2 cd2 ct2), sl2⟩) (e2 : PySem.W.codeIn K cd2 "_law_pick" = true) (k2 : PySem.W.keepIn K (.ref f2) = true)
    (a3 : PySem.W.nsIn K mainGlobals "_law_kinds" = some (some (.ref f3))) (l3 : K.lookup f3 = some ⟨oc3, od3, .func (PySem.W.fnOf "_law_kinds" "_law_kinds" (defArgs sKinds) (defBody sKinds) (defScope sKinds) .none kV3 dc3 pm3 an3 cd3 ct3), sl3⟩) (e3 : PySem.W.codeIn K cd3 "_law_kinds" = true) (k3 : PySem.W.keepIn K (.ref f3) = true)
    (a4 : PySem.W.nsIn K mainGlobals "_law_bases" = some (some (.ref f4))) (l4 : K.lookup f4 = some ⟨oc4, od4, .func (PySem.W.fnOf "_law_bases" "_law_bases" (defArgs sBases) (defBody sBases) (defScope sBases) .none kV4 dc4 pm4 an4 cd4 ct4), sl4⟩) (e4 : PySem.W.codeIn K cd4 "_law_bases" = true) (k4 : PySem.W.keepIn K (.ref f4) = true)
    (a5 : PySem.W.nsIn K mainGlobals "_law_every" = some (some (.ref f5))) (l5 : K.lookup f5 = some ⟨oc5, od5, .func (PySem.W.fnOf "_law_every" "_law_every" (defArgs sEvery) (defBody sEvery) (defScope sEvery) .none kV5 dc5 pm5 an5 cd5 ct5), sl5⟩) (e5 : PySem.W.codeIn K cd5 "_law_every" = true) (k5 : PySem.W.keepIn K (.ref f5) = true)
    (a6 : PySem.W.nsIn K mainGlobals "_law_kept" = some (some (.ref f6))) (l6 : K.lookup f6 = some ⟨oc6, od6, .func (PySem.W.fnOf "_law_kept" "_law_kept" (defArgs sKept) (defBody sKept) (defScope sKept) .none kV6 dc6 pm6 an6 cd6 ct6), sl6⟩) (e6 : PySem.W.codeIn K cd6 "_law_kept" = true) (k6 : PySem.W.keepIn K (.ref f6) = true)
    (a7 : PySem.W.nsIn K mainGlobals "law" = some (some (.ref f7))) (l7 : K.lookup f7 = some ⟨oc7, od7, .func (PySem.W.fnOf "law" "law" (defArgs sLaw) (defBody sLaw) (defScope sLaw) .none kV7 dc7 pm7 an7 cd7 ct7), sl7⟩) (e7 : PySem.W.codeIn K cd7 "law" = true) (k7 : PySem.W.keepIn K (.ref f7) = true)
    (nG : PySem.W.nsIn K mainGlobals "GuessError" = some (some (.ref G))) (bG : BaseC K G "ValueError.__init__") (sG : (PySem.W.clsIn K G).isSome = true) (tG : PySem.W.typeIn K (.ref G) = some (.type "type"))
    (nM : PySem.W.nsIn K mainGlobals "NameMissing" = some (some (.ref M))) (bM : BaseC K M "LookupError.__init__") (sM : (PySem.W.clsIn K M).isSome = true) (tM : PySem.W.typeIn K (.ref M) = some (.type "type"))
    (n0 : PySem.W.nsIn K mainGlobals "BadPaper" = some (some (.ref c0))) (x0 : ExC K c0 bmV "ValueError.__new__") (m0 : mroAt K c0 = some (.ref c0 :: .ref G :: bmV)) (s0 : (PySem.W.clsIn K c0).isSome = true) (i0 : PySem.W.findIn K (.ref c0) "__init__" = some (some (.ref g0))) (u0 : PySem.W.typeIn K (.ref g0) = some (.type "function"))
    (lI0 : K.lookup g0 = some ⟨qc0, pd0, .func (PySem.W.fnOf "__init__" "BadPaper.__init__" (defArgs (ini 4)) (defBody (ini 4)) (defScope (ini 4)) .none qV0 qd0 qm0 pn0 qe0 qt0), ps0⟩) (eI0 : PySem.W.codeIn K qe0 "BadPaper.__init__" = true) (kI0 : PySem.W.keepIn K (.ref g0) = true)
    (n1 : PySem.W.nsIn K mainGlobals "BadShape" = some (some (.ref c1))) (x1 : ExC K c1 bmV "ValueError.__new__") (m1 : mroAt K c1 = some (.ref c1 :: .ref G :: bmV)) (s1 : (PySem.W.clsIn K c1).isSome = true) (i1 : PySem.W.findIn K (.ref c1) "__init__" = some (some (.ref g1))) (u1 : PySem.W.typeIn K (.ref g1) = some (.type "function"))
    (lI1 : K.lookup g1 = some ⟨qc1, pd1, .func (PySem.W.fnOf "__init__" "BadShape.__init__" (defArgs (ini 5)) (defBody (ini 5)) (defScope (ini 5)) .none qV1 qd1 qm1 pn1 qe1 qt1), ps1⟩) (eI1 : PySem.W.codeIn K qe1 "BadShape.__init__" = true) (kI1 : PySem.W.keepIn K (.ref g1) = true)
    (n2 : PySem.W.nsIn K mainGlobals "BadChoice" = some (some (.ref c2))) (x2 : ExC K c2 bmV "ValueError.__new__") (m2 : mroAt K c2 = some (.ref c2 :: .ref G :: bmV)) (s2 : (PySem.W.clsIn K c2).isSome = true) (i2 : PySem.W.findIn K (.ref c2) "__init__" = some (some (.ref g2))) (u2 : PySem.W.typeIn K (.ref g2) = some (.type "function"))
    (lI2 : K.lookup g2 = some ⟨qc2, pd2, .func (PySem.W.fnOf "__init__" "BadChoice.__init__" (defArgs (ini 6)) (defBody (ini 6)) (defScope (ini 6)) .none qV2 qd2 qm2 pn2 qe2 qt2), ps2⟩) (eI2 : PySem.W.codeIn K qe2 "BadChoice.__init__" = true) (kI2 : PySem.W.keepIn K (.ref g2) = true)
    (n3 : PySem.W.nsIn K mainGlobals "MixedPrograms" = some (some (.ref c3))) (x3 : ExC K c3 bmV "ValueError.__new__") (m3 : mroAt K c3 = some (.ref c3 :: .ref G :: bmV)) (s3 : (PySem.W.clsIn K c3).isSome = true) (i3 : PySem.W.findIn K (.ref c3) "__init__" = some (some (.ref g3))) (u3 : PySem.W.typeIn K (.ref g3) = some (.type "function"))
    (lI3 : K.lookup g3 = some ⟨qc3, pd3, .func (PySem.W.fnOf "__init__" "MixedPrograms.__init__" (defArgs (ini 7)) (defBody (ini 7)) (defScope (ini 7)) .none qV3 qd3 qm3 pn3 qe3 qt3), ps3⟩) (eI3 : PySem.W.codeIn K qe3 "MixedPrograms.__init__" = true) (kI3 : PySem.W.keepIn K (.ref g3) = true)
    (n4 : PySem.W.nsIn K mainGlobals "BadName" = some (some (.ref c4))) (x4 : ExC K c4 bmV "ValueError.__new__") (m4 : mroAt K c4 = some (.ref c4 :: .ref G :: bmV)) (s4 : (PySem.W.clsIn K c4).isSome = true) (i4 : PySem.W.findIn K (.ref c4) "__init__" = some (some (.ref g4))) (u4 : PySem.W.typeIn K (.ref g4) = some (.type "function"))
    (lI4 : K.lookup g4 = some ⟨qc4, pd4, .func (PySem.W.fnOf "__init__" "BadName.__init__" (defArgs (ini 8)) (defBody (ini 8)) (defScope (ini 8)) .none qV4 qd4 qm4 pn4 qe4 qt4), ps4⟩) (eI4 : PySem.W.codeIn K qe4 "BadName.__init__" = true) (kI4 : PySem.W.keepIn K (.ref g4) = true)
    (w4 : PySem.W.findIn K (.ref c4) "name" = some none)
    (n5 : PySem.W.nsIn K mainGlobals "TwiceTold" = some (some (.ref c5))) (x5 : ExC K c5 bmV "ValueError.__new__") (m5 : mroAt K c5 = some (.ref c5 :: .ref G :: bmV)) (s5 : (PySem.W.clsIn K c5).isSome = true) (i5 : PySem.W.findIn K (.ref c5) "__init__" = some (some (.ref g5))) (u5 : PySem.W.typeIn K (.ref g5) = some (.type "function"))
    (lI5 : K.lookup g5 = some ⟨qc5, pd5, .func (PySem.W.fnOf "__init__" "TwiceTold.__init__" (defArgs (ini 9)) (defBody (ini 9)) (defScope (ini 9)) .none qV5 qd5 qm5 pn5 qe5 qt5), ps5⟩) (eI5 : PySem.W.codeIn K qe5 "TwiceTold.__init__" = true) (kI5 : PySem.W.keepIn K (.ref g5) = true)
    (w5 : PySem.W.findIn K (.ref c5) "name" = some none)
    (n6 : PySem.W.nsIn K mainGlobals "BadVariant" = some (some (.ref c6))) (x6 : ExC K c6 bmV "ValueError.__new__") (m6 : mroAt K c6 = some (.ref c6 :: .ref G :: bmV)) (s6 : (PySem.W.clsIn K c6).isSome = true) (i6 : PySem.W.findIn K (.ref c6) "__init__" = some (some (.ref g6))) (u6 : PySem.W.typeIn K (.ref g6) = some (.type "function"))
    (lI6 : K.lookup g6 = some ⟨qc6, pd6, .func (PySem.W.fnOf "__init__" "BadVariant.__init__" (defArgs (ini 10)) (defBody (ini 10)) (defScope (ini 10)) .none qV6 qd6 qm6 pn6 qe6 qt6), ps6⟩) (eI6 : PySem.W.codeIn K qe6 "BadVariant.__init__" = true) (kI6 : PySem.W.keepIn K (.ref g6) = true)
    (w6 : PySem.W.findIn K (.ref c6) "name" = some none)
    (n7 : PySem.W.nsIn K mainGlobals "BadBook" = some (some (.ref c7))) (x7 : ExC K c7 bmV "ValueError.__new__") (m7 : mroAt K c7 = some (.ref c7 :: .ref G :: bmV)) (s7 : (PySem.W.clsIn K c7).isSome = true) (i7 : PySem.W.findIn K (.ref c7) "__init__" = some (some (.ref g7))) (u7 : PySem.W.typeIn K (.ref g7) = some (.type "function"))
    (lI7 : K.lookup g7 = some ⟨qc7, pd7, .func (PySem.W.fnOf "__init__" "BadBook.__init__" (defArgs (ini 11)) (defBody (ini 11)) (defScope (ini 11)) .none qV7 qd7 qm7 pn7 qe7 qt7), ps7⟩) (eI7 : PySem.W.codeIn K qe7 "BadBook.__init__" = true) (kI7 : PySem.W.keepIn K (.ref g7) = true)
    (w7 : PySem.W.findIn K (.ref c7) "name" = some none)
    (n8 : PySem.W.nsIn K mainGlobals "BadState" = some (some (.ref c8))) (x8 : ExC K c8 bmV "ValueError.__new__") (m8 : mroAt K c8 = some (.ref c8 :: .ref G :: bmV)) (s8 : (PySem.W.clsIn K c8).isSome = true) (i8 : PySem.W.findIn K (.ref c8) "__init__" = some (some (.ref g8))) (u8 : PySem.W.typeIn K (.ref g8) = some (.type "function"))
    (lI8 : K.lookup g8 = some ⟨qc8, pd8, .func (PySem.W.fnOf "__init__" "BadState.__init__" (defArgs (ini 12)) (defBody (ini 12)) (defScope (ini 12)) .none qV8 qd8 qm8 pn8 qe8 qt8), ps8⟩) (eI8 : PySem.W.codeIn K qe8 "BadState.__init__" = true) (kI8 : PySem.W.keepIn K (.ref g8) = true)
    (w8 : PySem.W.findIn K (.ref c8) "word" = some none)
    (n9 : PySem.W.nsIn K mainGlobals "BadTree" = some (some (.ref c9))) (x9 : ExC K c9 bmV "ValueError.__new__") (m9 : mroAt K c9 = some (.ref c9 :: .ref G :: bmV)) (s9 : (PySem.W.clsIn K c9).isSome = true) (i9 : PySem.W.findIn K (.ref c9) "__init__" = some (some (.ref g9))) (u9 : PySem.W.typeIn K (.ref g9) = some (.type "function"))
    (lI9 : K.lookup g9 = some ⟨qc9, pd9, .func (PySem.W.fnOf "__init__" "BadTree.__init__" (defArgs (ini 13)) (defBody (ini 13)) (defScope (ini 13)) .none qV9 qd9 qm9 pn9 qe9 qt9), ps9⟩) (eI9 : PySem.W.codeIn K qe9 "BadTree.__init__" = true) (kI9 : PySem.W.keepIn K (.ref g9) = true)
    (w9 : PySem.W.findIn K (.ref c9) "path" = some none)
    (n10 : PySem.W.nsIn K mainGlobals "BadText" = some (some (.ref c10))) (x10 : ExC K c10 bmV "ValueError.__new__") (m10 : mroAt K c10 = some (.ref c10 :: .ref G :: bmV)) (s10 : (PySem.W.clsIn K c10).isSome = true) (i10 : PySem.W.findIn K (.ref c10) "__init__" = some (some (.ref g10))) (u10 : PySem.W.typeIn K (.ref g10) = some (.type "function"))
    (lI10 : K.lookup g10 = some ⟨qc10, pd10, .func (PySem.W.fnOf "__init__" "BadText.__init__" (defArgs (ini 14)) (defBody (ini 14)) (defScope (ini 14)) .none qV10 qd10 qm10 pn10 qe10 qt10), ps10⟩) (eI10 : PySem.W.codeIn K qe10 "BadText.__init__" = true) (kI10 : PySem.W.keepIn K (.ref g10) = true)
    (w10 : PySem.W.findIn K (.ref c10) "place" = some none)
    (n11 : PySem.W.nsIn K mainGlobals "BadVersion" = some (some (.ref c11))) (x11 : ExC K c11 bmV "ValueError.__new__") (m11 : mroAt K c11 = some (.ref c11 :: .ref G :: bmV)) (s11 : (PySem.W.clsIn K c11).isSome = true) (i11 : PySem.W.findIn K (.ref c11) "__init__" = some (some (.ref g11))) (u11 : PySem.W.typeIn K (.ref g11) = some (.type "function"))
    (lI11 : K.lookup g11 = some ⟨qc11, pd11, .func (PySem.W.fnOf "__init__" "BadVersion.__init__" (defArgs (ini 15)) (defBody (ini 15)) (defScope (ini 15)) .none qV11 qd11 qm11 pn11 qe11 qt11), ps11⟩) (eI11 : PySem.W.codeIn K qe11 "BadVersion.__init__" = true) (kI11 : PySem.W.keepIn K (.ref g11) = true)
    (w11 : PySem.W.findIn K (.ref c11) "place" = some none)
    (n12 : PySem.W.nsIn K mainGlobals "StuckRow" = some (some (.ref c12))) (x12 : ExC K c12 bmV "ValueError.__new__") (m12 : mroAt K c12 = some (.ref c12 :: .ref G :: bmV)) (s12 : (PySem.W.clsIn K c12).isSome = true) (i12 : PySem.W.findIn K (.ref c12) "__init__" = some (some (.ref g12))) (u12 : PySem.W.typeIn K (.ref g12) = some (.type "function"))
    (lI12 : K.lookup g12 = some ⟨qc12, pd12, .func (PySem.W.fnOf "__init__" "StuckRow.__init__" (defArgs (ini 16)) (defBody (ini 16)) (defScope (ini 16)) .none qV12 qd12 qm12 pn12 qe12 qt12), ps12⟩) (eI12 : PySem.W.codeIn K qe12 "StuckRow.__init__" = true) (kI12 : PySem.W.keepIn K (.ref g12) = true)
    (w12 : PySem.W.findIn K (.ref c12) "number" = some none)
    (n13 : PySem.W.nsIn K mainGlobals "TooLong" = some (some (.ref c13))) (x13 : ExC K c13 bmV "ValueError.__new__") (m13 : mroAt K c13 = some (.ref c13 :: .ref G :: bmV)) (s13 : (PySem.W.clsIn K c13).isSome = true) (i13 : PySem.W.findIn K (.ref c13) "__init__" = some (some (.ref g13))) (u13 : PySem.W.typeIn K (.ref g13) = some (.type "function"))
    (lI13 : K.lookup g13 = some ⟨qc13, pd13, .func (PySem.W.fnOf "__init__" "TooLong.__init__" (defArgs (ini 17)) (defBody (ini 17)) (defScope (ini 17)) .none qV13 qd13 qm13 pn13 qe13 qt13), ps13⟩) (eI13 : PySem.W.codeIn K qe13 "TooLong.__init__" = true) (kI13 : PySem.W.keepIn K (.ref g13) = true)
    (w13 : PySem.W.findIn K (.ref c13) "limit" = some none)
    (n14 : PySem.W.nsIn K mainGlobals "UnknownName" = some (some (.ref c14))) (x14 : ExC K c14 bmL "LookupError.__new__") (m14 : mroAt K c14 = some (.ref c14 :: .ref M :: bmL)) (s14 : (PySem.W.clsIn K c14).isSome = true) (i14 : PySem.W.findIn K (.ref c14) "__init__" = some (some (.ref g14))) (u14 : PySem.W.typeIn K (.ref g14) = some (.type "function"))
    (lI14 : K.lookup g14 = some ⟨qc14, pd14, .func (PySem.W.fnOf "__init__" "UnknownName.__init__" (defArgs (ini 18)) (defBody (ini 18)) (defScope (ini 18)) .none qV14 qd14 qm14 pn14 qe14 qt14), ps14⟩) (eI14 : PySem.W.codeIn K qe14 "UnknownName.__init__" = true) (kI14 : PySem.W.keepIn K (.ref g14) = true)
    (w14 : PySem.W.findIn K (.ref c14) "name" = some none)
    (n15 : PySem.W.nsIn K mainGlobals "NoFunction" = some (some (.ref c15))) (x15 : ExC K c15 bmL "LookupError.__new__") (m15 : mroAt K c15 = some (.ref c15 :: .ref M :: bmL)) (s15 : (PySem.W.clsIn K c15).isSome = true) (i15 : PySem.W.findIn K (.ref c15) "__init__" = some (some (.ref g15))) (u15 : PySem.W.typeIn K (.ref g15) = some (.type "function"))
    (lI15 : K.lookup g15 = some ⟨qc15, pd15, .func (PySem.W.fnOf "__init__" "NoFunction.__init__" (defArgs (ini 19)) (defBody (ini 19)) (defScope (ini 19)) .none qV15 qd15 qm15 pn15 qe15 qt15), ps15⟩) (eI15 : PySem.W.codeIn K qe15 "NoFunction.__init__" = true) (kI15 : PySem.W.keepIn K (.ref g15) = true)
    (w15 : PySem.W.findIn K (.ref c15) "name" = some none)
    (n16 : PySem.W.nsIn K mainGlobals "NoVersion" = some (some (.ref c16))) (x16 : ExC K c16 bmL "LookupError.__new__") (m16 : mroAt K c16 = some (.ref c16 :: .ref M :: bmL)) (s16 : (PySem.W.clsIn K c16).isSome = true) (i16 : PySem.W.findIn K (.ref c16) "__init__" = some (some (.ref g16))) (u16 : PySem.W.typeIn K (.ref g16) = some (.type "function"))
    (lI16 : K.lookup g16 = some ⟨qc16, pd16, .func (PySem.W.fnOf "__init__" "NoVersion.__init__" (defArgs (ini 20)) (defBody (ini 20)) (defScope (ini 20)) .none qV16 qd16 qm16 pn16 qe16 qt16), ps16⟩) (eI16 : PySem.W.codeIn K qe16 "NoVersion.__init__" = true) (kI16 : PySem.W.keepIn K (.ref g16) = true)
    (w16 : PySem.W.findIn K (.ref c16) "number" = some none)
    (n17 : PySem.W.nsIn K mainGlobals "NotThere" = some (some (.ref c17))) (x17 : ExC K c17 bmL "LookupError.__new__") (m17 : mroAt K c17 = some (.ref c17 :: .ref M :: bmL)) (s17 : (PySem.W.clsIn K c17).isSome = true) (i17 : PySem.W.findIn K (.ref c17) "__init__" = some (some (.ref g17))) (u17 : PySem.W.typeIn K (.ref g17) = some (.type "function"))
    (lI17 : K.lookup g17 = some ⟨qc17, pd17, .func (PySem.W.fnOf "__init__" "NotThere.__init__" (defArgs (ini 21)) (defBody (ini 21)) (defScope (ini 21)) .none qV17 qd17 qm17 pn17 qe17 qt17), ps17⟩) (eI17 : PySem.W.codeIn K qe17 "NotThere.__init__" = true) (kI17 : PySem.W.keepIn K (.ref g17) = true)
    (w17 : PySem.W.findIn K (.ref c17) "number" = some none)
    (nod : [G, M, c0, c1, c2, c3, c4, c5, c6, c7, c8, c9, c10, c11, c12, c13, c14, c15, c16, c17].Nodup) (cA : ClsAttr K)
    (z0 : PySem.W.nsIn K mainGlobals "len" = some none) (z1 : PySem.W.nsIn K mainGlobals "int" = some none) (z2 : PySem.W.nsIn K mainGlobals "abs" = some none) (z3 : PySem.W.nsIn K mainGlobals "range" = some none) (z4 : PySem.W.nsIn K mainGlobals "isinstance" = some none) (z5 : PySem.W.nsIn K mainGlobals "str" = some none) (z6 : PySem.W.nsIn K mainGlobals "repr" = some none) (z7 : PySem.W.nsIn K mainGlobals "tuple" = some none) (z8 : PySem.W.nsIn K mainGlobals "ValueError" = some none) (z9 : PySem.W.nsIn K mainGlobals "LookupError" = some none) :
    ∃ fd : FuncData, (∀ (s : Shared) (v : Value), BindsTo s fd ⟨[v], []⟩ [("script", v)]) ∧ ∀ base : Heap, K.In base → base.Ns mainGlobals mg → FnQ l.prog w K mg base CX0 5 fa fd ["script"] (spLaw K) := by
  have e := hfa.symm.trans (PySem.W.mg_of X Gn a7)
  cases e
  have T : Txt mg := ⟨PySem.W.mg_none_of X Gn z0, PySem.W.mg_none_of X Gn z1, PySem.W.mg_none_of X Gn z2, PySem.W.mg_none_of X Gn z3⟩
  have D : Glob mg := ⟨PySem.W.mg_none_of X Gn z0, PySem.W.mg_none_of X Gn z4, PySem.W.mg_none_of X Gn z5, PySem.W.mg_none_of X Gn z1, PySem.W.mg_none_of X Gn z6, PySem.W.mg_none_of X Gn z7⟩
  have F0 := fun_mk (st := sTold) l0 e0 k0
  have b0 := F0.binds (ps := ["value"]) fun _ _ _ _ _ _ us hl => match us, hl with | [_], _ => rfl
  have d0 : Def K mg "told" f0 := ⟨PySem.W.mg_of X Gn a0, k0⟩
  have F1 := fun_mk (st := sSource) l1 e1 k1
  have b1 := F1.binds (ps := ["script"]) fun _ _ _ _ _ _ us hl => match us, hl with | [_], _ => rfl
  have d1 : Def K mg "_law_source" f1 := ⟨PySem.W.mg_of X Gn a1, k1⟩
  have F2 := fun_mk (st := sPick) l2 e2 k2
  have b2 := F2.binds (ps := ["source", "many"]) fun _ _ _ _ _ _ us hl => match us, hl with | [_, _], _ => rfl
  have d2 : Def K mg "_law_pick" f2 := ⟨PySem.W.mg_of X Gn a2, k2⟩
  have F3 := fun_mk (st := sKinds) l3 e3 k3
  have b3 := F3.binds (ps := ["e"]) fun _ _ _ _ _ _ us hl => match us, hl with | [_], _ => rfl
  have d3 : Def K mg "_law_kinds" f3 := ⟨PySem.W.mg_of X Gn a3, k3⟩
  have F4 := fun_mk (st := sBases) l4 e4 k4
  have b4 := F4.binds (ps := ["e"]) fun _ _ _ _ _ _ us hl => match us, hl with | [_], _ => rfl
  have d4 : Def K mg "_law_bases" f4 := ⟨PySem.W.mg_of X Gn a4, k4⟩
  have F5 := fun_mk (st := sEvery) l5 e5 k5
  have b5 := F5.binds (ps := ["word", "number", "some"]) fun _ _ _ _ _ _ us hl => match us, hl with | [_, _, _], _ => rfl
  have d5 : Def K mg "_law_every" f5 := ⟨PySem.W.mg_of X Gn a5, k5⟩
  have F6 := fun_mk (st := sKept) l6 e6 k6
  have b6 := F6.binds (ps := ["every", "word", "number", "some"]) fun _ _ _ _ _ _ us hl => match us, hl with | [_, _, _, _], _ => rfl
  have d6 : Def K mg "_law_kept" f6 := ⟨PySem.W.mg_of X Gn a6, k6⟩
  have F7 := fun_mk (st := sLaw) l7 e7 k7
  have FI0 := fun_mk (st := ini 4) lI0 eI0 kI0
  have bI0 := FI0.binds (ps := ["self"]) fun _ _ _ _ _ _ us hl => match us, hl with | [_], _ => rfl
  have FI1 := fun_mk (st := ini 5) lI1 eI1 kI1
  have bI1 := FI1.binds (ps := ["self"]) fun _ _ _ _ _ _ us hl => match us, hl with | [_], _ => rfl
  have FI2 := fun_mk (st := ini 6) lI2 eI2 kI2
  have bI2 := FI2.binds (ps := ["self"]) fun _ _ _ _ _ _ us hl => match us, hl with | [_], _ => rfl
  have FI3 := fun_mk (st := ini 7) lI3 eI3 kI3
  have bI3 := FI3.binds (ps := ["self"]) fun _ _ _ _ _ _ us hl => match us, hl with | [_], _ => rfl
  have FI4 := fun_mk (st := ini 8) lI4 eI4 kI4
  have bI4 := FI4.binds (ps := ["self", "name"]) fun _ _ _ _ _ _ us hl => match us, hl with | [_, _], _ => rfl
  have FI5 := fun_mk (st := ini 9) lI5 eI5 kI5
  have bI5 := FI5.binds (ps := ["self", "name"]) fun _ _ _ _ _ _ us hl => match us, hl with | [_, _], _ => rfl
  have FI6 := fun_mk (st := ini 10) lI6 eI6 kI6
  have bI6 := FI6.binds (ps := ["self", "name"]) fun _ _ _ _ _ _ us hl => match us, hl with | [_, _], _ => rfl
  have FI7 := fun_mk (st := ini 11) lI7 eI7 kI7
  have bI7 := FI7.binds (ps := ["self", "name"]) fun _ _ _ _ _ _ us hl => match us, hl with | [_, _], _ => rfl
  have FI8 := fun_mk (st := ini 12) lI8 eI8 kI8
  have bI8 := FI8.binds (ps := ["self", "word"]) fun _ _ _ _ _ _ us hl => match us, hl with | [_, _], _ => rfl
  have FI9 := fun_mk (st := ini 13) lI9 eI9 kI9
  have bI9 := FI9.binds (ps := ["self", "path"]) fun _ _ _ _ _ _ us hl => match us, hl with | [_, _], _ => rfl
  have FI10 := fun_mk (st := ini 14) lI10 eI10 kI10
  have bI10 := FI10.binds (ps := ["self", "place"]) fun _ _ _ _ _ _ us hl => match us, hl with | [_, _], _ => rfl
  have FI11 := fun_mk (st := ini 15) lI11 eI11 kI11
  have bI11 := FI11.binds (ps := ["self", "place"]) fun _ _ _ _ _ _ us hl => match us, hl with | [_, _], _ => rfl
  have FI12 := fun_mk (st := ini 16) lI12 eI12 kI12
  have bI12 := FI12.binds (ps := ["self", "number"]) fun _ _ _ _ _ _ us hl => match us, hl with | [_, _], _ => rfl
  have FI13 := fun_mk (st := ini 17) lI13 eI13 kI13
  have bI13 := FI13.binds (ps := ["self", "limit"]) fun _ _ _ _ _ _ us hl => match us, hl with | [_, _], _ => rfl
  have FI14 := fun_mk (st := ini 18) lI14 eI14 kI14
  have bI14 := FI14.binds (ps := ["self", "name"]) fun _ _ _ _ _ _ us hl => match us, hl with | [_, _], _ => rfl
  have FI15 := fun_mk (st := ini 19) lI15 eI15 kI15
  have bI15 := FI15.binds (ps := ["self", "name"]) fun _ _ _ _ _ _ us hl => match us, hl with | [_, _], _ => rfl
  have FI16 := fun_mk (st := ini 20) lI16 eI16 kI16
  have bI16 := FI16.binds (ps := ["self", "number"]) fun _ _ _ _ _ _ us hl => match us, hl with | [_, _], _ => rfl
  have FI17 := fun_mk (st := ini 21) lI17 eI17 kI17
  have bI17 := FI17.binds (ps := ["self", "number"]) fun _ _ _ _ _ _ us hl => match us, hl with | [_, _], _ => rfl
  have C : Cs K mg G M c0 c1 c2 c3 c4 c5 c6 c7 c8 c9 c10 c11 c12 c13 c14 c15 c16 c17 := by
    refine ⟨fun k C hk => ?_, nod, PySem.W.mg_none_of X Gn z4, PySem.W.mg_none_of X Gn z8, PySem.W.mg_none_of X Gn z9, PySem.W.mg_of X Gn nG, PySem.W.mg_of X Gn nM, sG, tG, sM, tM, cA, PySem.W.mg_of X Gn n0, PySem.W.mg_of X Gn n1, PySem.W.mg_of X Gn n2, PySem.W.mg_of X Gn n3, PySem.W.mg_of X Gn n4, PySem.W.mg_of X Gn n5, PySem.W.mg_of X Gn n6, PySem.W.mg_of X Gn n7, PySem.W.mg_of X Gn n8, PySem.W.mg_of X Gn n9, PySem.W.mg_of X Gn n10, PySem.W.mg_of X Gn n11, PySem.W.mg_of X Gn n12, PySem.W.mg_of X Gn n13, PySem.W.mg_of X Gn n14, PySem.W.mg_of X Gn n15, PySem.W.mg_of X Gn n16, PySem.W.mg_of X Gn n17⟩
    match k, hk with
    | 0, hk => cases hk; exact ⟨fun _ => ⟨x0, m0⟩, fun z => absurd z (by decide), s0, x0.tyC⟩
    | 1, hk => cases hk; exact ⟨fun _ => ⟨x1, m1⟩, fun z => absurd z (by decide), s1, x1.tyC⟩
    | 2, hk => cases hk; exact ⟨fun _ => ⟨x2, m2⟩, fun z => absurd z (by decide), s2, x2.tyC⟩
    | 3, hk => cases hk; exact ⟨fun _ => ⟨x3, m3⟩, fun z => absurd z (by decide), s3, x3.tyC⟩
    | 4, hk => cases hk; exact ⟨fun _ => ⟨x4, m4⟩, fun z => absurd z (by decide), s4, x4.tyC⟩
    | 5, hk => cases hk; exact ⟨fun _ => ⟨x5, m5⟩, fun z => absurd z (by decide), s5, x5.tyC⟩
    | 6, hk => cases hk; exact ⟨fun _ => ⟨x6, m6⟩, fun z => absurd z (by decide), s6, x6.tyC⟩
    | 7, hk => cases hk; exact ⟨fun _ => ⟨x7, m7⟩, fun z => absurd z (by decide), s7, x7.tyC⟩
    | 8, hk => cases hk; exact ⟨fun _ => ⟨x8, m8⟩, fun z => absurd z (by decide), s8, x8.tyC⟩
    | 9, hk => cases hk; exact ⟨fun _ => ⟨x9, m9⟩, fun z => absurd z (by decide), s9, x9.tyC⟩
    | 10, hk => cases hk; exact ⟨fun _ => ⟨x10, m10⟩, fun z => absurd z (by decide), s10, x10.tyC⟩
    | 11, hk => cases hk; exact ⟨fun _ => ⟨x11, m11⟩, fun z => absurd z (by decide), s11, x11.tyC⟩
    | 12, hk => cases hk; exact ⟨fun _ => ⟨x12, m12⟩, fun z => absurd z (by decide), s12, x12.tyC⟩
    | 13, hk => cases hk; exact ⟨fun _ => ⟨x13, m13⟩, fun z => absurd z (by decide), s13, x13.tyC⟩
    | 14, hk => cases hk; exact ⟨fun z => absurd z (by decide), fun _ => ⟨x14, m14⟩, s14, x14.tyC⟩
    | 15, hk => cases hk; exact ⟨fun z => absurd z (by decide), fun _ => ⟨x15, m15⟩, s15, x15.tyC⟩
    | 16, hk => cases hk; exact ⟨fun z => absurd z (by decide), fun _ => ⟨x16, m16⟩, s16, x16.tyC⟩
    | 17, hk => cases hk; exact ⟨fun z => absurd z (by decide), fun _ => ⟨x17, m17⟩, s17, x17.tyC⟩
    | n + 18, hk => simp at hk
  refine ⟨PySem.W.fnOf "law" "law" (defArgs sLaw) (defBody sLaw) (defScope sLaw) .none kV7 dc7 pm7 an7 cd7 ct7, fun s v => .of_eq rfl, fun base _ _ => ?_⟩
  have gTo := ok_told (P := l.prog) (w := w) (base := base) F0 D
  have U : Up l.prog w K mg base G M f0 _ := ⟨PySem.W.mg_of X Gn nG, bG, PySem.W.mg_of X Gn nM, bM, gTo, d0, b0⟩
  have gSo := ok_source (P := l.prog) (w := w) (base := base) F1 T
  have gPi := ok_pick (P := l.prog) (w := w) (base := base) F2 T
  have gKi := ok_kinds (P := l.prog) (w := w) (base := base) F3 C
  have gBa := ok_bases (P := l.prog) (w := w) (base := base) F4 C
  have I0 := ok_i0 (P := l.prog) (w := w) (base := base) FI0 U
  have I1 := ok_i1 (P := l.prog) (w := w) (base := base) FI1 U
  have I2 := ok_i2 (P := l.prog) (w := w) (base := base) FI2 U
  have I3 := ok_i3 (P := l.prog) (w := w) (base := base) FI3 U
  have I4 := ok_i4 (P := l.prog) (w := w) (base := base) FI4 U
  have I5 := ok_i5 (P := l.prog) (w := w) (base := base) FI5 U
  have I6 := ok_i6 (P := l.prog) (w := w) (base := base) FI6 U
  have I7 := ok_i7 (P := l.prog) (w := w) (base := base) FI7 U
  have I8 := ok_i8 (P := l.prog) (w := w) (base := base) FI8 U
  have I9 := ok_i9 (P := l.prog) (w := w) (base := base) FI9 D U
  have I10 := ok_i10 (P := l.prog) (w := w) (base := base) FI10 U
  have I11 := ok_i11 (P := l.prog) (w := w) (base := base) FI11 U
  have I12 := ok_i12 (P := l.prog) (w := w) (base := base) FI12 U
  have I13 := ok_i13 (P := l.prog) (w := w) (base := base) FI13 U
  have I14 := ok_i14 (P := l.prog) (w := w) (base := base) FI14 U
  have I15 := ok_i15 (P := l.prog) (w := w) (base := base) FI15 U
  have I16 := ok_i16 (P := l.prog) (w := w) (base := base) FI16 U
  have I17 := ok_i17 (P := l.prog) (w := w) (base := base) FI17 U
  have gEv := ok_every (P := l.prog) (w := w) (base := base) F5 C ⟨i0, u0, I0, bI0⟩ ⟨i1, u1, I1, bI1⟩ ⟨i2, u2, I2, bI2⟩ ⟨i3, u3, I3, bI3⟩ ⟨i4, u4, I4, bI4⟩ ⟨i5, u5, I5, bI5⟩ ⟨i6, u6, I6, bI6⟩ ⟨i7, u7, I7, bI7⟩ ⟨i8, u8, I8, bI8⟩ ⟨i9, u9, I9, bI9⟩ ⟨i10, u10, I10, bI10⟩ ⟨i11, u11, I11, bI11⟩ ⟨i12, u12, I12, bI12⟩ ⟨i13, u13, I13, bI13⟩ ⟨i14, u14, I14, bI14⟩ ⟨i15, u15, I15, bI15⟩ ⟨i16, u16, I16, bI16⟩ ⟨i17, u17, I17, bI17⟩ w4 w5 w6 w7 w8 w9 w10 w11 w12 w13 w14 w15 w16 w17
  have gKe := ok_kept (P := l.prog) (w := w) (base := base) F6 C ⟨PySem.W.mg_none_of X Gn z6, PySem.W.mg_none_of X Gn z7⟩ w4 w5 w6 w7 w8 w9 w10 w11 w12 w13 w14 w15 w16 w17
  exact ok_law F7 rfl ⟨gSo, d1, b1, gPi, d2, b2, gEv, d5, b5, gKi, d3, b3, gBa, d4, b4, gKe, d6, b6, PySem.W.mg_none_of X Gn z3, PySem.W.mg_none_of X Gn z0, PySem.W.mg_none_of X Gn z1⟩
end K00
open PySem PySem.W PyProof.Rows
set_option maxRecDepth 100000 in
set_option maxHeartbeats 0 in
theorem PySem.Challenge.cw_shapeguess_k00_errors_holds : PySem.Challenge.rw_shapeguess_k00_errors.Holds := by
  w_on; o_law; k_head; (case hw => w_witness2)
  k_fill
  refine Ver.walkQ (l := PySem.Challenge.rw_shapeguess_k00_errors) (n := 63) (k := 5) (x := "script") (sp := fun K => K00.spLaw K) rfl (by decide) rfl ⟨rfl, by decide, by decide⟩ (fun w h Y => PySem.W.kIn_of Y) ?F ?S
  case S => exact fun K H a ns hl _ hS => ⟨a, ns, rfl, hS, hl, fun _ => rfl⟩
  case F =>
    intro w mg fa h KX G hmg
    refine' K00.all_mk KX G hmg ?a0 ?l0 ?e0 ?k0 ?a1 ?l1 ?e1 ?k1 ?a2 ?l2 ?e2 ?k2 ?a3 ?l3 ?e3 ?k3 ?a4 ?l4 ?e4 ?k4 ?a5 ?l5 ?e5 ?k5 ?a6 ?l6 ?e6 ?k6 ?a7 ?l7 ?e7 ?k7 ?nG ?bG ?sG ?tG ?nM ?bM ?sM ?tM ?n0 ?x0 ?m0 ?s0 ?i0 ?u0 ?lI0 ?eI0 ?kI0 ?n1 ?x1 ?m1 ?s1 ?i1 ?u1 ?lI1 ?eI1 ?kI1 ?n2 ?x2 ?m2 ?s2 ?i2 ?u2 ?lI2 ?eI2 ?kI2 ?n3 ?x3 ?m3 ?s3 ?i3 ?u3 ?lI3 ?eI3 ?kI3 ?n4 ?x4 ?m4 ?s4 ?i4 ?u4 ?lI4 ?eI4 ?kI4 ?w4 ?n5 ?x5 ?m5 ?s5 ?i5 ?u5 ?lI5 ?eI5 ?kI5 ?w5 ?n6 ?x6 ?m6 ?s6 ?i6 ?u6 ?lI6 ?eI6 ?kI6 ?w6 ?n7 ?x7 ?m7 ?s7 ?i7 ?u7 ?lI7 ?eI7 ?kI7 ?w7 ?n8 ?x8 ?m8 ?s8 ?i8 ?u8 ?lI8 ?eI8 ?kI8 ?w8 ?n9 ?x9 ?m9 ?s9 ?i9 ?u9 ?lI9 ?eI9 ?kI9 ?w9 ?n10 ?x10 ?m10 ?s10 ?i10 ?u10 ?lI10 ?eI10 ?kI10 ?w10 ?n11 ?x11 ?m11 ?s11 ?i11 ?u11 ?lI11 ?eI11 ?kI11 ?w11 ?n12 ?x12 ?m12 ?s12 ?i12 ?u12 ?lI12 ?eI12 ?kI12 ?w12 ?n13 ?x13 ?m13 ?s13 ?i13 ?u13 ?lI13 ?eI13 ?kI13 ?w13 ?n14 ?x14 ?m14 ?s14 ?i14 ?u14 ?lI14 ?eI14 ?kI14 ?w14 ?n15 ?x15 ?m15 ?s15 ?i15 ?u15 ?lI15 ?eI15 ?kI15 ?w15 ?n16 ?x16 ?m16 ?s16 ?i16 ?u16 ?lI16 ?eI16 ?kI16 ?w16 ?n17 ?x17 ?m17 ?s17 ?i17 ?u17 ?lI17 ?eI17 ?kI17 ?w17 ?nod ?cA ?z0 ?z1 ?z2 ?z3 ?z4 ?z5 ?z6 ?z7 ?z8 ?z9
    (case a0 => k_is); (case l0 => k_is); (case e0 => k_is); (case k0 => k_is); (case a1 => k_is); (case l1 => k_is); (case e1 => k_is); (case k1 => k_is)
    (case a2 => k_is); (case l2 => k_is); (case e2 => k_is); (case k2 => k_is); (case a3 => k_is); (case l3 => k_is); (case e3 => k_is); (case k3 => k_is)
    (case a4 => k_is); (case l4 => k_is); (case e4 => k_is); (case k4 => k_is); (case a5 => k_is); (case l5 => k_is); (case e5 => k_is); (case k5 => k_is)
    (case a6 => k_is); (case l6 => k_is); (case e6 => k_is); (case k6 => k_is); (case a7 => k_is); (case l7 => k_is); (case e7 => k_is); (case k7 => k_is)
    (case nG => k_is); (case bG => exact ⟨by k_is, by k_is, by k_is⟩); (case sG => kernel_rfl); (case tG => k_is); (case nM => k_is); (case bM => exact ⟨by k_is, by k_is, by k_is⟩); (case sM => kernel_rfl); (case tM => k_is)
    (case n0 => k_is); (case x0 => exact ⟨by kernel_rfl, by kernel_rfl, by k_is, by k_is, by k_is, by k_is, by k_is, by k_is, by k_is, by k_is, by k_is⟩); (case m0 => kernel_rfl); (case s0 => kernel_rfl); (case i0 => k_is); (case u0 => k_is); (case lI0 => k_is); (case eI0 => k_is)
    (case kI0 => k_is); (case n1 => k_is); (case x1 => exact ⟨by kernel_rfl, by kernel_rfl, by k_is, by k_is, by k_is, by k_is, by k_is, by k_is, by k_is, by k_is, by k_is⟩); (case m1 => kernel_rfl); (case s1 => kernel_rfl); (case i1 => k_is); (case u1 => k_is); (case lI1 => k_is)
    (case eI1 => k_is); (case kI1 => k_is); (case n2 => k_is); (case x2 => exact ⟨by kernel_rfl, by kernel_rfl, by k_is, by k_is, by k_is, by k_is, by k_is, by k_is, by k_is, by k_is, by k_is⟩); (case m2 => kernel_rfl); (case s2 => kernel_rfl); (case i2 => k_is); (case u2 => k_is)
    (case lI2 => k_is); (case eI2 => k_is); (case kI2 => k_is); (case n3 => k_is); (case x3 => exact ⟨by kernel_rfl, by kernel_rfl, by k_is, by k_is, by k_is, by k_is, by k_is, by k_is, by k_is, by k_is, by k_is⟩); (case m3 => kernel_rfl); (case s3 => kernel_rfl); (case i3 => k_is)
    (case u3 => k_is); (case lI3 => k_is); (case eI3 => k_is); (case kI3 => k_is); (case n4 => k_is); (case x4 => exact ⟨by kernel_rfl, by kernel_rfl, by k_is, by k_is, by k_is, by k_is, by k_is, by k_is, by k_is, by k_is, by k_is⟩); (case m4 => kernel_rfl); (case s4 => kernel_rfl)
    (case i4 => k_is); (case u4 => k_is); (case lI4 => k_is); (case eI4 => k_is); (case kI4 => k_is); (case w4 => k_is); (case n5 => k_is); (case x5 => exact ⟨by kernel_rfl, by kernel_rfl, by k_is, by k_is, by k_is, by k_is, by k_is, by k_is, by k_is, by k_is, by k_is⟩)
    (case m5 => kernel_rfl); (case s5 => kernel_rfl); (case i5 => k_is); (case u5 => k_is); (case lI5 => k_is); (case eI5 => k_is); (case kI5 => k_is); (case w5 => k_is)
    (case n6 => k_is); (case x6 => exact ⟨by kernel_rfl, by kernel_rfl, by k_is, by k_is, by k_is, by k_is, by k_is, by k_is, by k_is, by k_is, by k_is⟩); (case m6 => kernel_rfl); (case s6 => kernel_rfl); (case i6 => k_is); (case u6 => k_is); (case lI6 => k_is); (case eI6 => k_is)
    (case kI6 => k_is); (case w6 => k_is); (case n7 => k_is); (case x7 => exact ⟨by kernel_rfl, by kernel_rfl, by k_is, by k_is, by k_is, by k_is, by k_is, by k_is, by k_is, by k_is, by k_is⟩); (case m7 => kernel_rfl); (case s7 => kernel_rfl); (case i7 => k_is); (case u7 => k_is)
    (case lI7 => k_is); (case eI7 => k_is); (case kI7 => k_is); (case w7 => k_is); (case n8 => k_is); (case x8 => exact ⟨by kernel_rfl, by kernel_rfl, by k_is, by k_is, by k_is, by k_is, by k_is, by k_is, by k_is, by k_is, by k_is⟩); (case m8 => kernel_rfl); (case s8 => kernel_rfl)
    (case i8 => k_is); (case u8 => k_is); (case lI8 => k_is); (case eI8 => k_is); (case kI8 => k_is); (case w8 => k_is); (case n9 => k_is); (case x9 => exact ⟨by kernel_rfl, by kernel_rfl, by k_is, by k_is, by k_is, by k_is, by k_is, by k_is, by k_is, by k_is, by k_is⟩)
    (case m9 => kernel_rfl); (case s9 => kernel_rfl); (case i9 => k_is); (case u9 => k_is); (case lI9 => k_is); (case eI9 => k_is); (case kI9 => k_is); (case w9 => k_is)
    (case n10 => k_is); (case x10 => exact ⟨by kernel_rfl, by kernel_rfl, by k_is, by k_is, by k_is, by k_is, by k_is, by k_is, by k_is, by k_is, by k_is⟩); (case m10 => kernel_rfl); (case s10 => kernel_rfl); (case i10 => k_is); (case u10 => k_is); (case lI10 => k_is); (case eI10 => k_is)
    (case kI10 => k_is); (case w10 => k_is); (case n11 => k_is); (case x11 => exact ⟨by kernel_rfl, by kernel_rfl, by k_is, by k_is, by k_is, by k_is, by k_is, by k_is, by k_is, by k_is, by k_is⟩); (case m11 => kernel_rfl); (case s11 => kernel_rfl); (case i11 => k_is); (case u11 => k_is)
    (case lI11 => k_is); (case eI11 => k_is); (case kI11 => k_is); (case w11 => k_is); (case n12 => k_is); (case x12 => exact ⟨by kernel_rfl, by kernel_rfl, by k_is, by k_is, by k_is, by k_is, by k_is, by k_is, by k_is, by k_is, by k_is⟩); (case m12 => kernel_rfl); (case s12 => kernel_rfl)
    (case i12 => k_is); (case u12 => k_is); (case lI12 => k_is); (case eI12 => k_is); (case kI12 => k_is); (case w12 => k_is); (case n13 => k_is); (case x13 => exact ⟨by kernel_rfl, by kernel_rfl, by k_is, by k_is, by k_is, by k_is, by k_is, by k_is, by k_is, by k_is, by k_is⟩)
    (case m13 => kernel_rfl); (case s13 => kernel_rfl); (case i13 => k_is); (case u13 => k_is); (case lI13 => k_is); (case eI13 => k_is); (case kI13 => k_is); (case w13 => k_is)
    (case n14 => k_is); (case x14 => exact ⟨by kernel_rfl, by kernel_rfl, by k_is, by k_is, by k_is, by k_is, by k_is, by k_is, by k_is, by k_is, by k_is⟩); (case m14 => kernel_rfl); (case s14 => kernel_rfl); (case i14 => k_is); (case u14 => k_is); (case lI14 => k_is); (case eI14 => k_is)
    (case kI14 => k_is); (case w14 => k_is); (case n15 => k_is); (case x15 => exact ⟨by kernel_rfl, by kernel_rfl, by k_is, by k_is, by k_is, by k_is, by k_is, by k_is, by k_is, by k_is, by k_is⟩); (case m15 => kernel_rfl); (case s15 => kernel_rfl); (case i15 => k_is); (case u15 => k_is)
    (case lI15 => k_is); (case eI15 => k_is); (case kI15 => k_is); (case w15 => k_is); (case n16 => k_is); (case x16 => exact ⟨by kernel_rfl, by kernel_rfl, by k_is, by k_is, by k_is, by k_is, by k_is, by k_is, by k_is, by k_is, by k_is⟩); (case m16 => kernel_rfl); (case s16 => kernel_rfl)
    (case i16 => k_is); (case u16 => k_is); (case lI16 => k_is); (case eI16 => k_is); (case kI16 => k_is); (case w16 => k_is); (case n17 => k_is); (case x17 => exact ⟨by kernel_rfl, by kernel_rfl, by k_is, by k_is, by k_is, by k_is, by k_is, by k_is, by k_is, by k_is, by k_is⟩)
    (case m17 => kernel_rfl); (case s17 => kernel_rfl); (case i17 => k_is); (case u17 => k_is); (case lI17 => k_is); (case eI17 => k_is); (case kI17 => k_is); (case w17 => k_is)
    (case nod => decide); (case cA => exact ⟨by k_is, by k_is⟩); (case z0 => k_is); (case z1 => k_is); (case z2 => k_is); (case z3 => k_is); (case z4 => k_is); (case z5 => k_is)
    (case z6 => k_is); (case z7 => k_is); (case z8 => k_is); (case z9 => k_is)
