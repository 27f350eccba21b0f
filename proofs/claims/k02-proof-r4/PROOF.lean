import PyProof.Rows.All
import Wide.All
import OpenK.AllK
import Wide.FinOn
import HandS.ForMost
import HandS.Evl
import HandS.IsInst
import HandS.Wide
import HandS.SortRule
import HandS.Conv
import HandS.Style
import PyProof.TupleOfSeq
import PySem.Challenge.RW_everyfuture_k02_common_stretches
set_option Elab.async false
set_option linter.all false
section
set_option maxRecDepth 100000
set_option maxHeartbeats 4000000
/-! sorted(xs) of pairs of ints, xs a list or a tuple -/
namespace SrtO
open PySem PyProof.Rows Srt
section
variable {prog : Program} {w : World} {A : Around} {E : Value → Shared → Prop} {s : Shared}
theorem sorted_pairsS {l : Addr} {o : Obj} {n : Nat} {T : String} {vs : List Value} {k : Value → Int × Int} {Q : Value → Shared → Prop} (hT : T = "list" ∨ T = "tuple") (ho : s.heap.get? l = some o) (hc : o.cls = .type T) (hd : o.data = .seq vs.toArray n)
    (hz : vs.length ≤ sizeLine) (hp : ∀ v ∈ vs, IsPair s.heap v (k v).1 (k v).2)
    (h : ∀ (h' : Heap) (d : Addr) (out : List Value), Srtd (fun v u => lexB (k v) (k u)) out → Stb (fun v u => lexB (k v) (k u)) out vs → (∃ h1 : Heap, (∀ b o, s.heap.get? b = some o → h1.get? b = some o) ∧ (∀ b o, h1.get? b = some o → h'.get? b = some o) ∧ h1.objs.size ≤ d) → (∃ n, h'.get? d = some (seqObj "list" out.toArray n)) → Q (.ref d) { s with heap := h' }) :
    wpAny (model prog w) A (call (.builtin "sorted") [.ref l]) Q E s := by
  refine Calls.call_function_entry kind_sorted plain_sorted entry_sorted (args_sorted1 _) ?_
  unfold Builtin.«sorted»
  refine wpAny_bind (m := checkCount "sorted" 1 1 _) (wpAny_pure ?_)
  refine wpAny_bind (wpAny_collect_seq l hT ho hc hd (fun h1 keep => ?_) (by rw [List.size_toArray]; exact hz))
  refine wpAny_bind (wpAny_newList ?_ (by simpa using hz))
  have e0 : vs.toArray.toList = vs := by simp
  rw [e0]
  have hoL : (h1.push (seqObj "list" vs.toArray 0)).get? h1.objs.size = some (seqObj "list" vs.toArray 0) := Heap.get?_push_size _ rfl
  have keep2 : ∀ b o, s.heap.get? b = some o → (h1.push (seqObj "list" vs.toArray 0)).get? b = some o := fun b o q => Heap.get?_push_of_some _ (keep b o q)
  show wpAny _ _ _ _ _ { s with heap := h1.push (seqObj "list" vs.toArray 0) }
  refine wpAny_bind (wpAny_holding (wpAny_call_entry slot_list_sort ⟨_, hoL, rfl⟩ entry_list_sort (list_sort_ord (s := { s with heap := h1.push (seqObj "list" vs.toArray 0) }) (swo_lex k) hoL hz (fun h2 => ?_) fun out hs hb => ⟨_, rfl, ?_⟩) (args_list_sort _)))
  · refine pairs_sortableO (by omega) (fun v hv => (hp v hv).keeps fun b o e _ => keep2 b o e) fun o e => ?_
    have e' : some o = some (seqObj "list" vs.toArray 0) := e.symm.trans hoL
    cases e'
    intro c
    exact absurd (Value.type.inj c) (by decide)
  · refine wpAny_pure ⟨_, rfl, ?_⟩
    refine h _ _ out hs hb ⟨h1, keep, fun b o e => ?_, Nat.le_refl _⟩ (sortedHeap_at hoL)
    have hlt : b < h1.objs.size := Heap.lt_size e
    rw [sortedHeap_old (Nat.ne_of_lt hlt) (by rw [size_push']; exact Nat.lt_succ_of_lt hlt)]
    exact Heap.get?_push_of_some _ e
end
end SrtO
namespace L2
open PySem PySem.Spec PyProof.Rows
def rSortedPS (K : PySem.W.Frag) : List V → Hp → VK → Prop := fun vs H Q => ∃ (a : Addr) (xs : List V) (k : V → Int × Int), vs = [V.ref a] ∧ (SqL K H a xs ∨ SqT K H a xs) ∧ (∀ x ∈ xs, ∃ t, x = V.ref t ∧ H t = some (.tup [.int (k x).1, .int (k x).2])) ∧
  ∀ ys p, SrtO.Srtd (ltP k) ys → SrtO.Stb (ltP k) ys xs → H p = none → Q (.ref p) (upd H p (.lst ys))
section
variable {X : Cx}
theorem cr_sortedPS : CallR X (.builtin "sorted") (rSortedPS X.K) := by
  intro pins s σ H vs us Q I r h
  obtain ⟨a, xs, k, rfl, hs, hx, q⟩ := h
  obtain ⟨u, rfl, ru⟩ := vals1 r
  obtain rfl : u = Value.ref a := ru
  obtain ⟨its, T, o, n, rv, hT, ho, hc, hd, hz⟩ : ∃ (its : List Value) (T : String) (o : Obj) (n : Nat), Vals xs its ∧ (T = "list" ∨ T = "tuple") ∧ s.heap.get? a = some o ∧ o.cls = .type T ∧ o.data = .seq its.toArray n ∧ xs.length ≤ sizeLine := by
    rcases hs with hs | hs
    · obtain ⟨its, rv, hl, hz⟩ := I.list hs
      obtain ⟨o, ho, hc, n, hd⟩ := hl.isList
      exact ⟨its, "list", o, n, rv, .inl rfl, ho, hc, hd, hz⟩
    · obtain ⟨its, rv, hl, hz⟩ := I.tuple hs
      obtain ⟨o, ho, hc, n, hd⟩ := hl
      exact ⟨its, "tuple", o, n, rv, .inr rfl, ho, hc, hd, hz⟩
  obtain ⟨e1, e2⟩ := refs_back rv fun x m => by
    obtain ⟨t, e, _⟩ := hx x m
    exact ⟨t, e⟩
  refine SrtO.sorted_pairsS (k := fun u => k (backV u)) hT ho hc hd (by rw [← rv.length]; exact hz) (fun v hv => ?_) fun h' d out h1 h2 kp hn => ?_
  · obtain ⟨t, rfl⟩ := e2 v hv
    have hm : V.ref t ∈ xs := by rw [e1]; exact List.mem_map.mpr ⟨_, hv, rfl⟩
    obtain ⟨t', e, ht⟩ := hx _ hm
    cases e
    obtain ⟨_, its2, r2, o, ho, hc, n, hd⟩ := I.hok _ _ ht
    obtain ⟨u1, u2, rfl, ri, rj⟩ := vals2 r2
    obtain ⟨t1, rfl⟩ := ri
    obtain ⟨t2, rfl⟩ := rj
    exact ⟨t, o, t1, t2, n, rfl, ho, hc, hd⟩
  · have h3 : ∀ u ∈ out, ∃ a, u = Value.ref a := fun u hu => e2 u (h2.perm.mem_iff.mp hu)
    obtain ⟨n, hn⟩ := hn
    obtain ⟨hm, k1, k2, hd⟩ := kp
    have I1 : Inv X pins σ H { s with heap := hm } := I.kept (t' := s.toks) k1
    have hb : SrtO.Stb (ltP k) (out.map backV) xs := by
      rw [e1]
      exact SrtO.Stb.map (ltP_swo k) backV h2
    refine ⟨.ref d, upd H d (.lst (out.map backV)), I1.laid (t' := s.toks) k2 hd ⟨?_, out, n, vals_back h3, hn⟩, rfl, q _ d (SrtO.srtd_map h1) hb (I1.hok.fresh hd)⟩
    rw [hb.len]
    exact hz
end
end L2

end
section
set_option maxRecDepth 100000
set_option maxHeartbeats 2000000
/-! PL: data without the heap: what expressions are worth, how statements run, over slots that hold data. -/
namespace PL
open PySem PySem.Spec PyProof.Rows L2 Evl

inductive D where
  | non | bl (b : Bool) | int (i : Int) | str (x : Str)
  | lst (ds : List D) | tup (ds : List D)
  | scr (ns : List Int)

mutual
inductive Dt (K : PySem.W.Frag) (H : Hp) : V → D → Prop where
  | non : Dt K H .non .non
  | bl (b : Bool) : Dt K H (.bl b) (.bl b)
  | int (i : Int) : Dt K H (.int i) (.int i)
  | str (x : Str) : Dt K H (.str x) (.str x)
  | scr {a : Addr} {ns : List Int} : SqL K H a (ns.map V.int) → Dt K H (.ref a) (.scr ns)
  | lst {a : Addr} {xs : List V} {ds : List D} : H a = some (.lst xs) → DtA K H xs ds → Dt K H (.ref a) (.lst ds)
  | tup {a : Addr} {xs : List V} {ds : List D} : H a = some (.tup xs) → DtA K H xs ds → Dt K H (.ref a) (.tup ds)
inductive DtA (K : PySem.W.Frag) (H : Hp) : List V → List D → Prop where
  | nil : DtA K H [] []
  | cons {v : V} {d : D} {vs : List V} {ds : List D} : Dt K H v d → DtA K H vs ds → DtA K H (v :: vs) (d :: ds)
end
section
variable {K : PySem.W.Frag} {H H' : Hp}
mutual
theorem Dt.mono (e : Ex H H') : ∀ {v : V} {d : D}, Dt K H v d → Dt K H' v d
  | _, _, .non => .non
  | _, _, .bl b => .bl b
  | _, _, .int b => .int b
  | _, _, .str b => .str b
  | _, _, .scr h => .scr (ex_l e h)
  | _, _, .lst h q => .lst (e _ _ h) (DtA.mono e q)
  | _, _, .tup h q => .tup (e _ _ h) (DtA.mono e q)
theorem DtA.mono (e : Ex H H') : ∀ {vs : List V} {ds : List D}, DtA K H vs ds → DtA K H' vs ds
  | _, _, .nil => .nil
  | _, _, .cons h q => .cons (Dt.mono e h) (DtA.mono e q)
end
theorem DtA.len : ∀ {vs : List V} {ds : List D}, DtA K H vs ds → vs.length = ds.length
  | _, _, .nil => rfl
  | _, _, .cons _ q => by simp [q.len]
theorem DtA.get : ∀ {vs : List V} {ds : List D} {i : Nat} {d : D}, DtA K H vs ds → ds[i]? = some d → ∃ v, vs[i]? = some v ∧ Dt K H v d
  | _, _, _, _, .nil, e => by simp at e
  | _, _, 0, _, .cons h _, e => by simp at e; subst e; exact ⟨_, rfl, h⟩
  | _, _, i + 1, d, .cons _ q, e => by
    obtain ⟨v, h1, h2⟩ := q.get (i := i) (d := d) (by simpa using e)
    exact ⟨v, by simpa using h1, h2⟩
theorem DtA.append : ∀ {vs ws : List V} {ds es : List D}, DtA K H vs ds → DtA K H ws es → DtA K H (vs ++ ws) (ds ++ es)
  | _, _, _, _, .nil, q => q
  | _, _, _, _, .cons h t, q => .cons h (DtA.append t q)
theorem DtA.one {v : V} {d : D} (h : Dt K H v d) : DtA K H [v] [d] := .cons h .nil
theorem DtA.set {v : V} {d : D} (r : Dt K H v d) : ∀ {vs : List V} {ds : List D} (i : Nat), DtA K H vs ds → DtA K H (vs.set i v) (ds.set i d)
  | _, _, _, .nil => .nil
  | _, _, 0, .cons _ t => .cons r t
  | _, _, i + 1, .cons q t => .cons q (DtA.set r i t)
theorem DtA.erase : ∀ {vs : List V} {ds : List D} (i : Nat), DtA K H vs ds → DtA K H (vs.eraseIdx i) (ds.eraseIdx i)
  | _, _, _, .nil => .nil
  | _, _, 0, .cons _ t => t
  | _, _, i + 1, .cons q t => .cons q (DtA.erase i t)
theorem DtA.ints : ∀ (ns : List Int), DtA K H (ns.map V.int) (ns.map D.int)
  | [] => .nil
  | n :: r => .cons (.int n) (DtA.ints r)
theorem DtA.ints_inv : ∀ {vs : List V} {ns : List Int}, DtA K H vs (ns.map D.int) → vs = ns.map V.int
  | _, [], h => by cases h; rfl
  | _, n :: r, h => by
    cases h with
    | cons a b =>
      cases a
      rw [DtA.ints_inv b]
      rfl
theorem Dt.int_inv {v : V} {i : Int} (h : Dt K H v (.int i)) : v = .int i := by cases h; rfl
theorem Dt.bl_inv {v : V} {i : Bool} (h : Dt K H v (.bl i)) : v = .bl i := by cases h; rfl
theorem Dt.lst_inv {v : V} {ds : List D} (h : Dt K H v (.lst ds)) : ∃ a xs, v = .ref a ∧ H a = some (.lst xs) ∧ DtA K H xs ds := by
  cases h with
  | lst h q => exact ⟨_, _, rfl, h, q⟩
theorem Dt.tup_inv {v : V} {ds : List D} (h : Dt K H v (.tup ds)) : ∃ a xs, v = .ref a ∧ H a = some (.tup xs) ∧ DtA K H xs ds := by
  cases h with
  | tup h q => exact ⟨_, _, rfl, h, q⟩
theorem Dt.scr_inv {v : V} {ns : List Int} (h : Dt K H v (.scr ns)) : ∃ a, v = .ref a ∧ SqL K H a (ns.map V.int) := by
  cases h with
  | scr h => exact ⟨_, rfl, h⟩
end

/-! ### growing -/
abbrev Emp : Hp := fun _ => none
theorem ex_emp (H : Hp) : Ex Emp H := fun _ _ h => nomatch h
structure Grow (Hf H Hf' H' : Hp) : Prop where
  f : Ex Hf Hf'
  i : Ex Hf' H'
  h : Ex H H'
  n : ∀ p, Hf p = none → H p ≠ none → Hf' p = none
theorem ex_some {H H' : Hp} (e : Ex H H') {p : Addr} (h : H p ≠ none) : H' p ≠ none := by
  cases q : H p with
  | none => exact absurd q h
  | some o => rw [e _ _ q]; exact fun z => nomatch z
theorem Grow.refl {Hf H : Hp} (e : Ex Hf H) : Grow Hf H Hf H := ⟨Ex.refl _, e, Ex.refl _, fun _ h _ => h⟩
theorem Grow.trans {Hf H Hf1 H1 Hf2 H2 : Hp} (a : Grow Hf H Hf1 H1) (b : Grow Hf1 H1 Hf2 H2) : Grow Hf H Hf2 H2 :=
  ⟨a.f.trans b.f, b.i, a.h.trans b.h, fun p h1 h2 => b.n p (a.n p h1 h2) (ex_some a.h h2)⟩
theorem Grow.up {Hf H H' : Hp} (a : Ex Hf H) (b : Ex H H') : Grow Hf H Hf H' := ⟨Ex.refl _, a.trans b, b, fun _ h _ => h⟩
/-- a new object, in the frame and out of it -/
theorem Grow.new {Hf H : Hp} (a : Ex Hf H) {p : Addr} {o : HO} (h : H p = none) : Grow Hf H (upd Hf p o) (upd H p o) :=
  ⟨Ex.new (fresh_back a h), fun b u e => by
    by_cases hb : b = p
    · subst hb; rw [upd_same] at e ⊢; exact e
    · rw [upd_ne hb] at e ⊢; exact a _ _ e, Ex.new h, fun q h1 h2 => by
    rw [upd_ne (fun z => h2 (by rw [z]; exact h))]; exact h1⟩
theorem Grow.newO {Hf H : Hp} (a : Ex Hf H) {p : Addr} {o : HO} (h : H p = none) : Grow Hf H Hf (upd H p o) := Grow.up a (Ex.new h)
/-- a new list put into the frame -/
theorem Grow.freeze {Hf H Hf' H' : Hp} (g : Grow Hf H Hf' H') {p : Addr} {o : HO} (hn : H p = none) (hf : Hf' p = none) (h : H' p = some o) : Grow Hf H (upd Hf' p o) H' :=
  ⟨g.f.trans (Ex.new hf), fun b u e => by
    by_cases hb : b = p
    · subst hb; rw [upd_same] at e; rw [← e]; exact h
    · rw [upd_ne hb] at e; exact g.i _ _ e, g.h, fun q h1 h2 => by
    rw [upd_ne (fun z => h2 (by rw [z]; exact hn))]; exact g.n q h1 h2⟩
/-- two fragments together -/
def both (A B : Hp) : Hp := fun p => match A p with | some o => some o | none => B p
theorem both_l {A B : Hp} : Ex A (both A B) := fun p o h => by unfold both; rw [h]
theorem both_none {A B : Hp} {p : Addr} (a : A p = none) (b : B p = none) : both A B p = none := by unfold both; rw [a]; exact b
theorem Grow.join {Hf H Hn H' : Hp} (a : Ex Hf H) (g : Grow Emp H Hn H') : Grow Hf H (both Hf Hn) H' ∧ Ex Hn (both Hf Hn) := by
  refine ⟨⟨both_l, fun p o h => ?_, g.h, fun p h1 h2 => both_none h1 (g.n p rfl h2)⟩, fun p o h => ?_⟩
  · unfold both at h
    cases q : Hf p with
    | some u => rw [q] at h; rw [← h]; exact g.h _ _ (a _ _ q)
    | none => rw [q] at h; exact g.i _ _ h
  · unfold both
    cases q : Hf p with
    | none => exact h
    | some u =>
      have := g.n p rfl (by rw [a _ _ q]; exact fun z => nomatch z)
      rw [this] at h; cases h

/-! ### slots -/
inductive Sl where
  | un | dat (d : D) | bor (d : D) | own (ds : List D)
inductive SlOk (K : PySem.W.Frag) (B Hf H : Hp) : Option V → Sl → Prop where
  | un (o : Option V) : SlOk K B Hf H o .un
  | dat {v : V} {d : D} : Dt K Hf v d → SlOk K B Hf H (some v) (.dat d)
  | bor {v : V} {d : D} : Dt K B v d → SlOk K B Hf H (some v) (.bor d)
  | own {p : Addr} {xs : List V} {ds : List D} : Hf p = none → B p = none → H p = some (.lst xs) → DtA K Hf xs ds → SlOk K B Hf H (some (.ref p)) (.own ds)
structure EnvOk (K : PySem.W.Frag) (B Hf H : Hp) (σ : L2.St) (ρ : List Sl) : Prop where
  eb : Ex B H
  ef : Ex Hf H
  len : σ.length = ρ.length
  sl : ∀ (i : Nat) o s, σ[i]? = some o → ρ[i]? = some s → SlOk K B Hf H o s
  dis : ∀ (i j : Nat) p ds ds', i ≠ j → σ[i]? = some (some (.ref p)) → ρ[i]? = some (.own ds) → σ[j]? = some (some (.ref p)) → ρ[j]? = some (.own ds') → False
section
variable {K : PySem.W.Frag} {B Hf H Hf' H' : Hp} {σ : L2.St} {ρ : List Sl}
theorem SlOk.grow {o : Option V} {s : Sl} (h : SlOk K B Hf H o s) (g : Grow Hf H Hf' H') : SlOk K B Hf' H' o s := by
  cases h with
  | un => exact .un _
  | dat h => exact .dat (h.mono g.f)
  | bor h => exact .bor h
  | own a b c d => exact .own (g.n _ a (by rw [c]; exact fun z => nomatch z)) b (g.h _ _ c) (d.mono g.f)
theorem EnvOk.grow (e : EnvOk K B Hf H σ ρ) (g : Grow Hf H Hf' H') : EnvOk K B Hf' H' σ ρ :=
  ⟨e.eb.trans g.h, g.i, e.len, fun i o s h1 h2 => (e.sl i o s h1 h2).grow g, e.dis⟩
theorem EnvOk.at (e : EnvOk K B Hf H σ ρ) {i : Nat} {s : Sl} (h : ρ[i]? = some s) : ∃ o, σ[i]? = some o ∧ SlOk K B Hf H o s := by
  have hl : i < σ.length := by rw [e.len]; exact (List.getElem?_eq_some_iff.mp h).1
  exact ⟨_, List.getElem?_eq_getElem hl, e.sl i _ s (List.getElem?_eq_getElem hl) h⟩
theorem EnvOk.dat (e : EnvOk K B Hf H σ ρ) {i : Nat} {d : D} (h : ρ[i]? = some (.dat d)) : ∃ v, σ[i]? = some (some v) ∧ Dt K Hf v d := by
  obtain ⟨o, h1, h2⟩ := e.at h
  cases h2 with
  | dat q => exact ⟨_, h1, q⟩
theorem EnvOk.bor (e : EnvOk K B Hf H σ ρ) {i : Nat} {d : D} (h : ρ[i]? = some (.bor d)) : ∃ v, σ[i]? = some (some v) ∧ Dt K B v d := by
  obtain ⟨o, h1, h2⟩ := e.at h
  cases h2 with
  | bor q => exact ⟨_, h1, q⟩
theorem EnvOk.own (e : EnvOk K B Hf H σ ρ) {i : Nat} {ds : List D} (h : ρ[i]? = some (.own ds)) : ∃ p xs, σ[i]? = some (some (.ref p)) ∧ Hf p = none ∧ B p = none ∧ H p = some (.lst xs) ∧ DtA K Hf xs ds := by
  obtain ⟨o, h1, h2⟩ := e.at h
  cases h2 with
  | own a b c d => exact ⟨_, _, h1, a, b, c, d⟩
/-- one slot anew, no owned one -/
theorem EnvOk.put (e : EnvOk K B Hf H σ ρ) (i : Nat) {o : Option V} {s : Sl} (h : SlOk K B Hf H o s) (hn : ∀ ds, s ≠ .own ds) : EnvOk K B Hf H (σ.set i o) (ρ.set i s) := by
  refine ⟨e.eb, e.ef, by simp [e.len], fun j o' s' h1 h2 => ?_, fun j k p ds ds' hjk h1 h2 h3 h4 => ?_⟩
  · by_cases hj : i = j
    · subst hj
      have hl : i < σ.length := by
        have := (List.getElem?_eq_some_iff.mp h1).1
        simpa using this
      rw [List.getElem?_set_self hl] at h1
      rw [List.getElem?_set_self (by rw [← e.len]; exact hl)] at h2
      cases h1; cases h2; exact h
    · rw [List.getElem?_set_ne hj] at h1 h2
      exact e.sl j _ _ h1 h2
  · by_cases hj : i = j
    · subst hj
      have hl : i < ρ.length := by
        have := (List.getElem?_eq_some_iff.mp h2).1
        simpa using this
      rw [List.getElem?_set_self hl] at h2
      cases h2; exact hn _ rfl
    · by_cases hk : i = k
      · subst hk
        have hl : i < ρ.length := by
          have := (List.getElem?_eq_some_iff.mp h4).1
          simpa using this
        rw [List.getElem?_set_self hl] at h4
        cases h4; exact hn _ rfl
      · rw [List.getElem?_set_ne hj] at h1 h2
        rw [List.getElem?_set_ne hk] at h3 h4
        exact e.dis j k p ds ds' hjk h1 h2 h3 h4
theorem EnvOk.put_dat (e : EnvOk K B Hf H σ ρ) (i : Nat) {v : V} {d : D} (h : Dt K Hf v d) : EnvOk K B Hf H (σ.set i (some v)) (ρ.set i (.dat d)) := e.put i (.dat h) fun _ z => nomatch z
theorem EnvOk.put_bor (e : EnvOk K B Hf H σ ρ) (i : Nat) {v : V} {d : D} (h : Dt K B v d) : EnvOk K B Hf H (σ.set i (some v)) (ρ.set i (.bor d)) := e.put i (.bor h) fun _ z => nomatch z
theorem EnvOk.put_un (e : EnvOk K B Hf H σ ρ) (i : Nat) (o : Option V) : EnvOk K B Hf H (σ.set i o) (ρ.set i .un) := e.put i (.un o) fun _ z => nomatch z
/-- one slot anew, an owned list that no other slot has -/
theorem EnvOk.put_own (e : EnvOk K B Hf H σ ρ) (i : Nat) {p : Addr} {xs : List V} {ds : List D} (hf : Hf p = none) (hb : B p = none) (h : H p = some (.lst xs)) (hd : DtA K Hf xs ds)
    (hn : ∀ (j : Nat) es, j ≠ i → σ[j]? = some (some (.ref p)) → ρ[j]? = some (.own es) → False) : EnvOk K B Hf H (σ.set i (some (.ref p))) (ρ.set i (.own ds)) := by
  refine ⟨e.eb, e.ef, by simp [e.len], fun j o' s' h1 h2 => ?_, fun j k p' es es' hjk h1 h2 h3 h4 => ?_⟩
  · by_cases hj : i = j
    · subst hj
      have hl : i < σ.length := by
        have := (List.getElem?_eq_some_iff.mp h1).1
        simpa using this
      rw [List.getElem?_set_self hl] at h1
      rw [List.getElem?_set_self (by rw [← e.len]; exact hl)] at h2
      cases h1; cases h2; exact .own hf hb h hd
    · rw [List.getElem?_set_ne hj] at h1 h2
      exact e.sl j _ _ h1 h2
  · by_cases hj : i = j
    · subst hj
      have hl : i < σ.length := by
        have := (List.getElem?_eq_some_iff.mp h1).1
        simpa using this
      rw [List.getElem?_set_self hl] at h1
      have e1 : p = p' := by
        have z := Option.some.inj (Option.some.inj h1)
        exact V.ref.inj z
      subst e1
      rw [List.getElem?_set_ne hjk] at h3 h4
      exact hn k _ (Ne.symm hjk) h3 h4
    · by_cases hk : i = k
      · subst hk
        have hl : i < σ.length := by
          have := (List.getElem?_eq_some_iff.mp h3).1
          simpa using this
        rw [List.getElem?_set_self hl] at h3
        have e1 : p = p' := by
          have z := Option.some.inj (Option.some.inj h3)
          exact V.ref.inj z
        subst e1
        rw [List.getElem?_set_ne hj] at h1 h2
        exact hn j _ hjk.symm.symm h1 h2
      · rw [List.getElem?_set_ne hj] at h1 h2
        rw [List.getElem?_set_ne hk] at h3 h4
        exact e.dis j k _ _ _ hjk h1 h2 h3 h4
/-- the owned list at slot i is changed -/
theorem EnvOk.mut (e : EnvOk K B Hf H σ ρ) {i : Nat} {p : Addr} {ds ds' : List D} {ys : List V} (hi : ρ[i]? = some (.own ds)) (hs : σ[i]? = some (some (.ref p))) (hd : DtA K Hf ys ds') : EnvOk K B Hf (upd H p (.lst ys)) σ (ρ.set i (.own ds')) := by
  obtain ⟨p', xs, h1, h2, h3, h4, h5⟩ := e.own hi
  rw [hs] at h1
  have e1 : p = p' := V.ref.inj (Option.some.inj (Option.some.inj h1))
  subst e1
  have hl : i < ρ.length := (List.getElem?_eq_some_iff.mp hi).1
  refine ⟨Ex.mut e.eb h3, Ex.mut e.ef h2, by simp [e.len], fun j o' s' g1 g2 => ?_, fun j k p' es es' hjk g1 g2 g3 g4 => ?_⟩
  · by_cases hj : i = j
    · subst hj
      rw [List.getElem?_set_self hl] at g2
      rw [hs] at g1
      cases g1; cases g2; exact .own h2 h3 upd_same hd
    · rw [List.getElem?_set_ne hj] at g2
      have q := e.sl j _ _ g1 g2
      cases q with
      | un => exact .un _
      | dat h => exact .dat h
      | bor h => exact .bor h
      | @own p2 xs2 es2 a b c d =>
        refine .own a b ?_ d
        rw [upd_ne (fun z => e.dis i j p _ _ hj hs hi (by rw [← z]; exact g1) g2)]
        exact c
  · have key : ∀ (m : Nat) es, (ρ.set i (.own ds'))[m]? = some (.own es) → ∃ es2, ρ[m]? = some (.own es2) := fun m es q => by
      by_cases hm : i = m
      · subst hm; exact ⟨_, hi⟩
      · rw [List.getElem?_set_ne hm] at q; exact ⟨_, q⟩
    obtain ⟨_, q1⟩ := key j _ g2
    obtain ⟨_, q2⟩ := key k _ g4
    exact e.dis j k p' _ _ hjk g1 q1 g3 q2
/-- an owned list is owned no longer -/
theorem EnvOk.freeze (e : EnvOk K B Hf H σ ρ) {i : Nat} {ds : List D} (hi : ρ[i]? = some (.own ds)) : ∃ p xs, B p = none ∧ Hf p = none ∧ EnvOk K B (upd Hf p (.lst xs)) H σ (ρ.set i (.dat (.lst ds))) := by
  obtain ⟨p, xs, h1, h2, h3, h4, h5⟩ := e.own hi
  have hl : i < ρ.length := (List.getElem?_eq_some_iff.mp hi).1
  have hx : Ex Hf (upd Hf p (.lst xs)) := Ex.new h2
  refine ⟨p, xs, h3, h2, e.eb, fun b u q => ?_, by simp [e.len], fun j o' s' g1 g2 => ?_, fun j k p' es es' hjk g1 g2 g3 g4 => ?_⟩
  · by_cases hb : b = p
    · subst hb; rw [upd_same] at q; rw [← q]; exact h4
    · rw [upd_ne hb] at q; exact e.ef _ _ q
  · by_cases hj : i = j
    · subst hj
      rw [List.getElem?_set_self hl] at g2
      rw [h1] at g1
      cases g1; cases g2; exact .dat (.lst upd_same (h5.mono hx))
    · rw [List.getElem?_set_ne hj] at g2
      have q := e.sl j _ _ g1 g2
      cases q with
      | un => exact .un _
      | dat h => exact .dat (h.mono hx)
      | bor h => exact .bor h
      | @own p2 xs2 es2 a b c d =>
        refine .own ?_ b c (d.mono hx)
        rw [upd_ne (fun z => e.dis i j p _ _ hj h1 hi (by rw [← z]; exact g1) g2)]
        exact a
  · have key : ∀ (m : Nat) es, (ρ.set i (.dat (.lst ds)))[m]? = some (.own es) → i ≠ m ∧ ρ[m]? = some (.own es) := fun m es q => by
      by_cases hm : i = m
      · subst hm; rw [List.getElem?_set_self hl] at q; cases q
      · rw [List.getElem?_set_ne hm] at q; exact ⟨hm, q⟩
    exact e.dis j k p' _ _ hjk g1 (key j _ g2).2 g3 (key k _ g4).2
end
end PL

end
section
set_option maxRecDepth 100000
set_option maxHeartbeats 2000000
namespace PL
open PySem PySem.Spec PyProof.Rows L2 Evl

/-- which part of the heap a datum hangs on: what was lent, the frame, the whole -/
inductive Rg where | b | f | h
def Rg.at (r : Rg) (B Hf H : Hp) : Hp := match r with | .b => B | .f => Hf | .h => H
theorem Rg.whole {r : Rg} {B Hf H : Hp} (b : Ex B H) (f : Ex Hf H) : Ex (r.at B Hf H) H := by
  cases r with
  | b => exact b
  | f => exact f
  | h => exact Ex.refl _
theorem Rg.up {r : Rg} {B Hf H Hf' H' : Hp} (g : Grow Hf H Hf' H') : Ex (r.at B Hf H) (r.at B Hf' H') := by
  cases r with
  | b => exact Ex.refl _
  | f => exact g.f
  | h => exact g.h
/-- a datum without references -/
inductive Scl : D → Prop where
  | non : Scl .non | bl (b : Bool) : Scl (.bl b) | int (i : Int) : Scl (.int i) | str (x : Str) : Scl (.str x)
theorem Scl.any {K : PySem.W.Frag} {H H' : Hp} {v : V} {d : D} (s : Scl d) (h : Dt K H v d) : Dt K H' v d := by
  cases s <;> cases h
  · exact .non
  · exact .bl _
  · exact .int _
  · exact .str _

section
variable (K : PySem.W.Frag)
/-- an expression's worth -/
def EE (te : TE) (ρ : List Sl) (r : Rg) (d : D) : Prop := ∀ B Hf H σ, EnvOk K B Hf H σ ρ → ∀ Q : VK, (∀ v Hf' H', Grow Hf H Hf' H' → Dt K (r.at B Hf' H') v d → Q v H') → te σ H Q
/-- a new list -/
def EL (te : TE) (ρ : List Sl) (ds : List D) : Prop := ∀ B Hf H σ, EnvOk K B Hf H σ ρ → ∀ Q : VK, (∀ p xs Hf' H', Grow Hf H Hf' H' → Hf' p = none → H p = none → H' p = some (.lst xs) → DtA K Hf' xs ds → Q (.ref p) H') → te σ H Q
/-- some list whose items lie in the frame -/
def ES (te : TE) (ρ : List Sl) (ds : List D) : Prop := ∀ B Hf H σ, EnvOk K B Hf H σ ρ → ∀ Q : VK, (∀ p xs Hf' H', Grow Hf H Hf' H' → H' p = some (.lst xs) → DtA K Hf' xs ds → Q (.ref p) H') → te σ H Q
/-- arguments -/
def EA (ta : TA) (ρ : List Sl) (r : Rg) (ds : List D) : Prop := ∀ B Hf H σ, EnvOk K B Hf H σ ρ → ∀ Q : List V → Hp → Prop, (∀ vs Hf' H', Grow Hf H Hf' H' → DtA K (r.at B Hf' H') vs ds → Q vs H') → ta σ H Q
/-- a test -/
def ET (tt : TT) (ρ : List Sl) (b : Bool) : Prop := ∀ B Hf H σ, EnvOk K B Hf H σ ρ → ∀ Q : Bool → Hp → Prop, (∀ Hf' H', Grow Hf H Hf' H' → Q b H') → tt σ H Q
/-- an operation upon values -/
def Op2 (rr : R2) (r1 : Rg) (d1 : D) (r2 : Rg) (d2 : D) (r3 : Rg) (d3 : D) : Prop := ∀ B Hf H x y, Ex B H → Ex Hf H → Dt K (r1.at B Hf H) x d1 → Dt K (r2.at B Hf H) y d2 → ∀ Q : VK, (∀ v Hf' H', Grow Hf H Hf' H' → Dt K (r3.at B Hf' H') v d3 → Q v H') → rr x y H Q
/-- a call upon values -/
def OpA (rr : List V → Hp → VK → Prop) (r1 : Rg) (ds : List D) (r3 : Rg) (d3 : D) : Prop := ∀ B Hf H xs, Ex B H → Ex Hf H → DtA K (r1.at B Hf H) xs ds → ∀ Q : VK, (∀ v Hf' H', Grow Hf H Hf' H' → Dt K (r3.at B Hf' H') v d3 → Q v H') → rr xs H Q
end

section
variable {K : PySem.W.Frag} {ρ : List Sl} {ta tb te : TE} {r r1 r2 r3 : Rg} {d d1 d2 d3 : D} {i : Nat} {rr : R2} {ds es : List D}
theorem EE.h (h : EE K te ρ r d) : EE K te ρ .h d := fun B Hf H σ e Q q => h B Hf H σ e Q fun v Hf' H' g dt => q v Hf' H' g (dt.mono (Rg.whole (e.eb.trans g.h) g.i))
theorem EE.any (s : Scl d) (h : EE K te ρ r d) : EE K te ρ r2 d := fun B Hf H σ e Q q => h B Hf H σ e Q fun v Hf' H' g dt => q v Hf' H' g (s.any dt)
theorem EE.int {i : Int} (h : EE K te ρ r (.int i)) : EE K te ρ r2 (.int i) := h.any (.int i)
theorem EE.bl {i : Bool} (h : EE K te ρ r (.bl i)) : EE K te ρ r2 (.bl i) := h.any (.bl i)
theorem EE.to (h : EE K te ρ r d) (e : d = d2) : EE K te ρ r d2 := e ▸ h
theorem e_dat (h : ρ[i]? = some (.dat d)) : EE K (tVar i) ρ .f d := fun B Hf H σ e Q q => by
  obtain ⟨v, h1, h2⟩ := e.dat h
  exact ⟨v, h1, q v Hf H (Grow.refl e.ef) h2⟩
theorem e_bor (h : ρ[i]? = some (.bor d)) : EE K (tVar i) ρ .b d := fun B Hf H σ e Q q => by
  obtain ⟨v, h1, h2⟩ := e.bor h
  exact ⟨v, h1, q v Hf H (Grow.refl e.ef) h2⟩
theorem e_own (h : ρ[i]? = some (.own ds)) : EE K (tVar i) ρ .h (.lst ds) := fun B Hf H σ e Q q => by
  obtain ⟨p, xs, h1, h2, h3, h4, h5⟩ := e.own h
  exact ⟨_, h1, q _ Hf H (Grow.refl e.ef) (.lst h4 (h5.mono e.ef))⟩
theorem es_own (h : ρ[i]? = some (.own ds)) : ES K (tVar i) ρ ds := fun B Hf H σ e Q q => by
  obtain ⟨p, xs, h1, h2, h3, h4, h5⟩ := e.own h
  exact ⟨_, h1, q _ _ Hf H (Grow.refl e.ef) h4 h5⟩
theorem e_int {i : Int} : EE K (tC (.int i)) ρ r (.int i) := fun B Hf H σ e Q q => q _ Hf H (Grow.refl e.ef) (.int i)
theorem e_bl {i : Bool} : EE K (tC (.bl i)) ρ r (.bl i) := fun B Hf H σ e Q q => q _ Hf H (Grow.refl e.ef) (.bl i)
theorem e_str {i : Str} : EE K (tC (.str i)) ρ r (.str i) := fun B Hf H σ e Q q => q _ Hf H (Grow.refl e.ef) (.str i)
theorem e_non : EE K (tC .non) ρ r .non := fun B Hf H σ e Q q => q _ Hf H (Grow.refl e.ef) .non
theorem EL.e (h : EL K te ρ ds) : EE K te ρ .f (.lst ds) := fun B Hf H σ e Q q => h B Hf H σ e Q fun p xs Hf' H' g h1 h2 h3 h4 =>
  q _ _ H' (g.freeze h2 h1 h3) (.lst upd_same (h4.mono (Ex.new h1)))
theorem EL.s (h : EL K te ρ ds) : ES K te ρ ds := fun B Hf H σ e Q q => h B Hf H σ e Q fun p xs Hf' H' g h1 h2 h3 h4 => q p xs Hf' H' g h3 h4
theorem EE.s (h : EE K te ρ .f (.lst ds)) : ES K te ρ ds := fun B Hf H σ e Q q => h B Hf H σ e Q fun v Hf' H' g dt => by
  obtain ⟨a, xs, rfl, h1, h2⟩ := dt.lst_inv
  exact q a xs Hf' H' g (g.i _ _ h1) h2
theorem EL.to (h : EL K te ρ ds) (e : ds = es) : EL K te ρ es := e ▸ h
theorem e_op (ha : EE K ta ρ r1 d1) (hb : EE K tb ρ r2 d2) (ho : Op2 K rr r1 d1 r2 d2 r3 d3) : EE K (tOp rr ta tb) ρ r3 d3 := fun B Hf H σ e Q q =>
  ha B Hf H σ e _ fun x Hf1 H1 g1 dx => hb B Hf1 H1 σ (e.grow g1) _ fun y Hf2 H2 g2 dy =>
    ho B Hf2 H2 x y ((e.eb.trans g1.h).trans g2.h) g2.i (dx.mono (Rg.up g2)) dy Q fun v Hf3 H3 g3 dv => q v Hf3 H3 ((g1.trans g2).trans g3) dv
theorem e_un {r : V → Hp → VK → Prop} (ha : EE K ta ρ r1 d1) (ho : ∀ B Hf H x, Ex B H → Ex Hf H → Dt K (r1.at B Hf H) x d1 → ∀ Q : VK, (∀ v Hf' H', Grow Hf H Hf' H' → Dt K (r3.at B Hf' H') v d3 → Q v H') → r x H Q) : EE K (tUn r ta) ρ r3 d3 := fun B Hf H σ e Q q =>
  ha B Hf H σ e _ fun x Hf1 H1 g1 dx => ho B Hf1 H1 x (e.eb.trans g1.h) g1.i dx Q fun v Hf3 H3 g3 dv => q v Hf3 H3 (g1.trans g3) dv
theorem e_neg {i : Int} (ha : EE K ta ρ r1 (.int i)) : EE K (tUn (rU fun i => .int (-i)) ta) ρ r3 (.int (-i)) := e_un ha fun B Hf H x _ ef dx Q q => by
  cases dx
  exact ⟨_, rfl, q _ _ _ (Grow.refl ef) (.int _)⟩
/-! operations -/
theorem o_i {g : Int → Int → Int} {i j : Int} : Op2 K (rI0 fun i j => .int (g i j)) r1 (.int i) r2 (.int j) r3 (.int (g i j)) := fun B Hf H x y _ ef dx dy Q q => by
  cases dx; cases dy
  exact ⟨_, _, rfl, rfl, q _ _ _ (Grow.refl ef) (.int _)⟩
theorem o_ic {C : Int → Int → Prop} {g : Int → Int → Int} {i j : Int} (hc : C i j) : Op2 K (rI C fun i j => .int (g i j)) r1 (.int i) r2 (.int j) r3 (.int (g i j)) := fun B Hf H x y _ ef dx dy Q q => by
  cases dx; cases dy
  exact ⟨_, _, rfl, rfl, hc, q _ _ _ (Grow.refl ef) (.int _)⟩
theorem o_b {g : Int → Int → Bool} {i j : Int} : Op2 K (rI0 fun i j => .bl (g i j)) r1 (.int i) r2 (.int j) r3 (.bl (g i j)) := fun B Hf H x y _ ef dx dy Q q => by
  cases dx; cases dy
  exact ⟨_, _, rfl, rfl, q _ _ _ (Grow.refl ef) (.bl _)⟩
theorem o_eqI {i j : Int} : Op2 K rEq r1 (.int i) r2 (.int j) r3 (.bl (decide (i = j))) := fun B Hf H x y _ ef dx dy Q q => by
  cases dx; cases dy
  refine ⟨rfl, q _ _ _ (Grow.refl ef) ?_⟩
  have e : decide (V.int i = V.int j) = decide (i = j) := by simp
  rw [e]; exact .bl _
theorem o_neI {i j : Int} : Op2 K rNe r1 (.int i) r2 (.int j) r3 (.bl (!decide (i = j))) := fun B Hf H x y _ ef dx dy Q q => by
  cases dx; cases dy
  refine ⟨rfl, q _ _ _ (Grow.refl ef) ?_⟩
  have e : decide (V.int i = V.int j) = decide (i = j) := by simp
  rw [e]; exact .bl _
theorem o_eqB {i j : Bool} : Op2 K rEq r1 (.bl i) r2 (.bl j) r3 (.bl (decide (i = j))) := fun B Hf H x y _ ef dx dy Q q => by
  cases dx; cases dy
  refine ⟨rfl, q _ _ _ (Grow.refl ef) ?_⟩
  have e : decide (V.bl i = V.bl j) = decide (i = j) := by simp
  rw [e]; exact .bl _
theorem o_neB {i j : Bool} : Op2 K rNe r1 (.bl i) r2 (.bl j) r3 (.bl (!decide (i = j))) := fun B Hf H x y _ ef dx dy Q q => by
  cases dx; cases dy
  refine ⟨rfl, q _ _ _ (Grow.refl ef) ?_⟩
  have e : decide (V.bl i = V.bl j) = decide (i = j) := by simp
  rw [e]; exact .bl _
theorem at_dts {H : Hp} {xs : List V} {ds : List D} {i : Int} {d : D} (q : DtA K H xs ds) (h : atI ds i = some d) : ∃ v, atI xs i = some v ∧ Dt K H v d := by
  have hl := q.len
  unfold atI at h ⊢
  rw [hl]
  cases hk : ixN ds.length i with
  | none => rw [hk] at h; cases h
  | some k =>
    rw [hk] at h
    exact q.get h
theorem o_ixL {ds : List D} {i : Int} (h : atI ds i = some d) : Op2 K (rIxL K) r1 (.lst ds) r2 (.int i) r1 d := fun B Hf H x y eb ef dx dy Q q => by
  obtain ⟨a, xs, rfl, h1, h2⟩ := dx.lst_inv
  cases dy
  obtain ⟨v, h3, h4⟩ := at_dts h2 h
  exact ⟨a, xs, i, v, rfl, rfl, .inl (.inl (Rg.whole eb ef _ _ h1)), h3, q v Hf H (Grow.refl ef) h4⟩
theorem o_ixS {ns : List Int} {i n : Int} (h : atI ns i = some n) : Op2 K (rIxL K) r1 (.scr ns) r2 (.int i) r3 (.int n) := fun B Hf H x y eb ef dx dy Q q => by
  obtain ⟨a, rfl, h1⟩ := dx.scr_inv
  cases dy
  have h2 : atI (ns.map V.int) i = some (.int n) := by
    unfold atI at h ⊢
    rw [List.length_map]
    cases hk : ixN ns.length i with
    | none => rw [hk] at h; cases h
    | some k =>
      rw [hk] at h
      have h' : ns[k]? = some n := h
      show (ns.map V.int)[k]? = some (V.int n)
      rw [List.getElem?_map, h']; rfl
  exact ⟨a, _, i, _, rfl, rfl, ex_l (Rg.whole eb ef) h1, h2, q _ Hf H (Grow.refl ef) (.int n)⟩
theorem o_ixT {ds : List D} {i : Int} (h : atI ds i = some d) : Op2 K (rIxT K) r1 (.tup ds) r2 (.int i) r1 d := fun B Hf H x y eb ef dx dy Q q => by
  obtain ⟨a, xs, rfl, h1, h2⟩ := dx.tup_inv
  cases dy
  obtain ⟨v, h3, h4⟩ := at_dts h2 h
  exact ⟨a, xs, i, v, rfl, rfl, .inl (.inl (Rg.whole eb ef _ _ h1)), h3, q v Hf H (Grow.refl ef) h4⟩
/-- an item of an owned list lies in the frame -/
theorem e_ixOwn {i : Nat} {j : Int} (h : ρ[i]? = some (.own ds)) (hb : EE K tb ρ r2 (.int j)) (hj : atI ds j = some d) : EE K (tOp (rIxL K) (tVar i) tb) ρ .f d := fun B Hf H σ e Q q => by
  obtain ⟨p, xs, h1, h2, h3, h4, h5⟩ := e.own h
  refine ⟨_, h1, ?_⟩
  refine hb B Hf H σ e _ fun y Hf2 H2 g2 dy => ?_
  cases dy
  obtain ⟨v, h6, h7⟩ := at_dts h5 hj
  exact ⟨p, xs, j, v, rfl, rfl, .inl (.inl (g2.h _ _ h4)), h6, q v Hf2 H2 g2 (h7.mono g2.f)⟩
theorem el_cat {ds es : List D} (ha : ES K ta ρ ds) (hb : ES K tb ρ es) (hl : ds.length + es.length ≤ 100000) : EL K (tOp rCat ta tb) ρ (ds ++ es) := fun B Hf H σ e Q q =>
  ha B Hf H σ e _ fun p xs Hf1 H1 g1 h1 h2 => hb B Hf1 H1 σ (e.grow g1) _ fun p' ys Hf2 H2 g2 h3 h4 =>
    ⟨p, p', xs, ys, rfl, rfl, g2.h _ _ h1, h3, sz_of (by rw [h2.len, h4.len]; exact hl), fun l hn =>
      q l _ Hf2 _ ((g1.trans g2).trans (Grow.newO g2.i hn)) (fresh_back g2.i hn) (fresh_back (g1.trans g2).h hn) upd_same (.append (h2.mono g2.f) h4)⟩
/-- the same in the lent part -/
theorem el_catB {ds es : List D} (ha : EE K ta ρ r1 (.lst ds)) (hb : EE K tb ρ r2 (.lst es)) (hl : ds.length + es.length ≤ 100000) : EE K (tOp rCat ta tb) ρ .h (.lst (ds ++ es)) := fun B Hf H σ e Q q =>
  ha.h B Hf H σ e _ fun x Hf1 H1 g1 dx => hb.h B Hf1 H1 σ (e.grow g1) _ fun y Hf2 H2 g2 dy => by
    obtain ⟨p, xs, rfl, h1, h2⟩ := dx.lst_inv
    obtain ⟨p', ys, rfl, h3, h4⟩ := dy.lst_inv
    refine ⟨p, p', xs, ys, rfl, rfl, g2.h _ _ h1, h3, sz_of (by rw [h2.len, h4.len]; exact hl), fun l hn => ?_⟩
    have ex : Ex H2 (upd H2 l (.lst (xs ++ ys))) := Ex.new hn
    exact q _ Hf2 _ ((g1.trans g2).trans (Grow.newO g2.i hn)) (.lst upd_same (.append (DtA.mono (Ex.trans g2.h ex) h2) (DtA.mono ex h4)))
/-! arguments, displays -/
theorem ea_nil : EA K tNil ρ r [] := fun B Hf H σ e Q q => q [] Hf H (Grow.refl e.ef) .nil
theorem ea_cons {tr : TA} (h : EE K te ρ r d) (hr : EA K tr ρ r ds) : EA K (tCons te tr) ρ r (d :: ds) := fun B Hf H σ e Q q =>
  h B Hf H σ e _ fun v Hf1 H1 g1 dv => hr B Hf1 H1 σ (e.grow g1) _ fun vs Hf2 H2 g2 dvs => q (v :: vs) Hf2 H2 (g1.trans g2) (.cons (dv.mono (Rg.up g2)) dvs)
theorem e_tup {ta : TA} (h : EA K ta ρ .f ds) (hl : ds.length ≤ 100000) : EE K (tTup ta) ρ .f (.tup ds) := fun B Hf H σ e Q q =>
  h B Hf H σ e _ fun vs Hf1 H1 g1 dvs => ⟨sz_of (by rw [dvs.len]; exact hl), fun p hn =>
    q _ _ _ (g1.trans (Grow.new g1.i hn)) (.tup upd_same (dvs.mono (Ex.new (fresh_back g1.i hn))))⟩
theorem el_lst {ta : TA} (h : EA K ta ρ .f ds) (hl : ds.length ≤ 100000) : EL K (tLst ta) ρ ds := fun B Hf H σ e Q q =>
  h B Hf H σ e _ fun vs Hf1 H1 g1 dvs => ⟨sz_of (by rw [dvs.len]; exact hl), fun p hn =>
    q p _ Hf1 _ (g1.trans (Grow.newO g1.i hn)) (fresh_back g1.i hn) (fresh_back g1.h hn) upd_same dvs⟩
/-- a display of what lies anywhere -/
theorem e_lstH {ta : TA} (h : EA K ta ρ r ds) (hl : ds.length ≤ 100000) : EE K (tLst ta) ρ .h (.lst ds) := fun B Hf H σ e Q q =>
  h B Hf H σ e _ fun vs Hf1 H1 g1 dvs => ⟨sz_of (by rw [dvs.len]; exact hl), fun p hn =>
    q _ Hf1 _ (g1.trans (Grow.newO g1.i hn)) (.lst upd_same (dvs.mono ((Rg.whole (e.eb.trans g1.h) g1.i).trans (Ex.new hn))))⟩
theorem e_cb {rr : List V → Hp → VK → Prop} {ta : TA} (h : EA K ta ρ r1 ds) (ho : OpA K rr r1 ds r3 d3) : EE K (tCB rr ta) ρ r3 d3 := fun B Hf H σ e Q q =>
  h B Hf H σ e _ fun vs Hf1 H1 g1 dvs => ho B Hf1 H1 vs (e.eb.trans g1.h) g1.i dvs Q fun v Hf2 H2 g2 dv => q v Hf2 H2 (g1.trans g2) dv
theorem DtA.inv1 {H : Hp} {xs : List V} {d : D} (h : DtA K H xs [d]) : ∃ v, xs = [v] ∧ Dt K H v d := by
  cases h with
  | cons a b => cases b; exact ⟨_, rfl, a⟩
theorem DtA.inv2 {H : Hp} {xs : List V} {d d' : D} (h : DtA K H xs [d, d']) : ∃ v v', xs = [v, v'] ∧ Dt K H v d ∧ Dt K H v' d' := by
  cases h with
  | cons a b =>
    obtain ⟨v, rfl, q⟩ := b.inv1
    exact ⟨_, _, rfl, a, q⟩
/-- int(n) -/
theorem oa_int {i : Int} : OpA K (fun xs H Q => (∃ i, xs = [.int i] ∧ Q (.int i) H) ∨ ∃ k, xs = [.bl k] ∧ Q (.int (if k then 1 else 0)) H) r1 [.int i] r3 (.int i) := fun B Hf H xs _ ef h Q q => by
  obtain ⟨v, rfl, dv⟩ := h.inv1
  cases dv
  exact .inl ⟨i, rfl, q _ _ _ (Grow.refl ef) (.int i)⟩
/-- len -/
theorem oa_lenL {ds : List D} : OpA K (fun xs H Q => ∃ p ys, xs = [.ref p] ∧ (SqL K H p ys ∨ SqT K H p ys) ∧ Q (.int ys.length) H) r1 [.lst ds] r3 (.int ds.length) := fun B Hf H xs eb ef h Q q => by
  obtain ⟨v, rfl, dv⟩ := h.inv1
  obtain ⟨a, ys, rfl, h1, h2⟩ := dv.lst_inv
  refine ⟨a, ys, rfl, .inl (.inl (.inl (Rg.whole eb ef _ _ h1))), q _ _ _ (Grow.refl ef) ?_⟩
  rw [h2.len]; exact .int _
theorem oa_lenT {ds : List D} : OpA K (fun xs H Q => ∃ p ys, xs = [.ref p] ∧ (SqL K H p ys ∨ SqT K H p ys) ∧ Q (.int ys.length) H) r1 [.tup ds] r3 (.int ds.length) := fun B Hf H xs eb ef h Q q => by
  obtain ⟨v, rfl, dv⟩ := h.inv1
  obtain ⟨a, ys, rfl, h1, h2⟩ := dv.tup_inv
  refine ⟨a, ys, rfl, .inr (.inl (.inl (Rg.whole eb ef _ _ h1))), q _ _ _ (Grow.refl ef) ?_⟩
  rw [h2.len]; exact .int _
theorem oa_lenS {ns : List Int} : OpA K (fun xs H Q => ∃ p ys, xs = [.ref p] ∧ (SqL K H p ys ∨ SqT K H p ys) ∧ Q (.int ys.length) H) r1 [.scr ns] r3 (.int ns.length) := fun B Hf H xs eb ef h Q q => by
  obtain ⟨v, rfl, dv⟩ := h.inv1
  obtain ⟨a, rfl, h1⟩ := dv.scr_inv
  refine ⟨a, _, rfl, .inl (ex_l (Rg.whole eb ef) h1), q _ _ _ (Grow.refl ef) ?_⟩
  rw [List.length_map]; exact .int _
/-- list(xs), xs a list or a tuple -/
theorem el_list {ta : TE} (h : ES K ta ρ ds) : EL K (tCB (fun xs H Q => ∃ p ys, xs = [.ref p] ∧ (SqL K H p ys ∨ SqT K H p ys) ∧ ∀ l, H l = none → Q (.ref l) (upd H l (.lst ys))) (tCons ta tNil)) ρ ds := fun B Hf H σ e Q q =>
  h B Hf H σ e _ fun p xs Hf1 H1 g1 h1 h2 => ⟨p, xs, rfl, .inl (.inl (.inl h1)), fun l hn => q l xs Hf1 _ (g1.trans (Grow.newO g1.i hn)) (fresh_back g1.i hn) (fresh_back g1.h hn) upd_same h2⟩
/-- tuple(xs) of a list -/
theorem e_tuple {ta : TE} (h : ES K ta ρ ds) : EE K (tCB (fun xs H Q => ∃ p ys, xs = [.ref p] ∧ ((SqL K H p ys ∧ ∀ l, H l = none → Q (.ref l) (upd H l (.tup ys))) ∨ (SqT K H p ys ∧ Q (.ref p) H))) (tCons ta tNil)) ρ .f (.tup ds) := fun B Hf H σ e Q q =>
  h B Hf H σ e _ fun p xs Hf1 H1 g1 h1 h2 => ⟨p, xs, rfl, .inl ⟨.inl (.inl h1), fun l hn => q _ _ _ (g1.trans (Grow.new g1.i hn)) (.tup upd_same (h2.mono (Ex.new (fresh_back g1.i hn))))⟩⟩
/-! isinstance with a built-in class -/
def tyName : D → String
  | .non => "NoneType" | .bl _ => "bool" | .int _ => "int" | .str _ => "str" | .lst _ => "list" | .tup _ => "tuple" | .scr _ => "list"
theorem ty_of {H : Hp} {v : V} {d : D} (h : Dt K H v d) (hs : ∀ ns, d ≠ .scr ns) : TyX K H v (.type (tyName d)) := by
  cases h with
  | non => exact .base .non
  | bl b => exact .base (.bl b)
  | int b => exact .base (.int b)
  | str b => exact .base (.str b)
  | scr h => exact absurd rfl (hs _)
  | lst h _ => exact .base (.lst h)
  | tup h _ => exact .base (.tup h)
theorem oa_isi {T : String} {b : Bool} (hs : ∀ ns, d ≠ .scr ns) (hk : kitB (tyName d) T = some b) {B Hf H : Hp} {v : V} (ef : Ex Hf H) (dv : Dt K H v d) {Q : VK} (q : ∀ v Hf' H', Grow Hf H Hf' H' → Dt K (r3.at B Hf' H') v (.bl b) → Q v H') :
    rIsi K [v, .ty T] H Q := ⟨v, .ty T, _, _, b, rfl, .ty T, ty_of dv hs, kit_ty hk, q _ _ _ (Grow.refl ef) (.bl b)⟩
theorem e_isi {T : String} {b : Bool} (h : EE K te ρ r1 d) (hs : ∀ ns, d ≠ .scr ns) (hk : kitB (tyName d) T = some b) : EE K (tCB (rIsi K) (tCons te (tCons (tC (.ty T)) tNil))) ρ r3 (.bl b) := fun B Hf H σ e Q q =>
  h.h B Hf H σ e _ fun v Hf1 H1 g1 dv => oa_isi (B := B) (r3 := r3) hs hk g1.i dv fun w Hf2 H2 g2 dw => q w Hf2 H2 (g1.trans g2) dw
/-! and, or, not as values; tests -/
variable {t u : TT} {a b : Bool}
theorem e_and (h1 : EE K ta ρ r1 (.bl a)) (h2 : a = true → EE K tb ρ r2 (.bl b)) : EE K (tAndV ta tb) ρ r3 (.bl (a && b)) := fun B Hf H σ e Q q => h1 B Hf H σ e _ fun v Hf1 H1 g1 dv => by
  cases dv
  refine ⟨a, rfl, ?_⟩
  cases a with
  | true =>
    show tb σ H1 Q
    exact h2 rfl B Hf1 H1 σ (e.grow g1) Q fun w Hf2 H2 g2 dw => by cases dw; exact q _ Hf2 H2 (g1.trans g2) (.bl b)
  | false =>
    show Q (.bl false) H1
    exact q _ Hf1 H1 g1 (.bl false)
theorem e_or (h1 : EE K ta ρ r1 (.bl a)) (h2 : a = false → EE K tb ρ r2 (.bl b)) : EE K (tOrV ta tb) ρ r3 (.bl (a || b)) := fun B Hf H σ e Q q => h1 B Hf H σ e _ fun v Hf1 H1 g1 dv => by
  cases dv
  refine ⟨a, rfl, ?_⟩
  cases a with
  | true =>
    show Q (.bl true) H1
    exact q _ Hf1 H1 g1 (.bl true)
  | false =>
    show tb σ H1 Q
    exact h2 rfl B Hf1 H1 σ (e.grow g1) Q fun w Hf2 H2 g2 dw => by cases dw; exact q _ Hf2 H2 (g1.trans g2) (.bl b)
theorem e_not (h1 : EE K ta ρ r1 (.bl a)) : EE K (tNotV ta) ρ r3 (.bl (!a)) := fun B Hf H σ e Q q => h1 B Hf H σ e _ fun v Hf1 H1 g1 dv => by
  cases dv
  exact ⟨a, rfl, q _ Hf1 H1 g1 (.bl _)⟩
theorem e_ifx {d : D} (h : ET K t ρ b) (h1 : b = true → EE K ta ρ r d) (h2 : b = false → EE K tb ρ r d) : EE K (tIf t ta tb) ρ r d := fun B Hf H σ e Q q => h B Hf H σ e _ fun Hf1 H1 g1 => by
  cases b with
  | true => exact h1 rfl B Hf1 H1 σ (e.grow g1) Q fun w Hf2 H2 g2 dw => q _ Hf2 H2 (g1.trans g2) dw
  | false => exact h2 rfl B Hf1 H1 σ (e.grow g1) Q fun w Hf2 H2 g2 dw => q _ Hf2 H2 (g1.trans g2) dw
theorem t_test (h : EE K te ρ r (.bl b)) : ET K (tTest te) ρ b := fun B Hf H σ e Q q => h B Hf H σ e _ fun v Hf1 H1 g1 dv => by
  cases dv
  exact ⟨b, rfl, q Hf1 H1 g1⟩
theorem t_val (h : EE K te ρ r (.bl b)) : ET K (tB te) ρ b := fun B Hf H σ e Q q => h B Hf H σ e _ fun v Hf1 H1 g1 dv => by
  cases dv
  exact ⟨b, rfl, q Hf1 H1 g1⟩
theorem t_and (h1 : ET K t ρ a) (h2 : a = true → ET K u ρ b) : ET K (tAnd t u) ρ (a && b) := fun B Hf H σ e Q q => h1 B Hf H σ e _ fun Hf1 H1 g1 => by
  cases a with
  | true => exact h2 rfl B Hf1 H1 σ (e.grow g1) Q fun Hf2 H2 g2 => q Hf2 H2 (g1.trans g2)
  | false => exact q Hf1 H1 g1
theorem t_or (h1 : ET K t ρ a) (h2 : a = false → ET K u ρ b) : ET K (tOr t u) ρ (a || b) := fun B Hf H σ e Q q => h1 B Hf H σ e _ fun Hf1 H1 g1 => by
  cases a with
  | true => exact q Hf1 H1 g1
  | false => exact h2 rfl B Hf1 H1 σ (e.grow g1) Q fun Hf2 H2 g2 => q Hf2 H2 (g1.trans g2)
theorem t_not (h1 : ET K t ρ a) : ET K (tNot t) ρ (!a) := fun B Hf H σ e Q q => h1 B Hf H σ e _ fun Hf1 H1 g1 => q Hf1 H1 g1
theorem ET.to (h : ET K t ρ a) (e : a = b) : ET K t ρ b := e ▸ h
/-- a list's truth -/
theorem t_lst (h : EE K ta ρ r (.lst ds)) : ET K (fun σ H Q => ta σ H fun x H' => ∃ k, TruV K x H' k ∧ Q k H') ρ (!ds.isEmpty) := fun B Hf H σ e Q q => h.h B Hf H σ e _ fun v Hf1 H1 g1 dv => by
  obtain ⟨p, xs, rfl, h1, h2⟩ := dv.lst_inv
  refine ⟨_, .inl ⟨xs, .inl (.inl h1), rfl⟩, ?_⟩
  have e : xs.isEmpty = ds.isEmpty := by
    cases h2 <;> rfl
  rw [e]
  exact q Hf1 H1 g1
end

/-! ### deep equality -/
mutual
def toPy : D → PyData
  | .non => .none
  | .bl b => .bool b
  | .int i => .int i
  | .str x => .str x
  | .lst ds => .list (toPyA ds)
  | .tup ds => .tuple (toPyA ds)
  | .scr ns => .list (ns.map PyData.int)
def toPyA : List D → List PyData
  | [] => []
  | d :: ds => toPy d :: toPyA ds
end
mutual
theorem dp_of {K : PySem.W.Frag} {H : Hp} : ∀ {v : V} {d : D}, Dt K H v d → Dp K H v (toPy d)
  | _, _, .non => .non
  | _, _, .bl b => .bl b
  | _, _, .int b => .int b
  | _, _, .str b => .str b
  | _, _, .scr (ns := ns) h => .lst h (dp_ints ns)
  | _, _, .lst h q => .lst (.inl (.inl h)) (dp_all q)
  | _, _, .tup h q => .tup (.inl (.inl h)) (dp_all q)
theorem dp_all {K : PySem.W.Frag} {H : Hp} : ∀ {vs : List V} {ds : List D}, DtA K H vs ds → DpAll K H vs (toPyA ds)
  | _, _, .nil => .nil
  | _, _, .cons h q => .cons (dp_of h) (dp_all q)
theorem dp_ints {K : PySem.W.Frag} {H : Hp} : ∀ (ns : List Int), DpAll K H (ns.map V.int) (ns.map PyData.int)
  | [] => .nil
  | n :: r => .cons (.int n) (dp_ints r)
end
section
variable {K : PySem.W.Frag} {r1 r2 r3 : Rg} {d1 d2 : D}
theorem o_eqD (h1 : SeqAt.shaped (toPy d1) = true) (h2 : SeqAt.shaped (toPy d2) = true) : Op2 K (rEqD K) r1 d1 r2 d2 r3 (.bl (PyData.eqv (toPy d1) (toPy d2))) := fun B Hf H x y eb ef dx dy Q q =>
  ⟨_, _, dp_of (dx.mono (Rg.whole eb ef)), dp_of (dy.mono (Rg.whole eb ef)), h1, h2, q _ _ _ (Grow.refl ef) (.bl _)⟩
theorem o_neD (h1 : SeqAt.shaped (toPy d1) = true) (h2 : SeqAt.shaped (toPy d2) = true) : Op2 K (rNeD K) r1 d1 r2 d2 r3 (.bl (!PyData.eqv (toPy d1) (toPy d2))) := fun B Hf H x y eb ef dx dy Q q =>
  ⟨_, _, dp_of (dx.mono (Rg.whole eb ef)), dp_of (dy.mono (Rg.whole eb ef)), h1, h2, q _ _ _ (Grow.refl ef) (.bl _)⟩
end

/-! ### promises of defs -/
/-- what is handed back is new, all of it -/
def SpN (K : PySem.W.Frag) (R : List D → D → Prop) : Sp := fun vs H Q _ => ∃ ds d, DtA K H vs ds ∧ R ds d ∧ ∀ v Hn H', Grow Emp H Hn H' → Dt K Hn v d → Q v H'
/-- a new list, all of it new -/
def SpL (K : PySem.W.Frag) (R : List D → List D → Prop) : Sp := fun vs H Q _ => ∃ ds es, DtA K H vs ds ∧ R ds es ∧ ∀ p xs Hn H', Grow Emp H Hn H' → Hn p = none → H p = none → H' p = some (.lst xs) → DtA K Hn xs es → Q (.ref p) H'
section
variable {K : PySem.W.Frag} {ρ : List Sl} {ta : TA} {ds es : List D} {d : D} {E : XK} {r : Rg}
theorem e_callN {R : List D → D → Prop} (h : EA K ta ρ r ds) (hR : R ds d) : EE K (tCall (SpN K R) [] E ta) ρ .f d := fun B Hf H σ e Q q =>
  h B Hf H σ e _ fun vs Hf1 H1 g1 dvs => by
    refine ⟨ds, d, ?_, hR, fun v Hn H2 g2 dv => ?_⟩
    · rw [List.append_nil]; exact dvs.mono (Rg.whole (e.eb.trans g1.h) g1.i)
    · obtain ⟨g3, ex⟩ := Grow.join g1.i g2
      exact q v _ H2 (g1.trans g3) (dv.mono ex)
theorem el_callL {R : List D → List D → Prop} (h : EA K ta ρ r ds) (hR : R ds es) : EL K (tCall (SpL K R) [] E ta) ρ es := fun B Hf H σ e Q q =>
  h B Hf H σ e _ fun vs Hf1 H1 g1 dvs => by
    refine ⟨ds, es, ?_, hR, fun p xs Hn H2 g2 hn hp h2 dv => ?_⟩
    · rw [List.append_nil]; exact dvs.mono (Rg.whole (e.eb.trans g1.h) g1.i)
    · obtain ⟨g3, ex⟩ := Grow.join g1.i g2
      exact q p xs _ H2 (g1.trans g3) (both_none (fresh_back g1.i hp) hn) (fresh_back g1.h hp) h2 (dv.mono ex)
end
end PL

end
section
set_option maxRecDepth 100000
set_option maxHeartbeats 2000000
namespace PL
open PySem PySem.Spec PyProof.Rows L2 Evl

/-! ### statements -/
inductive Out where
  | nx (ρ : List Sl) | bk (ρ : List Sl) | ct (ρ : List Sl)
  | rt (r : Rg) (d : D) | rl (ds : List D)
/-- the frame has grown by new things alone -/
structure Chg (B Hf Hf' : Hp) : Prop where
  f : Ex Hf Hf'
  n : ∀ p, B p ≠ none → Hf p = none → Hf' p = none
theorem Chg.refl (B Hf : Hp) : Chg B Hf Hf := ⟨Ex.refl _, fun _ _ h => h⟩
theorem Chg.trans {B Hf Hf1 Hf2 : Hp} (a : Chg B Hf Hf1) (b : Chg B Hf1 Hf2) : Chg B Hf Hf2 := ⟨a.f.trans b.f, fun p h1 h2 => b.n p h1 (a.n p h1 h2)⟩
theorem Grow.chg {B Hf H Hf' H' : Hp} (g : Grow Hf H Hf' H') (e : Ex B H) : Chg B Hf Hf' := ⟨g.f, fun p h1 h2 => g.n p h2 (ex_some e h1)⟩
def Post (K : PySem.W.Frag) (B Hf : Hp) (Dn : Ends) : Out → Prop
  | .nx ρ' => ∀ σ' Hf' H', Chg B Hf Hf' → EnvOk K B Hf' H' σ' ρ' → Dn.nx σ' H'
  | .bk ρ' => ∀ σ' Hf' H', Chg B Hf Hf' → EnvOk K B Hf' H' σ' ρ' → Dn.bk σ' H'
  | .ct ρ' => ∀ σ' Hf' H', Chg B Hf Hf' → EnvOk K B Hf' H' σ' ρ' → Dn.ct σ' H'
  | .rt r d => ∀ v Hf' H', Chg B Hf Hf' → Ex B H' → Ex Hf' H' → Dt K (r.at B Hf' H') v d → Dn.rt v H'
  | .rl ds => ∀ p xs Hf' H', Chg B Hf Hf' → Ex B H' → Ex Hf' H' → Hf' p = none → B p = none → H' p = some (.lst xs) → DtA K Hf' xs ds → Dn.rt (.ref p) H'
theorem Post.chg {K : PySem.W.Frag} {B Hf Hf1 : Hp} {Dn : Ends} {o : Out} (h : Post K B Hf Dn o) (c : Chg B Hf Hf1) : Post K B Hf1 Dn o := by
  cases o with
  | nx ρ' => exact fun σ' Hf' H' c' e => h σ' Hf' H' (c.trans c') e
  | bk ρ' => exact fun σ' Hf' H' c' e => h σ' Hf' H' (c.trans c') e
  | ct ρ' => exact fun σ' Hf' H' c' e => h σ' Hf' H' (c.trans c') e
  | rt r d => exact fun v Hf' H' c' e => h v Hf' H' (c.trans c') e
  | rl ds => exact fun p xs Hf' H' c' e => h p xs Hf' H' (c.trans c') e
def Run (K : PySem.W.Frag) (ts : TS) (ρ : List Sl) (o : Out) : Prop := ∀ B Hf H σ (Dn : Ends), EnvOk K B Hf H σ ρ → Post K B Hf Dn o → ts Dn σ H
section
variable {K : PySem.W.Frag} {ρ ρ1 ρ2 : List Sl} {t u : TS} {o : Out} {te ta tb ti : TE} {tt : TT} {r r1 : Rg} {d : D} {ds es : List D} {i j : Nat} {b : Bool}
def Out.stops : Out → Prop
  | .nx _ => False
  | _ => True
theorem Post.nx {B Hf : Hp} {Dn : Ends} {N : L2.St → Hp → Prop} (hs : o.stops) (h : Post K B Hf Dn o) : Post K B Hf { Dn with nx := N } o := by
  cases o with
  | nx ρ' => exact hs.elim
  | bk ρ' => exact h
  | ct ρ' => exact h
  | rt r d => exact h
  | rl ds => exact h
theorem run_seq (h1 : Run K t ρ (.nx ρ1)) (h2 : Run K u ρ1 o) : Run K (tSeq t u) ρ o := fun B Hf H σ Dn e p =>
  h1 B Hf H σ { Dn with nx := u Dn } e fun σ' Hf' H' c e' => h2 B Hf' H' σ' Dn e' (p.chg c)
theorem run_stop (hs : o.stops) (h1 : Run K t ρ o) : Run K (tSeq t u) ρ o := fun B Hf H σ Dn e p => h1 B Hf H σ { Dn with nx := u Dn } e (p.nx hs)
theorem run_next : Run K tNext ρ (.nx ρ) := fun B Hf H σ Dn e p => p σ Hf H (Chg.refl _ _) e
theorem run_break : Run K tBreak ρ (.bk ρ) := fun B Hf H σ Dn e p => p σ Hf H (Chg.refl _ _) e
theorem run_cont : Run K tCont ρ (.ct ρ) := fun B Hf H σ Dn e p => p σ Hf H (Chg.refl _ _) e
theorem run_if (h : ET K tt ρ b) (h1 : b = true → Run K t ρ o) (h2 : b = false → Run K u ρ o) : Run K (tIfS tt t u) ρ o := fun B Hf H σ Dn e p =>
  h B Hf H σ e _ fun Hf1 H1 g => by
    cases b with
    | true =>
      show t Dn σ H1
      exact h1 rfl B Hf1 H1 σ Dn (e.grow g) (p.chg (g.chg e.eb))
    | false =>
      show u Dn σ H1
      exact h2 rfl B Hf1 H1 σ Dn (e.grow g) (p.chg (g.chg e.eb))
theorem run_ifT (h : ET K tt ρ true) (h1 : Run K t ρ o) : Run K (tIfS tt t u) ρ o := run_if h (fun _ => h1) fun z => nomatch z
theorem run_ifF (h : ET K tt ρ false) (h1 : Run K u ρ o) : Run K (tIfS tt t u) ρ o := run_if h (fun z => nomatch z) fun _ => h1
theorem run_set (h : EE K te ρ .f d) : Run K (tAsg te (gName i)) ρ (.nx (ρ.set i (.dat d))) := fun B Hf H σ Dn e p =>
  h B Hf H σ e _ fun v Hf1 H1 g dv => p _ Hf1 H1 (g.chg e.eb) ((e.grow g).put_dat i dv)
theorem run_setB (h : EE K te ρ .b d) : Run K (tAsg te (gName i)) ρ (.nx (ρ.set i (.bor d))) := fun B Hf H σ Dn e p =>
  h B Hf H σ e _ fun v Hf1 H1 g dv => p _ Hf1 H1 (g.chg e.eb) ((e.grow g).put_bor i dv)
theorem run_setL (h : EL K te ρ ds) : Run K (tAsg te (gName i)) ρ (.nx (ρ.set i (.own ds))) := fun B Hf H σ Dn e p =>
  h B Hf H σ e _ fun q xs Hf1 H1 g h1 h2 h3 h4 => p _ Hf1 H1 (g.chg e.eb) ((e.grow g).put_own i h1 (fresh_back e.eb h2) h3 h4 fun k es hk h5 h6 => by
    obtain ⟨q', ys, a1, a2, a3, a4, a5⟩ := e.own h6
    rw [a1] at h5
    have := V.ref.inj (Option.some.inj (Option.some.inj h5))
    rw [this] at a4
    rw [a4] at h2
    cases h2)
theorem run_ret (h : EE K te ρ r d) : Run K (tRet te) ρ (.rt r d) := fun B Hf H σ Dn e p =>
  h B Hf H σ e _ fun v Hf1 H1 g dv => p v Hf1 H1 (g.chg e.eb) (e.eb.trans g.h) g.i dv
theorem run_retL (h : EL K te ρ ds) : Run K (tRet te) ρ (.rl ds) := fun B Hf H σ Dn e p =>
  h B Hf H σ e _ fun q xs Hf1 H1 g h1 h2 h3 h4 => p q xs Hf1 H1 (g.chg e.eb) (e.eb.trans g.h) g.i h1 (fresh_back e.eb h2) h3 h4
theorem run_retO (h : ρ[i]? = some (.own ds)) : Run K (tRet (tVar i)) ρ (.rl ds) := fun B Hf H σ Dn e p => by
  obtain ⟨q, xs, h1, h2, h3, h4, h5⟩ := e.own h
  exact ⟨_, h1, p q xs Hf H (Chg.refl _ _) e.eb e.ef h2 h3 h4 h5⟩
theorem run_freeze (h : ρ[i]? = some (.own ds)) (h1 : Run K t (ρ.set i (.dat (.lst ds))) o) : Run K t ρ o := fun B Hf H σ Dn e p => by
  obtain ⟨q, xs, a, b, e'⟩ := e.freeze h
  exact h1 B _ H σ Dn e' (p.chg ⟨Ex.new b, fun p' z1 z2 => by
    rw [upd_ne (fun z => z1 (by rw [z]; exact a))]; exact z2⟩)
theorem tyV_lst {H : Hp} {p : Addr} {xs : List V} (h : H p = some (.lst xs)) : tyV K "list" (.ref p) H := Or.inl ⟨rfl, xs, .inl (.inl h)⟩
theorem run_append (h : ρ[i]? = some (.own ds)) (hv : EE K te ρ .f d) (hl : ds.length < 100000) : Run K (tDrop (tBM K "list" rAppend (tVar i) (tCons te tNil))) ρ (.nx (ρ.set i (.own (ds ++ [d])))) := fun B Hf H σ Dn e p => by
  obtain ⟨q, xs, h1, h2, h3, h4, h5⟩ := e.own h
  refine ⟨_, h1, tyV_lst h4, ?_⟩
  refine hv B Hf H σ e _ fun v Hf1 H1 g dv => ?_
  refine ⟨q, xs, v, rfl, rfl, g.h _ _ h4, sz_lt (by rw [h5.len]; exact hl), ?_⟩
  exact p _ Hf1 _ (g.chg e.eb) ((e.grow g).mut h h1 (.append (h5.mono g.f) (.one dv)))
theorem run_seti {n : Int} {k : Nat} (h : ρ[i]? = some (.own ds)) (hv : EE K te ρ .f d) (hi : EE K ti ρ r (.int n)) (hk : ixN ds.length n = some k) : Run K (tAsg te (gSub (tVar i) ti rSetL)) ρ (.nx (ρ.set i (.own (ds.set k d)))) := fun B Hf H σ Dn e p =>
  hv B Hf H σ e _ fun v Hf1 H1 g dv => by
    obtain ⟨q, xs, h1, h2, h3, h4, h5⟩ := (e.grow g).own h
    refine ⟨_, h1, ?_⟩
    refine hi B Hf1 H1 σ (e.grow g) _ fun w Hf2 H2 g2 dw => ?_
    cases dw
    refine ⟨q, xs, n, k, rfl, rfl, g2.h _ _ h4, by rw [h5.len]; exact hk, ?_⟩
    exact p _ Hf2 _ ((g.trans g2).chg e.eb) (((e.grow g).grow g2).mut h h1 (.set (dv.mono g2.f) k (h5.mono g2.f)))
/-- xs.append(ys.pop(n)) -/
theorem run_appPop {n : Int} {k : Nat} (hij : i ≠ j) (h : ρ[i]? = some (.own ds)) (hj : ρ[j]? = some (.own es)) (hn : EE K ti ρ r (.int n)) (hb : -(2 ^ 63) ≤ n ∧ n < 2 ^ 63) (hk : seqIndex? n es.length = some k) (hd : es[k]? = some d) (hl : ds.length < 100000) :
    Run K (tDrop (tBM K "list" rAppend (tVar i) (tCons (tBM K "list" rPopAt (tVar j) (tCons ti tNil)) tNil))) ρ (.nx ((ρ.set j (.own (es.eraseIdx k))).set i (.own (ds ++ [d])))) := fun B Hf H σ Dn e p => by
  obtain ⟨q, xs, h1, h2, h3, h4, h5⟩ := e.own h
  obtain ⟨q', ys, g1, g2, g3, g4, g5⟩ := e.own hj
  refine ⟨_, h1, tyV_lst h4, ?_⟩
  refine ⟨_, g1, tyV_lst g4, ?_⟩
  refine hn B Hf H σ e _ fun w Hf2 H2 gr dw => ?_
  cases dw
  obtain ⟨v, hv, dv⟩ := g5.get hd
  refine ⟨q', ys, n, k, v, rfl, rfl, gr.h _ _ g4, hb.1, hb.2, by rw [g5.len]; exact hk, hv, ?_⟩
  have e2 := (e.grow gr).mut hj g1 (ys := ys.eraseIdx k) (.erase k (g5.mono gr.f))
  have hi2 : (ρ.set j (.own (es.eraseIdx k)))[i]? = some (.own ds) := by rw [List.getElem?_set_ne (Ne.symm hij)]; exact h
  obtain ⟨q2, xs2, a1, a2, a3, a4, a5⟩ := e2.own hi2
  rw [h1] at a1
  have eq := V.ref.inj (Option.some.inj (Option.some.inj a1))
  subst eq
  refine ⟨q, xs2, v, rfl, rfl, a4, sz_lt (by rw [a5.len]; exact hl), ?_⟩
  exact p _ Hf2 _ (gr.chg e.eb) (e2.mut hi2 h1 (.append a5 (.one (dv.mono gr.f))))

/-! ### loops -/
/-- what a loop comes to: f k its k-th item's slot -/
inductive Loop (K : PySem.W.Frag) (body : TS) (put : Nat → List Sl → List Sl) (n : Nat) : Nat → List Sl → Out → Prop where
  | done {k : Nat} {ρ : List Sl} : k = n → Loop K body put n k ρ (.nx ρ)
  | step {k : Nat} {ρ ρ' : List Sl} {o : Out} : k < n → Run K body (put k ρ) (.nx ρ') → Loop K body put n (k + 1) ρ' o → Loop K body put n k ρ o
  | cont {k : Nat} {ρ ρ' : List Sl} {o : Out} : k < n → Run K body (put k ρ) (.ct ρ') → Loop K body put n (k + 1) ρ' o → Loop K body put n k ρ o
  | brk {k : Nat} {ρ ρ' : List Sl} : k < n → Run K body (put k ρ) (.bk ρ') → Loop K body put n k ρ (.nx ρ')
  | ret {k : Nat} {ρ : List Sl} {r : Rg} {d : D} : k < n → Run K body (put k ρ) (.rt r d) → Loop K body put n k ρ (.rt r d)
  | retL {k : Nat} {ρ : List Sl} {ds : List D} : k < n → Run K body (put k ρ) (.rl ds) → Loop K body put n k ρ (.rl ds)
/-- a target takes the k-th item -/
def Puts (K : PySem.W.Frag) (g : TG) (put : Nat → List Sl → List Sl) (k : Nat) (ok : Hp → Hp → Hp → V → Prop) : Prop :=
  ∀ B Hf H σ ρ v, EnvOk K B Hf H σ ρ → ok B Hf H v → ∀ Q, (∀ σ', EnvOk K B Hf H σ' (put k ρ) → Q σ' H) → g v σ H Q
/-- what is walked: n items -/
def Src (K : PySem.W.Frag) (wi : TI) (ρ : List Sl) (n : Nat) (ok : Nat → Hp → Hp → Hp → V → Prop) : Prop :=
  ∀ B Hf H σ, EnvOk K B Hf H σ ρ → ∀ R : It → Hp → Prop, (∀ (J : It) Hf' H', Grow Hf H Hf' H' → (∀ Hf2 H2, Chg B Hf' Hf2 → Ex B H2 → Ex Hf2 H2 → ∀ k, k < n → J.go k H2 ∧ ∀ x H3, J.yld k H2 x H3 → Ex H2 H3 ∧ ok k B Hf2 H3 x) →
    (∀ Hf2 H2, Chg B Hf' Hf2 → Ex B H2 → Ex Hf2 H2 → J.stop n H2) → R J H') → wi σ H R
theorem run_for {body : TS} {g : TG} {wi : TI} {put : Nat → List Sl → List Sl} {n : Nat} {ok : Nat → Hp → Hp → Hp → V → Prop}
    (hw : Src K wi ρ n ok) (hg : ∀ k, k < n → Puts K g put k (ok k)) (hl : Loop K body put n 0 ρ o) : Run K (tFor wi g body) ρ o := fun B Hf H σ Dn e p => by
  refine hw B Hf H σ e _ fun J Hf1 H1 g1 hgo hst => ?_
  refine ⟨fun k m σ' H' => m = n - k ∧ ∃ Hf' ρ', Chg B Hf1 Hf' ∧ EnvOk K B Hf' H' σ' ρ' ∧ Loop K body put n k ρ' o, ⟨n, by simp, Hf1, ρ, Chg.refl _ _, e.grow g1, hl⟩, fun k m σ' H' hW => ?_⟩
  obtain ⟨rfl, Hf', ρ', c, e', l⟩ := hW
  have c1 : Chg B Hf Hf' := (g1.chg e.eb).trans c
  have turn : ∀ {o' : Out}, k < n → Run K body (put k ρ') o' →
      (∀ N : L2.St → Hp → Prop, (∀ σ2 H2, N σ2 H2 → ∃ m', m' < n - k ∧ m' = n - (k + 1) ∧ ∃ Hf'' ρ'', Chg B Hf1 Hf'' ∧ EnvOk K B Hf'' H2 σ2 ρ'' ∧ Loop K body put n (k + 1) ρ'' o) → Post K B Hf' { Dn with nx := N, ct := N, bk := Dn.nx } o' →
        (J.stop k H' ∧ Dn.nx σ' H') ∨ (J.go k H' ∧ ∃ N : L2.St → Hp → Prop, (∀ σ2 H2, N σ2 H2 → ∃ m', m' < n - k ∧ m' = n - (k + 1) ∧ ∃ Hf'' ρ'', Chg B Hf1 Hf'' ∧ EnvOk K B Hf'' H2 σ2 ρ'' ∧ Loop K body put n (k + 1) ρ'' o) ∧ ∀ x H2, J.yld k H' x H2 → g x σ' H2 fun σ2 H3 => body { Dn with nx := N, ct := N, bk := Dn.nx } σ2 H3)) := fun {o'} hk hr N hN hP => by
    obtain ⟨h1, h2⟩ := hgo Hf' H' c e'.eb e'.ef k hk
    refine .inr ⟨h1, N, hN, fun x H2 hy => ?_⟩
    obtain ⟨hx0, hx⟩ := h2 x H2 hy
    exact hg k hk B Hf' H2 σ' ρ' x (e'.grow (Grow.up e'.ef hx0)) hx _ fun σ2 e2 => hr B Hf' H2 σ2 _ e2 hP
  let N0 : L2.St → Hp → Prop := fun σ2 H2 => ∃ Hf'' ρ'', Chg B Hf1 Hf'' ∧ EnvOk K B Hf'' H2 σ2 ρ'' ∧ Loop K body put n (k + 1) ρ'' o
  have hN0 : k < n → ∀ σ2 H2, N0 σ2 H2 → ∃ m', m' < n - k ∧ m' = n - (k + 1) ∧ ∃ Hf'' ρ'', Chg B Hf1 Hf'' ∧ EnvOk K B Hf'' H2 σ2 ρ'' ∧ Loop K body put n (k + 1) ρ'' o := fun hk σ2 H2 h => ⟨n - (k + 1), by omega, rfl, h⟩
  cases l with
  | done hk =>
    subst hk
    exact .inl ⟨hst Hf' H' c e'.eb e'.ef, p σ' Hf' H' c1 e'⟩
  | step hk hr hl => exact turn hk hr N0 (hN0 hk) fun σ2 Hf'' H2 c' e2 => ⟨Hf'', _, c.trans c', e2, hl⟩
  | cont hk hr hl => exact turn hk hr N0 (hN0 hk) fun σ2 Hf'' H2 c' e2 => ⟨Hf'', _, c.trans c', e2, hl⟩
  | brk hk hr => exact turn hk hr N0 (hN0 hk) fun σ2 Hf'' H2 c' e2 => p σ2 Hf'' H2 (c1.trans c') e2
  | ret hk hr => exact turn hk hr N0 (hN0 hk) fun v Hf'' H2 c' e2 => p v Hf'' H2 (c1.trans c') e2
  | retL hk hr => exact turn hk hr N0 (hN0 hk) fun v xs Hf'' H2 c' e2 => p v xs Hf'' H2 (c1.trans c') e2
/-- the target a name: an int; an item of the frame, of what was lent -/
def putI (lo : Int) (j : Nat) : Nat → List Sl → List Sl := fun k ρ => ρ.set j (.dat (.int (lo + k)))
def putF (ds : List D) (j : Nat) : Nat → List Sl → List Sl := fun k ρ => ρ.set j (.dat (ds.getD k .non))
def putB (ds : List D) (j : Nat) : Nat → List Sl → List Sl := fun k ρ => ρ.set j (.bor (ds.getD k .non))
theorem src_range1 {ta : TA} {n : Int} (h : EA K ta ρ r [.int n]) (hn : -100000 ≤ n ∧ n ≤ 100000) : Src K (iRng1 ta) ρ n.toNat (fun k _ _ _ v => v = .int (0 + (k : Int))) := fun B Hf H σ e R q => h B Hf H σ e _ fun vs Hf1 H1 g dv => by
    obtain ⟨v, rfl, dw⟩ := dv.inv1
    have ev := dw.int_inv
    subst ev
    exact ⟨n, rfl, by omega, by omega, q _ Hf1 H1 g (fun Hf2 H2 _ _ _ k hk => ⟨hk, fun x H3 hy => ⟨by rw [hy.1]; exact Ex.refl _, hy.2⟩⟩) fun Hf2 H2 _ _ _ => Nat.le_refl _⟩
theorem src_range2 {ta : TA} {lo n : Int} (h : EA K ta ρ r [.int lo, .int n]) (hn : -100000 ≤ n ∧ n ≤ 100000 ∧ -100000 ≤ lo ∧ lo ≤ 100000) : Src K (iRng2 ta) ρ (n - lo).toNat (fun k _ _ _ v => v = .int (lo + (k : Int))) := fun B Hf H σ e R q => h B Hf H σ e _ fun vs Hf1 H1 g dv => by
    obtain ⟨v, v', rfl, dw, dw'⟩ := dv.inv2
    have ev := dw.int_inv
    subst ev
    have ev' := dw'.int_inv
    subst ev'
    exact ⟨lo, n, rfl, ⟨by omega, by omega, by omega, by omega⟩, q _ Hf1 H1 g (fun Hf2 H2 _ _ _ k hk => ⟨hk, fun x H3 hy => ⟨by rw [hy.1]; exact Ex.refl _, hy.2⟩⟩) fun Hf2 H2 _ _ _ => Nat.le_refl _⟩
theorem puts_int {lo : Int} {k : Nat} : Puts K (gName j) (putI lo j) k (fun _ _ _ v => v = .int (lo + (k : Int))) := fun B Hf H σ ρ v e hv Q q => by subst hv; exact q _ (e.put_dat j (.int _))
theorem run_range1 {body : TS} {ta : TA} {n : Int} (h : EA K ta ρ r [.int n]) (hn : -100000 ≤ n ∧ n ≤ 100000) (hl : Loop K body (putI 0 j) n.toNat 0 ρ o) : Run K (tFor (iRng1 ta) (gName j) body) ρ o :=
  run_for (src_range1 h hn) (fun k _ => puts_int) hl
theorem run_range2 {body : TS} {ta : TA} {lo n : Int} (h : EA K ta ρ r [.int lo, .int n]) (hn : -100000 ≤ n ∧ n ≤ 100000 ∧ -100000 ≤ lo ∧ lo ≤ 100000) (hl : Loop K body (putI lo j) (n - lo).toNat 0 ρ o) : Run K (tFor (iRng2 ta) (gName j) body) ρ o :=
  run_for (src_range2 h hn) (fun k _ => puts_int) hl
theorem getD_at {ds : List D} {k : Nat} (hk : k < ds.length) : ds[k]? = some (ds.getD k .non) := by
  rw [List.getD_eq_getElem?_getD, List.getElem?_eq_getElem hk]; rfl
theorem at_getD {ds : List D} {k : Nat} {d : D} (h : ds[k]? = some d) : ds.getD k .non = d := by rw [List.getD_eq_getElem?_getD, h]; rfl
theorem itl_go {a : Addr} {xs : List V} {H : Hp} {k : Nat} (h : H a = some (.lst xs)) (hk : k < xs.length) : (Itl K a).go k H ∧ ∀ x H3, (Itl K a).yld k H x H3 → H3 = H ∧ xs[k]? = some x :=
  ⟨⟨xs, xs[k], .inl (.inl h), List.getElem?_eq_getElem hk⟩, fun x H3 hy => ⟨hy.1, hy.2 xs (.inl (.inl h))⟩⟩
theorem itt_go {a : Addr} {xs : List V} {H : Hp} {k : Nat} (h : H a = some (.tup xs)) (hk : k < xs.length) : (Itt K a).go k H ∧ ∀ x H3, (Itt K a).yld k H x H3 → H3 = H ∧ xs[k]? = some x :=
  ⟨⟨xs, xs[k], .inl (.inl h), List.getElem?_eq_getElem hk⟩, fun x H3 hy => ⟨hy.1, hy.2 xs (.inl (.inl h))⟩⟩
/-- a list that hangs on the frame or was lent, or a new one; its items in the frame or lent -/
inductive Rl where | f | b
def Rl.rg : Rl → Rg | .f => .f | .b => .b
def Rl.at (r : Rl) (B Hf : Hp) : Hp := match r with | .f => Hf | .b => B
theorem Rl.up {r : Rl} {B Hf Hf' : Hp} (c : Chg B Hf Hf') : Ex (r.at B Hf) (r.at B Hf') := by
  cases r with
  | f => exact c.f
  | b => exact Ex.refl _
theorem Rl.whole {r : Rl} {B Hf H : Hp} (b : Ex B H) (f : Ex Hf H) : Ex (r.at B Hf) H := by
  cases r with
  | f => exact f
  | b => exact b
theorem Rl.eq {r : Rl} {B Hf H : Hp} : r.rg.at B Hf H = r.at B Hf := by cases r <;> rfl
theorem src_list {q : Rl} (h : EE K te ρ q.rg (.lst ds)) : Src K (iList K te) ρ ds.length (fun k B Hf _ v => Dt K (q.at B Hf) v (ds.getD k .non)) := fun B Hf H σ e R qq => h B Hf H σ e _ fun v Hf1 H1 g dv => by
    rw [Rl.eq] at dv
    obtain ⟨a, xs, rfl, h1, h2⟩ := dv.lst_inv
    refine ⟨a, rfl, ⟨xs, .inl (.inl (Rl.whole (e.eb.trans g.h) g.i _ _ h1))⟩, qq _ Hf1 H1 g (fun Hf2 H2 c eb ef k hk => ?_) fun Hf2 H2 c eb ef => ⟨xs, .inl (.inl (Rl.whole eb ef _ _ (Rl.up c _ _ h1))), by rw [h2.len]; exact Nat.le_refl _⟩⟩
    obtain ⟨q1, q2⟩ := itl_go (K := K) (Rl.whole eb ef _ _ (Rl.up c _ _ h1)) (show k < xs.length by rw [h2.len]; exact hk)
    refine ⟨q1, fun x H3 hy => ?_⟩
    obtain ⟨e1, e2⟩ := q2 x H3 hy
    obtain ⟨v, e3, e4⟩ := h2.get (getD_at hk)
    rw [e2] at e3; cases e3
    exact ⟨by rw [e1]; exact Ex.refl _, e4.mono (Rl.up c)⟩
theorem src_tup {q : Rl} (h : EE K te ρ q.rg (.tup ds)) : Src K (iTup K te) ρ ds.length (fun k B Hf _ v => Dt K (q.at B Hf) v (ds.getD k .non)) := fun B Hf H σ e R qq => h B Hf H σ e _ fun v Hf1 H1 g dv => by
    rw [Rl.eq] at dv
    obtain ⟨a, xs, rfl, h1, h2⟩ := dv.tup_inv
    refine ⟨a, rfl, ⟨xs, .inl (.inl (Rl.whole (e.eb.trans g.h) g.i _ _ h1))⟩, qq _ Hf1 H1 g (fun Hf2 H2 c eb ef k hk => ?_) fun Hf2 H2 c eb ef => ⟨xs, .inl (.inl (Rl.whole eb ef _ _ (Rl.up c _ _ h1))), by rw [h2.len]; exact Nat.le_refl _⟩⟩
    obtain ⟨q1, q2⟩ := itt_go (K := K) (Rl.whole eb ef _ _ (Rl.up c _ _ h1)) (show k < xs.length by rw [h2.len]; exact hk)
    refine ⟨q1, fun x H3 hy => ?_⟩
    obtain ⟨e1, e2⟩ := q2 x H3 hy
    obtain ⟨v, e3, e4⟩ := h2.get (getD_at hk)
    rw [e2] at e3; cases e3
    exact ⟨by rw [e1]; exact Ex.refl _, e4.mono (Rl.up c)⟩
/-- a new list, its items lent (or in the frame) -/
def EN (K : PySem.W.Frag) (te : TE) (ρ : List Sl) (q : Rl) (ds : List D) : Prop := ∀ B Hf H σ, EnvOk K B Hf H σ ρ → ∀ Q : VK, (∀ p xs Hf' H', Grow Hf H Hf' H' → Hf' p = none → H p = none → H' p = some (.lst xs) → DtA K (q.at B Hf') xs ds → Q (.ref p) H') → te σ H Q
theorem src_new {q : Rl} (h : EN K te ρ q ds) : Src K (iList K te) ρ ds.length (fun k B Hf _ v => Dt K (q.at B Hf) v (ds.getD k .non)) := fun B Hf H σ e R qq => h B Hf H σ e _ fun a xs Hf0 H1 g0 f1 f2 f3 f4 => by
    have g : Grow Hf H (upd Hf0 a (.lst xs)) H1 := g0.freeze f2 f1 f3
    have h2 : DtA K (q.at B (upd Hf0 a (.lst xs))) xs ds := f4.mono (by
      cases q with
      | f => exact Ex.new f1
      | b => exact Ex.refl _)
    have h1 : (upd Hf0 a (.lst xs)) a = some (.lst xs) := upd_same
    refine ⟨a, rfl, ⟨xs, .inl (.inl f3)⟩, qq _ _ H1 g (fun Hf2 H2 c eb ef k hk => ?_) fun Hf2 H2 c eb ef => ⟨xs, .inl (.inl (ef _ _ (c.f _ _ h1))), by rw [h2.len]; exact Nat.le_refl _⟩⟩
    obtain ⟨q1, q2⟩ := itl_go (K := K) (ef _ _ (c.f _ _ h1)) (show k < xs.length by rw [h2.len]; exact hk)
    refine ⟨q1, fun x H3 hy => ?_⟩
    obtain ⟨e1, e2⟩ := q2 x H3 hy
    obtain ⟨v, e3, e4⟩ := h2.get (getD_at hk)
    rw [e2] at e3; cases e3
    exact ⟨by rw [e1]; exact Ex.refl _, e4.mono (Rl.up c)⟩
theorem EL.n (h : EL K te ρ ds) : EN K te ρ .f ds := h
theorem puts_name {ds : List D} {k : Nat} : Puts K (gName j) (putF ds j) k (fun _ Hf _ v => Dt K Hf v (ds.getD k .non)) := fun B Hf H σ ρ v e hv Q q => q _ (e.put_dat j hv)
theorem puts_nameB {ds : List D} {k : Nat} : Puts K (gName j) (putB ds j) k (fun B _ _ v => Dt K B v (ds.getD k .non)) := fun B Hf H σ ρ v e hv Q q => q _ (e.put_bor j hv)
theorem run_list {body : TS} (h : EE K te ρ .f (.lst ds)) (hl : Loop K body (putF ds j) ds.length 0 ρ o) : Run K (tFor (iList K te) (gName j) body) ρ o := run_for (src_list (q := .f) h) (fun k _ => puts_name) hl
theorem run_listB {body : TS} (h : EE K te ρ .b (.lst ds)) (hl : Loop K body (putB ds j) ds.length 0 ρ o) : Run K (tFor (iList K te) (gName j) body) ρ o := run_for (src_list (q := .b) h) (fun k _ => puts_nameB) hl
/-- a, b = an item, a pair of ints -/
def putP (rs : List (Int × Int)) (i j : Nat) : Nat → List Sl → List Sl := fun k ρ => (ρ.set i (.dat (.int (rs.getD k (0, 0)).1))).set j (.dat (.int (rs.getD k (0, 0)).2))
def dRow (r : Int × Int) : D := .tup [.int r.1, .int r.2]
def dRows (rs : List (Int × Int)) : List D := rs.map dRow
theorem dRows_get {rs : List (Int × Int)} {k : Nat} (hk : k < rs.length) : (dRows rs).getD k .non = dRow (rs.getD k (0, 0)) := by
  unfold dRows
  simp [List.getD_eq_getElem?_getD, List.getElem?_map, List.getElem?_eq_getElem hk]
theorem puts_pair {q : Rl} {rs : List (Int × Int)} {k : Nat} (hk : k < rs.length) : Puts K (gTup K 2 (gCons (gName i) (gCons (gName j) gNil))) (putP rs i j) k (fun B Hf _ v => Dt K (q.at B Hf) v ((dRows rs).getD k .non)) := fun B Hf H σ ρ v e hv Q qq => by
  rw [dRows_get hk] at hv
  obtain ⟨p, vs, rfl, h1, h2⟩ := hv.tup_inv
  obtain ⟨v, w, rfl, dv, dw⟩ := h2.inv2
  refine ⟨p, [v, w], rfl, .inl (.inl (Rl.whole e.eb e.ef _ _ h1)), rfl, v, [w], rfl, w, [], rfl, rfl, ?_⟩
  exact qq _ ((e.put_dat i (Scl.any (.int _) dv)).put_dat j (Scl.any (.int _) dw))

/-! ### a def keeps its promise -/
def slots (n : Nat) (ds : List D) : List Sl := ds.map Sl.bor ++ List.replicate (n - ds.length) .un
theorem DtA.get2 {H : Hp} : ∀ {vs : List V} {ds : List D} {i : Nat} {v : V} {d : D}, DtA K H vs ds → vs[i]? = some v → ds[i]? = some d → Dt K H v d := fun {vs ds i v d} h a b => by
  obtain ⟨v', h1, h2⟩ := h.get b
  rw [a] at h1; cases h1; exact h2
theorem env_start {H : Hp} {N : List Str} {vs : List V} (h : DtA K H vs ds) : EnvOk K H Emp H (L2.start N vs) (slots N.length ds) := by
  refine ⟨Ex.refl _, ex_emp _, ?_, fun i o s h1 h2 => ?_, fun i j p es es' _ _ h2 => ?_⟩
  · unfold L2.start slots
    simp [h.len]
  · unfold L2.start at h1
    unfold slots at h2
    by_cases hi : i < ds.length
    · have hv : i < vs.length := by rw [h.len]; exact hi
      rw [List.getElem?_append_left (by simpa using hv), List.getElem?_map] at h1
      rw [List.getElem?_append_left (by simpa using hi), List.getElem?_map] at h2
      rw [List.getElem?_eq_getElem hv] at h1
      rw [List.getElem?_eq_getElem hi] at h2
      cases h1; cases h2
      exact .bor (h.get2 (List.getElem?_eq_getElem hv) (List.getElem?_eq_getElem hi))
    · rw [List.getElem?_append_right (by simpa using (by omega : ds.length ≤ i))] at h2
      have := List.mem_of_getElem? h2
      have e := (List.mem_replicate.mp this).2
      subst e
      exact .un _
  · unfold slots at h2
    have := List.mem_of_getElem? h2
    rcases List.mem_append.mp this with z | z
    · obtain ⟨_, _, e⟩ := List.mem_map.mp z; cases e
    · have e := (List.mem_replicate.mp z).2; cases e
theorem grow_of {H Hf' H' : Hp} (c : Chg H Emp Hf') (eb : Ex H H') (ef : Ex Hf' H') : Grow Emp H Hf' H' := ⟨ex_emp _, ef, eb, fun p _ h => c.n p h rfl⟩
theorem fin_N {H : Hp} {N : List Str} {vs : List V} {Q : VK} {nx : L2.St → Hp → Prop} (h : DtA K H vs ds) (hr : Run K t (slots N.length ds) (.rt .f d)) (q : ∀ v Hn H', Grow Emp H Hn H' → Dt K Hn v d → Q v H') : t { nx := nx, rt := Q } (L2.start N vs) H :=
  hr H Emp H _ _ (env_start h) fun v Hf' H' c eb ef dv => q v Hf' H' (grow_of c eb ef) dv
theorem fin_S {H : Hp} {N : List Str} {vs : List V} {Q : VK} {nx : L2.St → Hp → Prop} (h : DtA K H vs ds) (s : Scl d) (hr : Run K t (slots N.length ds) (.rt r d)) (q : ∀ v Hn H', Grow Emp H Hn H' → Dt K Hn v d → Q v H') : t { nx := nx, rt := Q } (L2.start N vs) H :=
  hr H Emp H _ _ (env_start h) fun v Hf' H' c eb ef dv => q v Hf' H' (grow_of c eb ef) (s.any dv)
theorem fin_L {H : Hp} {N : List Str} {vs : List V} {Q : VK} {nx : L2.St → Hp → Prop} (h : DtA K H vs ds) (hr : Run K t (slots N.length ds) (.rl es)) (q : ∀ p xs Hn H', Grow Emp H Hn H' → Hn p = none → H p = none → H' p = some (.lst xs) → DtA K Hn xs es → Q (.ref p) H') : t { nx := nx, rt := Q } (L2.start N vs) H :=
  hr H Emp H _ _ (env_start h) fun p xs Hf' H' c eb ef h1 h2 h3 h4 => q p xs Hf' H' (grow_of c eb ef) h1 h2 h3 h4
/-! the same where what is handed back hangs on nothing: the arguments are the frame -/
def slotsF (n : Nat) (ds : List D) : List Sl := ds.map Sl.dat ++ List.replicate (n - ds.length) .un
theorem env_startF {H : Hp} {N : List Str} {vs : List V} (h : DtA K H vs ds) : EnvOk K Emp H H (L2.start N vs) (slotsF N.length ds) := by
  refine ⟨ex_emp _, Ex.refl _, ?_, fun i o s h1 h2 => ?_, fun i j p es es' _ _ h2 => ?_⟩
  · unfold L2.start slotsF
    simp [h.len]
  · unfold L2.start at h1
    unfold slotsF at h2
    by_cases hi : i < ds.length
    · have hv : i < vs.length := by rw [h.len]; exact hi
      rw [List.getElem?_append_left (by simpa using hv), List.getElem?_map] at h1
      rw [List.getElem?_append_left (by simpa using hi), List.getElem?_map] at h2
      rw [List.getElem?_eq_getElem hv] at h1
      rw [List.getElem?_eq_getElem hi] at h2
      cases h1; cases h2
      exact .dat (h.get2 (List.getElem?_eq_getElem hv) (List.getElem?_eq_getElem hi))
    · rw [List.getElem?_append_right (by simpa using (by omega : ds.length ≤ i))] at h2
      have := List.mem_of_getElem? h2
      have e := (List.mem_replicate.mp this).2
      subst e
      exact .un _
  · unfold slotsF at h2
    have := List.mem_of_getElem? h2
    rcases List.mem_append.mp this with z | z
    · obtain ⟨_, _, e⟩ := List.mem_map.mp z; cases e
    · have e := (List.mem_replicate.mp z).2; cases e
theorem fin_F {H : Hp} {N : List Str} {vs : List V} {Q : VK} {nx : L2.St → Hp → Prop} (h : DtA K H vs ds) (s : Scl d) (hr : Run K t (slotsF N.length ds) (.rt r d)) (q : ∀ v Hn H', Grow Emp H Hn H' → Dt K Hn v d → Q v H') : t { nx := nx, rt := Q } (L2.start N vs) H :=
  hr Emp H H _ _ (env_startF h) fun v Hf' H' c eb ef dv => q v Emp H' ⟨Ex.refl _, ex_emp _, c.f.trans ef, fun _ _ _ => rfl⟩ (s.any dv)
end
end PL

end
section
set_option maxRecDepth 100000
set_option maxHeartbeats 2000000
namespace PL
open PySem PySem.Spec PyProof.Rows L2 Evl

/-! ### comprehensions -/
def wipeR (ρ : List Sl) : List Nat → List Sl
  | [] => ρ
  | v :: vs => (wipeR ρ vs).set v .un
section
variable {K : PySem.W.Frag} {ρ : List Sl} {te ta tb : TE} {tt : TT} {wi : TI} {g : TG} {r r1 r2 r3 : Rg} {ds : List D} {j : Nat}
theorem EnvOk.wipe {B Hf H : Hp} {σ : L2.St} (e : EnvOk K B Hf H σ ρ) : ∀ vs : List Nat, EnvOk K B Hf H (L2.wipe σ vs) (wipeR ρ vs)
  | [] => e
  | v :: vs => (EnvOk.wipe e vs).put_un v none
/-- something that nobody here holds is changed -/
theorem EnvOk.off {B Hf H : Hp} {σ : L2.St} (e : EnvOk K B Hf H σ ρ) {p : Addr} {u : HO} (hb : B p = none) (hf : Hf p = none) (hn : ∀ (k : Nat) es, σ[k]? = some (some (.ref p)) → ρ[k]? = some (.own es) → False) : EnvOk K B Hf (upd H p u) σ ρ := by
  refine ⟨Ex.mut e.eb hb, Ex.mut e.ef hf, e.len, fun i o s h1 h2 => ?_, e.dis⟩
  have q := e.sl i o s h1 h2
  cases q with
  | un => exact .un _
  | dat h => exact .dat h
  | bor h => exact .bor h
  | @own p' xs es a b c d =>
    refine .own a b ?_ d
    rw [upd_ne (fun z => hn i es (by rw [← z]; exact h1) h2)]
    exact c
def made (n : Nat) (keep : Nat → Bool) (val : Nat → D) : List D := ((List.range n).filter keep).map val
theorem made_yes {n : Nat} {keep : Nat → Bool} {val : Nat → D} (h : keep n = true) : made (n + 1) keep val = made n keep val ++ [val n] := by
  unfold made
  rw [List.range_succ, List.filter_append, List.map_append, List.filter_cons, if_pos h] <;> rfl
theorem made_no {n : Nat} {keep : Nat → Bool} {val : Nat → D} (h : keep n = false) : made (n + 1) keep val = made n keep val := by
  unfold made
  rw [List.range_succ, List.filter_append, List.map_append, List.filter_cons, if_neg (by rw [h]; decide)]
  show _ ++ [] = _
  rw [List.append_nil]
theorem made_len (n : Nat) (keep : Nat → Bool) (val : Nat → D) : (made n keep val).length ≤ n := by
  unfold made
  rw [List.length_map]
  have h := List.length_filter_le keep (List.range n)
  rw [List.length_range] at h
  exact h
theorem made_all {n : Nat} {val : Nat → D} : made n (fun _ => true) val = (List.range n).map val := by
  unfold made
  congr 1
  exact List.filter_eq_self.mpr (fun _ _ => rfl)
/-- a target within a comprehension -/
def PutsW (K : PySem.W.Frag) (g : TG) (put : Nat → List Sl → List Sl) (k : Nat) (vs : List Nat) (ok : Hp → Hp → Hp → V → Prop) : Prop :=
  ∀ B Hf H σ ρ v, EnvOk K B Hf H (L2.wipe σ vs) ρ → ok B Hf H v → ∀ Q, (∀ σ', EnvOk K B Hf H σ' (put k ρ) → L2.wipe σ' vs = L2.wipe σ vs → Q σ' H) → g v (L2.wipe σ vs) H Q
theorem el_lc {put : Nat → List Sl → List Sl} {n : Nat} {vs : List Nat} {ok : Nat → Hp → Hp → Hp → V → Prop} (keep : Nat → Bool) (val : Nat → D)
    (hw : Src K wi ρ n ok) (hg : ∀ k, k < n → PutsW K g put k vs (ok k)) (ht : ∀ k, k < n → ET K tt (put k (wipeR ρ vs)) (keep k)) (he : ∀ k, k < n → keep k = true → EE K te (put k (wipeR ρ vs)) .f (val k)) (hn : n ≤ 40000) :
    EL K (tLc wi g tt te vs) ρ (made n keep val) := fun B Hf H σ e Q q => by
  refine hw B Hf H σ e _ fun J Hf1 H1 g1 hgo hst => ?_
  intro Dl hD
  have e1 := (e.grow g1)
  have off : ∀ (k : Nat) es, σ[k]? = some (some (.ref Dl)) → ρ[k]? = some (.own es) → False := fun k es a b => by
    obtain ⟨p, xs, h1, _, _, h4, _⟩ := e1.own b
    rw [a] at h1
    have := V.ref.inj (Option.some.inj (Option.some.inj h1))
    rw [← this, hD] at h4
    cases h4
  let I : Nat → Hp → Prop := fun k H' => ∃ Hf' acc, Chg B Hf1 Hf' ∧ Ex H1 H' ∧ Ex Hf' H' ∧ (∀ p, Hf1 p = none → H1 p ≠ none → Hf' p = none) ∧ Hf' Dl = none ∧ H' Dl = some (.lst acc) ∧ DtA K Hf' acc (made k keep val) ∧ EnvOk K B Hf' H' σ ρ
  have bD : B Dl = none := fresh_back e1.eb hD
  have fD : Hf1 Dl = none := fresh_back e1.ef hD
  refine ⟨fun k m H' => m = n - k ∧ k ≤ n ∧ I k H', ⟨n, by simp, Nat.zero_le _, Hf1, [], Chg.refl _ _, Ex.new hD, g1.i.trans (Ex.new hD), fun _ h _ => h, fD, upd_same, .nil, e1.off bD fD off⟩, fun k m H' hW => ?_⟩
  obtain ⟨rfl, hk, Hf', acc, c, x1, x2, x3, fr, h1, h2, e2⟩ := hW
  by_cases hlt : k < n
  · obtain ⟨go1, go2⟩ := hgo Hf' H' c e2.eb e2.ef k hlt
    refine .inr ⟨go1, I (k + 1), fun H2 h => ⟨n - (k + 1), by omega, rfl, hlt, h⟩, fun x H2 hy => ?_⟩
    obtain ⟨y1, y2⟩ := go2 x H2 hy
    have g3 : Grow Hf' H' Hf' H2 := Grow.up e2.ef y1
    have e3 := e2.grow g3
    refine hg k hlt B Hf' H2 σ (wipeR ρ vs) x (e3.wipe vs) y2 _ fun σ' e4 hw' => ?_
    refine ⟨hw', ?_⟩
    refine ht k hlt B Hf' H2 σ' e4 _ fun Hf4 H4 g4 => ?_
    have g34 := g3.trans g4
    have x3' : ∀ {Hf5 H5 : Hp}, Grow Hf' H' Hf5 H5 → ∀ p, Hf1 p = none → H1 p ≠ none → Hf5 p = none := fun g p a b => g.n p (x3 p a b) (ex_some x1 b)
    have nD : ∀ {Hf5 H5 : Hp}, Grow Hf' H' Hf5 H5 → Hf5 Dl = none := fun g => g.n Dl fr (by rw [h1]; exact fun z => nomatch z)
    cases hkp : keep k with
    | true =>
      rw [if_pos rfl]
      refine he k hlt hkp B Hf4 H4 σ' (e4.grow g4) _ fun v Hf5 H5 g5 dv => ?_
      have g45 := g34.trans g5
      have hl := made_len k keep val
      refine ⟨acc, g45.h _ _ h1, sz_lt (by rw [h2.len]; omega), Hf5, _, c.trans (g45.chg e2.eb), ?_, ?_, x3' g45, nD g45, upd_same, ?_, (e2.grow g45).off bD (nD g45) off⟩
      · exact Ex.mut (x1.trans g45.h) hD
      · exact Ex.mut g45.i (nD g45)
      · rw [made_yes hkp]; exact .append (h2.mono g45.f) (.one dv)
    | false =>
      rw [if_neg Bool.false_ne_true]
      refine ⟨Hf4, acc, c.trans (g34.chg e2.eb), x1.trans g34.h, g34.i, x3' g34, nD g34, g34.h _ _ h1, ?_, e2.grow g34⟩
      rw [made_no hkp]; exact h2.mono g34.f
  · have hkn : k = n := by omega
    subst hkn
    refine .inl ⟨hst Hf' H' c e2.eb e2.ef, ?_⟩
    exact q Dl acc Hf' H' ⟨g1.f.trans c.f, x2, g1.h.trans x1, fun p a b => x3 p (g1.n p a b) (ex_some g1.h b)⟩ fr (fresh_back g1.h hD) h1 h2
theorem wipe_one {σ : L2.St} {j : Nat} {x : Option V} : L2.wipe ((L2.wipe σ [j]).set j x) [j] = L2.wipe σ [j] := by
  show (((σ.set j none).set j x)).set j none = σ.set j none
  rw [List.set_set, List.set_set]
theorem putsW_int {lo : Int} {k : Nat} : PutsW K (gName j) (putI lo j) k [j] (fun _ _ _ v => v = .int (lo + (k : Int))) := fun B Hf H σ ρ v e hv Q q => by subst hv; exact q _ (e.put_dat j (.int _)) wipe_one
theorem putsW_name {ds : List D} {k : Nat} : PutsW K (gName j) (putF ds j) k [j] (fun _ Hf _ v => Dt K Hf v (ds.getD k .non)) := fun B Hf H σ ρ v e hv Q q => q _ (e.put_dat j hv) wipe_one
theorem putsW_nameB {ds : List D} {k : Nat} : PutsW K (gName j) (putB ds j) k [j] (fun B _ _ v => Dt K B v (ds.getD k .non)) := fun B Hf H σ ρ v e hv Q q => q _ (e.put_bor j hv) wipe_one
theorem t_yes : ET K tYes ρ true := fun B Hf H σ e Q q => q Hf H (Grow.refl e.ef)
/-- list(range(n)) -/
theorem el_rg1 {n : Int} (h : EE K ta ρ r (.int n)) (h0 : 0 ≤ n) (h1 : n ≤ 100000) : EL K (tLstRg (tRg1 ta)) ρ ((List.range n.toNat).map fun (i : Nat) => D.int (i : Int)) := fun B Hf H σ e Q q =>
  h B Hf H σ e _ fun v Hf1 H1 g dv => by
    have ev := dv.int_inv
    subst ev
    refine ⟨n, rfl, RgOk.of_le (by omega) (by omega) (by omega) (by omega), fun p hn => q p _ Hf1 _ (g.trans (Grow.newO g.i hn)) (fresh_back g.i hn) (fresh_back g.h hn) upd_same ?_⟩
    have e2 : rgV 0 n = ((List.range n.toNat).map fun (i : Nat) => (i : Int)).map V.int := by
      unfold rgV
      rw [List.map_map, Int.sub_zero]
      congr 1
      funext i
      show V.int (0 + (i : Int)) = V.int (i : Int)
      rw [Int.zero_add]
    have e3 : ((List.range n.toNat).map fun (i : Nat) => D.int (i : Int)) = ((List.range n.toNat).map fun (i : Nat) => (i : Int)).map D.int := by rw [List.map_map]; rfl
    rw [e2, e3]
    exact DtA.ints _
theorem oa_max {i k : Int} : OpA K (fun xs H Q => ∃ i j, xs = [.int i, .int j] ∧ Q (.int (if j > i then j else i)) H) r1 [.int i, .int k] r3 (.int (max i k)) := fun B Hf H xs _ ef h Q q => by
  obtain ⟨v, v', rfl, dv, dw⟩ := h.inv2
  have ev := dv.int_inv
  have ew := dw.int_inv
  subst ev; subst ew
  refine ⟨i, k, rfl, q _ _ _ (Grow.refl ef) ?_⟩
  have e : (if k > i then k else i) = max i k := by
    rw [Int.max_def]; split <;> split <;> omega
  rw [e]; exact .int _
theorem oa_min {i k : Int} : OpA K (fun xs H Q => ∃ i j, xs = [.int i, .int j] ∧ Q (.int (if j < i then j else i)) H) r1 [.int i, .int k] r3 (.int (min i k)) := fun B Hf H xs _ ef h Q q => by
  obtain ⟨v, v', rfl, dv, dw⟩ := h.inv2
  have ev := dv.int_inv
  have ew := dw.int_inv
  subst ev; subst ew
  refine ⟨i, k, rfl, q _ _ _ (Grow.refl ef) ?_⟩
  have e : (if k < i then k else i) = min i k := by
    rw [Int.min_def]; split <;> split <;> omega
  rw [e]; exact .int _

/-! ### sorted, pairs of ints -/
/-- the pair at a value -/
noncomputable def rowAt (H : Hp) (v : V) : Int × Int := match v with
  | .ref a => match H a with
    | some (.tup [.int i, .int j]) => (i, j)
    | _ => (0, 0)
  | _ => (0, 0)
theorem rowAt_of {H : Hp} {v : V} {x : Int × Int} (h : Dt K H v (dRow x)) : ∃ t, v = .ref t ∧ H t = some (.tup [.int x.1, .int x.2]) ∧ rowAt H v = x := by
  obtain ⟨p, vs, rfl, h1, h2⟩ := h.tup_inv
  obtain ⟨a, b, rfl, da, db⟩ := h2.inv2
  have ea := da.int_inv
  have eb := db.int_inv
  subst ea; subst eb
  refine ⟨p, rfl, h1, ?_⟩
  show (match H p with | some (.tup [.int i, .int j]) => (i, j) | _ => (0, 0)) = x
  rw [h1]
theorem rows_all {H : Hp} : ∀ {vs : List V} {rs : List (Int × Int)}, DtA K H vs (dRows rs) → vs.map (rowAt H) = rs ∧ ∀ v ∈ vs, Dt K H v (dRow (rowAt H v))
  | _, [], h => by cases h; exact ⟨rfl, fun v hv => nomatch hv⟩
  | _, x :: rs, h => by
    cases h with
    | cons a b =>
      obtain ⟨h1, h2⟩ := rows_all b
      obtain ⟨t, e1, e2, e3⟩ := rowAt_of a
      refine ⟨by rw [List.map_cons, h1, e3], fun v hv => ?_⟩
      rcases List.mem_cons.mp hv with e | hv
      · subst e; rw [e3]; exact a
      · exact h2 v hv
theorem rows_back {H H2 : Hp} : ∀ (vs : List V), (∀ v ∈ vs, Dt K H v (dRow (rowAt H2 v))) → DtA K H vs (dRows (vs.map (rowAt H2)))
  | [], _ => .nil
  | v :: vs, h => .cons (h v List.mem_cons_self) (rows_back vs fun w hw => h w (List.mem_cons_of_mem _ hw))
/-- ascending, by the first then the second number -/
def rowLe (x y : Int × Int) : Prop := x.1 < y.1 ∨ (x.1 = y.1 ∧ x.2 ≤ y.2)
def leB (x y : Int × Int) : Bool := decide (x.1 < y.1 ∨ (x.1 = y.1 ∧ x.2 ≤ y.2))
theorem leB_iff {x y : Int × Int} : leB x y = true ↔ rowLe x y := by unfold leB rowLe; exact decide_eq_true_iff
def sortR (rs : List (Int × Int)) : List (Int × Int) := rs.mergeSort leB
theorem sortR_perm (rs : List (Int × Int)) : (sortR rs).Perm rs := List.mergeSort_perm rs leB
theorem sortR_srt (rs : List (Int × Int)) : (sortR rs).Pairwise rowLe := by
  have h := List.pairwise_mergeSort (le := leB) (fun a b c h1 h2 => by
    rw [leB_iff] at *
    unfold rowLe at *
    omega) (fun a b => by
    rw [Bool.or_eq_true, leB_iff, leB_iff]
    unfold rowLe
    omega) rs
  exact h.imp fun {x y} hxy => leB_iff.mp hxy
theorem srt_uniq : ∀ {l m : List (Int × Int)}, l.Perm m → l.Pairwise rowLe → m.Pairwise rowLe → l = m
  | [], m, p, _, _ => (List.nil_perm.mp p).symm
  | x :: l, [], p, _, _ => absurd p.length_eq (by simp)
  | x :: l, y :: m, p, h1, h2 => by
    have a1 := List.pairwise_cons.mp h1
    have a2 := List.pairwise_cons.mp h2
    have e : x = y := by
      have hx : x ∈ y :: m := p.mem_iff.mp List.mem_cons_self
      have hy : y ∈ x :: l := p.mem_iff.mpr List.mem_cons_self
      rcases List.mem_cons.mp hx with e | hx
      · exact e
      · rcases List.mem_cons.mp hy with e | hy
        · exact e.symm
        · have q1 := a1.1 _ hy
          have q2 := a2.1 _ hx
          unfold rowLe at q1 q2
          exact Prod.ext (by omega) (by omega)
    subst e
    rw [srt_uniq (List.Perm.cons_inv p) a1.2 a2.2]
theorem sortR_eq {l rs : List (Int × Int)} (p : l.Perm rs) (h : l.Pairwise rowLe) : l = sortR rs := srt_uniq (p.trans (sortR_perm rs).symm) h (sortR_srt rs)
/-- a list or a tuple, its items lent or in the frame -/
def EQ (K : PySem.W.Frag) (te : TE) (ρ : List Sl) (q : Rl) (ds : List D) : Prop := ∀ B Hf H σ, EnvOk K B Hf H σ ρ → ∀ Q : VK, (∀ p xs Hf' H', Grow Hf H Hf' H' → SqL K H' p xs ∨ SqT K H' p xs → DtA K (q.at B Hf') xs ds → Q (.ref p) H') → te σ H Q
theorem EE.ql {q : Rl} (h : EE K te ρ q.rg (.lst ds)) : EQ K te ρ q ds := fun B Hf H σ e Q k => h B Hf H σ e Q fun v Hf' H' g dv => by
  rw [Rl.eq] at dv
  obtain ⟨a, xs, rfl, h1, h2⟩ := dv.lst_inv
  exact k a xs Hf' H' g (.inl (.inl (.inl (Rl.whole (e.eb.trans g.h) g.i _ _ h1)))) h2
theorem EE.qt {q : Rl} (h : EE K te ρ q.rg (.tup ds)) : EQ K te ρ q ds := fun B Hf H σ e Q k => h B Hf H σ e Q fun v Hf' H' g dv => by
  rw [Rl.eq] at dv
  obtain ⟨a, xs, rfl, h1, h2⟩ := dv.tup_inv
  exact k a xs Hf' H' g (.inr (.inl (.inl (Rl.whole (e.eb.trans g.h) g.i _ _ h1)))) h2
/-- sorted(xs) of pairs -/
theorem en_sorted {q : Rl} {rs : List (Int × Int)} {ta : TE} (hL : EQ K ta ρ q (dRows rs))
: EN K (tCB (rSortedPS K) (tCons ta tNil)) ρ q (dRows (sortR rs)) := fun B Hf H σ e Q k => by
  refine hL B Hf H σ e _ fun p xs Hf1 H1 g hs hd => ?_
  have ex : Ex (q.at B Hf1) H1 := Rl.whole (e.eb.trans g.h) g.i
  obtain ⟨m1, m2⟩ := rows_all (hd.mono ex)
  refine ⟨p, xs, rowAt H1, rfl, hs, fun v hv => ?_, fun ys l s1 s2 hn => ?_⟩
  · obtain ⟨t, e1, e2, _⟩ := rowAt_of (m2 v hv)
    exact ⟨t, e1, e2⟩
  · have pm : ys.Perm xs := s2.1
    have e1 : (ys.map (rowAt H1)) = sortR rs := by
      refine sortR_eq ?_ ?_
      · rw [← m1]; exact pm.map _
      · refine List.pairwise_map.mpr (s1.imp fun {x y} hxy => ?_)
        have hxy' : SrtO.lexB (rowAt H1 y) (rowAt H1 x) = false := hxy
        have hn : ¬ (SrtO.lexB (rowAt H1 y) (rowAt H1 x) = true) := by rw [hxy']; exact Bool.false_ne_true
        rw [SrtO.lexB_iff] at hn
        unfold rowLe
        omega
    have d2 : DtA K (q.at B Hf1) ys (dRows (sortR rs)) := by
      rw [← e1]
      have key : ∀ v ∈ xs, Dt K (q.at B Hf1) v (dRow (rowAt H1 v)) := by
        obtain ⟨n1, n2⟩ := rows_all hd
        intro v hv
        have h1 := n2 v hv
        obtain ⟨t, z1, z2, z3⟩ := rowAt_of h1
        obtain ⟨t', y1, y2, y3⟩ := rowAt_of (h1.mono ex)
        rw [y3]; exact h1
      exact rows_back ys fun v hv => key v (pm.mem_iff.mp hv)
    refine k l ys Hf1 _ (g.trans (Grow.newO g.i hn)) (fresh_back g.i hn) (fresh_back g.h hn) upd_same d2
end
end PL

end
section
set_option maxRecDepth 100000
set_option maxHeartbeats 2000000
namespace PL
open PySem PySem.Spec PyProof.Rows L2 Evl
/-! ### defs of the text -/
/-- a def that stands under a name of the module and keeps its promise -/
structure Has (P : Program) (w : World) (K : PySem.W.Frag) (mg : Str → Option Value) (base : Heap) (x : Str) (k : Nat) (ps : List Str) (sp : Sp) : Prop where
  ex : ∃ (f : Addr) (fd : FuncData), FnOk P w K mg base CX0 k f fd ps sp ∧ mg x = some (.ref f) ∧ PySem.W.keepIn K (.ref f) = true ∧ Binds K fd ps []
theorem pe_callH {X : Cx} {x : Str} {j k : Nat} {ps : List Str} {sp : Sp} {e : Expr} {es : List Expr} {t : TA} {p pos : Pos} (h : Has X.prog X.w X.K X.mg X.base x j ps sp) (hr : Room k X.A) (hj : j ≤ k) (hg : Gl X x) (ha : PA X (e :: es) t)
    (hdb : (x == ("__debug__" : Str)) = false := by decide) (he : starEach (e :: es) X.env = (false, eval e X.env) :: starEach es X.env := by rfl) (hpl : (backTo pos (starEach es X.env)).any (·.1) = false := by rfl) :
    PE X (.Call (.Name x p) (e :: es) [] pos) (tCall sp [] E0 t) := by
  obtain ⟨f, fd, F, hm, hk, hb⟩ := h.ex
  exact pe_call (F.mono hj) hr hg hm hk hb .nil pass0 ha hdb he hpl
end PL

end
section
set_option maxRecDepth 100000
set_option maxHeartbeats 2000000
namespace PL
open PySem PySem.Spec PyProof.Rows L2 Evl
section
variable {K : PySem.W.Frag} {ρ : List Sl} {te ta tb : TE} {r r1 r2 r3 : Rg} {d d1 d2 d3 : D} {ds : List D} {t u : TS} {o : Out} {tt : TT} {b : Bool}
theorem o_ixTs {i : Int} (h : atI ds i = some d) (s : Scl d) : Op2 K (rIxT K) r1 (.tup ds) r2 (.int i) r3 d := fun B Hf H x y eb ef dx dy Q q => by
  obtain ⟨a, xs, rfl, h1, h2⟩ := dx.tup_inv
  cases dy
  obtain ⟨v, h3, h4⟩ := at_dts h2 h
  exact ⟨a, xs, i, v, rfl, rfl, .inl (.inl (Rg.whole eb ef _ _ h1)), h3, q v Hf H (Grow.refl ef) (s.any h4)⟩
theorem o_ixLs {i : Int} (h : atI ds i = some d) (s : Scl d) : Op2 K (rIxL K) r1 (.lst ds) r2 (.int i) r3 d := fun B Hf H x y eb ef dx dy Q q => by
  obtain ⟨a, xs, rfl, h1, h2⟩ := dx.lst_inv
  cases dy
  obtain ⟨v, h3, h4⟩ := at_dts h2 h
  exact ⟨a, xs, i, v, rfl, rfl, .inl (.inl (Rg.whole eb ef _ _ h1)), h3, q v Hf H (Grow.refl ef) (s.any h4)⟩
theorem run_when (h : ET K tt ρ b) (h1 : b = true → Run K t ρ o) (h2 : b = false → o = .nx ρ) : Run K (tIfS tt t tNext) ρ o := run_if h h1 fun z => by rw [h2 z]; exact run_next
/-- if c: (something that leaves) and what stands behind it -/
theorem run_seq_if (h : ET K tt ρ b) (hs : o.stops) (h1 : b = true → Run K t ρ o) (h2 : b = false → Run K u ρ o) : Run K (tSeq (tIfS tt t tNext) u) ρ o := by
  cases b with
  | true => exact run_stop hs (run_ifT h (h1 rfl))
  | false => exact run_seq (run_ifF h run_next) (h2 rfl)
theorem t_andF {t u : TT} (h : ET K t ρ false) : ET K (tAnd t u) ρ false := fun B Hf H σ e Q q => h B Hf H σ e _ fun Hf1 H1 g1 => q Hf1 H1 g1
theorem t_orT {t u : TT} (h : ET K t ρ true) : ET K (tOr t u) ρ true := fun B Hf H σ e Q q => h B Hf H σ e _ fun Hf1 H1 g1 => q Hf1 H1 g1
theorem run_seqF (h : ET K tt ρ false) (h1 : Run K u ρ o) : Run K (tSeq (tIfS tt t tNext) u) ρ o := run_seq (run_ifF h run_next) h1
theorem Run.to {o' : Out} (h : Run K t ρ o) (e : o = o') : Run K t ρ o' := e ▸ h
/-- a loop that looks for a first hit -/
theorem loop_find {body : TS} {put : Nat → List Sl → List Sl} {n : Nat} (I : Nat → List Sl → Prop) (hit : Nat → Bool) (back : Nat → Out)
    (hb : ∀ k, (∃ r d, back k = .rt r d) ∨ (∃ ds, back k = .rl ds))
    (hs : ∀ k ρ, k < n → I k ρ → (hit k = true → Run K body (put k ρ) (back k)) ∧ (hit k = false → ∃ ρ', I (k + 1) ρ' ∧ Run K body (put k ρ) (.nx ρ'))) :
    ∀ m k ρ, k + m = n → I k ρ → (∃ j, k ≤ j ∧ j < n ∧ hit j = true ∧ (∀ i, k ≤ i → i < j → hit i = false) ∧ Loop K body put n k ρ (back j)) ∨ ((∀ j, k ≤ j → j < n → hit j = false) ∧ ∃ ρ', I n ρ' ∧ Loop K body put n k ρ (.nx ρ'))
  | 0, k, ρ, hk, hi => by
    have e : k = n := by omega
    subst e
    exact .inr ⟨fun j h1 h2 => by omega, ρ, hi, .done rfl⟩
  | m + 1, k, ρ, hk, hi => by
    obtain ⟨h1, h2⟩ := hs k ρ (by omega) hi
    cases hh : hit k with
    | true =>
      refine .inl ⟨k, Nat.le_refl _, by omega, hh, fun i a b => by omega, ?_⟩
      have q := h1 hh
      rcases hb k with ⟨r, d, e⟩ | ⟨ds, e⟩
      · rw [e] at q ⊢; exact .ret (by omega) q
      · rw [e] at q ⊢; exact .retL (by omega) q
    | false =>
      obtain ⟨ρ', i1, q⟩ := h2 hh
      rcases loop_find I hit back hb hs m (k + 1) ρ' (by omega) i1 with ⟨j, a1, a2, a3, a4, a5⟩ | ⟨a1, ρ'', a2, a3⟩
      · refine .inl ⟨j, by omega, a2, a3, fun i b1 b2 => ?_, .step (by omega) q a5⟩
        by_cases e : i = k
        · subst e; exact hh
        · exact a4 i (by omega) b2
      · refine .inr ⟨fun j b1 b2 => ?_, ρ'', a2, .step (by omega) q a3⟩
        by_cases e : j = k
        · subst e; exact hh
        · exact a1 j (by omega) b2
/-- a loop that goes through -/
theorem loop_all {body : TS} {put : Nat → List Sl → List Sl} {n : Nat} (ρs : Nat → List Sl) (hs : ∀ k, k < n → Run K body (put k (ρs k)) (.nx (ρs (k + 1)))) : ∀ m k, k + m = n → Loop K body put n k (ρs k) (.nx (ρs n))
  | 0, k, hk => by
    have e : k = n := by omega
    subst e
    exact .done rfl
  | m + 1, k, hk => .step (by omega) (hs k (by omega)) (loop_all ρs hs m (k + 1) (by omega))
/-- the same, slots left open -/
theorem loop_inv {body : TS} {put : Nat → List Sl → List Sl} {n : Nat} (I : Nat → List Sl → Prop) (hs : ∀ k ρ, k < n → I k ρ → ∃ ρ', I (k + 1) ρ' ∧ Run K body (put k ρ) (.nx ρ')) : ∀ m k ρ, k + m = n → I k ρ → ∃ ρ', I n ρ' ∧ Loop K body put n k ρ (.nx ρ')
  | 0, k, ρ, hk, hi => by
    have e : k = n := by omega
    subst e
    exact ⟨ρ, hi, .done rfl⟩
  | m + 1, k, ρ, hk, hi => by
    obtain ⟨ρ1, i1, q1⟩ := hs k ρ (by omega) hi
    obtain ⟨ρ2, i2, q2⟩ := loop_inv I hs m (k + 1) ρ1 (by omega) i1
    exact ⟨ρ2, i2, .step (by omega) q1 q2⟩
theorem run_find {body rest : TS} {g : TG} {wi : TI} {put : Nat → List Sl → List Sl} {n : Nat} {ok : Nat → Hp → Hp → Hp → V → Prop} (hw : Src K wi ρ n ok) (hg : ∀ k, k < n → Puts K g put k (ok k))
    (I : Nat → List Sl → Prop) (hit : Nat → Bool) (back : Nat → Out) (hb : ∀ k, (∃ r d, back k = .rt r d) ∨ (∃ ds, back k = .rl ds)) (hi : I 0 ρ)
    (hs : ∀ k ρ, k < n → I k ρ → (hit k = true → Run K body (put k ρ) (back k)) ∧ (hit k = false → ∃ ρ', I (k + 1) ρ' ∧ Run K body (put k ρ) (.nx ρ')))
    (hf : ∀ j, j < n → hit j = true → (∀ i, i < j → hit i = false) → back j = o) (hr : (∀ j, j < n → hit j = false) → ∀ ρ', I n ρ' → Run K rest ρ' o) : Run K (tSeq (tFor wi g body) rest) ρ o := by
  rcases loop_find I hit back hb hs n 0 ρ (Nat.zero_add _) hi with ⟨j, _, a2, a3, a4, a5⟩ | ⟨a1, ρ', a2, a3⟩
  · have e := hf j a2 a3 fun i h => a4 i (Nat.zero_le _) h
    rw [e] at a5
    refine run_stop ?_ (run_for hw hg a5)
    rw [← e]
    rcases hb j with ⟨r, d, e2⟩ | ⟨ds, e2⟩ <;> rw [e2] <;> trivial
  · exact run_seq (run_for hw hg a3) (hr (fun j h => a1 j (Nat.zero_le _) h) ρ' a2)
theorem run_thru {body rest : TS} {g : TG} {wi : TI} {put : Nat → List Sl → List Sl} {n : Nat} {ok : Nat → Hp → Hp → Hp → V → Prop} (hw : Src K wi ρ n ok) (hg : ∀ k, k < n → Puts K g put k (ok k))
    (I : Nat → List Sl → Prop) (hi : I 0 ρ) (hs : ∀ k ρ, k < n → I k ρ → ∃ ρ', I (k + 1) ρ' ∧ Run K body (put k ρ) (.nx ρ')) (hr : ∀ ρ', I n ρ' → Run K rest ρ' o) : Run K (tSeq (tFor wi g body) rest) ρ o := by
  obtain ⟨ρ', a2, a3⟩ := loop_inv I hs n 0 ρ (Nat.zero_add _) hi
  exact run_seq (run_for hw hg a3) (hr ρ' a2)
theorem run_thru1 {body : TS} {g : TG} {wi : TI} {put : Nat → List Sl → List Sl} {n : Nat} {ok : Nat → Hp → Hp → Hp → V → Prop} (hw : Src K wi ρ n ok) (hg : ∀ k, k < n → Puts K g put k (ok k))
    (ρs : Nat → List Sl) (hi : ρs 0 = ρ) (hs : ∀ k, k < n → Run K body (put k (ρs k)) (.nx (ρs (k + 1)))) : Run K (tFor wi g body) ρ (.nx (ρs n)) := by
  have h := loop_all (K := K) (body := body) (put := put) (n := n) ρs hs n 0 (Nat.zero_add _)
  rw [hi] at h
  exact run_for hw hg h
theorem pow_ok {i j : Int} (h0 : 0 ≤ j) (h1 : j ≤ 1000000) (h2 : i.natAbs < 2 ^ 64) : 0 ≤ j ∧ j ≤ 1000000 ∧ i.natAbs < 2 ^ 64 := ⟨h0, h1, h2⟩
theorem mul_ok {i j : Int} (a : Nat) (ha : i.natAbs < 2 ^ a) (h0 : 0 < a) (h1 : a ≤ 500000) (b : Nat) (hb : j.natAbs < 2 ^ b) (h2 : 0 < b) (h3 : b ≤ 500000) : CMulW i j := wide_mul ha hb h0 h2 (by omega)
theorem div_ok {i j : Int} (h : 0 < j) (hb : j.natAbs < 2 ^ 200) : CDivW i j := wide_div h hb (by omega) (by omega)
theorem two200 : (2 : Nat) ^ 200 = 1606938044258990275541962092341162602522202993782792835301376 := by decide
theorem mul200 {i j : Int} (ha : i.natAbs < 2 ^ 200) (hb : j.natAbs < 2 ^ 200) : CMulW i j := wide_mul ha hb (by omega) (by omega) (by omega)
end
/-! the draw -/
def cell0 (ns : List Int) (pl : Int) : Int := if 0 < ns.length then ns.getD (pl % (ns.length : Int)).toNat 0 + pl / (ns.length : Int) else pl
def cell1 (c : Int) : Int := if c < 0 then 0 - c else c
def leftN : Nat → Int → Int
  | 0, l => l
  | n + 1, l => leftN n (if 0 < l then l / 1000 else l)
def mix (c pl st : Int) : Int :=
  let m := (c + 7919 * st + 104729 * pl + 13) % 2147483647
  let m := (m * (m + 48271)) % 2147483629
  (m * (m + 69621) + 31 * st) % 2147483647
def draw (ns : List Int) (pl st sz : Int) : Int :=
  let c := cell1 (cell0 ns pl)
  let l := leftN st.toNat (c - 10 ^ (18 : Int).toNat)
  if 0 < l then (l % 1000) % sz else (mix c pl st / 9) % sz
theorem draw_lt {ns : List Int} {pl st sz : Int} (h : 0 < sz) : 0 ≤ draw ns pl st sz ∧ draw ns pl st sz < sz := by
  unfold draw
  dsimp only
  split
  · exact ⟨Int.emod_nonneg _ (by omega), Int.emod_lt_of_pos _ h⟩
  · exact ⟨Int.emod_nonneg _ (by omega), Int.emod_lt_of_pos _ h⟩
structure DrawR (ds : List D) (d : D) : Prop where
  ex : ∃ (ns : List Int) (pl st sz : Int), ds = [.scr ns, .int pl, .int st, .int sz] ∧ 0 ≤ pl ∧ pl ≤ 10000 ∧ 0 ≤ st ∧ st ≤ 10000 ∧ 0 < sz ∧ ns.length ≤ 63 ∧ d = .int (draw ns pl st sz)
theorem DrawR.len {ds : List D} {d : D} (h : DrawR ds d) : ds.length = 4 := by
  obtain ⟨ns, pl, st, sz, rfl, _⟩ := h.ex; rfl
theorem leftN_succ : ∀ (n : Nat) (l : Int), leftN (n + 1) l = (if 0 < leftN n l then leftN n l / 1000 else leftN n l)
  | 0, l => rfl
  | n + 1, l => by
    show leftN (n + 1) (if 0 < l then l / 1000 else l) = _
    rw [leftN_succ n]
    rfl
/-- a, b by the first list, then the second -/
theorem set5 {α : Type} {a b c d e f g h : α} {x : α} : [a, b, c, d, e, f, g, h].set 4 x = [a, b, c, d, x, f, g, h] := rfl
end PL

end
section
set_option maxRecDepth 100000
set_option maxHeartbeats 2000000
namespace PL
open PySem PySem.Spec PyProof.Rows L2 Evl
/-- one walk or another -/
def iOr (w1 w2 : TI) : TI := fun σ H R => w1 σ H R ∨ w2 σ H R
theorem pi_or {X : Cx} {tg e : Expr} {w1 w2 : TI} (h1 : PI X tg e w1) (h2 : PI X tg e w2) : PI X tg e (iOr w1 w2) :=
  ⟨fun pins s σ H R I h => h.elim (h1.run pins s σ H R I) (h2.run pins s σ H R I)⟩
section
variable {K : PySem.W.Frag} {ρ : List Sl} {te ta tb tc : TE} {r r1 r2 r3 : Rg} {d d1 d2 d3 : D} {ds : List D} {t u : TS} {o : Out} {tt tt1 : TT} {b : Bool} {wi wi1 w1 w2 : TI} {g g1 : TG} {i j : Nat}
theorem src_orL {n : Nat} {ok : Nat → Hp → Hp → Hp → V → Prop} (h : Src K w1 ρ n ok) : Src K (iOr w1 w2) ρ n ok := fun B Hf H σ e R q => .inl (h B Hf H σ e R q)
theorem src_orR {n : Nat} {ok : Nat → Hp → Hp → Hp → V → Prop} (h : Src K w2 ρ n ok) : Src K (iOr w1 w2) ρ n ok := fun B Hf H σ e R q => .inr (h B Hf H σ e R q)
theorem wipe_two {σ : L2.St} {x y : Option V} (hij : i ≠ j) : L2.wipe (((L2.wipe σ [i, j]).set i x).set j y) [i, j] = L2.wipe σ [i, j] := by
  show (((((σ.set j none).set i none).set i x).set j y).set j none).set i none = (σ.set j none).set i none
  rw [List.set_set, List.set_set]
  apply List.ext_getElem?
  intro m
  simp only [List.getElem?_set, List.length_set]
  by_cases a : i = m <;> by_cases b : j = m <;> simp_all
theorem putsW_pair {q : Rl} {rs : List (Int × Int)} {k : Nat} (hij : i ≠ j) (hk : k < rs.length) : PutsW K (gTup K 2 (gCons (gName i) (gCons (gName j) gNil))) (putP rs i j) k [i, j] (fun B Hf _ v => Dt K (q.at B Hf) v ((dRows rs).getD k .non)) := fun B Hf H σ ρ v e hv Q qq => by
  rw [dRows_get hk] at hv
  obtain ⟨p, vs, rfl, h1, h2⟩ := hv.tup_inv
  obtain ⟨v, w, rfl, dv, dw⟩ := h2.inv2
  refine ⟨p, [v, w], rfl, .inl (.inl (Rl.whole e.eb e.ef _ _ h1)), rfl, v, [w], rfl, w, [], rfl, rfl, ?_⟩
  exact qq _ ((e.put_dat i (Scl.any (.int _) dv)).put_dat j (Scl.any (.int _) dw)) (wipe_two hij)
theorem wipe_four {σ : L2.St} {k l : Nat} {x y : Option V} (h1 : i ≠ j) (h2 : i ≠ k) (h3 : i ≠ l) (h4 : j ≠ k) (h5 : j ≠ l) : L2.wipe (((L2.wipe σ [i, j, k, l]).set i x).set j y) [i, j, k, l] = L2.wipe σ [i, j, k, l] := by
  apply List.ext_getElem?
  intro m
  show ((((((((((σ.set l none).set k none).set j none).set i none).set i x).set j y).set l none).set k none).set j none).set i none)[m]? = ((((σ.set l none).set k none).set j none).set i none)[m]?
  simp only [List.getElem?_set, List.length_set]
  by_cases a : i = m <;> by_cases b : j = m <;> by_cases c : k = m <;> by_cases d : l = m <;> simp_all
theorem putsW_pair4 {q : Rl} {rs : List (Int × Int)} {k l m : Nat} (h1 : i ≠ j) (h2 : i ≠ k) (h3 : i ≠ l) (h4 : j ≠ k) (h5 : j ≠ l) (hk : m < rs.length) : PutsW K (gTup K 2 (gCons (gName i) (gCons (gName j) gNil))) (putP rs i j) m [i, j, k, l] (fun B Hf _ v => Dt K (q.at B Hf) v ((dRows rs).getD m .non)) := fun B Hf H σ ρ v e hv Q qq => by
  rw [dRows_get hk] at hv
  obtain ⟨p, vs, rfl, a1, a2⟩ := hv.tup_inv
  obtain ⟨v, w, rfl, dv, dw⟩ := a2.inv2
  refine ⟨p, [v, w], rfl, .inl (.inl (Rl.whole e.eb e.ef _ _ a1)), rfl, v, [w], rfl, w, [], rfl, rfl, ?_⟩
  exact qq _ ((e.put_dat i (Scl.any (.int _) dv)).put_dat j (Scl.any (.int _) dw)) (wipe_four h1 h2 h3 h4 h5)
def made2 (n : Nat) (n1 : Nat → Nat) (val : Nat → Nat → D) : List D := (List.range n).flatMap fun i => (List.range (n1 i)).map (val i)
theorem made2_succ (n : Nat) (n1 : Nat → Nat) (val : Nat → Nat → D) : made2 (n + 1) n1 val = made2 n n1 val ++ (List.range (n1 n)).map (val n) := by
  unfold made2
  rw [List.range_succ, List.flatMap_append]
  simp
theorem made2_len {n : Nat} {n1 : Nat → Nat} {val : Nat → Nat → D} {c : Nat} (h : ∀ i, i < n → n1 i ≤ c) : ∀ k, k ≤ n → (made2 k n1 val).length ≤ k * c
  | 0, _ => by simp [made2]
  | k + 1, hk => by
    rw [made2_succ, List.length_append, List.length_map, List.length_range]
    have a := made2_len (val := val) h k (by omega)
    have b := h k (by omega)
    rw [Nat.succ_mul]
    omega
/-- two clauses, no tests -/
theorem el_lc2 {put : Nat → List Sl → List Sl} {put1 : Nat → Nat → List Sl → List Sl} {n : Nat} {n1 : Nat → Nat} {vs vs1 : List Nat} {ok : Nat → Hp → Hp → Hp → V → Prop} {ok1 : Nat → Nat → Hp → Hp → Hp → V → Prop} (val : Nat → Nat → D) {c : Nat}
    (hw : Src K wi ρ n ok) (hg : ∀ k, k < n → PutsW K g put k vs (ok k)) (ht : ∀ k, k < n → ET K tt (put k (wipeR ρ vs)) true)
    (hno : ∀ k, k < n → ∀ (m : Nat) es, (put k (wipeR ρ vs))[m]? ≠ some (.own es))
    (hw1 : ∀ k, k < n → Src K wi1 (put k (wipeR ρ vs)) (n1 k) (ok1 k)) (hg1 : ∀ k, k < n → ∀ m, m < n1 k → PutsW K g1 (put1 k) m vs1 (ok1 k m))
    (ht1 : ∀ k, k < n → ∀ m, m < n1 k → ET K tt1 (put1 k m (wipeR (put k (wipeR ρ vs)) vs1)) true) (he : ∀ k, k < n → ∀ m, m < n1 k → EE K te (put1 k m (wipeR (put k (wipeR ρ vs)) vs1)) .f (val k m))
    (hc : ∀ k, k < n → n1 k ≤ c) (hn : n * c ≤ 40000) :
    EL K (tLc2 wi g tt wi1 g1 tt1 te vs vs1) ρ (made2 n n1 val) := fun B Hf H σ e Q q => by
  refine hw B Hf H σ e _ fun J Hf1 H1 g1' hgo hst => ?_
  intro Dl hD
  have e1 := (e.grow g1')
  have off : ∀ (k : Nat) es, σ[k]? = some (some (.ref Dl)) → ρ[k]? = some (.own es) → False := fun k es a b => by
    obtain ⟨p, xs, h1, _, _, h4, _⟩ := e1.own b
    rw [a] at h1
    have := V.ref.inj (Option.some.inj (Option.some.inj h1))
    rw [← this, hD] at h4
    cases h4
  let I : List D → Hp → Prop := fun ds H' => ∃ Hf' acc, Chg B Hf1 Hf' ∧ Ex H1 H' ∧ Ex Hf' H' ∧ (∀ p, Hf1 p = none → H1 p ≠ none → Hf' p = none) ∧ Hf' Dl = none ∧ H' Dl = some (.lst acc) ∧ DtA K Hf' acc ds ∧ EnvOk K B Hf' H' σ ρ
  have bD : B Dl = none := fresh_back e1.eb hD
  have fD : Hf1 Dl = none := fresh_back e1.ef hD
  refine ⟨fun k m H' => m = n - k ∧ k ≤ n ∧ I (made2 k n1 val) H', ⟨n, by simp, Nat.zero_le _, Hf1, [], Chg.refl _ _, Ex.new hD, g1'.i.trans (Ex.new hD), fun _ h _ => h, fD, upd_same, .nil, e1.off bD fD off⟩, fun k m H' hW => ?_⟩
  obtain ⟨rfl, hk, Hf', acc, c', x1, x2, x3, fr, h1, h2, e2⟩ := hW
  by_cases hlt : k < n
  · obtain ⟨go1, go2⟩ := hgo Hf' H' c' e2.eb e2.ef k hlt
    refine .inr ⟨go1, I (made2 (k + 1) n1 val), fun H2 h => ⟨n - (k + 1), by omega, rfl, hlt, h⟩, fun x H2 hy => ?_⟩
    obtain ⟨y1, y2⟩ := go2 x H2 hy
    have g3 : Grow Hf' H' Hf' H2 := Grow.up e2.ef y1
    have e3 := e2.grow g3
    refine hg k hlt B Hf' H2 σ (wipeR ρ vs) x (e3.wipe vs) y2 _ fun σ' e4 hw' => ?_
    refine ⟨hw', ?_⟩
    refine ht k hlt B Hf' H2 σ' e4 _ fun Hf4 H4 g4 => ?_
    rw [if_pos rfl]
    have g34 := g3.trans g4
    have x3' : ∀ {Hf5 H5 : Hp}, Grow Hf' H' Hf5 H5 → ∀ p, Hf1 p = none → H1 p ≠ none → Hf5 p = none := fun g p a b => g.n p (x3 p a b) (ex_some x1 b)
    have nD : ∀ {Hf5 H5 : Hp}, Grow Hf' H' Hf5 H5 → Hf5 Dl = none := fun g => g.n Dl fr (by rw [h1]; exact fun z => nomatch z)
    refine hw1 k hlt B Hf4 H4 σ' (e4.grow g4) _ fun J1 Hf5 H5 g5 hgo1 hst1 => ?_
    have g35 := g34.trans g5
    have e5 := (e4.grow g4).grow g5
    have off1 : ∀ (m : Nat) es, σ'[m]? = some (some (.ref Dl)) → (put k (wipeR ρ vs))[m]? = some (.own es) → False := fun m es _ b => hno k hlt m es b
    let I1 : Nat → Hp → Prop := fun m H6 => ∃ Hf6 acc, Chg B Hf5 Hf6 ∧ Ex H1 H6 ∧ Ex Hf6 H6 ∧ (∀ p, Hf1 p = none → H1 p ≠ none → Hf6 p = none) ∧ Hf6 Dl = none ∧ H6 Dl = some (.lst acc) ∧ DtA K Hf6 acc (made2 k n1 val ++ (List.range m).map (val k)) ∧ EnvOk K B Hf6 H6 σ ρ ∧ EnvOk K B Hf6 H6 σ' (put k (wipeR ρ vs))
    refine ⟨fun m k' H6 => k' = n1 k - m ∧ m ≤ n1 k ∧ I1 m H6, ⟨n1 k, by simp, Nat.zero_le _, Hf5, acc, Chg.refl _ _, x1.trans g35.h, g35.i, x3' g35, nD g35, g35.h _ _ h1, ?_, e2.grow g35, e5⟩, fun m k' H6 hW1 => ?_⟩
    · rw [List.range_zero, List.map_nil, List.append_nil]; exact h2.mono g35.f
    obtain ⟨rfl, hm, Hf6, acc6, c6, z1, z2, z3, fr6, p1, p2, e6, e7⟩ := hW1
    have cc : Chg B Hf1 Hf6 := (c'.trans (g35.chg e2.eb)).trans c6
    by_cases hlt1 : m < n1 k
    · obtain ⟨go3, go4⟩ := hgo1 Hf6 H6 c6 e7.eb e7.ef m hlt1
      refine .inr ⟨go3, I1 (m + 1), fun H7 h => ⟨n1 k - (m + 1), by omega, rfl, hlt1, h⟩, fun x1' H7 hy1 => ?_⟩
      obtain ⟨y3, y4⟩ := go4 x1' H7 hy1
      have g7 : Grow Hf6 H6 Hf6 H7 := Grow.up e6.ef y3
      refine hg1 k hlt m hlt1 B Hf6 H7 σ' _ x1' ((e7.grow g7).wipe vs1) y4 _ fun σ3 e8 hw3 => ?_
      refine ⟨hw3, ?_⟩
      refine ht1 k hlt m hlt1 B Hf6 H7 σ3 e8 _ fun Hf8 H8 g8 => ?_
      rw [if_pos rfl]
      refine he k hlt m hlt1 B Hf8 H8 σ3 (e8.grow g8) _ fun v Hf9 H9 g9 dv => ?_
      have g79 := (g7.trans g8).trans g9
      have nD9 : Hf9 Dl = none := g79.n Dl fr6 (by rw [p1]; exact fun z => nomatch z)
      have hl : acc6.length < 100000 := by
        rw [p2.len, List.length_append, List.length_map, List.length_range]
        have a := made2_len (val := val) hc k (by omega)
        have b := hc k hlt
        have : (k + 1) * c ≤ n * c := Nat.mul_le_mul_right c hlt
        rw [Nat.succ_mul] at this
        omega
      refine ⟨acc6, g79.h _ _ p1, sz_lt hl, Hf9, _, c6.trans (g79.chg e6.eb), ?_, ?_, fun p a b => g79.n p (z3 p a b) (ex_some z1 b), nD9, upd_same, ?_, (e6.grow g79).off bD nD9 off, (e7.grow g79).off bD nD9 off1⟩
      · exact Ex.mut (z1.trans g79.h) hD
      · exact Ex.mut g79.i nD9
      · rw [List.range_succ, List.map_append, ← List.append_assoc]; exact .append (p2.mono g79.f) (.one dv)
    · have hmn : m = n1 k := by omega
      subst hmn
      refine .inl ⟨hst1 Hf6 H6 c6 e7.eb e7.ef, Hf6, acc6, cc, z1, z2, z3, fr6, p1, ?_, e6⟩
      rw [made2_succ]; exact p2
  · have hkn : k = n := by omega
    subst hkn
    refine .inl ⟨hst Hf' H' c' e2.eb e2.ef, ?_⟩
    exact q Dl acc Hf' H' ⟨g1'.f.trans c'.f, x2, g1'.h.trans x1, fun p a b => x3 p (g1'.n p a b) (ex_some g1'.h b)⟩ fr (fresh_back g1'.h hD) h1 h2
/-- any(xs), xs of True and False -/
theorem oa_any {bs : List Bool} : OpA K (rAny K) r1 [.lst (bs.map D.bl)] r3 (.bl (bs.any id)) := fun B Hf H xs eb ef h Q q => by
  obtain ⟨v, rfl, dv⟩ := h.inv1
  obtain ⟨a, ys, rfl, h1, h2⟩ := dv.lst_inv
  have e : ∀ {bs : List Bool} {ys : List V}, DtA K (r1.at B Hf H) ys (bs.map D.bl) → ys = bs.map V.bl := fun {bs} => by
    induction bs with
    | nil => intro ys h; cases h; rfl
    | cons x bs ih =>
      intro ys h
      cases h with
      | cons a b => cases a; rw [ih b]; rfl
  rw [e h2] at h1
  exact ⟨a, bs, rfl, .inl (.inl (Rg.whole eb ef _ _ h1)), q _ _ _ (Grow.refl ef) (.bl _)⟩
theorem oa_all {bs : List Bool} : OpA K (rAll K) r1 [.lst (bs.map D.bl)] r3 (.bl (bs.all id)) := fun B Hf H xs eb ef h Q q => by
  obtain ⟨v, rfl, dv⟩ := h.inv1
  obtain ⟨a, ys, rfl, h1, h2⟩ := dv.lst_inv
  have e : ∀ {bs : List Bool} {ys : List V}, DtA K (r1.at B Hf H) ys (bs.map D.bl) → ys = bs.map V.bl := fun {bs} => by
    induction bs with
    | nil => intro ys h; cases h; rfl
    | cons x bs ih =>
      intro ys h
      cases h with
      | cons a b => cases a; rw [ih b]; rfl
  rw [e h2] at h1
  exact ⟨a, bs, rfl, .inl (.inl (Rg.whole eb ef _ _ h1)), q _ _ _ (Grow.refl ef) (.bl _)⟩
theorem e_chain {g g' : Int → Int → Bool} {x y z : Int} (ha : EE K ta ρ r1 (.int x)) (hb : EE K tb ρ r2 (.int y)) (hc : EE K tc ρ r (.int z)) : EE K (tChain (rI0 fun i j => .bl (g i j)) (rI0 fun i j => .bl (g' i j)) ta tb tc) ρ r3 (.bl (g x y && g' y z)) := fun B Hf H σ e Q q =>
  ha B Hf H σ e _ fun v Hf1 H1 g1 dv => hb B Hf1 H1 σ (e.grow g1) _ fun w Hf2 H2 g2 dw => by
    have ev := dv.int_inv
    have ew := dw.int_inv
    subst ev; subst ew
    refine ⟨x, y, rfl, rfl, g x y, rfl, ?_⟩
    cases hg : g x y with
    | true =>
      rw [if_pos rfl]
      refine hc B Hf2 H2 σ ((e.grow g1).grow g2) _ fun w' Hf3 H3 g3 dw' => ?_
      have ew' := dw'.int_inv
      subst ew'
      refine ⟨y, z, rfl, rfl, q _ Hf3 H3 ((g1.trans g2).trans g3) ?_⟩
      rw [hg]; exact .bl _
    | false =>
      rw [if_neg Bool.false_ne_true]
      refine q _ Hf2 H2 (g1.trans g2) ?_
      rw [hg]; exact .bl _
theorem o_isB {i j : Bool} : Op2 K rIsB r1 (.bl i) r2 (.bl j) r3 (.bl (decide (i = j))) := fun B Hf H x y _ ef dx dy Q q => by
  have ex := dx.bl_inv
  have ey := dy.bl_inv
  subst ex; subst ey
  exact ⟨i, j, rfl, rfl, q _ _ _ (Grow.refl ef) (.bl _)⟩
end
end PL

end
section
set_option maxRecDepth 100000
set_option maxHeartbeats 4000000
namespace PL
open PySem PySem.Spec PyProof.Rows L2 Evl
def topS (i : Nat) : Stmt := PySem.Challenge.pw_everyfuture_k02_common_stretches.main.body.getD i (.Pass ⟨0, 0, 0, 0⟩)
abbrev s__law_draw : Stmt := topS 4
abbrev N__law_draw : List Str := ["_law_script", "_law_place", "_law_step", "_law_size", "_law_cell", "_law_left", "_law_turn", "_law_mixed"]
abbrev p__law_draw : List Str := ["_law_script", "_law_place", "_law_step", "_law_size"]
theorem sc__law_draw : FnScope N__law_draw p__law_draw (defScope s__law_draw) := ⟨rfl, rfl, rfl, by decide +kernel, rfl, by decide +kernel, by decide +kernel⟩
abbrev s__law_is_integer : Stmt := topS 5
abbrev N__law_is_integer : List Str := ["_law_told"]
abbrev p__law_is_integer : List Str := ["_law_told"]
theorem sc__law_is_integer : FnScope N__law_is_integer p__law_is_integer (defScope s__law_is_integer) := ⟨rfl, rfl, rfl, by decide +kernel, rfl, by decide +kernel, by decide +kernel⟩
abbrev s__law_in : Stmt := topS 8
abbrev N__law_in : List Str := ["_law_rows", "_law_number", "_law_row"]
abbrev p__law_in : List Str := ["_law_rows", "_law_number"]
theorem sc__law_in : FnScope N__law_in p__law_in (defScope s__law_in) := ⟨rfl, rfl, rfl, by decide +kernel, rfl, by decide +kernel, by decide +kernel⟩
abbrev s__law_list : Stmt := topS 6
abbrev N__law_list : List Str := ["_law_script", "_law_place", "_law_shape", "_law_many", "_law_at", "_law_rows", "_law_k", "_law_length", "_law_gap", "_law_great"]
abbrev p__law_list : List Str := ["_law_script", "_law_place", "_law_shape"]
theorem sc__law_list : FnScope N__law_list p__law_list (defScope s__law_list) := ⟨rfl, rfl, rfl, by decide +kernel, rfl, by decide +kernel, by decide +kernel⟩
abbrev s__law_near : Stmt := topS 7
abbrev N__law_near : List Str := ["_law_script", "_law_place", "_law_rows", "_law_near_here", "_law_k", "_law_start", "_law_end"]
abbrev p__law_near : List Str := ["_law_script", "_law_place", "_law_rows"]
theorem sc__law_near : FnScope N__law_near p__law_near (defScope s__law_near) := ⟨rfl, rfl, rfl, by decide +kernel, rfl, by decide +kernel, by decide +kernel⟩
abbrev s__law_common : Stmt := topS 9
abbrev N__law_common : List Str := ["_law_first", "_law_second", "_law_told", "_law_k", "_law_row", "_law_number", "_law_due"]
abbrev p__law_common : List Str := ["_law_first", "_law_second", "_law_told"]
theorem sc__law_common : FnScope N__law_common p__law_common (defScope s__law_common) := ⟨rfl, rfl, rfl, by decide +kernel, rfl, by decide +kernel, by decide +kernel⟩
abbrev s_common_stretches : Stmt := topS 1
abbrev N_common_stretches : List Str := ["first", "second", "pairs", "low", "high", "start", "end"]
abbrev p_common_stretches : List Str := ["first", "second"]
theorem sc_common_stretches : FnScope N_common_stretches p_common_stretches (defScope s_common_stretches) := ⟨rfl, rfl, rfl, by decide +kernel, rfl, by decide +kernel, by decide +kernel⟩
abbrev s_has_number : Stmt := topS 2
abbrev N_has_number : List Str := ["stretches", "number", "low", "high"]
abbrev p_has_number : List Str := ["stretches", "number"]
theorem sc_has_number : FnScope N_has_number p_has_number (defScope s_has_number) := ⟨rfl, rfl, rfl, by decide +kernel, rfl, by decide +kernel, by decide +kernel⟩
abbrev s__law_has : Stmt := topS 10
abbrev N__law_has : List Str := ["_law_rows", "_law_others", "_law_passed", "_law_numbers", "_law_row", "_law_number", "_law_told"]
abbrev p__law_has : List Str := ["_law_rows", "_law_others"]
theorem sc__law_has : FnScope N__law_has p__law_has (defScope s__law_has) := ⟨rfl, rfl, rfl, by decide +kernel, rfl, by decide +kernel, by decide +kernel⟩
abbrev s_law : Stmt := topS 11
abbrev N_law : List Str := ["_law_script", "_law_shape", "_law_first", "_law_second", "_law_one", "_law_two", "_law_told", "_law_again", "_law_more"]
abbrev p_law : List Str := ["_law_script"]
theorem sc_law : FnScope N_law p_law (defScope s_law) := ⟨rfl, rfl, rfl, by decide +kernel, rfl, by decide +kernel, by decide +kernel⟩
structure Txt (mg : Str → Option Value) : Prop where
  «any» : mg "any" = none
  «bool» : mg "bool" = none
  «int» : mg "int" = none
  «isinstance» : mg "isinstance" = none
  «len» : mg "len" = none
  «list» : mg "list" = none
  «max» : mg "max" = none
  «min» : mg "min" = none
  «range» : mg "range" = none
  «tuple» : mg "tuple" = none
end PL

end
section
set_option maxRecDepth 100000
set_option maxHeartbeats 4000000
namespace PL
open PySem PySem.Spec PyProof.Rows L2 Evl
theorem map_erase {α β : Type} (f : α → β) : ∀ (l : List α) (i : Nat), (l.eraseIdx i).map f = (l.map f).eraseIdx i
  | [], _ => rfl
  | _ :: _, 0 => rfl
  | a :: l, i + 1 => by
    show f a :: (l.eraseIdx i).map f = f a :: (l.map f).eraseIdx i
    rw [map_erase f l i]
/-! data of rows: their equality -/
theorem canlay_rows : ∀ rs : List (Int × Int), PyData.canLayAll0 (toPyA (dRows rs)) = true
  | [] => rfl
  | r :: rs => by
    show PyData.canLayAll0 (toPy (dRow r) :: toPyA (dRows rs)) = true
    simp only [PyData.canLayAll0, canlay_rows rs, Bool.and_true]
    rfl
theorem depth_rows : ∀ rs : List (Int × Int), PyData.depthAll (toPyA (dRows rs)) ≤ 1
  | [] => Nat.zero_le _
  | r :: rs => by
    show PyData.depthAll (toPy (dRow r) :: toPyA (dRows rs)) ≤ 1
    simp only [PyData.depthAll]
    exact Nat.max_le.mpr ⟨by show 1 ≤ 1; exact Nat.le_refl _, depth_rows rs⟩
theorem shaped_rows (rs : List (Int × Int)) : SeqAt.shaped (toPy (.lst (dRows rs))) = true := by
  have h1 := canlay_rows rs
  have h2 := depth_rows rs
  unfold SeqAt.shaped
  rw [Bool.and_eq_true]
  refine ⟨h1, decide_eq_true ?_⟩
  show PyData.depthAll (toPyA (dRows rs)) + 1 ≤ 64
  omega
theorem eqv_rows (rs : List (Int × Int)) : PyData.eqv (toPy (.lst (dRows rs))) (toPy (.lst (dRows rs))) = true := SeqAt.eqv_refl _ (canlay_rows rs)
theorem dRows_len (rs : List (Int × Int)) : (dRows rs).length = rs.length := List.length_map ..
theorem dRows_at {rs : List (Int × Int)} {k : Nat} {r : Int × Int} (h : rs[k]? = some r) : (dRows rs)[k]? = some (dRow r) := by
  unfold dRows; rw [List.getElem?_map, h]; rfl
theorem atI_rows {rs : List (Int × Int)} {k : Nat} {r : Int × Int} (h : rs[k]? = some r) : atI (dRows rs) (k : Int) = some (dRow r) := atI_nat (dRows_at h)
theorem atI_rows_last {rs : List (Int × Int)} {r : Int × Int} (h : rs.getLast? = some r) : atI (dRows rs) (-1) = some (dRow r) := by
  obtain ⟨ys, rfl⟩ := List.getLast?_eq_some_iff.mp h
  have e : dRows (ys ++ [r]) = dRows ys ++ [dRow r] := by unfold dRows; rw [List.map_append]; rfl
  rw [e]
  exact atI_last _ _
def covR (rs : List (Int × Int)) (x : Int) : Prop := ∃ r ∈ rs, r.1 ≤ x ∧ x ≤ r.2
structure Good (out : List (Int × Int)) : Prop where
  up : ∀ r ∈ out, r.1 ≤ r.2
  ap : out.Pairwise fun a b => a.2 + 2 ≤ b.1
theorem good_nil : Good [] := ⟨(fun r h => nomatch h), List.Pairwise.nil⟩
theorem good_snoc {o : List (Int × Int)} {l : Int × Int} (h : Good o) (hl : l.1 ≤ l.2) (ha : ∀ a ∈ o, a.2 + 2 ≤ l.1) : Good (o ++ [l]) := by
  refine ⟨fun r hr => ?_, ?_⟩
  · rcases List.mem_append.mp hr with hr | hr
    · exact h.up r hr
    · rw [List.mem_singleton.mp hr]; exact hl
  · refine List.pairwise_append.mpr ⟨h.ap, List.pairwise_singleton _ _, fun a ma b mb => ?_⟩
    rw [List.mem_singleton.mp mb]; exact ha a ma
theorem dRows_snoc (rs : List (Int × Int)) (r : Int × Int) : dRows rs ++ [dRow r] = dRows (rs ++ [r]) := by unfold dRows; rw [List.map_append]; rfl
theorem dRows_app (rs qs : List (Int × Int)) : dRows rs ++ dRows qs = dRows (rs ++ qs) := by unfold dRows; rw [List.map_append]
/-- one more stretch behind all: lo, hi are bounds of the whole -/
structure Tidy (B : Int) (out : List (Int × Int)) : Prop where
  good : Good out
  lo : ∀ r ∈ out, -B ≤ r.1
  hi : ∀ r ∈ out, r.2 ≤ B
/-- the drawn lists -/
def lenN (ns : List Int) (pl sh : Int) (k : Nat) : Int := if sh = 2 ∧ draw ns pl (3 * (k : Int) + 4) 4 = 0 then draw ns pl (3 * (k : Int) + 2) 7 + 10 ^ (17 : Int).toNat else draw ns pl (3 * (k : Int) + 2) 7
def gapN (ns : List Int) (pl sh : Int) (k : Nat) : Int := if sh = 3 ∧ draw ns pl (3 * (k : Int) + 4) 4 = 0 then 1 + draw ns pl (3 * (k : Int) + 3) 4 + 10 ^ (56 : Int).toNat else 1 + draw ns pl (3 * (k : Int) + 3) 4
def listSt (ns : List Int) (pl sh : Int) : Nat → Int × List (Int × Int)
  | 0 => (draw ns pl 1 41 - 20, [])
  | k + 1 =>
    let s := listSt ns pl sh k
    (s.1 + lenN ns pl sh k + 1 + gapN ns pl sh k, s.2 ++ [(s.1, s.1 + lenN ns pl sh k)])
theorem p17 : (10 : Int) ^ (17 : Int).toNat = 100000000000000000 := by decide
theorem p56 : (10 : Int) ^ (56 : Int).toNat = 100000000000000000000000000000000000000000000000000000000 := by decide
theorem p58 : (10 : Int) ^ (58 : Int).toNat = 10000000000000000000000000000000000000000000000000000000000 := by decide
theorem p59 : (10 : Int) ^ (59 : Int).toNat = 100000000000000000000000000000000000000000000000000000000000 := by decide
theorem lenN_b (ns : List Int) (pl sh : Int) (k : Nat) : 0 ≤ lenN ns pl sh k ∧ lenN ns pl sh k ≤ 200000000000000000 := by
  have h := draw_lt (ns := ns) (pl := pl) (st := 3 * (k : Int) + 2) (sz := 7) (by omega)
  unfold lenN
  rw [p17]
  split <;> omega
theorem gapN_b (ns : List Int) (pl sh : Int) (k : Nat) : 1 ≤ gapN ns pl sh k ∧ gapN ns pl sh k ≤ 100000000000000000000000000000000000000000000000000000010 := by
  have h := draw_lt (ns := ns) (pl := pl) (st := 3 * (k : Int) + 3) (sz := 4) (by omega)
  unfold gapN
  rw [p56]
  split <;> omega
theorem listSt_ok (ns : List Int) (pl sh : Int) : ∀ k : Nat, Good (listSt ns pl sh k).2 ∧ (listSt ns pl sh k).2.length = k ∧ -20 ≤ (listSt ns pl sh k).1 ∧ (listSt ns pl sh k).1 ≤ 20 + 200000000000000000000000000000000000000000000000000000000 * (k : Int) ∧ ∀ r ∈ (listSt ns pl sh k).2, -20 ≤ r.1 ∧ r.2 + 2 ≤ (listSt ns pl sh k).1
  | 0 => by
    have h := draw_lt (ns := ns) (pl := pl) (st := 1) (sz := 41) (by omega)
    refine ⟨good_nil, rfl, ?_, ?_, fun r h => nomatch h⟩
    · show -20 ≤ draw ns pl 1 41 - 20; omega
    · show draw ns pl 1 41 - 20 ≤ _; omega
  | k + 1 => by
    obtain ⟨h1, h2, h3, h4, h5⟩ := listSt_ok ns pl sh k
    have a := lenN_b ns pl sh k
    have b := gapN_b ns pl sh k
    show Good ((listSt ns pl sh k).2 ++ [((listSt ns pl sh k).1, (listSt ns pl sh k).1 + lenN ns pl sh k)]) ∧ ((listSt ns pl sh k).2 ++ [_]).length = k + 1 ∧ -20 ≤ (listSt ns pl sh k).1 + lenN ns pl sh k + 1 + gapN ns pl sh k ∧ (listSt ns pl sh k).1 + lenN ns pl sh k + 1 + gapN ns pl sh k ≤ _ ∧ ∀ r ∈ ((listSt ns pl sh k).2 ++ [((listSt ns pl sh k).1, (listSt ns pl sh k).1 + lenN ns pl sh k)]), -20 ≤ r.1 ∧ r.2 + 2 ≤ (listSt ns pl sh k).1 + lenN ns pl sh k + 1 + gapN ns pl sh k
    generalize listSt ns pl sh k = s at *
    refine ⟨good_snoc h1 (show s.1 ≤ s.1 + _ by omega) fun a ha => (h5 a ha).2, by rw [List.length_append, h2]; rfl, by omega, by omega, fun r hr => ?_⟩
    rcases List.mem_append.mp hr with hr | hr
    · have := h5 r hr; omega
    · rw [List.mem_singleton.mp hr]
      show -20 ≤ s.1 ∧ s.1 + _ + 2 ≤ _
      omega
def manyL (ns : List Int) (pl : Int) : Int := if draw ns pl 58 16 = 0 then 12 + draw ns pl 59 7 else draw ns pl 0 7
theorem manyL_ok (ns : List Int) (pl : Int) : 0 ≤ manyL ns pl ∧ manyL ns pl ≤ 18 := by
  have h1 := draw_lt (ns := ns) (pl := pl) (st := 59) (sz := 7) (by omega)
  have h2 := draw_lt (ns := ns) (pl := pl) (st := 0) (sz := 7) (by omega)
  unfold manyL
  split <;> omega
def listN (ns : List Int) (pl sh : Int) : List (Int × Int) := (listSt ns pl sh (manyL ns pl).toNat).2
abbrev big : Int := 4000000000000000000000000000000000000000000000000000000000
theorem listN_ok (ns : List Int) (pl sh : Int) : Tidy (big - 1) (listN ns pl sh) ∧ (listN ns pl sh).length ≤ 18 := by
  have h := listSt_ok ns pl sh (manyL ns pl).toNat
  have m := manyL_ok ns pl
  obtain ⟨h1, h2, h3, h4, h5⟩ := h
  refine ⟨⟨h1, fun r hr => ?_, fun r hr => ?_⟩, ?_⟩
  · have := h5 r hr; unfold big; omega
  · have := h5 r hr; unfold big; omega
  · unfold listN; rw [h2]; omega
/-- near to a list -/
def nearSt (ns : List Int) (pl : Int) (rs : List (Int × Int)) : Nat → List (Int × Int)
  | 0 => []
  | k + 1 =>
    let o := nearSt ns pl rs k
    let a := (rs.getD k (0, 0)).1 + draw ns pl (2 * (k : Int)) 3 - 1
    let b := (rs.getD k (0, 0)).2 + draw ns pl (2 * (k : Int) + 1) 3 - 1
    if a ≤ b ∧ (o.length = 0 ∨ (o.getLast?.getD (0, 0)).2 + 2 ≤ a) then o ++ [(a, b)] else o
theorem nearSt_succ (ns : List Int) (pl : Int) (rs : List (Int × Int)) (k : Nat) : nearSt ns pl rs (k + 1) =
    if (rs.getD k (0, 0)).1 + draw ns pl (2 * (k : Int)) 3 - 1 ≤ (rs.getD k (0, 0)).2 + draw ns pl (2 * (k : Int) + 1) 3 - 1 ∧ ((nearSt ns pl rs k).length = 0 ∨ ((nearSt ns pl rs k).getLast?.getD (0, 0)).2 + 2 ≤ (rs.getD k (0, 0)).1 + draw ns pl (2 * (k : Int)) 3 - 1) then nearSt ns pl rs k ++ [((rs.getD k (0, 0)).1 + draw ns pl (2 * (k : Int)) 3 - 1, (rs.getD k (0, 0)).2 + draw ns pl (2 * (k : Int) + 1) 3 - 1)] else nearSt ns pl rs k := rfl
def nearN (ns : List Int) (pl : Int) (rs : List (Int × Int)) : List (Int × Int) := nearSt ns pl rs rs.length
theorem good_last {o : List (Int × Int)} (h : Good o) {x : Int} (hx : o.length = 0 ∨ (o.getLast?.getD (0, 0)).2 + 2 ≤ x) : ∀ a ∈ o, a.2 + 2 ≤ x := fun a ha => by
  rcases hx with hx | hx
  · rw [List.length_eq_zero_iff.mp hx] at ha; nomatch ha
  · cases e : o.getLast? with
    | none => rw [List.getLast?_eq_none_iff.mp e] at ha; nomatch ha
    | some l =>
      obtain ⟨ys, rfl⟩ := List.getLast?_eq_some_iff.mp e
      rw [e] at hx
      have hx' : l.2 + 2 ≤ x := hx
      rcases List.mem_append.mp ha with ha | ha
      · have p := (List.pairwise_append.mp h.ap).2.2 a ha l (List.mem_singleton.mpr rfl)
        have q := h.up l (List.mem_append_right _ (List.mem_singleton.mpr rfl))
        omega
      · rw [List.mem_singleton.mp ha]; exact hx'
theorem nearSt_ok (ns : List Int) (pl : Int) {B : Int} {rs : List (Int × Int)} (t : Tidy (B - 1) rs) : ∀ k, k ≤ rs.length → Tidy B (nearSt ns pl rs k) ∧ (nearSt ns pl rs k).length ≤ k
  | 0, _ => ⟨⟨good_nil, (fun r h => nomatch h), (fun r h => nomatch h)⟩, Nat.le_refl _⟩
  | k + 1, hk => by
    obtain ⟨h1, h2⟩ := nearSt_ok ns pl t k (by omega)
    have a := draw_lt (ns := ns) (pl := pl) (st := 2 * (k : Int)) (sz := 3) (by omega)
    have b := draw_lt (ns := ns) (pl := pl) (st := 2 * (k : Int) + 1) (sz := 3) (by omega)
    have hm : rs.getD k (0, 0) ∈ rs := by
      rw [List.getD_eq_getElem?_getD, List.getElem?_eq_getElem (show k < rs.length by omega)]
      exact List.getElem_mem _
    have l1 := t.lo _ hm
    have l2 := t.hi _ hm
    unfold nearSt
    dsimp only
    generalize nearSt ns pl rs k = o at *
    generalize rs.getD k (0, 0) = r at *
    split
    · rename_i hc
      refine ⟨⟨good_snoc h1.good hc.1 (good_last h1.good hc.2), fun q hq => ?_, fun q hq => ?_⟩, by rw [List.length_append]; show o.length + 1 ≤ k + 1; omega⟩
      · rcases List.mem_append.mp hq with hq | hq
        · exact h1.lo q hq
        · rw [List.mem_singleton.mp hq]; show -B ≤ r.1 + _ - 1; omega
      · rcases List.mem_append.mp hq with hq | hq
        · exact h1.hi q hq
        · rw [List.mem_singleton.mp hq]; show r.2 + _ - 1 ≤ B; omega
    · exact ⟨h1, by omega⟩
theorem nearN_ok (ns : List Int) (pl : Int) {B : Int} {rs : List (Int × Int)} (t : Tidy (B - 1) rs) : Tidy B (nearN ns pl rs) ∧ (nearN ns pl rs).length ≤ rs.length := nearSt_ok ns pl t rs.length (Nat.le_refl _)
theorem Tidy.wide {B C : Int} {rs : List (Int × Int)} (t : Tidy B rs) (h : B ≤ C) : Tidy C rs := ⟨t.good, fun r hr => by have := t.lo r hr; omega, fun r hr => by have := t.hi r hr; omega⟩
/-- what is common -/
def pairN (a b : List (Int × Int)) : List (Int × Int) := a.flatMap fun x => b.map fun y => (max x.1 y.1, min x.2 y.2)
def comN (a b : List (Int × Int)) : List (Int × Int) := (pairN a b).filter fun p => decide (p.1 ≤ p.2)
theorem pairN_len (a b : List (Int × Int)) : (pairN a b).length = a.length * b.length := by
  unfold pairN
  induction a with
  | nil => simp
  | cons x a ih => rw [List.flatMap_cons, List.length_append, ih, List.length_map, List.length_cons, Nat.succ_mul, Nat.add_comm]
theorem comN_len (a b : List (Int × Int)) : (comN a b).length ≤ a.length * b.length := by
  have h := List.length_filter_le (fun p : Int × Int => decide (p.1 ≤ p.2)) (pairN a b)
  rw [pairN_len] at h
  exact h
theorem comN_good {a b : List (Int × Int)} (ha : Good a) (hb : Good b) : Good (comN a b) := by
  refine ⟨fun r hr => of_decide_eq_true (List.mem_filter.mp hr).2, ?_⟩
  unfold comN
  rw [List.pairwise_filter]
  unfold pairN
  rw [List.pairwise_flatMap]
  refine ⟨fun x hx => ?_, ?_⟩
  · rw [List.pairwise_map]
    refine hb.ap.imp fun {y z} hyz h1 h2 => ?_
    have h1' : max x.1 y.1 ≤ min x.2 y.2 := of_decide_eq_true h1
    have h2' : max x.1 z.1 ≤ min x.2 z.2 := of_decide_eq_true h2
    show min x.2 y.2 + 2 ≤ max x.1 z.1
    omega
  · refine ha.ap.imp fun {x y} hxy p hp q hq h1 h2 => ?_
    obtain ⟨s, _, rfl⟩ := List.mem_map.mp hp
    obtain ⟨t, _, rfl⟩ := List.mem_map.mp hq
    show min x.2 s.2 + 2 ≤ max y.1 t.1
    omega
theorem comN_cov {a b : List (Int × Int)} (x : Int) : covR (comN a b) x ↔ covR a x ∧ covR b x := by
  unfold covR comN pairN
  constructor
  · rintro ⟨r, hr, h1, h2⟩
    obtain ⟨hr, _⟩ := List.mem_filter.mp hr
    obtain ⟨p, hp, hr⟩ := List.mem_flatMap.mp hr
    obtain ⟨q, hq, rfl⟩ := List.mem_map.mp hr
    have h1' : max p.1 q.1 ≤ x := h1
    have h2' : x ≤ min p.2 q.2 := h2
    exact ⟨⟨p, hp, by omega, by omega⟩, ⟨q, hq, by omega, by omega⟩⟩
  · rintro ⟨⟨p, hp, a1, a2⟩, ⟨q, hq, b1, b2⟩⟩
    refine ⟨(max p.1 q.1, min p.2 q.2), List.mem_filter.mpr ⟨List.mem_flatMap.mpr ⟨p, hp, List.mem_map.mpr ⟨q, hq, rfl⟩⟩, decide_eq_true ?_⟩, ?_, ?_⟩
    · show max p.1 q.1 ≤ min p.2 q.2; omega
    · show max p.1 q.1 ≤ x; omega
    · show x ≤ min p.2 q.2; omega
structure FineC (a b ts : List (Int × Int)) : Prop where
  up : ∀ (k : Nat) r, ts[k]? = some r → r.1 ≤ r.2
  apart : ∀ (k : Nat) r s, ts[k]? = some r → ts[k + 1]? = some s → r.2 + 2 ≤ s.1
  same : ∀ x, covR ts x ↔ covR a x ∧ covR b x
theorem fineC {a b : List (Int × Int)} (ha : Good a) (hb : Good b) : FineC a b (comN a b) := by
  have g := comN_good ha hb
  refine ⟨fun k r h => g.up r (List.mem_of_getElem? h), fun k r s h h' => ?_, comN_cov⟩
  obtain ⟨a1, e1⟩ := List.getElem?_eq_some_iff.mp h
  obtain ⟨a2, e2⟩ := List.getElem?_eq_some_iff.mp h'
  have := List.pairwise_iff_getElem.mp g.ap k (k + 1) a1 a2 (by omega)
  rw [e1, e2] at this
  exact this
/-! promises -/
def inR (rs : List (Int × Int)) (x : Int) : Bool := rs.any fun r => decide (r.1 ≤ x) && decide (x ≤ r.2)
theorem inR_cov (rs : List (Int × Int)) (x : Int) : inR rs x = true ↔ covR rs x := by
  unfold inR covR
  rw [List.any_eq_true]
  constructor
  · rintro ⟨r, hr, h⟩
    rw [Bool.and_eq_true] at h
    exact ⟨r, hr, of_decide_eq_true h.1, of_decide_eq_true h.2⟩
  · rintro ⟨r, hr, h⟩
    exact ⟨r, hr, by rw [Bool.and_eq_true]; exact ⟨decide_eq_true h.1, decide_eq_true h.2⟩⟩
theorem drawR {ns : List Int} {pl st sz : Int} (h0 : ns.length ≤ 63) (h1 : 0 ≤ pl ∧ pl ≤ 10000) (h2 : 0 ≤ st ∧ st ≤ 10000) (h3 : 0 < sz) : DrawR [.scr ns, .int pl, .int st, .int sz] (.int (draw ns pl st sz)) := ⟨ns, pl, st, sz, rfl, h1.1, h1.2, h2.1, h2.2, h3, h0, rfl⟩
structure InR (ds : List D) (d : D) : Prop where
  ex : ∃ (rs : List (Int × Int)) (x : Int), ds = [.lst (dRows rs), .int x] ∧ d = .bl (inR rs x)
theorem inRR (rs : List (Int × Int)) (x : Int) : InR [.lst (dRows rs), .int x] (.bl (inR rs x)) := ⟨rs, x, rfl, rfl⟩
theorem InR.len {ds : List D} {d : D} (h : InR ds d) : ds.length = 2 := by obtain ⟨_, _, rfl, _⟩ := h.ex; rfl
structure IsIntR (ds : List D) (d : D) : Prop where
  ex : ∃ (x : Int), ds = [.int x] ∧ d = .bl true
theorem IsIntR.len {ds : List D} {d : D} (h : IsIntR ds d) : ds.length = 1 := by obtain ⟨_, rfl, _⟩ := h.ex; rfl
structure ListR (ds : List D) (es : List D) : Prop where
  ex : ∃ (ns : List Int) (pl sh : Int), ds = [.scr ns, .int pl, .int sh] ∧ ns.length ≤ 63 ∧ 0 ≤ pl ∧ pl ≤ 1000 ∧ es = dRows (listN ns pl sh)
theorem ListR.len {ds es : List D} (h : ListR ds es) : ds.length = 3 := by obtain ⟨_, _, _, rfl, _⟩ := h.ex; rfl
structure NearR (ds : List D) (es : List D) : Prop where
  ex : ∃ (ns : List Int) (pl : Int) (rs : List (Int × Int)), ds = [.scr ns, .int pl, .lst (dRows rs)] ∧ ns.length ≤ 63 ∧ 0 ≤ pl ∧ pl ≤ 1000 ∧ rs.length ≤ 1000 ∧ (∃ B, Tidy (B - 1) rs) ∧ es = dRows (nearN ns pl rs)
theorem NearR.len {ds es : List D} (h : NearR ds es) : ds.length = 3 := by obtain ⟨_, _, _, rfl, _⟩ := h.ex; rfl
structure LComR (ds : List D) (d : D) : Prop where
  ex : ∃ (a b ts : List (Int × Int)), ds = [.lst (dRows a), .lst (dRows b), .lst (dRows ts)] ∧ a.length ≤ 1000 ∧ b.length ≤ 1000 ∧ ts.length ≤ 1000 ∧ FineC a b ts ∧ d = .bl true
theorem LComR.len {ds : List D} {d : D} (h : LComR ds d) : ds.length = 3 := by obtain ⟨_, _, _, rfl, _⟩ := h.ex; rfl
def IsSeq (d : D) (rs : List (Int × Int)) : Prop := d = .lst (dRows rs) ∨ d = .tup (dRows rs)
structure ComR (ds : List D) (es : List D) : Prop where
  ex : ∃ (x y : D) (a b : List (Int × Int)), ds = [x, y] ∧ IsSeq x a ∧ IsSeq y b ∧ a.length ≤ 100 ∧ b.length ≤ 100 ∧ es = dRows (comN a b)
theorem ComR.len {ds es : List D} (h : ComR ds es) : ds.length = 2 := by obtain ⟨_, _, _, _, rfl, _⟩ := h.ex; rfl
structure HasR (ds : List D) (d : D) : Prop where
  ex : ∃ (x : D) (rs : List (Int × Int)) (n : Int), ds = [x, .int n] ∧ IsSeq x rs ∧ rs.length ≤ 1000 ∧ d = .bl (inR rs n)
theorem HasR.len {ds : List D} {d : D} (h : HasR ds d) : ds.length = 2 := by obtain ⟨_, _, _, rfl, _⟩ := h.ex; rfl
structure LHasR (ds : List D) (d : D) : Prop where
  ex : ∃ (a b : List (Int × Int)), ds = [.lst (dRows a), .lst (dRows b)] ∧ a.length ≤ 100 ∧ b.length ≤ 100 ∧ ¬ covR a (10 ^ (59 : Int).toNat) ∧ d = .bl true
theorem LHasR.len {ds : List D} {d : D} (h : LHasR ds d) : ds.length = 2 := by obtain ⟨_, _, rfl, _⟩ := h.ex; rfl
structure LawR (ds : List D) (d : D) : Prop where
  ex : ∃ (ns : List Int), ds = [.scr ns] ∧ ns.length ≤ 63 ∧ d = .bl true
theorem LawR.len {ds : List D} {d : D} (h : LawR ds d) : ds.length = 1 := by obtain ⟨_, rfl, _⟩ := h.ex; rfl

end PL

end
section
set_option maxRecDepth 100000
set_option maxHeartbeats 4000000
namespace PL
open PySem PySem.Spec PyProof.Rows L2 Evl
section
variable {P : Program} {w : World} {K : PySem.W.Frag} {mg : Str → Option Value} {base : Heap}

local macro_rules | `(tactic| walk_at "side") => `(tactic| first
  | omega | (exact div_ok (by omega) (by rw [two200]; omega)) | (exact mul200 (by rw [two200]; omega) (by rw [two200]; omega)) | (refine pow_ok (by omega) (by omega) (by decide)))
local macro_rules | `(tactic| walk_at "len") => `(tactic| first | exact Nat.le_of_ble_eq_true rfl | omega | (simp [dRows]; done) | (simp [dRows]; omega))
theorem ok__law_draw {f : Addr} {fd : FuncData} (F : Fun K "_law_draw" "_law_draw" s__law_draw f fd) (T : Txt mg) : FnOk P w K mg base CX0 1 f fd p__law_draw (SpN K DrawR) := by
  refine F.ok sc__law_draw (fun vs H Q E h => ?_) (fun cdv A outer s H vs Q E hr h => ?_)
  · obtain ⟨ds, d, h1, h2, _⟩ := h
    rw [h1.len]; exact DrawR.len h2
  · obtain ⟨ds, d, h1, h2, q⟩ := h
    refine ⟨_,
    (pss_cons
      (ps_set (i := 4) sc__law_draw.nd rfl (.inl rfl) (pv 1))
    (pss_cons
      (ps_if (pt_cmpR op_gt (pe_callB call_len_seq (by rfl) T.len PySem.boot_len (pa_cons (pv 0) pa_nil)) pe_int (nomark _))
        (pss_one
          (ps_set (i := 4) sc__law_draw.nd rfl (.inl rfl) (pe_op op_add (pe_ix (r := rIxL K) ix_list (pv 0) (pe_op op_mod (pe_callTy call_int1 (by rfl) T.int (by decide +kernel) (pa_cons (pv 1) pa_nil)) (pe_callB call_len_seq (by rfl) T.len PySem.boot_len (pa_cons (pv 0) pa_nil))) (fun _ _ => rfl)) (pe_op op_fdivW (pv 1) (pe_callB call_len_seq (by rfl) T.len PySem.boot_len (pa_cons (pv 0) pa_nil))))))
        pss_nil)
    (pss_cons
      (ps_if (pt_cmpR op_lt (pv 4) pe_int (nomark _))
        (pss_one
          (ps_set (i := 4) sc__law_draw.nd rfl (.inl rfl) (pe_op op_sub pe_int (pv 4))))
        pss_nil)
    (pss_cons
      (ps_set (i := 5) sc__law_draw.nd rfl (.inl rfl) (pe_op op_sub (pv 4) (pe_op op_pow pe_int pe_int)))
    (pss_cons
      (ps_for PassesOwn.never rfl (pi_range1 (by rfl) T.range (pa_cons (pv 2) pa_nil)) (pg_name (i := 6) sc__law_draw.nd rfl (.inl rfl))
        (pss_one
          (ps_if (pt_cmpR op_gt (pv 5) pe_int (nomark _))
            (pss_one
              (ps_set (i := 5) sc__law_draw.nd rfl (.inl rfl) (pe_op op_fdivW (pv 5) pe_int)))
            pss_nil)))
    (pss_cons
      (ps_if (pt_cmpR op_gt (pv 5) pe_int (nomark _))
        (pss_one
          (ps_ret (pe_op op_mod (pe_callTy call_int1 (by rfl) T.int (by decide +kernel) (pa_cons (pe_op op_mod (pe_callTy call_int1 (by rfl) T.int (by decide +kernel) (pa_cons (pv 5) pa_nil)) pe_int) pa_nil)) (pv 3))))
        pss_nil)
    (pss_cons
      (ps_set (i := 7) sc__law_draw.nd rfl (.inl rfl) (pe_op op_mod (pe_callTy call_int1 (by rfl) T.int (by decide +kernel) (pa_cons (pe_op op_add (pe_op op_add (pe_op op_add (pv 4) (pe_op op_mulW pe_int (pv 2))) (pe_op op_mulW pe_int (pv 1))) pe_int) pa_nil)) pe_int))
    (pss_cons
      (ps_set (i := 7) sc__law_draw.nd rfl (.inl rfl) (pe_op op_mod (pe_callTy call_int1 (by rfl) T.int (by decide +kernel) (pa_cons (pe_op op_mulW (pv 7) (pe_op op_add (pv 7) pe_int)) pa_nil)) pe_int))
    (pss_cons
      (ps_set (i := 7) sc__law_draw.nd rfl (.inl rfl) (pe_op op_mod (pe_callTy call_int1 (by rfl) T.int (by decide +kernel) (pa_cons (pe_op op_add (pe_op op_mulW (pv 7) (pe_op op_add (pv 7) pe_int)) (pe_op op_mulW pe_int (pv 2))) pa_nil)) pe_int))
    (pss_one
      (ps_ret (pe_op op_mod (pe_callTy call_int1 (by rfl) T.int (by decide +kernel) (pa_cons (pe_op op_fdivW (pv 7) pe_int) pa_nil)) (pv 3))))))))))))), ?_⟩
    obtain ⟨ns, pl, st, sz, rfl, a1, a2, a3, a4, a5, a6, rfl⟩ := h2.ex
    refine fin_F (r := .f) h1 (.int _) ?_ q
    refine run_seq (run_set (e_dat (i := 1) rfl)) ?_
    refine run_seq (ρ1 := [.dat (.scr ns), .dat (.int pl), .dat (.int st), .dat (.int sz), .dat (.int (cell0 ns pl)), .un, .un, .un]) (run_if (b := decide (0 < (ns.length : Int))) (t_test (e_op (r3 := .f) (e_cb (r3 := .f) (ea_cons (EE.h (e_dat (i := 0) rfl)) ea_nil) oa_lenS) (e_int (r := .f)) o_b)) (fun hb => ?_) (fun hb => ?_)) ?_
    · have hn : 0 < ns.length := by
        have := of_decide_eq_true hb
        omega
      have hk : (pl % (ns.length : Int)).toNat < ns.length := by
        have h1 := Int.emod_lt_of_pos pl (show (0 : Int) < ns.length by omega)
        have h2 := Int.emod_nonneg pl (show (ns.length : Int) ≠ 0 by omega)
        omega
      have hx : atI ns (pl % (ns.length : Int)) = some (ns.getD (pl % (ns.length : Int)).toNat 0) := by
        have h2 := Int.emod_nonneg pl (show (ns.length : Int) ≠ 0 by omega)
        have e : pl % (ns.length : Int) = (((pl % (ns.length : Int)).toNat : Nat) : Int) := by omega
        rw [e]
        exact atI_nat (by rw [Int.toNat_natCast, List.getD_eq_getElem?_getD, List.getElem?_eq_getElem hk]; rfl)
      refine Run.to (run_set (e_op (r3 := .f) (e_op (r3 := .f) (e_dat (i := 0) rfl) (e_op (r3 := .f) (e_cb (r3 := .f) (ea_cons (e_dat (i := 1) rfl) ea_nil) oa_int) (e_cb (r3 := .f) (ea_cons (EE.h (e_dat (i := 0) rfl)) ea_nil) oa_lenS) (o_ic (by walk_at "side"))) (o_ixS hx)) (e_op (r3 := .f) (e_dat (i := 1) rfl) (e_cb (r3 := .f) (ea_cons (EE.h (e_dat (i := 0) rfl)) ea_nil) oa_lenS) (o_ic (by walk_at "side"))) o_i)) ?_
      have e : cell0 ns pl = ns.getD (pl % (ns.length : Int)).toNat 0 + pl / (ns.length : Int) := if_pos hn
      rw [e]; rfl
    · have hn : ¬ 0 < ns.length := by
        have := of_decide_eq_false hb
        omega
      refine Run.to run_next ?_
      have e : cell0 ns pl = pl := if_neg hn
      rw [e]; rfl
    refine run_seq (ρ1 := [.dat (.scr ns), .dat (.int pl), .dat (.int st), .dat (.int sz), .dat (.int (cell1 (cell0 ns pl))), .un, .un, .un]) (run_if (b := decide (cell0 ns pl < 0)) (t_test (e_op (r3 := .f) (e_dat (i := 4) rfl) (e_int (r := .f)) o_b)) (fun hb => ?_) (fun hb => ?_)) ?_
    · refine Run.to (run_set (e_op (r3 := .f) (e_int (r := .f)) (e_dat (i := 4) rfl) o_i)) ?_
      have e : cell1 (cell0 ns pl) = 0 - cell0 ns pl := if_pos (of_decide_eq_true hb)
      rw [e]; rfl
    · refine Run.to run_next ?_
      have e : cell1 (cell0 ns pl) = cell0 ns pl := if_neg (of_decide_eq_false hb)
      rw [e]
    refine run_seq (run_set (e_op (r3 := .f) (e_dat (i := 4) rfl) (e_op (r3 := .f) (e_int (r := .f)) (e_int (r := .f)) (o_ic (by walk_at "side"))) o_i)) ?_
    refine run_thru (src_range1 (ea_cons (e_dat (i := 2) rfl) ea_nil) (by omega)) (fun k _ => puts_int) (fun k ρ => ∃ s, ρ = [.dat (.scr ns), .dat (.int pl), .dat (.int st), .dat (.int sz), .dat (.int (cell1 (cell0 ns pl))), .dat (.int (leftN k (cell1 (cell0 ns pl) - 10 ^ (18 : Int).toNat))), s, .un]) ⟨_, rfl⟩ ?_ ?_
    · intro k ρ hk hI
      obtain ⟨s, rfl⟩ := hI
      refine ⟨_, ⟨.dat (.int (0 + (k : Int))), rfl⟩, ?_⟩
      rw [leftN_succ]
      generalize leftN k _ = l
      refine run_if (b := decide (0 < l)) (t_test (e_op (r3 := .f) (e_dat (i := 5) rfl) (e_int (r := .f)) o_b)) (fun hb => ?_) (fun hb => ?_)
      · rw [if_pos (of_decide_eq_true hb)]
        exact run_set (e_op (r3 := .f) (e_dat (i := 5) rfl) (e_int (r := .f)) (o_ic (by walk_at "side")))
      · rw [if_neg (of_decide_eq_false hb)]
        exact run_next
    · intro ρ hI
      obtain ⟨s, rfl⟩ := hI
      have e0 : draw ns pl st sz = (if 0 < leftN st.toNat (cell1 (cell0 ns pl) - 10 ^ (18 : Int).toNat) then (leftN st.toNat (cell1 (cell0 ns pl) - 10 ^ (18 : Int).toNat) % 1000) % sz else (mix (cell1 (cell0 ns pl)) pl st / 9) % sz) := rfl
      rw [e0]
      generalize leftN st.toNat _ = l
      generalize cell1 (cell0 ns pl) = c
      refine run_seq_if (b := decide (0 < l)) (t_test (e_op (r3 := .f) (e_dat (i := 5) rfl) (e_int (r := .f)) o_b)) trivial (fun hb => ?_) (fun hb => ?_)
      · rw [if_pos (of_decide_eq_true hb)]
        exact run_ret (e_op (r3 := .f) (e_cb (r3 := .f) (ea_cons (e_op (r3 := .f) (e_cb (r3 := .f) (ea_cons (e_dat (i := 5) rfl) ea_nil) oa_int) (e_int (r := .f)) (o_ic (by walk_at "side"))) ea_nil) oa_int) (e_dat (i := 3) rfl) (o_ic (by walk_at "side")))
      · rw [if_neg (of_decide_eq_false hb)]
        refine run_seq (run_set (e_op (r3 := .f) (e_cb (r3 := .f) (ea_cons (e_op (r3 := .f) (e_op (r3 := .f) (e_op (r3 := .f) (e_dat (i := 4) rfl) (e_op (r3 := .f) (e_int (r := .f)) (e_dat (i := 2) rfl) (o_ic (by walk_at "side"))) o_i) (e_op (r3 := .f) (e_int (r := .f)) (e_dat (i := 1) rfl) (o_ic (by walk_at "side"))) o_i) (e_int (r := .f)) o_i) ea_nil) oa_int) (e_int (r := .f)) (o_ic (by walk_at "side")))) ?_
        have b1 := Int.emod_nonneg (c + 7919 * st + 104729 * pl + 13) (show (2147483647 : Int) ≠ 0 by omega)
        have b2 := Int.emod_lt_of_pos (c + 7919 * st + 104729 * pl + 13) (show (0 : Int) < 2147483647 by omega)
        unfold mix
        dsimp only
        generalize (c + 7919 * st + 104729 * pl + 13) % 2147483647 = m1 at b1 b2 ⊢
        refine run_seq (run_set (e_op (r3 := .f) (e_cb (r3 := .f) (ea_cons (e_op (r3 := .f) (e_dat (i := 7) rfl) (e_op (r3 := .f) (e_dat (i := 7) rfl) (e_int (r := .f)) o_i) (o_ic (by walk_at "side"))) ea_nil) oa_int) (e_int (r := .f)) (o_ic (by walk_at "side")))) ?_
        have b3 := Int.emod_nonneg (m1 * (m1 + 48271)) (show (2147483629 : Int) ≠ 0 by omega)
        have b4 := Int.emod_lt_of_pos (m1 * (m1 + 48271)) (show (0 : Int) < 2147483629 by omega)
        generalize m1 * (m1 + 48271) % 2147483629 = m2 at b3 b4 ⊢
        refine run_seq (run_set (e_op (r3 := .f) (e_cb (r3 := .f) (ea_cons (e_op (r3 := .f) (e_op (r3 := .f) (e_dat (i := 7) rfl) (e_op (r3 := .f) (e_dat (i := 7) rfl) (e_int (r := .f)) o_i) (o_ic (by walk_at "side"))) (e_op (r3 := .f) (e_int (r := .f)) (e_dat (i := 2) rfl) (o_ic (by walk_at "side"))) o_i) ea_nil) oa_int) (e_int (r := .f)) (o_ic (by walk_at "side")))) ?_
        exact run_ret (e_op (r3 := .f) (e_cb (r3 := .f) (ea_cons (e_op (r3 := .f) (e_dat (i := 7) rfl) (e_int (r := .f)) (o_ic (by walk_at "side"))) ea_nil) oa_int) (e_dat (i := 3) rfl) (o_ic (by walk_at "side")))

theorem ok__law_is_integer {f : Addr} {fd : FuncData} (F : Fun K "_law_is_integer" "_law_is_integer" s__law_is_integer f fd) (T : Txt mg) : FnOk P w K mg base CX0 1 f fd p__law_is_integer (SpN K IsIntR) := by
  refine F.ok sc__law_is_integer (fun vs H Q E h => ?_) (fun cdv A outer s H vs Q E hr h => ?_)
  · obtain ⟨ds, d, h1, h2, _⟩ := h
    rw [h1.len]; exact IsIntR.len h2
  · obtain ⟨ds, d, h1, h2, q⟩ := h
    refine ⟨_,
    (pss_one
      (ps_ret (pe_and (pe_callB call_isi (by rfl) T.isinstance (by decide +kernel) (pa_cons (pv 0) (pa_cons (pe_bltn (v := .ty "int") (by rfl) T.int (by decide +kernel) rfl) pa_nil))) (pe_one (pe_not (pe_callB call_isi (by rfl) T.isinstance (by decide +kernel) (pa_cons (pv 0) (pa_cons (pe_bltn (v := .ty "bool") (by rfl) T.bool (by decide +kernel) rfl) pa_nil)))))))), ?_⟩
    obtain ⟨x, rfl, rfl⟩ := h2.ex
    refine fin_F (r := .f) h1 (.bl _) ?_ q
    exact run_ret (EE.to (e_and (r3 := .f) (e_isi (r3 := .f) (b := true) (e_dat (i := 0) rfl) (fun _ z => D.noConfusion z) (by show kitB "int" "int" = some true; decide +kernel)) (fun hb => (e_not (r3 := .f) (e_isi (r3 := .f) (b := false) (e_dat (i := 0) rfl) (fun _ z => D.noConfusion z) (by show kitB "int" "bool" = some false; decide +kernel))))) rfl)

theorem ok__law_in {f : Addr} {fd : FuncData} (F : Fun K "_law_in" "_law_in" s__law_in f fd) (T : Txt mg) : FnOk P w K mg base CX0 1 f fd p__law_in (SpN K InR) := by
  refine F.ok sc__law_in (fun vs H Q E h => ?_) (fun cdv A outer s H vs Q E hr h => ?_)
  · obtain ⟨ds, d, h1, h2, _⟩ := h
    rw [h1.len]; exact InR.len h2
  · obtain ⟨ds, d, h1, h2, q⟩ := h
    refine ⟨_,
    (pss_cons
      (ps_for PassesOwn.never rfl (pi_list (pv 0)) (pg_name (i := 2) sc__law_in.nd rfl (.inl rfl))
        (pss_one
          (ps_if (PW.pt (pw_and (pt_cmpR op_le (pe_ix (r := rIxT K) ix_tup (pv 2) pe_int (fun _ _ => rfl)) (pv 1) (nomark _)) (pw_and1 (pt_cmpR op_le (pv 1) (pe_ix (r := rIxT K) ix_tup (pv 2) pe_int (fun _ _ => rfl)) (nomark _)))))
            (pss_one
              (ps_ret pe_bl))
            pss_nil)))
    (pss_one
      (ps_ret pe_bl))), ?_⟩
    obtain ⟨rs, x, rfl, rfl⟩ := h2.ex
    refine fin_F (r := .f) h1 (.bl _) ?_ q
    have hl : (dRows rs).length = rs.length := by simp [dRows]
    refine run_find (src_list (q := .f) (e_dat rfl)) (fun k _ => puts_name) (fun _ ρ => ∃ s, ρ = [.dat (.lst (dRows rs)), .dat (.int x), s]) (fun k => decide ((rs.getD k (0, 0)).1 ≤ x) && decide (x ≤ (rs.getD k (0, 0)).2)) (fun _ => .rt .f (.bl true)) (fun _ => .inl ⟨_, _, rfl⟩) ⟨.un, rfl⟩ ?_ ?_ ?_
    · intro k ρ hk hI
      obtain ⟨s, rfl⟩ := hI
      rw [hl] at hk
      have e : putF (dRows rs) 2 k [.dat (.lst (dRows rs)), .dat (.int x), s] = [.dat (.lst (dRows rs)), .dat (.int x), .dat (dRow (rs.getD k (0, 0)))] := by
        show [Sl.dat _, Sl.dat (.int x), Sl.dat ((dRows rs).getD k .non)] = _
        rw [dRows_get hk]
      rw [e]
      generalize rs.getD k (0, 0) = r
      refine ⟨fun h => run_if (b := decide (r.1 ≤ x) && decide (x ≤ r.2)) (t_and (t_test (e_op (r3 := .f) (e_op (r3 := .f) (e_dat (i := 2) rfl) (e_int (r := .f)) (o_ixTs (d := .int _) rfl (.int _))) (e_dat (i := 1) rfl) o_b)) (fun hb => (t_test (e_op (r3 := .f) (e_dat (i := 1) rfl) (e_op (r3 := .f) (e_dat (i := 2) rfl) (e_int (r := .f)) (o_ixTs (d := .int _) rfl (.int _))) o_b)))) (fun _ => run_ret e_bl) (fun z => by rw [h] at z; cases z), fun h => ⟨_, ⟨_, rfl⟩, run_if (b := decide (r.1 ≤ x) && decide (x ≤ r.2)) (t_and (t_test (e_op (r3 := .f) (e_op (r3 := .f) (e_dat (i := 2) rfl) (e_int (r := .f)) (o_ixTs (d := .int _) rfl (.int _))) (e_dat (i := 1) rfl) o_b)) (fun hb => (t_test (e_op (r3 := .f) (e_dat (i := 1) rfl) (e_op (r3 := .f) (e_dat (i := 2) rfl) (e_int (r := .f)) (o_ixTs (d := .int _) rfl (.int _))) o_b)))) (fun z => by rw [h] at z; cases z) fun _ => run_next⟩⟩
    · intro j hj h _
      have e : inR rs x = true := by
        unfold inR
        rw [List.any_eq_true]
        rw [hl] at hj
        refine ⟨rs[j], List.getElem_mem hj, ?_⟩
        rw [List.getD_eq_getElem?_getD, List.getElem?_eq_getElem hj] at h
        exact h
      rw [e]
    · intro a ρ' hI
      obtain ⟨s, rfl⟩ := hI
      have e : inR rs x = false := by
        unfold inR
        rw [List.any_eq_false]
        intro r hr
        obtain ⟨j, hj, e⟩ := List.getElem_of_mem hr
        have := a j (by rw [hl]; exact hj)
        rw [List.getD_eq_getElem?_getD, List.getElem?_eq_getElem hj, Option.getD_some, e] at this
        rw [this]
        exact Bool.false_ne_true
      rw [e]
      exact run_ret e_bl

end
end PL

end
section
set_option maxRecDepth 100000
set_option maxHeartbeats 4000000
namespace PL
open PySem PySem.Spec PyProof.Rows L2 Evl
section
variable {P : Program} {w : World} {K : PySem.W.Frag} {mg : Str → Option Value} {base : Heap}

local macro_rules | `(tactic| walk_at "side") => `(tactic| first
  | omega | (exact div_ok (by omega) (by rw [two200]; omega)) | (exact mul200 (by rw [two200]; omega) (by rw [two200]; omega)) | (refine pow_ok (by omega) (by omega) (by decide)))
local macro_rules | `(tactic| walk_at "len") => `(tactic| first | exact Nat.le_of_ble_eq_true rfl | omega | (simp [dRows]; done) | (simp [dRows]; omega))
theorem ok__law_list {f : Addr} {fd : FuncData} (F : Fun K "_law_list" "_law_list" s__law_list f fd) (T : Txt mg) (c_law_draw : Has P w K mg base "_law_draw" 1 p__law_draw (SpN K DrawR)) : FnOk P w K mg base CX0 2 f fd p__law_list (SpL K ListR) := by
  refine F.ok sc__law_list (fun vs H Q E h => ?_) (fun cdv A outer s H vs Q E hr h => ?_)
  · obtain ⟨ds, d, h1, h2, _⟩ := h
    rw [h1.len]; exact ListR.len h2
  · obtain ⟨ds, d, h1, h2, q⟩ := h
    refine ⟨_,
    (pss_cons
      (ps_set (i := 3) sc__law_list.nd rfl (.inl rfl) (pe_callH c_law_draw hr (by decide) (by rfl) (pa_cons (pv 0) (pa_cons (pv 1) (pa_cons pe_int (pa_cons pe_int pa_nil))))))
    (pss_cons
      (ps_if (pt_cmpR op_eq (pe_callH c_law_draw hr (by decide) (by rfl) (pa_cons (pv 0) (pa_cons (pv 1) (pa_cons pe_int (pa_cons pe_int pa_nil))))) pe_int (nomark _))
        (pss_one
          (ps_set (i := 3) sc__law_list.nd rfl (.inl rfl) (pe_op op_add pe_int (pe_callH c_law_draw hr (by decide) (by rfl) (pa_cons (pv 0) (pa_cons (pv 1) (pa_cons pe_int (pa_cons pe_int pa_nil))))))))
        pss_nil)
    (pss_cons
      (ps_set (i := 4) sc__law_list.nd rfl (.inl rfl) (pe_op op_sub (pe_callH c_law_draw hr (by decide) (by rfl) (pa_cons (pv 0) (pa_cons (pv 1) (pa_cons pe_int (pa_cons pe_int pa_nil))))) pe_int))
    (pss_cons
      (ps_set (i := 5) sc__law_list.nd rfl (.inl rfl) (pe_lst pa_nil))
    (pss_cons
      (ps_for PassesOwn.never rfl (pi_range1 (by rfl) T.range (pa_cons (pv 3) pa_nil)) (pg_name (i := 6) sc__law_list.nd rfl (.inl rfl))
        (pss_cons
          (ps_set (i := 7) sc__law_list.nd rfl (.inl rfl) (pe_callH c_law_draw hr (by decide) (by rfl) (pa_cons (pv 0) (pa_cons (pv 1) (pa_cons (pe_op op_add (pe_op op_mulW pe_int (pv 6)) pe_int) (pa_cons pe_int pa_nil))))))
        (pss_cons
          (ps_set (i := 8) sc__law_list.nd rfl (.inl rfl) (pe_op op_add pe_int (pe_callH c_law_draw hr (by decide) (by rfl) (pa_cons (pv 0) (pa_cons (pv 1) (pa_cons (pe_op op_add (pe_op op_mulW pe_int (pv 6)) pe_int) (pa_cons pe_int pa_nil)))))))
        (pss_cons
          (ps_set (i := 9) sc__law_list.nd rfl (.inl rfl) (pe_callH c_law_draw hr (by decide) (by rfl) (pa_cons (pv 0) (pa_cons (pv 1) (pa_cons (pe_op op_add (pe_op op_mulW pe_int (pv 6)) pe_int) (pa_cons pe_int pa_nil))))))
        (pss_cons
          (ps_if (PW.pt (pw_and (pt_cmpR op_eq (pv 2) pe_int (nomark _)) (pw_and1 (pt_cmpR op_eq (pv 9) pe_int (nomark _)))))
            (pss_one
              (ps_set (i := 7) sc__law_list.nd rfl (.inl rfl) (pe_op op_add (pv 7) (pe_op op_pow pe_int pe_int))))
            pss_nil)
        (pss_cons
          (ps_if (PW.pt (pw_and (pt_cmpR op_eq (pv 2) pe_int (nomark _)) (pw_and1 (pt_cmpR op_eq (pv 9) pe_int (nomark _)))))
            (pss_one
              (ps_set (i := 8) sc__law_list.nd rfl (.inl rfl) (pe_op op_add (pv 8) (pe_op op_pow pe_int pe_int))))
            pss_nil)
        (pss_cons
          (ps_expr (pe_bm PySem.F.plainAttrs_list PySem.F.slot_list_append PySem.F.type_list_append mt_append (pv 5) (pa_cons (pe_tup (pa_cons (pv 4) (pa_cons (pe_op op_add (pv 4) (pv 7)) pa_nil))) pa_nil)))
        (pss_one
          (ps_set (i := 4) sc__law_list.nd rfl (.inl rfl) (pe_op op_add (pe_op op_add (pe_op op_add (pv 4) (pv 7)) pe_int) (pv 8)))))))))))
    (pss_one
      (ps_ret (pv 5)))))))), ?_⟩
    obtain ⟨ns, pl, sh, rfl, b1, b2, b3, rfl⟩ := h2.ex
    refine fin_L h1 ?_ q
    refine run_seq (run_set (e_callN (ea_cons (EE.h (e_bor (i := 0) rfl)) (ea_cons (EE.h (EE.any (r2 := .f) (.int _) (e_bor (i := 1) rfl))) (ea_cons (EE.h (e_int (r := .f))) (ea_cons (EE.h (e_int (r := .f))) ea_nil)))) (drawR b1 (by omega) (by omega) (by omega)))) ?_
    refine run_seq (ρ1 := [.bor (.scr ns), .bor (.int pl), .bor (.int sh), .dat (.int (manyL ns pl)), .un, .un, .un, .un, .un, .un]) (run_if (b := decide (draw ns pl 58 16 = 0)) (t_test (e_op (r3 := .f) (e_callN (ea_cons (EE.h (e_bor (i := 0) rfl)) (ea_cons (EE.h (EE.any (r2 := .f) (.int _) (e_bor (i := 1) rfl))) (ea_cons (EE.h (e_int (r := .f))) (ea_cons (EE.h (e_int (r := .f))) ea_nil)))) (drawR b1 (by omega) (by omega) (by omega))) (e_int (r := .f)) o_eqI)) (fun hb => ?_) (fun hb => ?_)) ?_
    · refine Run.to (run_set (e_op (r3 := .f) (e_int (r := .f)) (e_callN (ea_cons (EE.h (e_bor (i := 0) rfl)) (ea_cons (EE.h (EE.any (r2 := .f) (.int _) (e_bor (i := 1) rfl))) (ea_cons (EE.h (e_int (r := .f))) (ea_cons (EE.h (e_int (r := .f))) ea_nil)))) (drawR b1 (by omega) (by omega) (by omega))) o_i)) ?_
      have e : manyL ns pl = 12 + draw ns pl 59 7 := if_pos (of_decide_eq_true hb)
      rw [e]; first | done | rfl
    · refine Run.to run_next ?_
      have e : manyL ns pl = draw ns pl 0 7 := if_neg (of_decide_eq_false hb)
      rw [e]; first | done | rfl
    have hm := manyL_ok ns pl
    refine run_seq (run_set (e_op (r3 := .f) (e_callN (ea_cons (EE.h (e_bor (i := 0) rfl)) (ea_cons (EE.h (EE.any (r2 := .f) (.int _) (e_bor (i := 1) rfl))) (ea_cons (EE.h (e_int (r := .f))) (ea_cons (EE.h (e_int (r := .f))) ea_nil)))) (drawR b1 (by omega) (by omega) (by omega))) (e_int (r := .f)) o_i)) ?_
    refine run_seq (run_setL (el_lst ea_nil (by walk_at "len"))) ?_
    refine run_thru (src_range1 (ea_cons (e_dat (i := 3) rfl) ea_nil) (by omega)) (fun k _ => puts_int) (fun k ρ => ∃ s t u v, ρ = [.bor (.scr ns), .bor (.int pl), .bor (.int sh), .dat (.int (manyL ns pl)), .dat (.int (listSt ns pl sh k).1), .own (dRows (listSt ns pl sh k).2), s, t, u, v]) ⟨_, _, _, _, rfl⟩ ?_ ?_
    · intro k ρ hk hI
      obtain ⟨s, t, u, v, rfl⟩ := hI
      have hk2 : (k : Int) < 18 := by omega
      obtain ⟨_, l2, _, _, _⟩ := listSt_ok ns pl sh k
      refine ⟨_, ⟨.dat (.int (k : Int)), .dat (.int (lenN ns pl sh k)), .dat (.int (gapN ns pl sh k)), .dat (.int (draw ns pl (3 * (k : Int) + 4) 4)), rfl⟩, ?_⟩
      show Run K _ [_, _, _, _, .dat (.int (listSt ns pl sh k).1), .own (dRows (listSt ns pl sh k).2), .dat (.int (0 + (k : Int))), t, u, v] (.nx [_, _, _, _, .dat (.int ((listSt ns pl sh k).1 + lenN ns pl sh k + 1 + gapN ns pl sh k)), .own (dRows ((listSt ns pl sh k).2 ++ [((listSt ns pl sh k).1, (listSt ns pl sh k).1 + lenN ns pl sh k)])), _, _, _, _])
      rw [Int.zero_add]
      generalize listSt ns pl sh k = st at l2 ⊢
      refine run_seq (run_set (e_callN (ea_cons (EE.h (e_bor (i := 0) rfl)) (ea_cons (EE.h (EE.any (r2 := .f) (.int _) (e_bor (i := 1) rfl))) (ea_cons (EE.h (e_op (r3 := .f) (e_op (r3 := .f) (e_int (r := .f)) (e_dat (i := 6) rfl) (o_ic (by walk_at "side"))) (e_int (r := .f)) o_i)) (ea_cons (EE.h (e_int (r := .f))) ea_nil)))) (drawR b1 (by omega) (by omega) (by omega)))) ?_
      refine run_seq (run_set (e_op (r3 := .f) (e_int (r := .f)) (e_callN (ea_cons (EE.h (e_bor (i := 0) rfl)) (ea_cons (EE.h (EE.any (r2 := .f) (.int _) (e_bor (i := 1) rfl))) (ea_cons (EE.h (e_op (r3 := .f) (e_op (r3 := .f) (e_int (r := .f)) (e_dat (i := 6) rfl) (o_ic (by walk_at "side"))) (e_int (r := .f)) o_i)) (ea_cons (EE.h (e_int (r := .f))) ea_nil)))) (drawR b1 (by omega) (by omega) (by omega))) o_i)) ?_
      refine run_seq (run_set (e_callN (ea_cons (EE.h (e_bor (i := 0) rfl)) (ea_cons (EE.h (EE.any (r2 := .f) (.int _) (e_bor (i := 1) rfl))) (ea_cons (EE.h (e_op (r3 := .f) (e_op (r3 := .f) (e_int (r := .f)) (e_dat (i := 6) rfl) (o_ic (by walk_at "side"))) (e_int (r := .f)) o_i)) (ea_cons (EE.h (e_int (r := .f))) ea_nil)))) (drawR b1 (by omega) (by omega) (by omega)))) ?_
      refine run_seq (ρ1 := [.bor (.scr ns), .bor (.int pl), .bor (.int sh), .dat (.int (manyL ns pl)), .dat (.int st.1), .own (dRows st.2), .dat (.int (k : Int)), .dat (.int (lenN ns pl sh k)), .dat (.int (1 + draw ns pl (3 * (k : Int) + 3) 4)), .dat (.int (draw ns pl (3 * (k : Int) + 4) 4))]) (run_if (b := decide (sh = 2) && decide (draw ns pl (3 * (k : Int) + 4) 4 = 0)) (t_and (t_test (e_op (r3 := .f) (EE.any (r2 := .f) (.int _) (e_bor (i := 2) rfl)) (e_int (r := .f)) o_eqI)) (fun hb => (t_test (e_op (r3 := .f) (e_dat (i := 9) rfl) (e_int (r := .f)) o_eqI)))) (fun hb => ?_) (fun hb => ?_)) ?_
      · rw [Bool.and_eq_true] at hb
        refine Run.to (run_set (e_op (r3 := .f) (e_dat (i := 7) rfl) (e_op (r3 := .f) (e_int (r := .f)) (e_int (r := .f)) (o_ic (by walk_at "side"))) o_i)) ?_
        have e : lenN ns pl sh k = _ := if_pos ⟨of_decide_eq_true hb.1, of_decide_eq_true hb.2⟩
        rw [e]; first | done | rfl
      · refine Run.to run_next ?_
        have e : lenN ns pl sh k = _ := if_neg (fun z => by rw [decide_eq_true z.1, decide_eq_true z.2] at hb; cases hb)
        rw [e]; first | done | rfl
      generalize lenN ns pl sh k = len
      refine run_seq (ρ1 := [.bor (.scr ns), .bor (.int pl), .bor (.int sh), .dat (.int (manyL ns pl)), .dat (.int st.1), .own (dRows st.2), .dat (.int (k : Int)), .dat (.int len), .dat (.int (gapN ns pl sh k)), .dat (.int (draw ns pl (3 * (k : Int) + 4) 4))]) (run_if (b := decide (sh = 3) && decide (draw ns pl (3 * (k : Int) + 4) 4 = 0)) (t_and (t_test (e_op (r3 := .f) (EE.any (r2 := .f) (.int _) (e_bor (i := 2) rfl)) (e_int (r := .f)) o_eqI)) (fun hb => (t_test (e_op (r3 := .f) (e_dat (i := 9) rfl) (e_int (r := .f)) o_eqI)))) (fun hb => ?_) (fun hb => ?_)) ?_
      · rw [Bool.and_eq_true] at hb
        refine Run.to (run_set (e_op (r3 := .f) (e_dat (i := 8) rfl) (e_op (r3 := .f) (e_int (r := .f)) (e_int (r := .f)) (o_ic (by walk_at "side"))) o_i)) ?_
        have e : gapN ns pl sh k = _ := if_pos ⟨of_decide_eq_true hb.1, of_decide_eq_true hb.2⟩
        rw [e]; first | done | rfl
      · refine Run.to run_next ?_
        have e : gapN ns pl sh k = _ := if_neg (fun z => by rw [decide_eq_true z.1, decide_eq_true z.2] at hb; cases hb)
        rw [e]; first | done | rfl
      generalize gapN ns pl sh k = gap
      refine run_seq (run_append (i := 5) rfl (e_tup (ea_cons (e_dat (i := 4) rfl) (ea_cons (e_op (r3 := .f) (e_dat (i := 4) rfl) (e_dat (i := 7) rfl) o_i) ea_nil)) (by walk_at "len")) (by rw [dRows_len]; omega)) ?_
      refine Run.to (run_set (e_op (r3 := .f) (e_op (r3 := .f) (e_op (r3 := .f) (e_dat (i := 4) rfl) (e_dat (i := 7) rfl) o_i) (e_int (r := .f)) o_i) (e_dat (i := 8) rfl) o_i)) ?_
      rw [← dRows_snoc]; rfl
    · intro ρ hI
      obtain ⟨s, t, u, v, rfl⟩ := hI
      exact run_retO (i := 5) rfl

end
end PL

end
section
set_option maxRecDepth 100000
set_option maxHeartbeats 4000000
namespace PL
open PySem PySem.Spec PyProof.Rows L2 Evl
section
variable {P : Program} {w : World} {K : PySem.W.Frag} {mg : Str → Option Value} {base : Heap}

local macro_rules | `(tactic| walk_at "side") => `(tactic| first
  | omega | (exact div_ok (by omega) (by rw [two200]; omega)) | (exact mul200 (by rw [two200]; omega) (by rw [two200]; omega)) | (refine pow_ok (by omega) (by omega) (by decide)))
local macro_rules | `(tactic| walk_at "len") => `(tactic| first | exact Nat.le_of_ble_eq_true rfl | omega | (simp [dRows]; done) | (simp [dRows]; omega))
theorem ok__law_near {f : Addr} {fd : FuncData} (F : Fun K "_law_near" "_law_near" s__law_near f fd) (T : Txt mg) (c_law_draw : Has P w K mg base "_law_draw" 1 p__law_draw (SpN K DrawR)) : FnOk P w K mg base CX0 2 f fd p__law_near (SpL K NearR) := by
  refine F.ok sc__law_near (fun vs H Q E h => ?_) (fun cdv A outer s H vs Q E hr h => ?_)
  · obtain ⟨ds, d, h1, h2, _⟩ := h
    rw [h1.len]; exact NearR.len h2
  · obtain ⟨ds, d, h1, h2, q⟩ := h
    refine ⟨_,
    (pss_cons
      (ps_set (i := 3) sc__law_near.nd rfl (.inl rfl) (pe_lst pa_nil))
    (pss_cons
      (ps_for PassesOwn.never rfl (pi_range1 (by rfl) T.range (pa_cons (pe_callB call_len_seq (by rfl) T.len PySem.boot_len (pa_cons (pv 2) pa_nil)) pa_nil)) (pg_name (i := 4) sc__law_near.nd rfl (.inl rfl))
        (pss_cons
          (ps_set (i := 5) sc__law_near.nd rfl (.inl rfl) (pe_op op_sub (pe_op op_add (pe_ix (r := rIxT K) ix_tup (pe_ix (r := rIxL K) ix_list (pv 2) (pv 4) (fun _ _ => rfl)) pe_int (fun _ _ => rfl)) (pe_callH c_law_draw hr (by decide) (by rfl) (pa_cons (pv 0) (pa_cons (pv 1) (pa_cons (pe_op op_mulW pe_int (pv 4)) (pa_cons pe_int pa_nil)))))) pe_int))
        (pss_cons
          (ps_set (i := 6) sc__law_near.nd rfl (.inl rfl) (pe_op op_sub (pe_op op_add (pe_ix (r := rIxT K) ix_tup (pe_ix (r := rIxL K) ix_list (pv 2) (pv 4) (fun _ _ => rfl)) pe_int (fun _ _ => rfl)) (pe_callH c_law_draw hr (by decide) (by rfl) (pa_cons (pv 0) (pa_cons (pv 1) (pa_cons (pe_op op_add (pe_op op_mulW pe_int (pv 4)) pe_int) (pa_cons pe_int pa_nil)))))) pe_int))
        (pss_one
          (ps_if (PW.pt (pw_and (pt_cmpR op_le (pv 5) (pv 6) (nomark _)) (pw_and1 (PW.pt (pw_or (pt_cmpR op_eq (pe_callB call_len_seq (by rfl) T.len PySem.boot_len (pa_cons (pv 3) pa_nil)) pe_int (nomark _)) (pw_or1 (pt_cmpR op_le (pe_op op_add (pe_ix (r := rIxT K) ix_tup (pe_ix (r := rIxL K) ix_list (pv 3) (pe_un un_neg pe_int) (fun _ _ => rfl)) pe_int (fun _ _ => rfl)) pe_int) (pv 5) (nomark _))))))))
            (pss_one
              (ps_expr (pe_bm PySem.F.plainAttrs_list PySem.F.slot_list_append PySem.F.type_list_append mt_append (pv 3) (pa_cons (pe_tup (pa_cons (pv 5) (pa_cons (pv 6) pa_nil))) pa_nil))))
            pss_nil)))))
    (pss_one
      (ps_ret (pv 3))))), ?_⟩
    obtain ⟨ns, pl, rs, rfl, b1, b2, b3, b4, ⟨Bd, td⟩, rfl⟩ := h2.ex
    refine fin_L h1 ?_ q
    refine run_seq (run_setL (el_lst ea_nil (by walk_at "len"))) ?_
    refine run_thru (src_range1 (ea_cons (e_cb (r3 := .f) (ea_cons (EE.h (e_bor (i := 2) rfl)) ea_nil) oa_lenL) ea_nil) (by rw [dRows_len]; omega)) (fun k _ => puts_int) (fun k ρ => ∃ s t u, ρ = [.bor (.scr ns), .bor (.int pl), .bor (.lst (dRows rs)), .own (dRows (nearSt ns pl rs k)), s, t, u]) ⟨_, _, _, rfl⟩ ?_ ?_
    · intro k ρ hk hI
      obtain ⟨s, t, u, rfl⟩ := hI
      rw [Int.toNat_natCast, dRows_len] at hk
      have hlen := (nearSt_ok ns pl td k (by omega)).2
      have hr1 : rs[k]? = some (rs.getD k (0, 0)) := by rw [List.getD_eq_getElem?_getD, List.getElem?_eq_getElem hk]; rfl
      have hr := atI_rows hr1
      refine ⟨_, ⟨.dat (.int (k : Int)), .dat (.int ((rs.getD k (0, 0)).1 + draw ns pl (2 * (k : Int)) 3 - 1)), .dat (.int ((rs.getD k (0, 0)).2 + draw ns pl (2 * (k : Int) + 1) 3 - 1)), rfl⟩, ?_⟩
      show Run K _ [_, _, _, _, .dat (.int (0 + (k : Int))), t, u] _
      rw [Int.zero_add]
      rw [nearSt_succ]
      generalize nearSt ns pl rs k = o at hlen ⊢
      generalize rs.getD k (0, 0) = r at hr ⊢
      refine run_seq (run_set (e_op (r3 := .f) (e_op (r3 := .f) (e_op (r3 := .f) (e_op (e_bor (i := 2) rfl) (e_dat (i := 4) rfl) (o_ixL hr)) (e_int (r := .f)) (o_ixTs (d := .int _) rfl (.int _))) (e_callN (ea_cons (EE.h (e_bor (i := 0) rfl)) (ea_cons (EE.h (EE.any (r2 := .f) (.int _) (e_bor (i := 1) rfl))) (ea_cons (EE.h (e_op (r3 := .f) (e_int (r := .f)) (e_dat (i := 4) rfl) (o_ic (by walk_at "side")))) (ea_cons (EE.h (e_int (r := .f))) ea_nil)))) (drawR b1 (by omega) (by omega) (by omega))) o_i) (e_int (r := .f)) o_i)) ?_
      refine run_seq (run_set (e_op (r3 := .f) (e_op (r3 := .f) (e_op (r3 := .f) (e_op (e_bor (i := 2) rfl) (e_dat (i := 4) rfl) (o_ixL hr)) (e_int (r := .f)) (o_ixTs (d := .int _) rfl (.int _))) (e_callN (ea_cons (EE.h (e_bor (i := 0) rfl)) (ea_cons (EE.h (EE.any (r2 := .f) (.int _) (e_bor (i := 1) rfl))) (ea_cons (EE.h (e_op (r3 := .f) (e_op (r3 := .f) (e_int (r := .f)) (e_dat (i := 4) rfl) (o_ic (by walk_at "side"))) (e_int (r := .f)) o_i)) (ea_cons (EE.h (e_int (r := .f))) ea_nil)))) (drawR b1 (by omega) (by omega) (by omega))) o_i) (e_int (r := .f)) o_i)) ?_
      generalize r.1 + draw ns pl (2 * (k : Int)) 3 - 1 = x
      generalize r.2 + draw ns pl (2 * (k : Int) + 1) 3 - 1 = y
      cases hlast : o.getLast? with
      | none =>
        have e4 : o = [] := List.getLast?_eq_none_iff.mp hlast
        subst e4
        refine run_if (b := decide (x ≤ y) && (decide (((dRows []).length : Int) = 0))) (t_and (t_test (e_op (r3 := .f) (e_dat (i := 5) rfl) (e_dat (i := 6) rfl) o_b)) (fun _ => ET.to (t_orT (ET.to (t_test (e_op (r3 := .f) (e_cb (r3 := .f) (ea_cons (EE.h (e_own (i := 3) rfl)) ea_nil) oa_lenL) (e_int (r := .f)) o_eqI)) rfl)) rfl)) (fun hb => ?_) (fun hb => ?_)
        · rw [Bool.and_eq_true] at hb
          rw [if_pos ⟨of_decide_eq_true hb.1, .inl rfl⟩]
          exact Run.to (run_append (i := 3) (ds := []) rfl (e_tup (ea_cons (e_dat (i := 5) rfl) (ea_cons (e_dat (i := 6) rfl) ea_nil)) (by walk_at "len")) (by show 0 < 100000; omega)) rfl
        · rw [if_neg (fun z => by rw [decide_eq_true z.1] at hb; cases hb)]
          exact Run.to run_next rfl
      | some l =>
        have hn := atI_rows_last hlast
        have hne : ¬ o.length = 0 := fun z => by
          rw [List.length_eq_zero_iff.mp z] at hlast; cases hlast
        refine run_if (b := decide (x ≤ y) && (decide (((dRows o).length : Int) = 0) || decide (l.2 + 2 ≤ x))) (t_and (t_test (e_op (r3 := .f) (e_dat (i := 5) rfl) (e_dat (i := 6) rfl) o_b)) (fun hb => (t_or (t_test (e_op (r3 := .f) (e_cb (r3 := .f) (ea_cons (EE.h (e_own (i := 3) rfl)) ea_nil) oa_lenL) (e_int (r := .f)) o_eqI)) (fun hb => (t_test (e_op (r3 := .f) (e_op (r3 := .f) (e_op (r3 := .f) (e_ixOwn (i := 3) rfl (e_neg (r3 := .f) (e_int (r := .f))) hn) (e_int (r := .f)) (o_ixTs (d := .int _) rfl (.int _))) (e_int (r := .f)) o_i) (e_dat (i := 5) rfl) o_b)))))) (fun hb => ?_) (fun hb => ?_)
        · simp only [Bool.and_eq_true, Bool.or_eq_true, decide_eq_true_eq, dRows_len] at hb
          rw [if_pos ⟨hb.1, .inr (by show l.2 + 2 ≤ x; omega)⟩]
          refine Run.to (run_append (i := 3) rfl (e_tup (ea_cons (e_dat (i := 5) rfl) (ea_cons (e_dat (i := 6) rfl) ea_nil)) (by walk_at "len")) (by rw [dRows_len]; omega)) ?_
          rw [← dRows_snoc]; rfl
        · simp only [Bool.and_eq_false_iff, Bool.or_eq_false_iff, decide_eq_false_iff_not, dRows_len] at hb
          rw [if_neg (fun z => by
            have z2 : l.2 + 2 ≤ x := z.2.elim (fun w => absurd w hne) id
            omega)]
          exact Run.to run_next rfl
    · intro ρ hI
      obtain ⟨s, t, u, rfl⟩ := hI
      rw [Int.toNat_natCast, dRows_len]
      exact run_retO (i := 3) rfl

end
end PL

end
section
set_option maxRecDepth 100000
set_option maxHeartbeats 4000000
namespace PL
open PySem PySem.Spec PyProof.Rows L2 Evl
section
variable {P : Program} {w : World} {K : PySem.W.Frag} {mg : Str → Option Value} {base : Heap}

local macro_rules | `(tactic| walk_at "side") => `(tactic| first
  | omega | (exact div_ok (by omega) (by rw [two200]; omega)) | (exact mul200 (by rw [two200]; omega) (by rw [two200]; omega)) | (refine pow_ok (by omega) (by omega) (by decide)))
local macro_rules | `(tactic| walk_at "len") => `(tactic| first | exact Nat.le_of_ble_eq_true rfl | omega | (simp [dRows]; done) | (simp [dRows]; omega))
theorem ok__law_common {f : Addr} {fd : FuncData} (F : Fun K "_law_common" "_law_common" s__law_common f fd) (T : Txt mg) (c_law_in : Has P w K mg base "_law_in" 1 p__law_in (SpN K InR)) (c_law_is_integer : Has P w K mg base "_law_is_integer" 1 p__law_is_integer (SpN K IsIntR)) : FnOk P w K mg base CX0 2 f fd p__law_common (SpN K LComR) := by
  refine F.ok sc__law_common (fun vs H Q E h => ?_) (fun cdv A outer s H vs Q E hr h => ?_)
  · obtain ⟨ds, d, h1, h2, _⟩ := h
    rw [h1.len]; exact LComR.len h2
  · obtain ⟨ds, d, h1, h2, q⟩ := h
    refine ⟨_,
    (pss_cons
      (ps_if (pt_not (pt_val (pe_callB call_isi (by rfl) T.isinstance (by decide +kernel) (pa_cons (pv 2) (pa_cons (pe_bltn (v := .ty "list") (by rfl) T.list (by decide +kernel) rfl) pa_nil)))))
        (pss_one
          (ps_ret pe_bl))
        pss_nil)
    (pss_cons
      (ps_for PassesOwn.never rfl (pi_range1 (by rfl) T.range (pa_cons (pe_callB call_len_seq (by rfl) T.len PySem.boot_len (pa_cons (pv 2) pa_nil)) pa_nil)) (pg_name (i := 3) sc__law_common.nd rfl (.inl rfl))
        (pss_cons
          (ps_set (i := 4) sc__law_common.nd rfl (.inl rfl) (pe_ix (r := rIxL K) ix_list (pv 2) (pv 3) (fun _ _ => rfl)))
        (pss_cons
          (ps_if (PW.pt (pw_or (pt_not (pt_val (pe_callB call_isi (by rfl) T.isinstance (by decide +kernel) (pa_cons (pv 4) (pa_cons (pe_bltn (v := .ty "tuple") (by rfl) T.tuple (by decide +kernel) rfl) pa_nil))))) (pw_or1 (pt_cmpR op_ne (pe_callB call_len_seq (by rfl) T.len PySem.boot_len (pa_cons (pv 4) pa_nil)) pe_int (nomark _)))))
            (pss_one
              (ps_ret pe_bl))
            pss_nil)
        (pss_cons
          (ps_if (PW.pt (pw_or (pt_not (pt_val (pe_callH c_law_is_integer hr (by decide) (by rfl) (pa_cons (pe_ix (r := rIxT K) ix_tup (pv 4) pe_int (fun _ _ => rfl)) pa_nil)))) (pw_or (pt_not (pt_val (pe_callH c_law_is_integer hr (by decide) (by rfl) (pa_cons (pe_ix (r := rIxT K) ix_tup (pv 4) pe_int (fun _ _ => rfl)) pa_nil)))) (pw_or1 (pt_cmpR op_gt (pe_ix (r := rIxT K) ix_tup (pv 4) pe_int (fun _ _ => rfl)) (pe_ix (r := rIxT K) ix_tup (pv 4) pe_int (fun _ _ => rfl)) (nomark _))))))
            (pss_one
              (ps_ret pe_bl))
            pss_nil)
        (pss_one
          (ps_if (PW.pt (pw_and (pt_cmpR op_gt (pv 3) pe_int (nomark _)) (pw_and1 (pt_cmpR op_lt (pe_ix (r := rIxT K) ix_tup (pv 4) pe_int (fun _ _ => rfl)) (pe_op op_add (pe_ix (r := rIxT K) ix_tup (pe_ix (r := rIxL K) ix_list (pv 2) (pe_op op_sub (pv 3) pe_int) (fun _ _ => rfl)) pe_int (fun _ _ => rfl)) pe_int) (nomark _)))))
            (pss_one
              (ps_ret pe_bl))
            pss_nil))))))
    (pss_cons
      (ps_for PassesOwn.never rfl (pi_list (pe_op op_cat (pe_op op_cat (pv 0) (pv 1)) (pv 2))) (pg_name (i := 4) sc__law_common.nd rfl (.inl rfl))
        (pss_one
          (ps_for PassesOwn.never rfl (pi_list (pe_lst (pa_cons (pe_op op_sub (pe_ix (r := rIxT K) ix_tup (pv 4) pe_int (fun _ _ => rfl)) pe_int) (pa_cons (pe_ix (r := rIxT K) ix_tup (pv 4) pe_int (fun _ _ => rfl)) (pa_cons (pe_ix (r := rIxT K) ix_tup (pv 4) pe_int (fun _ _ => rfl)) (pa_cons (pe_op op_add (pe_ix (r := rIxT K) ix_tup (pv 4) pe_int (fun _ _ => rfl)) pe_int) pa_nil)))))) (pg_name (i := 5) sc__law_common.nd rfl (.inl rfl))
            (pss_cons
              (ps_set (i := 6) sc__law_common.nd rfl (.inl rfl) (pe_and (pe_callH c_law_in hr (by decide) (by rfl) (pa_cons (pv 0) (pa_cons (pv 5) pa_nil))) (pe_one (pe_callH c_law_in hr (by decide) (by rfl) (pa_cons (pv 1) (pa_cons (pv 5) pa_nil))))))
            (pss_one
              (ps_if (pt_cmpR op_ne (pv 6) (pe_callH c_law_in hr (by decide) (by rfl) (pa_cons (pv 2) (pa_cons (pv 5) pa_nil))) (nomark _))
                (pss_one
                  (ps_ret pe_bl))
                pss_nil))))))
    (pss_one
      (ps_ret pe_bl))))), ?_⟩
    obtain ⟨as, bs, ts, rfl, b1, b1', b2, fine, rfl⟩ := h2.ex
    refine fin_F (r := .f) h1 (.bl _) ?_ q
    refine run_seqF (t_not (t_val (e_isi (r3 := .f) (b := true) (e_dat (i := 2) rfl) (fun _ z => D.noConfusion z) (by show kitB "list" "list" = some true; decide +kernel)))) ?_
    refine run_thru (src_range1 (ea_cons (e_cb (r3 := .f) (ea_cons (EE.h (e_dat (i := 2) rfl)) ea_nil) oa_lenL) ea_nil) (by rw [dRows_len]; omega)) (fun k _ => puts_int) (fun k ρ => ∃ s t, ρ = [.dat (.lst (dRows as)), .dat (.lst (dRows bs)), .dat (.lst (dRows ts)), s, t, .un, .un]) ⟨_, _, rfl⟩ ?_ ?_
    · intro k ρ hk hI
      obtain ⟨s, t, rfl⟩ := hI
      rw [Int.toNat_natCast, dRows_len] at hk
      have hk1 : ts[k]? = some ts[k] := List.getElem?_eq_getElem hk
      generalize hrr : ts[k] = r at hk1
      have hup := fine.up k r hk1
      have hr : atI (dRows ts) (0 + (k : Int)) = some (dRow r) := by rw [Int.zero_add]; exact atI_rows hk1
      refine ⟨_, ⟨.dat (.int (0 + (k : Int))), .dat (dRow r), rfl⟩, ?_⟩
      refine run_seq (run_set (e_op (e_dat (i := 2) rfl) (e_dat (i := 3) rfl) (o_ixL (hr)))) ?_
      refine run_seqF (ET.to (t_or (t_not (t_val (e_isi (r3 := .f) (b := true) (e_dat (i := 4) rfl) (fun _ z => D.noConfusion z) (by show kitB "tuple" "tuple" = some true; decide +kernel)))) (fun hb => (t_test (e_op (r3 := .f) (e_cb (r3 := .f) (ea_cons (EE.h (e_dat (i := 4) rfl)) ea_nil) oa_lenT) (e_int (r := .f)) o_neI)))) rfl) ?_
      have e3 : decide (r.2 < r.1) = false := decide_eq_false (by omega)
      refine run_seqF (ET.to (t_or (t_not (t_val (e_callN (ea_cons (EE.h (e_op (r3 := .f) (e_dat (i := 4) rfl) (e_int (r := .f)) (o_ixTs (d := .int _) rfl (.int _)))) ea_nil) ⟨_, rfl, rfl⟩))) (fun hb => (t_or (t_not (t_val (e_callN (ea_cons (EE.h (e_op (r3 := .f) (e_dat (i := 4) rfl) (e_int (r := .f)) (o_ixTs (d := .int _) rfl (.int _)))) ea_nil) ⟨_, rfl, rfl⟩))) (fun hb => (t_test (e_op (r3 := .f) (e_op (r3 := .f) (e_dat (i := 4) rfl) (e_int (r := .f)) (o_ixTs (d := .int _) rfl (.int _))) (e_op (r3 := .f) (e_dat (i := 4) rfl) (e_int (r := .f)) (o_ixTs (d := .int _) rfl (.int _))) o_b)))))) (by rw [e3]; rfl)) ?_
      cases k with
      | zero =>
        refine run_ifF (t_andF (ET.to (t_test (e_op (r3 := .f) (e_dat (i := 3) rfl) (e_int (r := .f)) o_b)) rfl)) ?_
        exact run_next
      | succ j =>
        have hj : ts[j]? = some (ts[j]'(by omega)) := List.getElem?_eq_getElem _
        generalize hpp : ts[j]'(by omega) = p at hj
        have hap := fine.apart j p r hj hk1
        have hp : atI (dRows ts) (0 + ((j + 1 : Nat) : Int) - 1) = some (dRow p) := by
          have e : (0 + ((j + 1 : Nat) : Int) - 1) = (j : Int) := by omega
          rw [e]; exact atI_rows hj
        refine run_if (b := decide ((0 : Int) < 0 + ((j + 1 : Nat) : Int)) && decide (r.1 < p.2 + 2)) (t_and (t_test (e_op (r3 := .f) (e_dat (i := 3) rfl) (e_int (r := .f)) o_b)) (fun hb => (t_test (e_op (r3 := .f) (e_op (r3 := .f) (e_dat (i := 4) rfl) (e_int (r := .f)) (o_ixTs (d := .int _) rfl (.int _))) (e_op (r3 := .f) (e_op (r3 := .f) (e_op (e_dat (i := 2) rfl) (e_op (r3 := .f) (e_dat (i := 3) rfl) (e_int (r := .f)) o_i) (o_ixL (hp))) (e_int (r := .f)) (o_ixTs (d := .int _) rfl (.int _))) (e_int (r := .f)) o_i) o_b)))) (fun z => ?_) (fun _ => run_next)
        have e : decide (r.1 < p.2 + 2) = false := decide_eq_false (by omega)
        rw [e, Bool.and_false] at z; cases z
    · intro ρ hI
      obtain ⟨s, t, rfl⟩ := hI
      refine run_thru (src_list (q := .f) ((EL.e (el_cat (EL.s (el_cat (EE.s (e_dat (i := 0) rfl)) (EE.s (e_dat (i := 1) rfl)) (by walk_at "len"))) (EE.s (e_dat (i := 2) rfl)) (by walk_at "len"))).to (by rw [dRows_app, dRows_app]))) (fun k _ => puts_name) (fun k ρ => ∃ t u v, ρ = [.dat (.lst (dRows as)), .dat (.lst (dRows bs)), .dat (.lst (dRows ts)), s, t, u, v]) ⟨_, _, _, rfl⟩ ?_ ?_
      · intro k ρ hk hI
        obtain ⟨t, u, v, rfl⟩ := hI
        rw [dRows_len] at hk
        have e : putF (dRows (as ++ bs ++ ts)) 4 k [.dat (.lst (dRows as)), .dat (.lst (dRows bs)), .dat (.lst (dRows ts)), s, t, u, v] = [.dat (.lst (dRows as)), .dat (.lst (dRows bs)), .dat (.lst (dRows ts)), s, .dat (dRow ((as ++ bs ++ ts).getD k (0, 0))), u, v] := by
          show [Sl.dat _, Sl.dat _, Sl.dat _, s, Sl.dat ((dRows (as ++ bs ++ ts)).getD k .non), u, v] = _
          rw [dRows_get hk]
        rw [e]
        generalize (as ++ bs ++ ts).getD k (0, 0) = r
        let xs4 : List Int := [r.1 - 1, r.1, r.2, r.2 + 1]
        let due : Int → Bool := fun x => inR as x && inR bs x
        refine ⟨_, ⟨.dat (dRow r), .dat (.int (r.2 + 1)), .dat (.bl (due (r.2 + 1))), rfl⟩, ?_⟩
        refine run_thru1 (n := 4) (src_list (q := .f) (ds := xs4.map D.int) (EL.e (el_lst (ea_cons (e_op (r3 := .f) (e_op (r3 := .f) (e_dat (i := 4) rfl) (e_int (r := .f)) (o_ixTs (d := .int _) rfl (.int _))) (e_int (r := .f)) o_i) (ea_cons (e_op (r3 := .f) (e_dat (i := 4) rfl) (e_int (r := .f)) (o_ixTs (d := .int _) rfl (.int _))) (ea_cons (e_op (r3 := .f) (e_dat (i := 4) rfl) (e_int (r := .f)) (o_ixTs (d := .int _) rfl (.int _))) (ea_cons (e_op (r3 := .f) (e_op (r3 := .f) (e_dat (i := 4) rfl) (e_int (r := .f)) (o_ixTs (d := .int _) rfl (.int _))) (e_int (r := .f)) o_i) ea_nil)))) (by walk_at "len")))) (fun k _ => puts_name) (fun k => [.dat (.lst (dRows as)), .dat (.lst (dRows bs)), .dat (.lst (dRows ts)), s, .dat (dRow r), if k = 0 then u else .dat ((xs4.map D.int).getD (k - 1) .non), if k = 0 then v else .dat (.bl (due (xs4.getD (k - 1) 0)))]) rfl ?_
        intro k hk
        have hx : (xs4.map D.int).getD k .non = .int (xs4.getD k 0) := by
          match k, hk with
          | 0, _ => rfl
          | 1, _ => rfl
          | 2, _ => rfl
          | 3, _ => rfl
        generalize hxx : xs4.getD k 0 = x at hx
        have e2 : putF (xs4.map D.int) 5 k [.dat (.lst (dRows as)), .dat (.lst (dRows bs)), .dat (.lst (dRows ts)), s, .dat (dRow r), if k = 0 then u else .dat ((xs4.map D.int).getD (k - 1) .non), if k = 0 then v else .dat (.bl (due (xs4.getD (k - 1) 0)))] = [.dat (.lst (dRows as)), .dat (.lst (dRows bs)), .dat (.lst (dRows ts)), s, .dat (dRow r), .dat (.int x), if k = 0 then v else .dat (.bl (due (xs4.getD (k - 1) 0)))] := by
          show [Sl.dat _, Sl.dat _, Sl.dat _, s, _, Sl.dat ((xs4.map D.int).getD k .non), _] = _
          rw [hx]
        rw [e2]
        have e3 : (if k + 1 = 0 then u else Sl.dat ((xs4.map D.int).getD (k + 1 - 1) .non)) = .dat (.int x) := by
          rw [if_neg (by omega), Nat.add_sub_cancel, hx]
        have e4 : (if k + 1 = 0 then v else Sl.dat (.bl (due (xs4.getD (k + 1 - 1) 0)))) = .dat (.bl (due x)) := by
          rw [if_neg (by omega), Nat.add_sub_cancel, hxx]
        rw [e3, e4]
        have same : due x = inR ts x := by
          have f := fine.same x
          rw [← inR_cov, ← inR_cov, ← inR_cov] at f
          show (inR as x && inR bs x) = inR ts x
          cases a : inR as x <;> cases b : inR bs x <;> cases c : inR ts x <;> rw [a, b, c] at f <;> simp_all
        refine run_seq (run_set (EE.to (e_and (r3 := .f) (e_callN (ea_cons (EE.h (e_dat (i := 0) rfl)) (ea_cons (EE.h (e_dat (i := 5) rfl)) ea_nil)) (inRR _ _)) (fun hb => (e_callN (ea_cons (EE.h (e_dat (i := 1) rfl)) (ea_cons (EE.h (e_dat (i := 5) rfl)) ea_nil)) (inRR _ _)))) (d2 := .bl (due x)) rfl)) ?_
        show Run K _ [_, _, _, _, _, .dat (.int x), .dat (.bl (due x))] _
        generalize due x = dx at same
        refine run_if (b := !decide (dx = inR ts x)) (t_test (e_op (r3 := .f) (e_dat (i := 6) rfl) (e_callN (ea_cons (EE.h (e_dat (i := 2) rfl)) (ea_cons (EE.h (e_dat (i := 5) rfl)) ea_nil)) (inRR _ _)) o_neB)) (fun z => ?_) (fun _ => run_next)
        rw [decide_eq_true same] at z; cases z
      · intro ρ hI
        obtain ⟨t, u, v, rfl⟩ := hI
        exact run_ret e_bl

end
end PL

end
section
set_option maxRecDepth 100000
set_option maxHeartbeats 4000000
namespace PL
open PySem PySem.Spec PyProof.Rows L2 Evl
section
variable {P : Program} {w : World} {K : PySem.W.Frag} {mg : Str → Option Value} {base : Heap}

local macro_rules | `(tactic| walk_at "side") => `(tactic| first
  | omega | (exact div_ok (by omega) (by rw [two200]; omega)) | (exact mul200 (by rw [two200]; omega) (by rw [two200]; omega)) | (refine pow_ok (by omega) (by omega) (by decide)))
local macro_rules | `(tactic| walk_at "len") => `(tactic| first | exact Nat.le_of_ble_eq_true rfl | omega | (simp [dRows]; done) | (simp [dRows]; omega))
theorem ok_common_stretches {f : Addr} {fd : FuncData} (F : Fun K "common_stretches" "common_stretches" s_common_stretches f fd) (T : Txt mg) : FnOk P w K mg base CX0 1 f fd p_common_stretches (SpL K ComR) := by
  refine F.ok sc_common_stretches (fun vs H Q E h => ?_) (fun cdv A outer s H vs Q E hr h => ?_)
  · obtain ⟨ds, d, h1, h2, _⟩ := h
    rw [h1.len]; exact ComR.len h2
  · obtain ⟨ds, d, h1, h2, q⟩ := h
    refine ⟨_,
    (pss_cons
      (ps_setLc2 (i := 2) (own := [("low", 3), ("high", 4), ("start", 5), ("end", 6)]) (vs1 := [5, 6]) (g := gTup K 2 (gCons (gName 3) (gCons (gName 4) gNil))) (tt := tYes) (g1 := gTup K 2 (gCons (gName 5) (gCons (gName 6) gNil))) (tt1 := tYes) rfl sc_common_stretches.nd rfl rfl (sw_true rfl rfl rfl (by decide +kernel)) (pi_or (w1 := iList K (tVar 0)) (w2 := iTup K (tVar 0)) (pi_list (pv 0)) (pi_tup (pv 0))) (blkOk_by (own := [("low", 3), ("high", 4), ("start", 5), ("end", 6)]) (N := N_common_stretches) (sc := defScope s_common_stretches) (by decide +kernel)) (by decide) (fun _ _ _ _ _ => (pg_tup rfl (pgs_cons (pg_name (i := 3) sc_common_stretches.nd rfl (Or.inl rfl)) (pgs_cons (pg_name (i := 4) sc_common_stretches.nd rfl (Or.inl rfl)) pgs_nil)))) (fun _ _ _ _ _ => pts_nil) (fun _ _ _ _ _ => (pi_or (w1 := iList K (tVar 1)) (w2 := iTup K (tVar 1)) (pi_list (pv 1)) (pi_tup (pv 1)))) (fun _ _ _ _ _ => (pg_tup rfl (pgs_cons (pg_name (i := 5) sc_common_stretches.nd rfl (Or.inl rfl)) (pgs_cons (pg_name (i := 6) sc_common_stretches.nd rfl (Or.inl rfl)) pgs_nil)))) (fun _ _ _ _ _ => pts_nil) (fun _ _ _ _ _ => (pe_tup (pa_cons (pe_callB (call_max2 rfl) (by rfl) T.max (by decide +kernel) (pa_cons (pv 3) (pa_cons (pv 5) pa_nil))) (pa_cons (pe_callB (call_min2 rfl) (by rfl) T.min (by decide +kernel) (pa_cons (pv 4) (pa_cons (pv 6) pa_nil))) pa_nil)))))
    (pss_one
      (ps_ret (pe_lc (own := [("low", 3), ("high", 4)]) (g := gTup K 2 (gCons (gName 3) (gCons (gName 4) gNil))) (tt := _) rfl sc_common_stretches.nd (pi_list (pv 2)) (blkOk_by (own := [("low", 3), ("high", 4)]) (N := N_common_stretches) (sc := defScope s_common_stretches) (by decide +kernel)) (fun _ _ _ _ _ => (pg_tup rfl (pgs_cons (pg_name (i := 3) sc_common_stretches.nd rfl (Or.inl rfl)) (pgs_cons (pg_name (i := 4) sc_common_stretches.nd rfl (Or.inl rfl)) pgs_nil)))) (fun _ _ _ _ _ => (pts_one (pt_cmpR op_le (pv 3) (pv 4) (nomark _)))) (fun _ _ _ _ _ => (pe_tup (pa_cons (pv 3) (pa_cons (pv 4) pa_nil)))))))), ?_⟩
    obtain ⟨x, y, as, bs, rfl, hx, hy, b1, b2, rfl⟩ := h2.ex
    refine fin_L h1 ?_ q
    have s1 : Src K (iOr (iList K (tVar 0)) (iTup K (tVar 0))) [.bor x, .bor y, .un, .un, .un, .un, .un] (dRows as).length (fun k B Hf _ v => Dt K (Rl.b.at B Hf) v ((dRows as).getD k .non)) := by
      rcases hx with rfl | rfl
      · exact src_orL (src_list (q := .b) (e_bor (i := 0) rfl))
      · exact src_orR (src_tup (q := .b) (e_bor (i := 0) rfl))
    have s2 : ∀ k, Src K (iOr (iList K (tVar 1)) (iTup K (tVar 1))) (putP as 3 4 k (wipeR [.bor x, .bor y, .un, .un, .un, .un, .un] [3, 4, 5, 6])) (dRows bs).length (fun k B Hf _ v => Dt K (Rl.b.at B Hf) v ((dRows bs).getD k .non)) := fun k => by
      rcases hy with rfl | rfl
      · exact src_orL (src_list (q := .b) (e_bor (i := 1) rfl))
      · exact src_orR (src_tup (q := .b) (e_bor (i := 1) rfl))
    have e1 : made2 (dRows as).length (fun _ => (dRows bs).length) (fun k m => dRow (max (as.getD k (0, 0)).1 (bs.getD m (0, 0)).1, min (as.getD k (0, 0)).2 (bs.getD m (0, 0)).2)) = dRows (pairN as bs) := by
      unfold made2 pairN
      rw [dRows_len, dRows_len]
      unfold dRows
      rw [List.map_flatMap]
      have ha : as = (List.range as.length).map fun k => as.getD k (0, 0) := by
        apply List.ext_getElem
        · simp
        · intro i h1 h2
          simp [List.getD_eq_getElem?_getD, List.getElem?_eq_getElem h1]
      have hb : bs = (List.range bs.length).map fun k => bs.getD k (0, 0) := by
        apply List.ext_getElem
        · simp
        · intro i h1 h2
          simp [List.getD_eq_getElem?_getD, List.getElem?_eq_getElem h1]
      conv => rhs; rw [ha]
      rw [List.flatMap_map]
      congr 1
      funext k
      conv => rhs; rw [hb]
      rw [List.map_map, List.map_map]
      rfl
    refine run_seq (run_setL ((el_lc2 (n1 := fun _ => (dRows bs).length) (put1 := fun _ => putP bs 5 6) (c := 100) _ s1 (fun k hk => putsW_pair4 (q := .b) (by decide) (by decide) (by decide) (by decide) (by decide) (by rw [dRows_len] at hk; exact hk)) (fun k _ => t_yes) (fun k _ m es => ?_) (fun k _ => s2 k) (fun k _ m hm => putsW_pair (q := .b) (by decide) (by rw [dRows_len] at hm; exact hm)) (fun k _ m _ => t_yes) (fun k _ m _ => ?_) (fun k _ => by rw [dRows_len]; exact b2) (by rw [dRows_len]; omega)).to e1)) ?_
    · show [Sl.bor x, .bor y, .un, .dat _, .dat _, .un, .un][m]? ≠ _
      match m with
      | 0 => exact fun z => by cases z
      | 1 => exact fun z => by cases z
      | 2 => exact fun z => by cases z
      | 3 => exact fun z => by cases z
      | 4 => exact fun z => by cases z
      | 5 => exact fun z => by cases z
      | 6 => exact fun z => by cases z
      | m + 7 => exact fun z => by cases z
    · show EE K _ [Sl.bor x, .bor y, .un, .dat (.int (as.getD k (0, 0)).1), .dat (.int (as.getD k (0, 0)).2), .dat (.int (bs.getD m (0, 0)).1), .dat (.int (bs.getD m (0, 0)).2)] _ _
      exact (e_tup (ea_cons (e_cb (r3 := .f) (ea_cons (e_dat (i := 3) rfl) (ea_cons (e_dat (i := 5) rfl) ea_nil)) oa_max) (ea_cons (e_cb (r3 := .f) (ea_cons (e_dat (i := 4) rfl) (ea_cons (e_dat (i := 6) rfl) ea_nil)) oa_min) ea_nil)) (by walk_at "len"))
    refine run_freeze (i := 2) (ds := dRows (pairN as bs)) rfl ?_
    have hl := pairN_len as bs
    have hl2 : (pairN as bs).length ≤ 10000 := by rw [hl]; exact Nat.mul_le_mul b1 b2
    have e2 : made (dRows (pairN as bs)).length (fun k => decide (((pairN as bs).getD k (0, 0)).1 ≤ ((pairN as bs).getD k (0, 0)).2)) (fun k => dRow ((pairN as bs).getD k (0, 0))) = dRows (comN as bs) := by
      unfold comN
      generalize pairN as bs = ps
      unfold made dRows
      rw [List.length_map]
      have hp : ps = (List.range ps.length).map fun k => ps.getD k (0, 0) := by
        apply List.ext_getElem
        · simp
        · intro i h1 h2
          simp [List.getD_eq_getElem?_getD, List.getElem?_eq_getElem h1]
      conv => rhs; rw [hp]
      rw [List.filter_map, List.map_map]
      rfl
    refine run_retL ((el_lc _ _ (src_list (q := .f) (e_dat (i := 2) rfl)) (fun k hk => putsW_pair (q := .f) (by decide) (by rw [dRows_len] at hk; exact hk)) (fun k hk => ?_) (fun k hk _ => ?_) (by rw [dRows_len]; omega)).to e2)
    · show ET K _ [Sl.bor x, .bor y, .dat _, .dat (.int ((pairN as bs).getD k (0, 0)).1), .dat (.int ((pairN as bs).getD k (0, 0)).2), .un, .un] _
      exact (t_test (e_op (r3 := .f) (e_dat (i := 3) rfl) (e_dat (i := 4) rfl) o_b))
    · show EE K _ [Sl.bor x, .bor y, .dat _, .dat (.int ((pairN as bs).getD k (0, 0)).1), .dat (.int ((pairN as bs).getD k (0, 0)).2), .un, .un] _ _
      exact (e_tup (ea_cons (e_dat (i := 3) rfl) (ea_cons (e_dat (i := 4) rfl) ea_nil)) (by walk_at "len"))

end
end PL

end
section
set_option maxRecDepth 100000
set_option maxHeartbeats 4000000
namespace PL
open PySem PySem.Spec PyProof.Rows L2 Evl
section
variable {P : Program} {w : World} {K : PySem.W.Frag} {mg : Str → Option Value} {base : Heap}

local macro_rules | `(tactic| walk_at "side") => `(tactic| first
  | omega | (exact div_ok (by omega) (by rw [two200]; omega)) | (exact mul200 (by rw [two200]; omega) (by rw [two200]; omega)) | (refine pow_ok (by omega) (by omega) (by decide)))
local macro_rules | `(tactic| walk_at "len") => `(tactic| first | exact Nat.le_of_ble_eq_true rfl | omega | (simp [dRows]; done) | (simp [dRows]; omega))
theorem ok_has_number {f : Addr} {fd : FuncData} (F : Fun K "has_number" "has_number" s_has_number f fd) (T : Txt mg) : FnOk P w K mg base CX0 1 f fd p_has_number (SpN K HasR) := by
  refine F.ok sc_has_number (fun vs H Q E h => ?_) (fun cdv A outer s H vs Q E hr h => ?_)
  · obtain ⟨ds, d, h1, h2, _⟩ := h
    rw [h1.len]; exact HasR.len h2
  · obtain ⟨ds, d, h1, h2, q⟩ := h
    refine ⟨_,
    (pss_one
      (ps_ret (pe_callB (cr_any rfl) (by rfl) T.any (by decide +kernel) (pa_cons (pe_lc (own := [("low", 2), ("high", 3)]) (g := gTup K 2 (gCons (gName 2) (gCons (gName 3) gNil))) (tt := tYes) rfl sc_has_number.nd (pi_or (w1 := iList K (tVar 0)) (w2 := iTup K (tVar 0)) (pi_list (pv 0)) (pi_tup (pv 0))) (blkOk_by (own := [("low", 2), ("high", 3)]) (N := N_has_number) (sc := defScope s_has_number) (by decide +kernel)) (fun _ _ _ _ _ => (pg_tup rfl (pgs_cons (pg_name (i := 2) sc_has_number.nd rfl (Or.inl rfl)) (pgs_cons (pg_name (i := 3) sc_has_number.nd rfl (Or.inl rfl)) pgs_nil)))) (fun _ _ _ _ _ => pts_nil) (fun _ _ _ _ _ => (pe_chain op_le op_le (pv 2) (pv 1) (pv 3)))) pa_nil)))), ?_⟩
    obtain ⟨x, rs, n, rfl, hx, b1, rfl⟩ := h2.ex
    refine fin_F (r := .f) h1 (.bl _) ?_ q
    have s1 : Src K (iOr (iList K (tVar 0)) (iTup K (tVar 0))) [.dat x, .dat (.int n), .un, .un] (dRows rs).length (fun k B Hf _ v => Dt K (Rl.f.at B Hf) v ((dRows rs).getD k .non)) := by
      rcases hx with rfl | rfl
      · exact src_orL (src_list (q := .f) (e_dat (i := 0) rfl))
      · exact src_orR (src_tup (q := .f) (e_dat (i := 0) rfl))
    let f : Int × Int → Bool := fun r => decide (r.1 ≤ n) && decide (n ≤ r.2)
    have e1 : made (dRows rs).length (fun _ => true) (fun k => .bl (f (rs.getD k (0, 0)))) = (rs.map f).map D.bl := by
      rw [made_all, dRows_len]
      apply List.ext_getElem
      · simp
      · intro i h1 h2
        simp at h1
        simp [List.getD_eq_getElem?_getD, List.getElem?_eq_getElem h1]
    have e2 : (rs.map f).any id = inR rs n := by
      unfold inR
      rw [List.any_map]
      rfl
    refine run_ret (EE.to (e_cb (r3 := .f) (ea_cons (EE.h (EL.e ((el_lc (fun _ => true) (fun k => .bl (f (rs.getD k (0, 0)))) s1 (fun k hk => putsW_pair (q := .f) (by decide) (by rw [dRows_len] at hk; exact hk)) (fun k _ => t_yes) (fun k hk _ => ?_) (by rw [dRows_len]; omega)).to e1))) ea_nil) oa_any) (by rw [e2]))
    show EE K _ [.dat x, .dat (.int n), .dat (.int (rs.getD k (0, 0)).1), .dat (.int (rs.getD k (0, 0)).2)] _ _
    exact e_chain (r3 := .f) (e_dat (i := 2) rfl) (e_dat (i := 1) rfl) (e_dat (i := 3) rfl)

end
end PL

end
section
set_option maxRecDepth 100000
set_option maxHeartbeats 4000000
namespace PL
open PySem PySem.Spec PyProof.Rows L2 Evl
section
variable {P : Program} {w : World} {K : PySem.W.Frag} {mg : Str → Option Value} {base : Heap}

local macro_rules | `(tactic| walk_at "side") => `(tactic| first
  | omega | (exact div_ok (by omega) (by rw [two200]; omega)) | (exact mul200 (by rw [two200]; omega) (by rw [two200]; omega)) | (refine pow_ok (by omega) (by omega) (by decide)))
local macro_rules | `(tactic| walk_at "len") => `(tactic| first | exact Nat.le_of_ble_eq_true rfl | omega | (simp [dRows]; done) | (simp [dRows]; omega))
theorem ok__law_has {f : Addr} {fd : FuncData} (F : Fun K "_law_has" "_law_has" s__law_has f fd) (T : Txt mg) (c_law_in : Has P w K mg base "_law_in" 1 p__law_in (SpN K InR)) (chas_number : Has P w K mg base "has_number" 1 p_has_number (SpN K HasR)) : FnOk P w K mg base CX0 2 f fd p__law_has (SpN K LHasR) := by
  refine F.ok sc__law_has (fun vs H Q E h => ?_) (fun cdv A outer s H vs Q E hr h => ?_)
  · obtain ⟨ds, d, h1, h2, _⟩ := h
    rw [h1.len]; exact LHasR.len h2
  · obtain ⟨ds, d, h1, h2, q⟩ := h
    refine ⟨_,
    (pss_cons
      (ps_set (i := 2) sc__law_has.nd rfl (.inl rfl) (pe_callTy call_list_of (by rfl) T.list (by decide +kernel) (pa_cons (pv 0) pa_nil)))
    (pss_cons
      (ps_set (i := 3) sc__law_has.nd rfl (.inl rfl) (pe_lst (pa_cons pe_int (pa_cons (pe_op op_pow pe_int pe_int) (pa_cons (pe_op op_sub pe_int (pe_op op_pow pe_int pe_int)) pa_nil)))))
    (pss_cons
      (ps_for PassesOwn.never rfl (pi_list (pe_op op_cat (pv 0) (pv 1))) (pg_name (i := 4) sc__law_has.nd rfl (.inl rfl))
        (pss_one
          (ps_set (i := 3) sc__law_has.nd rfl (.inl rfl) (pe_op op_cat (pv 3) (pe_lst (pa_cons (pe_op op_sub (pe_ix (r := rIxT K) ix_tup (pv 4) pe_int (fun _ _ => rfl)) pe_int) (pa_cons (pe_ix (r := rIxT K) ix_tup (pv 4) pe_int (fun _ _ => rfl)) (pa_cons (pe_ix (r := rIxT K) ix_tup (pv 4) pe_int (fun _ _ => rfl)) (pa_cons (pe_op op_add (pe_ix (r := rIxT K) ix_tup (pv 4) pe_int (fun _ _ => rfl)) pe_int) (pa_cons (pe_op op_fdivW (pe_op op_add (pe_ix (r := rIxT K) ix_tup (pv 4) pe_int (fun _ _ => rfl)) (pe_ix (r := rIxT K) ix_tup (pv 4) pe_int (fun _ _ => rfl))) pe_int) pa_nil))))))))))
    (pss_cons
      (ps_for PassesOwn.never rfl (pi_list (pv 3)) (pg_name (i := 5) sc__law_has.nd rfl (.inl rfl))
        (pss_cons
          (ps_set (i := 6) sc__law_has.nd rfl (.inl rfl) (pe_callH chas_number hr (by decide) (by rfl) (pa_cons (pv 2) (pa_cons (pv 5) pa_nil))))
        (pss_one
          (ps_if (PW.pt (pw_or (pt_not (pt_val (pe_callB call_isi (by rfl) T.isinstance (by decide +kernel) (pa_cons (pv 6) (pa_cons (pe_bltn (v := .ty "bool") (by rfl) T.bool (by decide +kernel) rfl) pa_nil))))) (pw_or1 (pt_cmpR op_ne (pv 6) (pe_callH c_law_in hr (by decide) (by rfl) (pa_cons (pv 0) (pa_cons (pv 5) pa_nil))) (nomark _)))))
            (pss_one
              (ps_ret pe_bl))
            pss_nil))))
    (pss_cons
      (ps_if (pt_cmpR (op_neD hr.units) (pv 2) (pv 0) (nomark _))
        (pss_one
          (ps_ret pe_bl))
        pss_nil)
    (pss_cons
      (ps_expr (pe_bm PySem.F.plainAttrs_list PySem.F.slot_list_append PySem.F.type_list_append mt_append (pv 2) (pa_cons (pe_tup (pa_cons (pe_op op_pow pe_int pe_int) (pa_cons (pe_op op_pow pe_int pe_int) pa_nil))) pa_nil)))
    (pss_one
      (ps_ret (pe_and (pe_cmpR op_isBl (pe_callH chas_number hr (by decide) (by rfl) (pa_cons (pv 2) (pa_cons (pe_op op_pow pe_int pe_int) pa_nil))) pe_bl (nomark _)) (pe_one (pe_cmpR op_isBl (pe_callH chas_number hr (by decide) (by rfl) (pa_cons (pe_callTy call_tuple_of (by rfl) T.tuple (by decide +kernel) (pa_cons (pv 0) pa_nil)) (pa_cons (pe_op op_pow pe_int pe_int) pa_nil))) pe_bl (nomark _)))))))))))), ?_⟩
    obtain ⟨as, bs, rfl, b1, b2, nc, rfl⟩ := h2.ex
    refine fin_F (r := .f) h1 (.bl _) ?_ q
    refine run_seq (run_setL (el_list (EE.s (e_dat (i := 0) rfl)))) ?_
    refine run_seq (run_setL (el_lst (ea_cons (e_int (r := .f)) (ea_cons (e_op (r3 := .f) (e_int (r := .f)) (e_int (r := .f)) (o_ic (by walk_at "side"))) (ea_cons (e_op (r3 := .f) (e_int (r := .f)) (e_op (r3 := .f) (e_int (r := .f)) (e_int (r := .f)) (o_ic (by walk_at "side"))) o_i) ea_nil))) (by walk_at "len"))) ?_
    refine run_thru (src_list (q := .f) ((EL.e (el_cat (EE.s (e_dat (i := 0) rfl)) (EE.s (e_dat (i := 1) rfl)) (by walk_at "len"))).to (by rw [dRows_app]))) (fun k _ => puts_name) (fun k ρ => ∃ (is : List Int) (s : Sl), is.length = 3 + 5 * k ∧ ρ = [.dat (.lst (dRows as)), .dat (.lst (dRows bs)), .own (dRows as), .own (is.map D.int), s, .un, .un]) ⟨[0, 10 ^ (59 : Int).toNat, 0 - 10 ^ (59 : Int).toNat], _, rfl, rfl⟩ ?_ ?_
    · intro k ρ hk hI
      obtain ⟨is, s, hl, rfl⟩ := hI
      rw [dRows_len, List.length_append] at hk
      have e : putF (dRows (as ++ bs)) 4 k [.dat (.lst (dRows as)), .dat (.lst (dRows bs)), .own (dRows as), .own (is.map D.int), s, .un, .un] = [.dat (.lst (dRows as)), .dat (.lst (dRows bs)), .own (dRows as), .own (is.map D.int), .dat (dRow ((as ++ bs).getD k (0, 0))), .un, .un] := by
        show [Sl.dat _, Sl.dat _, _, _, Sl.dat ((dRows (as ++ bs)).getD k .non), _, _] = _
        rw [dRows_get (by rw [List.length_append]; exact hk)]
      rw [e]
      generalize (as ++ bs).getD k (0, 0) = r
      refine ⟨_, ⟨is ++ [r.1 - 1, r.1, r.2, r.2 + 1, (r.1 + r.2) / 2], .dat (dRow r), by rw [List.length_append, hl]; show 3 + 5 * k + 5 = 3 + 5 * (k + 1); omega, rfl⟩, ?_⟩
      refine Run.to (run_setL (el_cat (es_own (i := 3) rfl) (EL.s (el_lst (ea_cons (e_op (r3 := .f) (e_op (r3 := .f) (e_dat (i := 4) rfl) (e_int (r := .f)) (o_ixTs (d := .int _) rfl (.int _))) (e_int (r := .f)) o_i) (ea_cons (e_op (r3 := .f) (e_dat (i := 4) rfl) (e_int (r := .f)) (o_ixTs (d := .int _) rfl (.int _))) (ea_cons (e_op (r3 := .f) (e_dat (i := 4) rfl) (e_int (r := .f)) (o_ixTs (d := .int _) rfl (.int _))) (ea_cons (e_op (r3 := .f) (e_op (r3 := .f) (e_dat (i := 4) rfl) (e_int (r := .f)) (o_ixTs (d := .int _) rfl (.int _))) (e_int (r := .f)) o_i) (ea_cons (e_op (r3 := .f) (e_op (r3 := .f) (e_op (r3 := .f) (e_dat (i := 4) rfl) (e_int (r := .f)) (o_ixTs (d := .int _) rfl (.int _))) (e_op (r3 := .f) (e_dat (i := 4) rfl) (e_int (r := .f)) (o_ixTs (d := .int _) rfl (.int _))) o_i) (e_int (r := .f)) (o_ic (by walk_at "side"))) ea_nil))))) (by walk_at "len"))) (by walk_at "len"))) ?_
      rw [List.map_append]; rfl
    · intro ρ hI
      obtain ⟨is, s, hl, rfl⟩ := hI
      rw [dRows_len, List.length_append] at hl
      refine run_freeze (i := 3) (ds := is.map D.int) rfl ?_
      refine run_thru (src_list (q := .f) (e_dat (i := 3) (d := .lst (is.map D.int)) rfl)) (fun k _ => puts_name) (fun k ρ => ∃ t u, ρ = [.dat (.lst (dRows as)), .dat (.lst (dRows bs)), .own (dRows as), .dat (.lst (is.map D.int)), s, t, u]) ⟨_, _, rfl⟩ ?_ ?_
      · intro k ρ hk hI
        obtain ⟨t, u, rfl⟩ := hI
        rw [List.length_map] at hk
        have e : putF (is.map D.int) 5 k [.dat (.lst (dRows as)), .dat (.lst (dRows bs)), .own (dRows as), .dat (.lst (is.map D.int)), s, t, u] = [.dat (.lst (dRows as)), .dat (.lst (dRows bs)), .own (dRows as), .dat (.lst (is.map D.int)), s, .dat (.int (is.getD k 0)), u] := by
          show [Sl.dat _, Sl.dat _, _, _, _, Sl.dat ((is.map D.int).getD k .non), _] = _
          rw [List.getD_eq_getElem?_getD, List.getElem?_map, List.getD_eq_getElem?_getD, List.getElem?_eq_getElem hk]
          rfl
        rw [e]
        generalize is.getD k 0 = x
        have hh : HasR [.lst (dRows as), .int x] (.bl (inR as x)) := ⟨_, as, x, rfl, .inl rfl, by omega, rfl⟩
        refine ⟨_, ⟨.dat (.int x), .dat (.bl (inR as x)), rfl⟩, ?_⟩
        refine run_seq (run_set (e_callN (ea_cons (EE.h (e_own (i := 2) rfl)) (ea_cons (EE.h (e_dat (i := 5) rfl)) ea_nil)) hh)) ?_
        refine run_ifF (ET.to (t_or (t_not (t_val (e_isi (r3 := .f) (b := true) (e_dat (i := 6) rfl) (fun _ z => D.noConfusion z) (by show kitB "bool" "bool" = some true; decide +kernel)))) (fun hb => (t_test (e_op (r3 := .f) (e_dat (i := 6) rfl) (e_callN (ea_cons (EE.h (e_dat (i := 0) rfl)) (ea_cons (EE.h (e_dat (i := 5) rfl)) ea_nil)) (inRR _ _)) o_neB)))) ?_) run_next
        rw [decide_eq_true rfl]; rfl
      · intro ρ hI
        obtain ⟨t, u, rfl⟩ := hI
        have eqg : (!PyData.eqv (toPy (.lst (dRows as))) (toPy (.lst (dRows as)))) = false := by rw [eqv_rows]; rfl
        refine run_seqF (ET.to (t_test (e_op (r3 := .f) (e_own (i := 2) rfl) (e_dat (i := 0) rfl) (o_neD (by exact shaped_rows _) (by exact shaped_rows _)))) eqg) ?_
        refine run_seq (run_append (i := 2) rfl (e_tup (ea_cons (e_op (r3 := .f) (e_int (r := .f)) (e_int (r := .f)) (o_ic (by walk_at "side"))) (ea_cons (e_op (r3 := .f) (e_int (r := .f)) (e_int (r := .f)) (o_ic (by walk_at "side"))) ea_nil)) (by walk_at "len")) (by rw [dRows_len]; omega)) ?_
        have e5 : dRows as ++ [.tup [.int (10 ^ (59 : Int).toNat), .int (10 ^ (59 : Int).toNat)]] = dRows (as ++ [(10 ^ (59 : Int).toNat, 10 ^ (59 : Int).toNat)]) := dRows_snoc as (10 ^ (59 : Int).toNat, 10 ^ (59 : Int).toNat)
        have i1 : inR (as ++ [(10 ^ (59 : Int).toNat, 10 ^ (59 : Int).toNat)]) (10 ^ (59 : Int).toNat) = true := by
          rw [inR_cov]
          exact ⟨_, List.mem_append_right _ (List.mem_singleton.mpr rfl), Int.le_refl _, Int.le_refl _⟩
        have i2 : inR as (10 ^ (59 : Int).toNat) = false := by
          cases e : inR as (10 ^ (59 : Int).toNat) with
          | false => rfl
          | true => exact absurd ((inR_cov _ _).mp e) nc
        have hh1 : HasR [.lst (dRows as ++ [.tup [.int (10 ^ (59 : Int).toNat), .int (10 ^ (59 : Int).toNat)]]), .int (10 ^ (59 : Int).toNat)] (.bl true) := ⟨_, _, _, rfl, .inl (by rw [e5]), by rw [List.length_append]; show as.length + 1 ≤ 1000; omega, by rw [i1]⟩
        have hh2 : HasR [.tup (dRows as), .int (10 ^ (59 : Int).toNat)] (.bl false) := ⟨_, _, _, rfl, .inr rfl, by omega, by rw [i2]⟩
        exact run_ret (EE.to (e_and (r3 := .f) (e_op (r3 := .f) (e_callN (ea_cons (EE.h (e_own (i := 2) rfl)) (ea_cons (EE.h (e_op (r3 := .f) (e_int (r := .f)) (e_int (r := .f)) (o_ic (by walk_at "side")))) ea_nil)) hh1) (e_bl (r := .f) (i := true)) o_isB) (fun _ => e_op (r3 := .f) (e_callN (ea_cons (EE.h (e_tuple (EE.s (e_dat (i := 0) rfl)))) (ea_cons (EE.h (e_op (r3 := .f) (e_int (r := .f)) (e_int (r := .f)) (o_ic (by walk_at "side")))) ea_nil)) hh2) (e_bl (r := .f) (i := false)) o_isB)) rfl)

end
end PL

end
section
set_option maxRecDepth 100000
set_option maxHeartbeats 4000000
namespace PL
open PySem PySem.Spec PyProof.Rows L2 Evl
section
variable {P : Program} {w : World} {K : PySem.W.Frag} {mg : Str → Option Value} {base : Heap}

local macro_rules | `(tactic| walk_at "side") => `(tactic| first
  | omega | (exact div_ok (by omega) (by rw [two200]; omega)) | (exact mul200 (by rw [two200]; omega) (by rw [two200]; omega)) | (refine pow_ok (by omega) (by omega) (by decide)))
local macro_rules | `(tactic| walk_at "len") => `(tactic| first | exact Nat.le_of_ble_eq_true rfl | omega | (simp [dRows]; done) | (simp [dRows]; omega))
theorem ok_law {f : Addr} {fd : FuncData} (F : Fun K "law" "law" s_law f fd) (T : Txt mg) (c_law_common : Has P w K mg base "_law_common" 2 p__law_common (SpN K LComR)) (c_law_draw : Has P w K mg base "_law_draw" 1 p__law_draw (SpN K DrawR)) (c_law_has : Has P w K mg base "_law_has" 2 p__law_has (SpN K LHasR)) (c_law_list : Has P w K mg base "_law_list" 2 p__law_list (SpL K ListR)) (c_law_near : Has P w K mg base "_law_near" 2 p__law_near (SpL K NearR)) (ccommon_stretches : Has P w K mg base "common_stretches" 1 p_common_stretches (SpL K ComR)) : FnOk P w K mg base CX0 3 f fd p_law (SpN K LawR) := by
  refine F.ok sc_law (fun vs H Q E h => ?_) (fun cdv A outer s H vs Q E hr h => ?_)
  · obtain ⟨ds, d, h1, h2, _⟩ := h
    rw [h1.len]; exact LawR.len h2
  · obtain ⟨ds, d, h1, h2, q⟩ := h
    refine ⟨_,
    (pss_cons
      (ps_set (i := 1) sc_law.nd rfl (.inl rfl) (pe_callH c_law_draw hr (by decide) (by rfl) (pa_cons (pv 0) (pa_cons pe_int (pa_cons pe_int (pa_cons pe_int pa_nil))))))
    (pss_cons
      (ps_set (i := 2) sc_law.nd rfl (.inl rfl) (pe_callH c_law_list hr (by decide) (by rfl) (pa_cons (pv 0) (pa_cons pe_int (pa_cons (pv 1) pa_nil)))))
    (pss_cons
      (ps_set (i := 3) sc_law.nd rfl (.inl rfl) (pe_callH c_law_list hr (by decide) (by rfl) (pa_cons (pv 0) (pa_cons pe_int (pa_cons (pv 1) pa_nil)))))
    (pss_cons
      (ps_if (pt_cmpR op_eq (pe_callH c_law_draw hr (by decide) (by rfl) (pa_cons (pv 0) (pa_cons pe_int (pa_cons pe_int (pa_cons pe_int pa_nil))))) pe_int (nomark _))
        (pss_one
          (ps_set (i := 3) sc_law.nd rfl (.inl rfl) (pe_callH c_law_near hr (by decide) (by rfl) (pa_cons (pv 0) (pa_cons pe_int (pa_cons (pv 2) pa_nil))))))
        pss_nil)
    (pss_cons
      (ps_set (i := 4) sc_law.nd rfl (.inl rfl) (pe_callTy call_list_of (by rfl) T.list (by decide +kernel) (pa_cons (pv 2) pa_nil)))
    (pss_cons
      (ps_set (i := 5) sc_law.nd rfl (.inl rfl) (pe_callTy call_list_of (by rfl) T.list (by decide +kernel) (pa_cons (pv 3) pa_nil)))
    (pss_cons
      (ps_set (i := 6) sc_law.nd rfl (.inl rfl) (pe_callH ccommon_stretches hr (by decide) (by rfl) (pa_cons (pv 4) (pa_cons (pv 5) pa_nil))))
    (pss_cons
      (ps_if (PW.pt (pw_or (pt_cmpR (op_neD hr.units) (pv 4) (pv 2) (nomark _)) (pw_or (pt_cmpR (op_neD hr.units) (pv 5) (pv 3) (nomark _)) (pw_or1 (pt_not (pt_val (pe_callH c_law_common hr (by decide) (by rfl) (pa_cons (pv 2) (pa_cons (pv 3) (pa_cons (pv 6) pa_nil))))))))))
        (pss_one
          (ps_ret pe_bl))
        pss_nil)
    (pss_cons
      (ps_expr (pe_bm PySem.F.plainAttrs_list PySem.F.slot_list_append PySem.F.type_list_append mt_append (pv 6) (pa_cons (pe_tup (pa_cons (pe_op op_pow pe_int pe_int) (pa_cons (pe_op op_pow pe_int pe_int) pa_nil))) pa_nil)))
    (pss_cons
      (ps_set (i := 7) sc_law.nd rfl (.inl rfl) (pe_callH ccommon_stretches hr (by decide) (by rfl) (pa_cons (pv 4) (pa_cons (pv 5) pa_nil))))
    (pss_cons
      (ps_if (PW.pt (pw_or (pt_cmpR (op_neD hr.units) (pv 4) (pv 2) (nomark _)) (pw_or (pt_cmpR (op_neD hr.units) (pv 5) (pv 3) (nomark _)) (pw_or1 (pt_not (pt_val (pe_callH c_law_common hr (by decide) (by rfl) (pa_cons (pv 2) (pa_cons (pv 3) (pa_cons (pv 7) pa_nil))))))))))
        (pss_one
          (ps_ret pe_bl))
        pss_nil)
    (pss_cons
      (ps_expr (pe_bm PySem.F.plainAttrs_list PySem.F.slot_list_append PySem.F.type_list_append mt_append (pv 4) (pa_cons (pe_tup (pa_cons (pe_op op_pow pe_int pe_int) (pa_cons (pe_op op_add (pe_op op_pow pe_int pe_int) pe_int) pa_nil))) pa_nil)))
    (pss_cons
      (ps_expr (pe_bm PySem.F.plainAttrs_list PySem.F.slot_list_append PySem.F.type_list_append mt_append (pv 5) (pa_cons (pe_tup (pa_cons (pe_op op_pow pe_int pe_int) (pa_cons (pe_op op_pow pe_int pe_int) pa_nil))) pa_nil)))
    (pss_cons
      (ps_set (i := 8) sc_law.nd rfl (.inl rfl) (pe_callH ccommon_stretches hr (by decide) (by rfl) (pa_cons (pv 4) (pa_cons (pv 5) pa_nil))))
    (pss_cons
      (ps_if (PW.pt (pw_or (pt_not (pt_val (pe_callH c_law_common hr (by decide) (by rfl) (pa_cons (pv 2) (pa_cons (pv 3) (pa_cons (pv 7) pa_nil)))))) (pw_or1 (pt_not (pt_val (pe_callH c_law_common hr (by decide) (by rfl) (pa_cons (pe_callTy call_list_of (by rfl) T.list (by decide +kernel) (pa_cons (pv 4) pa_nil)) (pa_cons (pe_callTy call_list_of (by rfl) T.list (by decide +kernel) (pa_cons (pv 5) pa_nil)) (pa_cons (pv 8) pa_nil)))))))))
        (pss_one
          (ps_ret pe_bl))
        pss_nil)
    (pss_cons
      (ps_if (pt_not (pt_val (pe_callH c_law_common hr (by decide) (by rfl) (pa_cons (pv 3) (pa_cons (pv 2) (pa_cons (pe_callH ccommon_stretches hr (by decide) (by rfl) (pa_cons (pe_callTy call_tuple_of (by rfl) T.tuple (by decide +kernel) (pa_cons (pv 3) pa_nil)) (pa_cons (pe_callTy call_list_of (by rfl) T.list (by decide +kernel) (pa_cons (pv 2) pa_nil)) pa_nil))) pa_nil))))))
        (pss_one
          (ps_ret pe_bl))
        pss_nil)
    (pss_cons
      (ps_if (pt_not (pt_val (pe_callH c_law_common hr (by decide) (by rfl) (pa_cons (pv 2) (pa_cons (pv 2) (pa_cons (pe_callH ccommon_stretches hr (by decide) (by rfl) (pa_cons (pe_callTy call_list_of (by rfl) T.list (by decide +kernel) (pa_cons (pv 2) pa_nil)) (pa_cons (pe_callTy call_tuple_of (by rfl) T.tuple (by decide +kernel) (pa_cons (pv 2) pa_nil)) pa_nil))) pa_nil))))))
        (pss_one
          (ps_ret pe_bl))
        pss_nil)
    (pss_one
      (ps_ret (pe_and (pe_callH c_law_has hr (by decide) (by rfl) (pa_cons (pv 2) (pa_cons (pv 3) pa_nil))) (pe_one (pe_callH c_law_has hr (by decide) (by rfl) (pa_cons (pv 3) (pa_cons (pv 2) pa_nil)))))))))))))))))))))))), ?_⟩
    obtain ⟨ns, rfl, b1, rfl⟩ := h2.ex
    refine fin_F (r := .f) h1 (.bl _) ?_ q
    refine run_seq (run_set (e_callN (ea_cons (EE.h (e_dat (i := 0) rfl)) (ea_cons (EE.h (e_int (r := .f))) (ea_cons (EE.h (e_int (r := .f))) (ea_cons (EE.h (e_int (r := .f))) ea_nil)))) (drawR b1 (by omega) (by omega) (by omega)))) ?_
    generalize draw ns 0 0 4 = sh
    have hl1 : ListR [.scr ns, .int 1, .int sh] (dRows (listN ns 1 sh)) := ⟨ns, 1, sh, rfl, b1, by omega, by omega, rfl⟩
    have hl2 : ListR [.scr ns, .int 2, .int sh] (dRows (listN ns 2 sh)) := ⟨ns, 2, sh, rfl, b1, by omega, by omega, rfl⟩
    obtain ⟨t1, n1⟩ := listN_ok ns 1 sh
    obtain ⟨t2, n2⟩ := listN_ok ns 2 sh
    generalize listN ns 1 sh = as at hl1 t1 n1
    generalize listN ns 2 sh = b0 at hl2 t2 n2
    refine run_seq (run_setL (el_callL (ea_cons (EE.h (e_dat (i := 0) rfl)) (ea_cons (EE.h (e_int (r := .f))) (ea_cons (EE.h (e_dat (i := 1) rfl)) ea_nil))) hl1)) ?_
    refine run_seq (run_setL (el_callL (ea_cons (EE.h (e_dat (i := 0) rfl)) (ea_cons (EE.h (e_int (r := .f))) (ea_cons (EE.h (e_dat (i := 1) rfl)) ea_nil))) hl2)) ?_
    obtain ⟨t3, n3⟩ := nearN_ok ns 3 t1
    have hnr : NearR [.scr ns, .int 3, .lst (dRows as)] (dRows (nearN ns 3 as)) := ⟨ns, 3, as, rfl, b1, by omega, by omega, by omega, ⟨_, t1⟩, rfl⟩
    obtain ⟨bs, hbs⟩ : ∃ bs, bs = if draw ns 0 1 2 = 0 then nearN ns 3 as else b0 := ⟨_, rfl⟩
    obtain ⟨t4, n4⟩ : Tidy big bs ∧ bs.length ≤ 18 := by
      rw [hbs]
      split
      · exact ⟨t3, by omega⟩
      · exact ⟨t2.wide (by unfold big; omega), n2⟩
    refine run_seq (ρ1 := [.dat (.scr ns), .dat (.int sh), .own (dRows as), .own (dRows bs), .un, .un, .un, .un, .un]) (run_if (b := decide (draw ns 0 1 2 = 0)) (t_test (e_op (r3 := .f) (e_callN (ea_cons (EE.h (e_dat (i := 0) rfl)) (ea_cons (EE.h (e_int (r := .f))) (ea_cons (EE.h (e_int (r := .f))) (ea_cons (EE.h (e_int (r := .f))) ea_nil)))) (drawR b1 (by omega) (by omega) (by omega))) (e_int (r := .f)) o_eqI)) (fun hb => ?_) (fun hb => ?_)) ?_
    · have e : bs = nearN ns 3 as := by rw [hbs, if_pos (of_decide_eq_true hb)]
      rw [e]
      exact Run.to (run_setL (el_callL (ea_cons (EE.h (e_dat (i := 0) rfl)) (ea_cons (EE.h (e_int (r := .f))) (ea_cons (EE.h (e_own (i := 2) rfl)) ea_nil))) hnr)) rfl
    · have e : bs = b0 := by rw [hbs, if_neg (of_decide_eq_false hb)]
      rw [e]
      exact Run.to run_next rfl
    have t1' := t1.wide (show big - 1 ≤ big by unfold big; omega)
    refine run_freeze (i := 2) (ds := dRows as) rfl ?_
    refine run_freeze (i := 3) (ds := dRows bs) rfl ?_
    refine run_seq (run_setL (el_list (EE.s (e_dat (i := 2) rfl)))) ?_
    refine run_seq (run_setL (el_list (EE.s (e_dat (i := 3) rfl)))) ?_
    have cl : ∀ a b : List (Int × Int), a.length ≤ 20 → b.length ≤ 20 → (comN a b).length ≤ 400 := fun a b ha hb => Nat.le_trans (comN_len a b) (Nat.mul_le_mul ha hb)
    have hc1 : ComR [.lst (dRows as), .lst (dRows bs)] (dRows (comN as bs)) := ⟨_, _, as, bs, rfl, .inl rfl, .inl rfl, by omega, by omega, rfl⟩
    have l1 := cl as bs (by omega) (by omega)
    have hk1 : LComR [.lst (dRows as), .lst (dRows bs), .lst (dRows (comN as bs))] (.bl true) := ⟨as, bs, _, rfl, by omega, by omega, by omega, fineC t1.good t4.good, rfl⟩
    refine run_seq (run_setL (el_callL (ea_cons (EE.h (e_own (i := 4) rfl)) (ea_cons (EE.h (e_own (i := 5) rfl)) ea_nil)) hc1)) ?_
    have eqa : (!PyData.eqv (toPy (.lst (dRows as))) (toPy (.lst (dRows as)))) = false := by rw [eqv_rows]; rfl
    have eqb : (!PyData.eqv (toPy (.lst (dRows bs))) (toPy (.lst (dRows bs)))) = false := by rw [eqv_rows]; rfl
    refine run_seqF (ET.to (t_or (t_test (e_op (r3 := .f) (e_own (i := 4) rfl) (e_dat (i := 2) rfl) (o_neD (by exact shaped_rows _) (by exact shaped_rows _)))) (fun hb => (t_or (t_test (e_op (r3 := .f) (e_own (i := 5) rfl) (e_dat (i := 3) rfl) (o_neD (by exact shaped_rows _) (by exact shaped_rows _)))) (fun hb => (t_not (t_val (e_callN (ea_cons (EE.h (e_dat (i := 2) rfl)) (ea_cons (EE.h (e_dat (i := 3) rfl)) (ea_cons (EE.h (e_own (i := 6) rfl)) ea_nil))) hk1))))))) (by rw [eqa, eqb]; rfl)) ?_
    refine run_seq (run_append (i := 6) rfl (e_tup (ea_cons (e_op (r3 := .f) (e_int (r := .f)) (e_int (r := .f)) (o_ic (by walk_at "side"))) (ea_cons (e_op (r3 := .f) (e_int (r := .f)) (e_int (r := .f)) (o_ic (by walk_at "side"))) ea_nil)) (by walk_at "len")) (by rw [dRows_len]; omega)) ?_
    refine run_seq (run_setL (el_callL (ea_cons (EE.h (e_own (i := 4) rfl)) (ea_cons (EE.h (e_own (i := 5) rfl)) ea_nil)) hc1)) ?_
    refine run_seqF (ET.to (t_or (t_test (e_op (r3 := .f) (e_own (i := 4) rfl) (e_dat (i := 2) rfl) (o_neD (by exact shaped_rows _) (by exact shaped_rows _)))) (fun hb => (t_or (t_test (e_op (r3 := .f) (e_own (i := 5) rfl) (e_dat (i := 3) rfl) (o_neD (by exact shaped_rows _) (by exact shaped_rows _)))) (fun hb => (t_not (t_val (e_callN (ea_cons (EE.h (e_dat (i := 2) rfl)) (ea_cons (EE.h (e_dat (i := 3) rfl)) (ea_cons (EE.h (e_own (i := 7) rfl)) ea_nil))) hk1))))))) (by rw [eqa, eqb]; rfl)) ?_
    refine run_seq (run_append (i := 4) (ds := dRows as) rfl (e_tup (ea_cons (e_op (r3 := .f) (e_int (r := .f)) (e_int (r := .f)) (o_ic (by walk_at "side"))) (ea_cons (e_op (r3 := .f) (e_op (r3 := .f) (e_int (r := .f)) (e_int (r := .f)) (o_ic (by walk_at "side"))) (e_int (r := .f)) o_i) ea_nil)) (by walk_at "len")) (by rw [dRows_len]; omega)) ?_
    refine run_seq (run_append (i := 5) (ds := dRows bs) rfl (e_tup (ea_cons (e_op (r3 := .f) (e_int (r := .f)) (e_int (r := .f)) (o_ic (by walk_at "side"))) (ea_cons (e_op (r3 := .f) (e_int (r := .f)) (e_int (r := .f)) (o_ic (by walk_at "side"))) ea_nil)) (by walk_at "len")) (by rw [dRows_len]; omega)) ?_
    have ea : dRows as ++ [.tup [.int (10 ^ (58 : Int).toNat), .int (10 ^ (58 : Int).toNat + 1)]] = dRows (as ++ [(10 ^ (58 : Int).toNat, 10 ^ (58 : Int).toNat + 1)]) := dRows_snoc as (10 ^ (58 : Int).toNat, 10 ^ (58 : Int).toNat + 1)
    have eb : dRows bs ++ [.tup [.int (10 ^ (58 : Int).toNat), .int (10 ^ (58 : Int).toNat)]] = dRows (bs ++ [(10 ^ (58 : Int).toNat, 10 ^ (58 : Int).toNat)]) := dRows_snoc bs (10 ^ (58 : Int).toNat, 10 ^ (58 : Int).toNat)
    have ga : Good (as ++ [(10 ^ (58 : Int).toNat, 10 ^ (58 : Int).toNat + 1)]) := good_snoc t1.good (by rw [p58]; omega) fun r hr => by
      have := t1'.hi r hr
      show r.2 + 2 ≤ 10 ^ (58 : Int).toNat
      rw [p58]; unfold big at this; omega
    have gb : Good (bs ++ [(10 ^ (58 : Int).toNat, 10 ^ (58 : Int).toNat)]) := good_snoc t4.good (by rw [p58]; omega) fun r hr => by
      have := t4.hi r hr
      show r.2 + 2 ≤ 10 ^ (58 : Int).toNat
      rw [p58]; unfold big at this; omega
    have la : (as ++ [((10 : Int) ^ (58 : Int).toNat, (10 : Int) ^ (58 : Int).toNat + 1)]).length = as.length + 1 := by rw [List.length_append]; rfl
    have lb : (bs ++ [((10 : Int) ^ (58 : Int).toNat, (10 : Int) ^ (58 : Int).toNat)]).length = bs.length + 1 := by rw [List.length_append]; rfl
    generalize as ++ [((10 : Int) ^ (58 : Int).toNat, (10 : Int) ^ (58 : Int).toNat + 1)] = a2 at ea ga la
    generalize bs ++ [((10 : Int) ^ (58 : Int).toNat, (10 : Int) ^ (58 : Int).toNat)] = b2 at eb gb lb
    show Run K _ [_, _, _, _, .own (dRows as ++ [_]), .own (dRows bs ++ [_]), _, _, _] _
    rw [ea, eb]
    have l2 := cl a2 b2 (by omega) (by omega)
    have hc2 : ComR [.lst (dRows a2), .lst (dRows b2)] (dRows (comN a2 b2)) := ⟨_, _, a2, b2, rfl, .inl rfl, .inl rfl, by omega, by omega, rfl⟩
    have hk2 : LComR [.lst (dRows a2), .lst (dRows b2), .lst (dRows (comN a2 b2))] (.bl true) := ⟨a2, b2, _, rfl, by omega, by omega, by omega, fineC ga gb, rfl⟩
    refine run_seq (run_setL (el_callL (ea_cons (EE.h (e_own (i := 4) rfl)) (ea_cons (EE.h (e_own (i := 5) rfl)) ea_nil)) hc2)) ?_
    refine run_seqF (ET.to (t_or (t_not (t_val (e_callN (ea_cons (EE.h (e_dat (i := 2) rfl)) (ea_cons (EE.h (e_dat (i := 3) rfl)) (ea_cons (EE.h (e_own (i := 7) rfl)) ea_nil))) hk1))) (fun hb => (t_not (t_val (e_callN (ea_cons (EE.h (EL.e (el_list (es_own (i := 4) rfl)))) (ea_cons (EE.h (EL.e (el_list (es_own (i := 5) rfl)))) (ea_cons (EE.h (e_own (i := 8) rfl)) ea_nil))) hk2))))) rfl) ?_
    have l3 := cl bs as (by omega) (by omega)
    have hc4 : ComR [.tup (dRows bs), .lst (dRows as)] (dRows (comN bs as)) := ⟨_, _, bs, as, rfl, .inr rfl, .inl rfl, by omega, by omega, rfl⟩
    have hk4 : LComR [.lst (dRows bs), .lst (dRows as), .lst (dRows (comN bs as))] (.bl true) := ⟨bs, as, _, rfl, by omega, by omega, by omega, fineC t4.good t1.good, rfl⟩
    refine run_seqF (ET.to (t_not (t_val (e_callN (ea_cons (EE.h (e_dat (i := 3) rfl)) (ea_cons (EE.h (e_dat (i := 2) rfl)) (ea_cons (EE.h (EL.e (el_callL (ea_cons (EE.h (e_tuple (EE.s (e_dat (i := 3) rfl)))) (ea_cons (EE.h (EL.e (el_list (EE.s (e_dat (i := 2) rfl))))) ea_nil)) hc4))) ea_nil))) hk4))) rfl) ?_
    have l4 := cl as as (by omega) (by omega)
    have hc5 : ComR [.lst (dRows as), .tup (dRows as)] (dRows (comN as as)) := ⟨_, _, as, as, rfl, .inl rfl, .inr rfl, by omega, by omega, rfl⟩
    have hk5 : LComR [.lst (dRows as), .lst (dRows as), .lst (dRows (comN as as))] (.bl true) := ⟨as, as, _, rfl, by omega, by omega, by omega, fineC t1.good t1.good, rfl⟩
    refine run_seqF (ET.to (t_not (t_val (e_callN (ea_cons (EE.h (e_dat (i := 2) rfl)) (ea_cons (EE.h (e_dat (i := 2) rfl)) (ea_cons (EE.h (EL.e (el_callL (ea_cons (EE.h (EL.e (el_list (EE.s (e_dat (i := 2) rfl))))) (ea_cons (EE.h (e_tuple (EE.s (e_dat (i := 2) rfl)))) ea_nil)) hc5))) ea_nil))) hk5))) rfl) ?_
    have nc : ∀ rs : List (Int × Int), Tidy big rs → ¬ covR rs (10 ^ (59 : Int).toNat) := fun rs t hcv => by
      obtain ⟨r, hr, _, hx⟩ := hcv
      have := t.hi r hr
      rw [p59] at hx
      unfold big at this
      omega
    have hh1 : LHasR [.lst (dRows as), .lst (dRows bs)] (.bl true) := ⟨as, bs, rfl, by omega, by omega, nc as t1', rfl⟩
    have hh2 : LHasR [.lst (dRows bs), .lst (dRows as)] (.bl true) := ⟨bs, as, rfl, by omega, by omega, nc bs t4, rfl⟩
    exact run_ret (EE.to (e_and (r3 := .f) (e_callN (ea_cons (EE.h (e_dat (i := 2) rfl)) (ea_cons (EE.h (e_dat (i := 3) rfl)) ea_nil)) hh1) (fun _ => e_callN (ea_cons (EE.h (e_dat (i := 3) rfl)) (ea_cons (EE.h (e_dat (i := 2) rfl)) ea_nil)) hh2)) rfl)

end
end PL

end
set_option maxRecDepth 100000
set_option maxHeartbeats 4000000
namespace PL
open PySem PySem.Spec PyProof.Rows L2 Evl
theorem all_mk {l : PySem.W.OpenLaw} {w : World} {K : PySem.W.Frag} {h : Heap} {mg : Str → Option Value} {fa f0 f1 f2 f3 f4 f5 f6 f7 f8 f9 : Addr} (X : K.In h) (G : h.Ns mainGlobals mg) (hfa : mg "law" = some (.ref fa))
    {od0 an0 od1 an1 od2 an2 od3 an3 od4 an4 od5 an5 od6 an6 od7 an7 od8 an8 od9 an9 : Option Addr} {sl0 sl1 sl2 sl3 sl4 sl5 sl6 sl7 sl8 sl9 : Array (Option Value)} {oc0 kV0 dc0 pm0 cd0 ct0 oc1 kV1 dc1 pm1 cd1 ct1 oc2 kV2 dc2 pm2 cd2 ct2 oc3 kV3 dc3 pm3 cd3 ct3 oc4 kV4 dc4 pm4 cd4 ct4 oc5 kV5 dc5 pm5 cd5 ct5 oc6 kV6 dc6 pm6 cd6 ct6 oc7 kV7 dc7 pm7 cd7 ct7 oc8 kV8 dc8 pm8 cd8 ct8 oc9 kV9 dc9 pm9 cd9 ct9 : Value}
    (a0 : PySem.W.nsIn K mainGlobals "_law_draw" = some (some (.ref f0))) (l0 : K.lookup f0 = some ⟨oc0, od0, .func (PySem.W.fnOf "_law_draw" "_law_draw" (defArgs s__law_draw) (defBody s__law_draw) (defScope s__law_draw) .none kV0 dc0 pm0 an0 cd0 ct0), sl0⟩) (c0 : PySem.W.codeIn K cd0 "_law_draw" = true) (k0 : PySem.W.keepIn K (.ref f0) = true)
    (a1 : PySem.W.nsIn K mainGlobals "_law_is_integer" = some (some (.ref f1))) (l1 : K.lookup f1 = some ⟨oc1, od1, .func (PySem.W.fnOf "_law_is_integer" "_law_is_integer" (defArgs s__law_is_integer) (defBody s__law_is_integer) (defScope s__law_is_integer) .none kV1 dc1 pm1 an1 cd1 ct1), sl1⟩) (c1 : PySem.W.codeIn K cd1 "_law_is_integer" = true) (k1 : PySem.W.keepIn K (.ref f1) = true)
    (a2 : PySem.W.nsIn K mainGlobals "_law_in" = some (some (.ref f2))) (l2 : K.lookup f2 = some ⟨oc2, od2, .func (PySem.W.fnOf "_law_in" "_law_in" (defArgs s__law_in) (defBody s__law_in) (defScope s__law_in) .none kV2 dc2 pm2 an2 cd2 ct2), sl2⟩) (c2 : PySem.W.codeIn K cd2 "_law_in" = true) (k2 : PySem.W.keepIn K (.ref f2) = true)
    (a3 : PySem.W.nsIn K mainGlobals "_law_list" = some (some (.ref f3))) (l3 : K.lookup f3 = some ⟨oc3, od3, .func (PySem.W.fnOf "_law_list" "_law_list" (defArgs s__law_list) (defBody s__law_list) (defScope s__law_list) .none kV3 dc3 pm3 an3 cd3 ct3), sl3⟩) (c3 : PySem.W.codeIn K cd3 "_law_list" = true) (k3 : PySem.W.keepIn K (.ref f3) = true)
    (a4 : PySem.W.nsIn K mainGlobals "_law_near" = some (some (.ref f4))) (l4 : K.lookup f4 = some ⟨oc4, od4, .func (PySem.W.fnOf "_law_near" "_law_near" (defArgs s__law_near) (defBody s__law_near) (defScope s__law_near) .none kV4 dc4 pm4 an4 cd4 ct4), sl4⟩) (c4 : PySem.W.codeIn K cd4 "_law_near" = true) (k4 : PySem.W.keepIn K (.ref f4) = true)
    (a5 : PySem.W.nsIn K mainGlobals "_law_common" = some (some (.ref f5))) (l5 : K.lookup f5 = some ⟨oc5, od5, .func (PySem.W.fnOf "_law_common" "_law_common" (defArgs s__law_common) (defBody s__law_common) (defScope s__law_common) .none kV5 dc5 pm5 an5 cd5 ct5), sl5⟩) (c5 : PySem.W.codeIn K cd5 "_law_common" = true) (k5 : PySem.W.keepIn K (.ref f5) = true)
    (a6 : PySem.W.nsIn K mainGlobals "common_stretches" = some (some (.ref f6))) (l6 : K.lookup f6 = some ⟨oc6, od6, .func (PySem.W.fnOf "common_stretches" "common_stretches" (defArgs s_common_stretches) (defBody s_common_stretches) (defScope s_common_stretches) .none kV6 dc6 pm6 an6 cd6 ct6), sl6⟩) (c6 : PySem.W.codeIn K cd6 "common_stretches" = true) (k6 : PySem.W.keepIn K (.ref f6) = true)
    (a7 : PySem.W.nsIn K mainGlobals "has_number" = some (some (.ref f7))) (l7 : K.lookup f7 = some ⟨oc7, od7, .func (PySem.W.fnOf "has_number" "has_number" (defArgs s_has_number) (defBody s_has_number) (defScope s_has_number) .none kV7 dc7 pm7 an7 cd7 ct7), sl7⟩) (c7 : PySem.W.codeIn K cd7 "has_number" = true) (k7 : PySem.W.keepIn K (.ref f7) = true)
    (a8 : PySem.W.nsIn K mainGlobals "_law_has" = some (some (.ref f8))) (l8 : K.lookup f8 = some ⟨oc8, od8, .func (PySem.W.fnOf "_law_has" "_law_has" (defArgs s__law_has) (defBody s__law_has) (defScope s__law_has) .none kV8 dc8 pm8 an8 cd8 ct8), sl8⟩) (c8 : PySem.W.codeIn K cd8 "_law_has" = true) (k8 : PySem.W.keepIn K (.ref f8) = true)
    (a9 : PySem.W.nsIn K mainGlobals "law" = some (some (.ref f9))) (l9 : K.lookup f9 = some ⟨oc9, od9, .func (PySem.W.fnOf "law" "law" (defArgs s_law) (defBody s_law) (defScope s_law) .none kV9 dc9 pm9 an9 cd9 ct9), sl9⟩) (c9 : PySem.W.codeIn K cd9 "law" = true) (k9 : PySem.W.keepIn K (.ref f9) = true)
    (z_any : PySem.W.nsIn K mainGlobals "any" = some none)
    (z_bool : PySem.W.nsIn K mainGlobals "bool" = some none)
    (z_int : PySem.W.nsIn K mainGlobals "int" = some none)
    (z_isinstance : PySem.W.nsIn K mainGlobals "isinstance" = some none)
    (z_len : PySem.W.nsIn K mainGlobals "len" = some none)
    (z_list : PySem.W.nsIn K mainGlobals "list" = some none)
    (z_max : PySem.W.nsIn K mainGlobals "max" = some none)
    (z_min : PySem.W.nsIn K mainGlobals "min" = some none)
    (z_range : PySem.W.nsIn K mainGlobals "range" = some none)
    (z_tuple : PySem.W.nsIn K mainGlobals "tuple" = some none)
    : ∃ fd : FuncData, (∀ (s : Shared) (v : Value), BindsTo s fd ⟨[v], []⟩ [("_law_script", v)]) ∧ ∀ base : Heap, K.In base → base.Ns mainGlobals mg → FnOk l.prog w K mg base CX0 3 fa fd p_law (SpN K LawR) := by
  have e := hfa.symm.trans (PySem.W.mg_of X G a9)
  cases e
  have T : Txt mg := ⟨PySem.W.mg_none_of X G z_any, PySem.W.mg_none_of X G z_bool, PySem.W.mg_none_of X G z_int, PySem.W.mg_none_of X G z_isinstance, PySem.W.mg_none_of X G z_len, PySem.W.mg_none_of X G z_list, PySem.W.mg_none_of X G z_max, PySem.W.mg_none_of X G z_min, PySem.W.mg_none_of X G z_range, PySem.W.mg_none_of X G z_tuple⟩
  have F0 := fun_mk (st := s__law_draw) l0 c0 k0
  have F1 := fun_mk (st := s__law_is_integer) l1 c1 k1
  have F2 := fun_mk (st := s__law_in) l2 c2 k2
  have F3 := fun_mk (st := s__law_list) l3 c3 k3
  have F4 := fun_mk (st := s__law_near) l4 c4 k4
  have F5 := fun_mk (st := s__law_common) l5 c5 k5
  have F6 := fun_mk (st := s_common_stretches) l6 c6 k6
  have F7 := fun_mk (st := s_has_number) l7 c7 k7
  have F8 := fun_mk (st := s__law_has) l8 c8 k8
  have F9 := fun_mk (st := s_law) l9 c9 k9
  refine ⟨PySem.W.fnOf "law" "law" (defArgs s_law) (defBody s_law) (defScope s_law) .none kV9 dc9 pm9 an9 cd9 ct9, fun s v => .of_eq rfl, fun base _ _ => ?_⟩
  have h0 : Has l.prog w K mg base "_law_draw" 1 p__law_draw (SpN K DrawR) := ⟨_, _, ok__law_draw F0 T, PySem.W.mg_of X G a0, k0, F0.binds (ps := p__law_draw) fun _ _ _ _ _ _ us hl => match us, hl with | [_, _, _, _], _ => rfl⟩
  have h1 : Has l.prog w K mg base "_law_is_integer" 1 p__law_is_integer (SpN K IsIntR) := ⟨_, _, ok__law_is_integer F1 T, PySem.W.mg_of X G a1, k1, F1.binds (ps := p__law_is_integer) fun _ _ _ _ _ _ us hl => match us, hl with | [_], _ => rfl⟩
  have h2 : Has l.prog w K mg base "_law_in" 1 p__law_in (SpN K InR) := ⟨_, _, ok__law_in F2 T, PySem.W.mg_of X G a2, k2, F2.binds (ps := p__law_in) fun _ _ _ _ _ _ us hl => match us, hl with | [_, _], _ => rfl⟩
  have h3 : Has l.prog w K mg base "_law_list" 2 p__law_list (SpL K ListR) := ⟨_, _, ok__law_list F3 T h0, PySem.W.mg_of X G a3, k3, F3.binds (ps := p__law_list) fun _ _ _ _ _ _ us hl => match us, hl with | [_, _, _], _ => rfl⟩
  have h4 : Has l.prog w K mg base "_law_near" 2 p__law_near (SpL K NearR) := ⟨_, _, ok__law_near F4 T h0, PySem.W.mg_of X G a4, k4, F4.binds (ps := p__law_near) fun _ _ _ _ _ _ us hl => match us, hl with | [_, _, _], _ => rfl⟩
  have h5 : Has l.prog w K mg base "_law_common" 2 p__law_common (SpN K LComR) := ⟨_, _, ok__law_common F5 T h2 h1, PySem.W.mg_of X G a5, k5, F5.binds (ps := p__law_common) fun _ _ _ _ _ _ us hl => match us, hl with | [_, _, _], _ => rfl⟩
  have h6 : Has l.prog w K mg base "common_stretches" 1 p_common_stretches (SpL K ComR) := ⟨_, _, ok_common_stretches F6 T, PySem.W.mg_of X G a6, k6, F6.binds (ps := p_common_stretches) fun _ _ _ _ _ _ us hl => match us, hl with | [_, _], _ => rfl⟩
  have h7 : Has l.prog w K mg base "has_number" 1 p_has_number (SpN K HasR) := ⟨_, _, ok_has_number F7 T, PySem.W.mg_of X G a7, k7, F7.binds (ps := p_has_number) fun _ _ _ _ _ _ us hl => match us, hl with | [_, _], _ => rfl⟩
  have h8 : Has l.prog w K mg base "_law_has" 2 p__law_has (SpN K LHasR) := ⟨_, _, ok__law_has F8 T h2 h7, PySem.W.mg_of X G a8, k8, F8.binds (ps := p__law_has) fun _ _ _ _ _ _ us hl => match us, hl with | [_, _], _ => rfl⟩
  exact ok_law F9 T h5 h0 h8 h3 h4 h6
end PL
open PySem PySem.W PyProof.Rows
set_option maxHeartbeats 0 in
theorem PySem.Challenge.cw_everyfuture_k02_common_stretches_holds : PySem.Challenge.rw_everyfuture_k02_common_stretches.Holds := by
  w_on; o_law; k_head; (case hw => w_witness2)
  k_fill
  refine L2.walk_of (l := PySem.Challenge.rw_everyfuture_k02_common_stretches) (n := 63) (k := 3) (x := "_law_script") (CX := fun _ => L2.CX0) (sp := fun w => PL.SpN _ PL.LawR) rfl (by decide) rfl ⟨rfl, by decide, by decide⟩ (fun w h Y => PySem.W.kIn_of Y) ?F (fun w H a ns hl _ hS => ⟨[.scr ns], .bl true, .cons (.scr hS) .nil, ⟨ns, rfl, hl, rfl⟩, fun v Hn H' _ dv => dv.bl_inv⟩) (fun _ _ _ _ _ h => h)
  case F =>
    intro w mg fa h KX G hmg
    refine' PL.all_mk KX G hmg ?a0 ?l0 ?c0 ?k0 ?a1 ?l1 ?c1 ?k1 ?a2 ?l2 ?c2 ?k2 ?a3 ?l3 ?c3 ?k3 ?a4 ?l4 ?c4 ?k4 ?a5 ?l5 ?c5 ?k5 ?a6 ?l6 ?c6 ?k6 ?a7 ?l7 ?c7 ?k7 ?a8 ?l8 ?c8 ?k8 ?a9 ?l9 ?c9 ?k9 ?z_any ?z_bool ?z_int ?z_isinstance ?z_len ?z_list ?z_max ?z_min ?z_range ?z_tuple
    (case a0 => k_is); (case l0 => k_is); (case c0 => k_is); (case k0 => k_is); (case a1 => k_is); (case l1 => k_is); (case c1 => k_is); (case k1 => k_is); (case a2 => k_is); (case l2 => k_is); (case c2 => k_is); (case k2 => k_is); (case a3 => k_is); (case l3 => k_is); (case c3 => k_is); (case k3 => k_is); (case a4 => k_is); (case l4 => k_is); (case c4 => k_is); (case k4 => k_is); (case a5 => k_is); (case l5 => k_is); (case c5 => k_is); (case k5 => k_is); (case a6 => k_is); (case l6 => k_is); (case c6 => k_is); (case k6 => k_is); (case a7 => k_is); (case l7 => k_is); (case c7 => k_is); (case k7 => k_is); (case a8 => k_is); (case l8 => k_is); (case c8 => k_is); (case k8 => k_is); (case a9 => k_is); (case l9 => k_is); (case c9 => k_is); (case k9 => k_is); (case z_any => k_is); (case z_bool => k_is); (case z_int => k_is); (case z_isinstance => k_is); (case z_len => k_is); (case z_list => k_is); (case z_max => k_is); (case z_min => k_is); (case z_range => k_is); (case z_tuple => k_is)
