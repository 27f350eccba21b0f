import PyProof.Rows.All
import Wide.All
import OpenK.AllK
import Wide.FinOn
import HandS.ForMost
import HandS.ForExc
import HandS.Evl
import HandS.IsInst
import HandS.Wide
import HandS.SortRule
import HandS.Conv
import HandS.Exc
import HandS.Style
import HandS.More
import HandS.ExcOwn
import HandS.MakeKw
import HandS.AnyAll
import HandS.WordsExc
import PyProof.TupleOfSeq
import PySem.Challenge.RW_everyfuture_k18_merges
set_option Elab.async false
set_option linter.all false
section
set_option maxRecDepth 100000
set_option maxHeartbeats 4000000
/-! sorted(xs) of pairs of ints, xs a list or a tuple -/
namespace SrtO
open PySem PyProof.Rows Srt
section
variable {prog : Program} {w : World} {A : Around} {E : Value → Shared → Prop} {s : Shared}
theorem sorted_pairsS {l : Addr} {o : Obj} {n : Nat} {T : String} {vs : List Value} {k : Value → Int × Int} {Q : Value → Shared → Prop} (hT : T = "list" ∨ T = "tuple") (ho : s.heap.get? l = some o) (hc : o.cls = .type T) (hd : o.data = .seq vs.toArray n)
    (hz : vs.length ≤ sizeLine) (hp : ∀ v ∈ vs, IsPair s.heap v (k v).1 (k v).2)
    (h : ∀ (h' : Heap) (d : Addr) (out : List Value), Srtd (fun v u => lexB (k v) (k u)) out → Stb (fun v u => lexB (k v) (k u)) out vs → (∃ h1 : Heap, (∀ b o, s.heap.get? b = some o → h1.get? b = some o) ∧ (∀ b o, h1.get? b = some o → h'.get? b = some o) ∧ h1.objs.size ≤ d) → (∃ n, h'.get? d = some (seqObj "list" out.toArray n)) → Q (.ref d) { s with heap := h' }) :
    wpAny (model prog w) A (call (.builtin "sorted") [.ref l]) Q E s := by
  refine Calls.call_function_entry kind_sorted plain_sorted entry_sorted (args_sorted1 _) ?_
  unfold Builtin.«sorted»
  refine wpAny_bind (m := checkCount "sorted" 1 1 _) (wpAny_pure ?_)
  refine wpAny_bind (wpAny_collect_seq l hT ho hc hd (fun h1 keep => ?_) (by rw [List.size_toArray]; exact hz))
  refine wpAny_bind (wpAny_newList ?_ (by simpa using hz))
  have e0 : vs.toArray.toList = vs := by simp
  rw [e0]
  have hoL : (h1.push (seqObj "list" vs.toArray 0)).get? h1.objs.size = some (seqObj "list" vs.toArray 0) := Heap.get?_push_size _ rfl
  have keep2 : ∀ b o, s.heap.get? b = some o → (h1.push (seqObj "list" vs.toArray 0)).get? b = some o := fun b o q => Heap.get?_push_of_some _ (keep b o q)
  show wpAny _ _ _ _ _ { s with heap := h1.push (seqObj "list" vs.toArray 0) }
  refine wpAny_bind (wpAny_holding (wpAny_call_entry slot_list_sort ⟨_, hoL, rfl⟩ entry_list_sort (list_sort_ord (s := { s with heap := h1.push (seqObj "list" vs.toArray 0) }) (swo_lex k) hoL hz (fun h2 => ?_) fun out hs hb => ⟨_, rfl, ?_⟩) (args_list_sort _)))
  · refine pairs_sortableO (by omega) (fun v hv => (hp v hv).keeps fun b o e _ => keep2 b o e) fun o e => ?_
    have e' : some o = some (seqObj "list" vs.toArray 0) := e.symm.trans hoL
    cases e'
    intro c
    exact absurd (Value.type.inj c) (by decide)
  · refine wpAny_pure ⟨_, rfl, ?_⟩
    refine h _ _ out hs hb ⟨h1, keep, fun b o e => ?_, Nat.le_refl _⟩ (sortedHeap_at hoL)
    have hlt : b < h1.objs.size := Heap.lt_size e
    rw [sortedHeap_old (Nat.ne_of_lt hlt) (by rw [size_push']; exact Nat.lt_succ_of_lt hlt)]
    exact Heap.get?_push_of_some _ e
end
end SrtO
namespace L2
open PySem PySem.Spec PyProof.Rows
def rSortedPS (K : PySem.W.Frag) : List V → Hp → VK → Prop := fun vs H Q => ∃ (a : Addr) (xs : List V) (k : V → Int × Int), vs = [V.ref a] ∧ (SqL K H a xs ∨ SqT K H a xs) ∧ (∀ x ∈ xs, ∃ t, x = V.ref t ∧ H t = some (.tup [.int (k x).1, .int (k x).2])) ∧
  ∀ ys p, SrtO.Srtd (ltP k) ys → SrtO.Stb (ltP k) ys xs → H p = none → Q (.ref p) (upd H p (.lst ys))
section
variable {X : Cx}
theorem cr_sortedPS : CallR X (.builtin "sorted") (rSortedPS X.K) := by
  intro pins s σ H vs us Q I r h
  obtain ⟨a, xs, k, rfl, hs, hx, q⟩ := h
  obtain ⟨u, rfl, ru⟩ := vals1 r
  obtain rfl : u = Value.ref a := ru
  obtain ⟨its, T, o, n, rv, hT, ho, hc, hd, hz⟩ : ∃ (its : List Value) (T : String) (o : Obj) (n : Nat), Vals xs its ∧ (T = "list" ∨ T = "tuple") ∧ s.heap.get? a = some o ∧ o.cls = .type T ∧ o.data = .seq its.toArray n ∧ xs.length ≤ sizeLine := by
    rcases hs with hs | hs
    · obtain ⟨its, rv, hl, hz⟩ := I.list hs
      obtain ⟨o, ho, hc, n, hd⟩ := hl.isList
      exact ⟨its, "list", o, n, rv, .inl rfl, ho, hc, hd, hz⟩
    · obtain ⟨its, rv, hl, hz⟩ := I.tuple hs
      obtain ⟨o, ho, hc, n, hd⟩ := hl
      exact ⟨its, "tuple", o, n, rv, .inr rfl, ho, hc, hd, hz⟩
  obtain ⟨e1, e2⟩ := refs_back rv fun x m => by
    obtain ⟨t, e, _⟩ := hx x m
    exact ⟨t, e⟩
  refine SrtO.sorted_pairsS (k := fun u => k (backV u)) hT ho hc hd (by rw [← rv.length]; exact hz) (fun v hv => ?_) fun h' d out h1 h2 kp hn => ?_
  · obtain ⟨t, rfl⟩ := e2 v hv
    have hm : V.ref t ∈ xs := by rw [e1]; exact List.mem_map.mpr ⟨_, hv, rfl⟩
    obtain ⟨t', e, ht⟩ := hx _ hm
    cases e
    obtain ⟨_, its2, r2, o, ho, hc, n, hd⟩ := I.hok _ _ ht
    obtain ⟨u1, u2, rfl, ri, rj⟩ := vals2 r2
    obtain ⟨t1, rfl⟩ := ri
    obtain ⟨t2, rfl⟩ := rj
    exact ⟨t, o, t1, t2, n, rfl, ho, hc, hd⟩
  · have h3 : ∀ u ∈ out, ∃ a, u = Value.ref a := fun u hu => e2 u (h2.perm.mem_iff.mp hu)
    obtain ⟨n, hn⟩ := hn
    obtain ⟨hm, k1, k2, hd⟩ := kp
    have I1 : Inv X pins σ H { s with heap := hm } := I.kept (t' := s.toks) k1
    have hb : SrtO.Stb (ltP k) (out.map backV) xs := by
      rw [e1]
      exact SrtO.Stb.map (ltP_swo k) backV h2
    refine ⟨.ref d, upd H d (.lst (out.map backV)), I1.laid (t' := s.toks) k2 hd ⟨?_, out, n, vals_back h3, hn⟩, rfl, q _ d (SrtO.srtd_map h1) hb (I1.hok.fresh hd)⟩
    rw [hb.len]
    exact hz
end
end L2

end
section
set_option maxRecDepth 100000
set_option maxHeartbeats 2000000
/-! PL: data without the heap: what expressions are worth, how statements run, over slots that hold data. -/
namespace QL
open PySem PySem.Spec PyProof.Rows L2 Evl

inductive D where
  | non | bl (b : Bool) | int (i : Int) | str (x : Str)
  | lst (ds : List D) | tup (ds : List D)
  | scr (ns : List Int)
  /-- an instance of the class at C that is changed no more: its attributes -/
  | obj (C : Addr) (ns : List Str) (ds : List D)
  /-- a dict: its keys in order, what they give -/
  | dic (ks : List Key) (ds : List D)

mutual
inductive Dt (K : PySem.W.Frag) (H : Hp) : V → D → Prop where
  | non : Dt K H .non .non
  | bl (b : Bool) : Dt K H (.bl b) (.bl b)
  | int (i : Int) : Dt K H (.int i) (.int i)
  | str (x : Str) : Dt K H (.str x) (.str x)
  | scr {a : Addr} {ns : List Int} : SqL K H a (ns.map V.int) → Dt K H (.ref a) (.scr ns)
  | lst {a : Addr} {xs : List V} {ds : List D} : H a = some (.lst xs) → DtA K H xs ds → Dt K H (.ref a) (.lst ds)
  | tup {a : Addr} {xs : List V} {ds : List D} : H a = some (.tup xs) → DtA K H xs ds → Dt K H (.ref a) (.tup ds)
  | obj {a C dx : Addr} {ns : List Str} {xs : List V} {ds : List D} : H a = some (.ins C dx (ns.zip xs)) → xs.length = ns.length → DtA K H xs ds → Dt K H (.ref a) (.obj C ns ds)
  | dic {a : Addr} {ks : List Key} {xs : List V} {ds : List D} : H a = some (.dK (ks.zip xs)) → xs.length = ks.length → DtA K H xs ds → Dt K H (.ref a) (.dic ks ds)
inductive DtA (K : PySem.W.Frag) (H : Hp) : List V → List D → Prop where
  | nil : DtA K H [] []
  | cons {v : V} {d : D} {vs : List V} {ds : List D} : Dt K H v d → DtA K H vs ds → DtA K H (v :: vs) (d :: ds)
end
section
variable {K : PySem.W.Frag} {H H' : Hp}
mutual
theorem Dt.mono (e : Ex H H') : ∀ {v : V} {d : D}, Dt K H v d → Dt K H' v d
  | _, _, .non => .non
  | _, _, .bl b => .bl b
  | _, _, .int b => .int b
  | _, _, .str b => .str b
  | _, _, .scr h => .scr (ex_l e h)
  | _, _, .lst h q => .lst (e _ _ h) (DtA.mono e q)
  | _, _, .tup h q => .tup (e _ _ h) (DtA.mono e q)
  | _, _, .obj h l q => .obj (e _ _ h) l (DtA.mono e q)
  | _, _, .dic h l q => .dic (e _ _ h) l (DtA.mono e q)
theorem DtA.mono (e : Ex H H') : ∀ {vs : List V} {ds : List D}, DtA K H vs ds → DtA K H' vs ds
  | _, _, .nil => .nil
  | _, _, .cons h q => .cons (Dt.mono e h) (DtA.mono e q)
end
theorem DtA.len : ∀ {vs : List V} {ds : List D}, DtA K H vs ds → vs.length = ds.length
  | _, _, .nil => rfl
  | _, _, .cons _ q => by simp [q.len]
theorem DtA.get : ∀ {vs : List V} {ds : List D} {i : Nat} {d : D}, DtA K H vs ds → ds[i]? = some d → ∃ v, vs[i]? = some v ∧ Dt K H v d
  | _, _, _, _, .nil, e => by simp at e
  | _, _, 0, _, .cons h _, e => by simp at e; subst e; exact ⟨_, rfl, h⟩
  | _, _, i + 1, d, .cons _ q, e => by
    obtain ⟨v, h1, h2⟩ := q.get (i := i) (d := d) (by simpa using e)
    exact ⟨v, by simpa using h1, h2⟩
theorem DtA.append : ∀ {vs ws : List V} {ds es : List D}, DtA K H vs ds → DtA K H ws es → DtA K H (vs ++ ws) (ds ++ es)
  | _, _, _, _, .nil, q => q
  | _, _, _, _, .cons h t, q => .cons h (DtA.append t q)
theorem DtA.one {v : V} {d : D} (h : Dt K H v d) : DtA K H [v] [d] := .cons h .nil
theorem DtA.set {v : V} {d : D} (r : Dt K H v d) : ∀ {vs : List V} {ds : List D} (i : Nat), DtA K H vs ds → DtA K H (vs.set i v) (ds.set i d)
  | _, _, _, .nil => .nil
  | _, _, 0, .cons _ t => .cons r t
  | _, _, i + 1, .cons q t => .cons q (DtA.set r i t)
theorem DtA.erase : ∀ {vs : List V} {ds : List D} (i : Nat), DtA K H vs ds → DtA K H (vs.eraseIdx i) (ds.eraseIdx i)
  | _, _, _, .nil => .nil
  | _, _, 0, .cons _ t => t
  | _, _, i + 1, .cons q t => .cons q (DtA.erase i t)
theorem DtA.ints : ∀ (ns : List Int), DtA K H (ns.map V.int) (ns.map D.int)
  | [] => .nil
  | n :: r => .cons (.int n) (DtA.ints r)
theorem DtA.ints_inv : ∀ {vs : List V} {ns : List Int}, DtA K H vs (ns.map D.int) → vs = ns.map V.int
  | _, [], h => by cases h; rfl
  | _, n :: r, h => by
    cases h with
    | cons a b =>
      cases a
      rw [DtA.ints_inv b]
      rfl
theorem Dt.int_inv {v : V} {i : Int} (h : Dt K H v (.int i)) : v = .int i := by cases h; rfl
theorem Dt.bl_inv {v : V} {i : Bool} (h : Dt K H v (.bl i)) : v = .bl i := by cases h; rfl
theorem Dt.lst_inv {v : V} {ds : List D} (h : Dt K H v (.lst ds)) : ∃ a xs, v = .ref a ∧ H a = some (.lst xs) ∧ DtA K H xs ds := by
  cases h with
  | lst h q => exact ⟨_, _, rfl, h, q⟩
theorem Dt.tup_inv {v : V} {ds : List D} (h : Dt K H v (.tup ds)) : ∃ a xs, v = .ref a ∧ H a = some (.tup xs) ∧ DtA K H xs ds := by
  cases h with
  | tup h q => exact ⟨_, _, rfl, h, q⟩
theorem Dt.obj_inv {v : V} {C : Addr} {ns : List Str} {ds : List D} (h : Dt K H v (.obj C ns ds)) : ∃ a dx xs, v = .ref a ∧ H a = some (.ins C dx (ns.zip xs)) ∧ xs.length = ns.length ∧ DtA K H xs ds := by
  cases h with
  | obj h l q => exact ⟨_, _, _, rfl, h, l, q⟩
theorem Dt.dic_inv {v : V} {ks : List Key} {ds : List D} (h : Dt K H v (.dic ks ds)) : ∃ a xs, v = .ref a ∧ H a = some (.dK (ks.zip xs)) ∧ xs.length = ks.length ∧ DtA K H xs ds := by
  cases h with
  | dic h l q => exact ⟨_, _, rfl, h, l, q⟩
theorem Dt.scr_inv {v : V} {ns : List Int} (h : Dt K H v (.scr ns)) : ∃ a, v = .ref a ∧ SqL K H a (ns.map V.int) := by
  cases h with
  | scr h => exact ⟨_, rfl, h⟩
end


/-! ### data that may be changed by others -/
mutual
/-- nothing in it can be changed -/
def imm : D → Bool
  | .lst _ => false
  | .dic _ _ => false
  | .tup ds => immA ds
  | _ => true
def immA : List D → Bool
  | [] => true
  | d :: ds => imm d && immA ds
end
mutual
/-- v stands for d: what can't be changed lies in F, the rest in F or P -/
inductive DtM (K : PySem.W.Frag) (P F : Hp) : V → D → Prop where
  | fz {v : V} {d : D} : Dt K F v d → DtM K P F v d
  | lst {a : Addr} {xs : List V} {ds : List D} : P a = some (.lst xs) → DtMA K P F xs ds → DtM K P F (.ref a) (.lst ds)
  | tup {a : Addr} {xs : List V} {ds : List D} : imm (.tup ds) = false → P a = some (.tup xs) → DtMA K P F xs ds → DtM K P F (.ref a) (.tup ds)
  | dic {a : Addr} {ks : List Key} {xs : List V} {ds : List D} : P a = some (.dK (ks.zip xs)) → xs.length = ks.length → DtMA K P F xs ds → DtM K P F (.ref a) (.dic ks ds)
inductive DtMA (K : PySem.W.Frag) (P F : Hp) : List V → List D → Prop where
  | nil : DtMA K P F [] []
  | cons {v : V} {d : D} {vs : List V} {ds : List D} : DtM K P F v d → DtMA K P F vs ds → DtMA K P F (v :: vs) (d :: ds)
end
section
variable {K : PySem.W.Frag} {P P' F F' H : Hp}
mutual
theorem DtM.mono (a : Ex P P') (b : Ex F F') : ∀ {v : V} {d : D}, DtM K P F v d → DtM K P' F' v d
  | _, _, .fz h => .fz (h.mono b)
  | _, _, .lst h q => .lst (a _ _ h) (DtMA.mono a b q)
  | _, _, .tup i h q => .tup i (a _ _ h) (DtMA.mono a b q)
  | _, _, .dic h l q => .dic (a _ _ h) l (DtMA.mono a b q)
theorem DtMA.mono (a : Ex P P') (b : Ex F F') : ∀ {vs : List V} {ds : List D}, DtMA K P F vs ds → DtMA K P' F' vs ds
  | _, _, .nil => .nil
  | _, _, .cons h q => .cons (DtM.mono a b h) (DtMA.mono a b q)
end
theorem DtMA.len : ∀ {vs : List V} {ds : List D}, DtMA K P F vs ds → vs.length = ds.length
  | _, _, .nil => rfl
  | _, _, .cons _ q => by simp [q.len]
theorem DtMA.get : ∀ {vs : List V} {ds : List D} {i : Nat} {d : D}, DtMA K P F vs ds → ds[i]? = some d → ∃ v, vs[i]? = some v ∧ DtM K P F v d
  | _, _, _, _, .nil, e => by simp at e
  | _, _, 0, _, .cons h _, e => by simp at e; subst e; exact ⟨_, rfl, h⟩
  | _, _, i + 1, d, .cons _ q, e => by
    obtain ⟨v, h1, h2⟩ := q.get (i := i) (d := d) (by simpa using e)
    exact ⟨v, by simpa using h1, h2⟩
theorem DtMA.get2 {vs : List V} {ds : List D} {i : Nat} {v : V} {d : D} (h : DtMA K P F vs ds) (a : vs[i]? = some v) (b : ds[i]? = some d) : DtM K P F v d := by
  obtain ⟨v', h1, h2⟩ := h.get b
  rw [a] at h1; cases h1; exact h2
theorem DtMA.append : ∀ {vs ws : List V} {ds es : List D}, DtMA K P F vs ds → DtMA K P F ws es → DtMA K P F (vs ++ ws) (ds ++ es)
  | _, _, _, _, .nil, q => q
  | _, _, _, _, .cons h t, q => .cons h (DtMA.append t q)
theorem DtA.m : ∀ {vs : List V} {ds : List D}, DtA K F vs ds → DtMA K P F vs ds
  | _, _, .nil => .nil
  | _, _, .cons h q => .cons (.fz h) (DtA.m q)
theorem DtM.imm {v : V} {d : D} (i : imm d = true) (h : DtM K P F v d) : Dt K F v d := by
  cases h with
  | fz h => exact h
  | lst _ _ => simp [QL.imm] at i
  | tup j _ _ => rw [i] at j; cases j
  | dic _ _ _ => simp [QL.imm] at i
theorem DtMA.imm : ∀ {vs : List V} {ds : List D}, immA ds = true → DtMA K P F vs ds → DtA K F vs ds
  | _, _, _, .nil => .nil
  | _, _, i, .cons h q => by
    simp [immA] at i
    exact .cons (h.imm i.1) (DtMA.imm i.2 q)
theorem DtM.emp {v : V} {d : D} (h : DtM K (fun _ => none) F v d) : Dt K F v d := by
  cases h with
  | fz h => exact h
  | lst h _ => cases h
  | tup _ h _ => cases h
  | dic h _ _ => cases h
theorem DtMA.emp : ∀ {vs : List V} {ds : List D}, DtMA K (fun _ => none) F vs ds → DtA K F vs ds
  | _, _, .nil => .nil
  | _, _, .cons h q => .cons h.emp (DtMA.emp q)
theorem DtM.int_inv {v : V} {i : Int} (h : DtM K P F v (.int i)) : v = .int i := (h.imm rfl).int_inv
theorem DtM.bl_inv {v : V} {i : Bool} (h : DtM K P F v (.bl i)) : v = .bl i := (h.imm rfl).bl_inv
theorem DtM.non_inv {v : V} (h : DtM K P F v .non) : v = .non := by cases h.imm rfl; rfl
theorem DtM.str_inv {v : V} {x : Str} (h : DtM K P F v (.str x)) : v = .str x := by cases h.imm rfl; rfl
theorem DtM.lst_inv {v : V} {ds : List D} (a : Ex P H) (b : Ex F H) (h : DtM K P F v (.lst ds)) : ∃ p xs, v = .ref p ∧ H p = some (.lst xs) ∧ DtMA K P F xs ds := by
  cases h with
  | fz h =>
    obtain ⟨p, xs, e, h1, h2⟩ := h.lst_inv
    exact ⟨p, xs, e, b _ _ h1, h2.m⟩
  | lst h q => exact ⟨_, _, rfl, a _ _ h, q⟩
theorem DtM.tup_inv {v : V} {ds : List D} (a : Ex P H) (b : Ex F H) (h : DtM K P F v (.tup ds)) : ∃ p xs, v = .ref p ∧ H p = some (.tup xs) ∧ DtMA K P F xs ds := by
  cases h with
  | fz h =>
    obtain ⟨p, xs, e, h1, h2⟩ := h.tup_inv
    exact ⟨p, xs, e, b _ _ h1, h2.m⟩
  | tup _ h q => exact ⟨_, _, rfl, a _ _ h, q⟩
theorem DtM.scr_inv {v : V} {ns : List Int} (b : Ex F H) (h : DtM K P F v (.scr ns)) : ∃ a, v = .ref a ∧ SqL K H a (ns.map V.int) := by
  obtain ⟨a, e, h1⟩ := (h.imm rfl).scr_inv
  exact ⟨a, e, ex_l b h1⟩
theorem DtM.obj_inv {v : V} {C : Addr} {ns : List Str} {ds : List D} (h : DtM K P F v (.obj C ns ds)) : ∃ a dx xs, v = .ref a ∧ F a = some (.ins C dx (ns.zip xs)) ∧ xs.length = ns.length ∧ DtA K F xs ds := (h.imm rfl).obj_inv
theorem DtM.dic_inv {v : V} {ks : List Key} {ds : List D} (a : Ex P H) (b : Ex F H) (h : DtM K P F v (.dic ks ds)) : ∃ p xs, v = .ref p ∧ H p = some (.dK (ks.zip xs)) ∧ xs.length = ks.length ∧ DtMA K P F xs ds := by
  cases h with
  | fz h =>
    obtain ⟨p, xs, e, h1, l, h2⟩ := h.dic_inv
    exact ⟨p, xs, e, b _ _ h1, l, h2.m⟩
  | dic h l q => exact ⟨_, _, rfl, a _ _ h, l, q⟩
end

/-! ### growing -/
abbrev Emp : Hp := fun _ => none
theorem ex_emp (H : Hp) : Ex Emp H := fun _ _ h => nomatch h
structure Grow (Hf H Hf' H' : Hp) : Prop where
  f : Ex Hf Hf'
  i : Ex Hf' H'
  h : Ex H H'
  n : ∀ p, Hf p = none → H p ≠ none → Hf' p = none
theorem ex_some {H H' : Hp} (e : Ex H H') {p : Addr} (h : H p ≠ none) : H' p ≠ none := by
  cases q : H p with
  | none => exact absurd q h
  | some o => rw [e _ _ q]; exact fun z => nomatch z
theorem Grow.refl {Hf H : Hp} (e : Ex Hf H) : Grow Hf H Hf H := ⟨Ex.refl _, e, Ex.refl _, fun _ h _ => h⟩
theorem Grow.trans {Hf H Hf1 H1 Hf2 H2 : Hp} (a : Grow Hf H Hf1 H1) (b : Grow Hf1 H1 Hf2 H2) : Grow Hf H Hf2 H2 :=
  ⟨a.f.trans b.f, b.i, a.h.trans b.h, fun p h1 h2 => b.n p (a.n p h1 h2) (ex_some a.h h2)⟩
theorem Grow.up {Hf H H' : Hp} (a : Ex Hf H) (b : Ex H H') : Grow Hf H Hf H' := ⟨Ex.refl _, a.trans b, b, fun _ h _ => h⟩
/-- a new object, in the frame and out of it -/
theorem Grow.new {Hf H : Hp} (a : Ex Hf H) {p : Addr} {o : HO} (h : H p = none) : Grow Hf H (upd Hf p o) (upd H p o) :=
  ⟨Ex.new (fresh_back a h), fun b u e => by
    by_cases hb : b = p
    · subst hb; rw [upd_same] at e ⊢; exact e
    · rw [upd_ne hb] at e ⊢; exact a _ _ e, Ex.new h, fun q h1 h2 => by
    rw [upd_ne (fun z => h2 (by rw [z]; exact h))]; exact h1⟩
theorem Grow.newO {Hf H : Hp} (a : Ex Hf H) {p : Addr} {o : HO} (h : H p = none) : Grow Hf H Hf (upd H p o) := Grow.up a (Ex.new h)
/-- a new list put into the frame -/
theorem Grow.freeze {Hf H Hf' H' : Hp} (g : Grow Hf H Hf' H') {p : Addr} {o : HO} (hn : H p = none) (hf : Hf' p = none) (h : H' p = some o) : Grow Hf H (upd Hf' p o) H' :=
  ⟨g.f.trans (Ex.new hf), fun b u e => by
    by_cases hb : b = p
    · subst hb; rw [upd_same] at e; rw [← e]; exact h
    · rw [upd_ne hb] at e; exact g.i _ _ e, g.h, fun q h1 h2 => by
    rw [upd_ne (fun z => h2 (by rw [z]; exact hn))]; exact g.n q h1 h2⟩
/-- two fragments together -/
def both (A B : Hp) : Hp := fun p => match A p with | some o => some o | none => B p
theorem both_l {A B : Hp} : Ex A (both A B) := fun p o h => by unfold both; rw [h]
theorem both_none {A B : Hp} {p : Addr} (a : A p = none) (b : B p = none) : both A B p = none := by unfold both; rw [a]; exact b
theorem Grow.join {Hf H Hn H' : Hp} (a : Ex Hf H) (g : Grow Emp H Hn H') : Grow Hf H (both Hf Hn) H' ∧ Ex Hn (both Hf Hn) := by
  refine ⟨⟨both_l, fun p o h => ?_, g.h, fun p h1 h2 => both_none h1 (g.n p rfl h2)⟩, fun p o h => ?_⟩
  · unfold both at h
    cases q : Hf p with
    | some u => rw [q] at h; rw [← h]; exact g.h _ _ (a _ _ q)
    | none => rw [q] at h; exact g.i _ _ h
  · unfold both
    cases q : Hf p with
    | none => exact h
    | some u =>
      have := g.n p rfl (by rw [a _ _ q]; exact fun z => nomatch z)
      rw [this] at h; cases h

/-! ### errors that fly -/
/-- an error: its class, its fields (the last one stored first) -/
structure Er where
  C : Addr
  ns : List Str
  ds : List D
/-- its dict, if it has fields, lies in the frame -/
inductive ErAt (K : PySem.W.Frag) (Hf : Hp) (x : Er) : Option Addr → Prop where
  | bare : x.ns = [] → x.ds = [] → ErAt K Hf x none
  | dict {dx : Addr} {vs : List V} : vs.length = x.ns.length → Hf dx = some (.xd (x.ns.zip vs)) → DtA K Hf vs x.ds → ErAt K Hf x (some dx)
theorem ErAt.mono {K : PySem.W.Frag} {Hf Hf' : Hp} {x : Er} {d : Option Addr} (e : Ex Hf Hf') (h : ErAt K Hf x d) : ErAt K Hf' x d := by
  cases h with
  | bare a b => exact .bare a b
  | dict a b c => exact .dict a (e _ _ b) (c.mono e)

/-! ### slots -/
inductive Sl where
  | un | dat (d : D) | bor (d : D) | own (ds : List D) | err (a : Addr) (d : Option Addr) (x : Er) | ownD (ks : List Key) (ds : List D)
def Sl.mine : Sl → Bool
  | .own _ => true | .ownD _ _ => true | _ => false
inductive SlOk (K : PySem.W.Frag) (B Hf H : Hp) : Option V → Sl → Prop where
  | un (o : Option V) : SlOk K B Hf H o .un
  | dat {v : V} {d : D} : Dt K Hf v d → SlOk K B Hf H (some v) (.dat d)
  | bor {v : V} {d : D} : DtM K B Hf v d → SlOk K B Hf H (some v) (.bor d)
  | own {p : Addr} {xs : List V} {ds : List D} : Hf p = none → B p = none → H p = some (.lst xs) → DtA K Hf xs ds → SlOk K B Hf H (some (.ref p)) (.own ds)
  | err {a : Addr} {d : Option Addr} {x : Er} : ErAt K Hf x d → SlOk K B Hf H (some (.ref a)) (.err a d x)
  | ownD {p : Addr} {ks : List Key} {xs : List V} {ds : List D} : Hf p = none → B p = none → H p = some (.dK (ks.zip xs)) → xs.length = ks.length → DtA K Hf xs ds → SlOk K B Hf H (some (.ref p)) (.ownD ks ds)
/-- slot i holds an owned thing, at p -/
def Own1 (σ : L2.St) (ρ : List Sl) (i : Nat) (p : Addr) : Prop := σ[i]? = some (some (.ref p)) ∧ ∃ s, ρ[i]? = some s ∧ s.mine = true
structure EnvOk (K : PySem.W.Frag) (B Hf H : Hp) (σ : L2.St) (ρ : List Sl) : Prop where
  eb : Ex B H
  ef : Ex Hf H
  len : σ.length = ρ.length
  sl : ∀ (i : Nat) o s, σ[i]? = some o → ρ[i]? = some s → SlOk K B Hf H o s
  dis : ∀ (i j : Nat) p, i ≠ j → Own1 σ ρ i p → Own1 σ ρ j p → False
section
variable {K : PySem.W.Frag} {B Hf H Hf' H' : Hp} {σ : L2.St} {ρ : List Sl}
theorem SlOk.grow {o : Option V} {s : Sl} (h : SlOk K B Hf H o s) (g : Grow Hf H Hf' H') : SlOk K B Hf' H' o s := by
  cases h with
  | un => exact .un _
  | dat h => exact .dat (h.mono g.f)
  | bor h => exact .bor (h.mono (Ex.refl _) g.f)
  | own a b c d => exact .own (g.n _ a (by rw [c]; exact fun z => nomatch z)) b (g.h _ _ c) (d.mono g.f)
  | err h => exact .err (h.mono g.f)
  | ownD a b c l d => exact .ownD (g.n _ a (by rw [c]; exact fun z => nomatch z)) b (g.h _ _ c) l (d.mono g.f)
theorem EnvOk.grow (e : EnvOk K B Hf H σ ρ) (g : Grow Hf H Hf' H') : EnvOk K B Hf' H' σ ρ :=
  ⟨e.eb.trans g.h, g.i, e.len, fun i o s h1 h2 => (e.sl i o s h1 h2).grow g, e.dis⟩
theorem EnvOk.at (e : EnvOk K B Hf H σ ρ) {i : Nat} {s : Sl} (h : ρ[i]? = some s) : ∃ o, σ[i]? = some o ∧ SlOk K B Hf H o s := by
  have hl : i < σ.length := by rw [e.len]; exact (List.getElem?_eq_some_iff.mp h).1
  exact ⟨_, List.getElem?_eq_getElem hl, e.sl i _ s (List.getElem?_eq_getElem hl) h⟩
theorem EnvOk.dat (e : EnvOk K B Hf H σ ρ) {i : Nat} {d : D} (h : ρ[i]? = some (.dat d)) : ∃ v, σ[i]? = some (some v) ∧ Dt K Hf v d := by
  obtain ⟨o, h1, h2⟩ := e.at h
  cases h2 with
  | dat q => exact ⟨_, h1, q⟩
theorem EnvOk.bor (e : EnvOk K B Hf H σ ρ) {i : Nat} {d : D} (h : ρ[i]? = some (.bor d)) : ∃ v, σ[i]? = some (some v) ∧ DtM K B Hf v d := by
  obtain ⟨o, h1, h2⟩ := e.at h
  cases h2 with
  | bor q => exact ⟨_, h1, q⟩
theorem EnvOk.err (e : EnvOk K B Hf H σ ρ) {i : Nat} {a : Addr} {d : Option Addr} {x : Er} (h : ρ[i]? = some (.err a d x)) : σ[i]? = some (some (.ref a)) ∧ ErAt K Hf x d := by
  obtain ⟨o, h1, h2⟩ := e.at h
  cases h2 with
  | err q => exact ⟨h1, q⟩
theorem EnvOk.own (e : EnvOk K B Hf H σ ρ) {i : Nat} {ds : List D} (h : ρ[i]? = some (.own ds)) : ∃ p xs, σ[i]? = some (some (.ref p)) ∧ Hf p = none ∧ B p = none ∧ H p = some (.lst xs) ∧ DtA K Hf xs ds := by
  obtain ⟨o, h1, h2⟩ := e.at h
  cases h2 with
  | own a b c d => exact ⟨_, _, h1, a, b, c, d⟩
theorem EnvOk.ownD (e : EnvOk K B Hf H σ ρ) {i : Nat} {ks : List Key} {ds : List D} (h : ρ[i]? = some (.ownD ks ds)) : ∃ p xs, σ[i]? = some (some (.ref p)) ∧ Hf p = none ∧ B p = none ∧ H p = some (.dK (ks.zip xs)) ∧ xs.length = ks.length ∧ DtA K Hf xs ds := by
  obtain ⟨o, h1, h2⟩ := e.at h
  cases h2 with
  | ownD a b c l d => exact ⟨_, _, h1, a, b, c, l, d⟩
theorem EnvOk.mine (e : EnvOk K B Hf H σ ρ) {i : Nat} {p : Addr} (h : Own1 σ ρ i p) : Hf p = none ∧ B p = none ∧ H p ≠ none := by
  obtain ⟨h1, s, h2, h3⟩ := h
  have q := e.sl i _ s h1 h2
  cases q with
  | own a b c d => exact ⟨a, b, by rw [c]; exact fun z => nomatch z⟩
  | ownD a b c l d => exact ⟨a, b, by rw [c]; exact fun z => nomatch z⟩
  | un _ => cases h3
  | dat _ => cases h3
  | bor _ => cases h3
  | err _ => cases h3
theorem own1_set {i j : Nat} {o : Option V} {s : Sl} {p : Addr} (hj : i ≠ j) (h : Own1 (σ.set i o) (ρ.set i s) j p) : Own1 σ ρ j p := by
  obtain ⟨h1, s', h2, h3⟩ := h
  rw [List.getElem?_set_ne hj] at h1 h2
  exact ⟨h1, s', h2, h3⟩
theorem own1_at {i : Nat} {o : Option V} {s : Sl} {p : Addr} (h : Own1 (σ.set i o) (ρ.set i s) i p) : o = some (.ref p) ∧ s.mine = true := by
  obtain ⟨h1, s', h2, h3⟩ := h
  have hl : i < σ.length := by simpa using (List.getElem?_eq_some_iff.mp h1).1
  have hl2 : i < ρ.length := by simpa using (List.getElem?_eq_some_iff.mp h2).1
  rw [List.getElem?_set_self hl] at h1
  rw [List.getElem?_set_self hl2] at h2
  cases h1; cases h2
  exact ⟨rfl, h3⟩
/-- one slot anew; what is owned is owned by no other slot -/
theorem EnvOk.put_any (e : EnvOk K B Hf H σ ρ) (i : Nat) {o : Option V} {s : Sl} (h : SlOk K B Hf H o s) (hn : ∀ (j : Nat) p, j ≠ i → o = some (.ref p) → s.mine = true → Own1 σ ρ j p → False) : EnvOk K B Hf H (σ.set i o) (ρ.set i s) := by
  refine ⟨e.eb, e.ef, by simp [e.len], fun j o' s' h1 h2 => ?_, fun j k p hjk h1 h2 => ?_⟩
  · by_cases hj : i = j
    · subst hj
      have hl : i < σ.length := by
        have := (List.getElem?_eq_some_iff.mp h1).1
        simpa using this
      rw [List.getElem?_set_self hl] at h1
      rw [List.getElem?_set_self (by rw [← e.len]; exact hl)] at h2
      cases h1; cases h2; exact h
    · rw [List.getElem?_set_ne hj] at h1 h2
      exact e.sl j _ _ h1 h2
  · by_cases hj : i = j
    · subst hj
      obtain ⟨a, b⟩ := own1_at h1
      exact hn k p (Ne.symm hjk) a b (own1_set hjk h2)
    · by_cases hk : i = k
      · subst hk
        obtain ⟨a, b⟩ := own1_at h2
        exact hn j p hjk a b (own1_set hj h1)
      · exact e.dis j k p hjk (own1_set hj h1) (own1_set hk h2)
theorem EnvOk.put (e : EnvOk K B Hf H σ ρ) (i : Nat) {o : Option V} {s : Sl} (h : SlOk K B Hf H o s) (hn : s.mine = false) : EnvOk K B Hf H (σ.set i o) (ρ.set i s) :=
  e.put_any i h fun j p _ _ hm => by rw [hn] at hm; cases hm
theorem EnvOk.put_dat (e : EnvOk K B Hf H σ ρ) (i : Nat) {v : V} {d : D} (h : Dt K Hf v d) : EnvOk K B Hf H (σ.set i (some v)) (ρ.set i (.dat d)) := e.put i (.dat h) rfl
theorem EnvOk.put_bor (e : EnvOk K B Hf H σ ρ) (i : Nat) {v : V} {d : D} (h : DtM K B Hf v d) : EnvOk K B Hf H (σ.set i (some v)) (ρ.set i (.bor d)) := e.put i (.bor h) rfl
theorem EnvOk.put_err (e : EnvOk K B Hf H σ ρ) (i : Nat) {a : Addr} {d : Option Addr} {x : Er} (h : ErAt K Hf x d) : EnvOk K B Hf H (σ.set i (some (.ref a))) (ρ.set i (.err a d x)) := e.put i (.err h) rfl
theorem EnvOk.put_un (e : EnvOk K B Hf H σ ρ) (i : Nat) (o : Option V) : EnvOk K B Hf H (σ.set i o) (ρ.set i .un) := e.put i (.un o) rfl
/-- an owned list, an owned dict that no other slot has -/
theorem EnvOk.put_own (e : EnvOk K B Hf H σ ρ) (i : Nat) {p : Addr} {xs : List V} {ds : List D} (hf : Hf p = none) (hb : B p = none) (h : H p = some (.lst xs)) (hd : DtA K Hf xs ds)
    (hn : ∀ (j : Nat), j ≠ i → Own1 σ ρ j p → False) : EnvOk K B Hf H (σ.set i (some (.ref p))) (ρ.set i (.own ds)) :=
  e.put_any i (.own hf hb h hd) fun j q hj ho _ o1 => hn j hj (by cases ho; exact o1)
theorem EnvOk.put_ownD (e : EnvOk K B Hf H σ ρ) (i : Nat) {p : Addr} {ks : List Key} {xs : List V} {ds : List D} (hf : Hf p = none) (hb : B p = none) (h : H p = some (.dK (ks.zip xs))) (hl : xs.length = ks.length) (hd : DtA K Hf xs ds)
    (hn : ∀ (j : Nat), j ≠ i → Own1 σ ρ j p → False) : EnvOk K B Hf H (σ.set i (some (.ref p))) (ρ.set i (.ownD ks ds)) :=
  e.put_any i (.ownD hf hb h hl hd) fun j q hj ho _ o1 => hn j hj (by cases ho; exact o1)
theorem ne_own {i j : Nat} {p q : Addr} (e : EnvOk K B Hf H σ ρ) (hij : i ≠ j) (a : Own1 σ ρ i p) (b : Own1 σ ρ j q) : p ≠ q := fun z => e.dis i j p hij a (by rw [z]; exact b)
/-- the owned thing at slot i is changed -/
theorem EnvOk.mutAny (e : EnvOk K B Hf H σ ρ) {i : Nat} {p : Addr} {s' : Sl} {u : HO} (ho : Own1 σ ρ i p) (hm : s'.mine = true) (hs : SlOk K B Hf (upd H p u) (some (.ref p)) s') : EnvOk K B Hf (upd H p u) σ (ρ.set i s') := by
  obtain ⟨h2, h3, _⟩ := e.mine ho
  have hl : i < ρ.length := (List.getElem?_eq_some_iff.mp ho.2.choose_spec.1).1
  have back : ∀ {j : Nat} {q : Addr}, Own1 σ (ρ.set i s') j q → Own1 σ ρ j q := fun {j q} h => by
    by_cases hj : i = j
    · subst hj
      obtain ⟨a, _⟩ := h
      obtain ⟨b, c⟩ := ho
      exact ⟨a, c⟩
    · obtain ⟨a, s, b, c⟩ := h
      rw [List.getElem?_set_ne hj] at b
      exact ⟨a, s, b, c⟩
  refine ⟨Ex.mut e.eb h3, Ex.mut e.ef h2, by simp [e.len], fun j o' s g1 g2 => ?_, fun j k q hjk g1 g2 => e.dis j k q hjk (back g1) (back g2)⟩
  by_cases hj : i = j
  · subst hj
    rw [List.getElem?_set_self hl] at g2
    rw [ho.1] at g1
    cases g1; cases g2; exact hs
  · rw [List.getElem?_set_ne hj] at g2
    have q := e.sl j _ _ g1 g2
    cases q with
    | un => exact .un _
    | dat h => exact .dat h
    | bor h => exact .bor h
    | err h => exact .err h
    | @own p2 xs2 es2 a b c d =>
      refine .own a b ?_ d
      rw [upd_ne (Ne.symm (ne_own e hj ho ⟨g1, _, g2, rfl⟩))]
      exact c
    | @ownD p2 ks2 xs2 es2 a b c l d =>
      refine .ownD a b ?_ l d
      rw [upd_ne (Ne.symm (ne_own e hj ho ⟨g1, _, g2, rfl⟩))]
      exact c
theorem EnvOk.mut (e : EnvOk K B Hf H σ ρ) {i : Nat} {p : Addr} {ds ds' : List D} {ys : List V} (hi : ρ[i]? = some (.own ds)) (hs : σ[i]? = some (some (.ref p))) (hd : DtA K Hf ys ds') : EnvOk K B Hf (upd H p (.lst ys)) σ (ρ.set i (.own ds')) := by
  have ho : Own1 σ ρ i p := ⟨hs, _, hi, rfl⟩
  obtain ⟨h2, h3, _⟩ := e.mine ho
  exact e.mutAny ho rfl (.own h2 h3 upd_same hd)
theorem EnvOk.mutD (e : EnvOk K B Hf H σ ρ) {i : Nat} {p : Addr} {ks ks' : List Key} {ds ds' : List D} {ys : List V} (hi : ρ[i]? = some (.ownD ks ds)) (hs : σ[i]? = some (some (.ref p))) (hl : ys.length = ks'.length) (hd : DtA K Hf ys ds') : EnvOk K B Hf (upd H p (.dK (ks'.zip ys))) σ (ρ.set i (.ownD ks' ds')) := by
  have ho : Own1 σ ρ i p := ⟨hs, _, hi, rfl⟩
  obtain ⟨h2, h3, _⟩ := e.mine ho
  exact e.mutAny ho rfl (.ownD h2 h3 upd_same hl hd)
/-- an owned thing is owned no longer -/
theorem EnvOk.freezeAny (e : EnvOk K B Hf H σ ρ) {i : Nat} {p : Addr} {u : HO} {d : D} (ho : Own1 σ ρ i p) (hu : H p = some u) (hd : Dt K (upd Hf p u) (.ref p) d) : EnvOk K B (upd Hf p u) H σ (ρ.set i (.dat d)) := by
  obtain ⟨h2, h3, _⟩ := e.mine ho
  have hl : i < ρ.length := (List.getElem?_eq_some_iff.mp ho.2.choose_spec.1).1
  have hx : Ex Hf (upd Hf p u) := Ex.new h2
  have back : ∀ {j : Nat} {q : Addr}, Own1 σ (ρ.set i (.dat d)) j q → i ≠ j ∧ Own1 σ ρ j q := fun {j q} h => by
    by_cases hj : i = j
    · subst hj
      obtain ⟨a, s, b, c⟩ := h
      rw [List.getElem?_set_self hl] at b
      cases b
      cases c
    · obtain ⟨a, s, b, c⟩ := h
      rw [List.getElem?_set_ne hj] at b
      exact ⟨hj, a, s, b, c⟩
  refine ⟨e.eb, fun b w q => ?_, by simp [e.len], fun j o' s' g1 g2 => ?_, fun j k q hjk g1 g2 => e.dis j k q hjk (back g1).2 (back g2).2⟩
  · by_cases hb : b = p
    · subst hb; rw [upd_same] at q; rw [← q]; exact hu
    · rw [upd_ne hb] at q; exact e.ef _ _ q
  · by_cases hj : i = j
    · subst hj
      rw [List.getElem?_set_self hl] at g2
      rw [ho.1] at g1
      cases g1; cases g2; exact .dat hd
    · rw [List.getElem?_set_ne hj] at g2
      have q := e.sl j _ _ g1 g2
      cases q with
      | un => exact .un _
      | dat h => exact .dat (h.mono hx)
      | bor h => exact .bor (h.mono (Ex.refl _) hx)
      | err h => exact .err (h.mono hx)
      | @own p2 xs2 es2 a b c d =>
        refine .own ?_ b c (d.mono hx)
        rw [upd_ne (Ne.symm (ne_own e hj ho ⟨g1, _, g2, rfl⟩))]
        exact a
      | @ownD p2 ks2 xs2 es2 a b c l d =>
        refine .ownD ?_ b c l (d.mono hx)
        rw [upd_ne (Ne.symm (ne_own e hj ho ⟨g1, _, g2, rfl⟩))]
        exact a
theorem EnvOk.freeze (e : EnvOk K B Hf H σ ρ) {i : Nat} {ds : List D} (hi : ρ[i]? = some (.own ds)) : ∃ p xs, B p = none ∧ Hf p = none ∧ EnvOk K B (upd Hf p (.lst xs)) H σ (ρ.set i (.dat (.lst ds))) := by
  obtain ⟨p, xs, h1, h2, h3, h4, h5⟩ := e.own hi
  exact ⟨p, xs, h3, h2, e.freezeAny ⟨h1, _, hi, rfl⟩ h4 (.lst upd_same (h5.mono (Ex.new h2)))⟩
theorem EnvOk.freezeD (e : EnvOk K B Hf H σ ρ) {i : Nat} {ks : List Key} {ds : List D} (hi : ρ[i]? = some (.ownD ks ds)) : ∃ p xs, B p = none ∧ Hf p = none ∧ EnvOk K B (upd Hf p (.dK (ks.zip xs))) H σ (ρ.set i (.dat (.dic ks ds))) := by
  obtain ⟨p, xs, h1, h2, h3, h4, hl, h5⟩ := e.ownD hi
  exact ⟨p, xs, h3, h2, e.freezeAny ⟨h1, _, hi, rfl⟩ h4 (.dic upd_same hl (h5.mono (Ex.new h2)))⟩
end
end QL

end
section
set_option maxRecDepth 100000
set_option maxHeartbeats 2000000
namespace QL
open PySem PySem.Spec PyProof.Rows L2 Evl

/-- how a value hangs: frozen, lent, anywhere, new and ours, ours or somebody's with frozen items -/
inductive Md where | f | b | h | n | o
  deriving DecidableEq
section
variable (K : PySem.W.Frag)
/-- a list, a dict at p with frozen items -/
def Shell (F H : Hp) (p : Addr) (d : D) : Prop := (∃ xs ds, d = .lst ds ∧ H p = some (.lst xs) ∧ DtA K F xs ds) ∨ ∃ ks xs ds, d = .dic ks ds ∧ H p = some (.dK (ks.zip xs)) ∧ xs.length = ks.length ∧ DtA K F xs ds
/-- v is d in the mode m: B lent, H0 what stood before, F the frame, H the whole -/
def Val (m : Md) (B H0 F H : Hp) (v : V) (d : D) : Prop := match m with
  | .f => Dt K F v d
  | .b => DtM K B F v d
  | .h => DtM K H F v d
  | .n => ∃ p, v = .ref p ∧ F p = none ∧ H0 p = none ∧ Shell K F H p d
  | .o => ∃ p, v = .ref p ∧ Shell K F H p d
end
section
variable {K : PySem.W.Frag} {B H0 H1 F F' H H' : Hp} {v : V} {d : D} {m : Md} {p : Addr}
theorem Shell.mono (a : Ex F F') (b : Ex H H') (h : Shell K F H p d) : Shell K F' H' p d := by
  rcases h with ⟨xs, ds, e, h1, h2⟩ | ⟨ks, xs, ds, e, h1, l, h2⟩
  · exact .inl ⟨xs, ds, e, b _ _ h1, h2.mono a⟩
  · exact .inr ⟨ks, xs, ds, e, b _ _ h1, l, h2.mono a⟩
theorem Shell.ne (h : Shell K F H p d) : H p ≠ none := by
  rcases h with ⟨xs, ds, e, h1, h2⟩ | ⟨ks, xs, ds, e, h1, l, h2⟩ <;> rw [h1] <;> exact fun z => nomatch z
theorem Shell.dm (h : Shell K F H p d) : DtM K H F (.ref p) d := by
  rcases h with ⟨xs, ds, rfl, h1, h2⟩ | ⟨ks, xs, ds, rfl, h1, l, h2⟩
  · exact .lst h1 h2.m
  · exact .dic h1 l h2.m
theorem Val.grow (g : Grow F H F' H') (h : Val K m B H0 F H v d) : Val K m B H0 F' H' v d := by
  cases m with
  | f => exact Dt.mono g.f h
  | b => exact DtM.mono (Ex.refl _) g.f h
  | h => exact DtM.mono g.h g.f h
  | n =>
    obtain ⟨p, e, h1, h2, h3⟩ := h
    exact ⟨p, e, g.n _ h1 h3.ne, h2, h3.mono g.f g.h⟩
  | o =>
    obtain ⟨p, e, h3⟩ := h
    exact ⟨p, e, h3.mono g.f g.h⟩
theorem Val.back (x : Ex H1 H0) (h : Val K m B H0 F H v d) : Val K m B H1 F H v d := by
  cases m with
  | f => exact h
  | b => exact h
  | h => exact h
  | n =>
    obtain ⟨p, e, h1, h2, h3⟩ := h
    exact ⟨p, e, h1, fresh_back x h2, h3⟩
  | o => exact h
theorem Val.toH (b : Ex B H) (h : Val K m B H0 F H v d) : DtM K H F v d := by
  cases m with
  | f => exact .fz h
  | b => exact DtM.mono b (Ex.refl _) h
  | h => exact h
  | n =>
    obtain ⟨p, rfl, h1, h2, h3⟩ := h
    exact h3.dm
  | o =>
    obtain ⟨p, rfl, h3⟩ := h
    exact h3.dm
end

section
variable (K : PySem.W.Frag)
/-- an expression's worth -/
def EE (te : TE) (ρ : List Sl) (m : Md) (d : D) : Prop := ∀ B F H σ, EnvOk K B F H σ ρ → ∀ Q : VK, (∀ v F' H', Grow F H F' H' → Val K m B H F' H' v d → Q v H') → te σ H Q
/-- arguments, of any kind; frozen ones -/
def EA (ta : TA) (ρ : List Sl) (ds : List D) : Prop := ∀ B F H σ, EnvOk K B F H σ ρ → ∀ Q : List V → Hp → Prop, (∀ vs F' H', Grow F H F' H' → DtMA K H' F' vs ds → Q vs H') → ta σ H Q
def EF (ta : TA) (ρ : List Sl) (ds : List D) : Prop := ∀ B F H σ, EnvOk K B F H σ ρ → ∀ Q : List V → Hp → Prop, (∀ vs F' H', Grow F H F' H' → DtA K F' vs ds → Q vs H') → ta σ H Q
/-- a test -/
def ET (tt : TT) (ρ : List Sl) (b : Bool) : Prop := ∀ B F H σ, EnvOk K B F H σ ρ → ∀ Q : Bool → Hp → Prop, (∀ F' H', Grow F H F' H' → Q b H') → tt σ H Q
/-- an operation upon values: its result -/
def Op2 (rr : R2) (d1 d2 : D) (m : Md) (d : D) : Prop := ∀ B F H x y, Ex B H → Ex F H → DtM K H F x d1 → DtM K H F y d2 → ∀ Q : VK, (∀ v F' H', Grow F H F' H' → Val K m B H F' H' v d → Q v H') → rr x y H Q
def OpA (rr : List V → Hp → VK → Prop) (ds : List D) (m : Md) (d : D) : Prop := ∀ B F H xs, Ex B H → Ex F H → DtMA K H F xs ds → ∀ Q : VK, (∀ v F' H', Grow F H F' H' → Val K m B H F' H' v d → Q v H') → rr xs H Q
end

/-- can be frozen -/
def cf (m : Md) (d : D) : Bool := decide (m = .f) || decide (m = .n) || imm d
/-- the items are frozen -/
def itF (m : Md) (ds : List D) : Bool := decide (m = .f) || decide (m = .n) || decide (m = .o) || immA ds
/-- the mode of an item -/
def ixm (m : Md) : Md := match m with | .f => .f | .n => .f | .o => .f | .b => .b | .h => .h
def nrm (m : Md) (d : D) : Md := if imm d then .f else m

section
variable {K : PySem.W.Frag} {ρ : List Sl} {ta tb te : TE} {m m1 m2 m3 : Md} {d d1 d2 d3 : D} {i : Nat} {rr : R2} {ds es : List D}
theorem EE.to (h : EE K te ρ m d) (e : d = d2) : EE K te ρ m d2 := e ▸ h
theorem EE.h (h : EE K te ρ m d) : EE K te ρ .h d := fun B F H σ e Q q => h B F H σ e Q fun v F' H' g dv => q v F' H' g (dv.toH (e.eb.trans g.h))
theorem EE.imm (i : imm d = true) (h : EE K te ρ m d) : EE K te ρ .f d := fun B F H σ e Q q => h B F H σ e Q fun v F' H' g dv => q v F' H' g ((dv.toH (e.eb.trans g.h)).imm i)
theorem EE.nrm (h : EE K te ρ m d) : EE K te ρ (nrm m d) d := by
  unfold QL.nrm
  split
  · rename_i i; exact h.imm i
  · exact h
theorem Shell.frz {F H : Hp} {p : Addr} (h : Shell K F H p d) (hf : F p = none) : ∃ o, H p = some o ∧ Dt K (upd F p o) (.ref p) d := by
  rcases h with ⟨xs, ds, rfl, h1, h2⟩ | ⟨ks, xs, ds, rfl, h1, l, h2⟩
  · exact ⟨_, h1, .lst upd_same (h2.mono (Ex.new hf))⟩
  · exact ⟨_, h1, .dic upd_same l (h2.mono (Ex.new hf))⟩
theorem EE.fz (h : EE K te ρ .n d) : EE K te ρ .f d := fun B F H σ e Q q => h B F H σ e Q fun v F' H' g dv => by
  obtain ⟨p, rfl, h1, h2, h3⟩ := dv
  obtain ⟨o, e1, e2⟩ := h3.frz h1
  exact q _ _ H' (g.freeze h2 h1 e1) e2
theorem EE.f (c : cf m d = true) (h : EE K te ρ m d) : EE K te ρ .f d := by
  unfold cf at c
  simp only [Bool.or_eq_true, decide_eq_true_eq] at c
  rcases c with (rfl | rfl) | c
  · exact h
  · exact h.fz
  · exact h.imm c
theorem e_var {s : Sl} (h : ρ[i]? = some s) : match s with
    | .dat d => EE K (tVar i) ρ .f d
    | .bor d => EE K (tVar i) ρ .b d
    | .own ds => EE K (tVar i) ρ .o (.lst ds)
    | .ownD ks ds => EE K (tVar i) ρ .o (.dic ks ds)
    | _ => True := by
  cases s with
  | un => trivial
  | err _ _ _ => trivial
  | dat d =>
    intro B F H σ e Q q
    obtain ⟨v, h1, h2⟩ := e.dat h
    exact ⟨v, h1, q v F H (Grow.refl e.ef) h2⟩
  | bor d =>
    intro B F H σ e Q q
    obtain ⟨v, h1, h2⟩ := e.bor h
    exact ⟨v, h1, q v F H (Grow.refl e.ef) h2⟩
  | own ds =>
    intro B F H σ e Q q
    obtain ⟨p, xs, h1, h2, h3, h4, h5⟩ := e.own h
    exact ⟨_, h1, q _ F H (Grow.refl e.ef) ⟨p, rfl, .inl ⟨xs, ds, rfl, h4, h5⟩⟩⟩
  | ownD ks ds =>
    intro B F H σ e Q q
    obtain ⟨p, xs, h1, h2, h3, h4, l, h5⟩ := e.ownD h
    exact ⟨_, h1, q _ F H (Grow.refl e.ef) ⟨p, rfl, .inr ⟨ks, xs, ds, rfl, h4, l, h5⟩⟩⟩
theorem e_int {i : Int} : EE K (tC (.int i)) ρ .f (.int i) := fun B F H σ e Q q => q _ F H (Grow.refl e.ef) (.int i)
theorem e_bl {i : Bool} : EE K (tC (.bl i)) ρ .f (.bl i) := fun B F H σ e Q q => q _ F H (Grow.refl e.ef) (.bl i)
theorem e_str {i : Str} : EE K (tC (.str i)) ρ .f (.str i) := fun B F H σ e Q q => q _ F H (Grow.refl e.ef) (.str i)
theorem e_non : EE K (tC .non) ρ .f .non := fun B F H σ e Q q => q _ F H (Grow.refl e.ef) .non
theorem e_op (ha : EE K ta ρ m1 d1) (hb : EE K tb ρ m2 d2) (ho : Op2 K rr d1 d2 m3 d3) : EE K (tOp rr ta tb) ρ m3 d3 := fun B F H σ e Q q =>
  ha.h B F H σ e _ fun x F1 H1 g1 dx => hb.h B F1 H1 σ (e.grow g1) _ fun y F2 H2 g2 dy =>
    ho B F2 H2 x y ((e.eb.trans g1.h).trans g2.h) g2.i (dx.grow (B := B) (H0 := H) (m := .h) g2) dy Q fun v F3 H3 g3 dv => q v F3 H3 ((g1.trans g2).trans g3) (dv.back (g1.h.trans g2.h))
/-! operations with plain results -/
theorem o_pl {i : D} (hi : imm i = true) (h : ∀ F H x y, DtM K H F x d1 → DtM K H F y d2 → ∀ Q : VK, (∀ v, Dt K F v i → Q v H) → rr x y H Q) : Op2 K rr d1 d2 .f i := fun B F H x y _ ef dx dy Q q => h F H x y dx dy Q fun v dv => q v F H (Grow.refl ef) dv
theorem o_i {g : Int → Int → Int} {i j : Int} : Op2 K (rI0 fun i j => .int (g i j)) (.int i) (.int j) .f (.int (g i j)) := o_pl rfl fun F H x y dx dy Q q => ⟨_, _, dx.int_inv, dy.int_inv, q _ (.int _)⟩
theorem o_ic {C : Int → Int → Prop} {g : Int → Int → Int} {i j : Int} (hc : C i j) : Op2 K (rI C fun i j => .int (g i j)) (.int i) (.int j) .f (.int (g i j)) := o_pl rfl fun F H x y dx dy Q q => ⟨_, _, dx.int_inv, dy.int_inv, hc, q _ (.int _)⟩
theorem o_b {g : Int → Int → Bool} {i j : Int} : Op2 K (rI0 fun i j => .bl (g i j)) (.int i) (.int j) .f (.bl (g i j)) := o_pl rfl fun F H x y dx dy Q q => ⟨_, _, dx.int_inv, dy.int_inv, q _ (.bl _)⟩
theorem o_eqI {i j : Int} : Op2 K rEq (.int i) (.int j) .f (.bl (decide (i = j))) := o_pl rfl fun F H x y dx dy Q q => by
  rw [dx.int_inv, dy.int_inv]
  refine ⟨rfl, q _ ?_⟩
  have e : decide (V.int i = V.int j) = decide (i = j) := by simp
  rw [e]; exact .bl _
theorem o_neI {i j : Int} : Op2 K rNe (.int i) (.int j) .f (.bl (!decide (i = j))) := o_pl rfl fun F H x y dx dy Q q => by
  rw [dx.int_inv, dy.int_inv]
  refine ⟨rfl, q _ ?_⟩
  have e : decide (V.int i = V.int j) = decide (i = j) := by simp
  rw [e]; exact .bl _
theorem o_eqB {i j : Bool} : Op2 K rEq (.bl i) (.bl j) .f (.bl (decide (i = j))) := o_pl rfl fun F H x y dx dy Q q => by
  rw [dx.bl_inv, dy.bl_inv]
  refine ⟨rfl, q _ ?_⟩
  have e : decide (V.bl i = V.bl j) = decide (i = j) := by simp
  rw [e]; exact .bl _
theorem o_neB {i j : Bool} : Op2 K rNe (.bl i) (.bl j) .f (.bl (!decide (i = j))) := o_pl rfl fun F H x y dx dy Q q => by
  rw [dx.bl_inv, dy.bl_inv]
  refine ⟨rfl, q _ ?_⟩
  have e : decide (V.bl i = V.bl j) = decide (i = j) := by simp
  rw [e]; exact .bl _
theorem o_eqS {i j : Str} : Op2 K rEq (.str i) (.str j) .f (.bl (decide (i = j))) := o_pl rfl fun F H x y dx dy Q q => by
  rw [dx.str_inv, dy.str_inv]
  refine ⟨rfl, q _ ?_⟩
  have e : decide (V.str i = V.str j) = decide (i = j) := by simp
  rw [e]; exact .bl _
theorem o_neS {i j : Str} : Op2 K rNe (.str i) (.str j) .f (.bl (!decide (i = j))) := o_pl rfl fun F H x y dx dy Q q => by
  rw [dx.str_inv, dy.str_inv]
  refine ⟨rfl, q _ ?_⟩
  have e : decide (V.str i = V.str j) = decide (i = j) := by simp
  rw [e]; exact .bl _
/-! items -/
theorem at_dts {F H : Hp} {xs : List V} {ds : List D} {i : Int} {d : D} (q : DtMA K H F xs ds) (h : atI ds i = some d) : ∃ v, atI xs i = some v ∧ DtM K H F v d := by
  have hl := q.len
  unfold atI at h ⊢
  rw [hl]
  cases hk : ixN ds.length i with
  | none => rw [hk] at h; cases h
  | some k =>
    rw [hk] at h
    exact q.get h
theorem at_dtf {F : Hp} {xs : List V} {ds : List D} {i : Int} {d : D} (q : DtA K F xs ds) (h : atI ds i = some d) : ∃ v, atI xs i = some v ∧ Dt K F v d := by
  have hl := q.len
  unfold atI at h ⊢
  rw [hl]
  cases hk : ixN ds.length i with
  | none => rw [hk] at h; cases h
  | some k =>
    rw [hk] at h
    exact q.get h
/-- a list in a mode: where it is, how its items hang -/
theorem Val.isL {B H0 F H : Hp} {v : V} (eb : Ex B H) (ef : Ex F H) (h : Val K m B H0 F H v (.lst ds)) : ∃ p xs, v = .ref p ∧ H p = some (.lst xs) ∧ (match ixm m with | .f => DtA K F xs ds | .b => DtMA K B F xs ds | _ => DtMA K H F xs ds) := by
  cases m with
  | f =>
    obtain ⟨p, xs, e, h1, h2⟩ := Dt.lst_inv h
    exact ⟨p, xs, e, ef _ _ h1, h2⟩
  | b =>
    obtain ⟨p, xs, e, h1, h2⟩ := DtM.lst_inv eb ef h
    exact ⟨p, xs, e, h1, h2⟩
  | h =>
    obtain ⟨p, xs, e, h1, h2⟩ := DtM.lst_inv (Ex.refl _) ef h
    exact ⟨p, xs, e, h1, h2⟩
  | n =>
    obtain ⟨p, e, _, _, h3⟩ := h
    rcases h3 with ⟨xs, ds', e1, h1, h2⟩ | ⟨ks, xs, ds', e1, h1, l, h2⟩
    · cases e1; exact ⟨p, xs, e, h1, h2⟩
    · cases e1
  | o =>
    obtain ⟨p, e, h3⟩ := h
    rcases h3 with ⟨xs, ds', e1, h1, h2⟩ | ⟨ks, xs, ds', e1, h1, l, h2⟩
    · cases e1; exact ⟨p, xs, e, h1, h2⟩
    · cases e1
theorem Val.isT {B H0 F H : Hp} {v : V} (eb : Ex B H) (ef : Ex F H) (h : Val K m B H0 F H v (.tup ds)) : ∃ p xs, v = .ref p ∧ H p = some (.tup xs) ∧ (match ixm m with | .f => DtA K F xs ds | .b => DtMA K B F xs ds | _ => DtMA K H F xs ds) := by
  cases m with
  | f =>
    obtain ⟨p, xs, e, h1, h2⟩ := Dt.tup_inv h
    exact ⟨p, xs, e, ef _ _ h1, h2⟩
  | b =>
    obtain ⟨p, xs, e, h1, h2⟩ := DtM.tup_inv eb ef h
    exact ⟨p, xs, e, h1, h2⟩
  | h =>
    obtain ⟨p, xs, e, h1, h2⟩ := DtM.tup_inv (Ex.refl _) ef h
    exact ⟨p, xs, e, h1, h2⟩
  | n =>
    obtain ⟨p, e, _, _, h3⟩ := h
    rcases h3 with ⟨xs, ds', e1, h1, h2⟩ | ⟨ks, xs, ds', e1, h1, l, h2⟩ <;> cases e1
  | o =>
    obtain ⟨p, e, h3⟩ := h
    rcases h3 with ⟨xs, ds', e1, h1, h2⟩ | ⟨ks, xs, ds', e1, h1, l, h2⟩ <;> cases e1
/-- items in a mode -/
def ItV (K : PySem.W.Frag) (m : Md) (B F H : Hp) (xs : List V) (ds : List D) : Prop := match ixm m with | .f => DtA K F xs ds | .b => DtMA K B F xs ds | _ => DtMA K H F xs ds
theorem ItV.at {B H0 F H : Hp} {xs : List V} {k : Int} (h : ItV K m B F H xs ds) (e : atI ds k = some d) : ∃ v, atI xs k = some v ∧ Val K (ixm m) B H0 F H v d := by
  unfold ItV at h
  cases m with
  | f => exact at_dtf h e
  | n => exact at_dtf h e
  | o => exact at_dtf h e
  | b =>
    have hl := DtMA.len h
    unfold atI at e ⊢
    rw [hl]
    cases hk : ixN ds.length k with
    | none => rw [hk] at e; cases e
    | some k => rw [hk] at e; exact DtMA.get h e
  | h => exact at_dts h e
theorem ItV.len {B F H : Hp} {xs : List V} (h : ItV K m B F H xs ds) : xs.length = ds.length := by
  unfold ItV at h
  cases m with
  | f => exact DtA.len h
  | n => exact DtA.len h
  | o => exact DtA.len h
  | b => exact DtMA.len h
  | h => exact DtMA.len h
theorem ItV.fz {B F H : Hp} {xs : List V} (h : ItV K m B F H xs ds) (c : itF m ds = true) : DtA K F xs ds := by
  unfold itF at c
  simp only [Bool.or_eq_true, decide_eq_true_eq] at c
  unfold ItV at h
  rcases c with ((rfl | rfl) | rfl) | c
  · exact h
  · exact h
  · exact h
  · cases m with
    | f => exact h
    | n => exact h
    | o => exact h
    | b => exact DtMA.imm c h
    | h => exact DtMA.imm c h
theorem ItV.h {B F H : Hp} {xs : List V} (eb : Ex B H) (h : ItV K m B F H xs ds) : DtMA K H F xs ds := by
  unfold ItV at h
  cases m with
  | f => exact DtA.m h
  | n => exact DtA.m h
  | o => exact DtA.m h
  | b => exact DtMA.mono eb (Ex.refl _) h
  | h => exact h
theorem ItV.grow {B F H F' H' : Hp} {xs : List V} (g : Grow F H F' H') (h : ItV K m B F H xs ds) : ItV K m B F' H' xs ds := by
  unfold ItV at h ⊢
  cases m with
  | f => exact DtA.mono g.f h
  | n => exact DtA.mono g.f h
  | o => exact DtA.mono g.f h
  | b => exact DtMA.mono (Ex.refl _) g.f h
  | h => exact DtMA.mono g.h g.f h
theorem e_ixL {k : Int} (ha : EE K ta ρ m1 (.lst ds)) (hb : EE K tb ρ m2 (.int k)) (h : atI ds k = some d) : EE K (tOp (rIxL K) ta tb) ρ (ixm m1) d := fun B F H σ e Q q =>
  ha B F H σ e _ fun x F1 H1 g1 dx => hb.h B F1 H1 σ (e.grow g1) _ fun y F2 H2 g2 dy => by
    obtain ⟨p, xs, rfl, h1, h2⟩ := dx.isL (e.eb.trans g1.h) g1.i
    have h2 : ItV K m1 B F2 H2 xs ds := ItV.grow g2 h2
    obtain ⟨v, h3, h4⟩ := h2.at (H0 := H) h
    exact ⟨p, xs, k, v, rfl, dy.int_inv, .inl (.inl (g2.h _ _ h1)), h3, q v F2 H2 (g1.trans g2) h4⟩
theorem e_ixT {k : Int} (ha : EE K ta ρ m1 (.tup ds)) (hb : EE K tb ρ m2 (.int k)) (h : atI ds k = some d) : EE K (tOp (rIxT K) ta tb) ρ (ixm m1) d := fun B F H σ e Q q =>
  ha B F H σ e _ fun x F1 H1 g1 dx => hb.h B F1 H1 σ (e.grow g1) _ fun y F2 H2 g2 dy => by
    obtain ⟨p, xs, rfl, h1, h2⟩ := dx.isT (e.eb.trans g1.h) g1.i
    have h2 : ItV K m1 B F2 H2 xs ds := ItV.grow g2 h2
    obtain ⟨v, h3, h4⟩ := h2.at (H0 := H) h
    exact ⟨p, xs, k, v, rfl, dy.int_inv, .inl (.inl (g2.h _ _ h1)), h3, q v F2 H2 (g1.trans g2) h4⟩
theorem e_ixS {ns : List Int} {i n : Int} (ha : EE K ta ρ m1 (.scr ns)) (hb : EE K tb ρ m2 (.int i)) (h : atI ns i = some n) : EE K (tOp (rIxL K) ta tb) ρ .f (.int n) := e_op ha hb fun B F H x y eb ef dx dy Q q => by
  obtain ⟨a, rfl, h1⟩ := dx.scr_inv ef
  have h2 : atI (ns.map V.int) i = some (.int n) := by
    unfold atI at h ⊢
    rw [List.length_map]
    cases hk : ixN ns.length i with
    | none => rw [hk] at h; cases h
    | some k =>
      rw [hk] at h
      have h' : ns[k]? = some n := h
      show (ns.map V.int)[k]? = some (V.int n)
      rw [List.getElem?_map, h']; rfl
  exact ⟨a, _, i, _, rfl, dy.int_inv, h1, h2, q _ F H (Grow.refl ef) (.int n)⟩
/-- lists together -/
theorem e_cat {ds es : List D} (ha : EE K ta ρ m1 (.lst ds)) (hb : EE K tb ρ m2 (.lst es)) (c1 : itF m1 ds = true) (c2 : itF m2 es = true) (hl : ds.length + es.length ≤ 100000) : EE K (tOp rCat ta tb) ρ .n (.lst (ds ++ es)) := fun B F H σ e Q q =>
  ha B F H σ e _ fun x F1 H1 g1 dx => hb B F1 H1 σ (e.grow g1) _ fun y F2 H2 g2 dy => by
    obtain ⟨p, xs, rfl, h1, h2⟩ := dx.isL (e.eb.trans g1.h) g1.i
    obtain ⟨p', ys, rfl, h3, h4⟩ := dy.isL ((e.eb.trans g1.h).trans g2.h) g2.i
    have f2 := (ItV.fz h2 c1).mono g2.f
    have f4 := ItV.fz h4 c2
    exact ⟨p, p', xs, ys, rfl, rfl, g2.h _ _ h1, h3, sz_of (by rw [f2.len, f4.len]; exact hl), fun l hn =>
      q _ F2 _ ((g1.trans g2).trans (Grow.newO g2.i hn)) ⟨l, rfl, fresh_back g2.i hn, fresh_back (g1.trans g2).h hn, .inl ⟨_, _, rfl, upd_same, .append f2 f4⟩⟩⟩
/-! arguments, displays -/
theorem ea_nil : EA K tNil ρ [] := fun B F H σ e Q q => q [] F H (Grow.refl e.ef) .nil
theorem ea_cons {tr : TA} (h : EE K te ρ m d) (hr : EA K tr ρ ds) : EA K (tCons te tr) ρ (d :: ds) := fun B F H σ e Q q =>
  h.h B F H σ e _ fun v F1 H1 g1 dv => hr B F1 H1 σ (e.grow g1) _ fun vs F2 H2 g2 dvs => q (v :: vs) F2 H2 (g1.trans g2) (.cons (dv.grow (m := .h) (B := B) (H0 := H) g2) dvs)
theorem ef_nil : EF K tNil ρ [] := fun B F H σ e Q q => q [] F H (Grow.refl e.ef) .nil
theorem ef_cons {tr : TA} (c : cf m d = true) (h : EE K te ρ m d) (hr : EF K tr ρ ds) : EF K (tCons te tr) ρ (d :: ds) := fun B F H σ e Q q =>
  (h.f c) B F H σ e _ fun v F1 H1 g1 dv => hr B F1 H1 σ (e.grow g1) _ fun vs F2 H2 g2 dvs => q (v :: vs) F2 H2 (g1.trans g2) (.cons (Dt.mono g2.f dv) dvs)
theorem e_tup {ta : TA} (h : EF K ta ρ ds) (hl : ds.length ≤ 100000) : EE K (tTup ta) ρ .f (.tup ds) := fun B F H σ e Q q =>
  h B F H σ e _ fun vs F1 H1 g1 dvs => ⟨sz_of (by rw [dvs.len]; exact hl), fun p hn =>
    q _ _ _ (g1.trans (Grow.new g1.i hn)) (Dt.tup upd_same (dvs.mono (Ex.new (fresh_back g1.i hn))))⟩
theorem e_tupH {ta : TA} (h : EA K ta ρ ds) (hl : ds.length ≤ 100000) (hi : immA ds = false) : EE K (tTup ta) ρ .h (.tup ds) := fun B F H σ e Q q =>
  h B F H σ e _ fun vs F1 H1 g1 dvs => ⟨sz_of (by rw [dvs.len]; exact hl), fun p hn =>
    q _ F1 _ (g1.trans (Grow.newO g1.i hn)) (DtM.tup (by simp [QL.imm, hi]) upd_same (dvs.mono (Ex.new hn) (Ex.refl _)))⟩
theorem e_lst {ta : TA} (h : EF K ta ρ ds) (hl : ds.length ≤ 100000) : EE K (tLst ta) ρ .n (.lst ds) := fun B F H σ e Q q =>
  h B F H σ e _ fun vs F1 H1 g1 dvs => ⟨sz_of (by rw [dvs.len]; exact hl), fun p hn =>
    q _ F1 _ (g1.trans (Grow.newO g1.i hn)) ⟨p, rfl, fresh_back g1.i hn, fresh_back g1.h hn, .inl ⟨_, _, rfl, upd_same, dvs⟩⟩⟩
theorem e_lstH {ta : TA} (h : EA K ta ρ ds) (hl : ds.length ≤ 100000) : EE K (tLst ta) ρ .h (.lst ds) := fun B F H σ e Q q =>
  h B F H σ e _ fun vs F1 H1 g1 dvs => ⟨sz_of (by rw [dvs.len]; exact hl), fun p hn =>
    q _ F1 _ (g1.trans (Grow.newO g1.i hn)) (DtM.lst upd_same (dvs.mono (Ex.new hn) (Ex.refl _)))⟩
theorem e_cb {rr : List V → Hp → VK → Prop} {ta : TA} (h : EA K ta ρ ds) (ho : OpA K rr ds m3 d3) : EE K (tCB rr ta) ρ m3 d3 := fun B F H σ e Q q =>
  h B F H σ e _ fun vs F1 H1 g1 dvs => ho B F1 H1 vs (e.eb.trans g1.h) g1.i dvs Q fun v F2 H2 g2 dv => q v F2 H2 (g1.trans g2) (dv.back g1.h)
theorem e_neg {i : Int} (ha : EE K ta ρ m1 (.int i)) : EE K (tUn (rU fun i => .int (-i)) ta) ρ .f (.int (-i)) := fun B F H σ e Q q =>
  ha.h B F H σ e _ fun x F1 H1 g1 dx => ⟨_, DtM.int_inv dx, q _ F1 H1 g1 (.int _)⟩
theorem DtMA.inv1 {P F : Hp} {xs : List V} {d : D} (h : DtMA K P F xs [d]) : ∃ v, xs = [v] ∧ DtM K P F v d := by
  cases h with
  | cons a b => cases b; exact ⟨_, rfl, a⟩
theorem DtMA.inv2 {P F : Hp} {xs : List V} {d d' : D} (h : DtMA K P F xs [d, d']) : ∃ v v', xs = [v, v'] ∧ DtM K P F v d ∧ DtM K P F v' d' := by
  cases h with
  | cons a b =>
    obtain ⟨v, rfl, q⟩ := b.inv1
    exact ⟨_, _, rfl, a, q⟩
theorem oa_int {i : Int} : OpA K (fun xs H Q => (∃ i, xs = [.int i] ∧ Q (.int i) H) ∨ ∃ k, xs = [.bl k] ∧ Q (.int (if k then 1 else 0)) H) [.int i] .f (.int i) := fun B F H xs _ ef h Q q => by
  obtain ⟨v, rfl, dv⟩ := h.inv1
  exact .inl ⟨i, by rw [dv.int_inv], q _ _ _ (Grow.refl ef) (.int i)⟩
/-- len -/
def dlen : D → Option Nat
  | .lst ds => some ds.length | .tup ds => some ds.length | .scr ns => some ns.length | _ => none
theorem oa_len {n : Nat} (hn : dlen d = some n) : OpA K (fun xs H Q => ∃ p ys, xs = [.ref p] ∧ (SqL K H p ys ∨ SqT K H p ys) ∧ Q (.int ys.length) H) [d] .f (.int n) := fun B F H xs eb ef h Q q => by
  obtain ⟨v, rfl, dv⟩ := h.inv1
  cases d with
  | lst ds =>
    cases hn
    obtain ⟨a, ys, rfl, h1, h2⟩ := dv.lst_inv (Ex.refl _) ef
    refine ⟨a, ys, rfl, .inl (.inl (.inl h1)), q _ _ _ (Grow.refl ef) ?_⟩
    rw [h2.len]; exact .int _
  | tup ds =>
    cases hn
    obtain ⟨a, ys, rfl, h1, h2⟩ := dv.tup_inv (Ex.refl _) ef
    refine ⟨a, ys, rfl, .inr (.inl (.inl h1)), q _ _ _ (Grow.refl ef) ?_⟩
    rw [h2.len]; exact .int _
  | scr ns =>
    cases hn
    obtain ⟨a, rfl, h1⟩ := dv.scr_inv ef
    refine ⟨a, _, rfl, .inl h1, q _ _ _ (Grow.refl ef) ?_⟩
    rw [List.length_map]; exact .int _
  | _ => cases hn
/-- the items of a sequence -/
def seqOf : D → Option (List D)
  | .lst ds => some ds | .tup ds => some ds | .scr ns => some (ns.map .int) | _ => none
theorem Val.seq {B H0 F H : Hp} {v : V} (eb : Ex B H) (ef : Ex F H) (h : Val K m B H0 F H v d) (hs : seqOf d = some ds) : ∃ p xs, v = .ref p ∧ (SqL K H p xs ∨ SqT K H p xs) ∧ ItV K m B F H xs ds := by
  cases d with
  | lst es =>
    cases hs
    obtain ⟨p, xs, e, h1, h2⟩ := h.isL eb ef
    exact ⟨p, xs, e, .inl (.inl (.inl h1)), h2⟩
  | tup es =>
    cases hs
    obtain ⟨p, xs, e, h1, h2⟩ := h.isT eb ef
    exact ⟨p, xs, e, .inr (.inl (.inl h1)), h2⟩
  | scr ns =>
    cases hs
    obtain ⟨p, e, h1⟩ := (h.toH eb).scr_inv ef
    refine ⟨p, _, e, .inl h1, ?_⟩
    have i := DtA.ints (K := K) (H := F) ns
    unfold ItV
    cases m with
    | f => exact i
    | n => exact i
    | o => exact i
    | b => exact i.m
    | h => exact i.m
  | _ => cases hs
/-- list(xs) -/
theorem e_list {ta : TE} (h : EE K ta ρ m d) (hs : seqOf d = some ds) (c : itF m ds = true) : EE K (tCB (fun xs H Q => ∃ p ys, xs = [.ref p] ∧ (SqL K H p ys ∨ SqT K H p ys) ∧ ∀ l, H l = none → Q (.ref l) (upd H l (.lst ys))) (tCons ta tNil)) ρ .n (.lst ds) := fun B F H σ e Q q =>
  h B F H σ e _ fun v F1 H1 g1 dv => by
    obtain ⟨p, xs, rfl, h1, h2⟩ := dv.seq (e.eb.trans g1.h) g1.i hs
    exact ⟨p, xs, rfl, h1, fun l hn => q _ F1 _ (g1.trans (Grow.newO g1.i hn)) ⟨l, rfl, fresh_back g1.i hn, fresh_back g1.h hn, .inl ⟨_, _, rfl, upd_same, h2.fz c⟩⟩⟩
theorem e_listH {ta : TE} (h : EE K ta ρ m d) (hs : seqOf d = some ds) : EE K (tCB (fun xs H Q => ∃ p ys, xs = [.ref p] ∧ (SqL K H p ys ∨ SqT K H p ys) ∧ ∀ l, H l = none → Q (.ref l) (upd H l (.lst ys))) (tCons ta tNil)) ρ .h (.lst ds) := fun B F H σ e Q q =>
  h B F H σ e _ fun v F1 H1 g1 dv => by
    obtain ⟨p, xs, rfl, h1, h2⟩ := dv.seq (e.eb.trans g1.h) g1.i hs
    exact ⟨p, xs, rfl, h1, fun l hn => q _ F1 _ (g1.trans (Grow.newO g1.i hn)) (DtM.lst upd_same ((h2.h (e.eb.trans g1.h)).mono (Ex.new hn) (Ex.refl _)))⟩
/-- tuple(xs) of a list, of a tuple -/
abbrev rTupOf (K : PySem.W.Frag) : List V → Hp → VK → Prop := fun xs H Q => ∃ p ys, xs = [.ref p] ∧ ((SqL K H p ys ∧ ∀ l, H l = none → Q (.ref l) (upd H l (.tup ys))) ∨ (SqT K H p ys ∧ Q (.ref p) H))
theorem e_tupleL {ta : TE} (h : EE K ta ρ m (.lst ds)) (c : itF m ds = true) : EE K (tCB (rTupOf K) (tCons ta tNil)) ρ .f (.tup ds) := fun B F H σ e Q q =>
  h B F H σ e _ fun v F1 H1 g1 dv => by
    obtain ⟨p, xs, rfl, h1, h2⟩ := dv.isL (e.eb.trans g1.h) g1.i
    exact ⟨p, xs, rfl, .inl ⟨.inl (.inl h1), fun l hn => q _ _ _ (g1.trans (Grow.new g1.i hn)) (Dt.tup upd_same ((ItV.fz h2 c).mono (Ex.new (fresh_back g1.i hn))))⟩⟩
theorem e_tupleS {ns : List Int} {ta : TE} (h : EE K ta ρ m (.scr ns)) : EE K (tCB (rTupOf K) (tCons ta tNil)) ρ .f (.tup (ns.map .int)) := fun B F H σ e Q q =>
  h.h B F H σ e _ fun v F1 H1 g1 dv => by
    obtain ⟨p, rfl, h1⟩ := DtM.scr_inv g1.i dv
    exact ⟨p, _, rfl, .inl ⟨h1, fun l hn => q _ _ _ (g1.trans (Grow.new g1.i hn)) (Dt.tup upd_same (DtA.ints ns))⟩⟩
theorem e_tupleT {ta : TE} (h : EE K ta ρ m (.tup ds)) : EE K (tCB (rTupOf K) (tCons ta tNil)) ρ m (.tup ds) := fun B F H σ e Q q =>
  h B F H σ e _ fun v F1 H1 g1 dv => by
    obtain ⟨p, xs, rfl, h1, h2⟩ := dv.isT (e.eb.trans g1.h) g1.i
    exact ⟨p, xs, rfl, .inr ⟨.inl (.inl h1), q _ _ _ g1 dv⟩⟩
/-! isinstance with a built-in class -/
def tyName : D → String
  | .non => "NoneType" | .bl _ => "bool" | .int _ => "int" | .str _ => "str" | .lst _ => "list" | .tup _ => "tuple" | .scr _ => "" | .obj _ _ _ => "" | .dic _ _ => "dict"
theorem ty_of {H F : Hp} {v : V} {d : D} (ef : Ex F H) (h : DtM K H F v d) (hs : tyName d ≠ "") : TyX K H v (.type (tyName d)) := by
  cases d with
  | non => rw [h.non_inv]; exact .base .non
  | bl b => rw [h.bl_inv]; exact .base (.bl b)
  | int b => rw [h.int_inv]; exact .base (.int b)
  | str b => rw [h.str_inv]; exact .base (.str b)
  | scr ns => exact absurd rfl hs
  | lst ds =>
    obtain ⟨a, ys, rfl, h1, h2⟩ := h.lst_inv (Ex.refl _) ef
    exact .base (.lst h1)
  | tup ds =>
    obtain ⟨a, ys, rfl, h1, h2⟩ := h.tup_inv (Ex.refl _) ef
    exact .base (.tup h1)
  | obj _ _ _ => exact absurd rfl hs
  | dic ks ds =>
    obtain ⟨a, ys, rfl, h1, l, h2⟩ := h.dic_inv (Ex.refl _) ef
    exact .base (.dK h1)
theorem e_isi {T : String} {b : Bool} (h : EE K te ρ m d) (hs : tyName d ≠ "") (hk : kitB (tyName d) T = some b) : EE K (tCB (rIsi K) (tCons te (tCons (tC (.ty T)) tNil))) ρ .f (.bl b) := fun B F H σ e Q q =>
  h.h B F H σ e _ fun v F1 H1 g1 dv => ⟨v, .ty T, _, _, b, rfl, .ty T, ty_of g1.i dv hs, kit_ty hk, q _ _ _ g1 (.bl b)⟩
/-! and, or, not as values; tests -/
variable {t u : TT} {a b : Bool}
theorem e_and (h1 : EE K ta ρ m1 (.bl a)) (h2 : a = true → EE K tb ρ m2 (.bl b)) : EE K (tAndV ta tb) ρ .f (.bl (a && b)) := fun B F H σ e Q q => h1.h B F H σ e _ fun v F1 H1 g1 dv => by
  refine ⟨a, DtM.bl_inv dv, ?_⟩
  cases a with
  | true =>
    show tb σ H1 Q
    exact (h2 rfl).h B F1 H1 σ (e.grow g1) Q fun w F2 H2 g2 dw => by
      rw [DtM.bl_inv dw]; exact q _ F2 H2 (g1.trans g2) (.bl b)
  | false =>
    show Q (.bl false) H1
    exact q _ F1 H1 g1 (.bl false)
theorem e_or (h1 : EE K ta ρ m1 (.bl a)) (h2 : a = false → EE K tb ρ m2 (.bl b)) : EE K (tOrV ta tb) ρ .f (.bl (a || b)) := fun B F H σ e Q q => h1.h B F H σ e _ fun v F1 H1 g1 dv => by
  refine ⟨a, DtM.bl_inv dv, ?_⟩
  cases a with
  | true =>
    show Q (.bl true) H1
    exact q _ F1 H1 g1 (.bl true)
  | false =>
    show tb σ H1 Q
    exact (h2 rfl).h B F1 H1 σ (e.grow g1) Q fun w F2 H2 g2 dw => by
      rw [DtM.bl_inv dw]; exact q _ F2 H2 (g1.trans g2) (.bl b)
theorem e_not (h1 : EE K ta ρ m1 (.bl a)) : EE K (tNotV ta) ρ .f (.bl (!a)) := fun B F H σ e Q q => h1.h B F H σ e _ fun v F1 H1 g1 dv => ⟨a, DtM.bl_inv dv, q _ F1 H1 g1 (.bl _)⟩
theorem e_ifx {d : D} (h : ET K t ρ b) (h1 : b = true → EE K ta ρ m d) (h2 : b = false → EE K tb ρ m d) : EE K (tIf t ta tb) ρ m d := fun B F H σ e Q q => h B F H σ e _ fun F1 H1 g1 => by
  cases b with
  | true => exact h1 rfl B F1 H1 σ (e.grow g1) Q fun w F2 H2 g2 dw => q _ F2 H2 (g1.trans g2) (dw.back g1.h)
  | false => exact h2 rfl B F1 H1 σ (e.grow g1) Q fun w F2 H2 g2 dw => q _ F2 H2 (g1.trans g2) (dw.back g1.h)
theorem t_test (h : EE K te ρ m (.bl b)) : ET K (tTest te) ρ b := fun B F H σ e Q q => h.h B F H σ e _ fun v F1 H1 g1 dv => ⟨b, DtM.bl_inv dv, q F1 H1 g1⟩
theorem t_val (h : EE K te ρ m (.bl b)) : ET K (tB te) ρ b := fun B F H σ e Q q => h.h B F H σ e _ fun v F1 H1 g1 dv => ⟨b, DtM.bl_inv dv, q F1 H1 g1⟩
theorem t_and (h1 : ET K t ρ a) (h2 : a = true → ET K u ρ b) : ET K (tAnd t u) ρ (a && b) := fun B F H σ e Q q => h1 B F H σ e _ fun F1 H1 g1 => by
  cases a with
  | true => exact h2 rfl B F1 H1 σ (e.grow g1) Q fun F2 H2 g2 => q F2 H2 (g1.trans g2)
  | false => exact q F1 H1 g1
theorem t_or (h1 : ET K t ρ a) (h2 : a = false → ET K u ρ b) : ET K (tOr t u) ρ (a || b) := fun B F H σ e Q q => h1 B F H σ e _ fun F1 H1 g1 => by
  cases a with
  | true => exact q F1 H1 g1
  | false => exact h2 rfl B F1 H1 σ (e.grow g1) Q fun F2 H2 g2 => q F2 H2 (g1.trans g2)
theorem t_not (h1 : ET K t ρ a) : ET K (tNot t) ρ (!a) := fun B F H σ e Q q => h1 B F H σ e _ fun F1 H1 g1 => q F1 H1 g1
theorem t_yes : ET K tYes ρ true := fun B F H σ e Q q => q F H (Grow.refl e.ef)
theorem ET.to (h : ET K t ρ a) (e : a = b) : ET K t ρ b := e ▸ h
/-- a list's truth -/
theorem t_lst (h : EE K ta ρ m (.lst ds)) : ET K (fun σ H Q => ta σ H fun x H' => ∃ k, TruV K x H' k ∧ Q k H') ρ (!ds.isEmpty) := fun B F H σ e Q q => h.h B F H σ e _ fun v F1 H1 g1 dv => by
  obtain ⟨p, xs, rfl, h1, h2⟩ := DtM.lst_inv (Ex.refl _) g1.i dv
  refine ⟨_, .inl ⟨xs, .inl (.inl h1), rfl⟩, ?_⟩
  have e : xs.isEmpty = ds.isEmpty := by
    cases h2 <;> rfl
  rw [e]
  exact q F1 H1 g1
theorem e_chain {tc : TE} {g g' : Int → Int → Bool} {x y z : Int} (ha : EE K ta ρ m1 (.int x)) (hb : EE K tb ρ m2 (.int y)) (hc : EE K tc ρ m3 (.int z)) : EE K (tChain (rI0 fun i j => .bl (g i j)) (rI0 fun i j => .bl (g' i j)) ta tb tc) ρ .f (.bl (g x y && g' y z)) := fun B F H σ e Q q =>
  ha.h B F H σ e _ fun v F1 H1 g1 dv => hb.h B F1 H1 σ (e.grow g1) _ fun w F2 H2 g2 dw => by
    rw [DtM.int_inv dv, DtM.int_inv dw]
    refine ⟨x, y, rfl, rfl, g x y, rfl, ?_⟩
    cases hg : g x y with
    | true =>
      rw [if_pos rfl]
      refine hc.h B F2 H2 σ ((e.grow g1).grow g2) _ fun w' F3 H3 g3 dw' => ?_
      rw [DtM.int_inv dw']
      refine ⟨y, z, rfl, rfl, q _ F3 H3 ((g1.trans g2).trans g3) ?_⟩
      rw [hg]; exact .bl _
    | false =>
      rw [if_neg Bool.false_ne_true]
      refine q _ F2 H2 (g1.trans g2) ?_
      rw [hg]; exact .bl _
end

/-! ### deep equality -/
mutual
def toPy : D → PyData
  | .non => .none
  | .bl b => .bool b
  | .int i => .int i
  | .str x => .str x
  | .lst ds => .list (toPyA ds)
  | .tup ds => .tuple (toPyA ds)
  | .scr ns => .list (ns.map PyData.int)
  | .obj _ _ _ => .dict []
  | .dic _ _ => .dict []
def toPyA : List D → List PyData
  | [] => []
  | d :: ds => toPy d :: toPyA ds
end
theorem dp_ints {K : PySem.W.Frag} {H : Hp} : ∀ (ns : List Int), DpAll K H (ns.map V.int) (ns.map PyData.int)
  | [] => .nil
  | n :: r => .cons (.int n) (dp_ints r)
mutual
theorem dp_of {K : PySem.W.Frag} {H : Hp} : ∀ {v : V} {d : D}, PyData.canLay0 (toPy d) = true → Dt K H v d → Dp K H v (toPy d)
  | _, _, _, .non => .non
  | _, _, _, .bl b => .bl b
  | _, _, _, .int b => .int b
  | _, _, _, .str b => .str b
  | _, _, _, .scr (ns := ns) h => .lst h (dp_ints ns)
  | _, _, c, .lst h q => .lst (.inl (.inl h)) (dp_all (by simpa [toPy, PyData.canLay0] using c) q)
  | _, _, c, .tup h q => .tup (.inl (.inl h)) (dp_all (by simpa [toPy, PyData.canLay0] using c) q)
  | _, _, c, .obj _ _ _ => absurd c (by simp [toPy, PyData.canLay0])
  | _, _, c, .dic _ _ _ => absurd c (by simp [toPy, PyData.canLay0])
theorem dp_all {K : PySem.W.Frag} {H : Hp} : ∀ {vs : List V} {ds : List D}, PyData.canLayAll0 (toPyA ds) = true → DtA K H vs ds → DpAll K H vs (toPyA ds)
  | _, _, _, .nil => .nil
  | _, _, c, .cons h q => by
    simp [toPyA, PyData.canLayAll0] at c
    exact .cons (dp_of c.1 h) (dp_all c.2 q)
end
mutual
theorem dpm_of {K : PySem.W.Frag} {H F : Hp} (ef : Ex F H) : ∀ {v : V} {d : D}, PyData.canLay0 (toPy d) = true → DtM K H F v d → Dp K H v (toPy d)
  | _, _, c, .fz h => dp_of c (h.mono ef)
  | _, _, c, .lst h q => .lst (.inl (.inl h)) (dpm_all ef (by simpa [toPy, PyData.canLay0] using c) q)
  | _, _, c, .tup _ h q => .tup (.inl (.inl h)) (dpm_all ef (by simpa [toPy, PyData.canLay0] using c) q)
  | _, _, c, .dic _ _ _ => absurd c (by simp [toPy, PyData.canLay0])
theorem dpm_all {K : PySem.W.Frag} {H F : Hp} (ef : Ex F H) : ∀ {vs : List V} {ds : List D}, PyData.canLayAll0 (toPyA ds) = true → DtMA K H F vs ds → DpAll K H vs (toPyA ds)
  | _, _, _, .nil => .nil
  | _, _, c, .cons h q => by
    simp [toPyA, PyData.canLayAll0] at c
    exact .cons (dpm_of ef c.1 h) (dpm_all ef c.2 q)
end
section
variable {K : PySem.W.Frag} {d1 d2 : D}
theorem o_eqD (h1 : SeqAt.shaped (toPy d1) = true) (h2 : SeqAt.shaped (toPy d2) = true) : Op2 K (rEqD K) d1 d2 .f (.bl (PyData.eqv (toPy d1) (toPy d2))) := fun B F H x y eb ef dx dy Q q =>
  ⟨_, _, dpm_of ef (SeqAt.canLay_of_shaped h1) dx, dpm_of ef (SeqAt.canLay_of_shaped h2) dy, h1, h2, q _ _ _ (Grow.refl ef) (.bl _)⟩
theorem o_neD (h1 : SeqAt.shaped (toPy d1) = true) (h2 : SeqAt.shaped (toPy d2) = true) : Op2 K (rNeD K) d1 d2 .f (.bl (!PyData.eqv (toPy d1) (toPy d2))) := fun B F H x y eb ef dx dy Q q =>
  ⟨_, _, dpm_of ef (SeqAt.canLay_of_shaped h1) dx, dpm_of ef (SeqAt.canLay_of_shaped h2) dy, h1, h2, q _ _ _ (Grow.refl ef) (.bl _)⟩
end

/-! ### promises of defs -/
/-- what a call comes to -/
inductive Res where
  | ok (m : Md) (d : D)
  | er (x : Er)
/-- a def's promise -/
def SpR (K : PySem.W.Frag) (R : List D → Option Res) : Sp := fun vs H Q E => ∃ Fi ds m d, Ex Fi H ∧ DtMA K H Fi vs ds ∧ R ds = some (.ok m d) ∧ (m = .f ∨ m = .n) ∧ ∀ v F' H', Grow Fi H F' H' → Val K m Emp H F' H' v d → Q v H'
section
variable {K : PySem.W.Frag} {ρ : List Sl} {ta : TA} {ds : List D} {d : D} {m : Md} {E : XK} {R : List D → Option Res}
theorem Val.anyB {m : Md} {B B' H0 F H : Hp} {v : V} (hm : m = .f ∨ m = .n) (h : Val K m B H0 F H v d) : Val K m B' H0 F H v d := by
  rcases hm with rfl | rfl
  · exact h
  · exact h
theorem e_call (h : EA K ta ρ ds) (hR : R ds = some (.ok m d)) (hm : m = .f ∨ m = .n) : EE K (tCall (SpR K R) [] E ta) ρ m d := fun B F H σ e Q q =>
  h B F H σ e _ fun vs F1 H1 g1 dvs => ⟨F1, ds, m, d, g1.i, by rw [List.append_nil]; exact dvs, hR, hm, fun v F2 H2 g2 dv => q v F2 H2 (g1.trans g2) ((dv.anyB hm).back g1.h)⟩
end
end QL

end
section
set_option maxRecDepth 100000
set_option maxHeartbeats 2000000
namespace QL
open PySem PySem.Spec PyProof.Rows L2 Evl

/-! ### items of what is walked, patterns -/
/-- an item: a datum in a mode; a tuple on the way, of such -/
inductive Item where
  | one (m : Md) (d : D)
  | many (ms : List (Md × D))
def ValA (K : PySem.W.Frag) (B F H : Hp) : List V → List (Md × D) → Prop
  | [], [] => True
  | v :: vs, x :: ms => Val K x.1 B H F H v x.2 ∧ ValA K B F H vs ms
  | _, _ => False
def IVal (K : PySem.W.Frag) (B F H : Hp) (v : V) : Item → Prop
  | .one m d => Val K m B H F H v d
  | .many ms => ∃ p vs, v = .ref p ∧ H p = some (.tup vs) ∧ ValA K B F H vs ms
inductive Pat where
  | nm (i : Nat)
  | tp (ps : List Pat)
/-- what a name takes -/
def slotOf (m : Md) (d : D) : Option Sl := if imm d = true then some (.dat d) else match m with | .f => some (.dat d) | .b => some (.bor d) | _ => none
mutual
def bindP : Pat → List Sl → Item → Option (List Sl)
  | .nm i, ρ, .one m d => (slotOf m d).map fun s => ρ.set i s
  | .nm _, _, .many _ => none
  | .tp ps, ρ, .one m d => match d with
    | .tup ds => if ds.length = ps.length then bindPs ps ρ (ds.map fun d => (ixm m, d)) else none
    | _ => none
  | .tp ps, ρ, .many ms => if ms.length = ps.length then bindPs ps ρ ms else none
def bindPs : List Pat → List Sl → List (Md × D) → Option (List Sl)
  | [], ρ, [] => some ρ
  | p :: ps, ρ, x :: ms => (bindP p ρ (.one x.1 x.2)).bind fun ρ1 => bindPs ps ρ1 ms
  | _, _, _ => none
end
mutual
def Pat.vars : Pat → List Nat
  | .nm i => [i]
  | .tp ps => Pat.varsA ps
def Pat.varsA : List Pat → List Nat
  | [] => []
  | p :: ps => Pat.vars p ++ Pat.varsA ps
end
theorem wipe_set {σ : L2.St} {i : Nat} {o : Option V} : ∀ {vs : List Nat}, i ∈ vs → L2.wipe (σ.set i o) vs = L2.wipe σ vs
  | [], h => by cases h
  | v :: vs, h => by
    show (L2.wipe (σ.set i o) vs).set v none = (L2.wipe σ vs).set v none
    by_cases hv : i ∈ vs
    · rw [wipe_set hv]
    · have e : i = v := by
        rcases List.mem_cons.mp h with e | e
        · exact e
        · exact absurd e hv
      subst e
      have key : ∀ {vs : List Nat}, i ∉ vs → L2.wipe (σ.set i o) vs = (L2.wipe σ vs).set i o := by
        intro vs
        induction vs with
        | nil => intro _; rfl
        | cons w ws ih =>
          intro hn
          show (L2.wipe (σ.set i o) ws).set w none = ((L2.wipe σ ws).set w none).set i o
          rw [ih (fun z => hn (List.mem_cons_of_mem _ z))]
          exact List.set_comm _ _ (fun z => hn (by rw [z]; exact List.mem_cons_self))
      rw [key hv, List.set_set]
section
variable {K : PySem.W.Frag} {B F H : Hp} {ρ ρ' : List Sl}
theorem slotOf_ok {m : Md} {d : D} {s : Sl} {v : V} (eb : Ex B H) (h : slotOf m d = some s) (hv : Val K m B H F H v d) : SlOk K B F H (some v) s ∧ s.mine = false := by
  unfold slotOf at h
  split at h
  · rename_i i
    cases h
    exact ⟨.dat ((hv.toH eb).imm i), rfl⟩
  · cases m with
    | f => cases h; exact ⟨.dat hv, rfl⟩
    | b => cases h; exact ⟨.bor hv, rfl⟩
    | _ => cases h
theorem ValA.of {m : Md} {xs : List V} {ds : List D} (h : ItV K m B F H xs ds) : ValA K B F H xs (ds.map fun d => (ixm m, d)) := by
  unfold ItV at h
  have kf : ∀ {xs : List V} {ds : List D}, DtA K F xs ds → ValA K B F H xs (ds.map fun d => (Md.f, d)) := by
    intro xs
    induction xs with
    | nil => intro ds h; cases h; trivial
    | cons x xs ih => intro ds h; cases h with | cons a b => exact ⟨a, ih b⟩
  have kb : ∀ {xs : List V} {ds : List D}, DtMA K B F xs ds → ValA K B F H xs (ds.map fun d => (Md.b, d)) := by
    intro xs
    induction xs with
    | nil => intro ds h; cases h; trivial
    | cons x xs ih => intro ds h; cases h with | cons a b => exact ⟨a, ih b⟩
  have kh : ∀ {xs : List V} {ds : List D}, DtMA K H F xs ds → ValA K B F H xs (ds.map fun d => (Md.h, d)) := by
    intro xs
    induction xs with
    | nil => intro ds h; cases h; trivial
    | cons x xs ih => intro ds h; cases h with | cons a b => exact ⟨a, ih b⟩
  cases m with
  | f => exact kf h
  | n => exact kf h
  | o => exact kf h
  | b => exact kb h
  | h => exact kh h
theorem ValA.len : ∀ {vs : List V} {ms : List (Md × D)}, ValA K B F H vs ms → vs.length = ms.length
  | [], [], _ => rfl
  | _ :: _, _ :: _, h => by simp [ValA.len h.2]
  | [], _ :: _, h => h.elim
  | _ :: _, [], h => h.elim
mutual
/-- a target that stands for a pattern -/
inductive GP (K : PySem.W.Frag) : TG → Pat → Prop where
  | nm (i : Nat) : GP K (gName i) (.nm i)
  | tp {n : Nat} {ts : TGs} {ps : List Pat} : n = ps.length → GPs K ts ps → GP K (gTup K n ts) (.tp ps)
inductive GPs (K : PySem.W.Frag) : TGs → List Pat → Prop where
  | nil : GPs K gNil []
  | cons {t : TG} {ts : TGs} {p : Pat} {ps : List Pat} : GP K t p → GPs K ts ps → GPs K (gCons t ts) (p :: ps)
end
mutual
theorem GP.run (eb : Ex B H) (ef : Ex F H) : ∀ {g : TG} {p : Pat}, GP K g p → ∀ {it : Item} {ρ ρ' : List Sl} {σ : L2.St} {v : V}, bindP p ρ it = some ρ' → EnvOk K B F H σ ρ → IVal K B F H v it →
    ∀ Q : L2.St → Hp → Prop, (∀ σ', EnvOk K B F H σ' ρ' → (∀ vs, (∀ i ∈ p.vars, i ∈ vs) → L2.wipe σ' vs = L2.wipe σ vs) → (∀ k p, Own1 σ' ρ' k p → Own1 σ ρ k p) → Q σ' H) → g v σ H Q
  | _, _, .nm i, it, ρ, ρ', σ, v, hb, e, iv, Q, q => by
    cases it with
    | many ms => cases hb
    | one m d =>
      simp only [bindP, Option.map_eq_some_iff] at hb
      obtain ⟨s, h1, rfl⟩ := hb
      obtain ⟨h2, h3⟩ := slotOf_ok eb h1 iv
      exact q _ (e.put i h2 h3) (fun vs hv => wipe_set (hv i (by simp [Pat.vars]))) fun k p o => by
        by_cases hk : i = k
        · subst hk
          have := (own1_at o).2
          rw [h3] at this; cases this
        · exact own1_set hk o
  | _, _, .tp hn hs, it, ρ, ρ', σ, v, hb, e, iv, Q, q => by
    cases it with
    | many ms =>
      simp only [bindP] at hb
      split at hb
      · rename_i hl
        obtain ⟨p, vs, rfl, h1, h2⟩ := iv
        exact ⟨p, vs, rfl, .inl (.inl h1), by rw [h2.len, hl, hn], GPs.run eb ef hs hb e h2 Q fun σ' e' hw ho => q σ' e' hw ho⟩
      · cases hb
    | one m d =>
      cases d with
      | tup ds =>
        simp only [bindP] at hb
        split at hb
        · rename_i hl
          obtain ⟨p, vs, rfl, h1, h2⟩ := Val.isT eb ef iv
          have h2 : ItV K m B F H vs ds := h2
          exact ⟨p, vs, rfl, .inl (.inl h1), by rw [h2.len, hl, hn], GPs.run eb ef hs hb e (ValA.of h2) Q fun σ' e' hw ho => q σ' e' hw ho⟩
        · cases hb
      | _ => simp [bindP] at hb
theorem GPs.run (eb : Ex B H) (ef : Ex F H) : ∀ {g : TGs} {ps : List Pat}, GPs K g ps → ∀ {ms : List (Md × D)} {ρ ρ' : List Sl} {σ : L2.St} {vs : List V}, bindPs ps ρ ms = some ρ' → EnvOk K B F H σ ρ → ValA K B F H vs ms →
    ∀ Q : L2.St → Hp → Prop, (∀ σ', EnvOk K B F H σ' ρ' → (∀ ws, (∀ i ∈ Pat.varsA ps, i ∈ ws) → L2.wipe σ' ws = L2.wipe σ ws) → (∀ k p, Own1 σ' ρ' k p → Own1 σ ρ k p) → Q σ' H) → g vs σ H Q
  | _, _, .nil, ms, ρ, ρ', σ, vs, hb, e, iv, Q, q => by
    cases ms with
    | cons _ _ => simp [bindPs] at hb
    | nil =>
      cases vs with
      | cons _ _ => exact iv.elim
      | nil =>
        simp only [bindPs, Option.some.injEq] at hb
        subst hb
        exact ⟨rfl, q σ e (fun _ _ => rfl) fun _ _ o => o⟩
  | _, _, .cons hp hs, ms, ρ, ρ', σ, vs, hb, e, iv, Q, q => by
    cases ms with
    | nil => simp [bindPs] at hb
    | cons x ms =>
      cases vs with
      | nil => exact iv.elim
      | cons v vs =>
        simp only [bindPs, Option.bind_eq_some_iff] at hb
        obtain ⟨ρ1, h1, h2⟩ := hb
        refine ⟨v, vs, rfl, ?_⟩
        refine GP.run eb ef hp h1 e iv.1 _ fun σ1 e1 w1 o1 => ?_
        refine GPs.run eb ef hs h2 e1 iv.2 _ fun σ2 e2 w2 o2 => q σ2 e2 (fun ws hw => ?_) fun k p o => o1 k p (o2 k p o)
        rw [w2 ws fun i hi => hw i (by simp [Pat.varsA, hi]), w1 ws fun i hi => hw i (by simp [Pat.varsA, hi])]
end
end

/-! ### sources -/
/-- its items; those of a stable source hang on the frame or on what was lent -/
def Src (K : PySem.W.Frag) (wi : TI) (ρ : List Sl) (st : Bool) (its : List Item) : Prop :=
  ∀ B F H σ, EnvOk K B F H σ ρ → ∀ R : It → Hp → Prop, (∀ (J : It) F' H', Grow F H F' H' →
    (∀ F2 H2, Ex F' F2 → (∀ p, B p ≠ none → F' p = none → F2 p = none) → Ex B H2 → Ex F2 H2 → (st = false → Ex H' H2) → ∀ (k : Nat) it, its[k]? = some it → J.go k H2 ∧ ∀ x H3, J.yld k H2 x H3 → Ex H2 H3 ∧ IVal K B F2 H3 x it) →
    (∀ F2 H2, Ex F' F2 → (∀ p, B p ≠ none → F' p = none → F2 p = none) → Ex B H2 → Ex F2 H2 → (st = false → Ex H' H2) → J.stop its.length H2) → R J H') → wi σ H R
def rngIt (lo : Int) (n : Nat) : List Item := (List.range n).map fun (k : Nat) => .one .f (.int (lo + (k : Int)))
theorem rngIt_get {lo : Int} {n k : Nat} {it : Item} (h : (rngIt lo n)[k]? = some it) : k < n ∧ it = .one .f (.int (lo + (k : Int))) := by
  unfold rngIt at h
  rw [List.getElem?_map] at h
  have hk : k < n := by
    by_cases hk : k < n
    · exact hk
    · rw [List.getElem?_eq_none (by rw [List.length_range]; omega)] at h; cases h
  rw [List.getElem?_range hk] at h
  cases h
  exact ⟨hk, rfl⟩
theorem rngIt_len {lo : Int} {n : Nat} : (rngIt lo n).length = n := by simp [rngIt]
section
variable {K : PySem.W.Frag} {ρ : List Sl} {te ta tb : TE} {m m1 m2 : Md} {d : D} {ds : List D}
theorem src_r1 {n : Int} (h : EE K ta ρ m (.int n)) (hn : -100000 ≤ n ∧ n ≤ 100000) : Src K (iRng1 (tCons ta tNil)) ρ true (rngIt 0 n.toNat) := fun B F H σ e R q => h.h B F H σ e _ fun v F1 H1 g dv => by
  rw [DtM.int_inv dv]
  refine ⟨n, rfl, by omega, by omega, q _ F1 H1 g (fun F2 H2 _ _ _ _ _ k it hk => ?_) fun F2 H2 _ _ _ _ _ => ?_⟩
  · obtain ⟨h1, rfl⟩ := rngIt_get hk
    exact ⟨h1, fun x H3 hy => ⟨by rw [hy.1]; exact Ex.refl _, by rw [hy.2]; exact Dt.int _⟩⟩
  · rw [rngIt_len]; exact Nat.le_refl _
theorem src_r2 {lo n : Int} (h : EE K ta ρ m (.int lo)) (h' : EE K tb ρ m1 (.int n)) (hn : -100000 ≤ n ∧ n ≤ 100000 ∧ -100000 ≤ lo ∧ lo ≤ 100000) : Src K (iRng2 (tCons ta (tCons tb tNil))) ρ true (rngIt lo (n - lo).toNat) := fun B F H σ e R q => h.h B F H σ e _ fun v F1 H1 g dv => h'.h B F1 H1 σ (e.grow g) _ fun v' F1' H1' g' dv' => by
  rw [DtM.int_inv dv, DtM.int_inv dv']
  refine ⟨lo, n, rfl, ⟨by omega, by omega, by omega, by omega⟩, q _ F1' H1' (g.trans g') (fun F2 H2 _ _ _ _ _ k it hk => ?_) fun F2 H2 _ _ _ _ _ => ?_⟩
  · obtain ⟨h1, rfl⟩ := rngIt_get hk
    exact ⟨h1, fun x H3 hy => ⟨by rw [hy.1]; exact Ex.refl _, by rw [hy.2]; exact Dt.int _⟩⟩
  · rw [rngIt_len]; exact Nat.le_refl _
theorem itl_go {a : Addr} {xs : List V} {H : Hp} {k : Nat} (h : SqL K H a xs) (hk : k < xs.length) : (Itl K a).go k H ∧ ∀ x H3, (Itl K a).yld k H x H3 → H3 = H ∧ xs[k]? = some x :=
  ⟨⟨xs, xs[k], h, List.getElem?_eq_getElem hk⟩, fun x H3 hy => ⟨hy.1, hy.2 xs h⟩⟩
theorem itt_go {a : Addr} {xs : List V} {H : Hp} {k : Nat} (h : SqT K H a xs) (hk : k < xs.length) : (Itt K a).go k H ∧ ∀ x H3, (Itt K a).yld k H x H3 → H3 = H ∧ xs[k]? = some x :=
  ⟨⟨xs, xs[k], h, List.getElem?_eq_getElem hk⟩, fun x H3 hy => ⟨hy.1, hy.2 xs h⟩⟩
/-- is a list, a tuple in the mode stable: does it hang on the frame or on what was lent -/
def stab (m : Md) : Bool := match m with | .f => true | .b => true | .n => true | _ => false
theorem Val.at {B F H : Hp} {xs : List V} {k : Nat} {x : V} {e : D} (h : ItV K m B F H xs ds) (h1 : xs[k]? = some x) (h2 : ds[k]? = some e) : Val K (ixm m) B H F H x e := by
  unfold ItV at h
  have gf : ∀ {xs : List V} {ds : List D} {k : Nat}, DtA K F xs ds → xs[k]? = some x → ds[k]? = some e → Dt K F x e := by
    intro xs ds k h a b
    obtain ⟨v', c1, c2⟩ := h.get b
    rw [a] at c1; cases c1; exact c2
  cases m with
  | f => exact gf h h1 h2
  | n => exact gf h h1 h2
  | o => exact gf h h1 h2
  | b => exact DtMA.get2 h h1 h2
  | h => exact DtMA.get2 h h1 h2
/-- items that hang where they hang -/
theorem keepL {B H0 F H : Hp} {v : V} (hm : m ≠ .n) (eb : Ex B H) (ef : Ex F H) (h : Val K m B H0 F H v (.lst ds)) : ∃ p xs, v = .ref p ∧ SqL K H p xs ∧ ∀ F2 H2, Ex F F2 → Ex B H2 → Ex F2 H2 → (stab m = false → Ex H H2) → SqL K H2 p xs ∧ ItV K m B F2 H2 xs ds := by
  cases m with
  | n => exact absurd rfl hm
  | f =>
    obtain ⟨p, xs, e, h1, h2⟩ := Dt.lst_inv h
    exact ⟨p, xs, e, .inl (.inl (ef _ _ h1)), fun F2 H2 a b c _ => ⟨.inl (.inl (c _ _ (a _ _ h1))), DtA.mono a h2⟩⟩
  | b =>
    cases h with
    | fz h =>
      obtain ⟨p, xs, e, h1, h2⟩ := Dt.lst_inv h
      exact ⟨p, xs, e, .inl (.inl (ef _ _ h1)), fun F2 H2 a b c _ => ⟨.inl (.inl (c _ _ (a _ _ h1))), (DtA.mono a h2).m⟩⟩
    | lst h1 h2 => exact ⟨_, _, rfl, .inl (.inl (eb _ _ h1)), fun F2 H2 a b c _ => ⟨.inl (.inl (b _ _ h1)), DtMA.mono (Ex.refl _) a h2⟩⟩
  | h =>
    obtain ⟨p, xs, e, h1, h2⟩ := DtM.lst_inv (Ex.refl _) ef h
    exact ⟨p, xs, e, .inl (.inl h1), fun F2 H2 a b c x => ⟨.inl (.inl (x rfl _ _ h1)), DtMA.mono (x rfl) a h2⟩⟩
  | o =>
    obtain ⟨p, e, h3⟩ := h
    rcases h3 with ⟨xs, ds', e1, h1, h2⟩ | ⟨ks, xs, ds', e1, h1, l, h2⟩
    · cases e1
      exact ⟨p, xs, e, .inl (.inl h1), fun F2 H2 a b c x => ⟨.inl (.inl (x rfl _ _ h1)), DtA.mono a h2⟩⟩
    · cases e1
theorem keepT {B H0 F H : Hp} {v : V} (hm : m ≠ .n) (eb : Ex B H) (ef : Ex F H) (h : Val K m B H0 F H v (.tup ds)) : ∃ p xs, v = .ref p ∧ SqT K H p xs ∧ ∀ F2 H2, Ex F F2 → Ex B H2 → Ex F2 H2 → (stab m = false → Ex H H2) → SqT K H2 p xs ∧ ItV K m B F2 H2 xs ds := by
  cases m with
  | n => exact absurd rfl hm
  | f =>
    obtain ⟨p, xs, e, h1, h2⟩ := Dt.tup_inv h
    exact ⟨p, xs, e, .inl (.inl (ef _ _ h1)), fun F2 H2 a b c _ => ⟨.inl (.inl (c _ _ (a _ _ h1))), DtA.mono a h2⟩⟩
  | b =>
    cases h with
    | fz h =>
      obtain ⟨p, xs, e, h1, h2⟩ := Dt.tup_inv h
      exact ⟨p, xs, e, .inl (.inl (ef _ _ h1)), fun F2 H2 a b c _ => ⟨.inl (.inl (c _ _ (a _ _ h1))), (DtA.mono a h2).m⟩⟩
    | tup _ h1 h2 => exact ⟨_, _, rfl, .inl (.inl (eb _ _ h1)), fun F2 H2 a b c _ => ⟨.inl (.inl (b _ _ h1)), DtMA.mono (Ex.refl _) a h2⟩⟩
  | h =>
    obtain ⟨p, xs, e, h1, h2⟩ := DtM.tup_inv (Ex.refl _) ef h
    exact ⟨p, xs, e, .inl (.inl h1), fun F2 H2 a b c x => ⟨.inl (.inl (x rfl _ _ h1)), DtMA.mono (x rfl) a h2⟩⟩
  | o =>
    obtain ⟨p, e, h3⟩ := h
    rcases h3 with ⟨xs, ds', e1, h1, h2⟩ | ⟨ks, xs, ds', e1, h1, l, h2⟩ <;> cases e1
theorem keepS {B H0 F H : Hp} {v : V} {ns : List Int} (eb : Ex B H) (ef : Ex F H) (h : Val K m B H0 F H v (.scr ns)) : ∃ p xs, v = .ref p ∧ SqL K H p xs ∧ ∀ F2 H2, Ex F F2 → Ex B H2 → Ex F2 H2 → (stab .f = false → Ex H H2) → SqL K H2 p xs ∧ ItV K .f B F2 H2 xs (ns.map .int) := by
  obtain ⟨p, e, h1⟩ := ((h.toH eb).imm rfl).scr_inv
  exact ⟨p, _, e, ex_l ef h1, fun F2 H2 a b c _ => ⟨ex_l (a.trans c) h1, DtA.ints ns⟩⟩
/-- the mode of what a sequence is when it is walked -/
def wm (m : Md) (d : D) : Md := match d with | .scr _ => .f | _ => if m = .n then .f else nrm m d
theorem map_one {mm : Md} {k : Nat} {it : Item} (h : (ds.map fun e => Item.one mm e)[k]? = some it) : ∃ e, ds[k]? = some e ∧ it = .one mm e := by
  rw [List.getElem?_map] at h
  cases he : ds[k]? with
  | none => rw [he] at h; cases h
  | some e => rw [he] at h; cases h; exact ⟨e, rfl, rfl⟩
def seqIt (m : Md) (ds : List D) : List Item := ds.map fun e => .one (ixm m) e
theorem src_l (hm : m ≠ .n) (h : EE K te ρ m (.lst ds)) : Src K (iList K te) ρ (stab m) (seqIt m ds) := fun B F H σ e R q => h B F H σ e _ fun v F1 H1 g dv => by
  obtain ⟨p, xs, rfl, h1, h2⟩ := keepL hm (e.eb.trans g.h) g.i dv
  refine ⟨p, rfl, ⟨xs, h1⟩, q _ F1 H1 g (fun F2 H2 c _ eb ef x k it hk => ?_) fun F2 H2 c _ eb ef x => ?_⟩
  · obtain ⟨a, b⟩ := h2 F2 H2 c eb ef x
    obtain ⟨d0, e1, rfl⟩ := map_one hk
    have hk' : k < xs.length := by rw [b.len]; exact (List.getElem?_eq_some_iff.mp e1).1
    obtain ⟨q1, q2⟩ := itl_go (K := K) a hk'
    refine ⟨q1, fun y H3 hy => ?_⟩
    obtain ⟨e2, e3⟩ := q2 y H3 hy
    subst e2
    exact ⟨Ex.refl _, Val.at b e3 e1⟩
  · obtain ⟨a, b⟩ := h2 F2 H2 c eb ef x
    exact ⟨xs, a, by rw [b.len]; simp [seqIt]⟩
theorem src_t (hm : m ≠ .n) (h : EE K te ρ m (.tup ds)) : Src K (iTup K te) ρ (stab m) (seqIt m ds) := fun B F H σ e R q => h B F H σ e _ fun v F1 H1 g dv => by
  obtain ⟨p, xs, rfl, h1, h2⟩ := keepT hm (e.eb.trans g.h) g.i dv
  refine ⟨p, rfl, ⟨xs, h1⟩, q _ F1 H1 g (fun F2 H2 c _ eb ef x k it hk => ?_) fun F2 H2 c _ eb ef x => ?_⟩
  · obtain ⟨a, b⟩ := h2 F2 H2 c eb ef x
    obtain ⟨d0, e1, rfl⟩ := map_one hk
    have hk' : k < xs.length := by rw [b.len]; exact (List.getElem?_eq_some_iff.mp e1).1
    obtain ⟨q1, q2⟩ := itt_go (K := K) a hk'
    refine ⟨q1, fun y H3 hy => ?_⟩
    obtain ⟨e2, e3⟩ := q2 y H3 hy
    subst e2
    exact ⟨Ex.refl _, Val.at b e3 e1⟩
  · obtain ⟨a, b⟩ := h2 F2 H2 c eb ef x
    exact ⟨xs, a, by rw [b.len]; simp [seqIt]⟩
theorem src_s {ns : List Int} (h : EE K te ρ m (.scr ns)) : Src K (iList K te) ρ true (seqIt .f (ns.map .int)) := fun B F H σ e R q => h B F H σ e _ fun v F1 H1 g dv => by
  obtain ⟨p, xs, rfl, h1, h2⟩ := keepS (e.eb.trans g.h) g.i dv
  refine ⟨p, rfl, ⟨xs, h1⟩, q _ F1 H1 g (fun F2 H2 c _ eb ef x k it hk => ?_) fun F2 H2 c _ eb ef x => ?_⟩
  · obtain ⟨a, b⟩ := h2 F2 H2 c eb ef x
    obtain ⟨d0, e1, rfl⟩ := map_one hk
    have hk' : k < xs.length := by rw [b.len]; exact (List.getElem?_eq_some_iff.mp e1).1
    obtain ⟨q1, q2⟩ := itl_go (K := K) a hk'
    refine ⟨q1, fun y H3 hy => ?_⟩
    obtain ⟨e2, e3⟩ := q2 y H3 hy
    subst e2
    exact ⟨Ex.refl _, Val.at b e3 e1⟩
  · obtain ⟨a, b⟩ := h2 F2 H2 c eb ef x
    exact ⟨xs, a, by rw [b.len]; simp [seqIt]⟩
end
end QL

end
section
set_option maxRecDepth 100000
set_option maxHeartbeats 2000000
namespace QL
open PySem PySem.Spec PyProof.Rows L2 Evl

/-! ### statements -/
inductive Out where
  | nx (ρ : List Sl) | bk (ρ : List Sl) | ct (ρ : List Sl)
  | rt (m : Md) (d : D)
/-- the frame has grown by new things alone -/
structure Chg (B F F' : Hp) : Prop where
  f : Ex F F'
  n : ∀ p, B p ≠ none → F p = none → F' p = none
theorem Chg.refl (B F : Hp) : Chg B F F := ⟨Ex.refl _, fun _ _ h => h⟩
theorem Chg.trans {B F F1 F2 : Hp} (a : Chg B F F1) (b : Chg B F1 F2) : Chg B F F2 := ⟨a.f.trans b.f, fun p h1 h2 => b.n p h1 (a.n p h1 h2)⟩
theorem Grow.chg {B F H F' H' : Hp} (g : Grow F H F' H') (e : Ex B H) : Chg B F F' := ⟨g.f, fun p h1 h2 => g.n p h2 (ex_some e h1)⟩
def Post (K : PySem.W.Frag) (B F : Hp) (Dn : Ends) : Out → Prop
  | .nx ρ' => ∀ σ' F' H', Chg B F F' → EnvOk K B F' H' σ' ρ' → Dn.nx σ' H'
  | .bk ρ' => ∀ σ' F' H', Chg B F F' → EnvOk K B F' H' σ' ρ' → Dn.bk σ' H'
  | .ct ρ' => ∀ σ' F' H', Chg B F F' → EnvOk K B F' H' σ' ρ' → Dn.ct σ' H'
  | .rt m d => ∀ v F' H', Chg B F F' → Ex B H' → Ex F' H' → Val K m B B F' H' v d → Dn.rt v H'
theorem Post.chg {K : PySem.W.Frag} {B F F1 : Hp} {Dn : Ends} {o : Out} (h : Post K B F Dn o) (c : Chg B F F1) : Post K B F1 Dn o := by
  cases o with
  | nx ρ' => exact fun σ' F' H' c' e => h σ' F' H' (c.trans c') e
  | bk ρ' => exact fun σ' F' H' c' e => h σ' F' H' (c.trans c') e
  | ct ρ' => exact fun σ' F' H' c' e => h σ' F' H' (c.trans c') e
  | rt m d => exact fun v F' H' c' e => h v F' H' (c.trans c') e
def Run (K : PySem.W.Frag) (ts : TS) (ρ : List Sl) (o : Out) : Prop := ∀ B F H σ (Dn : Ends), EnvOk K B F H σ ρ → Post K B F Dn o → ts Dn σ H
section
variable {K : PySem.W.Frag} {ρ ρ1 ρ2 : List Sl} {t u : TS} {o : Out} {te ta tb ti : TE} {tt : TT} {m m1 : Md} {d : D} {ds es : List D} {i j : Nat} {b : Bool}
def Out.stops : Out → Bool
  | .nx _ => false
  | _ => true
theorem Post.nx {B F : Hp} {Dn : Ends} {N : L2.St → Hp → Prop} (hs : o.stops = true) (h : Post K B F Dn o) : Post K B F { Dn with nx := N } o := by
  cases o with
  | nx ρ' => cases hs
  | bk ρ' => exact h
  | ct ρ' => exact h
  | rt m d => exact h
theorem run_seq (h1 : Run K t ρ (.nx ρ1)) (h2 : Run K u ρ1 o) : Run K (tSeq t u) ρ o := fun B F H σ Dn e p =>
  h1 B F H σ { Dn with nx := u Dn } e fun σ' F' H' c e' => h2 B F' H' σ' Dn e' (p.chg c)
theorem run_stop (hs : o.stops = true) (h1 : Run K t ρ o) : Run K (tSeq t u) ρ o := fun B F H σ Dn e p => h1 B F H σ { Dn with nx := u Dn } e (p.nx hs)
theorem run_next : Run K tNext ρ (.nx ρ) := fun B F H σ Dn e p => p σ F H (Chg.refl _ _) e
theorem run_break : Run K tBreak ρ (.bk ρ) := fun B F H σ Dn e p => p σ F H (Chg.refl _ _) e
theorem run_cont : Run K tCont ρ (.ct ρ) := fun B F H σ Dn e p => p σ F H (Chg.refl _ _) e
theorem run_if (h : ET K tt ρ b) (h1 : b = true → Run K t ρ o) (h2 : b = false → Run K u ρ o) : Run K (tIfS tt t u) ρ o := fun B F H σ Dn e p =>
  h B F H σ e _ fun F1 H1 g => by
    cases b with
    | true =>
      show t Dn σ H1
      exact h1 rfl B F1 H1 σ Dn (e.grow g) (p.chg (g.chg e.eb))
    | false =>
      show u Dn σ H1
      exact h2 rfl B F1 H1 σ Dn (e.grow g) (p.chg (g.chg e.eb))
/-- the slot of a name that takes a value -/
def slotV (m : Md) (d : D) : Option Sl := if imm d = true then some (.dat d) else match m, d with
  | .f, d => some (.dat d)
  | .b, d => some (.bor d)
  | .n, .lst ds => some (.own ds)
  | .n, .dic ks ds => some (.ownD ks ds)
  | _, _ => none
theorem EnvOk.take {B F H F1 H1 : Hp} {σ : L2.St} (e : EnvOk K B F H σ ρ) (g : Grow F H F1 H1) {v : V} {s : Sl} (h : slotV m d = some s) (hv : Val K m B H F1 H1 v d) (i : Nat) : EnvOk K B F1 H1 (σ.set i (some v)) (ρ.set i s) := by
  unfold slotV at h
  have e1 := e.grow g
  split at h
  · rename_i hi
    cases h
    exact e1.put_dat i ((hv.toH e1.eb).imm hi)
  · cases m with
    | f => cases h; exact e1.put_dat i hv
    | b => cases h; exact e1.put_bor i hv
    | h => cases h
    | o => cases h
    | n =>
      obtain ⟨p, rfl, h1, h2, h3⟩ := hv
      rcases h3 with ⟨xs, ds, rfl, a1, a2⟩ | ⟨ks, xs, ds, rfl, a1, l, a2⟩
      · cases h
        exact e1.put_own i h1 (fresh_back e.eb h2) a1 a2 fun k _ o => (e.mine o).2.2 h2
      · cases h
        exact e1.put_ownD i h1 (fresh_back e.eb h2) a1 l a2 fun k _ o => (e.mine o).2.2 h2
theorem run_set {s : Sl} (h : EE K te ρ m d) (hs : slotV m d = some s) : Run K (tAsg te (gName i)) ρ (.nx (ρ.set i s)) := fun B F H σ Dn e p =>
  h B F H σ e _ fun v F1 H1 g dv => p _ F1 H1 (g.chg e.eb) (e.take g hs dv i)
/-- a target with a pattern -/
theorem run_pat {g : TG} {pt : Pat} (hg : GP K g pt) (h : EE K te ρ m d) (hm : m ≠ .n) (hb : bindP pt ρ (.one m d) = some ρ1) : Run K (tAsg te g) ρ (.nx ρ1) := fun B F H σ Dn e p =>
  h B F H σ e _ fun v F1 H1 gr dv => by
    have e1 := e.grow gr
    have dv' : Val K m B H1 F1 H1 v d := by
      cases m with
      | n => exact absurd rfl hm
      | f => exact dv
      | b => exact dv
      | h => exact dv
      | o => exact dv
    exact hg.run e1.eb e1.ef hb e1 dv' _ fun σ' e' _ _ => p σ' F1 H1 (gr.chg e.eb) e'
theorem run_ret (h : EE K te ρ m d) : Run K (tRet te) ρ (.rt m d) := fun B F H σ Dn e p =>
  h B F H σ e _ fun v F1 H1 g dv => p v F1 H1 (g.chg e.eb) (e.eb.trans g.h) g.i (dv.back e.eb)
theorem run_retO (h : ρ[i]? = some (.own ds)) : Run K (tRet (tVar i)) ρ (.rt .n (.lst ds)) := fun B F H σ Dn e p => by
  obtain ⟨q, xs, h1, h2, h3, h4, h5⟩ := e.own h
  exact ⟨_, h1, p _ F H (Chg.refl _ _) e.eb e.ef ⟨q, rfl, h2, h3, .inl ⟨xs, ds, rfl, h4, h5⟩⟩⟩
theorem run_retOD {ks : List Key} (h : ρ[i]? = some (.ownD ks ds)) : Run K (tRet (tVar i)) ρ (.rt .n (.dic ks ds)) := fun B F H σ Dn e p => by
  obtain ⟨q, xs, h1, h2, h3, h4, l, h5⟩ := e.ownD h
  exact ⟨_, h1, p _ F H (Chg.refl _ _) e.eb e.ef ⟨q, rfl, h2, h3, .inr ⟨ks, xs, ds, rfl, h4, l, h5⟩⟩⟩
/-- an owned thing is frozen -/
def frzS : Sl → Sl
  | .own ds => .dat (.lst ds)
  | .ownD ks ds => .dat (.dic ks ds)
  | s => s
theorem set_same {i : Nat} {s : Sl} (h : ρ[i]? = some s) : ρ.set i s = ρ := by
  apply List.ext_getElem?
  intro j
  by_cases hj : i = j
  · subst hj
    rw [List.getElem?_set_self (List.getElem?_eq_some_iff.mp h).1, h]
  · rw [List.getElem?_set_ne hj]
theorem Run.same {ρ' : List Sl} (h : Run K t ρ' o) (e : ρ' = ρ) : Run K t ρ o := e ▸ h
theorem run_frz (i : Nat) (h1 : Run K t (ρ.set i (frzS (ρ.getD i .un))) o) : Run K t ρ o := fun B F H σ Dn e p => by
  by_cases hi : i < ρ.length
  · have hg : ρ[i]? = some (ρ.getD i .un) := by rw [List.getD_eq_getElem?_getD, List.getElem?_eq_getElem hi]; rfl
    cases hs : ρ.getD i .un with
    | own ds =>
      rw [hs] at hg h1
      obtain ⟨q, xs, a, b, e'⟩ := e.freeze hg
      exact h1 B _ H σ Dn e' (p.chg ⟨Ex.new b, fun p' z1 z2 => by
        rw [upd_ne (fun z => z1 (by rw [z]; exact a))]; exact z2⟩)
    | ownD ks ds =>
      rw [hs] at hg h1
      obtain ⟨q, xs, a, b, e'⟩ := e.freezeD hg
      exact h1 B _ H σ Dn e' (p.chg ⟨Ex.new b, fun p' z1 z2 => by
        rw [upd_ne (fun z => z1 (by rw [z]; exact a))]; exact z2⟩)
    | un | dat _ | bor _ | err _ _ _ =>
      rw [hs] at hg h1
      exact h1.same (set_same hg) B F H σ Dn e p
  · rw [List.set_eq_of_length_le (by omega)] at h1
    exact h1 B F H σ Dn e p
theorem tyV_lst {H : Hp} {p : Addr} {xs : List V} (h : H p = some (.lst xs)) : tyV K "list" (.ref p) H := Or.inl ⟨rfl, xs, .inl (.inl h)⟩
theorem run_append (h : ρ[i]? = some (.own ds)) (hv : EE K te ρ m d) (c : cf m d = true) (hl : ds.length < 100000) : Run K (tDrop (tBM K "list" rAppend (tVar i) (tCons te tNil))) ρ (.nx (ρ.set i (.own (ds ++ [d])))) := fun B F H σ Dn e p => by
  obtain ⟨q, xs, h1, h2, h3, h4, h5⟩ := e.own h
  refine ⟨_, h1, tyV_lst h4, ?_⟩
  refine (hv.f c) B F H σ e _ fun v F1 H1 g dv => ?_
  refine ⟨q, xs, v, rfl, rfl, g.h _ _ h4, sz_lt (by rw [h5.len]; exact hl), ?_⟩
  exact p _ F1 _ (g.chg e.eb) ((e.grow g).mut h h1 (.append (h5.mono g.f) (.one dv)))
theorem DtA.take {H : Hp} : ∀ {vs : List V} {ds : List D} (n : Nat), DtA K H vs ds → DtA K H (vs.take n) (ds.take n)
  | _, _, 0, _ => .nil
  | _, _, _ + 1, .nil => .nil
  | _, _, n + 1, .cons a b => .cons a (DtA.take n b)
theorem DtA.drop {H : Hp} : ∀ {vs : List V} {ds : List D} (n : Nat), DtA K H vs ds → DtA K H (vs.drop n) (ds.drop n)
  | _, _, 0, h => h
  | _, _, _ + 1, .nil => .nil
  | _, _, n + 1, .cons a b => DtA.drop n b
theorem run_ins {n : Int} (h : ρ[i]? = some (.own ds)) (hi : EE K ti ρ m1 (.int n)) (hv : EE K te ρ m d) (c : cf m d = true) (hl : ds.length < 100000) (h0 : 0 ≤ n) (h1 : n < 2 ^ 63) : Run K (tDrop (tBM K "list" (fun x vs H Q => ∃ (l : Addr) (xs : List V) (i : Int) (y : V), x = .ref l ∧ vs = [.int i, y] ∧ H l = some (.lst xs) ∧ xs.length < sizeLine ∧ 0 ≤ i ∧ i < 2 ^ 63 ∧
    Q .non (upd H l (.lst (xs.take i.toNat ++ [y] ++ xs.drop i.toNat)))) (tVar i) (tCons ti (tCons te tNil)))) ρ (.nx (ρ.set i (.own (ds.take n.toNat ++ [d] ++ ds.drop n.toNat)))) := fun B F H σ Dn e p => by
  obtain ⟨q, xs, g1, g2, g3, g4, g5⟩ := e.own h
  refine ⟨_, g1, tyV_lst g4, ?_⟩
  refine hi.h B F H σ e _ fun w F0 H0 g0 dw => ?_
  refine (hv.f c) B F0 H0 σ (e.grow g0) _ fun v F1 H1 g dv => ?_
  have g5' := (g5.mono g0.f).mono g.f
  refine ⟨q, xs, n, v, rfl, by rw [DtM.int_inv dw], g.h _ _ (g0.h _ _ g4), sz_lt (by rw [g5.len]; exact hl), h0, h1, ?_⟩
  exact p _ F1 _ ((g0.trans g).chg e.eb) (((e.grow g0).grow g).mut h g1 (.append (.append (g5'.take _) (.one dv)) (g5'.drop _)))
theorem run_seti {n : Int} {k : Nat} (h : ρ[i]? = some (.own ds)) (hv : EE K te ρ m d) (c : cf m d = true) (hi : EE K ti ρ m1 (.int n)) (hk : ixN ds.length n = some k) : Run K (tAsg te (gSub (tVar i) ti rSetL)) ρ (.nx (ρ.set i (.own (ds.set k d)))) := fun B F H σ Dn e p =>
  (hv.f c) B F H σ e _ fun v F1 H1 g dv => by
    obtain ⟨q, xs, h1, h2, h3, h4, h5⟩ := (e.grow g).own h
    refine ⟨_, h1, ?_⟩
    refine hi.h B F1 H1 σ (e.grow g) _ fun w F2 H2 g2 dw => ?_
    have ew := DtM.int_inv dw
    subst ew
    refine ⟨q, xs, n, k, rfl, rfl, g2.h _ _ h4, by rw [h5.len]; exact hk, ?_⟩
    exact p _ F2 _ ((g.trans g2).chg e.eb) (((e.grow g).grow g2).mut h h1 (.set (Dt.mono g2.f dv) k (h5.mono g2.f)))
theorem run_drop (h : EE K te ρ m d) : Run K (tDrop te) ρ (.nx ρ) := fun B F H σ Dn e p => h B F H σ e _ fun v F1 H1 g _ => p σ F1 H1 (g.chg e.eb) (e.grow g)

/-! ### loops -/
/-- what a loop comes to -/
inductive Loop (K : PySem.W.Frag) (body : TS) (pt : Pat) : List Item → List Sl → Out → Prop where
  | done {ρ : List Sl} : Loop K body pt [] ρ (.nx ρ)
  | step {it : Item} {its : List Item} {ρ ρ1 ρ' : List Sl} {o : Out} : bindP pt ρ it = some ρ1 → Run K body ρ1 (.nx ρ') → Loop K body pt its ρ' o → Loop K body pt (it :: its) ρ o
  | cont {it : Item} {its : List Item} {ρ ρ1 ρ' : List Sl} {o : Out} : bindP pt ρ it = some ρ1 → Run K body ρ1 (.ct ρ') → Loop K body pt its ρ' o → Loop K body pt (it :: its) ρ o
  | brk {it : Item} {its : List Item} {ρ ρ1 ρ' : List Sl} : bindP pt ρ it = some ρ1 → Run K body ρ1 (.bk ρ') → Loop K body pt (it :: its) ρ (.nx ρ')
  | ret {it : Item} {its : List Item} {ρ ρ1 : List Sl} {m : Md} {d : D} : bindP pt ρ it = some ρ1 → Run K body ρ1 (.rt m d) → Loop K body pt (it :: its) ρ (.rt m d)
theorem run_for {body : TS} {g : TG} {wi : TI} {pt : Pat} {its : List Item} (hw : Src K wi ρ true its) (hg : GP K g pt) (hl : Loop K body pt its ρ o) : Run K (tFor wi g body) ρ o := fun B F H σ Dn e p => by
  refine hw B F H σ e _ fun J F1 H1 g1 hgo hst => ?_
  refine ⟨fun k n σ' H' => n = its.length - k ∧ k ≤ its.length ∧ ∃ F' ρ', Chg B F1 F' ∧ EnvOk K B F' H' σ' ρ' ∧ Loop K body pt (its.drop k) ρ' o, ⟨its.length, by simp, Nat.zero_le _, F1, ρ, Chg.refl _ _, e.grow g1, hl⟩, fun k n σ' H' hW => ?_⟩
  obtain ⟨rfl, hk, F', ρ', c, e', l⟩ := hW
  have c1 : Chg B F F' := (g1.chg e.eb).trans c
  let N0 : L2.St → Hp → Prop := fun σ2 H2 => k + 1 ≤ its.length ∧ ∃ F'' ρ'', Chg B F1 F'' ∧ EnvOk K B F'' H2 σ2 ρ'' ∧ Loop K body pt (its.drop (k + 1)) ρ'' o
  have turn : ∀ {o' : Out} {it : Item} {rest : List Item} {ρ1 : List Sl}, its.drop k = it :: rest → bindP pt ρ' it = some ρ1 → Run K body ρ1 o' →
      Post K B F' { Dn with nx := N0, ct := N0, bk := Dn.nx } o' →
        (J.stop k H' ∧ Dn.nx σ' H') ∨ (J.go k H' ∧ ∃ N : L2.St → Hp → Prop, (∀ σ2 H2, N σ2 H2 → ∃ m', m' < its.length - k ∧ m' = its.length - (k + 1) ∧ k + 1 ≤ its.length ∧ ∃ F'' ρ'', Chg B F1 F'' ∧ EnvOk K B F'' H2 σ2 ρ'' ∧ Loop K body pt (its.drop (k + 1)) ρ'' o) ∧ ∀ x H2, J.yld k H' x H2 → g x σ' H2 fun σ2 H3 => body { Dn with nx := N, ct := N, bk := Dn.nx } σ2 H3) := fun {o' it rest ρ1} hd hb hr hP => by
    have hlt : k < its.length := by
      by_cases z : k < its.length
      · exact z
      · rw [List.drop_eq_nil_of_le (by omega)] at hd; cases hd
    have hit : its[k]? = some it := by
      have : (its.drop k)[0]? = some it := by rw [hd]; rfl
      rwa [List.getElem?_drop, Nat.add_zero] at this
    obtain ⟨h1, h2⟩ := hgo F' H' c.f c.n e'.eb e'.ef (fun z => nomatch z) k it hit
    refine .inr ⟨h1, N0, fun σ2 H2 h => ⟨its.length - (k + 1), by omega, rfl, h.1, h.2⟩, fun x H2 hy => ?_⟩
    obtain ⟨hx0, hx⟩ := h2 x H2 hy
    have e2 := e'.grow (Grow.up e'.ef hx0)
    exact hg.run e2.eb e2.ef hb e2 hx _ fun σ2 e3 _ _ => hr B F' H2 σ2 _ e3 hP
  have rest_eq : ∀ {it : Item} {rest : List Item}, its.drop k = it :: rest → rest = its.drop (k + 1) ∧ k + 1 ≤ its.length := fun {it rest} hd => by
    constructor
    · have : (its.drop k).drop 1 = rest := by rw [hd]; rfl
      rw [← this, List.drop_drop]
    · by_cases z : k < its.length
      · omega
      · rw [List.drop_eq_nil_of_le (by omega)] at hd; cases hd
  generalize hdk : its.drop k = rem at l
  cases l with
  | done =>
    have hkn : k = its.length := by
      have : (its.drop k).length = 0 := by rw [hdk]; rfl
      rw [List.length_drop] at this
      omega
    subst hkn
    exact .inl ⟨hst F' H' c.f c.n e'.eb e'.ef (fun z => nomatch z), p σ' F' H' c1 e'⟩
  | step hb hr hl =>
    obtain ⟨r1, r2⟩ := rest_eq hdk
    exact turn hdk hb hr fun σ2 F'' H2 c' e2 => ⟨r2, F'', _, c.trans c', e2, by rw [← r1]; exact hl⟩
  | cont hb hr hl =>
    obtain ⟨r1, r2⟩ := rest_eq hdk
    exact turn hdk hb hr fun σ2 F'' H2 c' e2 => ⟨r2, F'', _, c.trans c', e2, by rw [← r1]; exact hl⟩
  | brk hb hr => exact turn hdk hb hr fun σ2 F'' H2 c' e2 => p σ2 F'' H2 (c1.trans c') e2
  | ret hb hr => exact turn hdk hb hr fun v F'' H2 c' e2 => p v F'' H2 (c1.trans c') e2
end

/-! ### a def keeps its promise -/
def slot0 (d : D) : Sl := if imm d = true then .dat d else .bor d
def slots (n : Nat) (ds : List D) : List Sl := ds.map slot0 ++ List.replicate (n - ds.length) .un
theorem slots_mine {n : Nat} {ds : List D} {i : Nat} {s : Sl} (h : (slots n ds)[i]? = some s) : s.mine = false := by
  unfold slots at h
  rcases List.mem_append.mp (List.mem_of_getElem? h) with z | z
  · obtain ⟨d, _, e⟩ := List.mem_map.mp z
    subst e
    unfold slot0
    split <;> rfl
  · have e := (List.mem_replicate.mp z).2; subst e; rfl
section
variable {K : PySem.W.Frag} {ds : List D} {d : D} {m : Md} {t : TS}
theorem env_start {F H : Hp} {N : List Str} {vs : List V} (x : Ex F H) (h : DtMA K H F vs ds) : EnvOk K H F H (L2.start N vs) (slots N.length ds) := by
  refine ⟨Ex.refl _, x, ?_, fun i o s h1 h2 => ?_, fun i j p _ o1 _ => ?_⟩
  · unfold L2.start slots
    simp [h.len]
  · unfold L2.start at h1
    unfold slots at h2
    by_cases hi : i < ds.length
    · have hv : i < vs.length := by rw [h.len]; exact hi
      rw [List.getElem?_append_left (by simpa using hv), List.getElem?_map] at h1
      rw [List.getElem?_append_left (by simpa using hi), List.getElem?_map] at h2
      rw [List.getElem?_eq_getElem hv] at h1
      rw [List.getElem?_eq_getElem hi] at h2
      cases h1; cases h2
      have q := h.get2 (List.getElem?_eq_getElem hv) (List.getElem?_eq_getElem hi)
      show SlOk K H F H (some vs[i]) (slot0 ds[i])
      unfold slot0
      split
      · rename_i hi; exact .dat (q.imm hi)
      · exact .bor q
    · rw [List.getElem?_append_right (by simpa using (by omega : ds.length ≤ i))] at h2
      have := List.mem_of_getElem? h2
      have e := (List.mem_replicate.mp this).2
      subst e
      exact .un _
  · obtain ⟨_, s, b, c⟩ := o1
    rw [slots_mine b] at c
    cases c
/-- what a body hands back -/
def fin : Out → Option Res
  | .nx _ => some (.ok .f .non)
  | .rt m d => if cf m d = true then some (.ok (if m = .n then .n else .f) d) else none
  | _ => none
theorem fin_ok {F H : Hp} {N : List Str} {vs : List V} {Q : VK} {o : Out} (x : Ex F H) (h : DtMA K H F vs ds) (hr : Run K t (slots N.length ds) o) (hf : fin o = some (.ok m d))
    (q : ∀ v F' H', Grow F H F' H' → Val K m Emp H F' H' v d → Q v H') : t { nx := fun _ H' => Q .non H', rt := Q } (L2.start N vs) H := by
  refine hr H F H _ _ (env_start x h) ?_
  have gr : ∀ {F' H' : Hp}, Chg H F F' → Ex H H' → Ex F' H' → Grow F H F' H' := fun c eb ef => ⟨c.f, ef, eb, fun p a b => c.n p b a⟩
  cases o with
  | nx ρ' =>
    cases hf
    exact fun σ' F' H' c e => q .non F' H' (gr c e.eb e.ef) Dt.non
  | bk _ => cases hf
  | ct _ => cases hf
  | rt m0 d0 =>
    simp only [fin] at hf
    split at hf
    · rename_i c
      simp only [Option.some.injEq, Res.ok.injEq] at hf
      obtain ⟨rfl, rfl⟩ := hf
      intro v F' H' ch eb ef hv
      by_cases hn : m0 = .n
      · subst hn
        rw [if_pos rfl] at q
        exact q v F' H' (gr ch eb ef) hv
      · rw [if_neg hn] at q
        refine q v F' H' (gr ch eb ef) ?_
        unfold cf at c
        simp only [Bool.or_eq_true, decide_eq_true_eq] at c
        rcases c with (rfl | rfl) | c
        · exact hv
        · exact absurd rfl hn
        · exact (hv.toH eb).imm c
    · cases hf
theorem fin_m {o : Out} (h : fin o = some (.ok m d)) : m = .f ∨ m = .n := by
  cases o with
  | nx _ => cases h; exact .inl rfl
  | bk _ => cases h
  | ct _ => cases h
  | rt m0 d0 =>
    simp only [fin] at h
    split at h
    · simp only [Option.some.injEq, Res.ok.injEq] at h
      obtain ⟨rfl, rfl⟩ := h
      split
      · exact .inr rfl
      · exact .inl rfl
    · cases h
end
end QL

end
section
set_option maxRecDepth 100000
set_option maxHeartbeats 2000000
namespace QL
open PySem PySem.Spec PyProof.Rows L2 Evl
/-! ### comprehensions -/
def wipeR (ρ : List Sl) : List Nat → List Sl
  | [] => ρ
  | v :: vs => (wipeR ρ vs).set v .un
/-- may be put into the list -/
def okm (fz : Bool) (m : Md) (d : D) : Bool := cf m d || (!fz && decide (m = .b))
section
variable {K : PySem.W.Frag} {ρ : List Sl} {te ta tb : TE} {tt tt1 : TT} {wi wi1 : TI} {g g1 : TG} {m : Md} {d : D} {ds : List D} {pt pt1 : Pat} {vs vs1 : List Nat}
theorem EnvOk.wipe {B F H : Hp} {σ : L2.St} (e : EnvOk K B F H σ ρ) : ∀ vs : List Nat, EnvOk K B F H (L2.wipe σ vs) (wipeR ρ vs)
  | [] => e
  | v :: vs => (EnvOk.wipe e vs).put_un v none
theorem own1_wipe {σ : L2.St} {k : Nat} {p : Addr} : ∀ {vs : List Nat}, Own1 (L2.wipe σ vs) (wipeR ρ vs) k p → Own1 σ ρ k p
  | [], o => o
  | v :: vs, o => by
    by_cases hk : v = k
    · subst hk
      have := (own1_at o).1
      cases this
    · exact own1_wipe (own1_set hk o)
/-- something that nobody here holds is changed -/
theorem EnvOk.off {B F H : Hp} {σ : L2.St} (e : EnvOk K B F H σ ρ) {p : Addr} {u : HO} (hb : B p = none) (hf : F p = none) (hn : ∀ k : Nat, Own1 σ ρ k p → False) : EnvOk K B F (upd H p u) σ ρ := by
  refine ⟨Ex.mut e.eb hb, Ex.mut e.ef hf, e.len, fun i o s h1 h2 => ?_, e.dis⟩
  have q := e.sl i o s h1 h2
  cases q with
  | un => exact .un _
  | dat h => exact .dat h
  | bor h => exact .bor h
  | err h => exact .err h
  | @own p' xs es a b c d =>
    refine .own a b ?_ d
    rw [upd_ne (fun z => hn i ⟨by rw [← z]; exact h1, _, h2, rfl⟩)]
    exact c
  | @ownD p' ks xs es a b c l d =>
    refine .ownD a b ?_ l d
    rw [upd_ne (fun z => hn i ⟨by rw [← z]; exact h1, _, h2, rfl⟩)]
    exact c
/-- what a comprehension's clause gives of items -/
inductive LcR (K : PySem.W.Frag) (pt : Pat) (ρ0 : List Sl) (tt : TT) (te : TE) (fz : Bool) : List Item → List D → Prop where
  | nil : LcR K pt ρ0 tt te fz [] []
  | yes {it : Item} {its : List Item} {ρ1 : List Sl} {m : Md} {d : D} {ds : List D} : bindP pt ρ0 it = some ρ1 → ET K tt ρ1 true → EE K te ρ1 m d → okm fz m d = true → LcR K pt ρ0 tt te fz its ds → LcR K pt ρ0 tt te fz (it :: its) (d :: ds)
  | no {it : Item} {its : List Item} {ρ1 : List Sl} {ds : List D} : bindP pt ρ0 it = some ρ1 → ET K tt ρ1 false → LcR K pt ρ0 tt te fz its ds → LcR K pt ρ0 tt te fz (it :: its) ds
inductive LcR2 (K : PySem.W.Frag) (pt : Pat) (ρ0 : List Sl) (tt : TT) (wi1 : TI) (pt1 : Pat) (vs1 : List Nat) (tt1 : TT) (te : TE) (fz : Bool) : List Item → List D → Prop where
  | nil : LcR2 K pt ρ0 tt wi1 pt1 vs1 tt1 te fz [] []
  | yes {it : Item} {its its1 : List Item} {ρ1 : List Sl} {es ds : List D} : bindP pt ρ0 it = some ρ1 → ET K tt ρ1 true → Src K wi1 ρ1 true its1 → LcR K pt1 (wipeR ρ1 vs1) tt1 te fz its1 es → LcR2 K pt ρ0 tt wi1 pt1 vs1 tt1 te fz its ds → LcR2 K pt ρ0 tt wi1 pt1 vs1 tt1 te fz (it :: its) (es ++ ds)
  | no {it : Item} {its : List Item} {ρ1 : List Sl} {ds : List D} : bindP pt ρ0 it = some ρ1 → ET K tt ρ1 false → LcR2 K pt ρ0 tt wi1 pt1 vs1 tt1 te fz its ds → LcR2 K pt ρ0 tt wi1 pt1 vs1 tt1 te fz (it :: its) ds
def baseP (fz : Bool) (B : Hp) : Hp := if fz = true then Emp else B
theorem okm_dt {fz : Bool} {B H0 F H : Hp} {v : V} (eb : Ex B H) (c : okm fz m d = true) (h : EE K te ρ m d) : ∀ B F H σ, EnvOk K B F H σ ρ → ∀ Q : VK, (∀ v F' H', Grow F H F' H' → DtM K (baseP fz B) F' v d → Q v H') → te σ H Q := by
  unfold okm at c
  intro B F H σ e Q q
  by_cases c1 : cf m d = true
  · exact (h.f c1) B F H σ e Q fun v F' H' g dv => q v F' H' g (.fz dv)
  · simp only [c1, Bool.false_or, Bool.and_eq_true, Bool.not_eq_true', decide_eq_true_eq] at c
    obtain ⟨rfl, rfl⟩ := c
    exact h B F H σ e Q fun v F' H' g dv => q v F' H' g dv
theorem drop_cons {α : Type} {l : List α} {k : Nat} {x : α} {r : List α} (h : l.drop k = x :: r) : l[k]? = some x ∧ l.drop (k + 1) = r ∧ k < l.length := by
  have hlt : k < l.length := by
    by_cases z : k < l.length
    · exact z
    · rw [List.drop_eq_nil_of_le (by omega)] at h; cases h
  refine ⟨?_, ?_, hlt⟩
  · have : (l.drop k)[0]? = some x := by rw [h]; rfl
    rwa [List.getElem?_drop, Nat.add_zero] at this
  · have : (l.drop k).drop 1 = r := by rw [h]; rfl
    rw [← this, List.drop_drop]
theorem drop_nil {α : Type} {l : List α} {k : Nat} (hk : k ≤ l.length) (h : l.drop k = []) : k = l.length := by
  have : (l.drop k).length = 0 := by rw [h]; rfl
  rw [List.length_drop] at this
  omega
theorem wipe_wipe {σ : L2.St} {vs : List Nat} : L2.wipe (L2.wipe σ vs) vs = L2.wipe σ vs := by
  have key : ∀ ws : List Nat, (∀ w ∈ ws, w ∈ vs) → L2.wipe (L2.wipe σ ws) vs = L2.wipe σ vs := by
    intro ws
    induction ws with
    | nil => intro _; rfl
    | cons w ws ih =>
      intro h
      show L2.wipe ((L2.wipe σ ws).set w none) vs = _
      rw [wipe_set (h w List.mem_cons_self)]
      exact ih fun z hz => h z (List.mem_cons_of_mem _ hz)
  exact key vs fun _ h => h
/-- what holds of the list that is made, at Dl, when es are in it -/
structure Acc (K : PySem.W.Frag) (fz : Bool) (B F1 H1 : Hp) (Dl : Addr) (σ : L2.St) (ρ : List Sl) (F H : Hp) (es : List D) : Prop where
  c : Chg B F1 F
  x1 : Ex H1 H
  n : ∀ p, F1 p = none → H1 p ≠ none → F p = none
  fr : F Dl = none
  ex : ∃ acc, H Dl = some (.lst acc) ∧ DtMA K (baseP fz B) F acc es
  e : EnvOk K B F H σ ρ
theorem Acc.grow {fz : Bool} {B F1 H1 F H F' H' : Hp} {Dl : Addr} {σ : L2.St} {es : List D} (a : Acc K fz B F1 H1 Dl σ ρ F H es) (g : Grow F H F' H') : Acc K fz B F1 H1 Dl σ ρ F' H' es := by
  obtain ⟨acc, h1, h2⟩ := a.ex
  exact ⟨a.c.trans (g.chg a.e.eb), a.x1.trans g.h, fun p z1 z2 => g.n p (a.n p z1 z2) (ex_some a.x1 z2), g.n Dl a.fr (by rw [h1]; exact fun z => nomatch z), ⟨acc, g.h _ _ h1, h2.mono (Ex.refl _) g.f⟩, a.e.grow g⟩
theorem baseP_ex {fz : Bool} {B H : Hp} (e : Ex B H) : Ex (baseP fz B) H := by
  unfold baseP
  split
  · exact ex_emp _
  · exact e
theorem Acc.push {fz : Bool} {B F1 H1 F H : Hp} {Dl : Addr} {σ : L2.St} {es : List D} {v : V} (a : Acc K fz B F1 H1 Dl σ ρ F H es) (hD : H1 Dl = none) (bD : B Dl = none) (off : ∀ k : Nat, Own1 σ ρ k Dl → False) (dv : DtM K (baseP fz B) F v d) {acc : List V} (h1 : H Dl = some (.lst acc)) (h2 : DtMA K (baseP fz B) F acc es) :
    Acc K fz B F1 H1 Dl σ ρ F (upd H Dl (.lst (acc ++ [v]))) (es ++ [d]) := by
  exact ⟨a.c, Ex.mut a.x1 hD, a.n, a.fr, ⟨_, upd_same, h2.append (.cons dv .nil)⟩, a.e.off bD a.fr off⟩
/-- the mode of the made list -/
def lcm (fz : Bool) : Md := if fz = true then .n else .h
theorem Acc.val {fz : Bool} {B H0 F1 H1 F H : Hp} {Dl : Addr} {σ : L2.St} {es : List D} (a : Acc K fz B F1 H1 Dl σ ρ F H es) (h0 : H0 Dl = none) : Val K (lcm fz) B H0 F H (.ref Dl) (.lst es) := by
  obtain ⟨acc, h1, h2⟩ := a.ex
  unfold lcm
  cases fz with
  | true => exact ⟨Dl, rfl, a.fr, h0, .inl ⟨acc, es, rfl, h1, DtMA.emp h2⟩⟩
  | false => exact DtM.lst h1 (h2.mono (baseP_ex a.e.eb) (Ex.refl _))
theorem Src.go {st : Bool} {its : List Item} (hw : Src K wi ρ st its) {B F H : Hp} {σ : L2.St} (e : EnvOk K B F H σ ρ) {R : It → Hp → Prop} (h : ∀ (J : It) F' H', Grow F H F' H' →
    (∀ F2 H2, Chg B F' F2 → Ex B H2 → Ex F2 H2 → Ex H' H2 → ∀ (k : Nat) it, its[k]? = some it → J.go k H2 ∧ ∀ x H3, J.yld k H2 x H3 → Ex H2 H3 ∧ IVal K B F2 H3 x it) →
    (∀ F2 H2, Chg B F' F2 → Ex B H2 → Ex F2 H2 → Ex H' H2 → J.stop its.length H2) → R J H') : wi σ H R :=
  hw B F H σ e R fun J F' H' g a b => h J F' H' g (fun F2 H2 c eb ef x => a F2 H2 c.f c.n eb ef fun _ => x) fun F2 H2 c eb ef x => b F2 H2 c.f c.n eb ef fun _ => x
theorem e_lc {st fz : Bool} {its : List Item} (hw : Src K wi ρ st its) (hg : GP K g pt) (hv : ∀ i ∈ pt.vars, i ∈ vs) (hl : LcR K pt (wipeR ρ vs) tt te fz its ds) (hn : ds.length < 100000) : EE K (tLc wi g tt te vs) ρ (lcm fz) (.lst ds) := fun B F H σ e Q q => by
  refine hw.go e fun J F1 H1 g1 hgo hst => ?_
  intro Dl hD
  have e1 := e.grow g1
  have off : ∀ k : Nat, Own1 σ ρ k Dl → False := fun k o => (e1.mine o).2.2 hD
  have bD : B Dl = none := fresh_back e1.eb hD
  have fD : F1 Dl = none := fresh_back e1.ef hD
  refine ⟨fun k m H' => m = its.length - k ∧ k ≤ its.length ∧ ∃ F' es rem, es ++ rem = ds ∧ Acc K fz B F1 H1 Dl σ ρ F' H' es ∧ LcR K pt (wipeR ρ vs) tt te fz (its.drop k) rem,
    ⟨its.length, by simp, Nat.zero_le _, F1, [], ds, rfl, ⟨Chg.refl _ _, Ex.new hD, fun _ h _ => h, fD, ⟨[], upd_same, .nil⟩, e1.off bD fD off⟩, hl⟩, fun k m H' hW => ?_⟩
  obtain ⟨rfl, hk, F', es, rem, hr, a, l⟩ := hW
  generalize hdk : its.drop k = its' at l
  cases l with
  | nil =>
    have hkn := drop_nil hk hdk
    subst hkn
    refine .inl ⟨hst F' H' a.c a.e.eb a.e.ef a.x1, ?_⟩
    rw [List.append_nil] at hr
    subst hr
    exact q _ F' H' ⟨g1.f.trans a.c.f, a.e.ef, g1.h.trans a.x1, fun p z1 z2 => a.n p (g1.n p z1 z2) (ex_some g1.h z2)⟩ (a.val (fresh_back g1.h hD))
  | @yes it its0 ρ1 m d ds0 hb ht he hc hl0 =>
    obtain ⟨hit, hd2, hlt⟩ := drop_cons hdk
    obtain ⟨go1, go2⟩ := hgo F' H' a.c a.e.eb a.e.ef a.x1 k it hit
    refine .inr ⟨go1, fun H2 => ∃ F2, Acc K fz B F1 H1 Dl σ ρ F2 H2 (es ++ [d]), fun H2 h => ?_, fun x H2 hy => ?_⟩
    · obtain ⟨F2, a2⟩ := h
      exact ⟨its.length - (k + 1), by omega, rfl, hlt, F2, es ++ [d], ds0, by rw [← hr]; simp, a2, by rw [hd2]; exact hl0⟩
    · obtain ⟨y1, y2⟩ := go2 x H2 hy
      have g3 : Grow F' H' F' H2 := Grow.up a.e.ef y1
      have e3 := (a.grow g3).e.wipe vs
      refine hg.run e3.eb e3.ef hb e3 y2 _ fun σ' e4 hw' _ => ⟨?_, ?_⟩
      · have w1 := hw' vs hv
        rw [w1]
        exact wipe_wipe
      · refine ht B F' H2 σ' e4 _ fun F4 H4 g4 => ?_
        rw [if_pos rfl]
        refine okm_dt (H0 := H) (v := .non) (B := B) (H := H2) (F := F') e3.eb hc he B F4 H4 σ' (e4.grow g4) _ fun v F5 H5 g5 dv => ?_
        have a5 := ((a.grow g3).grow g4).grow g5
        obtain ⟨acc, h1, h2⟩ := a5.ex
        refine ⟨acc, h1, sz_lt (by rw [h2.len]; have := congrArg List.length hr; simp at this; omega), F5, a5.push hD bD off dv h1 h2⟩
  | @no it its0 ρ1 ds0 hb ht hl0 =>
    obtain ⟨hit, hd2, hlt⟩ := drop_cons hdk
    obtain ⟨go1, go2⟩ := hgo F' H' a.c a.e.eb a.e.ef a.x1 k it hit
    refine .inr ⟨go1, fun H2 => ∃ F2, Acc K fz B F1 H1 Dl σ ρ F2 H2 es, fun H2 h => ?_, fun x H2 hy => ?_⟩
    · obtain ⟨F2, a2⟩ := h
      exact ⟨its.length - (k + 1), by omega, rfl, hlt, F2, es, rem, hr, a2, by rw [hd2]; exact hl0⟩
    · obtain ⟨y1, y2⟩ := go2 x H2 hy
      have g3 : Grow F' H' F' H2 := Grow.up a.e.ef y1
      have e3 := (a.grow g3).e.wipe vs
      refine hg.run e3.eb e3.ef hb e3 y2 _ fun σ' e4 hw' _ => ⟨?_, ?_⟩
      · have w1 := hw' vs hv
        rw [w1]
        exact wipe_wipe
      · refine ht B F' H2 σ' e4 _ fun F4 H4 g4 => ?_
        rw [if_neg Bool.false_ne_true]
        exact ⟨F4, (a.grow g3).grow g4⟩
theorem e_lc2 {st fz : Bool} {its : List Item} (hw : Src K wi ρ st its) (hg : GP K g pt) (hg1 : GP K g1 pt1) (hv : ∀ i ∈ pt.vars, i ∈ vs) (hv1 : ∀ i ∈ pt1.vars, i ∈ vs1) (hl : LcR2 K pt (wipeR ρ vs) tt wi1 pt1 vs1 tt1 te fz its ds) (hn : ds.length < 100000) : EE K (tLc2 wi g tt wi1 g1 tt1 te vs vs1) ρ (lcm fz) (.lst ds) := fun B F H σ e Q q => by
  refine hw.go e fun J F1 H1 gr1 hgo hst => ?_
  intro Dl hD
  have e1 := e.grow gr1
  have off : ∀ k : Nat, Own1 σ ρ k Dl → False := fun k o => (e1.mine o).2.2 hD
  have bD : B Dl = none := fresh_back e1.eb hD
  have fD : F1 Dl = none := fresh_back e1.ef hD
  refine ⟨fun k m H' => m = its.length - k ∧ k ≤ its.length ∧ ∃ F' es rem, es ++ rem = ds ∧ Acc K fz B F1 H1 Dl σ ρ F' H' es ∧ LcR2 K pt (wipeR ρ vs) tt wi1 pt1 vs1 tt1 te fz (its.drop k) rem,
    ⟨its.length, by simp, Nat.zero_le _, F1, [], ds, rfl, ⟨Chg.refl _ _, Ex.new hD, fun _ h _ => h, fD, ⟨[], upd_same, .nil⟩, e1.off bD fD off⟩, hl⟩, fun k m H' hW => ?_⟩
  obtain ⟨rfl, hk, F', es, rem, hr, a, l⟩ := hW
  generalize hdk : its.drop k = its' at l
  cases l with
  | nil =>
    have hkn := drop_nil hk hdk
    subst hkn
    refine .inl ⟨hst F' H' a.c a.e.eb a.e.ef a.x1, ?_⟩
    rw [List.append_nil] at hr
    subst hr
    exact q _ F' H' ⟨gr1.f.trans a.c.f, a.e.ef, gr1.h.trans a.x1, fun p z1 z2 => a.n p (gr1.n p z1 z2) (ex_some gr1.h z2)⟩ (a.val (fresh_back gr1.h hD))
  | @yes it its0 its1 ρ1 es1 ds0 hb ht hs1 hl1 hl0 =>
    obtain ⟨hit, hd2, hlt⟩ := drop_cons hdk
    obtain ⟨go1, go2⟩ := hgo F' H' a.c a.e.eb a.e.ef a.x1 k it hit
    refine .inr ⟨go1, fun H2 => ∃ F2, Acc K fz B F1 H1 Dl σ ρ F2 H2 (es ++ es1), fun H2 h => ?_, fun x H2 hy => ?_⟩
    · obtain ⟨F2, a2⟩ := h
      exact ⟨its.length - (k + 1), by omega, rfl, hlt, F2, es ++ es1, ds0, by rw [← hr]; simp, a2, by rw [hd2]; exact hl0⟩
    · obtain ⟨y1, y2⟩ := go2 x H2 hy
      have g3 : Grow F' H' F' H2 := Grow.up a.e.ef y1
      have e3 := (a.grow g3).e.wipe vs
      refine hg.run e3.eb e3.ef hb e3 y2 _ fun σ' e4 hw' ho' => ⟨?_, ?_⟩
      · have w1 := hw' vs hv
        rw [w1]
        exact wipe_wipe
      · have off1 : ∀ k : Nat, Own1 σ' ρ1 k Dl → False := fun k o => off k (own1_wipe (ho' k Dl o))
        refine ht B F' H2 σ' e4 _ fun F4 H4 g4 => ?_
        rw [if_pos rfl]
        refine hs1 B F4 H4 σ' (e4.grow g4) _ fun J1 F5 H5 g5 hgo1 hst1 => ?_
        have a5 := ((a.grow g3).grow g4).grow g5
        refine ⟨fun j m H6 => m = its1.length - j ∧ j ≤ its1.length ∧ ∃ F6 es2 rem2, es2 ++ rem2 = es1 ∧ Chg B F5 F6 ∧ Acc K fz B F1 H1 Dl σ ρ F6 H6 (es ++ es2) ∧ EnvOk K B F6 H6 σ' ρ1 ∧ LcR K pt1 (wipeR ρ1 vs1) tt1 te fz (its1.drop j) rem2,
          ⟨its1.length, by simp, Nat.zero_le _, F5, [], es1, rfl, Chg.refl _ _, by rw [List.append_nil]; exact a5, (e4.grow g4).grow g5, hl1⟩, fun j m H6 hW1 => ?_⟩
        obtain ⟨rfl, hj, F6, es2, rem2, hr2, c6, a6, e6, l6⟩ := hW1
        generalize hdj : its1.drop j = its1' at l6
        cases l6 with
        | nil =>
          have hjn := drop_nil hj hdj
          subst hjn
          refine .inl ⟨hst1 F6 H6 c6.f c6.n e6.eb e6.ef (fun z => nomatch z), F6, ?_⟩
          rw [List.append_nil] at hr2
          subst hr2
          exact a6
        | @yes it1 its2 ρ2 m2 d2 ds2 hb1 ht1 he1 hc1 hl2 =>
          obtain ⟨hit1, hd3, hlt1⟩ := drop_cons hdj
          obtain ⟨go3, go4⟩ := hgo1 F6 H6 c6.f c6.n e6.eb e6.ef (fun z => nomatch z) j it1 hit1
          refine .inr ⟨go3, fun H2 => ∃ F2, Chg B F5 F2 ∧ Acc K fz B F1 H1 Dl σ ρ F2 H2 (es ++ (es2 ++ [d2])) ∧ EnvOk K B F2 H2 σ' ρ1, fun H2 h => ?_, fun x1 H7 hy1 => ?_⟩
          · obtain ⟨F2, c2, a2, e2⟩ := h
            exact ⟨its1.length - (j + 1), by omega, rfl, hlt1, F2, es2 ++ [d2], ds2, by rw [← hr2]; simp, c2, a2, e2, by rw [hd3]; exact hl2⟩
          · obtain ⟨y3, y4⟩ := go4 x1 H7 hy1
            have g7 : Grow F6 H6 F6 H7 := Grow.up e6.ef y3
            have e8 := (e6.grow g7).wipe vs1
            refine hg1.run e8.eb e8.ef hb1 e8 y4 _ fun σ3 e9 hw3 ho3 => ⟨?_, ?_⟩
            · have w1 := hw3 vs1 hv1
              rw [w1]
              exact wipe_wipe
            · refine ht1 B F6 H7 σ3 e9 _ fun F8 H8 g8 => ?_
              rw [if_pos rfl]
              refine okm_dt (H0 := H) (v := .non) (B := B) (H := H7) (F := F6) e8.eb hc1 he1 B F8 H8 σ3 (e9.grow g8) _ fun v F9 H9 g9 dv => ?_
              have a9 := ((a6.grow g7).grow g8).grow g9
              obtain ⟨acc, h1, h2⟩ := a9.ex
              refine ⟨acc, h1, sz_lt (by rw [h2.len]; have := congrArg List.length hr; have := congrArg List.length hr2; simp at *; omega), F9, ?_, ?_, ?_⟩
              · exact c6.trans (((g7.trans g8).trans g9).chg e6.eb)
              · rw [← List.append_assoc]
                exact a9.push hD bD off dv h1 h2
              · exact (((e6.grow g7).grow g8).grow g9).off bD a9.fr off1
        | @no it1 its2 ρ2 ds2 hb1 ht1 hl2 =>
          obtain ⟨hit1, hd3, hlt1⟩ := drop_cons hdj
          obtain ⟨go3, go4⟩ := hgo1 F6 H6 c6.f c6.n e6.eb e6.ef (fun z => nomatch z) j it1 hit1
          refine .inr ⟨go3, fun H2 => ∃ F2, Chg B F5 F2 ∧ Acc K fz B F1 H1 Dl σ ρ F2 H2 (es ++ es2) ∧ EnvOk K B F2 H2 σ' ρ1, fun H2 h => ?_, fun x1 H7 hy1 => ?_⟩
          · obtain ⟨F2, c2, a2, e2⟩ := h
            exact ⟨its1.length - (j + 1), by omega, rfl, hlt1, F2, es2, rem2, hr2, c2, a2, e2, by rw [hd3]; exact hl2⟩
          · obtain ⟨y3, y4⟩ := go4 x1 H7 hy1
            have g7 : Grow F6 H6 F6 H7 := Grow.up e6.ef y3
            have e8 := (e6.grow g7).wipe vs1
            refine hg1.run e8.eb e8.ef hb1 e8 y4 _ fun σ3 e9 hw3 ho3 => ⟨?_, ?_⟩
            · have w1 := hw3 vs1 hv1
              rw [w1]
              exact wipe_wipe
            · refine ht1 B F6 H7 σ3 e9 _ fun F8 H8 g8 => ?_
              rw [if_neg Bool.false_ne_true]
              exact ⟨F8, c6.trans ((g7.trans g8).chg e6.eb), (a6.grow g7).grow g8, (e6.grow g7).grow g8⟩
  | @no it its0 ρ1 ds0 hb ht hl0 =>
    obtain ⟨hit, hd2, hlt⟩ := drop_cons hdk
    obtain ⟨go1, go2⟩ := hgo F' H' a.c a.e.eb a.e.ef a.x1 k it hit
    refine .inr ⟨go1, fun H2 => ∃ F2, Acc K fz B F1 H1 Dl σ ρ F2 H2 es, fun H2 h => ?_, fun x H2 hy => ?_⟩
    · obtain ⟨F2, a2⟩ := h
      exact ⟨its.length - (k + 1), by omega, rfl, hlt, F2, es, rem, hr, a2, by rw [hd2]; exact hl0⟩
    · obtain ⟨y1, y2⟩ := go2 x H2 hy
      have g3 : Grow F' H' F' H2 := Grow.up a.e.ef y1
      have e3 := (a.grow g3).e.wipe vs
      refine hg.run e3.eb e3.ef hb e3 y2 _ fun σ' e4 hw' _ => ⟨?_, ?_⟩
      · have w1 := hw' vs hv
        rw [w1]
        exact wipe_wipe
      · refine ht B F' H2 σ' e4 _ fun F4 H4 g4 => ?_
        rw [if_neg Bool.false_ne_true]
        exact ⟨F4, (a.grow g3).grow g4⟩
end
end QL

end
section
set_option maxRecDepth 100000
set_option maxHeartbeats 2000000
namespace QL
open PySem PySem.Spec PyProof.Rows L2 Evl

/-! ### a small language, out of the text -/
inductive BO where | add | sub | mul | fdiv | mod | pow
  deriving DecidableEq
inductive CO where | lt | le | gt | ge | eq | ne | is | isnot | isin | notin
  deriving DecidableEq
/-- built-in functions of one argument -/
inductive B1 where | len | int | sum | any | all | sorted | list | tuple | max | min | abs | listrange
  deriving DecidableEq
inductive B2 where | max | min
  deriving DecidableEq
mutual
inductive CE where
  | var (i : Nat) | int (i : Int) | bl (b : Bool) | str (x : Str) | non
  | bin (o : BO) (a b : CE) | cmp (o : CO) (a b : CE) | chain (o o' : CO) (a b c : CE)
  | neg (a : CE) | not (a : CE) | and (a b : CE) | or (a b : CE) | ife (t : CT) (a b : CE)
  | ix (a b : CE) | tup (es : CEs) | lst (es : CEs)
  | call (g : Str) (es : CEs) | b1 (f : B1) (a : CE) | b2 (f : B2) (a b : CE) | isi (a : CE) (T : String)
  | lc (pt : Pat) (src : CSrc) (t : CT) (e : CE) (vs : List Nat)
  | lc2 (pt : Pat) (src : CSrc) (t : CT) (pt1 : Pat) (src1 : CSrc) (t1 : CT) (vs1 : List Nat) (e : CE) (vs : List Nat)
inductive CEs where
  | nil | cons (e : CE) (r : CEs)
inductive CSrc where
  | r1 (a : CE) | r2 (a b : CE) | seq (a : CE)
/-- a test -/
inductive CT where
  | yes | not (a : CT) | and (a b : CT) | or (a b : CT) | val (e : CE)
end
mutual
inductive CS where
  | set (i : Nat) (e : CE) | pat (p : Pat) (e : CE) | seti (i : Nat) (k e : CE) | app (i : Nat) (e : CE) | ins (i : Nat) (k e : CE)
  | ife (t : CT) (a b : CSs) | for (p : Pat) (src : CSrc) (body : CSs) | ret (e : CE) | expr (e : CE) | pass | brk | cont
inductive CSs where
  | nil | cons (s : CS) (r : CSs)
end

/-! ### what it is worth -/
/-- an expression's result; what the defs of the text come to -/
inductive Rv where
  | v (m : Md) (d : D)
  | x (e : Er)
structure Orc where
  call : Str → List D → Option Res
def bv (r : Option Rv) (k : Md → D → Option Rv) : Option Rv := match r with
  | some (.v m d) => k m d
  | some (.x e) => some (.x e)
  | none => none
@[simp] theorem bv_v {m : Md} {d : D} {k : Md → D → Option Rv} : bv (some (.v m d)) k = k m d := rfl
@[simp] theorem bv_x {e : Er} {k : Md → D → Option Rv} : bv (some (.x e)) k = some (.x e) := rfl
@[simp] theorem bv_n {k : Md → D → Option Rv} : bv none k = none := rfl
def fv (d : D) : Option Rv := some (.v .f d)
/-- a bound for numbers that are multiplied, divided by -/
def big200 : Nat := 2 ^ 2000
def binI (o : BO) (i j : Int) : Option Int := match o with
  | .add => some (i + j)
  | .sub => some (i - j)
  | .mul => if i.natAbs < big200 ∧ j.natAbs < big200 then some (i * j) else none
  | .fdiv => if 0 < j ∧ j.natAbs < big200 then some (i / j) else none
  | .mod => if 0 < j then some (i % j) else none
  | .pow => if 0 ≤ j ∧ j ≤ 1000000 ∧ i.natAbs < 2 ^ 64 then some (i ^ j.toNat) else none
def binD (o : BO) (m1 : Md) (d1 : D) (m2 : Md) (d2 : D) : Option Rv := match d1, d2 with
  | .int i, .int j => (binI o i j).bind fun n => fv (.int n)
  | .lst ds, .lst es => if o = .add ∧ itF m1 ds = true ∧ itF m2 es = true ∧ ds.length + es.length ≤ 100000 then some (.v .n (.lst (ds ++ es))) else none
  | _, _ => none
def cmpI (o : CO) (i j : Int) : Option Bool := match o with
  | .lt => some (decide (i < j)) | .le => some (decide (i ≤ j)) | .gt => some (decide (j < i)) | .ge => some (decide (j ≤ i))
  | .eq => some (decide (i = j)) | .ne => some (!decide (i = j)) | _ => none
def isSc : D → Bool
  | .non => true | .bl _ => true | .int _ => true | .str _ => true | _ => false
def cmpD (o : CO) (d1 d2 : D) : Option Bool := match d1, d2 with
  | .int i, .int j => cmpI o i j
  | .bl i, .bl j => match o with | .eq => some (decide (i = j)) | .ne => some (!decide (i = j)) | .is => some (decide (i = j)) | .isnot => some (!decide (i = j)) | _ => none
  | .str i, .str j => match o with | .eq => some (decide (i = j)) | .ne => some (!decide (i = j)) | _ => none
  | a, b => match o, b with
    | .is, .non => some (match a with | .non => true | _ => false)
    | .isnot, .non => some (match a with | .non => false | _ => true)
    | .eq, b => if SeqAt.shaped (toPy a) = true ∧ SeqAt.shaped (toPy b) = true then some (PyData.eqv (toPy a) (toPy b)) else none
    | .ne, b => if SeqAt.shaped (toPy a) = true ∧ SeqAt.shaped (toPy b) = true then some (!PyData.eqv (toPy a) (toPy b)) else none
    | _, _ => none
def ixD (m : Md) (d : D) (i : Int) : Option Rv := match d with
  | .lst ds => (atI ds i).map fun e => .v (nrm (ixm m) e) e
  | .tup ds => (atI ds i).map fun e => .v (nrm (ixm m) e) e
  | .scr ns => (atI ns i).map fun n => .v .f (.int n)
  | _ => none
def intsOf : List D → Option (List Int)
  | [] => some []
  | .int i :: ds => (intsOf ds).map (i :: ·)
  | _ => none
def blsOf : List D → Option (List Bool)
  | [] => some []
  | .bl i :: ds => (blsOf ds).map (i :: ·)
  | _ => none
def rowsOf : List D → Option (List (Int × Int))
  | [] => some []
  | .tup [.int a, .int b] :: ds => (rowsOf ds).map ((a, b) :: ·)
  | _ => none
def maxI : Int → List Int → Int
  | a, [] => a
  | a, b :: r => maxI (if b > a then b else a) r
def minI : Int → List Int → Int
  | a, [] => a
  | a, b :: r => minI (if b < a then b else a) r
def b1D (f : B1) (m : Md) (d : D) : Option Rv := match f with
  | .len => (dlen d).map fun (n : Nat) => .v .f (.int (n : Int))
  | .int => match d with | .int i => fv (.int i) | _ => none
  | .list => (seqOf d).bind fun ds => if itF m ds = true then some (.v .n (.lst ds)) else some (.v .h (.lst ds))
  | .tuple => match d with
    | .lst ds => if itF m ds = true then some (.v .f (.tup ds)) else none
    | .tup ds => some (.v (nrm m (.tup ds)) (.tup ds))
    | .scr ns => some (.v .f (.tup (ns.map .int)))
    | _ => none
  | .sum => match d with | .lst ds => (intsOf ds).bind fun ns => fv (.int ns.sum) | _ => none
  | .any => match d with | .lst ds => (blsOf ds).bind fun bs => fv (.bl (bs.any id)) | _ => none
  | .all => match d with | .lst ds => (blsOf ds).bind fun bs => fv (.bl (bs.all id)) | _ => none
  | .max => match d with | .lst ds => (intsOf ds).bind fun ns => (match ns with | [] => none | a :: r => fv (.int (maxI a r))) | _ => none
  | .min => match d with | .lst ds => (intsOf ds).bind fun ns => (match ns with | [] => none | a :: r => fv (.int (minI a r))) | _ => none
  | .listrange => match d with | .int n => if 0 ≤ n ∧ n ≤ 100000 then some (.v .n (.lst ((List.range n.toNat).map fun (i : Nat) => .int (i : Int)))) else none | _ => none
  | _ => none
def b2D (f : B2) (d e : D) : Option Rv := match d, e with
  | .int i, .int j => fv (.int (match f with | .max => max i j | .min => min i j))
  | _, _ => none
def isiD (d : D) (T : String) : Option Rv := if tyName d = "" then none else (kitB (tyName d) T).bind fun b => fv (.bl b)
def varD (ρ : List Sl) (i : Nat) : Option Rv := match ρ[i]? with
  | some (.dat d) => some (.v .f d)
  | some (.bor d) => some (.v (nrm .b d) d)
  | some (.own ds) => some (.v .o (.lst ds))
  | some (.ownD ks ds) => some (.v .o (.dic ks ds))
  | _ => none
def truthD : D → Option Bool
  | .bl b => some b
  | .lst ds => some (!ds.isEmpty)
  | _ => none
def allCf : List (Md × D) → Bool
  | [] => true
  | x :: r => cf x.1 x.2 && allCf r
/-- arguments' results -/
inductive Ra where
  | v (ms : List (Md × D))
  | x (e : Er)
/-- a source's: is it stable, its items -/
inductive Rs where
  | v (st : Bool) (its : List Item)
def srcD (m : Md) (d : D) : Option Rs := match d with
  | .scr ns => some (.v true (seqIt .f (ns.map .int)))
  | .lst ds => if m = .n then some (.v true (seqIt .f ds)) else some (.v (stab m) (seqIt m ds))
  | .tup ds => if m = .n then none else some (.v (stab m) (seqIt m ds))
  | _ => none
/-- a loop of a comprehension over items -/
def lcGo (g : Item → Option (List (Md × D))) : List Item → Option (List (Md × D))
  | [] => some []
  | it :: its => (g it).bind fun y => (lcGo g its).map fun ys => y ++ ys
def lcD (r : List (Md × D)) : Option Rv := if r.length < 100000 then
    if allCf r = true then some (.v .n (.lst (r.map (·.2)))) else if r.all (fun x => okm false x.1 x.2) = true then some (.v .h (.lst (r.map (·.2)))) else none
  else none
mutual
def evE (O : Orc) : CE → List Sl → Option Rv
  | .var i, ρ => varD ρ i
  | .int i, _ => fv (.int i)
  | .bl b, _ => fv (.bl b)
  | .str x, _ => fv (.str x)
  | .non, _ => fv .non
  | .bin o a b, ρ => bv (evE O a ρ) fun m1 d1 => bv (evE O b ρ) fun m2 d2 => binD o m1 d1 m2 d2
  | .cmp o a b, ρ => bv (evE O a ρ) fun _ d1 => bv (evE O b ρ) fun _ d2 => (cmpD o d1 d2).bind fun b => fv (.bl b)
  | .chain o o' a b c, ρ => match evE O a ρ, evE O b ρ, evE O c ρ with
    | some (.v _ (.int i)), some (.v _ (.int j)), some (.v _ (.int k)) => (cmpI o i j).bind fun x => (cmpI o' j k).bind fun y => if (o = .eq ∨ o = .ne ∨ o' = .eq ∨ o' = .ne) then none else fv (.bl (x && y))
    | _, _, _ => none
  | .neg a, ρ => bv (evE O a ρ) fun _ d => match d with | .int i => fv (.int (-i)) | _ => none
  | .not a, ρ => bv (evE O a ρ) fun _ d => match d with | .bl b => fv (.bl (!b)) | _ => none
  | .and a b, ρ => bv (evE O a ρ) fun _ d => match d with
    | .bl true => bv (evE O b ρ) fun _ e => match e with | .bl y => fv (.bl y) | _ => none
    | .bl false => fv (.bl false)
    | _ => none
  | .or a b, ρ => bv (evE O a ρ) fun _ d => match d with
    | .bl false => bv (evE O b ρ) fun _ e => match e with | .bl y => fv (.bl y) | _ => none
    | .bl true => fv (.bl true)
    | _ => none
  | .ife t a b, ρ => (evT O t ρ).bind fun c => if c = true then evE O a ρ else evE O b ρ
  | .ix a b, ρ => bv (evE O a ρ) fun m d => bv (evE O b ρ) fun _ e => match e with | .int i => ixD m d i | _ => none
  | .tup es, ρ => (evEs O es ρ).bind fun r => match r with
    | .v ms => if ms.length ≤ 100000 then (if allCf ms = true then fv (.tup (ms.map (·.2))) else if immA (ms.map (·.2)) = false then some (.v .h (.tup (ms.map (·.2)))) else none) else none
    | .x e => some (.x e)
  | .lst es, ρ => (evEs O es ρ).bind fun r => match r with
    | .v ms => if ms.length ≤ 100000 then (if allCf ms = true then some (.v .n (.lst (ms.map (·.2)))) else some (.v .h (.lst (ms.map (·.2))))) else none
    | .x e => some (.x e)
  | .call g es, ρ => (evEs O es ρ).bind fun r => match r with
    | .v ms => match O.call g (ms.map (·.2)) with
      | some (.ok m d) => if m = .f ∨ m = .n then some (.v m d) else none
      | some (.er e) => some (.x e)
      | none => none
    | .x e => some (.x e)
  | .b1 f a, ρ => bv (evE O a ρ) fun m d => b1D f m d
  | .b2 f a b, ρ => bv (evE O a ρ) fun _ d => bv (evE O b ρ) fun _ e => b2D f d e
  | .isi a T, ρ => bv (evE O a ρ) fun _ d => isiD d T
  | .lc pt src t e vs, ρ => (evSrc O src ρ).bind fun r => match r with
    | .v _ its => (lcGo (fun it => (bindP pt (wipeR ρ vs) it).bind fun ρ1 => (evT O t ρ1).bind fun c => if c = true then (match evE O e ρ1 with | some (.v m d) => some [(m, d)] | _ => none) else some []) its).bind lcD
  | .lc2 pt src t pt1 src1 t1 vs1 e vs, ρ => (evSrc O src ρ).bind fun r => match r with
    | .v _ its => (lcGo (fun it => (bindP pt (wipeR ρ vs) it).bind fun ρ1 => (evT O t ρ1).bind fun c => if c = true then
        ((evSrc O src1 ρ1).bind fun r1 => match r1 with
          | .v true its1 => lcGo (fun it1 => (bindP pt1 (wipeR ρ1 vs1) it1).bind fun ρ2 => (evT O t1 ρ2).bind fun c1 => if c1 = true then (match evE O e ρ2 with | some (.v m d) => some [(m, d)] | _ => none) else some []) its1
          | _ => none) else some []) its).bind lcD
def evEs (O : Orc) : CEs → List Sl → Option Ra
  | .nil, _ => some (.v [])
  | .cons e r, ρ => match evE O e ρ with
    | some (.v m d) => (evEs O r ρ).bind fun x => match x with
      | .v ms => some (.v ((m, d) :: ms))
      | .x e => some (.x e)
    | some (.x e) => some (.x e)
    | none => none
def evSrc (O : Orc) : CSrc → List Sl → Option Rs
  | .r1 a, ρ => match evE O a ρ with
    | some (.v _ (.int n)) => if -100000 ≤ n ∧ n ≤ 100000 then some (.v true (rngIt 0 n.toNat)) else none
    | _ => none
  | .r2 a b, ρ => match evE O a ρ with
    | some (.v _ (.int lo)) => match evE O b ρ with
      | some (.v _ (.int n)) => if -100000 ≤ n ∧ n ≤ 100000 ∧ -100000 ≤ lo ∧ lo ≤ 100000 then some (.v true (rngIt lo (n - lo).toNat)) else none
      | _ => none
    | _ => none
  | .seq a, ρ => match evE O a ρ with
    | some (.v m d) => srcD m d
    | _ => none
/-- a test -/
def evT (O : Orc) : CT → List Sl → Option Bool
  | .yes, _ => some true
  | .not a, ρ => (evT O a ρ).map not
  | .and a b, ρ => (evT O a ρ).bind fun c => if c = true then evT O b ρ else some false
  | .or a b, ρ => (evT O a ρ).bind fun c => if c = true then some true else evT O b ρ
  | .val e, ρ => match evE O e ρ with
    | some (.v _ d) => truthD d
    | _ => none
end

/-! ### statements -/
/-- a loop over items -/
def forGo (pt : Pat) (body : List Sl → Option Out) : List Item → List Sl → Option Out
  | [], ρ => some (.nx ρ)
  | it :: its, ρ => (bindP pt ρ it).bind fun ρ1 => (body ρ1).bind fun o => match o with
    | .nx ρ2 => forGo pt body its ρ2
    | .ct ρ2 => forGo pt body its ρ2
    | .bk ρ2 => some (.nx ρ2)
    | .rt m d => some (.rt m d)
/-! the names whose value goes on as it is -/
mutual
def esc : CE → List Nat
  | .var i => [i]
  | .tup es => escs es
  | .lst es => escs es
  | .ife _ a b => esc a ++ esc b
  | _ => []
def escs : CEs → List Nat
  | .nil => []
  | .cons e r => esc e ++ escs r
end
def frzA (ρ : List Sl) : List Nat → List Sl
  | [] => ρ
  | i :: r => frzA (ρ.set i (frzS (ρ.getD i .un))) r
/-- the names that a source walks -/
def srcEsc : CSrc → List Nat
  | .seq (.var i) => [i]
  | _ => []
mutual
def evS (O : Orc) : CS → List Sl → Option Out
  | .set i e, ρ => let ρ0 := frzA ρ (esc e); match evE O e ρ0 with
    | some (.v m d) => (slotV m d).map fun s => .nx (ρ0.set i s)
    | _ => none
  | .pat p e, ρ => let ρ0 := frzA ρ (esc e); match evE O e ρ0 with
    | some (.v m d) => if m = .n then none else (bindP p ρ0 (.one m d)).map .nx
    | _ => none
  | .seti i k e, ρ => let ρ0 := frzA ρ (esc e); match evE O e ρ0, evE O k ρ0, ρ0[i]? with
    | some (.v m d), some (.v _ (.int n)), some (.own ds) => if cf m d = true then (ixN ds.length n).map fun k => .nx (ρ0.set i (.own (ds.set k d))) else none
    | _, _, _ => none
  | .app i e, ρ => let ρ0 := frzA ρ (esc e); match evE O e ρ0, ρ0[i]? with
    | some (.v m d), some (.own ds) => if cf m d = true ∧ ds.length < 100000 then some (.nx (ρ0.set i (.own (ds ++ [d])))) else none
    | _, _ => none
  | .ins i k e, ρ => let ρ0 := frzA ρ (esc e); match evE O k ρ0, evE O e ρ0, ρ0[i]? with
    | some (.v _ (.int n)), some (.v m d), some (.own ds) => if cf m d = true ∧ ds.length < 100000 ∧ 0 ≤ n ∧ n < 2 ^ 63 then some (.nx (ρ0.set i (.own (ds.take n.toNat ++ [d] ++ ds.drop n.toNat)))) else none
    | _, _, _ => none
  | .ife t a b, ρ => (evT O t ρ).bind fun c => if c = true then evSs O a ρ else evSs O b ρ
  | .for p src body, ρ => let ρ0 := frzA ρ (srcEsc src); match evSrc O src ρ0 with
    | some (.v true its) => forGo p (fun ρ1 => evSs O body ρ1) its ρ0
    | _ => none
  | .ret (.var i), ρ => match ρ[i]? with
    | some (.own ds) => some (.rt .n (.lst ds))
    | some (.ownD ks ds) => some (.rt .n (.dic ks ds))
    | some (.dat d) => some (.rt .f d)
    | some (.bor d) => some (.rt (nrm .b d) d)
    | _ => none
  | .ret e, ρ => match evE O e (frzA ρ (esc e)) with
    | some (.v m d) => some (.rt m d)
    | _ => none
  | .expr e, ρ => match evE O e ρ with
    | some (.v _ _) => some (.nx ρ)
    | _ => none
  | .pass, ρ => some (.nx ρ)
  | .brk, ρ => some (.bk ρ)
  | .cont, ρ => some (.ct ρ)
def evSs (O : Orc) : CSs → List Sl → Option Out
  | .nil, ρ => some (.nx ρ)
  | .cons s r, ρ => (evS O s ρ).bind fun o => match o with
    | .nx ρ1 => evSs O r ρ1
    | o => some o
end
/-- a def: how many names it has, its parameters, its body -/
structure CDef where
  n : Nat
  ps : Nat
  body : CSs
def evD (O : Orc) (c : CDef) (ds : List D) : Option Res := if ds.length = c.ps then (evSs O c.body (slots c.n ds)).bind fin else none
/-- the defs of a text, k deep -/
def evF (P : List (Str × CDef)) : Nat → Str → List D → Option Res
  | 0, _, _ => none
  | k + 1, g, ds => match P.lookup g with
    | some c => evD ⟨evF P k⟩ c ds
    | none => none
end QL

end
section
set_option maxRecDepth 100000
set_option maxHeartbeats 2000000
namespace QL
open PySem PySem.Spec PyProof.Rows L2 Evl

/-! ### the best reading of a text -/
section
variable (X : Cx)
def eB (e : Expr) : TE := fun σ H Q => ∃ t, PE X e t ∧ t σ H Q
def aB (es : List Expr) : TA := fun σ H Q => ∃ t, PA X es t ∧ t σ H Q
def tB' (e : Expr) : TT := fun σ H Q => ∃ t, PT X e t ∧ t σ H Q
def tsB (es : List Expr) : TT := fun σ H Q => ∃ t, PTs X es t ∧ t σ H Q
def iB (tg e : Expr) : TI := fun σ H R => ∃ t, PI X tg e t ∧ t σ H R
def sB (s : Stmt) : TS := fun D σ H => ∃ t, PS X s t ∧ t D σ H
def ssB (s : List Stmt) : TS := fun D σ H => ∃ t, PSs X s t ∧ t D σ H
end
section
variable {X : Cx} {e : Expr} {es : List Expr} {s : Stmt} {ss : List Stmt} {tg : Expr}
theorem pe_B : PE X e (eB X e) := ⟨fun pins s σ H Q I ⟨t, h, q⟩ => h.run pins s σ H Q I q⟩
theorem pa_B : PA X es (aB X es) := ⟨fun pos pins s σ H Q I ⟨t, h, q⟩ => h.run pos pins s σ H Q I q⟩
theorem pt_B : PT X e (tB' X e) := ⟨fun pins s σ H Q I ⟨t, h, q⟩ => h.run pins s σ H Q I q⟩
theorem pts_B : PTs X es (tsB X es) := ⟨fun pins s σ H Q I ⟨t, h, q⟩ => h.run pins s σ H Q I q⟩
theorem pi_B : PI X tg e (iB X tg e) := ⟨fun pins s σ H R I ⟨t, h, q⟩ => h.run pins s σ H R I q⟩
theorem ps_B : PS X s (sB X s) := ⟨fun pins st σ H D I ⟨t, h, q⟩ => h.run pins st σ H D I q⟩
theorem pss_B : PSs X ss (ssB X ss) := ⟨fun pins st σ H D I ⟨t, h, q⟩ => h.run pins st σ H D I q⟩
variable {K : PySem.W.Frag} {ρ : List Sl} {m : Md} {d : D} {ds : List D} {b : Bool}
theorem ee_B {t : TE} (h : PE X e t) (q : EE K t ρ m d) : EE K (eB X e) ρ m d := fun B F H σ ev Q k => ⟨t, h, q B F H σ ev Q k⟩
theorem ea_B {t : TA} (h : PA X es t) (q : EA K t ρ ds) : EA K (aB X es) ρ ds := fun B F H σ ev Q k => ⟨t, h, q B F H σ ev Q k⟩
theorem ef_B {t : TA} (h : PA X es t) (q : EF K t ρ ds) : EF K (aB X es) ρ ds := fun B F H σ ev Q k => ⟨t, h, q B F H σ ev Q k⟩
theorem et_B {t : TT} (h : PT X e t) (q : ET K t ρ b) : ET K (tB' X e) ρ b := fun B F H σ ev Q k => ⟨t, h, q B F H σ ev Q k⟩
theorem ets_B {t : TT} (h : PTs X es t) (q : ET K t ρ b) : ET K (tsB X es) ρ b := fun B F H σ ev Q k => ⟨t, h, q B F H σ ev Q k⟩
theorem src_B {t : TI} {st : Bool} {its : List Item} (h : PI X tg e t) (q : Src K t ρ st its) : Src K (iB X tg e) ρ st its := fun B F H σ ev R k => ⟨t, h, q B F H σ ev R k⟩
theorem run_B {t : TS} {o : Out} (h : PS X s t) (q : Run K t ρ o) : Run K (sB X s) ρ o := fun B F H σ D ev k => ⟨t, h, q B F H σ D ev k⟩
theorem runs_B {t : TS} {o : Out} (h : PSs X ss t) (q : Run K t ρ o) : Run K (ssB X ss) ρ o := fun B F H σ D ev k => ⟨t, h, q B F H σ D ev k⟩
end

/-! ### compiling -/
/-- what is known of the place of a text: the names of the def, the scope, the defs of the module -/
structure Sc where
  N : List Str
  sc : Scope
  /-- the scope as it is written -/
  sc0 : Scope
  defs : List Str
def relabelC (scope sc : Scope) : Scope :=
  { scope with names := scope.names.map fun (n, k) => if (k == .free && sc.kind == .function && sc.names.lookup n == some .cell) then (n, .cell) else (n, k) }
/-- the place of a comprehension's inside -/
def Sc.blk (S : Sc) (scope : Scope) : Sc := { S with sc := relabelC scope S.sc, sc0 := scope }
def Sc.slot (S : Sc) (x : Str) : Option Nat := match S.sc.names.lookup x with
  | some .local | some .cell | some .free => if x = "__debug__" ∨ x = "__classdict__" then none else
      let i := S.N.findIdx (fun y => decide (y = x))
      if S.N[i]? = some x then some i else none
  | _ => none
/-- a name that may be stored -/
def Sc.store (S : Sc) (x : Str) : Option Nat := match S.sc.names.lookup x with
  | some .local => S.slot x
  | some .cell => (match S.sc0.names.lookup x with
    | some .cell => S.slot x
    | _ => none)
  | _ => none
def Sc.gl (S : Sc) (x : Str) : Bool := match S.sc.names.lookup x with
  | some .globalImplicit => true
  | _ => false
def cBO : Operator → Option BO
  | .Add => some .add | .Sub => some .sub | .Mult => some .mul | .FloorDiv => some .fdiv | .Mod => some .mod | .Pow => some .pow | _ => none
def cCO : CmpOp → Option CO
  | .Lt => some .lt | .LtE => some .le | .Gt => some .gt | .GtE => some .ge | .Eq => some .eq | .NotEq => some .ne | .Is => some .is | .IsNot => some .isnot | _ => none
def cB1 (x : Str) : Option B1 :=
  if x = "len" then some .len else if x = "int" then some .int else if x = "sum" then some .sum else if x = "any" then some .any else if x = "all" then some .all
  else if x = "list" then some .list else if x = "tuple" then some .tuple else if x = "max" then some .max else if x = "min" then some .min else none
def cB2 (x : Str) : Option B2 := if x = "max" then some .max else if x = "min" then some .min else none
def tyNames : List String := ["int", "bool", "str", "list", "tuple", "dict"]
/-- the built-in names that may stand in a text -/
def bNames : List Str := ["len", "int", "sum", "any", "all", "list", "tuple", "max", "min", "isinstance", "bool", "str", "dict", "range", "sorted"]
mutual
def cP (S : Sc) : Nat → Expr → Option Pat
  | 0, _ => none
  | n + 1, .Name x _ => (S.store x).map .nm
  | n + 1, .Tuple es _ _ => (cPs S n es).map .tp
  | _, _ => none
def cPs (S : Sc) : Nat → List Expr → Option (List Pat)
  | _, [] => some []
  | 0, _ => none
  | n + 1, e :: es => match cP S n e, cPs S n es with
    | some p, some ps => some (p :: ps)
    | _, _ => none
end
mutual
def cE (S : Sc) : Nat → Expr → Option CE
  | 0, _ => none
  | n + 1, e => match e with
    | .Constant (.int i) _ _ => some (.int i)
    | .Constant (.bool b) _ _ => some (.bl b)
    | .Constant (.str x) _ _ => some (.str x)
    | .Constant .none _ _ => some .non
    | .Name x _ => (S.slot x).map .var
    | .BinOp a op b _ => match cBO op, cE S n a, cE S n b with
      | some o, some a, some b => some (.bin o a b)
      | _, _, _ => none
    | .UnaryOp .USub a _ => (cE S n a).map .neg
    | .UnaryOp .Not a _ => (cE S n a).map .not
    | .BoolOp op (a :: b :: r) _ => cB S n op (a :: b :: r)
    | .Compare a [op] [b] _ => match cCO op, cE S n a, cE S n b with
      | some o, some a, some b => some (.cmp o a b)
      | _, _, _ => none
    | .Compare a [op, op'] [b, c] _ => match cCO op, cCO op', cE S n a, cE S n b, cE S n c with
      | some o, some o', some a, some b, some c => some (.chain o o' a b c)
      | _, _, _, _, _ => none
    | .IfExp t a b _ => match cT S n t, cE S n a, cE S n b with
      | some t, some a, some b => some (.ife t a b)
      | _, _, _ => none
    | .Subscript a b _ => match cE S n a, cE S n b with
      | some a, some b => some (.ix a b)
      | _, _ => none
    | .Tuple es _ _ => (cEs S n es).map .tup
    | .List es _ => (cEs S n es).map .lst
    | .Call (.Name f _) [a] [] _ => if S.gl f = true then
        (if f ∈ S.defs then (cEs S n [a]).map (.call f) else match cB1 f, cE S n a with
          | some g, some a => some (.b1 g a)
          | _, _ => none) else none
    | .Call (.Name f _) [a, b] [] _ => if S.gl f = true then
        (if f ∈ S.defs then (cEs S n [a, b]).map (.call f) else if f = "isinstance" then (match b with
            | .Name T _ => if S.gl T = true ∧ T ∉ S.defs then (match tyNames.find? (fun z => decide (Str.ofString z = T)), cE S n a with
              | some z, some a => some (.isi a z)
              | _, _ => none) else none
            | _ => none)
          else match cB2 f, cE S n a, cE S n b with
            | some g, some a, some b => some (.b2 g a b)
            | _, _, _ => none) else none
    | .Call (.Name f _) (a :: es) [] _ => if S.gl f = true ∧ f ∈ S.defs then (cEs S n (a :: es)).map (.call f) else none
    | .ListComp elt [⟨tg, iter, ifs, 0⟩] scope _ =>
      let S' : Sc := S.blk scope
      match cP S' n tg, cSrc S n iter, cTs S' n ifs, cE S' n elt with
      | some p, some src, some t, some e => let own := p.vars.map fun i => (S.N.getD i "", i)
        if blkC S.N S.sc scope own = true then some (.lc p src t e p.vars) else none
      | _, _, _, _ => none
    | .ListComp elt [⟨tg, iter, ifs, 0⟩, ⟨tg1, iter1, ifs1, 0⟩] scope _ =>
      let S' : Sc := S.blk scope
      match cP S' n tg, cSrc S n iter, cTs S' n ifs, cP S' n tg1, cSrc S' n iter1, cTs S' n ifs1, cE S' n elt with
      | some p, some src, some t, some p1, some src1, some t1, some e => let own := (p.vars ++ p1.vars).map fun i => (S.N.getD i "", i)
        if blkC S.N S.sc scope own = true then some (.lc2 p src t p1 src1 t1 p1.vars e (p.vars ++ p1.vars)) else none
      | _, _, _, _, _, _, _ => none
    | _ => none
def cEs (S : Sc) : Nat → List Expr → Option CEs
  | _, [] => some .nil
  | 0, _ => none
  | n + 1, e :: es => match cE S n e, cEs S n es with
    | some c, some cs => some (.cons c cs)
    | _, _ => none
def cB (S : Sc) : Nat → BoolOp → List Expr → Option CE
  | 0, _, _ => none
  | n + 1, _, [a] => cE S n a
  | n + 1, op, a :: b :: r => match cE S n a, cB S n op (b :: r) with
    | some x, some y => some (match op with | .And => .and x y | .Or => .or x y)
    | _, _ => none
  | _, _, _ => none
def cSrc (S : Sc) : Nat → Expr → Option CSrc
  | 0, _ => none
  | n + 1, e => match e with
    | .Call (.Name f _) [a] [] _ => if f = "range" then (if S.gl f = true ∧ f ∉ S.defs then (cE S n a).map .r1 else none) else (cE S n e).map .seq
    | .Call (.Name f _) [a, b] [] _ => if f = "range" then (if S.gl f = true ∧ f ∉ S.defs then (match cE S n a, cE S n b with
        | some a, some b => some (.r2 a b)
        | _, _ => none) else none) else (cE S n e).map .seq
    | .Set _ _ _ => none
    | e => (cE S n e).map .seq
def cT (S : Sc) : Nat → Expr → Option CT
  | 0, _ => none
  | n + 1, e => match e with
    | .UnaryOp .Not a _ => (cT S n a).map .not
    | .BoolOp op vs _ => cTB S n op vs
    | .IfExp _ _ _ _ => none
    | e => (cE S n e).map .val
def cTB (S : Sc) : Nat → BoolOp → List Expr → Option CT
  | 0, _, _ => none
  | n + 1, _, [a] => cT S n a
  | n + 1, op, a :: b :: r => match cT S n a, cTB S n op (b :: r) with
    | some x, some y => some (match op with | .And => .and x y | .Or => .or x y)
    | _, _ => none
  | _, _, _ => none
def cTs (S : Sc) : Nat → List Expr → Option CT
  | _, [] => some .yes
  | 0, _ => none
  | n + 1, [c] => cT S n c
  | _, _ => none
end
mutual
def cS (S : Sc) : Nat → Stmt → Option CS
  | 0, _ => none
  | n + 1, s => match s with
    | .Assign [.Name x _] e _ => match S.store x, cE S n e with
      | some i, some e => some (.set i e)
      | _, _ => none
    | .Assign [.Tuple es k p] e _ => match e with
      | .Tuple _ _ _ => none
      | .ListComp _ _ _ _ => none
      | e => match cP S n (.Tuple es k p), cE S n e with
        | some p, some e => some (.pat p e)
        | _, _ => none
    | .Assign [.Subscript (.Name x _) i _] e _ => match e with
      | .ListComp _ _ _ _ => none
      | e => match S.slot x, cE S n i, cE S n e with
        | some v, some i, some e => some (.seti v i e)
        | _, _, _ => none
    | .If t a b _ => match cT S n t, cSs S n a, cSs S n b with
      | some t, some a, some b => some (.ife t a b)
      | _, _, _ => none
    | .For tg it body [] _ => match cP S n tg, cSrc S n it, cSs S n body with
      | some p, some src, some b => some (.for p src b)
      | _, _, _ => none
    | .Return (some e) _ => (cE S n e).map .ret
    | .Expr (.Call (.Attribute (.Name x _) a pa) [e] [] pc) _ => if a = "append" ∧ (pa.endLine == pc.line) = true then (match S.slot x, cE S n e with
        | some i, some e => some (.app i e)
        | _, _ => none) else none
    | .Expr (.Call (.Attribute (.Name x _) a pa) [k, e] [] pc) _ => if a = "insert" ∧ (pa.endLine == pc.line) = true then (match S.slot x, cE S n k, cE S n e with
        | some i, some k, some e => some (.ins i k e)
        | _, _, _ => none) else none
    | .Expr (.Call (.Name f p) es [] p') _ => (cE S n (.Call (.Name f p) es [] p')).map .expr
    | .Pass _ => some .pass
    | .Break _ => some .brk
    | .Continue _ => some .cont
    | _ => none
def cSs (S : Sc) : Nat → List Stmt → Option CSs
  | _, [] => some .nil
  | 0, _ => none
  | n + 1, s :: r => match cS S n s, cSs S n r with
    | some s, some r => some (.cons s r)
    | _, _ => none
end
end QL

end
section
set_option maxRecDepth 100000
set_option maxHeartbeats 2000000
namespace QL
open PySem PySem.Spec PyProof.Rows L2 Evl

/-! ### what raises -/
def XX (K : PySem.W.Frag) (te : TE) (ρ : List Sl) (W : WX) (x : Er) : Prop := ∀ B F H σ, EnvOk K B F H σ ρ → (∀ d F' H', Grow F H F' H' → ErAt K F' x d → W (.ref x.C) d σ H') → ∀ Q : VK, te σ H Q
def XA (K : PySem.W.Frag) (ta : TA) (ρ : List Sl) (W : WX) (x : Er) : Prop := ∀ B F H σ, EnvOk K B F H σ ρ → (∀ d F' H', Grow F H F' H' → ErAt K F' x d → W (.ref x.C) d σ H') → ∀ Q : List V → Hp → Prop, ta σ H Q
def RvOk (K : PySem.W.Frag) (W : WX) (te : TE) (ρ : List Sl) : Rv → Prop
  | .v m d => EE K te ρ m d
  | .x e => XX K te ρ W e
section
variable {K : PySem.W.Frag} {W : WX} {te ta tb : TE} {ρ : List Sl} {x : Er} {m : Md} {d : D}
theorem xx_opL {rr : R2} (h : XX K ta ρ W x) : XX K (tOp rr ta tb) ρ W x := fun B F H σ e w Q => h B F H σ e w _
theorem xx_opR {rr : R2} (ha : EE K ta ρ m d) (h : XX K tb ρ W x) : XX K (tOp rr ta tb) ρ W x := fun B F H σ e w Q =>
  ha B F H σ e _ fun v F1 H1 g1 _ => h B F1 H1 σ (e.grow g1) (fun dx F' H' g er => w dx F' H' (g1.trans g) er) _
theorem xx_B {X : Cx} {e : Expr} {t : TE} (h : PE X e t) (q : XX K t ρ W x) : XX K (eB X e) ρ W x := fun B F H σ ev w Q => ⟨t, h, q B F H σ ev w Q⟩
theorem xa_B {X : Cx} {es : List Expr} {t : TA} (h : PA X es t) (q : XA K t ρ W x) : XA K (aB X es) ρ W x := fun B F H σ ev w Q => ⟨t, h, q B F H σ ev w Q⟩
theorem xa_here {tr : TA} (h : XX K te ρ W x) : XA K (tCons te tr) ρ W x := fun B F H σ e w Q => h B F H σ e w _
theorem xa_next {tr : TA} (h : EE K te ρ m d) (hr : XA K tr ρ W x) : XA K (tCons te tr) ρ W x := fun B F H σ e w Q =>
  h B F H σ e _ fun v F1 H1 g1 _ => hr B F1 H1 σ (e.grow g1) (fun dx F' H' g er => w dx F' H' (g1.trans g) er) _
theorem xx_cb {rr : List V → Hp → VK → Prop} {t : TA} (h : XA K t ρ W x) : XX K (tCB rr t) ρ W x := fun B F H σ e w Q => h B F H σ e w _
theorem xx_tup {t : TA} (h : XA K t ρ W x) : XX K (tTup t) ρ W x := fun B F H σ e w Q => h B F H σ e w _
theorem xx_lst {t : TA} (h : XA K t ρ W x) : XX K (tLst t) ρ W x := fun B F H σ e w Q => h B F H σ e w _
theorem xx_un {r : V → Hp → VK → Prop} (h : XX K ta ρ W x) : XX K (tUn r ta) ρ W x := fun B F H σ e w Q => h B F H σ e w _
theorem xx_callA {sp : Sp} {E : L2.St → XK} {t : TA} (h : XA K t ρ W x) : XX K (tCallS sp E t) ρ W x := fun B F H σ e w Q => h B F H σ e w _
end

/-! ### the promise of a def, errors with it -/
def SpE (K : PySem.W.Frag) (R : List D → Option Res) : Sp := fun vs H Q E => ∃ Fi ds, Ex Fi H ∧ DtMA K H Fi vs ds ∧
  ((∃ m d, R ds = some (.ok m d) ∧ (m = .f ∨ m = .n) ∧ ∀ v F' H', Grow Fi H F' H' → Val K m Emp H F' H' v d → Q v H') ∨
   ∃ x, R ds = some (.er x) ∧ ∀ dx F' H', Grow Fi H F' H' → ErAt K F' x dx → E (.ref x.C) dx H')
section
variable {K : PySem.W.Frag} {W : WX} {ρ : List Sl} {ta : TA} {ds : List D} {d : D} {m : Md} {R : List D → Option Res} {x : Er}
theorem e_callE {E : L2.St → XK} (h : EA K ta ρ ds) (hR : R ds = some (.ok m d)) (hm : m = .f ∨ m = .n) : EE K (tCallS (SpE K R) E ta) ρ m d := fun B F H σ e Q q =>
  h B F H σ e _ fun vs F1 H1 g1 dvs => ⟨F1, ds, g1.i, dvs, .inl ⟨m, d, hR, hm, fun v F2 H2 g2 dv => q v F2 H2 (g1.trans g2) ((dv.anyB hm).back g1.h)⟩⟩
theorem xx_callE (h : EA K ta ρ ds) (hR : R ds = some (.er x)) : XX K (tCallS (SpE K R) (WE W) ta) ρ W x := fun B F H σ e w Q =>
  h B F H σ e _ fun vs F1 H1 g1 dvs => ⟨F1, ds, g1.i, dvs, .inr ⟨x, hR, fun dx F2 H2 g2 er => w dx F2 H2 (g1.trans g2) er⟩⟩
end
structure HasX (P : Program) (w : World) (K : PySem.W.Frag) (mg : Str → Option Value) (base : Heap) (x : Str) (k : Nat) (ps : List Str) (sp : Sp) : Prop where
  ex : ∃ (f : Addr) (fd : FuncData), FnOk P w K mg base (L2.CX P w) k f fd ps sp ∧ mg x = some (.ref f) ∧ PySem.W.keepIn K (.ref f) = true ∧ Binds K fd ps []

/-- a context in which a text is compiled -/
structure Ok (X : Cx) (S : Sc) (W : WX) : Prop where
  N : X.N = S.N
  nd : X.N.Nodup
  sc : X.env.scope = S.sc
  calm : X.calm = true
  fn : ∀ x, S.sc0.names.lookup x = some .cell → X.fn x = true
  blt : ∀ x ∈ bNames, x ∉ S.defs → X.mg x = none
  un : X.A.units + 64 < cLine
  tk : Takes X W
  dbg : ("__debug__" : Str) ∉ S.defs
/-- the defs keep their promises -/
def Calls (X : Cx) (S : Sc) (O : Orc) : Prop := ∃ k, Room k X.A ∧ ∀ g ∈ S.defs, ∃ ps, HasX X.prog X.w X.K X.mg X.base g k ps (SpE X.K (O.call g))
section
variable {X : Cx} {S : Sc} {W : WX} {O : Orc}
theorem Ok.var (k : Ok X S W) {x : Str} {i : Nat} (h : S.slot x = some i) : X.N[i]? = some x ∧ Vis X.env.scope x ∧ (x == ("__debug__" : Str)) = false ∧ (x == ("__classdict__" : Str)) = false := by
  unfold Sc.slot at h
  rw [k.sc, k.N]
  have key : ∀ {o : Option Nat}, (if x = "__debug__" ∨ x = "__classdict__" then none else
      let i := S.N.findIdx (fun y => decide (y = x))
      if S.N[i]? = some x then some i else none) = some i → S.N[i]? = some x ∧ (x == ("__debug__" : Str)) = false ∧ (x == ("__classdict__" : Str)) = false := by
    intro _ h
    split at h
    · cases h
    · rename_i hn
      simp only [not_or] at hn
      dsimp only at h
      split at h
      · rename_i hi
        cases h
        exact ⟨hi, by simpa using hn.1, by simpa using hn.2⟩
      · cases h
  split at h
  · rename_i hl; obtain ⟨a, b, c⟩ := key (o := none) h; exact ⟨a, .inl hl, b, c⟩
  · rename_i hl; obtain ⟨a, b, c⟩ := key (o := none) h; exact ⟨a, .inr (.inl hl), b, c⟩
  · rename_i hl; obtain ⟨a, b, c⟩ := key (o := none) h; exact ⟨a, .inr (.inr hl), b, c⟩
  · cases h
theorem Ok.store (k : Ok X S W) {x : Str} {i : Nat} (h : S.store x = some i) : X.N[i]? = some x ∧ Loc X.env.scope x ∧ (X.fn x = true ∨ X.env.scope.names.lookup x = some .local) := by
  unfold Sc.store at h
  split at h
  · rename_i hl
    refine ⟨(k.var h).1, .inl ?_, .inr ?_⟩ <;> rw [k.sc] <;> exact hl
  · rename_i hl
    split at h
    · rename_i h0
      refine ⟨(k.var h).1, .inr ?_, .inl (k.fn x h0)⟩
      rw [k.sc]; exact hl
    · cases h
  · cases h
theorem Ok.gl (k : Ok X S W) {x : Str} (h : S.gl x = true) : Gl X x := by
  unfold Sc.gl at h
  show X.env.scope.names.lookup x = some .globalImplicit
  rw [k.sc]
  split at h
  · assumption
  · cases h
theorem Ok.blk (k : Ok X S W) (s : Shared) (H : Hp) (scope : Scope) (C : Addr) (cl : List (Str × Addr)) (fp : List Addr) : Ok (X.blk s H scope (compEnvC scope cl C X.env) fp) (S.blk scope) (fun _ _ _ _ => False) :=
  ⟨k.N, k.nd, by show relabelC scope X.env.scope = relabelC scope S.sc; rw [k.sc], k.calm, fun x h => by show (scope.names.lookup x == some .cell) = true; rw [show scope.names.lookup x = some .cell from h]; rfl, k.blt, k.un, fun _ _ x => by
    obtain ⟨_, _, _, _, _, _, _, _, _, _, _, _, _, _, _, _, z⟩ := x
    exact z.elim, k.dbg⟩
theorem Calls.blk (c : Calls X S O) (s : Shared) (H : Hp) (scope : Scope) (env : Env) (fp : List Addr) : Calls (X.blk s H scope env fp) (S.blk scope) O := c
theorem pe_callX {x : Str} {j k : Nat} {ps : List Str} {sp : Sp} {e : Expr} {es : List Expr} {t : TA} {p pos : Pos} (h : HasX X.prog X.w X.K X.mg X.base x j ps sp) (hr : Room k X.A) (hj : j ≤ k) (tk : Takes X W) (hg : Gl X x) (ha : PA X (e :: es) t)
    (hdb : (x == ("__debug__" : Str)) = false) (he : starEach (e :: es) X.env = (false, eval e X.env) :: starEach es X.env) (hpl : (backTo pos (starEach es X.env)).any (·.1) = false) :
    PE X (.Call (.Name x p) (e :: es) [] pos) (tCallS sp (WE W) t) := by
  obtain ⟨f, fd, F, hm, hk, hb⟩ := h.ex
  exact pe_callS (F.mono hj) (hr) hg hm hk hb (fun σ => passAt tk σ) ha hdb he hpl
end

/-! ### no stars -/
theorem cE_star {S : Sc} {n : Nat} {e : Expr} {p : Pos} : cE S n (.Starred e p) = none := by cases n <;> rfl
theorem star1 {S : Sc} {n : Nat} {e : Expr} {c : CE} (h : cE S n e = some c) (es : List Expr) (env : Env) : starEach (e :: es) env = (false, eval e env) :: starEach es env := by
  cases e <;> first | rfl | (rw [cE_star] at h; cases h)
theorem starAll {S : Sc} : ∀ {n : Nat} {es : List Expr} {cs : CEs}, cEs S n es = some cs → ∀ (pos : Pos) (env : Env), (backTo pos (starEach es env)).any (·.1) = false
  | _, [], _, _, pos, env => rfl
  | 0, _ :: _, _, h, _, _ => by simp [cEs] at h
  | n + 1, e :: es, cs, h, pos, env => by
    simp only [cEs] at h
    split at h
    · rename_i c cs' h1 h2
      rw [star1 h1]
      have := starAll h2 pos env
      unfold backTo at this ⊢
      simp only [List.map_cons, List.any_cons, Bool.false_or]
      exact this
    · cases h
theorem plainIx {S : Sc} {n : Nat} {e : Expr} {c : CE} (h : cE S n e = some c) : PlainIx e := by
  cases e <;> first | (intro _ _; rfl) | (cases n <;> simp [cE] at h)
end QL

end
section
set_option maxRecDepth 100000
set_option maxHeartbeats 4000000
namespace QL
open PySem PySem.Spec PyProof.Rows L2 Evl

/-! ### targets -/
mutual
def gOf (K : PySem.W.Frag) : Pat → TG
  | .nm i => gName i
  | .tp ps => gTup K ps.length (gsOf K ps)
def gsOf (K : PySem.W.Frag) : List Pat → TGs
  | [] => gNil
  | p :: ps => gCons (gOf K p) (gsOf K ps)
end
mutual
theorem gp_of (K : PySem.W.Frag) : ∀ p : Pat, GP K (gOf K p) p
  | .nm i => .nm i
  | .tp ps => .tp rfl (gps_of K ps)
theorem gps_of (K : PySem.W.Frag) : ∀ ps : List Pat, GPs K (gsOf K ps) ps
  | [] => .nil
  | p :: ps => .cons (gp_of K p) (gps_of K ps)
end
theorem cP_star {S : Sc} {n : Nat} {e : Expr} {p : Pos} : cP S n (.Starred e p) = none := by cases n <;> rfl
theorem asg1 {S : Sc} {n : Nat} {e : Expr} {c : Pat} (h : cP S n e = some c) (es : List Expr) (env : Env) : assignEach (e :: es) env = (false, assign e env) :: assignEach es env := by
  cases e <;> first | rfl | (rw [cP_star] at h; cases h)
section
variable {X : Cx} {S : Sc} {W : WX}
theorem pg_aux (k : Ok X S W) : ∀ n : Nat, (∀ tg p, cP S n tg = some p → PG X tg (gOf X.K p)) ∧ (∀ es ps, cPs S n es = some ps → PGs X es (gsOf X.K ps) ∧ (assignEach es X.env).length = ps.length ∧ (assignEach es X.env).findIdx? (·.1) = none) := by
  intro n
  induction n with
  | zero =>
    refine ⟨fun tg p h => by simp [cP] at h, fun es ps h => ?_⟩
    cases es with
    | nil => simp only [cPs, Option.some.injEq] at h; subst h; exact ⟨pgs_nil, rfl, rfl⟩
    | cons e es => simp [cPs] at h
  | succ n ih =>
    refine ⟨fun tg p h => ?_, fun es ps h => ?_⟩
    · cases tg with
      | Name x pos =>
        simp only [cP, Option.map_eq_some_iff] at h
        obtain ⟨i, h1, rfl⟩ := h
        obtain ⟨a, b, c⟩ := k.store h1
        exact pg_name k.nd a b c
      | Tuple es kk pos =>
        simp only [cP, Option.map_eq_some_iff] at h
        obtain ⟨ps, h1, rfl⟩ := h
        obtain ⟨a, b, c⟩ := ih.2 es ps h1
        exact pg_tup k.calm a b c
      | _ => simp [cP] at h
    · cases es with
      | nil => simp only [cPs, Option.some.injEq] at h; subst h; exact ⟨pgs_nil, rfl, rfl⟩
      | cons e es =>
        simp only [cPs] at h
        split at h
        · rename_i p ps' h1 h2
          cases h
          obtain ⟨a, b, c⟩ := ih.2 es ps' h2
          refine ⟨pgs_cons (ih.1 e p h1) a (by rw [asg1 h1]; rfl), ?_, ?_⟩
          · rw [asg1 h1]; simp [b]
          · rw [asg1 h1, List.findIdx?_cons]; simp [c]
        · cases h
theorem pg_of (k : Ok X S W) {n : Nat} {tg : Expr} {p : Pat} (h : cP S n tg = some p) : PG X tg (gOf X.K p) := (pg_aux k n).1 tg p h
end

/-! ### operations -/
section
variable {X : Cx} {S : Sc} {W : WX} {O : Orc} {ρ : List Sl} {a b e : Expr} {m m1 m2 : Md} {d d1 d2 : D} {r : Rv} {pos : Pos}
theorem fv_eq {d : D} {r : Rv} (h : fv d = some r) : r = .v .f d := by cases h; rfl
theorem dpow {n : Nat} (h : n < big200) : n < 2 ^ 2000 := h
theorem binI_ok {o : BO} {op : Operator} (ho : cBO op = some o) {i j n : Int} (h : binI o i j = some n) : ∃ rr, OpR X (binaryOp op) rr ∧ Op2 X.K rr (.int i) (.int j) .f (.int n) := by
  cases op <;> first | (simp [cBO] at ho; done) | skip
  all_goals (simp only [cBO, Option.some.injEq] at ho; subst ho; simp only [binI] at h)
  · cases h; exact ⟨_, op_add, o_i⟩
  · cases h; exact ⟨_, op_sub, o_i⟩
  · split at h
    · rename_i c
      cases h
      exact ⟨_, op_mulW, o_ic (wide_mul (dpow c.1) (dpow c.2) (by omega) (by omega) (by omega))⟩
    · cases h
  · split at h
    · rename_i c; cases h; exact ⟨_, op_mod, o_ic c⟩
    · cases h
  · split at h
    · rename_i c; cases h; exact ⟨_, op_pow, o_ic c⟩
    · cases h
  · split at h
    · rename_i c; cases h; exact ⟨_, op_fdivW, o_ic (wide_div c.1 (dpow c.2) (by omega) (by omega))⟩
    · cases h
theorem bin_any {o : BO} {op : Operator} (ho : cBO op = some o) : ∃ rr, OpR X (binaryOp op) rr := by
  cases op <;> first | (simp [cBO] at ho; done) | skip
  · exact ⟨_, op_add⟩
  · exact ⟨_, op_sub⟩
  · exact ⟨_, op_mulW⟩
  · exact ⟨_, op_mod⟩
  · exact ⟨_, op_pow⟩
  · exact ⟨_, op_fdivW⟩
theorem binD_ok {o : BO} {op : Operator} (ho : cBO op = some o) (ha : EE X.K (eB X a) ρ m1 d1) (hb : EE X.K (eB X b) ρ m2 d2) (h : binD o m1 d1 m2 d2 = some r) : RvOk X.K W (eB X (.BinOp a op b pos)) ρ r := by
  unfold binD at h
  split at h
  · simp only [Option.bind_eq_some_iff] at h
    obtain ⟨n, h1, h2⟩ := h
    have := fv_eq h2
    subst this
    obtain ⟨rr, p, q⟩ := binI_ok (X := X) ho h1
    exact ee_B (pe_op p pe_B pe_B) (e_op ha hb q)
  · split at h
    · rename_i c
      cases h
      obtain ⟨rfl, c1, c2, c3⟩ := c
      have : op = .Add := by cases op <;> simp [cBO] at ho <;> rfl
      subst this
      exact ee_B (pe_op op_cat pe_B pe_B) (e_cat ha hb c1 c2 c3)
    · cases h
  · cases h
/-- two operands in a row -/
theorem ax2 {ra rb : Option Rv} {k : Md → D → Md → D → Option Rv} {ta tb te : TE} (ha : ∀ r, ra = some r → RvOk X.K W ta ρ r) (hb : ∀ r, rb = some r → RvOk X.K W tb ρ r)
    (hxl : ∀ x, XX X.K ta ρ W x → XX X.K te ρ W x) (hxr : ∀ m d x, EE X.K ta ρ m d → XX X.K tb ρ W x → XX X.K te ρ W x)
    (hv : ∀ m1 d1 m2 d2, EE X.K ta ρ m1 d1 → EE X.K tb ρ m2 d2 → ∀ r, k m1 d1 m2 d2 = some r → RvOk X.K W te ρ r)
    (h : bv ra (fun m1 d1 => bv rb fun m2 d2 => k m1 d1 m2 d2) = some r) : RvOk X.K W te ρ r := by
  cases ra with
  | none => simp at h
  | some x =>
    cases x with
    | x e =>
      simp only [bv_x, Option.some.injEq] at h
      subst h
      exact hxl e (ha _ rfl)
    | v m1 d1 =>
      simp only [bv_v] at h
      cases rb with
      | none => simp at h
      | some y =>
        cases y with
        | x e =>
          simp only [bv_x, Option.some.injEq] at h
          subst h
          exact hxr m1 d1 e (ha _ rfl) (hb _ rfl)
        | v m2 d2 => exact hv m1 d1 m2 d2 (ha _ rfl) (hb _ rfl) r h
/-- one operand -/
theorem ax1 {ra : Option Rv} {k : Md → D → Option Rv} {ta te : TE} (ha : ∀ r, ra = some r → RvOk X.K W ta ρ r) (hx : ∀ x, XX X.K ta ρ W x → XX X.K te ρ W x)
    (hv : ∀ m d, EE X.K ta ρ m d → ∀ r, k m d = some r → RvOk X.K W te ρ r) (h : bv ra k = some r) : RvOk X.K W te ρ r := by
  cases ra with
  | none => simp at h
  | some x =>
    cases x with
    | x e =>
      simp only [bv_x, Option.some.injEq] at h
      subst h
      exact hx e (ha _ rfl)
    | v m d => exact hv m d (ha _ rfl) r h
theorem cmp_any {o : CO} {op : CmpOp} (ho : cCO op = some o) : ∃ rr, OpR X (compareOp op) rr := by
  cases op <;> first | (simp [cCO] at ho; done) | skip
  · exact ⟨_, op_eq⟩
  · exact ⟨_, op_ne⟩
  · exact ⟨_, op_lt⟩
  · exact ⟨_, op_le⟩
  · exact ⟨_, op_gt⟩
  · exact ⟨_, op_ge⟩
  · exact ⟨_, op_isN⟩
  · exact ⟨_, op_notN⟩
theorem cmp_mark {o : CO} {op : CmpOp} (ho : cCO op = some o) (b : Expr) : behindInMarks op b = false := nobehind b (by intro h; subst h; simp [cCO] at ho) (by intro h; subst h; simp [cCO] at ho)
theorem cmpI_ok {o : CO} {op : CmpOp} (ho : cCO op = some o) {i j : Int} {c : Bool} (h : cmpI o i j = some c) : ∃ rr, OpR X (compareOp op) rr ∧ Op2 X.K rr (.int i) (.int j) .f (.bl c) := by
  cases op <;> first | (simp [cCO] at ho; done) | skip
  all_goals (simp only [cCO, Option.some.injEq] at ho; subst ho; simp only [cmpI] at h; try cases h)
  · exact ⟨_, op_eq, o_eqI⟩
  · exact ⟨_, op_ne, o_neI⟩
  · exact ⟨_, op_lt, o_b⟩
  · exact ⟨_, op_le, o_b⟩
  · exact ⟨_, op_gt, o_b⟩
  · exact ⟨_, op_ge, o_b⟩
theorem o_isN {a : D} : Op2 X.K (fun x y H Q => y = .non ∧ Q (.bl (decide (x = .non))) H) a .non .f (.bl (match a with | .non => true | _ => false)) := fun B F H x y eb ef dx dy Q q => by
  refine ⟨dy.non_inv, q _ F H (Grow.refl ef) ?_⟩
  cases a with
  | non => rw [dx.non_inv]; exact Dt.bl true
  | bl b => rw [dx.bl_inv]; exact Dt.bl false
  | int b => rw [dx.int_inv]; exact Dt.bl false
  | str b => rw [dx.str_inv]; exact Dt.bl false
  | lst ds => obtain ⟨p, xs, rfl, _⟩ := dx.lst_inv (Ex.refl _) ef; exact Dt.bl false
  | tup ds => obtain ⟨p, xs, rfl, _⟩ := dx.tup_inv (Ex.refl _) ef; exact Dt.bl false
  | scr ns => obtain ⟨p, rfl, _⟩ := dx.scr_inv ef; exact Dt.bl false
  | obj _ _ _ => obtain ⟨p, _, _, rfl, _⟩ := dx.obj_inv; exact Dt.bl false
  | dic _ _ => obtain ⟨p, _, rfl, _⟩ := dx.dic_inv (Ex.refl _) ef; exact Dt.bl false
theorem o_notN {a : D} : Op2 X.K (fun x y H Q => y = .non ∧ Q (.bl (!decide (x = .non))) H) a .non .f (.bl (match a with | .non => false | _ => true)) := fun B F H x y eb ef dx dy Q q => by
  refine ⟨dy.non_inv, q _ F H (Grow.refl ef) ?_⟩
  cases a with
  | non => rw [dx.non_inv]; exact Dt.bl false
  | bl b => rw [dx.bl_inv]; exact Dt.bl true
  | int b => rw [dx.int_inv]; exact Dt.bl true
  | str b => rw [dx.str_inv]; exact Dt.bl true
  | lst ds => obtain ⟨p, xs, rfl, _⟩ := dx.lst_inv (Ex.refl _) ef; exact Dt.bl true
  | tup ds => obtain ⟨p, xs, rfl, _⟩ := dx.tup_inv (Ex.refl _) ef; exact Dt.bl true
  | scr ns => obtain ⟨p, rfl, _⟩ := dx.scr_inv ef; exact Dt.bl true
  | obj _ _ _ => obtain ⟨p, _, _, rfl, _⟩ := dx.obj_inv; exact Dt.bl true
  | dic _ _ => obtain ⟨p, _, rfl, _⟩ := dx.dic_inv (Ex.refl _) ef; exact Dt.bl true
theorem o_isB {i j : Bool} : Op2 X.K rIsB (.bl i) (.bl j) .f (.bl (decide (i = j))) := o_pl rfl fun F H x y dx dy Q q => ⟨i, j, dx.bl_inv, dy.bl_inv, q _ (.bl _)⟩
theorem o_notB {i j : Bool} : Op2 X.K rNotB (.bl i) (.bl j) .f (.bl (!decide (i = j))) := o_pl rfl fun F H x y dx dy Q q => ⟨i, j, dx.bl_inv, dy.bl_inv, q _ (.bl _)⟩
def opOf : CO → CmpOp
  | .lt => .Lt | .le => .LtE | .gt => .Gt | .ge => .GtE | .eq => .Eq | .ne => .NotEq | .is => .Is | .isnot => .IsNot | .isin => .In | .notin => .NotIn
theorem cCO_is {op : CmpOp} {o : CO} (h : cCO op = some o) : op = opOf o := by
  cases op <;> simp [cCO] at h <;> subst h <;> rfl
theorem cmpD_ok (k : Ok X S W) {o : CO} {op : CmpOp} (ho : cCO op = some o) {c : Bool} (h : cmpD o d1 d2 = some c) : ∃ rr, OpR X (compareOp op) rr ∧ Op2 X.K rr d1 d2 .f (.bl c) := by
  have hop := cCO_is ho
  unfold cmpD at h
  split at h
  · exact cmpI_ok ho h
  · cases o <;> simp only [Option.some.injEq] at h <;> first | (cases h; done) | (subst h; subst hop)
    · exact ⟨_, op_eq, o_eqB⟩
    · exact ⟨_, op_ne, o_neB⟩
    · exact ⟨_, op_isBl, o_isB⟩
    · exact ⟨_, op_notBl, o_notB⟩
  · cases o <;> simp only [Option.some.injEq] at h <;> first | (cases h; done) | (subst h; subst hop)
    · exact ⟨_, op_eq, o_eqS⟩
    · exact ⟨_, op_ne, o_neS⟩
  · split at h
    · cases h; subst hop; exact ⟨_, op_isN, o_isN⟩
    · cases h; subst hop; exact ⟨_, op_notN, o_notN⟩
    · split at h
      · rename_i c; cases h; subst hop; exact ⟨_, op_eqD k.un, o_eqD c.1 c.2⟩
      · cases h
    · split at h
      · rename_i c; cases h; subst hop; exact ⟨_, op_neD k.un, o_neD c.1 c.2⟩
      · cases h
    · cases h
theorem ee_nrm {t : TE} (h : EE X.K t ρ m d) : RvOk X.K W t ρ (.v (nrm m d) d) := h.nrm
theorem ixD_ok {i : Int} (ha : EE X.K (eB X a) ρ m1 d1) (hb : EE X.K (eB X b) ρ m2 (.int i)) (hp : PlainIx b) (h : ixD m1 d1 i = some r) : RvOk X.K W (eB X (.Subscript a b pos)) ρ r := by
  unfold ixD at h
  split at h
  · simp only [Option.map_eq_some_iff] at h
    obtain ⟨e, h1, rfl⟩ := h
    exact ee_nrm (ee_B (pe_ix ix_list pe_B pe_B hp) (e_ixL ha hb h1))
  · simp only [Option.map_eq_some_iff] at h
    obtain ⟨e, h1, rfl⟩ := h
    exact ee_nrm (ee_B (pe_ix ix_tup pe_B pe_B hp) (e_ixT ha hb h1))
  · simp only [Option.map_eq_some_iff] at h
    obtain ⟨e, h1, rfl⟩ := h
    exact ee_B (pe_ix ix_list pe_B pe_B hp) (e_ixS ha hb h1)
  · cases h
end
end QL

end
section
set_option maxRecDepth 100000
set_option maxHeartbeats 4000000
namespace QL
open PySem PySem.Spec PyProof.Rows L2 Evl
section
variable {X : Cx} {S : Sc} {W : WX} {O : Orc} {ρ : List Sl} {a b e : Expr} {m m1 m2 : Md} {d d1 d2 : D} {r : Rv} {pos p : Pos} {ds : List D}
theorem intsOf_eq : ∀ {ds : List D} {ns : List Int}, intsOf ds = some ns → ds = ns.map .int
  | [], ns, h => by cases h; rfl
  | d :: ds, ns, h => by
    cases d <;> simp only [intsOf] at h <;> try cases h
    rename_i i
    simp only [Option.map_eq_some_iff] at h
    obtain ⟨ms, h1, rfl⟩ := h
    rw [intsOf_eq h1]; rfl
theorem blsOf_eq : ∀ {ds : List D} {ns : List Bool}, blsOf ds = some ns → ds = ns.map .bl
  | [], ns, h => by cases h; rfl
  | d :: ds, ns, h => by
    cases d <;> simp only [blsOf] at h <;> try cases h
    rename_i i
    simp only [Option.map_eq_some_iff] at h
    obtain ⟨ms, h1, rfl⟩ := h
    rw [blsOf_eq h1]; rfl
theorem immA_ints : ∀ ns : List Int, immA (ns.map .int) = true
  | [] => rfl
  | _ :: r => by show (imm _ && immA (r.map .int)) = true; rw [immA_ints r]; rfl
theorem immA_bls : ∀ ns : List Bool, immA (ns.map .bl) = true
  | [] => rfl
  | _ :: r => by show (imm _ && immA (r.map .bl)) = true; rw [immA_bls r]; rfl
theorem DtA.bls_inv {K : PySem.W.Frag} {H : Hp} : ∀ {vs : List V} {ns : List Bool}, DtA K H vs (ns.map D.bl) → vs = ns.map V.bl
  | _, [], h => by cases h; rfl
  | _, n :: r, h => by
    cases h with
    | cons a b =>
      cases a
      rw [DtA.bls_inv b]
      rfl
theorem sq_ints {K : PySem.W.Frag} {H F : Hp} {xs : List V} {ns : List Int} (ef : Ex F H) (h : DtMA K H F xs [.lst (ns.map .int)]) : ∃ p, xs = [.ref p] ∧ SqL K H p (ns.map V.int) := by
  obtain ⟨v, rfl, dv⟩ := h.inv1
  obtain ⟨p, ys, rfl, h1, h2⟩ := dv.lst_inv (Ex.refl _) ef
  rw [(h2.imm (immA_ints ns)).ints_inv] at h1
  exact ⟨p, rfl, .inl (.inl h1)⟩
theorem sq_bls {K : PySem.W.Frag} {H F : Hp} {xs : List V} {ns : List Bool} (ef : Ex F H) (h : DtMA K H F xs [.lst (ns.map .bl)]) : ∃ p, xs = [.ref p] ∧ SqL K H p (ns.map V.bl) := by
  obtain ⟨v, rfl, dv⟩ := h.inv1
  obtain ⟨p, ys, rfl, h1, h2⟩ := dv.lst_inv (Ex.refl _) ef
  rw [(h2.imm (immA_bls ns)).bls_inv] at h1
  exact ⟨p, rfl, .inl (.inl h1)⟩
theorem oa_sum {ns : List Int} : OpA X.K (rSum X.K) [.lst (ns.map .int)] .f (.int ns.sum) := fun B F H xs eb ef h Q q => by
  obtain ⟨p, rfl, h1⟩ := sq_ints ef h
  exact ⟨p, ns, rfl, h1, q _ F H (Grow.refl ef) (Dt.int _)⟩
theorem oa_any {ns : List Bool} : OpA X.K (rAny X.K) [.lst (ns.map .bl)] .f (.bl (ns.any id)) := fun B F H xs eb ef h Q q => by
  obtain ⟨p, rfl, h1⟩ := sq_bls ef h
  exact ⟨p, ns, rfl, h1, q _ F H (Grow.refl ef) (Dt.bl _)⟩
theorem oa_all {ns : List Bool} : OpA X.K (rAll X.K) [.lst (ns.map .bl)] .f (.bl (ns.all id)) := fun B F H xs eb ef h Q q => by
  obtain ⟨p, rfl, h1⟩ := sq_bls ef h
  exact ⟨p, ns, rfl, h1, q _ F H (Grow.refl ef) (Dt.bl _)⟩
theorem maxI_spec : ∀ (r : List Int) (a : Int), maxI a r ∈ a :: r ∧ ∀ y ∈ a :: r, y ≤ maxI a r
  | [], a => ⟨List.mem_cons_self, fun y h => by simp at h; subst h; exact Int.le_refl _⟩
  | b :: r, a => by
    obtain ⟨h1, h2⟩ := maxI_spec r (if b > a then b else a)
    have hb : b ≤ (if b > a then b else a) := by split <;> omega
    have ha : a ≤ (if b > a then b else a) := by split <;> omega
    show maxI (if b > a then b else a) r ∈ _ ∧ ∀ y ∈ _, y ≤ maxI (if b > a then b else a) r
    refine ⟨?_, fun y hy => ?_⟩
    · rcases List.mem_cons.mp h1 with h | h
      · rw [h]; split <;> simp
      · simp [h]
    · have h0 := h2 _ List.mem_cons_self
      rcases List.mem_cons.mp hy with rfl | hy
      · omega
      · rcases List.mem_cons.mp hy with rfl | hy
        · omega
        · exact h2 y (List.mem_cons_of_mem _ hy)
theorem minI_spec : ∀ (r : List Int) (a : Int), minI a r ∈ a :: r ∧ ∀ y ∈ a :: r, minI a r ≤ y
  | [], a => ⟨List.mem_cons_self, fun y h => by simp at h; subst h; exact Int.le_refl _⟩
  | b :: r, a => by
    obtain ⟨h1, h2⟩ := minI_spec r (if b < a then b else a)
    have hb : (if b < a then b else a) ≤ b := by split <;> omega
    have ha : (if b < a then b else a) ≤ a := by split <;> omega
    show minI (if b < a then b else a) r ∈ _ ∧ ∀ y ∈ _, minI (if b < a then b else a) r ≤ y
    refine ⟨?_, fun y hy => ?_⟩
    · rcases List.mem_cons.mp h1 with h | h
      · rw [h]; split <;> simp
      · simp [h]
    · have h0 := h2 _ List.mem_cons_self
      rcases List.mem_cons.mp hy with rfl | hy
      · omega
      · rcases List.mem_cons.mp hy with rfl | hy
        · omega
        · exact h2 y (List.mem_cons_of_mem _ hy)
theorem oa_maxL {a : Int} {r : List Int} : OpA X.K (rMax X.K) [.lst ((a :: r).map .int)] .f (.int (maxI a r)) := fun B F H xs eb ef h Q q => by
  obtain ⟨p, rfl, h1⟩ := sq_ints ef h
  obtain ⟨s1, s2⟩ := maxI_spec r a
  refine ⟨p, a :: r, rfl, h1, by simp, fun mm h2 h3 => ?_⟩
  have : mm = maxI a r := Int.le_antisymm (s2 mm h2) (h3 _ s1)
  rw [this]
  exact q _ F H (Grow.refl ef) (Dt.int _)
theorem oa_minL {a : Int} {r : List Int} : OpA X.K (rMin X.K) [.lst ((a :: r).map .int)] .f (.int (minI a r)) := fun B F H xs eb ef h Q q => by
  obtain ⟨p, rfl, h1⟩ := sq_ints ef h
  obtain ⟨s1, s2⟩ := minI_spec r a
  refine ⟨p, a :: r, rfl, h1, by simp, fun mm h2 h3 => ?_⟩
  have : mm = minI a r := Int.le_antisymm (h3 _ s1) (s2 mm h2)
  rw [this]
  exact q _ F H (Grow.refl ef) (Dt.int _)
theorem oa_max {i k : Int} : OpA X.K (fun xs H Q => ∃ i j, xs = [.int i, .int j] ∧ Q (.int (if j > i then j else i)) H) [.int i, .int k] .f (.int (max i k)) := fun B F H xs _ ef h Q q => by
  obtain ⟨v, v', rfl, dv, dw⟩ := h.inv2
  refine ⟨i, k, by rw [dv.int_inv, dw.int_inv], q _ F H (Grow.refl ef) ?_⟩
  have e : (if k > i then k else i) = max i k := by
    rw [Int.max_def]; split <;> split <;> omega
  rw [e]; exact Dt.int _
theorem oa_min {i k : Int} : OpA X.K (fun xs H Q => ∃ i j, xs = [.int i, .int j] ∧ Q (.int (if j < i then j else i)) H) [.int i, .int k] .f (.int (min i k)) := fun B F H xs _ ef h Q q => by
  obtain ⟨v, v', rfl, dv, dw⟩ := h.inv2
  refine ⟨i, k, by rw [dv.int_inv, dw.int_inv], q _ F H (Grow.refl ef) ?_⟩
  have e : (if k < i then k else i) = min i k := by
    rw [Int.min_def]; split <;> split <;> omega
  rw [e]; exact Dt.int _
/-- a name of a built-in -/
theorem Ok.bl (k : Ok X S W) {x : Str} (h : S.gl x = true) (hd : x ∉ S.defs) (hb : x ∈ bNames) : Gl X x ∧ X.mg x = none := ⟨k.gl h, k.blt x hb hd⟩
/-- f(a) of a built-in function -/
theorem ax_b1 (k : Ok X S W) {f : Str} {g : B1} (hg : cB1 f = some g) (hl : S.gl f = true) (hd : f ∉ S.defs) (hs : starEach [a] X.env = (false, eval a X.env) :: starEach [] X.env)
    (ha : EE X.K (eB X a) ρ m d) (h : b1D g m d = some r) : RvOk X.K W (eB X (.Call (.Name f p) [a] [] pos)) ρ r := by
  have pa : PA X [a] (tCons (eB X a) tNil) := pa_cons pe_B pa_nil hs
  have en := fun hb => k.bl hl hd hb
  unfold cB1 at hg
  split at hg
  · rename_i e; subst e; cases hg
    obtain ⟨g1, g2⟩ := en (by decide)
    simp only [b1D, Option.map_eq_some_iff] at h
    obtain ⟨n, h1, rfl⟩ := h
    exact ee_B (pe_callB call_len_seq g1 g2 PySem.boot_len pa (by decide) (by decide) hs rfl) (e_cb (ea_cons ha ea_nil) (oa_len h1))
  split at hg
  · rename_i e; subst e; cases hg
    obtain ⟨g1, g2⟩ := en (by decide)
    simp only [b1D] at h
    split at h
    · have := fv_eq h; subst this
      exact ee_B (pe_callTy call_int1 g1 g2 (by decide +kernel) pa (by decide) (by decide) hs rfl) (e_cb (ea_cons ha ea_nil) oa_int)
    · cases h
  split at hg
  · rename_i e; subst e; cases hg
    obtain ⟨g1, g2⟩ := en (by decide)
    simp only [b1D] at h
    split at h
    · simp only [Option.bind_eq_some_iff] at h
      obtain ⟨ns, h1, h2⟩ := h
      have := fv_eq h2; subst this
      have := intsOf_eq h1; subst this
      exact ee_B (pe_callB (cr_sum k.calm) g1 g2 (by decide +kernel) pa (by decide) (by decide) hs rfl) (e_cb (ea_cons ha ea_nil) oa_sum)
    · cases h
  split at hg
  · rename_i e; subst e; cases hg
    obtain ⟨g1, g2⟩ := en (by decide)
    simp only [b1D] at h
    split at h
    · simp only [Option.bind_eq_some_iff] at h
      obtain ⟨ns, h1, h2⟩ := h
      have := fv_eq h2; subst this
      have := blsOf_eq h1; subst this
      exact ee_B (pe_callB (cr_any k.calm) g1 g2 (by decide +kernel) pa (by decide) (by decide) hs rfl) (e_cb (ea_cons ha ea_nil) oa_any)
    · cases h
  split at hg
  · rename_i e; subst e; cases hg
    obtain ⟨g1, g2⟩ := en (by decide)
    simp only [b1D] at h
    split at h
    · simp only [Option.bind_eq_some_iff] at h
      obtain ⟨ns, h1, h2⟩ := h
      have := fv_eq h2; subst this
      have := blsOf_eq h1; subst this
      exact ee_B (pe_callB (cr_all k.calm) g1 g2 (by decide +kernel) pa (by decide) (by decide) hs rfl) (e_cb (ea_cons ha ea_nil) oa_all)
    · cases h
  split at hg
  · rename_i e; subst e; cases hg
    obtain ⟨g1, g2⟩ := en (by decide)
    simp only [b1D, Option.bind_eq_some_iff] at h
    obtain ⟨ds, h1, h2⟩ := h
    split at h2
    · rename_i c; cases h2
      exact ee_B (pe_callTy call_list_of g1 g2 (by decide +kernel) pa (by decide) (by decide) hs rfl) (e_list ha h1 c)
    · cases h2
      exact ee_B (pe_callTy call_list_of g1 g2 (by decide +kernel) pa (by decide) (by decide) hs rfl) (e_listH ha h1)
  split at hg
  · rename_i e; subst e; cases hg
    obtain ⟨g1, g2⟩ := en (by decide)
    simp only [b1D] at h
    split at h
    · split at h
      · rename_i c; cases h
        exact ee_B (pe_callTy call_tuple_of g1 g2 (by decide +kernel) pa (by decide) (by decide) hs rfl) (e_tupleL ha c)
      · cases h
    · cases h
      exact ee_nrm (ee_B (pe_callTy call_tuple_of g1 g2 (by decide +kernel) pa (by decide) (by decide) hs rfl) (e_tupleT ha))
    · cases h
      exact ee_B (pe_callTy call_tuple_of g1 g2 (by decide +kernel) pa (by decide) (by decide) hs rfl) (e_tupleS ha)
    · cases h
  split at hg
  · rename_i e; subst e; cases hg
    obtain ⟨g1, g2⟩ := en (by decide)
    simp only [b1D] at h
    split at h
    · simp only [Option.bind_eq_some_iff] at h
      obtain ⟨ns, h1, h2⟩ := h
      have := intsOf_eq h1; subst this
      cases ns with
      | nil => cases h2
      | cons x xs =>
        have := fv_eq h2; subst this
        exact ee_B (pe_callB (cr_max k.calm) g1 g2 (by decide +kernel) pa (by decide) (by decide) hs rfl) (e_cb (ea_cons ha ea_nil) oa_maxL)
    · cases h
  split at hg
  · rename_i e; subst e; cases hg
    obtain ⟨g1, g2⟩ := en (by decide)
    simp only [b1D] at h
    split at h
    · simp only [Option.bind_eq_some_iff] at h
      obtain ⟨ns, h1, h2⟩ := h
      have := intsOf_eq h1; subst this
      cases ns with
      | nil => cases h2
      | cons x xs =>
        have := fv_eq h2; subst this
        exact ee_B (pe_callB (cr_min k.calm) g1 g2 (by decide +kernel) pa (by decide) (by decide) hs rfl) (e_cb (ea_cons ha ea_nil) oa_minL)
    · cases h
  · cases hg
/-- .. raises where its argument does -/
theorem ax_b1X (k : Ok X S W) {f : Str} {g : B1} {x : Er} (hg : cB1 f = some g) (hl : S.gl f = true) (hd : f ∉ S.defs) (hs : starEach [a] X.env = (false, eval a X.env) :: starEach [] X.env)
    (ha : XX X.K (eB X a) ρ W x) : XX X.K (eB X (.Call (.Name f p) [a] [] pos)) ρ W x := by
  have pa : PA X [a] (tCons (eB X a) tNil) := pa_cons pe_B pa_nil hs
  have en := fun hb => k.bl hl hd hb
  have fin : ∀ {rr : List V → Hp → VK → Prop}, PE X (.Call (.Name f p) [a] [] pos) (tCB rr (tCons (eB X a) tNil)) → XX X.K (eB X (.Call (.Name f p) [a] [] pos)) ρ W x := fun h => xx_B h (xx_cb (xa_here ha))
  unfold cB1 at hg
  repeat' split at hg
  all_goals first | (cases hg; done) | skip
  all_goals (rename_i e; subst e; obtain ⟨g1, g2⟩ := en (by decide))
  · exact fin (pe_callB call_len_seq g1 g2 PySem.boot_len pa (by decide) (by decide) hs rfl)
  · exact fin (pe_callTy call_int1 g1 g2 (by decide +kernel) pa (by decide) (by decide) hs rfl)
  · exact fin (pe_callB (cr_sum k.calm) g1 g2 (by decide +kernel) pa (by decide) (by decide) hs rfl)
  · exact fin (pe_callB (cr_any k.calm) g1 g2 (by decide +kernel) pa (by decide) (by decide) hs rfl)
  · exact fin (pe_callB (cr_all k.calm) g1 g2 (by decide +kernel) pa (by decide) (by decide) hs rfl)
  · exact fin (pe_callTy call_list_of g1 g2 (by decide +kernel) pa (by decide) (by decide) hs rfl)
  · exact fin (pe_callTy call_tuple_of g1 g2 (by decide +kernel) pa (by decide) (by decide) hs rfl)
  · exact fin (pe_callB (cr_max k.calm) g1 g2 (by decide +kernel) pa (by decide) (by decide) hs rfl)
  · exact fin (pe_callB (cr_min k.calm) g1 g2 (by decide +kernel) pa (by decide) (by decide) hs rfl)
end
end QL

end
section
set_option maxRecDepth 100000
set_option maxHeartbeats 4000000
namespace QL
open PySem PySem.Spec PyProof.Rows L2 Evl
/-! ### compiled texts mean what they mean -/
structure Sound (O : Orc) (n : Nat) : Prop where
  E : ∀ {X : Cx} {S : Sc} {W : WX} {e : Expr} {c : CE}, Ok X S W → Calls X S O → cE S n e = some c → ∀ ρ r, evE O c ρ = some r → RvOk X.K W (eB X e) ρ r
  B : ∀ {X : Cx} {S : Sc} {W : WX} {op : BoolOp} {vs : List Expr} {c : CE} {pos : Pos}, Ok X S W → Calls X S O → cB S n op vs = some c → ∀ ρ r, evE O c ρ = some r → RvOk X.K W (eB X (.BoolOp op vs pos)) ρ r
  A : ∀ {X : Cx} {S : Sc} {W : WX} {es : List Expr} {cs : CEs}, Ok X S W → Calls X S O → cEs S n es = some cs → ∀ ρ, (∀ ms, evEs O cs ρ = some (.v ms) → EA X.K (aB X es) ρ (ms.map (·.2)) ∧ (allCf ms = true → EF X.K (aB X es) ρ (ms.map (·.2)))) ∧ (∀ x, evEs O cs ρ = some (.x x) → XA X.K (aB X es) ρ W x)
  C : ∀ {X : Cx} {S : Sc} {W : WX} {e : Expr} {c : CSrc}, Ok X S W → Calls X S O → cSrc S n e = some c → (∀ tg ρ st its, evSrc O c ρ = some (.v st its) → Src X.K (iB X tg e) ρ st its) ∧ ∀ env x, foldedSetIterable e env x = pure x
  T : ∀ {X : Cx} {S : Sc} {W : WX} {e : Expr} {c : CT}, Ok X S W → Calls X S O → cT S n e = some c → ∀ ρ b, evT O c ρ = some b → ET X.K (tB' X e) ρ b
  TB : ∀ {X : Cx} {S : Sc} {W : WX} {op : BoolOp} {vs : List Expr} {c : CT} {pos : Pos}, Ok X S W → Calls X S O → cTB S n op vs = some c → ∀ ρ b, evT O c ρ = some b → ∃ t, PW X (.BoolOp op vs pos) t ∧ ET X.K t ρ b
  Ts : ∀ {X : Cx} {S : Sc} {W : WX} {es : List Expr} {c : CT}, Ok X S W → Calls X S O → cTs S n es = some c → ∀ ρ b, evT O c ρ = some b → ET X.K (tsB X es) ρ b
  D : ∀ {X : Cx} {S : Sc} {W : WX} {a : Expr} {ops : List CmpOp} {cs : List Expr} {pos : Pos} {c : CE}, Ok X S W → Calls X S O → cE S n (.Compare a ops cs pos) = some c → ∀ ρ m d b, evE O c ρ = some (.v m d) → truthD d = some b → ET X.K (tB' X (.Compare a ops cs pos)) ρ b

section
variable {X : Cx} {S : Sc} {W : WX} {O : Orc} {n : Nat} {ρ : List Sl} {r : Rv}
/-- a source's results -/
theorem src_ok {e : Expr} {tg : Expr} {m : Md} {d : D} {st : Bool} {its : List Item} (h : EE X.K (eB X e) ρ m d) (hs : srcD m d = some (.v st its)) : Src X.K (iB X tg e) ρ st its := by
  unfold srcD at hs
  split at hs
  · cases hs; exact src_B (pi_list pe_B) (src_s h)
  · split at hs
    · rename_i hm; subst hm; cases hs
      exact src_B (pi_list pe_B) (src_l (by decide) h.fz)
    · rename_i hm; cases hs
      exact src_B (pi_list pe_B) (src_l hm h)
  · split at hs
    · cases hs
    · rename_i hm; cases hs
      exact src_B (pi_tup pe_B) (src_t hm h)
  · cases hs
theorem truth_ok {e : Expr} {m : Md} {d : D} {b : Bool} (hp : ∀ whole, isTrue e X.env whole = (do let v ← whole; standAt e.pos; holding [v] (truthy v))) (h : EE X.K (eB X e) ρ m d) (ht : truthD d = some b) : ET X.K (tB' X e) ρ b := by
  unfold truthD at ht
  split at ht
  · cases ht; exact et_B (pt_val pe_B hp) (t_val h)
  · cases ht; exact et_B (pt_truth pe_B hp) (t_lst h)
  · cases ht
/-- a comparison: its reading -/
theorem cmp_ok (s : Sound O n) (k : Ok X S W) (cl : Calls X S O) {a b : Expr} {op : CmpOp} {o : CO} {ca cb : CE} {m1 m2 : Md} {d1 d2 : D} {v : Bool} (ho : cCO op = some o) (ha : cE S n a = some ca) (hb : cE S n b = some cb)
    (h1 : evE O ca ρ = some (.v m1 d1)) (h2 : evE O cb ρ = some (.v m2 d2)) (h : cmpD o d1 d2 = some v) : ∃ rr, OpR X (compareOp op) rr ∧ EE X.K (tOp rr (eB X a) (eB X b)) ρ .f (.bl v) := by
  obtain ⟨rr, p, q⟩ := cmpD_ok k ho h
  exact ⟨rr, p, e_op (s.E k cl ha ρ _ h1) (s.E k cl hb ρ _ h2) q⟩
theorem lmark {o o' : CO} {op op' : CmpOp} (h : cCO op = some o) (h' : cCO op' = some o') (b c : Expr) : lastMarks [op, op'] [b, c] = false := by
  show lastMarks [op'] [c] = false
  exact cmp_mark h' c
theorem cmpI_rI {o : CO} {op : CmpOp} (ho : cCO op = some o) {i j : Int} {x : Bool} (h : cmpI o i j = some x) (hn : ¬ (o = .eq ∨ o = .ne)) : ∃ g : Int → Int → Bool, OpR X (compareOp op) (rI0 fun i j => .bl (g i j)) ∧ ∀ i j x, cmpI o i j = some x → x = g i j := by
  have hop := cCO_is ho
  cases o <;> simp only [cmpI] at h <;> first | (cases h; done) | skip
  · subst hop; exact ⟨fun i j => decide (i < j), op_lt, fun i j x h => by cases h; rfl⟩
  · subst hop; exact ⟨fun i j => decide (i ≤ j), op_le, fun i j x h => by cases h; rfl⟩
  · subst hop; exact ⟨fun i j => decide (j < i), op_gt, fun i j x h => by cases h; rfl⟩
  · subst hop; exact ⟨fun i j => decide (j ≤ i), op_ge, fun i j x h => by cases h; rfl⟩
  · exact absurd (.inl rfl) hn
  · exact absurd (.inr rfl) hn
theorem chain_ok (s : Sound O n) (k : Ok X S W) (cl : Calls X S O) {a b c : Expr} {op op' : CmpOp} {o o' : CO} {ca cb cc : CE} {m1 m2 m3 : Md} {i j l : Int} {x y : Bool} (ho : cCO op = some o) (ho' : cCO op' = some o') (ha : cE S n a = some ca) (hb : cE S n b = some cb) (hc : cE S n c = some cc)
    (h1 : evE O ca ρ = some (.v m1 (.int i))) (h2 : evE O cb ρ = some (.v m2 (.int j))) (h3 : evE O cc ρ = some (.v m3 (.int l))) (hx : cmpI o i j = some x) (hy : cmpI o' j l = some y) (hn : ¬ (o = .eq ∨ o = .ne ∨ o' = .eq ∨ o' = .ne)) :
    ∃ rr rr', OpR X (compareOp op) rr ∧ OpR X (compareOp op') rr' ∧ EE X.K (tChain rr rr' (eB X a) (eB X b) (eB X c)) ρ .f (.bl (x && y)) := by
  obtain ⟨g, p, q⟩ := cmpI_rI (X := X) ho hx (fun z => hn (z.elim .inl fun z => .inr (.inl z)))
  obtain ⟨g', p', q'⟩ := cmpI_rI (X := X) ho' hy (fun z => hn (.inr (.inr z)))
  refine ⟨_, _, p, p', ?_⟩
  rw [q _ _ _ hx, q' _ _ _ hy]
  exact e_chain (s.E k cl ha ρ _ h1) (s.E k cl hb ρ _ h2) (s.E k cl hc ρ _ h3)
end
theorem blk_vs {N : List Str} {p : Pat} : (p.vars.map fun i => (N.getD i "", i)).map (·.2) = p.vars := by
  rw [List.map_map]
  exact List.map_id' _
theorem blk_vs2 {N : List Str} {vs : List Nat} : (vs.map fun i => (N.getD i "", i)).map (·.2) = vs := by
  rw [List.map_map]
  exact List.map_id' _
/-! the inside of a comprehension, whatever its block -/
section
variable (X : Cx) (scope : Scope)
abbrev bx (s : Shared) (H : Hp) (C : Addr) (cl : List (Str × Addr)) (fp : List Addr) : Cx := X.blk s H scope (compEnvC scope cl C X.env) fp
def bE (e : Expr) : TE := fun σ H Q => ∀ s H' C cl fp, eB (bx X scope s H' C cl fp) e σ H Q
def bT (es : List Expr) : TT := fun σ H Q => ∀ s H' C cl fp, tsB (bx X scope s H' C cl fp) es σ H Q
def bI (tg e : Expr) : TI := fun σ H R => ∀ s H' C cl fp, iB (bx X scope s H' C cl fp) tg e σ H R
end
section
variable {X : Cx} {S : Sc} {W : WX} {O : Orc} {n : Nat} {ρ : List Sl} {scope : Scope}
theorem pe_bE {e : Expr} (s : Shared) (H' : Hp) (C : Addr) (cl : List (Str × Addr)) (fp : List Addr) : PE (bx X scope s H' C cl fp) e (bE X scope e) := ⟨fun pins st σ H Q I h => pe_B.run pins st σ H Q I (h s H' C cl fp)⟩
theorem pts_bT {es : List Expr} (s : Shared) (H' : Hp) (C : Addr) (cl : List (Str × Addr)) (fp : List Addr) : PTs (bx X scope s H' C cl fp) es (bT X scope es) := ⟨fun pins st σ H Q I h => pts_B.run pins st σ H Q I (h s H' C cl fp)⟩
theorem pi_bI {tg e : Expr} (s : Shared) (H' : Hp) (C : Addr) (cl : List (Str × Addr)) (fp : List Addr) : PI (bx X scope s H' C cl fp) tg e (bI X scope tg e) := ⟨fun pins st σ H R I h => pi_B.run pins st σ H R I (h s H' C cl fp)⟩
theorem ee_bE {e : Expr} {m : Md} {d : D} (h : ∀ s H' C cl fp, EE X.K (eB (bx X scope s H' C cl fp) e) ρ m d) : EE X.K (bE X scope e) ρ m d := fun B F H σ ev Q q s H' C cl fp => h s H' C cl fp B F H σ ev Q q
theorem et_bT {es : List Expr} {b : Bool} (h : ∀ s H' C cl fp, ET X.K (tsB (bx X scope s H' C cl fp) es) ρ b) : ET X.K (bT X scope es) ρ b := fun B F H σ ev Q q s H' C cl fp => h s H' C cl fp B F H σ ev Q q
theorem src_bI {tg e : Expr} {st : Bool} {its : List Item} (h : ∀ s H' C cl fp, Src X.K (iB (bx X scope s H' C cl fp) tg e) ρ st its) : Src X.K (bI X scope tg e) ρ st its := fun B F H σ ev R q s H' C cl fp => h s H' C cl fp B F H σ ev R q
/-- the clause's results -/
theorem lcGo_ok (so : Sound O n) (k : Ok X S W) (cl : Calls X S O) {ifs : List Expr} {elt : Expr} {t : CT} {e : CE} {pt : Pat} {ρ0 : List Sl} (ht : cTs (S.blk scope) n ifs = some t) (he : cE (S.blk scope) n elt = some e) (fz : Bool) :
    ∀ {its : List Item} {r : List (Md × D)}, lcGo (fun it => (bindP pt ρ0 it).bind fun ρ1 => (evT O t ρ1).bind fun c => if c = true then (match evE O e ρ1 with | some (.v m d) => some [(m, d)] | _ => none) else some []) its = some r →
      (∀ x ∈ r, okm fz x.1 x.2 = true) → LcR X.K pt ρ0 (bT X scope ifs) (bE X scope elt) fz its (r.map (·.2))
  | [], r, h, _ => by
    simp only [lcGo, Option.some.injEq] at h
    subst h; exact .nil
  | it :: its, r, h, hr => by
    simp only [lcGo, Option.bind_eq_some_iff, Option.map_eq_some_iff] at h
    obtain ⟨y, ⟨ρ1, h1, c, h2, h3⟩, ys, h4, rfl⟩ := h
    have ih := lcGo_ok so k cl ht he fz h4 fun x hx => hr x (List.mem_append_right _ hx)
    have tst : ET X.K (bT X scope ifs) ρ1 c := et_bT fun s H' C cl' fp => so.Ts (k.blk s H' scope C cl' fp) (cl.blk s H' scope _ fp) ht ρ1 c h2
    cases c with
    | true =>
      rw [if_pos rfl] at h3
      split at h3
      · rename_i m d h5
        cases h3
        exact .yes h1 tst (ee_bE fun s H' C cl' fp => so.E (k.blk s H' scope C cl' fp) (cl.blk s H' scope _ fp) he ρ1 _ h5) (hr (m, d) (by simp)) ih
      · cases h3
    | false =>
      rw [if_neg Bool.false_ne_true] at h3
      cases h3
      exact .no h1 tst ih
theorem lcGo2_ok (so : Sound O n) (k : Ok X S W) (cl : Calls X S O) {ifs ifs1 : List Expr} {elt iter1 tg1 : Expr} {t t1 : CT} {e : CE} {pt pt1 : Pat} {src1 : CSrc} {vs1 : List Nat} {ρ0 : List Sl} (ht : cTs (S.blk scope) n ifs = some t) (hs : cSrc (S.blk scope) n iter1 = some src1) (ht1 : cTs (S.blk scope) n ifs1 = some t1) (he : cE (S.blk scope) n elt = some e) (fz : Bool) :
    ∀ {its : List Item} {r : List (Md × D)}, lcGo (fun it => (bindP pt ρ0 it).bind fun ρ1 => (evT O t ρ1).bind fun c => if c = true then
        ((evSrc O src1 ρ1).bind fun r1 => match r1 with
          | .v true its1 => lcGo (fun it1 => (bindP pt1 (wipeR ρ1 vs1) it1).bind fun ρ2 => (evT O t1 ρ2).bind fun c1 => if c1 = true then (match evE O e ρ2 with | some (.v m d) => some [(m, d)] | _ => none) else some []) its1
          | _ => none) else some []) its = some r →
      (∀ x ∈ r, okm fz x.1 x.2 = true) → LcR2 X.K pt ρ0 (bT X scope ifs) (bI X scope tg1 iter1) pt1 vs1 (bT X scope ifs1) (bE X scope elt) fz its (r.map (·.2))
  | [], r, h, _ => by
    simp only [lcGo, Option.some.injEq] at h
    subst h; exact .nil
  | it :: its, r, h, hr => by
    simp only [lcGo, Option.bind_eq_some_iff, Option.map_eq_some_iff] at h
    obtain ⟨y, ⟨ρ1, h1, c, h2, h3⟩, ys, h4, rfl⟩ := h
    have ih := lcGo2_ok (tg1 := tg1) so k cl ht hs ht1 he fz h4 fun x hx => hr x (List.mem_append_right _ hx)
    have tst : ET X.K (bT X scope ifs) ρ1 c := et_bT fun s H' C cl' fp => so.Ts (k.blk s H' scope C cl' fp) (cl.blk s H' scope _ fp) ht ρ1 c h2
    cases c with
    | true =>
      rw [if_pos rfl] at h3
      simp only [Option.bind_eq_some_iff] at h3
      obtain ⟨r1, h5, h6⟩ := h3
      split at h6
      · rename_i its1
        rw [List.map_append]
        exact .yes h1 tst (src_bI fun s H' C cl' fp => (so.C (k.blk s H' scope C cl' fp) (cl.blk s H' scope _ fp) hs).1 tg1 ρ1 _ _ h5) (lcGo_ok so k cl ht1 he fz h6 fun x hx => hr x (List.mem_append_left _ hx)) ih
      · cases h6
    | false =>
      rw [if_neg Bool.false_ne_true] at h3
      cases h3
      exact .no h1 tst ih
theorem allCf_all : ∀ {ms : List (Md × D)}, allCf ms = true → ∀ x ∈ ms, cf x.1 x.2 = true
  | [], _, x, h => by cases h
  | y :: ms, h, x, hx => by
    simp only [allCf, Bool.and_eq_true] at h
    rcases List.mem_cons.mp hx with rfl | hx
    · exact h.1
    · exact allCf_all h.2 x hx
/-- a comprehension -/
theorem lc_ok (so : Sound O n) (k : Ok X S W) (cl : Calls X S O) {tg iter elt : Expr} {ifs : List Expr} {pt : Pat} {src : CSrc} {t : CT} {e : CE} (hp : cP (S.blk scope) n tg = some pt) (hc : cSrc S n iter = some src) (ht : cTs (S.blk scope) n ifs = some t) (he : cE (S.blk scope) n elt = some e)
    {r : Rv} (h : evE O (.lc pt src t e pt.vars) ρ = some r) : ∃ m d, r = .v m d ∧ EE X.K (tLc (iB X tg iter) (gOf X.K pt) (bT X scope ifs) (bE X scope elt) pt.vars) ρ m d := by
  simp only [evE, Option.bind_eq_some_iff] at h
  obtain ⟨⟨st, its⟩, h1, r0, h2, h3⟩ := h
  have src := (so.C k cl hc).1 tg ρ st its h1
  unfold lcD at h3
  split at h3
  · rename_i hl
    split at h3
    · rename_i ca
      cases h3
      exact ⟨_, _, rfl, e_lc (fz := true) src (gp_of _ _) (fun i hi => hi) (lcGo_ok so k cl ht he true h2 fun x hx => by unfold okm; rw [allCf_all ca x hx]; rfl) (by rw [List.length_map]; exact hl)⟩
    · split at h3
      · rename_i ca
        cases h3
        exact ⟨_, _, rfl, e_lc (fz := false) src (gp_of _ _) (fun i hi => hi) (lcGo_ok so k cl ht he false h2 fun x hx => List.all_eq_true.mp ca x hx) (by rw [List.length_map]; exact hl)⟩
      · cases h3
  · cases h3
theorem lc2_ok (so : Sound O n) (k : Ok X S W) (cl : Calls X S O) {tg iter elt tg1 iter1 : Expr} {ifs ifs1 : List Expr} {pt pt1 : Pat} {src src1 : CSrc} {t t1 : CT} {e : CE} (hp : cP (S.blk scope) n tg = some pt) (hc : cSrc S n iter = some src) (ht : cTs (S.blk scope) n ifs = some t)
    (hp1 : cP (S.blk scope) n tg1 = some pt1) (hs : cSrc (S.blk scope) n iter1 = some src1) (ht1 : cTs (S.blk scope) n ifs1 = some t1) (he : cE (S.blk scope) n elt = some e)
    {r : Rv} (h : evE O (.lc2 pt src t pt1 src1 t1 pt1.vars e (pt.vars ++ pt1.vars)) ρ = some r) : ∃ m d, r = .v m d ∧ EE X.K (tLc2 (iB X tg iter) (gOf X.K pt) (bT X scope ifs) (bI X scope tg1 iter1) (gOf X.K pt1) (bT X scope ifs1) (bE X scope elt) (pt.vars ++ pt1.vars) pt1.vars) ρ m d := by
  simp only [evE, Option.bind_eq_some_iff] at h
  obtain ⟨⟨st, its⟩, h1, r0, h2, h3⟩ := h
  have src := (so.C k cl hc).1 tg ρ st its h1
  unfold lcD at h3
  split at h3
  · rename_i hl
    split at h3
    · rename_i ca
      cases h3
      exact ⟨_, _, rfl, e_lc2 (fz := true) src (gp_of _ _) (gp_of _ _) (fun i hi => List.mem_append_left _ hi) (fun i hi => hi) (lcGo2_ok so k cl ht hs ht1 he true h2 fun x hx => by unfold okm; rw [allCf_all ca x hx]; rfl) (by rw [List.length_map]; exact hl)⟩
    · split at h3
      · rename_i ca
        cases h3
        exact ⟨_, _, rfl, e_lc2 (fz := false) src (gp_of _ _) (gp_of _ _) (fun i hi => List.mem_append_left _ hi) (fun i hi => hi) (lcGo2_ok so k cl ht hs ht1 he false h2 fun x hx => List.all_eq_true.mp ca x hx) (by rw [List.length_map]; exact hl)⟩
      · cases h3
  · cases h3
end
end QL

end
section
set_option maxRecDepth 100000
set_option maxHeartbeats 4000000
namespace QL
open PySem PySem.Spec PyProof.Rows L2 Evl
section
variable {X : Cx} {S : Sc} {W : WX} {O : Orc} {n : Nat} {ρ : List Sl} {r : Rv}
theorem zero_sound (O : Orc) : Sound O 0 := by
  refine ⟨?_, ?_, ?_, ?_, ?_, ?_, ?_, ?_⟩
  · intro X S W e c _ _ h; simp [cE] at h
  · intro X S W op vs c pos _ _ h; simp [cB] at h
  · intro X S W es cs k cl h ρ
    cases es with
    | nil =>
      simp only [cEs, Option.some.injEq] at h; subst h
      exact ⟨fun ms h => by simp only [evEs, Option.some.injEq, Ra.v.injEq] at h; subst h; exact ⟨ea_B pa_nil ea_nil, fun _ => ef_B pa_nil ef_nil⟩, fun x h => by simp [evEs] at h⟩
    | cons e es => simp [cEs] at h
  · intro X S W e c _ _ h; simp [cSrc] at h
  · intro X S W e c _ _ h; simp [cT] at h
  · intro X S W op vs c pos _ _ h; simp [cTB] at h
  · intro X S W es c _ _ h ρ b hb
    cases es with
    | nil =>
      simp only [cTs, Option.some.injEq] at h; subst h
      simp only [evT, Option.some.injEq] at hb; subst hb
      exact ets_B pts_nil t_yes
    | cons e es => simp [cTs] at h
  · intro X S W a ops cs pos c _ _ h; simp [cE] at h
/-- arguments -/
theorem args_sound (s : Sound O n) {es : List Expr} {cs : CEs} (k : Ok X S W) (cl : Calls X S O) (h : cEs S (n + 1) es = some cs) (ρ : List Sl) : (∀ ms, evEs O cs ρ = some (.v ms) → EA X.K (aB X es) ρ (ms.map (·.2)) ∧ (allCf ms = true → EF X.K (aB X es) ρ (ms.map (·.2)))) ∧ (∀ x, evEs O cs ρ = some (.x x) → XA X.K (aB X es) ρ W x) := by
  cases es with
  | nil =>
    simp only [cEs, Option.some.injEq] at h; subst h
    exact ⟨fun ms h => by simp only [evEs, Option.some.injEq, Ra.v.injEq] at h; subst h; exact ⟨ea_B pa_nil ea_nil, fun _ => ef_B pa_nil ef_nil⟩, fun x h => by simp [evEs] at h⟩
  | cons e es =>
    simp only [cEs] at h
    split at h
    · rename_i c cs' h1 h2
      cases h
      have ih := s.A k cl h2 ρ
      have pa : PA X (e :: es) (tCons (eB X e) (aB X es)) := pa_cons pe_B pa_B (star1 h1 es X.env)
      refine ⟨fun ms hm => ?_, fun x hm => ?_⟩
      · simp only [evEs] at hm
        split at hm
        · rename_i m d he
          have hE := s.E k cl h1 ρ _ he
          simp only [Option.bind_eq_some_iff] at hm
          obtain ⟨ra, h3, h4⟩ := hm
          split at h4
          · rename_i ms'
            simp only [Option.some.injEq, Ra.v.injEq] at h4; subst h4
            obtain ⟨i1, i2⟩ := ih.1 ms' h3
            refine ⟨ea_B pa (ea_cons hE i1), fun hc => ?_⟩
            simp only [allCf, Bool.and_eq_true] at hc
            exact ef_B pa (ef_cons hc.1 hE (i2 hc.2))
          · simp at h4
        · simp at hm
        · simp at hm
      · simp only [evEs] at hm
        split at hm
        · rename_i m d he
          have hE := s.E k cl h1 ρ _ he
          simp only [Option.bind_eq_some_iff] at hm
          obtain ⟨ra, h3, h4⟩ := hm
          split at h4
          · simp at h4
          · rename_i x'
            simp only [Option.some.injEq, Ra.x.injEq] at h4; subst h4
            exact xa_B pa (xa_next hE (ih.2 x' h3))
        · rename_i x' he
          simp only [Option.some.injEq, Ra.x.injEq] at hm; subst hm
          exact xa_B pa (xa_here (s.E k cl h1 ρ _ he))
        · simp at hm
    · cases h
/-- a call of a def -/
theorem call_sound (s : Sound O n) {f : Str} {e : Expr} {es : List Expr} {cs : CEs} {p pos : Pos} (k : Ok X S W) (cl : Calls X S O) (hl : S.gl f = true) (hd : f ∈ S.defs) (hdb : (f == ("__debug__" : Str)) = false) (h : cEs S n (e :: es) = some cs) {r : Rv} (hr : evE O (.call f cs) ρ = some r) : RvOk X.K W (eB X (.Call (.Name f p) (e :: es) [] pos)) ρ r := by
  obtain ⟨i, hr0, hh⟩ := cl
  obtain ⟨ps, hx⟩ := hh f hd
  have hs : starEach (e :: es) X.env = (false, eval e X.env) :: starEach es X.env := by
    cases n with
    | zero => simp [cEs] at h
    | succ n =>
      simp only [cEs] at h
      split at h
      · rename_i c cs' h1 h2; exact star1 h1 es X.env
      · cases h
  have hpl : (backTo pos (starEach es X.env)).any (·.1) = false := by
    cases n with
    | zero => simp [cEs] at h
    | succ n =>
      simp only [cEs] at h
      split at h
      · rename_i c cs' h1 h2; exact starAll h2 pos X.env
      · cases h
  have pe := pe_callX (p := p) (pos := pos) hx hr0 (Nat.le_refl _) k.tk (k.gl hl) (pa_B (X := X) (es := e :: es)) hdb hs hpl
  obtain ⟨a1, a2⟩ := s.A k ⟨i, hr0, hh⟩ h ρ
  simp only [evE, Option.bind_eq_some_iff] at hr
  obtain ⟨ra, h1, h2⟩ := hr
  split at h2
  · rename_i ms
    split at h2
    · rename_i m d ho
      split at h2
      · rename_i hm
        simp only [Option.some.injEq] at h2; subst h2
        exact ee_B pe (e_callE (a1 ms h1).1 ho hm)
      · cases h2
    · rename_i x ho
      simp only [Option.some.injEq] at h2; subst h2
      exact xx_B pe (xx_callE (a1 ms h1).1 ho)
    · cases h2
  · rename_i x
    simp only [Option.some.injEq] at h2; subst h2
    exact xx_B pe (xx_callA (a2 x h1))
theorem str_dec {z : String} {T : Str} (h : decide (Str.ofString z = T) = true) : Str.ofString z = T := of_decide_eq_true h
end
end QL

end
section
set_option maxRecDepth 100000
set_option maxHeartbeats 8000000
namespace QL
open PySem PySem.Spec PyProof.Rows L2 Evl
section
variable {X : Cx} {S : Sc} {W : WX} {O : Orc} {n : Nat} {ρ : List Sl} {r : Rv}
theorem var_sound (k : Ok X S W) {x : Str} {pos : Pos} {i : Nat} (h : S.slot x = some i) (hr : varD ρ i = some r) : RvOk X.K W (eB X (.Name x pos)) ρ r := by
  obtain ⟨a, b, c, d⟩ := k.var h
  have pe : PE X (.Name x pos) (tVar i) := pe_var a b c d
  unfold varD at hr
  split at hr
  · rename_i d hs; cases hr; exact ee_B pe (e_var hs)
  · rename_i d hs; cases hr; exact ee_nrm (m := .b) (ee_B pe (e_var hs))
  · rename_i d hs; cases hr; exact ee_B pe (e_var hs)
  · rename_i d hs; cases hr; exact ee_B pe (e_var hs)
  · cases hr
theorem not_dbg (k : Ok X S W) {f : Str} (h : f ∈ S.defs) : (f == ("__debug__" : Str)) = false := by
  rw [beq_eq_false_iff_ne]
  intro z
  subst z
  exact k.dbg h
theorem b1_sound (s : Sound O n) (k : Ok X S W) (cl : Calls X S O) {f : Str} {a : Expr} {p pos : Pos} {g : B1} {ca : CE} (hl : S.gl f = true) (hd : f ∉ S.defs) (hg : cB1 f = some g) (ha : cE S n a = some ca) (hr : evE O (.b1 g ca) ρ = some r) : RvOk X.K W (eB X (.Call (.Name f p) [a] [] pos)) ρ r := by
  simp only [evE] at hr
  have hs := star1 ha [] X.env
  exact ax1 (fun r h => s.E k cl ha ρ r h) (fun x hx => ax_b1X k hg hl hd hs hx) (fun m d hm r hh => ax_b1 k hg hl hd hs hm hh) hr
def mm (g : B2) (i j : Int) : Int := match g with | .max => max i j | .min => min i j
theorem b2_sound (s : Sound O n) (k : Ok X S W) (cl : Calls X S O) {f : Str} {a b : Expr} {p pos : Pos} {g : B2} {ca cb : CE} (hl : S.gl f = true) (hd : f ∉ S.defs) (hg : cB2 f = some g) (ha : cE S n a = some ca) (hb : cE S n b = some cb) (hr : evE O (.b2 g ca cb) ρ = some r) : RvOk X.K W (eB X (.Call (.Name f p) [a, b] [] pos)) ρ r := by
  simp only [evE] at hr
  have hs := star1 ha [b] X.env
  have hs2 := star1 hb [] X.env
  have pa : PA X [a, b] (tCons (eB X a) (tCons (eB X b) tNil)) := pa_cons pe_B (pa_cons pe_B pa_nil hs2) hs
  have hpl : (backTo pos (starEach [b] X.env)).any (·.1) = false := by rw [hs2]; rfl
  obtain ⟨rr, pe, ho⟩ : ∃ rr, PE X (.Call (.Name f p) [a, b] [] pos) (tCB rr (tCons (eB X a) (tCons (eB X b) tNil))) ∧ ∀ i j : Int, OpA X.K rr [.int i, .int j] .f (.int (mm g i j)) := by
    unfold cB2 at hg
    split at hg
    · rename_i e; subst e; cases hg
      obtain ⟨g1, g2⟩ := k.bl hl hd (by decide)
      exact ⟨_, pe_callB (call_max2 k.calm) g1 g2 (by decide +kernel) pa (by decide) (by decide) hs hpl, fun i j => oa_max⟩
    split at hg
    · rename_i e; subst e; cases hg
      obtain ⟨g1, g2⟩ := k.bl hl hd (by decide)
      exact ⟨_, pe_callB (call_min2 k.calm) g1 g2 (by decide +kernel) pa (by decide) (by decide) hs hpl, fun i j => oa_min⟩
    · cases hg
  refine ax2 (fun r h => s.E k cl ha ρ r h) (fun r h => s.E k cl hb ρ r h) (fun x hx => xx_B pe (xx_cb (xa_here hx))) (fun m d x h1 h2 => xx_B pe (xx_cb (xa_next h1 (xa_here h2)))) (fun m1 d1 m2 d2 h1 h2 r hh => ?_) hr
  unfold b2D at hh
  split at hh
  · rename_i i j
    have := fv_eq hh; subst this
    exact ee_B pe (e_cb (ea_cons h1 (ea_cons h2 ea_nil)) (ho i j))
  · cases hh
theorem tyB : ∀ z ∈ tyNames, bootBuiltins (Str.ofString z) = some (.type z) ∧ Str.ofString z ≠ "__name__" ∧ (Str.ofString z == ("__debug__" : Str)) = false ∧ Str.ofString z ∈ bNames := by decide +kernel
theorem isi_sound (s : Sound O n) (k : Ok X S W) (cl : Calls X S O) {a : Expr} {p pos pT : Pos} {T : Str} {z : String} {ca : CE} (hl : S.gl "isinstance" = true) (hd : ("isinstance" : Str) ∉ S.defs) (hT : S.gl T = true) (hdT : T ∉ S.defs) (hz : tyNames.find? (fun z => decide (Str.ofString z = T)) = some z) (ha : cE S n a = some ca) (hr : evE O (.isi ca z) ρ = some r) :
    RvOk X.K W (eB X (.Call (.Name "isinstance" p) [a, .Name T pT] [] pos)) ρ r := by
  simp only [evE] at hr
  have hzT : Str.ofString z = T := by simpa using List.find?_some hz
  subst hzT
  have hm : z ∈ tyNames := List.mem_of_find?_eq_some hz
  obtain ⟨t1, t2, t3, t4⟩ := tyB z hm
  obtain ⟨g1, g2⟩ := k.bl hl hd (by decide)
  obtain ⟨g3, g4⟩ := k.bl hT hdT t4
  have hs := star1 ha [.Name (Str.ofString z) pT] X.env
  have pb : PE X (.Name (Str.ofString z) pT) (tC (.ty z)) := pe_bltn (v := .ty z) g3 g4 t1 rfl t2 t3
  have pa : PA X [a, .Name (Str.ofString z) pT] (tCons (eB X a) (tCons (tC (.ty z)) tNil)) := pa_cons pe_B (pa_cons pb pa_nil) hs
  have pe : PE X (.Call (.Name "isinstance" p) [a, .Name (Str.ofString z) pT] [] pos) (tCB (rIsi X.K) (tCons (eB X a) (tCons (tC (.ty z)) tNil))) := pe_callB call_isi g1 g2 (by decide +kernel) pa (by decide) (by decide) hs rfl
  refine ax1 (fun r h => s.E k cl ha ρ r h) (fun x hx => xx_B pe (xx_cb (xa_here hx))) (fun m d h1 r hh => ?_) hr
  unfold isiD at hh
  split at hh
  · cases hh
  · rename_i ht
    simp only [Option.bind_eq_some_iff] at hh
    obtain ⟨b, h2, h3⟩ := hh
    have := fv_eq h3; subst this
    exact ee_B pe (e_isi h1 ht h2)
theorem step_E (s : Sound O n) (k : Ok X S W) (cl : Calls X S O) {e : Expr} {c : CE} (h : cE S (n + 1) e = some c) (hr : evE O c ρ = some r) : RvOk X.K W (eB X e) ρ r := by
  unfold cE at h
  split at h
  · cases h; simp only [evE] at hr; have := fv_eq hr; subst this; exact ee_B pe_int e_int
  · cases h; simp only [evE] at hr; have := fv_eq hr; subst this; exact ee_B pe_bl e_bl
  · cases h; simp only [evE] at hr; have := fv_eq hr; subst this; exact ee_B pe_str e_str
  · cases h; simp only [evE] at hr; have := fv_eq hr; subst this; exact ee_B pe_non e_non
  · simp only [Option.map_eq_some_iff] at h
    obtain ⟨i, h1, rfl⟩ := h
    simp only [evE] at hr
    exact var_sound k h1 hr
  · -- BinOp
    split at h
    · rename_i o ca cb ho ha hb
      cases h
      simp only [evE] at hr
      obtain ⟨rr, hrr⟩ := bin_any (X := X) ho
      exact ax2 (fun r h => s.E k cl ha ρ r h) (fun r h => s.E k cl hb ρ r h) (fun x hx => xx_B (pe_op hrr pe_B pe_B) (xx_opL hx)) (fun m d x h1 h2 => xx_B (pe_op hrr pe_B pe_B) (xx_opR h1 h2)) (fun m1 d1 m2 d2 h1 h2 r hh => binD_ok ho h1 h2 hh) hr
    · cases h
  · -- neg
    simp only [Option.map_eq_some_iff] at h
    obtain ⟨ca, ha, rfl⟩ := h
    simp only [evE] at hr
    refine ax1 (fun r h => s.E k cl ha ρ r h) (fun x hx => xx_B (pe_un un_neg pe_B) (xx_un hx)) (fun m d h1 r hh => ?_) hr
    split at hh
    · have := fv_eq hh; subst this; exact ee_B (pe_un un_neg pe_B) (e_neg h1)
    · cases hh
  · -- not
    simp only [Option.map_eq_some_iff] at h
    obtain ⟨ca, ha, rfl⟩ := h
    simp only [evE] at hr
    refine ax1 (fun r h => s.E k cl ha ρ r h) (fun x hx => xx_B (pe_not pe_B) (fun B F H σ e w Q => hx B F H σ e w _)) (fun m d h1 r hh => ?_) hr
    split at hh
    · have := fv_eq hh; subst this; exact ee_B (pe_not pe_B) (e_not h1)
    · cases hh
  · exact s.B k cl h ρ r hr
  · -- Compare
    split at h
    · rename_i o ca cb ho ha hb
      cases h
      simp only [evE] at hr
      obtain ⟨rr, hrr⟩ := cmp_any (X := X) ho
      refine ax2 (fun r h => s.E k cl ha ρ r h) (fun r h => s.E k cl hb ρ r h) (fun x hx => xx_B (pe_cmpR hrr pe_B pe_B (cmp_mark ho _)) (xx_opL hx)) (fun m d x h1 h2 => xx_B (pe_cmpR hrr pe_B pe_B (cmp_mark ho _)) (xx_opR h1 h2)) (fun m1 d1 m2 d2 h1 h2 r hh => ?_) hr
      simp only [Option.bind_eq_some_iff] at hh
      obtain ⟨v, h3, h4⟩ := hh
      have := fv_eq h4; subst this
      obtain ⟨r2, p, q⟩ := cmpD_ok k ho h3
      exact ee_B (pe_cmpR p pe_B pe_B (cmp_mark ho _)) (e_op h1 h2 q)
    · cases h
  · -- chain
    split at h
    · rename_i o o' ca cb cc ho ho' ha hb hc
      cases h
      simp only [evE] at hr
      split at hr
      · rename_i m1 i m2 j m3 l h1 h2 h3
        simp only [Option.bind_eq_some_iff] at hr
        obtain ⟨x, hx, y, hy, h4⟩ := hr
        split at h4
        · cases h4
        · rename_i hn
          have := fv_eq h4; subst this
          obtain ⟨rr, rr', p, p', q⟩ := chain_ok s k cl ho ho' ha hb hc h1 h2 h3 hx hy hn
          exact ee_B (pe_chain p p' pe_B pe_B pe_B (lmark ho ho' _ _)) q
      · cases hr
    · cases h
  · -- ife
    split at h
    · rename_i ct ca cb ht ha hb
      cases h
      simp only [evE, Option.bind_eq_some_iff] at hr
      obtain ⟨c, h1, h2⟩ := hr
      have tst := s.T k cl ht ρ c h1
      cases c with
      | true =>
        rw [if_pos rfl] at h2
        have q := s.E k cl ha ρ _ h2
        cases r with
        | v m d => exact ee_B (pe_ifExp pt_B pe_B pe_B) (e_ifx tst (fun _ => q) (fun z => nomatch z))
        | x e => exact xx_B (pe_ifExp pt_B pe_B pe_B) (fun B F H σ ev w Q => tst B F H σ ev _ fun F1 H1 g1 => q B F1 H1 σ (ev.grow g1) (fun dx F' H' g er => w dx F' H' (g1.trans g) er) _)
      | false =>
        rw [if_neg Bool.false_ne_true] at h2
        have q := s.E k cl hb ρ _ h2
        cases r with
        | v m d => exact ee_B (pe_ifExp pt_B pe_B pe_B) (e_ifx tst (fun z => nomatch z) (fun _ => q))
        | x e => exact xx_B (pe_ifExp pt_B pe_B pe_B) (fun B F H σ ev w Q => tst B F H σ ev _ fun F1 H1 g1 => q B F1 H1 σ (ev.grow g1) (fun dx F' H' g er => w dx F' H' (g1.trans g) er) _)
    · cases h
  · -- subscript
    split at h
    · rename_i ca cb ha hb
      cases h
      simp only [evE] at hr
      have hp := plainIx hb
      refine ax2 (fun r h => s.E k cl ha ρ r h) (fun r h => s.E k cl hb ρ r h) (fun x hx => xx_B (pe_ix ix_list pe_B pe_B hp) (xx_opL hx)) (fun m d x h1 h2 => xx_B (pe_ix ix_list pe_B pe_B hp) (xx_opR h1 h2)) (fun m1 d1 m2 d2 h1 h2 r hh => ?_) hr
      split at hh
      · exact ixD_ok h1 h2 hp hh
      · cases hh
    · cases h
  · -- tuple
    simp only [Option.map_eq_some_iff] at h
    obtain ⟨cs, h1, rfl⟩ := h
    simp only [evE, Option.bind_eq_some_iff] at hr
    obtain ⟨ra, h2, h3⟩ := hr
    obtain ⟨a1, a2⟩ := s.A k cl h1 ρ
    split at h3
    · rename_i ms
      split at h3
      · rename_i hl
        obtain ⟨b1, b2⟩ := a1 ms h2
        split at h3
        · rename_i hc
          have := fv_eq h3; subst this
          exact ee_B (pe_tup pa_B) (e_tup (b2 hc) (by rw [List.length_map]; exact hl))
        · split at h3
          · rename_i hi
            cases h3
            exact ee_B (pe_tup pa_B) (e_tupH b1 (by rw [List.length_map]; exact hl) hi)
          · cases h3
      · cases h3
    · rename_i x
      cases h3
      exact xx_B (pe_tup pa_B) (xx_tup (a2 x h2))
  · -- list
    simp only [Option.map_eq_some_iff] at h
    obtain ⟨cs, h1, rfl⟩ := h
    simp only [evE, Option.bind_eq_some_iff] at hr
    obtain ⟨ra, h2, h3⟩ := hr
    obtain ⟨a1, a2⟩ := s.A k cl h1 ρ
    split at h3
    · rename_i ms
      split at h3
      · rename_i hl
        obtain ⟨b1, b2⟩ := a1 ms h2
        split at h3
        · rename_i hc
          cases h3
          exact ee_B (pe_lst pa_B) (e_lst (b2 hc) (by rw [List.length_map]; exact hl))
        · cases h3
          exact ee_B (pe_lst pa_B) (e_lstH b1 (by rw [List.length_map]; exact hl))
      · cases h3
    · rename_i x
      cases h3
      exact xx_B (pe_lst pa_B) (xx_lst (a2 x h2))
  · -- f(a)
    split at h
    · rename_i hl
      split at h
      · rename_i hd
        simp only [Option.map_eq_some_iff] at h
        obtain ⟨cs, h1, rfl⟩ := h
        exact call_sound s k cl hl hd (not_dbg k hd) h1 hr
      · rename_i hd
        split at h
        · rename_i g ca hg ha
          cases h
          exact b1_sound s k cl hl hd hg ha hr
        · cases h
    · cases h
  · -- f(a, b)
    split at h
    · rename_i hl
      split at h
      · rename_i hd
        simp only [Option.map_eq_some_iff] at h
        obtain ⟨cs, h1, rfl⟩ := h
        exact call_sound s k cl hl hd (not_dbg k hd) h1 hr
      · rename_i hd
        split at h
        · rename_i hi
          subst hi
          split at h
          · split at h
            · rename_i hT
              split at h
              · rename_i z ca hz ha
                cases h
                exact isi_sound s k cl hl hd hT.1 hT.2 hz ha hr
              · cases h
            · cases h
          · cases h
        · split at h
          · rename_i g ca cb hg ha hb
            cases h
            exact b2_sound s k cl hl hd hg ha hb hr
          · cases h
    · cases h
  · -- f(a, b, ..)
    split at h
    · rename_i hl
      simp only [Option.map_eq_some_iff] at h
      obtain ⟨cs, h1, rfl⟩ := h
      exact call_sound s k cl hl.1 hl.2 (not_dbg k hl.2) h1 hr
    · cases h
  · -- a comprehension
    dsimp only at h
    split at h
    · rename_i pt src t ce hp hc ht he
      split at h
      · rename_i hb
        cases h
        obtain ⟨m, d, rfl, q⟩ := lc_ok s k cl hp hc ht he hr
        exact ee_B (pe_lc k.calm k.nd (pi_B (X := X)) (blkOk_by (by rw [k.N, k.sc]; exact hb)) (fun s H' C cl' fp => pg_of (k.blk s H' _ C cl' fp) hp) (fun s H' C cl' fp => pts_bT s H' C cl' fp) (fun s H' C cl' fp => pe_bE s H' C cl' fp) ((s.C k cl hc).2 X.env)) (by rw [blk_vs2]; exact q)
      · cases h
    · cases h
  · dsimp only at h
    split at h
    · rename_i pt src t pt1 src1 t1 ce hp hc ht hp1 hs1 ht1 he
      split at h
      · rename_i hb
        cases h
        obtain ⟨m, d, rfl, q⟩ := lc2_ok s k cl hp hc ht hp1 hs1 ht1 he hr
        exact ee_B (pe_lc2 (vs1 := pt1.vars) k.calm k.nd (pi_B (X := X)) (blkOk_by (by rw [k.N, k.sc]; exact hb)) (fun i hi => by rw [blk_vs2]; exact List.mem_append_right _ hi) (fun s H' C cl' fp => pg_of (k.blk s H' _ C cl' fp) hp) (fun s H' C cl' fp => pts_bT s H' C cl' fp) (fun s H' C cl' fp => pi_bI s H' C cl' fp) (fun s H' C cl' fp => pg_of (k.blk s H' _ C cl' fp) hp1) (fun s H' C cl' fp => pts_bT s H' C cl' fp) (fun s H' C cl' fp => pe_bE s H' C cl' fp) ((s.C k cl hc).2 X.env) (fun env x => (s.C (k.blk X.s_0 X.H_0 _ 0 [] []) (cl.blk X.s_0 X.H_0 _ _ []) hs1).2 env x)) (by rw [blk_vs2]; exact q)
      · cases h
    · cases h
  · cases h
end
end QL

end
section
set_option maxRecDepth 100000
set_option maxHeartbeats 8000000
namespace QL
open PySem PySem.Spec PyProof.Rows L2 Evl
section
variable {X : Cx} {S : Sc} {W : WX} {O : Orc} {n : Nat} {ρ : List Sl} {r : Rv}
theorem xx_and {ta tb : TE} {x : Er} (h : XX X.K ta ρ W x) : XX X.K (tAndV ta tb) ρ W x := fun B F H σ e w Q => h B F H σ e w _
theorem xx_or {ta tb : TE} {x : Er} (h : XX X.K ta ρ W x) : XX X.K (tOrV ta tb) ρ W x := fun B F H σ e w Q => h B F H σ e w _
theorem xx_and2 {ta tb : TE} {x : Er} {m : Md} (h1 : EE X.K ta ρ m (.bl true)) (h : XX X.K tb ρ W x) : XX X.K (tAndV ta tb) ρ W x := fun B F H σ e w Q =>
  h1.h B F H σ e _ fun v F1 H1 g1 dv => ⟨true, DtM.bl_inv dv, h B F1 H1 σ (e.grow g1) (fun dx F' H' g er => w dx F' H' (g1.trans g) er) Q⟩
theorem xx_or2 {ta tb : TE} {x : Er} {m : Md} (h1 : EE X.K ta ρ m (.bl false)) (h : XX X.K tb ρ W x) : XX X.K (tOrV ta tb) ρ W x := fun B F H σ e w Q =>
  h1.h B F H σ e _ fun v F1 H1 g1 dv => ⟨false, DtM.bl_inv dv, h B F1 H1 σ (e.grow g1) (fun dx F' H' g er => w dx F' H' (g1.trans g) er) Q⟩
theorem step_B (s : Sound O n) (k : Ok X S W) (cl : Calls X S O) {op : BoolOp} {vs : List Expr} {c : CE} {pos : Pos} (h : cB S (n + 1) op vs = some c) (hr : evE O c ρ = some r) : RvOk X.K W (eB X (.BoolOp op vs pos)) ρ r := by
  cases vs with
  | nil => simp [cB] at h
  | cons a rest =>
    cases rest with
    | nil =>
      simp only [cB] at h
      have q := s.E k cl h ρ r hr
      cases r with
      | v m d => exact ee_B (pe_one pe_B) q
      | x e => exact xx_B (pe_one pe_B) q
    | cons b rest =>
      simp only [cB] at h
      split at h
      · rename_i x y ha hb
        cases op with
        | And =>
          simp only [Option.some.injEq] at h; subst h
          simp only [evE] at hr
          refine ax1 (fun r h => s.E k cl ha ρ r h) (fun x hx => xx_B (pe_and pe_B pe_B) (xx_and hx)) (fun m d h1 r hh => ?_) hr
          split at hh
          · cases he : evE O y ρ with
            | none => rw [he] at hh; simp at hh
            | some r2 =>
              have q := s.B (pos := pos) k cl hb ρ r2 he
              rw [he] at hh
              cases r2 with
              | v m2 d2 =>
                simp only [bv_v] at hh
                split at hh
                · have := fv_eq hh; subst this
                  exact ee_B (pe_and pe_B pe_B) (e_and h1 fun _ => q)
                · cases hh
              | x e2 =>
                simp only [bv_x, Option.some.injEq] at hh; subst hh
                exact xx_B (pe_and pe_B pe_B) (xx_and2 h1 q)
          · have := fv_eq hh; subst this
            exact ee_B (pe_and pe_B pe_B) (e_and (m2 := .f) (b := true) h1 fun z => nomatch z)
          · cases hh
        | Or =>
          simp only [Option.some.injEq] at h; subst h
          simp only [evE] at hr
          refine ax1 (fun r h => s.E k cl ha ρ r h) (fun x hx => xx_B (pe_or pe_B pe_B) (xx_or hx)) (fun m d h1 r hh => ?_) hr
          split at hh
          · cases he : evE O y ρ with
            | none => rw [he] at hh; simp at hh
            | some r2 =>
              have q := s.B (pos := pos) k cl hb ρ r2 he
              rw [he] at hh
              cases r2 with
              | v m2 d2 =>
                simp only [bv_v] at hh
                split at hh
                · have := fv_eq hh; subst this
                  exact ee_B (pe_or pe_B pe_B) (e_or h1 fun _ => q)
                · cases hh
              | x e2 =>
                simp only [bv_x, Option.some.injEq] at hh; subst hh
                exact xx_B (pe_or pe_B pe_B) (xx_or2 h1 q)
          · have := fv_eq hh; subst this
            exact ee_B (pe_or pe_B pe_B) (e_or (m2 := .f) (b := true) h1 fun z => nomatch z)
          · cases hh
      · cases h
theorem seq_src (s : Sound O n) (k : Ok X S W) (cl : Calls X S O) {e : Expr} {c : CSrc} (h : (cE S n e).map CSrc.seq = some c) (tg : Expr) (st : Bool) (its : List Item) (hr : evSrc O c ρ = some (.v st its)) : Src X.K (iB X tg e) ρ st its := by
  simp only [Option.map_eq_some_iff] at h
  obtain ⟨ce, h1, rfl⟩ := h
  simp only [evSrc] at hr
  split at hr
  · rename_i m d he
    exact src_ok (s.E k cl h1 ρ _ he) hr
  · cases hr
theorem step_C (s : Sound O n) (k : Ok X S W) (cl : Calls X S O) {e : Expr} {c : CSrc} (h : cSrc S (n + 1) e = some c) : (∀ tg ρ st its, evSrc O c ρ = some (.v st its) → Src X.K (iB X tg e) ρ st its) ∧ ∀ env x, foldedSetIterable e env x = pure x := by
  unfold cSrc at h
  split at h
  · refine ⟨fun tg ρ st its hr => ?_, fun _ _ => rfl⟩
    split at h
    · rename_i hf
      subst hf
      split at h
      · rename_i hl
        simp only [Option.map_eq_some_iff] at h
        obtain ⟨ca, ha, rfl⟩ := h
        obtain ⟨g1, g2⟩ := k.bl hl.1 hl.2 (by decide)
        have hs := star1 ha [] X.env
        simp only [evSrc] at hr
        split at hr
        · rename_i m n' he
          split at hr
          · rename_i hn
            cases hr
            exact src_B (pi_range1 g1 g2 (pa_cons pe_B pa_nil hs) hs) (src_r1 (s.E k cl ha ρ _ he) hn)
          · cases hr
        · cases hr
      · cases h
    · exact seq_src s k cl h tg st its hr
  · refine ⟨fun tg ρ st its hr => ?_, fun _ _ => rfl⟩
    split at h
    · rename_i hf
      subst hf
      split at h
      · rename_i hl
        split at h
        · rename_i ca cb ha hb
          cases h
          obtain ⟨g1, g2⟩ := k.bl hl.1 hl.2 (by decide)
          have hs2 := star1 hb [] X.env
          simp only [evSrc] at hr
          split at hr
          · rename_i m lo he
            split at hr
            · rename_i m2 n' he2
              split at hr
              · rename_i hn
                cases hr
                exact src_B (pi_range2 g1 g2 (pa_cons pe_B (pa_cons pe_B pa_nil hs2) (star1 ha _ X.env)) (by rw [star1 ha, hs2]; rfl) hs2) (src_r2 (s.E k cl ha ρ _ he) (s.E k cl hb ρ _ he2) hn)
              · cases hr
            · cases hr
          · cases hr
        · cases h
      · cases h
    · exact seq_src s k cl h tg st its hr
  · cases h
  · rename_i hns
    refine ⟨fun tg ρ st its hr => seq_src s k cl h tg st its hr, fun env x => ?_⟩
    cases e <;> first | rfl | exact absurd rfl (hns _ _ _)
theorem step_D (s : Sound O n) (k : Ok X S W) (cl : Calls X S O) {a : Expr} {ops : List CmpOp} {cs : List Expr} {pos : Pos} {c : CE} (h : cE S (n + 1) (.Compare a ops cs pos) = some c) {m : Md} {d : D} {b : Bool} (he : evE O c ρ = some (.v m d)) (ht : truthD d = some b) : ET X.K (tB' X (.Compare a ops cs pos)) ρ b := by
  unfold cE at h
  split at h
  all_goals first | (rename_i heq; cases heq; done) | skip
  · rename_i heq
    cases heq
    split at h
    · rename_i o ca cb ho ha hb
      cases h
      simp only [evE] at he
      cases h1 : evE O ca ρ with
      | none => rw [h1] at he; simp at he
      | some r1 =>
        cases r1 with
        | x e => rw [h1] at he; simp at he
        | v m1 d1 =>
          rw [h1, bv_v] at he
          cases h2 : evE O cb ρ with
          | none => rw [h2] at he; simp at he
          | some r2 =>
            cases r2 with
            | x e => rw [h2] at he; simp at he
            | v m2 d2 =>
              rw [h2, bv_v] at he
              simp only [Option.bind_eq_some_iff] at he
              obtain ⟨v, h3, h4⟩ := he
              have h5 := fv_eq h4
              cases h5
              simp only [truthD, Option.some.injEq] at ht
              subst ht
              obtain ⟨rr, p, q⟩ := cmp_ok s k cl ho ha hb h1 h2 h3
              exact et_B (pt_cmpR p pe_B pe_B (cmp_mark ho _)) (t_test q)
    · cases h
  · rename_i heq
    cases heq
    split at h
    · rename_i o o' ca cb cc ho ho' ha hb hc
      cases h
      simp only [evE] at he
      split at he
      · rename_i m1 i m2 j m3 l h1 h2 h3
        simp only [Option.bind_eq_some_iff] at he
        obtain ⟨x, hx, y, hy, h4⟩ := he
        split at h4
        · cases h4
        · rename_i hn
          have h5 := fv_eq h4
          cases h5
          simp only [truthD, Option.some.injEq] at ht
          subst ht
          obtain ⟨rr, rr', p, p', q⟩ := chain_ok s k cl ho ho' ha hb hc h1 h2 h3 hx hy hn
          exact et_B (pt_chain p p' pe_B pe_B pe_B (lmark ho ho' _ _)) (t_test q)
      · cases he
    · cases h
  · cases h
theorem val_test (s : Sound O n) (k : Ok X S W) (cl : Calls X S O) {e : Expr} {c : CT} (h : (cE S n e).map CT.val = some c) {b : Bool} (hb : evT O c ρ = some b)
    (hp : (∀ whole, isTrue e X.env whole = (do let v ← whole; standAt e.pos; holding [v] (truthy v))) ∨ ∃ a ops cs pos, e = .Compare a ops cs pos) : ET X.K (tB' X e) ρ b := by
  simp only [Option.map_eq_some_iff] at h
  obtain ⟨ce, h1, rfl⟩ := h
  simp only [evT] at hb
  split at hb
  · rename_i m d he
    rcases hp with hp | ⟨a, ops, cs, pos, rfl⟩
    · exact truth_ok hp (s.E k cl h1 ρ _ he) hb
    · exact s.D k cl h1 ρ m d b he hb
  · cases hb
theorem step_T (s : Sound O n) (k : Ok X S W) (cl : Calls X S O) {e : Expr} {c : CT} (h : cT S (n + 1) e = some c) {b : Bool} (hb : evT O c ρ = some b) : ET X.K (tB' X e) ρ b := by
  unfold cT at h
  split at h
  · simp only [Option.map_eq_some_iff] at h
    obtain ⟨ct, h1, rfl⟩ := h
    simp only [evT, Option.map_eq_some_iff] at hb
    obtain ⟨b', h2, rfl⟩ := hb
    exact et_B (pt_not pt_B) (t_not (s.T k cl h1 ρ b' h2))
  · obtain ⟨t, h1, h2⟩ := s.TB k cl h ρ b hb
    exact et_B (PW.pt h1) h2
  · cases h
  · rename_i h1 h2 h3
    refine val_test s k cl h hb ?_
    cases e with
    | UnaryOp o x p =>
      cases o with
      | Not => exact absurd rfl (h1 _ _)
      | _ => exact .inl fun _ => rfl
    | BoolOp a b c => exact absurd rfl (h2 _ _ _)
    | IfExp a b c d => exact absurd rfl (h3 _ _ _ _)
    | Compare a b c d => exact .inr ⟨_, _, _, _, rfl⟩
    | _ => exact .inl fun _ => rfl
theorem pw_no {e : Expr} : PW X e (fun _ _ _ => False) := ⟨fun _ _ _ _ _ _ _ h => h.elim⟩
theorem step_TB (s : Sound O n) (k : Ok X S W) (cl : Calls X S O) {op : BoolOp} {vs : List Expr} {c : CT} {pos : Pos} (h : cTB S (n + 1) op vs = some c) {b : Bool} (hb : evT O c ρ = some b) : ∃ t, PW X (.BoolOp op vs pos) t ∧ ET X.K t ρ b := by
  cases vs with
  | nil => simp [cTB] at h
  | cons a rest =>
    cases rest with
    | nil =>
      simp only [cTB] at h
      have q := s.T k cl h ρ b hb
      cases op with
      | And => exact ⟨_, pw_and1 pt_B, q⟩
      | Or => exact ⟨_, pw_or1 pt_B, q⟩
    | cons a2 rest =>
      simp only [cTB] at h
      split at h
      · rename_i x y ha hr
        cases op with
        | And =>
          simp only [Option.some.injEq] at h; subst h
          simp only [evT, Option.bind_eq_some_iff] at hb
          obtain ⟨c1, h1, h2⟩ := hb
          have q := s.T k cl ha ρ c1 h1
          cases c1 with
          | true =>
            rw [if_pos rfl] at h2
            obtain ⟨t, p1, p2⟩ := s.TB (pos := pos) k cl hr ρ b h2
            exact ⟨_, pw_and pt_B p1, ET.to (t_and q fun _ => p2) rfl⟩
          | false =>
            rw [if_neg Bool.false_ne_true] at h2
            cases h2
            exact ⟨_, pw_and pt_B pw_no, ET.to (t_and (b := true) q fun z => nomatch z) rfl⟩
        | Or =>
          simp only [Option.some.injEq] at h; subst h
          simp only [evT, Option.bind_eq_some_iff] at hb
          obtain ⟨c1, h1, h2⟩ := hb
          have q := s.T k cl ha ρ c1 h1
          cases c1 with
          | false =>
            rw [if_neg Bool.false_ne_true] at h2
            obtain ⟨t, p1, p2⟩ := s.TB (pos := pos) k cl hr ρ b h2
            exact ⟨_, pw_or pt_B p1, ET.to (t_or q fun _ => p2) rfl⟩
          | true =>
            rw [if_pos rfl] at h2
            cases h2
            exact ⟨_, pw_or pt_B pw_no, ET.to (t_or (b := true) q fun z => nomatch z) rfl⟩
      · cases h
theorem step_Ts (s : Sound O n) (k : Ok X S W) (cl : Calls X S O) {es : List Expr} {c : CT} (h : cTs S (n + 1) es = some c) {b : Bool} (hb : evT O c ρ = some b) : ET X.K (tsB X es) ρ b := by
  cases es with
  | nil =>
    simp only [cTs, Option.some.injEq] at h; subst h
    simp only [evT, Option.some.injEq] at hb; subst hb
    exact ets_B pts_nil t_yes
  | cons e es =>
    cases es with
    | nil =>
      simp only [cTs] at h
      exact ets_B (pts_one pt_B) (s.T k cl h ρ b hb)
    | cons _ _ => simp [cTs] at h
end
theorem sound (O : Orc) : ∀ n, Sound O n
  | 0 => zero_sound O
  | n + 1 => by
    have s := sound O n
    exact ⟨fun k cl h ρ r hr => step_E s k cl h hr, fun k cl h ρ r hr => step_B s k cl h hr, fun k cl h ρ => args_sound s k cl h ρ, fun k cl h => step_C s k cl h, fun k cl h ρ b hb => step_T s k cl h hb, fun k cl h ρ b hb => step_TB s k cl h hb, fun k cl h ρ b hb => step_Ts s k cl h hb, fun k cl h ρ m d b he ht => step_D s k cl h he ht⟩
end QL

end
section
set_option maxRecDepth 100000
set_option maxHeartbeats 8000000
namespace QL
open PySem PySem.Spec PyProof.Rows L2 Evl
section
variable {X : Cx} {S : Sc} {W : WX} {O : Orc} {n : Nat} {ρ : List Sl} {o : Out}
structure SoundS (O : Orc) (n : Nat) : Prop where
  S : ∀ {X : Cx} {S : Sc} {W : WX} {st : Stmt} {c : CS}, Ok X S W → PassesOwn (model X.prog X.w) X.A X.env X.xe → Calls X S O → cS S n st = some c → ∀ ρ o, evS O c ρ = some o → Run X.K (sB X st) ρ o
  SS : ∀ {X : Cx} {S : Sc} {W : WX} {st : List Stmt} {c : CSs}, Ok X S W → PassesOwn (model X.prog X.w) X.A X.env X.xe → Calls X S O → cSs S n st = some c → ∀ ρ o, evSs O c ρ = some o → Run X.K (ssB X st) ρ o
theorem run_frzA {t : TS} : ∀ {l : List Nat} {ρ : List Sl}, Run X.K t (frzA ρ l) o → Run X.K t ρ o
  | [], _, h => h
  | i :: r, ρ, h => run_frz i (run_frzA (l := r) h)
theorem for_ok {body : TS} {pt : Pat} {f : List Sl → Option Out} (hb : ∀ ρ o, f ρ = some o → Run X.K body ρ o) : ∀ {its : List Item} {ρ : List Sl} {o : Out}, forGo pt f its ρ = some o → Loop X.K body pt its ρ o
  | [], ρ, o, h => by simp only [forGo, Option.some.injEq] at h; subst h; exact .done
  | it :: its, ρ, o, h => by
    simp only [forGo, Option.bind_eq_some_iff] at h
    obtain ⟨ρ1, h1, o1, h2, h3⟩ := h
    have r := hb ρ1 o1 h2
    cases o1 with
    | nx ρ2 => exact .step h1 r (for_ok hb h3)
    | ct ρ2 => exact .cont h1 r (for_ok hb h3)
    | bk ρ2 => simp only [Option.some.injEq] at h3; subst h3; exact .brk h1 r
    | rt m d => simp only [Option.some.injEq] at h3; subst h3; exact .ret h1 r
/-- a name takes a comprehension's list -/
theorem set_sound (k : Ok X S W) (cl : Calls X S O) {x : Str} {e : Expr} {p pos : Pos} {i : Nat} {c : CE} (hx : S.store x = some i) (he : cE S n e = some c) {m : Md} {d : D} {s : Sl} (hr : evE O c ρ = some (.v m d)) (hs : slotV m d = some s) : Run X.K (sB X (.Assign [.Name x p] e pos)) ρ (.nx (ρ.set i s)) := by
  obtain ⟨h1, h2, h3⟩ := k.store hx
  have q := (sound O n).E k cl he ρ _ hr
  have pl : ∀ (_ : swapsWith e (some (.Name x p)) pos.line X.env = pure false), Run X.K (sB X (.Assign [.Name x p] e pos)) ρ (.nx (ρ.set i s)) := fun hsw => run_B (ps_set k.nd h1 h2 pe_B hsw h3) (run_set q hs)
  cases e with
  | ListComp elt gens scope lp =>
    have hsw : ∃ b, swapsWith (.ListComp elt gens scope lp) (some (.Name x p)) pos.line X.env = pure b ∧ (b = true → X.env.scope.names.lookup x = some .local) := by
      refine ⟨_, rfl, fun hb => ?_⟩
      simp only [Bool.and_eq_true] at hb
      have := hb.1.1.2
      have e1 : X.env.kindOf x = X.env.scope.names.lookup x := rfl
      rw [e1] at this
      cases hk : X.env.scope.names.lookup x with
      | none => rw [hk] at this; cases this
      | some kk => rw [hk] at this; cases kk <;> first | rfl | cases this
    obtain ⟨b, hb1, hb2⟩ := hsw
    cases b with
    | false => exact pl hb1
    | true =>
      have hl := hb2 rfl
      cases n with
      | zero => simp [cE] at he
      | succ n =>
        have s := sound O n
        unfold cE at he
        split at he
        all_goals first | (rename_i heq; cases heq; done) | skip
        · rename_i heq
          cases heq
          dsimp only at he
          split at he
          · rename_i pt src t ce hp hc ht hel
            split at he
            · rename_i hb
              cases he
              obtain ⟨m', d', e1, q⟩ := lc_ok s k cl hp hc ht hel hr
              cases e1
              refine run_B (ps_setLc (i := i) k.calm k.nd h1 hl hb1 (pi_B (X := X)) (blkOk_by (by rw [k.N, k.sc]; exact hb)) (fun s H' C cl' fp => pg_of (k.blk s H' _ C cl' fp) hp) (fun s H' C cl' fp => pts_bT s H' C cl' fp) (fun s H' C cl' fp => pe_bE s H' C cl' fp) ((s.C k cl hc).2 X.env)) (run_set (m := m) (d := d) (by rw [blk_vs2]; exact q) hs)
            · cases he
          · cases he
        · rename_i heq
          cases heq
          dsimp only at he
          split at he
          · rename_i pt src t pt1 src1 t1 ce hp hc ht hp1 hs1 ht1 hel
            split at he
            · rename_i hb
              cases he
              obtain ⟨m', d', e1, q⟩ := lc2_ok s k cl hp hc ht hp1 hs1 ht1 hel hr
              cases e1
              refine run_B (ps_setLc2 (i := i) (vs1 := pt1.vars) k.calm k.nd h1 hl hb1 (pi_B (X := X)) (blkOk_by (by rw [k.N, k.sc]; exact hb)) (fun i hi => by rw [blk_vs2]; exact List.mem_append_right _ hi) (fun s H' C cl' fp => pg_of (k.blk s H' _ C cl' fp) hp) (fun s H' C cl' fp => pts_bT s H' C cl' fp) (fun s H' C cl' fp => pi_bI s H' C cl' fp) (fun s H' C cl' fp => pg_of (k.blk s H' _ C cl' fp) hp1) (fun s H' C cl' fp => pts_bT s H' C cl' fp) (fun s H' C cl' fp => pe_bE s H' C cl' fp) ((s.C k cl hc).2 X.env) (fun env x => (s.C (k.blk X.s_0 X.H_0 _ 0 [] []) (cl.blk X.s_0 X.H_0 _ _ []) hs1).2 env x)) (run_set (m := m) (d := d) (by rw [blk_vs2]; exact q) hs)
            · cases he
          · cases he
        · cases he
  | SetComp _ _ _ _ => cases n <;> simp [cE] at he
  | DictComp _ _ _ _ _ => cases n <;> simp [cE] at he
  | _ => exact pl rfl
theorem pat_sound (k : Ok X S W) (cl : Calls X S O) {es : List Expr} {kk : Nat} {e : Expr} {p pos : Pos} {pt : Pat} {c : CE} (hp : cP S n (.Tuple es kk p) = some pt) (he : cE S n e = some c) (hn : ∀ a b c, e ≠ .Tuple a b c) (hl : ∀ a b c d, e ≠ .ListComp a b c d) {m : Md} {d : D} {ρ1 : List Sl} (hr : evE O c ρ = some (.v m d)) (hm : m ≠ .n) (hb : bindP pt ρ (.one m d) = some ρ1) : Run X.K (sB X (.Assign [.Tuple es kk p] e pos)) ρ (.nx ρ1) := by
  have q := (sound O n).E k cl he ρ _ hr
  have fin : swapsWithSole [.Tuple es kk p] e pos.line X.env = pure false → swappedStores [.Tuple es kk p] e X.env = pure none → Run X.K (sB X (.Assign [.Tuple es kk p] e pos)) ρ (.nx ρ1) := fun h1 h2 =>
    run_B (ps_asg pe_B (pg_of k hp) h1 h2) (run_pat (gp_of _ _) q hm hb)
  cases e with
  | Tuple a b c => exact absurd rfl (hn _ _ _)
  | ListComp a b c d => exact absurd rfl (hl _ _ _ _)
  | SetComp _ _ _ _ => cases n <;> simp [cE] at he
  | DictComp _ _ _ _ _ => cases n <;> simp [cE] at he
  | _ => exact fin rfl rfl
theorem seti_sound (k : Ok X S W) (cl : Calls X S O) {x : Str} {i e : Expr} {px p pos : Pos} {v : Nat} {ci ce : CE} (hx : S.slot x = some v) (hi : cE S n i = some ci) (he : cE S n e = some ce) (hl : ∀ a b c d, e ≠ .ListComp a b c d)
    {m m1 : Md} {d : D} {z : Int} {ds : List D} {q : Nat} (h1 : evE O ce ρ = some (.v m d)) (h2 : evE O ci ρ = some (.v m1 (.int z))) (h3 : ρ[v]? = some (.own ds)) (hc : cf m d = true) (hq : ixN ds.length z = some q) :
    Run X.K (sB X (.Assign [.Subscript (.Name x px) i p] e pos)) ρ (.nx (ρ.set v (.own (ds.set q d)))) := by
  obtain ⟨a1, a2, a3, a4⟩ := k.var hx
  have q1 := (sound O n).E k cl he ρ _ h1
  have q2 := (sound O n).E k cl hi ρ _ h2
  have pgs : PG X (.Subscript (.Name x px) i p) (gSub (tVar v) (eB X i) rSetL) := pg_sub (pe_var a1 a2 a3 a4) pe_B set_list (by
    cases i <;> first | (intro _; rfl) | (cases n <;> simp [cE] at hi))
  have fin : swapsWithSole [.Subscript (.Name x px) i p] e pos.line X.env = pure false → swappedStores [.Subscript (.Name x px) i p] e X.env = pure none → Run X.K (sB X (.Assign [.Subscript (.Name x px) i p] e pos)) ρ (.nx (ρ.set v (.own (ds.set q d)))) := fun h1 h2 =>
    run_B (ps_asg pe_B pgs h1 h2) (run_seti h3 q1 hc q2 hq)
  cases e with
  | ListComp a b c d => exact absurd rfl (hl _ _ _ _)
  | SetComp _ _ _ _ => cases n <;> simp [cE] at he
  | DictComp _ _ _ _ _ => cases n <;> simp [cE] at he
  | _ => exact fin rfl rfl
theorem app_sound (k : Ok X S W) (cl : Calls X S O) {x : Str} {e : Expr} {px pa pc pos : Pos} {v : Nat} {ce : CE} (hx : S.slot x = some v) (he : cE S n e = some ce) {m : Md} {d : D} {ds : List D} (h1 : evE O ce ρ = some (.v m d)) (h3 : ρ[v]? = some (.own ds)) (hc : cf m d = true) (hl : ds.length < 100000) (hline : (pa.endLine == pc.line) = true) :
    Run X.K (sB X (.Expr (.Call (.Attribute (.Name x px) "append" pa) [e] [] pc) pos)) ρ (.nx (ρ.set v (.own (ds ++ [d])))) := by
  obtain ⟨a1, a2, a3, a4⟩ := k.var hx
  have q1 := (sound O n).E k cl he ρ _ h1
  have hs := star1 he [] X.env
  exact run_B (ps_expr (pe_bm PySem.F.plainAttrs_list PySem.F.slot_list_append PySem.F.type_list_append mt_append (pe_var a1 a2 a3 a4) (pa_cons pe_B pa_nil hs) rfl (by rw [hs]; rfl) hline hs rfl)) (run_append h3 q1 hc hl)
theorem ins_sound (k : Ok X S W) (cl : Calls X S O) {x : Str} {i e : Expr} {px pa pc pos : Pos} {v : Nat} {ci ce : CE} (hx : S.slot x = some v) (hi : cE S n i = some ci) (he : cE S n e = some ce) {m m1 : Md} {d : D} {z : Int} {ds : List D} (h2 : evE O ci ρ = some (.v m1 (.int z))) (h1 : evE O ce ρ = some (.v m d)) (h3 : ρ[v]? = some (.own ds)) (hc : cf m d = true) (hl : ds.length < 100000) (h4 : 0 ≤ z) (h5 : z < 2 ^ 63) (hline : (pa.endLine == pc.line) = true) :
    Run X.K (sB X (.Expr (.Call (.Attribute (.Name x px) "insert" pa) [i, e] [] pc) pos)) ρ (.nx (ρ.set v (.own (ds.take z.toNat ++ [d] ++ ds.drop z.toNat)))) := by
  obtain ⟨a1, a2, a3, a4⟩ := k.var hx
  have q1 := (sound O n).E k cl he ρ _ h1
  have q2 := (sound O n).E k cl hi ρ _ h2
  have hs2 := star1 he [] X.env
  have hs := star1 hi [e] X.env
  exact run_B (ps_expr (pe_bm PySem.F.plainAttrs_list PySem.F.slot_list_insert PySem.F.type_list_insert mt_insert (pe_var a1 a2 a3 a4) (pa_cons pe_B (pa_cons pe_B pa_nil hs2) hs) rfl (by rw [hs, hs2]; rfl) hline hs (by rw [hs2]; rfl))) (run_ins h3 q2 q1 hc hl h4 h5)
theorem cB_var {S : Sc} {n : Nat} {op : BoolOp} {a b : Expr} {r : List Expr} {i : Nat} : cB S n op (a :: b :: r) ≠ some (.var i) := by
  intro h
  cases n with
  | zero => simp [cB] at h
  | succ n =>
    simp only [cB] at h
    split at h
    · cases op <;> simp at h
    · cases h
theorem var_inv {S : Sc} {n : Nat} {e : Expr} {i : Nat} (h : cE S n e = some (.var i)) : ∃ x p, e = .Name x p ∧ S.slot x = some i := by
  cases n with
  | zero => simp [cE] at h
  | succ n =>
    unfold cE at h
    split at h
    all_goals try dsimp only at h
    all_goals first
      | (simp only [Option.map_eq_some_iff] at h; obtain ⟨j, h1, h2⟩ := h; cases h2; exact ⟨_, _, rfl, h1⟩)
      | (exact absurd h cB_var)
      | (repeat' split at h) <;> simp at h
theorem ret_sound (k : Ok X S W) (cl : Calls X S O) {e : Expr} {pos : Pos} {ce : CE} (he : cE S n e = some ce) (hr : evS O (.ret ce) ρ = some o) : Run X.K (sB X (.Return (some e) pos)) ρ o := by
  have so := sound O n
  have plain : ∀ {l : List Nat} {m : Md} {d : D}, evE O ce (frzA ρ l) = some (.v m d) → Run X.K (sB X (.Return (some e) pos)) ρ (.rt m d) := fun {l m d} h1 =>
    run_frzA (l := l) (run_B (ps_ret pe_B) (run_ret (so.E k cl he _ _ h1)))
  unfold evS at hr
  split at hr
  all_goals first | (rename_i heq; cases heq; done) | skip
  · rename_i i heq
    cases heq
    obtain ⟨x, p, rfl, hx⟩ := var_inv he
    obtain ⟨a1, a2, a3, a4⟩ := k.var hx
    split at hr
    · rename_i ds hs; cases hr; exact run_B (ps_ret (pe_var a1 a2 a3 a4)) (run_retO hs)
    · rename_i ks ds hs; cases hr; exact run_B (ps_ret (pe_var a1 a2 a3 a4)) (run_retOD hs)
    · rename_i d hs; cases hr; exact run_B (ps_ret (pe_var a1 a2 a3 a4)) (run_ret (e_var hs))
    · rename_i d hs; cases hr; exact run_B (ps_ret (pe_var a1 a2 a3 a4)) (run_ret (EE.nrm (m := .b) (e_var hs)))
    · cases hr
  · rename_i heq
    cases heq
    split at hr
    · rename_i m d h1
      cases hr
      exact plain h1
    · cases hr
theorem stmt_step (s : SoundS O n) {st : Stmt} {c : CS} (k : Ok X S W) (po : PassesOwn (model X.prog X.w) X.A X.env X.xe) (cl : Calls X S O) (h : cS S (n + 1) st = some c) (hr : evS O c ρ = some o) : Run X.K (sB X st) ρ o := by
  have so := sound O n
  unfold cS at h
  split at h
  · -- x = e
    split at h
    · rename_i i ce hx he
      cases h
      simp only [evS] at hr
      split at hr
      · rename_i m d h1
        simp only [Option.map_eq_some_iff] at hr
        obtain ⟨sl, h2, rfl⟩ := hr
        exact run_frzA (set_sound k cl hx he h1 h2)
      · cases hr
    · cases h
  · -- a, b = e
    split at h
    · cases h
    · cases h
    · rename_i hn hl
      split at h
      · rename_i p ce hp he
        cases h
        simp only [evS] at hr
        split at hr
        · rename_i m d h1
          split at hr
          · cases hr
          · rename_i hm
            simp only [Option.map_eq_some_iff] at hr
            obtain ⟨ρ1, h2, rfl⟩ := hr
            exact run_frzA (pat_sound k cl hp he (fun a b c z => hn a b c z) (fun a b c d z => hl a b c d z) h1 hm h2)
        · cases hr
      · cases h
  · -- x[i] = e
    split at h
    · cases h
    · rename_i hl
      split at h
      · rename_i v ci ce hx hi he
        cases h
        simp only [evS] at hr
        split at hr
        · rename_i m d m1 z ds h1 h2 h3
          split at hr
          · rename_i hc
            simp only [Option.map_eq_some_iff] at hr
            obtain ⟨q, h4, rfl⟩ := hr
            exact run_frzA (seti_sound k cl hx hi he (fun a b c d z => hl a b c d z) h1 h2 h3 hc h4)
          · cases hr
        · cases hr
      · cases h
  · -- if
    split at h
    · rename_i ct ca cb ht ha hb
      cases h
      simp only [evS, Option.bind_eq_some_iff] at hr
      obtain ⟨b, h1, h2⟩ := hr
      have tst := so.T k cl ht ρ b h1
      cases b with
      | true =>
        rw [if_pos rfl] at h2
        exact run_B (ps_if pt_B pss_B pss_B) (run_if tst (fun _ => s.SS k po cl ha ρ o h2) (fun z => nomatch z))
      | false =>
        rw [if_neg Bool.false_ne_true] at h2
        exact run_B (ps_if pt_B pss_B pss_B) (run_if tst (fun z => nomatch z) (fun _ => s.SS k po cl hb ρ o h2))
    · cases h
  · -- for
    split at h
    · rename_i p src b hp hs hb
      cases h
      simp only [evS] at hr
      split at hr
      · rename_i its h1
        obtain ⟨c1, c2⟩ := so.C k cl hs
        exact run_frzA (run_B (ps_for po k.calm pi_B (pg_of k hp) pss_B (c2 X.env)) (run_for (c1 _ _ _ _ h1) (gp_of _ _) (for_ok (fun ρ o ho => s.SS k po cl hb ρ o ho) hr)))
      · cases hr
    · cases h
  · -- return
    simp only [Option.map_eq_some_iff] at h
    obtain ⟨ce, he, rfl⟩ := h
    exact ret_sound k cl he hr
  · -- append
    split at h
    · rename_i ha
      obtain ⟨ha, hline⟩ := ha
      subst ha
      split at h
      · rename_i v ce hx he
        cases h
        simp only [evS] at hr
        split at hr
        · rename_i m d ds h1 h3
          split at hr
          · rename_i hc
            cases hr
            exact run_frzA (app_sound k cl hx he h1 h3 hc.1 hc.2 hline)
          · cases hr
        · cases hr
      · cases h
    · cases h
  · -- insert
    split at h
    · rename_i ha
      obtain ⟨ha, hline⟩ := ha
      subst ha
      split at h
      · rename_i v ck ce hx hk he
        cases h
        simp only [evS] at hr
        split at hr
        · rename_i m1 z m d ds h1 h2 h3
          split at hr
          · rename_i hc
            cases hr
            exact run_frzA (ins_sound k cl hx hk he h1 h2 h3 hc.1 hc.2.1 hc.2.2.1 hc.2.2.2 hline)
          · cases hr
        · cases hr
      · cases h
    · cases h
  · -- f(..)
    simp only [Option.map_eq_some_iff] at h
    obtain ⟨ce, he, rfl⟩ := h
    simp only [evS] at hr
    split at hr
    · rename_i m d h1
      cases hr
      exact run_B (ps_expr pe_B rfl) (run_drop (so.E k cl he _ _ h1))
    · cases hr
  · cases h; simp only [evS, Option.some.injEq] at hr; subst hr; exact run_B ps_pass run_next
  · cases h; simp only [evS, Option.some.injEq] at hr; subst hr; exact run_B ps_break run_break
  · cases h; simp only [evS, Option.some.injEq] at hr; subst hr; exact run_B ps_continue run_cont
  · cases h
end
end QL

end
section
set_option maxRecDepth 100000
set_option maxHeartbeats 8000000
namespace QL
open PySem PySem.Spec PyProof.Rows L2 Evl
theorem zero_soundS (O : Orc) : SoundS O 0 := by
  refine ⟨fun k po cl h => by simp [cS] at h, fun {X S W st c} k po cl h ρ o hr => ?_⟩
  cases st with
  | nil =>
    simp only [cSs, Option.some.injEq] at h; subst h
    simp only [evSs, Option.some.injEq] at hr; subst hr
    exact runs_B pss_nil run_next
  | cons s r => simp [cSs] at h
theorem soundS (O : Orc) : ∀ n, SoundS O n
  | 0 => zero_soundS O
  | n + 1 => by
    have s := soundS O n
    refine ⟨fun k po cl h ρ o hr => stmt_step s k po cl h hr, fun {X S W st c} k po cl h ρ o hr => ?_⟩
    cases st with
    | nil =>
      simp only [cSs, Option.some.injEq] at h; subst h
      simp only [evSs, Option.some.injEq] at hr; subst hr
      exact runs_B pss_nil run_next
    | cons st r =>
      simp only [cSs] at h
      split at h
      · rename_i c1 c2 h1 h2
        cases h
        simp only [evSs, Option.bind_eq_some_iff] at hr
        obtain ⟨o1, h3, h4⟩ := hr
        have r1 := s.S k po cl h1 ρ o1 h3
        split at h4
        · rename_i ρ1
          exact runs_B (pss_cons ps_B pss_B) (run_seq r1 (s.SS k po cl h2 ρ1 o h4))
        · rename_i hn
          simp only [Option.some.injEq] at h4
          subst h4
          refine runs_B (pss_cons ps_B pss_B) (run_stop ?_ r1)
          cases o1 with
          | nx ρ1 => exact absurd rfl (hn ρ1)
          | _ => rfl
      · cases h
section
variable {P : Program} {w : World} {K : PySem.W.Frag} {mg : Str → Option Value} {base : Heap} {x qual : Str} {st : Stmt} {f : Addr} {fd : FuncData} {N ps : List Str} {k : Nat}
/-- a def that is compiled keeps its promise -/
theorem fn_ok (F : Fun K x qual st f fd) (S : FnScope N ps (defScope st)) {defs : List Str} {n : Nat} {c : CSs} {O : Orc} (hc : cSs ⟨N, defScope st, defScope st, defs⟩ n (defBody st) = some c) (hb : ∀ y ∈ bNames, y ∉ defs → mg y = none) (hd : ("__debug__" : Str) ∉ defs)
    (hh : ∀ g ∈ defs, ∃ ps, HasX P w K mg base g k ps (SpE K (O.call g))) : FnOk P w K mg base (L2.CX P w) (k + 1) f fd ps (SpE K (evD O ⟨N.length, ps.length, c⟩)) := by
  have hlen : ∀ {ds : List D} {r : Res}, evD O ⟨N.length, ps.length, c⟩ ds = some r → ds.length = ps.length := fun {ds r} h => by
    unfold evD at h
    split at h
    · assumption
    · cases h
  refine F.okX S (fun vs H Q E h => ?_) (fun cdv A outer s H vs Q E hr h => ?_)
  · obtain ⟨Fi, ds, x, h1, h2⟩ := h
    rw [h1.len]
    rcases h2 with ⟨m, d, h3, _⟩ | ⟨x, h3, _⟩ <;> exact hlen h3
  · obtain ⟨Fi, ds, xF, h1, h2⟩ := h
    refine ⟨_, pss_B, ?_⟩
    let X := cxOf (L2.CX P w) P w K mg base N qual (defScope st) f cdv A outer s H E
    have ok : Ok X ⟨N, defScope st, defScope st, defs⟩ (fun cls d _ H => E cls d H) := ⟨rfl, S.nd, rfl, rfl, fun _ _ => rfl, hb, hr.units, takes_of rfl rfl rfl rfl, hd⟩
    have cl : Calls X ⟨N, defScope st, defScope st, defs⟩ O := ⟨k, hr, hh⟩
    have run := (soundS O n).SS ok (passes_of rfl) cl hc (slots N.length ds)
    rcases h2 with ⟨m, d, h3, hm, q⟩ | ⟨x, h3, q⟩
    · unfold evD at h3
      split at h3
      · simp only [Option.bind_eq_some_iff] at h3
        obtain ⟨o, h4, h5⟩ := h3
        exact fin_ok xF h1 (run o h4) h5 q
      · cases h3
    · exfalso
      unfold evD at h3
      split at h3
      · simp only [Option.bind_eq_some_iff] at h3
        obtain ⟨o, h4, h5⟩ := h3
        cases o with
        | nx _ => cases h5
        | bk _ => cases h5
        | ct _ => cases h5
        | rt m d =>
          simp only [fin] at h5
          split at h5 <;> cases h5
      · cases h3
/-- a def of the text, as it stands in the heap -/
structure DefAt (K : PySem.W.Frag) (mg : Str → Option Value) (T : List (Str × CDef)) (x : Str) (ps : List Str) : Prop where
  ex : ∃ (st : Stmt) (f : Addr) (fd : FuncData) (N : List Str) (n : Nat) (c : CSs), Fun K x x st f fd ∧ FnScope N ps (defScope st) ∧ mg x = some (.ref f) ∧ PySem.W.keepIn K (.ref f) = true ∧ Binds K fd ps [] ∧
    cSs ⟨N, defScope st, defScope st, T.map (·.1)⟩ n (defBody st) = some c ∧ T.lookup x = some ⟨N.length, ps.length, c⟩
theorem fn_none {f : Addr} {fd : FuncData} {ps : List Str} {CX : CXT} {R : List D → Option Res} (hR : ∀ ds, R ds = none) : FnOk P w K mg base CX 0 f fd ps (SpE K R) := by
  have key : ∀ {vs : List V} {H : Hp} {Q : VK} {E : XK}, ¬ SpE K R vs H Q E := by
    intro vs H Q E h
    obtain ⟨Fi, ds, x, h1, h2⟩ := h
    rcases h2 with ⟨m, d, h3, _⟩ | ⟨x, h3, _⟩
    · rw [hR] at h3; cases h3
    · rw [hR] at h3; cases h3
  exact ⟨fun vs H Q E h => (key h).elim, fun A outer s H args us vs Q E _ _ _ _ h => (key h).elim⟩
/-- all the defs keep their promises -/
theorem defs_ok {T : List (Str × CDef)} (hT : ∀ g ∈ T.map (·.1), ∃ ps, DefAt K mg T g ps) (hb : ∀ y ∈ bNames, y ∉ T.map (·.1) → mg y = none) (hd : ("__debug__" : Str) ∉ T.map (·.1)) : ∀ k, ∀ g ∈ T.map (·.1), ∃ ps, HasX P w K mg base g k ps (SpE K (evF T k g))
  | 0, g, hg => by
    obtain ⟨ps, st, f, fd, N, n, c, F, S, h1, h2, h3, h4, h5⟩ := hT g hg
    exact ⟨ps, f, fd, fn_none fun ds => rfl, h1, h2, h3⟩
  | k + 1, g, hg => by
    obtain ⟨ps, st, f, fd, N, n, c, F, S, h1, h2, h3, h4, h5⟩ := hT g hg
    have ih := defs_ok hT hb hd k
    refine ⟨ps, f, fd, ?_, h1, h2, h3⟩
    have := fn_ok (P := P) (w := w) (base := base) F S (O := ⟨evF T k⟩) h4 hb hd ih
    have e : evF T (k + 1) g = evD ⟨evF T k⟩ ⟨N.length, ps.length, c⟩ := by
      funext ds
      simp only [evF, h5]
    rw [e]
    exact this
/-- the law's own def -/
theorem law_ok {T : List (Str × CDef)} (hT : ∀ g ∈ T.map (·.1), ∃ ps, DefAt K mg T g ps) (hb : ∀ y ∈ bNames, y ∉ T.map (·.1) → mg y = none) (hd : ("__debug__" : Str) ∉ T.map (·.1)) {k : Nat} {x : Str} {ps : List Str} {st : Stmt} {f : Addr} {fd : FuncData} {N : List Str} {n : Nat} {c : CSs}
    (F : Fun K x x st f fd) (S : FnScope N ps (defScope st)) (h4 : cSs ⟨N, defScope st, defScope st, T.map (·.1)⟩ n (defBody st) = some c) (h5 : T.lookup x = some ⟨N.length, ps.length, c⟩) : FnOk P w K mg base (L2.CX P w) (k + 1) f fd ps (SpE K (evF T (k + 1) x)) := by
  have e : evF T (k + 1) x = evD ⟨evF T k⟩ ⟨N.length, ps.length, c⟩ := by
    funext ds
    simp only [evF, h5]
  rw [e]
  exact fn_ok F S (O := ⟨evF T k⟩) h4 hb hd (defs_ok hT hb hd k)
theorem law_sp {R : List D → Option Res} {H : Hp} {a : Addr} {ns : List Int} {Q : VK} {E : XK} (hS : SqL K H a (ns.map V.int)) (h : R [.scr ns] = some (.ok .f (.bl true))) (q : ∀ v H', v = .bl true → Q v H') : SpE K R [.ref a] H Q E :=
  ⟨H, [.scr ns], Ex.refl _, .cons (.fz (.scr hS)) .nil, .inl ⟨.f, .bl true, h, .inl rfl, fun v F' H' _ dv => q v H' (Dt.bl_inv dv)⟩⟩
end
end QL

end
section
set_option maxRecDepth 100000
set_option maxHeartbeats 4000000
namespace QL
open PySem PySem.Spec PyProof.Rows L2 Evl
/-! ### the evaluator, step by step, for rewriting -/
def varS : Option Sl → Option Rv
  | some (.dat d) => some (.v .f d)
  | some (.bor d) => some (.v (nrm .b d) d)
  | some (.own ds) => some (.v .o (.lst ds))
  | some (.ownD ks ds) => some (.v .o (.dic ks ds))
  | _ => none
def op2 (f : Md → D → Md → D → Option Rv) (a b : Option Rv) : Option Rv := bv a fun m1 d1 => bv b fun m2 d2 => f m1 d1 m2 d2
def cmpV (o : CO) (_ : Md) (d1 : D) (_ : Md) (d2 : D) : Option Rv := (cmpD o d1 d2).bind fun b => fv (.bl b)
def ixV (m : Md) (d : D) (_ : Md) (e : D) : Option Rv := match e with | .int i => ixD m d i | _ => none
def b2V (f : B2) (_ : Md) (d : D) (_ : Md) (e : D) : Option Rv := b2D f d e
def negV (_ : Md) (d : D) : Option Rv := match d with | .int i => fv (.int (-i)) | _ => none
def notV (_ : Md) (d : D) : Option Rv := match d with | .bl b => fv (.bl (!b)) | _ => none
def isiV (T : String) (_ : Md) (d : D) : Option Rv := isiD d T
def blV (_ : Md) (e : D) : Option Rv := match e with | .bl y => fv (.bl y) | _ => none
def andR (O : Orc) (b : CE) (ρ : List Sl) : Option Rv → Option Rv := fun r => bv r fun _ d => match d with
    | .bl true => bv (evE O b ρ) fun _ e => match e with | .bl y => fv (.bl y) | _ => none
    | .bl false => fv (.bl false)
    | _ => none
def orR (O : Orc) (b : CE) (ρ : List Sl) : Option Rv → Option Rv := fun r => bv r fun _ d => match d with
    | .bl false => bv (evE O b ρ) fun _ e => match e with | .bl y => fv (.bl y) | _ => none
    | .bl true => fv (.bl true)
    | _ => none
def ifE (O : Orc) (a b : CE) (ρ : List Sl) : Option Bool → Option Rv := fun r => r.bind fun c => if c = true then evE O a ρ else evE O b ρ
def tupR : Option Ra → Option Rv := fun r => r.bind fun r => match r with
    | .v ms => if ms.length ≤ 100000 then (if allCf ms = true then fv (.tup (ms.map (·.2))) else if immA (ms.map (·.2)) = false then some (.v .h (.tup (ms.map (·.2)))) else none) else none
    | .x e => some (.x e)
def lstR : Option Ra → Option Rv := fun r => r.bind fun r => match r with
    | .v ms => if ms.length ≤ 100000 then (if allCf ms = true then some (.v .n (.lst (ms.map (·.2)))) else some (.v .h (.lst (ms.map (·.2))))) else none
    | .x e => some (.x e)
def callQ : Option Res → Option Rv
  | some (.ok m d) => if m = .f ∨ m = .n then some (.v m d) else none
  | some (.er e) => some (.x e)
  | none => none
def callR (F : List D → Option Res) : Option Ra → Option Rv := fun r => r.bind fun r => match r with
    | .v ms => callQ (F (ms.map (·.2)))
    | .x e => some (.x e)
def chainR (o o' : CO) : Option Rv → Option Rv → Option Rv → Option Rv
  | some (.v _ (.int i)), some (.v _ (.int j)), some (.v _ (.int k)) => (cmpI o i j).bind fun x => (cmpI o' j k).bind fun y => if (o = .eq ∨ o = .ne ∨ o' = .eq ∨ o' = .ne) then none else fv (.bl (x && y))
  | _, _, _ => none
def elt1 : Option Rv → Option (List (Md × D))
  | some (.v m d) => some [(m, d)]
  | _ => none
def ifL (O : Orc) (e : CE) (ρ : List Sl) : Option Bool → Option (List (Md × D)) := fun r => r.bind fun c => if c = true then elt1 (evE O e ρ) else some []
def lcB (O : Orc) (t : CT) (e : CE) : Option (List Sl) → Option (List (Md × D)) := fun r => r.bind fun ρ1 => ifL O e ρ1 (evT O t ρ1)
def lcBody (O : Orc) (pt : Pat) (t : CT) (e : CE) (ρ0 : List Sl) (it : Item) : Option (List (Md × D)) := lcB O t e (bindP pt ρ0 it)
def lcR (O : Orc) (pt : Pat) (t : CT) (e : CE) (ρ0 : List Sl) : Option Rs → Option Rv := fun r => r.bind fun r => match r with
    | .v _ its => (lcGo (lcBody O pt t e ρ0) its).bind lcD
def lc2I (O : Orc) (pt1 : Pat) (t1 : CT) (e : CE) (ρ0 : List Sl) : Option Rs → Option (List (Md × D)) := fun r => r.bind fun r1 => match r1 with
          | .v true its1 => lcGo (lcBody O pt1 t1 e ρ0) its1
          | _ => none
def ifL2 (O : Orc) (pt1 : Pat) (src1 : CSrc) (t1 : CT) (vs1 : List Nat) (e : CE) (ρ : List Sl) : Option Bool → Option (List (Md × D)) := fun r => r.bind fun c => if c = true then lc2I O pt1 t1 e (wipeR ρ vs1) (evSrc O src1 ρ) else some []
def lcB2 (O : Orc) (t : CT) (pt1 : Pat) (src1 : CSrc) (t1 : CT) (vs1 : List Nat) (e : CE) : Option (List Sl) → Option (List (Md × D)) := fun r => r.bind fun ρ1 => ifL2 O pt1 src1 t1 vs1 e ρ1 (evT O t ρ1)
def lcBody2 (O : Orc) (pt : Pat) (t : CT) (pt1 : Pat) (src1 : CSrc) (t1 : CT) (vs1 : List Nat) (e : CE) (ρ0 : List Sl) (it : Item) : Option (List (Md × D)) := lcB2 O t pt1 src1 t1 vs1 e (bindP pt ρ0 it)
def lcR2 (O : Orc) (pt : Pat) (t : CT) (pt1 : Pat) (src1 : CSrc) (t1 : CT) (vs1 : List Nat) (e : CE) (ρ0 : List Sl) : Option Rs → Option Rv := fun r => r.bind fun r => match r with
    | .v _ its => (lcGo (lcBody2 O pt t pt1 src1 t1 vs1 e ρ0) its).bind lcD
def consR : Option Rv → Option Ra → Option Ra
  | some (.v m d), r => r.bind fun x => match x with
      | .v ms => some (.v ((m, d) :: ms))
      | .x e => some (.x e)
  | some (.x e), _ => some (.x e)
  | none, _ => none
def r1R : Option Rv → Option Rs
  | some (.v _ (.int n)) => if -100000 ≤ n ∧ n ≤ 100000 then some (.v true (rngIt 0 n.toNat)) else none
  | _ => none
def r2R : Option Rv → Option Rv → Option Rs
  | some (.v _ (.int lo)), some (.v _ (.int n)) => if -100000 ≤ n ∧ n ≤ 100000 ∧ -100000 ≤ lo ∧ lo ≤ 100000 then some (.v true (rngIt lo (n - lo).toNat)) else none
  | _, _ => none
def seqR : Option Rv → Option Rs
  | some (.v m d) => srcD m d
  | _ => none
def tstR : Option Rv → Option Bool
  | some (.v _ d) => truthD d
  | _ => none
def andT (O : Orc) (b : CT) (ρ : List Sl) : Option Bool → Option Bool := fun r => r.bind fun c => if c = true then evT O b ρ else some false
def orT (O : Orc) (b : CT) (ρ : List Sl) : Option Bool → Option Bool := fun r => r.bind fun c => if c = true then some true else evT O b ρ
def thenS (O : Orc) (r : CSs) : Option Out → Option Out := fun o => o.bind fun o => match o with
    | .nx ρ1 => evSs O r ρ1
    | o => some o
def setQ (i : Nat) (ρ : List Sl) : Option Sl → Option Out := fun s => s.map fun s => .nx (ρ.set i s)
def setR (i : Nat) (ρ : List Sl) : Option Rv → Option Out
  | some (.v m d) => setQ i ρ (slotV m d)
  | _ => none
def patR (p : Pat) (ρ : List Sl) : Option Rv → Option Out
  | some (.v m d) => if m = .n then none else (bindP p ρ (.one m d)).map .nx
  | _ => none
def setiR (i : Nat) (ρ : List Sl) : Option Rv → Option Rv → Option Sl → Option Out
  | some (.v m d), some (.v _ (.int n)), some (.own ds) => if cf m d = true then (ixN ds.length n).map fun k => .nx (ρ.set i (.own (ds.set k d))) else none
  | _, _, _ => none
def appR (i : Nat) (ρ : List Sl) : Option Rv → Option Sl → Option Out
  | some (.v m d), some (.own ds) => if cf m d = true ∧ ds.length < 100000 then some (.nx (ρ.set i (.own (ds ++ [d])))) else none
  | _, _ => none
def insR (i : Nat) (ρ : List Sl) : Option Rv → Option Rv → Option Sl → Option Out
  | some (.v _ (.int n)), some (.v m d), some (.own ds) => if cf m d = true ∧ ds.length < 100000 ∧ 0 ≤ n ∧ n < 2 ^ 63 then some (.nx (ρ.set i (.own (ds.take n.toNat ++ [d] ++ ds.drop n.toNat)))) else none
  | _, _, _ => none
def ifS (O : Orc) (a b : CSs) (ρ : List Sl) : Option Bool → Option Out := fun r => r.bind fun c => if c = true then evSs O a ρ else evSs O b ρ
def forR (O : Orc) (p : Pat) (body : CSs) (ρ : List Sl) : Option Rs → Option Out
  | some (.v true its) => forGo p (evSs O body) its ρ
  | _ => none
def retV : Option Sl → Option Out
    | some (.own ds) => some (.rt .n (.lst ds))
    | some (.ownD ks ds) => some (.rt .n (.dic ks ds))
    | some (.dat d) => some (.rt .f d)
    | some (.bor d) => some (.rt (nrm .b d) d)
    | _ => none
def retR : Option Rv → Option Out
  | some (.v m d) => some (.rt m d)
  | _ => none
def exprR (ρ : List Sl) : Option Rv → Option Out
  | some (.v _ _) => some (.nx ρ)
  | _ => none
section
variable {O : Orc} {ρ : List Sl} {i : Nat} {a b c e t k : CE} {es : CEs} {o o' : CO} {m m1 m2 : Md} {d d1 d2 : D} {x : Er}
theorem ev_var : evE O (.var i) ρ = varS ρ[i]? := by
  simp only [evE, varD]; cases ρ[i]? with
  | none => rfl
  | some s => cases s <;> rfl
theorem ev_int {n : Int} : evE O (.int n) ρ = some (.v .f (.int n)) := rfl
theorem ev_bl {n : Bool} : evE O (.bl n) ρ = some (.v .f (.bl n)) := rfl
theorem ev_str {n : Str} : evE O (.str n) ρ = some (.v .f (.str n)) := rfl
theorem ev_non : evE O .non ρ = some (.v .f .non) := rfl
theorem ev_bin {q : BO} : evE O (.bin q a b) ρ = op2 (binD q) (evE O a ρ) (evE O b ρ) := rfl
theorem ev_cmp : evE O (.cmp o a b) ρ = op2 (cmpV o) (evE O a ρ) (evE O b ρ) := rfl
theorem ev_chain : evE O (.chain o o' a b c) ρ = chainR o o' (evE O a ρ) (evE O b ρ) (evE O c ρ) := rfl
theorem ev_neg : evE O (.neg a) ρ = bv (evE O a ρ) negV := rfl
theorem ev_not : evE O (.not a) ρ = bv (evE O a ρ) notV := rfl
theorem ev_and : evE O (.and a b) ρ = andR O b ρ (evE O a ρ) := rfl
theorem ev_or : evE O (.or a b) ρ = orR O b ρ (evE O a ρ) := rfl
theorem ev_ife {t : CT} : evE O (.ife t a b) ρ = ifE O a b ρ (evT O t ρ) := rfl
theorem ev_ix : evE O (.ix a b) ρ = op2 ixV (evE O a ρ) (evE O b ρ) := rfl
theorem ev_tup : evE O (.tup es) ρ = tupR (evEs O es ρ) := rfl
theorem ev_lst : evE O (.lst es) ρ = lstR (evEs O es ρ) := rfl
theorem ev_call {g : Str} : evE O (.call g es) ρ = callR (O.call g) (evEs O es ρ) := by
  simp only [evE, callR]
  rcases evEs O es ρ with _ | r
  · rfl
  · cases r with
    | x e => rfl
    | v ms =>
      simp only [Option.bind_some]
      rcases O.call g (ms.map (·.2)) with _ | r
      · rfl
      · cases r <;> rfl
theorem ev_b1 {f : B1} : evE O (.b1 f a) ρ = bv (evE O a ρ) (b1D f) := rfl
theorem ev_b2 {f : B2} : evE O (.b2 f a b) ρ = op2 (b2V f) (evE O a ρ) (evE O b ρ) := rfl
theorem ev_isi {T : String} : evE O (.isi a T) ρ = bv (evE O a ρ) (isiV T) := rfl
theorem lcB_eq {pt : Pat} {t : CT} {ρ0 : List Sl} : (fun it => (bindP pt ρ0 it).bind fun ρ1 => (evT O t ρ1).bind fun c => if c = true then (match evE O e ρ1 with | some (.v m d) => some [(m, d)] | _ => none) else some []) = lcBody O pt t e ρ0 := by
  funext it
  simp only [lcBody, lcB, ifL]
  rcases bindP pt ρ0 it with _ | ρ1
  · rfl
  · simp only [Option.bind_some]
    rcases evT O t ρ1 with _ | c
    · rfl
    · cases c with
      | true =>
        simp only [Option.bind_some, if_true]
        rcases evE O e ρ1 with _ | r
        · rfl
        · cases r <;> rfl
      | false => rfl
theorem ev_lc {pt : Pat} {src : CSrc} {t : CT} {vs : List Nat} : evE O (.lc pt src t e vs) ρ = lcR O pt t e (wipeR ρ vs) (evSrc O src ρ) := by
  simp only [evE, lcB_eq]; rfl
theorem ev_lc2 {pt pt1 : Pat} {src src1 : CSrc} {t t1 : CT} {vs vs1 : List Nat} : evE O (.lc2 pt src t pt1 src1 t1 vs1 e vs) ρ = lcR2 O pt t pt1 src1 t1 vs1 e (wipeR ρ vs) (evSrc O src ρ) := by
  simp only [evE, lcB_eq]
  rfl
theorem evs_nil : evEs O .nil ρ = some (.v []) := rfl
theorem evs_cons {r : CEs} : evEs O (.cons e r) ρ = consR (evE O e ρ) (evEs O r ρ) := by
  simp only [evEs]
  rcases evE O e ρ with _ | r0
  · rfl
  · cases r0 <;> rfl
theorem src_r1' : evSrc O (.r1 a) ρ = r1R (evE O a ρ) := by
  simp only [evSrc]
  rcases evE O a ρ with _ | r0
  · rfl
  · cases r0 with
    | x => rfl
    | v m d => cases d <;> rfl
theorem src_r2' : evSrc O (.r2 a b) ρ = r2R (evE O a ρ) (evE O b ρ) := by
  simp only [evSrc]
  rcases evE O a ρ with _ | r0
  · rfl
  · cases r0 with
    | x => rfl
    | v m d =>
      cases d <;> try rfl
      rcases evE O b ρ with _ | r1
      · rfl
      · cases r1 with
        | x => rfl
        | v m d => cases d <;> rfl
theorem src_seq' : evSrc O (.seq a) ρ = seqR (evE O a ρ) := by
  simp only [evSrc]
  rcases evE O a ρ with _ | r0
  · rfl
  · cases r0 <;> rfl
theorem t_yes' : evT O .yes ρ = some true := rfl
theorem t_not' {t : CT} : evT O (.not t) ρ = (evT O t ρ).map not := rfl
theorem t_and' {t u : CT} : evT O (.and t u) ρ = andT O u ρ (evT O t ρ) := rfl
theorem t_or' {t u : CT} : evT O (.or t u) ρ = orT O u ρ (evT O t ρ) := rfl
theorem t_val' : evT O (.val a) ρ = tstR (evE O a ρ) := by
  simp only [evT]
  rcases evE O a ρ with _ | r0
  · rfl
  · cases r0 <;> rfl
/-! statements -/
theorem ss_nil : evSs O .nil ρ = some (.nx ρ) := rfl
theorem ss_cons {s : CS} {r : CSs} : evSs O (.cons s r) ρ = thenS O r (evS O s ρ) := by
  show (evS O s ρ).bind _ = (evS O s ρ).bind _
  refine congrArg (Option.bind (evS O s ρ)) (funext fun o => ?_)
  cases o <;> rfl
theorem s_set : evS O (.set i e) ρ = setR i (frzA ρ (esc e)) (evE O e (frzA ρ (esc e))) := by
  simp only [evS]
  rcases evE O e (frzA ρ (esc e)) with _ | r0
  · rfl
  · cases r0 <;> rfl
theorem s_pat {p : Pat} : evS O (.pat p e) ρ = patR p (frzA ρ (esc e)) (evE O e (frzA ρ (esc e))) := by
  simp only [evS]
  rcases evE O e (frzA ρ (esc e)) with _ | r0
  · rfl
  · cases r0 <;> rfl
theorem s_seti : evS O (.seti i k e) ρ = setiR i (frzA ρ (esc e)) (evE O e (frzA ρ (esc e))) (evE O k (frzA ρ (esc e))) (frzA ρ (esc e))[i]? := by
  simp only [evS]
  rcases evE O e (frzA ρ (esc e)) with _ | r0
  · rfl
  · cases r0 with
    | x => rfl
    | v m d =>
      rcases evE O k (frzA ρ (esc e)) with _ | r1
      · rfl
      · cases r1 with
        | x => rfl
        | v m1 d1 =>
          rcases (frzA ρ (esc e))[i]? with _ | s
          · cases d1 <;> rfl
          · cases s <;> cases d1 <;> rfl
theorem s_app : evS O (.app i e) ρ = appR i (frzA ρ (esc e)) (evE O e (frzA ρ (esc e))) (frzA ρ (esc e))[i]? := by
  simp only [evS]
  rcases evE O e (frzA ρ (esc e)) with _ | r0
  · rfl
  · cases r0 with
    | x => rfl
    | v m d =>
      rcases (frzA ρ (esc e))[i]? with _ | s
      · rfl
      · cases s <;> rfl
theorem s_ins : evS O (.ins i k e) ρ = insR i (frzA ρ (esc e)) (evE O k (frzA ρ (esc e))) (evE O e (frzA ρ (esc e))) (frzA ρ (esc e))[i]? := by
  simp only [evS]
  rcases evE O k (frzA ρ (esc e)) with _ | r0
  · rfl
  · cases r0 with
    | x => rfl
    | v m d =>
      rcases evE O e (frzA ρ (esc e)) with _ | r1
      · cases d <;> rfl
      · cases r1 with
        | x => cases d <;> rfl
        | v m1 d1 =>
          rcases (frzA ρ (esc e))[i]? with _ | s
          · cases d <;> rfl
          · cases s <;> cases d <;> rfl
theorem s_ife {t : CT} {a b : CSs} : evS O (.ife t a b) ρ = ifS O a b ρ (evT O t ρ) := rfl
theorem s_for {p : Pat} {src : CSrc} {body : CSs} : evS O (.for p src body) ρ = forR O p body (frzA ρ (srcEsc src)) (evSrc O src (frzA ρ (srcEsc src))) := by
  simp only [evS]
  rcases evSrc O src (frzA ρ (srcEsc src)) with _ | r0
  · rfl
  · cases r0 with | v st its => cases st <;> rfl
theorem s_retv : evS O (.ret (.var i)) ρ = retV ρ[i]? := by
  simp only [evS]
  rcases ρ[i]? with _ | s
  · rfl
  · cases s <;> rfl
theorem s_ret (h : ∀ i, e ≠ .var i) : evS O (.ret e) ρ = retR (evE O e (frzA ρ (esc e))) := by
  cases e with
  | var i => exact absurd rfl (h i)
  | _ =>
    simp only [evS]
    split <;> simp only [retR, *]
theorem s_expr : evS O (.expr e) ρ = exprR ρ (evE O e ρ) := by
  simp only [evS]
  rcases evE O e ρ with _ | r0
  · rfl
  · cases r0 <;> rfl
theorem s_pass : evS O .pass ρ = some (.nx ρ) := rfl
theorem s_brk : evS O .brk ρ = some (.bk ρ) := rfl
theorem s_cont : evS O .cont ρ = some (.ct ρ) := rfl
end
end QL

end
section
set_option maxRecDepth 100000
set_option maxHeartbeats 4000000
namespace QL
open PySem PySem.Spec PyProof.Rows L2 Evl
section
variable {O : Orc} {ρ ρ1 : List Sl} {i : Nat} {a b c e t k : CE} {es : CEs} {o : CO} {m m1 m2 : Md} {d d1 d2 : D} {ds : List D} {x y : Bool} {n n' : Int}
theorem varS_dat : varS (some (.dat d)) = some (.v .f d) := rfl
theorem varS_bor : varS (some (.bor d)) = some (.v (nrm .b d) d) := rfl
theorem varS_own : varS (some (.own ds)) = some (.v .o (.lst ds)) := rfl
theorem varS_ownD {ks : List Key} : varS (some (.ownD ks ds)) = some (.v .o (.dic ks ds)) := rfl
theorem nrm_int : nrm m (.int n) = .f := rfl
theorem nrm_bl : nrm m (.bl x) = .f := rfl
theorem nrm_str {s : Str} : nrm m (.str s) = .f := rfl
theorem nrm_non : nrm m .non = .f := rfl
theorem nrm_scr {ns : List Int} : nrm m (.scr ns) = .f := rfl
theorem nrm_obj {C : Addr} {fs : List Str} : nrm m (.obj C fs ds) = .f := rfl
theorem nrm_lst : nrm m (.lst ds) = m := rfl
theorem nrm_dic {ks : List Key} : nrm m (.dic ks ds) = m := rfl
theorem nrm_f : nrm .f d = .f := by unfold nrm; split <;> rfl
theorem nrm_tup : nrm m (.tup ds) = if immA ds = true then .f else m := rfl
theorem imm_int : imm (.int n) = true := rfl
theorem imm_bl : imm (.bl x) = true := rfl
theorem imm_str {s : Str} : imm (.str s) = true := rfl
theorem imm_non : imm .non = true := rfl
theorem imm_scr {ns : List Int} : imm (.scr ns) = true := rfl
theorem imm_lst : imm (.lst ds) = false := rfl
theorem imm_tup : imm (.tup ds) = immA ds := rfl
theorem imm_dic {ks : List Key} : imm (.dic ks ds) = false := rfl
theorem imm_obj {C : Addr} {fs : List Str} : imm (.obj C fs ds) = true := rfl
theorem immA_nil : immA [] = true := rfl
theorem immA_cons : immA (d :: ds) = (imm d && immA ds) := rfl
theorem op2_vv {f : Md → D → Md → D → Option Rv} : op2 f (some (.v m1 d1)) (some (.v m2 d2)) = f m1 d1 m2 d2 := rfl
theorem bin_add : binD .add m1 (.int n) m2 (.int n') = some (.v .f (.int (n + n'))) := rfl
theorem bin_sub : binD .sub m1 (.int n) m2 (.int n') = some (.v .f (.int (n - n'))) := rfl
theorem cmp_lt : cmpV .lt m1 (.int n) m2 (.int n') = some (.v .f (.bl (decide (n < n')))) := rfl
theorem cmp_le : cmpV .le m1 (.int n) m2 (.int n') = some (.v .f (.bl (decide (n ≤ n')))) := rfl
theorem cmp_gt : cmpV .gt m1 (.int n) m2 (.int n') = some (.v .f (.bl (decide (n' < n)))) := rfl
theorem cmp_ge : cmpV .ge m1 (.int n) m2 (.int n') = some (.v .f (.bl (decide (n' ≤ n)))) := rfl
theorem cmp_eq : cmpV .eq m1 (.int n) m2 (.int n') = some (.v .f (.bl (decide (n = n')))) := rfl
theorem cmp_ne : cmpV .ne m1 (.int n) m2 (.int n') = some (.v .f (.bl (!decide (n = n')))) := rfl
theorem cmp_eqb : cmpV .eq m1 (.bl x) m2 (.bl y) = some (.v .f (.bl (decide (x = y)))) := rfl
theorem cmp_neb : cmpV .ne m1 (.bl x) m2 (.bl y) = some (.v .f (.bl (!decide (x = y)))) := rfl
theorem cmp_isb : cmpV .is m1 (.bl x) m2 (.bl y) = some (.v .f (.bl (decide (x = y)))) := rfl
theorem cmp_isnb : cmpV .isnot m1 (.bl x) m2 (.bl y) = some (.v .f (.bl (!decide (x = y)))) := rfl
theorem cmp_eqs {s s' : Str} : cmpV .eq m1 (.str s) m2 (.str s') = some (.v .f (.bl (decide (s = s')))) := rfl
theorem cmp_nes {s s' : Str} : cmpV .ne m1 (.str s) m2 (.str s') = some (.v .f (.bl (!decide (s = s')))) := rfl
def isNon : D → Bool | .non => true | _ => false
theorem isNon_non : isNon (.non) = true := rfl
theorem isNon_int : isNon (.int n) = false := rfl
theorem isNon_bl : isNon (.bl x) = false := rfl
theorem isNon_lst : isNon (.lst ds) = false := rfl
theorem isNon_tup : isNon (.tup ds) = false := rfl
theorem isNon_str {s : Str} : isNon (.str s) = false := rfl
theorem isNon_obj {C : Addr} {fs : List Str} : isNon (.obj C fs ds) = false := rfl
theorem isNon_dic {ks : List Key} : isNon (.dic ks ds) = false := rfl
theorem cmp_is : cmpV .is m1 d m2 .non = some (.v .f (.bl (isNon d))) := by cases d <;> rfl
theorem cmp_isn : cmpV .isnot m1 d m2 .non = some (.v .f (.bl (!isNon d))) := by cases d <;> rfl
def ixQ (m : Md) : Option D → Option Rv | some e => some (.v (nrm (ixm m) e) e) | none => none
theorem ixQ_some : ixQ m (some d) = some (.v (nrm (ixm m) d) d) := rfl
theorem ix_lst : ixV m1 (.lst ds) m2 (.int n) = ixQ m1 (atI ds n) := by simp only [ixV, ixD]; cases atI ds n <;> rfl
theorem ix_tup : ixV m1 (.tup ds) m2 (.int n) = ixQ m1 (atI ds n) := by simp only [ixV, ixD]; cases atI ds n <;> rfl
theorem ix_scr {ns : List Int} : ixV m1 (.scr ns) m2 (.int n) = (atI ns n).map fun n => .v .f (.int n) := rfl
theorem ixm_f : ixm .f = .f := rfl
theorem ixm_n : ixm .n = .f := rfl
theorem ixm_o : ixm .o = .f := rfl
theorem ixm_b : ixm .b = .b := rfl
theorem ixm_h : ixm .h = .h := rfl
theorem len_lst : b1D .len m (.lst ds) = some (.v .f (.int ds.length)) := rfl
theorem len_tup : b1D .len m (.tup ds) = some (.v .f (.int ds.length)) := rfl
theorem len_scr {ns : List Int} : b1D .len m (.scr ns) = some (.v .f (.int ns.length)) := rfl
theorem int_int : b1D .int m (.int n) = some (.v .f (.int n)) := rfl
theorem max_ii : b2V .max m1 (.int n) m2 (.int n') = some (.v .f (.int (max n n'))) := rfl
theorem min_ii : b2V .min m1 (.int n) m2 (.int n') = some (.v .f (.int (min n n'))) := rfl
theorem neg_i : negV m (.int n) = some (.v .f (.int (-n))) := rfl
theorem not_b : notV m (.bl x) = some (.v .f (.bl (!x))) := rfl
theorem bv_v1 {f : Md → D → Option Rv} : bv (some (.v m d)) f = f m d := rfl
theorem list_lst : b1D .list m (.lst ds) = if itF m ds = true then some (.v .n (.lst ds)) else some (.v .h (.lst ds)) := rfl
theorem list_tup : b1D .list m (.tup ds) = if itF m ds = true then some (.v .n (.lst ds)) else some (.v .h (.lst ds)) := rfl
theorem tuple_lst : b1D .tuple m (.lst ds) = if itF m ds = true then some (.v .f (.tup ds)) else none := rfl
theorem tuple_tup : b1D .tuple m (.tup ds) = some (.v (nrm m (.tup ds)) (.tup ds)) := rfl
theorem itF_f : itF .f ds = true := by simp [itF]
theorem itF_n : itF .n ds = true := by simp [itF]
theorem itF_o : itF .o ds = true := by simp [itF]
theorem itF_b : itF .b ds = immA ds := by simp [itF]
theorem itF_h : itF .h ds = immA ds := by simp [itF]
theorem cf_f : cf .f d = true := by simp [cf]
theorem cf_n : cf .n d = true := by simp [cf]
theorem cf_b : cf .b d = imm d := by simp [cf]
theorem cf_h : cf .h d = imm d := by simp [cf]
theorem cf_o : cf .o d = imm d := by simp [cf]
theorem allCf_nil : allCf [] = true := rfl
theorem allCf_cons {l : List (Md × D)} : allCf ((m, d) :: l) = (cf m d && allCf l) := rfl
theorem tst_v : tstR (some (.v m d)) = truthD d := rfl
theorem truth_bl : truthD (.bl x) = some x := rfl
theorem truth_lst : truthD (.lst ds) = some (!ds.isEmpty) := rfl
theorem andT_t {u : CT} : andT O u ρ (some true) = evT O u ρ := rfl
theorem andT_f {u : CT} : andT O u ρ (some false) = some false := rfl
theorem orT_t {u : CT} : orT O u ρ (some true) = some true := rfl
theorem orT_f {u : CT} : orT O u ρ (some false) = evT O u ρ := rfl
theorem andR_t : andR O b ρ (some (.v m (.bl true))) = bv (evE O b ρ) blV := rfl
theorem andR_f : andR O b ρ (some (.v m (.bl false))) = some (.v .f (.bl false)) := rfl
theorem orR_f : orR O b ρ (some (.v m (.bl false))) = bv (evE O b ρ) blV := rfl
theorem orR_t : orR O b ρ (some (.v m (.bl true))) = some (.v .f (.bl true)) := rfl
theorem blV_b : blV m (.bl x) = some (.v .f (.bl x)) := rfl
theorem ifE_t : ifE O a b ρ (some true) = evE O a ρ := rfl
theorem ifE_f : ifE O a b ρ (some false) = evE O b ρ := rfl
theorem ifS_t {p q : CSs} : ifS O p q ρ (some true) = evSs O p ρ := rfl
theorem ifS_f {p q : CSs} : ifS O p q ρ (some false) = evSs O q ρ := rfl
theorem ifL_t : ifL O e ρ (some true) = elt1 (evE O e ρ) := rfl
theorem ifL_f : ifL O e ρ (some false) = some [] := rfl
theorem elt1_v : elt1 (some (.v m d)) = some [(m, d)] := rfl
theorem lcB_s {u : CT} : lcB O u e (some ρ1) = ifL O e ρ1 (evT O u ρ1) := rfl
theorem lcR_v {pt : Pat} {u : CT} {st : Bool} {its : List Item} : lcR O pt u e ρ (some (.v st its)) = (lcGo (lcBody O pt u e ρ) its).bind lcD := rfl
theorem lcR2_v {pt pt1 : Pat} {u u1 : CT} {src1 : CSrc} {vs1 : List Nat} {st : Bool} {its : List Item} : lcR2 O pt u pt1 src1 u1 vs1 e ρ (some (.v st its)) = (lcGo (lcBody2 O pt u pt1 src1 u1 vs1 e ρ) its).bind lcD := rfl
theorem thenS_nx {r : CSs} : thenS O r (some (.nx ρ)) = evSs O r ρ := rfl
theorem thenS_rt {r : CSs} : thenS O r (some (.rt m d)) = some (.rt m d) := rfl
theorem thenS_bk {r : CSs} : thenS O r (some (.bk ρ)) = some (.bk ρ) := rfl
theorem thenS_ct {r : CSs} : thenS O r (some (.ct ρ)) = some (.ct ρ) := rfl
theorem setR_v : setR i ρ (some (.v m d)) = setQ i ρ (slotV m d) := rfl
theorem setQ_s {s : Sl} : setQ i ρ (some s) = some (.nx (ρ.set i s)) := rfl
theorem slotV_f : slotV .f d = some (.dat d) := by unfold slotV; split <;> rfl
theorem slotV_n : slotV .n (.lst ds) = some (.own ds) := rfl
theorem slotV_nd {ks : List Key} : slotV .n (.dic ks ds) = some (.ownD ks ds) := rfl
theorem slotV_bl : slotV .b (.lst ds) = some (.bor (.lst ds)) := rfl
theorem slotV_bt (h : immA ds = false) : slotV .b (.tup ds) = some (.bor (.tup ds)) := by simp [slotV, imm, h]
theorem patR_v {p : Pat} : patR p ρ (some (.v m d)) = if m = .n then none else (bindP p ρ (.one m d)).map .nx := rfl
theorem setiR_v : setiR i ρ (some (.v m d)) (some (.v m1 (.int n))) (some (.own ds)) = if cf m d = true then (ixN ds.length n).map fun k => .nx (ρ.set i (.own (ds.set k d))) else none := rfl
theorem appR_v (hc : cf m d = true) (hl : ds.length < 100000) : appR i ρ (some (.v m d)) (some (.own ds)) = some (.nx (ρ.set i (.own (ds ++ [d])))) := if_pos ⟨hc, hl⟩
theorem insR_v (hc : cf m d = true) (hl : ds.length < 100000) (h0 : 0 ≤ n) (h1 : n < 2 ^ 63) : insR i ρ (some (.v m1 (.int n))) (some (.v m d)) (some (.own ds)) = some (.nx (ρ.set i (.own (ds.take n.toNat ++ [d] ++ ds.drop n.toNat)))) := if_pos ⟨hc, hl, h0, h1⟩
theorem forR_v {p : Pat} {body : CSs} {its : List Item} : forR O p body ρ (some (.v true its)) = forGo p (evSs O body) its ρ := rfl
theorem retV_own : retV (some (.own ds)) = some (.rt .n (.lst ds)) := rfl
theorem retV_dat : retV (some (.dat d)) = some (.rt .f d) := rfl
theorem retV_bor : retV (some (.bor d)) = some (.rt (nrm .b d) d) := rfl
theorem retV_ownD {ks : List Key} : retV (some (.ownD ks ds)) = some (.rt .n (.dic ks ds)) := rfl
theorem retR_v : retR (some (.v m d)) = some (.rt m d) := rfl
theorem exprR_v : exprR ρ (some (.v m d)) = some (.nx ρ) := rfl
theorem ret_tup  : evS O (.ret (.tup es)) ρ = retR (evE O (.tup es) (frzA ρ (esc (.tup es)))) := s_ret fun i z => by cases z
theorem esc_tup  : esc (.tup es) = escs es := rfl
theorem ret_lst  : evS O (.ret (.lst es)) ρ = retR (evE O (.lst es) (frzA ρ (esc (.lst es)))) := s_ret fun i z => by cases z
theorem esc_lst  : esc (.lst es) = escs es := rfl
theorem ret_bin {q : BO} : evS O (.ret (.bin q a b)) ρ = retR (evE O (.bin q a b) (frzA ρ (esc (.bin q a b)))) := s_ret fun i z => by cases z
theorem esc_bin {q : BO} : esc (.bin q a b) = [] := rfl
theorem ret_cmp  : evS O (.ret (.cmp o a b)) ρ = retR (evE O (.cmp o a b) (frzA ρ (esc (.cmp o a b)))) := s_ret fun i z => by cases z
theorem esc_cmp  : esc (.cmp o a b) = [] := rfl
theorem ret_neg  : evS O (.ret (.neg a)) ρ = retR (evE O (.neg a) (frzA ρ (esc (.neg a)))) := s_ret fun i z => by cases z
theorem esc_neg  : esc (.neg a) = [] := rfl
theorem ret_not  : evS O (.ret (.not a)) ρ = retR (evE O (.not a) (frzA ρ (esc (.not a)))) := s_ret fun i z => by cases z
theorem esc_not  : esc (.not a) = [] := rfl
theorem ret_and  : evS O (.ret (.and a b)) ρ = retR (evE O (.and a b) (frzA ρ (esc (.and a b)))) := s_ret fun i z => by cases z
theorem esc_and  : esc (.and a b) = [] := rfl
theorem ret_or  : evS O (.ret (.or a b)) ρ = retR (evE O (.or a b) (frzA ρ (esc (.or a b)))) := s_ret fun i z => by cases z
theorem esc_or  : esc (.or a b) = [] := rfl
theorem ret_ix  : evS O (.ret (.ix a b)) ρ = retR (evE O (.ix a b) (frzA ρ (esc (.ix a b)))) := s_ret fun i z => by cases z
theorem esc_ix  : esc (.ix a b) = [] := rfl
theorem ret_b1 {f1 : B1} : evS O (.ret (.b1 f1 a)) ρ = retR (evE O (.b1 f1 a) (frzA ρ (esc (.b1 f1 a)))) := s_ret fun i z => by cases z
theorem esc_b1 {f1 : B1} : esc (.b1 f1 a) = [] := rfl
theorem ret_b2 {f2 : B2} : evS O (.ret (.b2 f2 a b)) ρ = retR (evE O (.b2 f2 a b) (frzA ρ (esc (.b2 f2 a b)))) := s_ret fun i z => by cases z
theorem esc_b2 {f2 : B2} : esc (.b2 f2 a b) = [] := rfl
theorem ret_isi {z : String} : evS O (.ret (.isi a z)) ρ = retR (evE O (.isi a z) (frzA ρ (esc (.isi a z)))) := s_ret fun i z => by cases z
theorem esc_isi {z : String} : esc (.isi a z) = [] := rfl
theorem ret_call {g : Str} : evS O (.ret (.call g es)) ρ = retR (evE O (.call g es) (frzA ρ (esc (.call g es)))) := s_ret fun i z => by cases z
theorem esc_call {g : Str} : esc (.call g es) = [] := rfl
theorem ret_int  : evS O (.ret (.int n)) ρ = retR (evE O (.int n) (frzA ρ (esc (.int n)))) := s_ret fun i z => by cases z
theorem esc_int  : esc (.int n) = [] := rfl
theorem ret_bl  : evS O (.ret (.bl x)) ρ = retR (evE O (.bl x) (frzA ρ (esc (.bl x)))) := s_ret fun i z => by cases z
theorem esc_bl  : esc (.bl x) = [] := rfl
theorem ret_ife {u : CT} : evS O (.ret (.ife u a b)) ρ = retR (evE O (.ife u a b) (frzA ρ (esc (.ife u a b)))) := s_ret fun i z => by cases z
theorem esc_ife {u : CT} : esc (.ife u a b) = esc a ++ esc b := rfl
theorem ret_str {s : Str} : evS O (.ret (.str s )) ρ = retR (evE O (.str s ) (frzA ρ (esc (.str s )))) := s_ret fun i z => by cases z
theorem esc_str {s : Str} : esc (.str s ) = [] := rfl
theorem ret_chain {o2 : CO} : evS O (.ret (.chain o o2 a b c)) ρ = retR (evE O (.chain o o2 a b c) (frzA ρ (esc (.chain o o2 a b c)))) := s_ret fun i z => by cases z
theorem esc_chain {o2 : CO} : esc (.chain o o2 a b c) = [] := rfl
theorem ret_non : evS O (.ret .non) ρ = retR (evE O .non (frzA ρ (esc .non))) := s_ret fun i z => by cases z
theorem esc_non : esc .non = [] := rfl
theorem ret_lc {pt : Pat} {src : CSrc} {u : CT} {vs : List Nat} : evS O (.ret (.lc pt src u e vs)) ρ = retR (evE O (.lc pt src u e vs) (frzA ρ (esc (.lc pt src u e vs)))) := s_ret fun i z => by cases z
theorem esc_lc {pt : Pat} {src : CSrc} {u : CT} {vs : List Nat} : esc (.lc pt src u e vs) = [] := rfl
theorem ret_lc2 {pt pt1 : Pat} {src src1 : CSrc} {u u1 : CT} {vs vs1 : List Nat} : evS O (.ret (.lc2 pt src u pt1 src1 u1 vs1 e vs)) ρ = retR (evE O (.lc2 pt src u pt1 src1 u1 vs1 e vs) (frzA ρ (esc (.lc2 pt src u pt1 src1 u1 vs1 e vs)))) := s_ret fun i z => by cases z
theorem esc_lc2 {pt pt1 : Pat} {src src1 : CSrc} {u u1 : CT} {vs vs1 : List Nat} : esc (.lc2 pt src u pt1 src1 u1 vs1 e vs) = [] := rfl
theorem esc_var : esc (.var i) = [i] := rfl
theorem escs_nil : escs .nil = [] := rfl
theorem escs_cons {r : CEs} : escs (.cons e r) = esc e ++ escs r := rfl
theorem frzA_nil : frzA ρ [] = ρ := rfl
theorem frzA_cons {l : List Nat} : frzA ρ (i :: l) = frzA (ρ.set i (frzS (ρ.getD i .un))) l := rfl
theorem frz_dat : frzS (.dat d) = .dat d := rfl
theorem frz_bor : frzS (.bor d) = .bor d := rfl
theorem frz_own : frzS (.own ds) = .dat (.lst ds) := rfl
theorem frz_ownD {ks : List Key} : frzS (.ownD ks ds) = .dat (.dic ks ds) := rfl
theorem frz_un : frzS .un = .un := rfl
theorem srcEsc_r1 : srcEsc (.r1 a) = [] := rfl
theorem srcEsc_r2 : srcEsc (.r2 a b) = [] := rfl
theorem srcEsc_var : srcEsc (.seq (.var i)) = [i] := rfl
theorem srcEsc_call {g : Str} : srcEsc (.seq (.call g es)) = [] := rfl
theorem srcEsc_lst  : srcEsc (.seq (.lst es)) = [] := rfl
theorem srcEsc_tup  : srcEsc (.seq (.tup es)) = [] := rfl
theorem srcEsc_ix  : srcEsc (.seq (.ix a b)) = [] := rfl
theorem srcEsc_b1 {f1 : B1} : srcEsc (.seq (.b1 f1 a)) = [] := rfl
theorem srcEsc_bin {q : BO} : srcEsc (.seq (.bin q a b)) = [] := rfl
theorem callR_v {F : List D → Option Res} {ms : List (Md × D)} : callR F (some (.v ms)) = callQ (F (ms.map (·.2))) := rfl
theorem callQ_f : callQ (some (.ok .f d)) = some (.v .f d) := by simp [callQ]
theorem callQ_n : callQ (some (.ok .n d)) = some (.v .n d) := by simp [callQ]
theorem callQ_x {x : Er} : callQ (some (.er x)) = some (.x x) := rfl
theorem consR_vv {ms : List (Md × D)} : consR (some (.v m d)) (some (.v ms)) = some (.v ((m, d) :: ms)) := rfl
theorem tupR_v {ms : List (Md × D)} (h : ms.length ≤ 100000) (hc : allCf ms = true) : tupR (some (.v ms)) = some (.v .f (.tup (ms.map (·.2)))) := by simp only [tupR, Option.bind_some, if_pos h, if_pos hc, fv]
theorem lstR_v {ms : List (Md × D)} (h : ms.length ≤ 100000) (hc : allCf ms = true) : lstR (some (.v ms)) = some (.v .n (.lst (ms.map (·.2)))) := by simp only [lstR, Option.bind_some, if_pos h, if_pos hc]
theorem lstR_h {ms : List (Md × D)} (h : ms.length ≤ 100000) (hc : allCf ms = false) : lstR (some (.v ms)) = some (.v .h (.lst (ms.map (·.2)))) := by simp only [lstR, Option.bind_some, if_pos h, hc]; rfl
theorem r1R_i : r1R (some (.v m (.int n))) = if -100000 ≤ n ∧ n ≤ 100000 then some (.v true (rngIt 0 n.toNat)) else none := rfl
theorem r2R_i : r2R (some (.v m (.int n))) (some (.v m1 (.int n'))) = if -100000 ≤ n' ∧ n' ≤ 100000 ∧ -100000 ≤ n ∧ n ≤ 100000 then some (.v true (rngIt n (n' - n).toNat)) else none := rfl
theorem seqR_v : seqR (some (.v m d)) = srcD m d := rfl
theorem srcD_scr {ns : List Int} : srcD m (.scr ns) = some (.v true (seqIt .f (ns.map .int))) := rfl
theorem srcD_lf : srcD .f (.lst ds) = some (.v true (seqIt .f ds)) := rfl
theorem srcD_tf : srcD .f (.tup ds) = some (.v true (seqIt .f ds)) := rfl
theorem srcD_lb : srcD .b (.lst ds) = some (.v true (seqIt .b ds)) := rfl
theorem srcD_tb : srcD .b (.tup ds) = some (.v true (seqIt .b ds)) := rfl
theorem srcD_lo : srcD .o (.lst ds) = some (.v false (seqIt .o ds)) := rfl
theorem srcD_to : srcD .o (.tup ds) = some (.v false (seqIt .o ds)) := rfl
theorem srcD_lh : srcD .h (.lst ds) = some (.v false (seqIt .h ds)) := rfl
theorem srcD_th : srcD .h (.tup ds) = some (.v false (seqIt .h ds)) := rfl
theorem srcD_ln : srcD .n (.lst ds) = some (.v true (seqIt .f ds)) := rfl
theorem fin_f : fin (.rt .f d) = some (.ok .f d) := by simp [fin, cf]
theorem fin_n : fin (.rt .n d) = some (.ok .n d) := by simp [fin, cf]
theorem fin_nx : fin (.nx ρ) = some (.ok .f .non) := rfl
theorem slot0_int : slot0 (.int n) = .dat (.int n) := rfl
theorem slot0_bl : slot0 (.bl x) = .dat (.bl x) := rfl
theorem slot0_str {s : Str} : slot0 (.str s) = .dat (.str s) := rfl
theorem slot0_non : slot0 .non = .dat .non := rfl
theorem slot0_scr {ns : List Int} : slot0 (.scr ns) = .dat (.scr ns) := rfl
theorem slot0_lst : slot0 (.lst ds) = .bor (.lst ds) := rfl
theorem slot0_tup : slot0 (.tup ds) = if immA ds = true then .dat (.tup ds) else .bor (.tup ds) := rfl
theorem slot0_obj {C : Addr} {fs : List Str} : slot0 (.obj C fs ds) = .dat (.obj C fs ds) := rfl
theorem slot0_dic {ks : List Key} : slot0 (.dic ks ds) = .bor (.dic ks ds) := rfl
theorem bind_nm : bindP (.nm i) ρ (.one m d) = (slotOf m d).map fun s => ρ.set i s := rfl
theorem slotOf_f : slotOf .f d = some (.dat d) := by unfold slotOf; split <;> rfl
theorem slotOf_int : slotOf m (.int n) = some (.dat (.int n)) := rfl
theorem slotOf_bl : slotOf .b (.lst ds) = some (.bor (.lst ds)) := rfl
theorem bind_tp {ps : List Pat} : bindP (.tp ps) ρ (.one m (.tup ds)) = if ds.length = ps.length then bindPs ps ρ (ds.map fun d => (ixm m, d)) else none := by simp only [bindP]
theorem binds_nil : bindPs [] ρ [] = some ρ := rfl
theorem binds_cons {p : Pat} {ps : List Pat} {ms : List (Md × D)} : bindPs (p :: ps) ρ ((m, d) :: ms) = (bindP p ρ (.one m d)).bind fun ρ1 => bindPs ps ρ1 ms := rfl
theorem isi_eq {T : String} : isiV T m d = if tyName d = "" then none else (kitB (tyName d) T).bind fun b => fv (.bl b) := rfl
theorem wipe_nil : wipeR ρ [] = ρ := rfl
theorem wipe_cons {v : Nat} {vs : List Nat} : wipeR ρ (v :: vs) = (wipeR ρ vs).set v .un := rfl
theorem isiV_of {T : String} {t : String} (h : tyName d = t) (hk : kitB t T = some x) (hn : t ≠ "" := by decide) : isiV T m d = some (.v .f (.bl x)) := by
  unfold isiV isiD
  rw [h, if_neg hn, hk]; rfl
theorem isi_int_int : isiV "int" m (.int n) = some (.v .f (.bl true)) := isiV_of (t := "int") rfl (show kitB "int" "int" = some true by decide +kernel)
theorem isi_int_bool : isiV "bool" m (.int n) = some (.v .f (.bl false)) := isiV_of (t := "int") rfl (show kitB "int" "bool" = some false by decide +kernel)
theorem isi_int_str : isiV "str" m (.int n) = some (.v .f (.bl false)) := isiV_of (t := "int") rfl (show kitB "int" "str" = some false by decide +kernel)
theorem isi_int_list : isiV "list" m (.int n) = some (.v .f (.bl false)) := isiV_of (t := "int") rfl (show kitB "int" "list" = some false by decide +kernel)
theorem isi_int_tuple : isiV "tuple" m (.int n) = some (.v .f (.bl false)) := isiV_of (t := "int") rfl (show kitB "int" "tuple" = some false by decide +kernel)
theorem isi_int_dict : isiV "dict" m (.int n) = some (.v .f (.bl false)) := isiV_of (t := "int") rfl (show kitB "int" "dict" = some false by decide +kernel)
theorem isi_bool_int : isiV "int" m (.bl x) = some (.v .f (.bl true)) := isiV_of (t := "bool") rfl (show kitB "bool" "int" = some true by decide +kernel)
theorem isi_bool_bool : isiV "bool" m (.bl x) = some (.v .f (.bl true)) := isiV_of (t := "bool") rfl (show kitB "bool" "bool" = some true by decide +kernel)
theorem isi_bool_str : isiV "str" m (.bl x) = some (.v .f (.bl false)) := isiV_of (t := "bool") rfl (show kitB "bool" "str" = some false by decide +kernel)
theorem isi_bool_list : isiV "list" m (.bl x) = some (.v .f (.bl false)) := isiV_of (t := "bool") rfl (show kitB "bool" "list" = some false by decide +kernel)
theorem isi_bool_tuple : isiV "tuple" m (.bl x) = some (.v .f (.bl false)) := isiV_of (t := "bool") rfl (show kitB "bool" "tuple" = some false by decide +kernel)
theorem isi_bool_dict : isiV "dict" m (.bl x) = some (.v .f (.bl false)) := isiV_of (t := "bool") rfl (show kitB "bool" "dict" = some false by decide +kernel)
theorem isi_list_int : isiV "int" m (.lst ds) = some (.v .f (.bl false)) := isiV_of (t := "list") rfl (show kitB "list" "int" = some false by decide +kernel)
theorem isi_list_bool : isiV "bool" m (.lst ds) = some (.v .f (.bl false)) := isiV_of (t := "list") rfl (show kitB "list" "bool" = some false by decide +kernel)
theorem isi_list_str : isiV "str" m (.lst ds) = some (.v .f (.bl false)) := isiV_of (t := "list") rfl (show kitB "list" "str" = some false by decide +kernel)
theorem isi_list_list : isiV "list" m (.lst ds) = some (.v .f (.bl true)) := isiV_of (t := "list") rfl (show kitB "list" "list" = some true by decide +kernel)
theorem isi_list_tuple : isiV "tuple" m (.lst ds) = some (.v .f (.bl false)) := isiV_of (t := "list") rfl (show kitB "list" "tuple" = some false by decide +kernel)
theorem isi_list_dict : isiV "dict" m (.lst ds) = some (.v .f (.bl false)) := isiV_of (t := "list") rfl (show kitB "list" "dict" = some false by decide +kernel)
theorem isi_tuple_int : isiV "int" m (.tup ds) = some (.v .f (.bl false)) := isiV_of (t := "tuple") rfl (show kitB "tuple" "int" = some false by decide +kernel)
theorem isi_tuple_bool : isiV "bool" m (.tup ds) = some (.v .f (.bl false)) := isiV_of (t := "tuple") rfl (show kitB "tuple" "bool" = some false by decide +kernel)
theorem isi_tuple_str : isiV "str" m (.tup ds) = some (.v .f (.bl false)) := isiV_of (t := "tuple") rfl (show kitB "tuple" "str" = some false by decide +kernel)
theorem isi_tuple_list : isiV "list" m (.tup ds) = some (.v .f (.bl false)) := isiV_of (t := "tuple") rfl (show kitB "tuple" "list" = some false by decide +kernel)
theorem isi_tuple_tuple : isiV "tuple" m (.tup ds) = some (.v .f (.bl true)) := isiV_of (t := "tuple") rfl (show kitB "tuple" "tuple" = some true by decide +kernel)
theorem isi_tuple_dict : isiV "dict" m (.tup ds) = some (.v .f (.bl false)) := isiV_of (t := "tuple") rfl (show kitB "tuple" "dict" = some false by decide +kernel)
theorem isi_NoneType_int : isiV "int" m .non = some (.v .f (.bl false)) := isiV_of (t := "NoneType") rfl (show kitB "NoneType" "int" = some false by decide +kernel)
theorem isi_NoneType_bool : isiV "bool" m .non = some (.v .f (.bl false)) := isiV_of (t := "NoneType") rfl (show kitB "NoneType" "bool" = some false by decide +kernel)
theorem isi_NoneType_str : isiV "str" m .non = some (.v .f (.bl false)) := isiV_of (t := "NoneType") rfl (show kitB "NoneType" "str" = some false by decide +kernel)
theorem isi_NoneType_list : isiV "list" m .non = some (.v .f (.bl false)) := isiV_of (t := "NoneType") rfl (show kitB "NoneType" "list" = some false by decide +kernel)
theorem isi_NoneType_tuple : isiV "tuple" m .non = some (.v .f (.bl false)) := isiV_of (t := "NoneType") rfl (show kitB "NoneType" "tuple" = some false by decide +kernel)
theorem isi_NoneType_dict : isiV "dict" m .non = some (.v .f (.bl false)) := isiV_of (t := "NoneType") rfl (show kitB "NoneType" "dict" = some false by decide +kernel)
theorem isi_str_int {s : Str} : isiV "int" m (.str s) = some (.v .f (.bl false)) := isiV_of (t := "str") rfl (show kitB "str" "int" = some false by decide +kernel)
theorem isi_str_bool {s : Str} : isiV "bool" m (.str s) = some (.v .f (.bl false)) := isiV_of (t := "str") rfl (show kitB "str" "bool" = some false by decide +kernel)
theorem isi_str_str {s : Str} : isiV "str" m (.str s) = some (.v .f (.bl true)) := isiV_of (t := "str") rfl (show kitB "str" "str" = some true by decide +kernel)
theorem isi_str_list {s : Str} : isiV "list" m (.str s) = some (.v .f (.bl false)) := isiV_of (t := "str") rfl (show kitB "str" "list" = some false by decide +kernel)
theorem isi_str_tuple {s : Str} : isiV "tuple" m (.str s) = some (.v .f (.bl false)) := isiV_of (t := "str") rfl (show kitB "str" "tuple" = some false by decide +kernel)
theorem isi_str_dict {s : Str} : isiV "dict" m (.str s) = some (.v .f (.bl false)) := isiV_of (t := "str") rfl (show kitB "str" "dict" = some false by decide +kernel)
theorem isi_dict_int {ks : List Key} : isiV "int" m (.dic ks ds) = some (.v .f (.bl false)) := isiV_of (t := "dict") rfl (show kitB "dict" "int" = some false by decide +kernel)
theorem isi_dict_bool {ks : List Key} : isiV "bool" m (.dic ks ds) = some (.v .f (.bl false)) := isiV_of (t := "dict") rfl (show kitB "dict" "bool" = some false by decide +kernel)
theorem isi_dict_str {ks : List Key} : isiV "str" m (.dic ks ds) = some (.v .f (.bl false)) := isiV_of (t := "dict") rfl (show kitB "dict" "str" = some false by decide +kernel)
theorem isi_dict_list {ks : List Key} : isiV "list" m (.dic ks ds) = some (.v .f (.bl false)) := isiV_of (t := "dict") rfl (show kitB "dict" "list" = some false by decide +kernel)
theorem isi_dict_tuple {ks : List Key} : isiV "tuple" m (.dic ks ds) = some (.v .f (.bl false)) := isiV_of (t := "dict") rfl (show kitB "dict" "tuple" = some false by decide +kernel)
theorem isi_dict_dict {ks : List Key} : isiV "dict" m (.dic ks ds) = some (.v .f (.bl true)) := isiV_of (t := "dict") rfl (show kitB "dict" "dict" = some true by decide +kernel)
theorem nat_big {n : Int} (h1 : -1606938044258990275541962092341162602522202993782792835301376 < n) (h2 : n < 1606938044258990275541962092341162602522202993782792835301376) : n.natAbs < big200 := by
  have h : n.natAbs < 1606938044258990275541962092341162602522202993782792835301376 := by omega
  have e : (1606938044258990275541962092341162602522202993782792835301376 : Nat) = 2 ^ 200 := by decide
  rw [e] at h
  exact Nat.lt_of_lt_of_le h (Nat.pow_le_pow_right (by decide) (by decide))
theorem bin_mul (a1 : -1606938044258990275541962092341162602522202993782792835301376 < n) (a2 : n < 1606938044258990275541962092341162602522202993782792835301376) (b1 : -1606938044258990275541962092341162602522202993782792835301376 < n') (b2 : n' < 1606938044258990275541962092341162602522202993782792835301376) : binD .mul m1 (.int n) m2 (.int n') = some (.v .f (.int (n * n'))) := by
  simp only [binD, binI, if_pos (⟨nat_big a1 a2, nat_big b1 b2⟩ : n.natAbs < big200 ∧ n'.natAbs < big200), Option.bind_some, fv]
theorem bin_fdiv (h1 : 0 < n') (h2 : n' < 1606938044258990275541962092341162602522202993782792835301376) : binD .fdiv m1 (.int n) m2 (.int n') = some (.v .f (.int (n / n'))) := by
  simp only [binD, binI, if_pos (⟨h1, nat_big (by omega) h2⟩ : 0 < n' ∧ n'.natAbs < big200), Option.bind_some, fv]
theorem bin_mod (h1 : 0 < n') : binD .mod m1 (.int n) m2 (.int n') = some (.v .f (.int (n % n'))) := by
  simp only [binD, binI, if_pos h1, Option.bind_some, fv]
theorem bin_pow (h0 : 0 ≤ n') (h1 : n' ≤ 1000000) (h2 : -18446744073709551616 < n) (h3 : n < 18446744073709551616) : binD .pow m1 (.int n) m2 (.int n') = some (.v .f (.int (n ^ n'.toNat))) := by
  have h : n.natAbs < 2 ^ 64 := by omega
  simp only [binD, binI, if_pos (⟨h0, h1, h⟩ : 0 ≤ n' ∧ n' ≤ 1000000 ∧ n.natAbs < 2 ^ 64), Option.bind_some, fv]
theorem thenS_of {r : CSs} {x : Option Out} {q : Option Res} (h : x = some (.nx ρ1)) (h2 : (evSs O r ρ1).bind fin = q) : (thenS O r x).bind fin = q := by rw [h, thenS_nx, h2]
theorem thenS_of' {r : CSs} {x : Option Out} {q : Option Out} (h : x = some (.nx ρ1)) (h2 : evSs O r ρ1 = q) : thenS O r x = q := by rw [h, thenS_nx, h2]
theorem ifS_dec {p q : CSs} {P : Prop} [Decidable P] {z : Option Out} (h1 : P → evSs O p ρ = z) (h2 : ¬ P → evSs O q ρ = z) : ifS O p q ρ (some (decide P)) = z := by
  by_cases h : P
  · rw [decide_eq_true h, ifS_t]; exact h1 h
  · rw [decide_eq_false h, ifS_f]; exact h2 h
end
end QL

end
section
set_option maxRecDepth 100000
set_option maxHeartbeats 4000000
namespace QL
open PySem PySem.Spec PyProof.Rows L2 Evl
/-! ### loops, by what holds -/
theorem forGo_all {pt : Pat} {f : List Sl → Option Out} (I : Nat → List Sl → Prop) : ∀ {its : List Item} {j : Nat} {ρ : List Sl}, I j ρ →
    (∀ (k : Nat) it ρ, its[k]? = some it → I (j + k) ρ → ∃ ρ1 ρ2, bindP pt ρ it = some ρ1 ∧ (f ρ1 = some (.nx ρ2) ∨ f ρ1 = some (.ct ρ2)) ∧ I (j + k + 1) ρ2) → ∃ ρ', forGo pt f its ρ = some (.nx ρ') ∧ I (j + its.length) ρ'
  | [], j, ρ, h0, _ => ⟨ρ, rfl, h0⟩
  | it :: its, j, ρ, h0, hs => by
    obtain ⟨ρ1, ρ2, h1, h2, h3⟩ := hs 0 it ρ rfl h0
    obtain ⟨ρ', h4, h5⟩ := forGo_all I (its := its) (j := j + 1) (ρ := ρ2) h3 fun k it' ρ' hk hi => by
      have := hs (k + 1) it' ρ' (by simpa using hk) (by rw [show j + (k + 1) = j + 1 + k by omega]; exact hi)
      rw [show j + (k + 1) + 1 = j + 1 + k + 1 by omega] at this
      exact this
    refine ⟨ρ', ?_, by rw [List.length_cons, show j + (its.length + 1) = j + 1 + its.length by omega]; exact h5⟩
    simp only [forGo, h1, Option.bind_some]
    rcases h2 with h2 | h2 <;> rw [h2] <;> exact h4
/-- .. over a range -/
theorem for_rng {i : Nat} {f : List Sl → Option Out} {lo : Int} {n : Nat} {ρ : List Sl} (I : Nat → List Sl → Prop) (h0 : I 0 ρ)
    (hs : ∀ (k : Nat) ρ, k < n → I k ρ → ∃ ρ2, (f (ρ.set i (.dat (.int (lo + (k : Int))))) = some (.nx ρ2) ∨ f (ρ.set i (.dat (.int (lo + (k : Int))))) = some (.ct ρ2)) ∧ I (k + 1) ρ2) : ∃ ρ', forGo (.nm i) f (rngIt lo n) ρ = some (.nx ρ') ∧ I n ρ' := by
  obtain ⟨ρ', h1, h2⟩ := forGo_all (pt := .nm i) (f := f) I (its := rngIt lo n) (j := 0) (ρ := ρ) h0 fun k it ρ hk hi => by
    obtain ⟨hlt, rfl⟩ := rngIt_get hk
    rw [Nat.zero_add] at hi ⊢
    obtain ⟨ρ2, a, b⟩ := hs k ρ hlt hi
    exact ⟨_, ρ2, rfl, a, b⟩
  rw [rngIt_len, Nat.zero_add] at h2
  exact ⟨ρ', h1, h2⟩
/-- a loop that hands back at its first item with p, else goes on -/
theorem forGo_find {pt : Pat} {f : List Sl → Option Out} (I : List Sl → Prop) (p : Nat → Bool) (out : Nat → Out) (hout : ∀ k, ∃ m d, out k = .rt m d) : ∀ {its : List Item} {j : Nat} {ρ : List Sl}, I ρ →
    (∀ (k : Nat) it ρ, its[k]? = some it → I ρ → ∃ ρ1, bindP pt ρ it = some ρ1 ∧ (p (j + k) = true → f ρ1 = some (out (j + k))) ∧ (p (j + k) = false → ∃ ρ2, (f ρ1 = some (.nx ρ2) ∨ f ρ1 = some (.ct ρ2)) ∧ I ρ2)) →
    (∃ k, k < its.length ∧ p (j + k) = true ∧ (∀ i, i < k → p (j + i) = false) ∧ forGo pt f its ρ = some (out (j + k))) ∨ ((∀ k, k < its.length → p (j + k) = false) ∧ ∃ ρ', I ρ' ∧ forGo pt f its ρ = some (.nx ρ'))
  | [], j, ρ, h0, _ => .inr ⟨fun k hk => by simp at hk, ρ, h0, rfl⟩
  | it :: its, j, ρ, h0, hs => by
    obtain ⟨ρ1, h1, h2, h3⟩ := hs 0 it ρ rfl h0
    rw [Nat.add_zero] at h2 h3
    cases hp : p j with
    | true =>
      refine .inl ⟨0, by simp, by simpa using hp, fun i hi => by omega, ?_⟩
      obtain ⟨m, d, e⟩ := hout j
      simp only [forGo, h1, Option.bind_some, h2 hp, Nat.add_zero, e]
    | false =>
      obtain ⟨ρ2, h4, h5⟩ := h3 hp
      have e : forGo pt f (it :: its) ρ = forGo pt f its ρ2 := by
        simp only [forGo, h1, Option.bind_some]
        rcases h4 with h4 | h4 <;> rw [h4] <;> rfl
      rw [e]
      rcases forGo_find I p out hout (its := its) (j := j + 1) (ρ := ρ2) h5 (fun k it' ρ' hk hi => by
        have := hs (k + 1) it' ρ' (by simpa using hk) hi
        rw [show j + (k + 1) = j + 1 + k by omega] at this
        exact this) with ⟨k, a, b, c, d⟩ | ⟨a, b⟩
      · refine .inl ⟨k + 1, by simpa using a, by rw [show j + (k + 1) = j + 1 + k by omega]; exact b, fun i hi => ?_, by rw [show j + (k + 1) = j + 1 + k by omega]; exact d⟩
        cases i with
        | zero => simpa using hp
        | succ i => rw [show j + (i + 1) = j + 1 + i by omega]; exact c i (by omega)
      · refine .inr ⟨fun k hk => ?_, b⟩
        cases k with
        | zero => simpa using hp
        | succ k => rw [show j + (k + 1) = j + 1 + k by omega]; exact a k (by simpa using hk)
theorem find_rng {i : Nat} {f : List Sl → Option Out} {lo : Int} {n : Nat} {ρ : List Sl} (I : List Sl → Prop) (p : Nat → Bool) (out : Nat → Out) (hout : ∀ k, ∃ m d, out k = .rt m d) (h0 : I ρ)
    (hs : ∀ (k : Nat) ρ, k < n → I ρ → (p k = true → f (ρ.set i (.dat (.int (lo + (k : Int))))) = some (out k)) ∧ (p k = false → ∃ ρ2, (f (ρ.set i (.dat (.int (lo + (k : Int))))) = some (.nx ρ2) ∨ f (ρ.set i (.dat (.int (lo + (k : Int))))) = some (.ct ρ2)) ∧ I ρ2)) :
    (∃ k, k < n ∧ p k = true ∧ (∀ i, i < k → p i = false) ∧ forGo (.nm i) f (rngIt lo n) ρ = some (out k)) ∨ ((∀ k, k < n → p k = false) ∧ ∃ ρ', I ρ' ∧ forGo (.nm i) f (rngIt lo n) ρ = some (.nx ρ')) := by
  have := forGo_find (pt := .nm i) (f := f) I p out hout (its := rngIt lo n) (j := 0) (ρ := ρ) h0 fun k it ρ hk hi => by
    obtain ⟨hlt, rfl⟩ := rngIt_get hk
    rw [Nat.zero_add]
    exact ⟨_, rfl, hs k ρ hlt hi⟩
  simpa [rngIt_len] using this
/-! ### comprehensions -/
theorem lcGo_map {g : Item → Option (List (Md × D))} {v : Item → Md × D} : ∀ {its : List Item}, (∀ it ∈ its, g it = some [v it]) → lcGo g its = some (its.map v)
  | [], _ => rfl
  | it :: its, h => by
    simp only [lcGo, h it List.mem_cons_self, Option.bind_some, lcGo_map (its := its) fun x hx => h x (List.mem_cons_of_mem _ hx)]
    rfl
theorem lcGo_fil {g : Item → Option (List (Md × D))} {v : Item → Md × D} {p : Item → Bool} : ∀ {its : List Item}, (∀ it ∈ its, g it = some (if p it = true then [v it] else [])) → lcGo g its = some ((its.filter p).map v)
  | [], _ => rfl
  | it :: its, h => by
    simp only [lcGo, h it List.mem_cons_self, Option.bind_some, lcGo_fil (its := its) fun x hx => h x (List.mem_cons_of_mem _ hx)]
    cases hp : p it <;> simp [List.filter_cons, hp]
theorem lc_rng {g : Item → Option (List (Md × D))} {v : Nat → Md × D} {lo : Int} {n : Nat} (h : ∀ k, k < n → g (.one .f (.int (lo + (k : Int)))) = some [v k]) : lcGo g (rngIt lo n) = some ((List.range n).map v) := by
  unfold rngIt
  have key : ∀ l : List Nat, (∀ k ∈ l, k < n) → lcGo g (l.map fun (k : Nat) => Item.one .f (.int (lo + (k : Int)))) = some (l.map v) := by
    intro l
    induction l with
    | nil => intro _; rfl
    | cons a l ih =>
      intro hl
      simp only [List.map_cons, lcGo, h a (hl a List.mem_cons_self), Option.bind_some, ih fun k hk => hl k (List.mem_cons_of_mem _ hk)]
      rfl
  exact key _ fun k hk => List.mem_range.mp hk
theorem lc_seq {α : Type} {g : Item → Option (List (Md × D))} {v : α → Md × D} {m : Md} {e : α → D} : ∀ {xs : List α}, (∀ x ∈ xs, g (.one (ixm m) (e x)) = some [v x]) → lcGo g (seqIt m (xs.map e)) = some (xs.map v)
  | [], _ => rfl
  | x :: xs, h => by
    have ih := lc_seq (m := m) (xs := xs) fun y hy => h y (List.mem_cons_of_mem _ hy)
    unfold seqIt at ih ⊢
    simp only [List.map_cons, lcGo, h x List.mem_cons_self, Option.bind_some, ih]
    rfl
theorem lc_seqF {α : Type} {g : Item → Option (List (Md × D))} {v : α → Md × D} {m : Md} {e : α → D} {p : α → Bool} : ∀ {xs : List α}, (∀ x ∈ xs, g (.one (ixm m) (e x)) = some (if p x = true then [v x] else [])) → lcGo g (seqIt m (xs.map e)) = some ((xs.filter p).map v)
  | [], _ => rfl
  | x :: xs, h => by
    have ih := lc_seqF (m := m) (xs := xs) fun y hy => h y (List.mem_cons_of_mem _ hy)
    unfold seqIt at ih ⊢
    simp only [List.map_cons, lcGo, h x List.mem_cons_self, Option.bind_some, ih]
    cases hp : p x <;> simp [List.filter_cons, hp]
theorem allCf_map {α : Type} {v : α → Md × D} : ∀ {xs : List α}, (∀ x ∈ xs, cf (v x).1 (v x).2 = true) → allCf (xs.map v) = true
  | [], _ => rfl
  | x :: xs, h => by
    simp only [List.map_cons, allCf, Bool.and_eq_true]
    exact ⟨h x List.mem_cons_self, allCf_map fun y hy => h y (List.mem_cons_of_mem _ hy)⟩
theorem lcD_map {α : Type} {v : α → Md × D} {xs : List α} (hl : xs.length < 100000) (h : ∀ x ∈ xs, cf (v x).1 (v x).2 = true) : lcD (xs.map v) = some (.v .n (.lst (xs.map fun x => (v x).2))) := by
  unfold lcD
  rw [if_pos (by rw [List.length_map]; exact hl), if_pos (allCf_map h), List.map_map]
  rfl
/-! ### the draw of the laws -/
def cell0 (ns : List Int) (pl : Int) : Int := if 0 < ns.length then ns.getD (pl % (ns.length : Int)).toNat 0 + pl / (ns.length : Int) else pl
def cell1 (c : Int) : Int := if c < 0 then 0 - c else c
def leftN : Nat → Int → Int
  | 0, l => l
  | n + 1, l => if 0 < leftN n l then leftN n l / 1000 else leftN n l
def mix (c pl st : Int) : Int :=
  let m := (c + 7919 * st + 104729 * pl + 13) % 2147483647
  let m := (m * (m + 48271)) % 2147483629
  (m * (m + 69621) + 31 * st) % 2147483647
def draw (ns : List Int) (pl st sz : Int) : Int :=
  let c := cell1 (cell0 ns pl)
  let l := leftN st.toNat (c - 10 ^ (18 : Int).toNat)
  if 0 < l then (l % 1000) % sz else (mix c pl st / 9) % sz
theorem draw_lt {ns : List Int} {pl st sz : Int} (h : 0 < sz) : 0 ≤ draw ns pl st sz ∧ draw ns pl st sz < sz := by
  unfold draw
  dsimp only
  split
  · exact ⟨Int.emod_nonneg _ (by omega), Int.emod_lt_of_pos _ h⟩
  · exact ⟨Int.emod_nonneg _ (by omega), Int.emod_lt_of_pos _ h⟩
theorem atI_nat {α : Type} {xs : List α} {k : Nat} {x : α} (h : xs[k]? = some x) : atI xs (k : Int) = some x := by
  have hk := (List.getElem?_eq_some_iff.mp h).1
  unfold atI ixN
  rw [if_pos (by omega), if_pos (by omega)]
  simpa using h
theorem big_lt {n : Nat} (h : n < 2 ^ 200) : n < big200 := Nat.lt_of_lt_of_le h (Nat.pow_le_pow_right (by decide) (by decide))
theorem evD_run {O : Orc} {c : CDef} {ds : List D} (h : ds.length = c.ps) : evD O c ds = (evSs O c.body (slots c.n ds)).bind fin := if_pos h
def drawC : CSs := (.cons (.set 4 (.var 1))
    (.cons (.ife (.val (.cmp .gt (.b1 .len (.var 0)) (.int 0))) (.cons (.set 4 (.bin .add (.ix (.var 0) (.bin .mod (.b1 .int (.var 1)) (.b1 .len (.var 0)))) (.bin .fdiv (.var 1) (.b1 .len (.var 0)))))
    .nil) .nil)
    (.cons (.ife (.val (.cmp .lt (.var 4) (.int 0))) (.cons (.set 4 (.bin .sub (.int 0) (.var 4)))
    .nil) .nil)
    (.cons (.set 5 (.bin .sub (.var 4) (.bin .pow (.int 10) (.int 18))))
    (.cons (.for (.nm 6) (.r1 (.var 2)) (.cons (.ife (.val (.cmp .gt (.var 5) (.int 0))) (.cons (.set 5 (.bin .fdiv (.var 5) (.int 1000)))
    .nil) .nil)
    .nil))
    (.cons (.ife (.val (.cmp .gt (.var 5) (.int 0))) (.cons (.ret (.bin .mod (.b1 .int (.bin .mod (.b1 .int (.var 5)) (.int 1000))) (.var 3)))
    .nil) .nil)
    (.cons (.set 7 (.bin .mod (.b1 .int (.bin .add (.bin .add (.bin .add (.var 4) (.bin .mul (.int 7919) (.var 2))) (.bin .mul (.int 104729) (.var 1))) (.int 13))) (.int 2147483647)))
    (.cons (.set 7 (.bin .mod (.b1 .int (.bin .mul (.var 7) (.bin .add (.var 7) (.int 48271)))) (.int 2147483629)))
    (.cons (.set 7 (.bin .mod (.b1 .int (.bin .add (.bin .mul (.var 7) (.bin .add (.var 7) (.int 69621))) (.bin .mul (.int 31) (.var 2)))) (.int 2147483647)))
    (.cons (.ret (.bin .mod (.b1 .int (.bin .fdiv (.var 7) (.int 9))) (.var 3)))
    .nil))))))))))
theorem rngIt_zero {lo : Int} : rngIt lo 0 = [] := rfl
local macro_rules | `(tactic| walk_at "ev") => `(tactic| simp -implicitDefEqProofs only [ev_var, ev_int, ev_bl, ev_str, ev_non, ev_bin, ev_cmp, ev_chain, ev_neg, ev_not, ev_and, ev_or, ev_ife, ev_ix, ev_tup, ev_lst, ev_call, ev_b1, ev_b2, ev_isi, ev_lc, ev_lc2, evs_nil, evs_cons, src_r1', src_r2', src_seq', t_yes', t_not', t_and', t_or', t_val', ss_nil, ss_cons, s_set, s_pat, s_seti, s_app, s_ins, s_ife, s_for, s_retv, s_expr, s_pass, s_brk, s_cont, varS_dat, varS_bor, varS_own, varS_ownD, nrm_int, nrm_bl, nrm_str, nrm_non, nrm_scr, nrm_obj, nrm_lst, nrm_dic, nrm_f, nrm_tup, imm_int, imm_bl, imm_str, imm_non, imm_scr, imm_lst, imm_tup, imm_dic, imm_obj, immA_nil, immA_cons, op2_vv, bin_add, bin_sub, cmp_lt, cmp_le, cmp_gt, cmp_ge, cmp_eq, cmp_ne, cmp_eqb, cmp_neb, cmp_isb, cmp_isnb, cmp_eqs, cmp_nes, isNon_non, isNon_int, isNon_bl, isNon_lst, isNon_tup, isNon_str, isNon_obj, isNon_dic, cmp_is, cmp_isn, ixQ_some, ix_lst, ix_tup, ix_scr, ixm_f, ixm_n, ixm_o, ixm_b, ixm_h, len_lst, len_tup, len_scr, int_int, max_ii, min_ii, neg_i, not_b, bv_v1, list_lst, list_tup, tuple_lst, tuple_tup, itF_f, itF_n, itF_o, itF_b, itF_h, cf_f, cf_n, cf_b, cf_h, cf_o, allCf_nil, allCf_cons, tst_v, truth_bl, truth_lst, andT_t, andT_f, orT_t, orT_f, andR_t, andR_f, orR_f, orR_t, blV_b, ifE_t, ifE_f, ifS_t, ifS_f, ifL_t, ifL_f, elt1_v, lcB_s, lcR_v, lcR2_v, thenS_nx, thenS_rt, thenS_bk, thenS_ct, setR_v, setQ_s, slotV_f, slotV_n, slotV_nd, slotV_bl, slotV_bt, patR_v, setiR_v, appR_v, insR_v, forR_v, retV_own, retV_dat, retV_bor, retV_ownD, retR_v, exprR_v, ret_tup, esc_tup, ret_lst, esc_lst, ret_bin, esc_bin, ret_cmp, esc_cmp, ret_neg, esc_neg, ret_not, esc_not, ret_and, esc_and, ret_or, esc_or, ret_ix, esc_ix, ret_b1, esc_b1, ret_b2, esc_b2, ret_isi, esc_isi, ret_call, esc_call, ret_int, esc_int, ret_bl, esc_bl, ret_ife, esc_ife, ret_str, esc_str, ret_chain, esc_chain, ret_non, esc_non, ret_lc, esc_lc, ret_lc2, esc_lc2, esc_var, escs_nil, escs_cons, frzA_nil, frzA_cons, frz_dat, frz_bor, frz_own, frz_ownD, frz_un, srcEsc_r1, srcEsc_r2, srcEsc_var, srcEsc_call, srcEsc_lst, srcEsc_tup, srcEsc_ix, srcEsc_b1, srcEsc_bin, callR_v, callQ_f, callQ_n, callQ_x, consR_vv, tupR_v, lstR_v, lstR_h, r1R_i, r2R_i, seqR_v, srcD_scr, srcD_lf, srcD_tf, srcD_lb, srcD_tb, srcD_lo, srcD_to, srcD_lh, srcD_th, srcD_ln, fin_f, fin_n, fin_nx, slot0_int, slot0_bl, slot0_str, slot0_non, slot0_scr, slot0_lst, slot0_tup, slot0_obj, slot0_dic, bind_nm, slotOf_f, slotOf_int, slotOf_bl, bind_tp, binds_nil, binds_cons, wipe_nil, wipe_cons, isi_int_int, isi_int_bool, isi_int_str, isi_int_list, isi_int_tuple, isi_int_dict, isi_bool_int, isi_bool_bool, isi_bool_str, isi_bool_list, isi_bool_tuple, isi_bool_dict, isi_list_int, isi_list_bool, isi_list_str, isi_list_list, isi_list_tuple, isi_list_dict, isi_tuple_int, isi_tuple_bool, isi_tuple_str, isi_tuple_list, isi_tuple_tuple, isi_tuple_dict, isi_NoneType_int, isi_NoneType_bool, isi_NoneType_str, isi_NoneType_list, isi_NoneType_tuple, isi_NoneType_dict, isi_str_int, isi_str_bool, isi_str_str, isi_str_list, isi_str_tuple, isi_str_dict, isi_dict_int, isi_dict_bool, isi_dict_str, isi_dict_list, isi_dict_tuple, isi_dict_dict, Option.map_some, Option.map_none, Option.bind_some, Option.bind_none, List.getElem?_cons_zero, List.getElem?_cons_succ, List.set_cons_zero, List.set_cons_succ, List.getD_cons_zero, List.getD_cons_succ, List.map_cons, List.map_nil, List.length_cons, List.length_nil, List.nil_append, List.cons_append, List.append_nil, Bool.not_true, Bool.not_false, Bool.and_true, Bool.true_and, Bool.and_false, Bool.false_and, Bool.or_true, Bool.true_or, Bool.or_false, Bool.false_or, reduceIte, if_true, if_false, Bool.false_eq_true, decide_true, decide_false, reduceCtorEq, and_true, true_and, and_self, Nat.reduceAdd, Nat.reduceLeDiff, Nat.reduceLT, Nat.reduceSub, Nat.reduceEqDiff, List.isEmpty_cons, List.isEmpty_nil, not_true_eq_false, not_false_eq_true, bin_mul, bin_fdiv, bin_mod, bin_pow, Int.reduceLT, Int.reduceLE, Int.reduceNeg, Nat.reducePow, Int.reducePow, Int.reduceToNat])
local macro_rules | `(tactic| walk_at "evs") => `(tactic| simp -implicitDefEqProofs only [*, ev_var, ev_int, ev_bl, ev_str, ev_non, ev_bin, ev_cmp, ev_chain, ev_neg, ev_not, ev_and, ev_or, ev_ife, ev_ix, ev_tup, ev_lst, ev_call, ev_b1, ev_b2, ev_isi, ev_lc, ev_lc2, evs_nil, evs_cons, src_r1', src_r2', src_seq', t_yes', t_not', t_and', t_or', t_val', ss_nil, ss_cons, s_set, s_pat, s_seti, s_app, s_ins, s_ife, s_for, s_retv, s_expr, s_pass, s_brk, s_cont, varS_dat, varS_bor, varS_own, varS_ownD, nrm_int, nrm_bl, nrm_str, nrm_non, nrm_scr, nrm_obj, nrm_lst, nrm_dic, nrm_f, nrm_tup, imm_int, imm_bl, imm_str, imm_non, imm_scr, imm_lst, imm_tup, imm_dic, imm_obj, immA_nil, immA_cons, op2_vv, bin_add, bin_sub, cmp_lt, cmp_le, cmp_gt, cmp_ge, cmp_eq, cmp_ne, cmp_eqb, cmp_neb, cmp_isb, cmp_isnb, cmp_eqs, cmp_nes, isNon_non, isNon_int, isNon_bl, isNon_lst, isNon_tup, isNon_str, isNon_obj, isNon_dic, cmp_is, cmp_isn, ixQ_some, ix_lst, ix_tup, ix_scr, ixm_f, ixm_n, ixm_o, ixm_b, ixm_h, len_lst, len_tup, len_scr, int_int, max_ii, min_ii, neg_i, not_b, bv_v1, list_lst, list_tup, tuple_lst, tuple_tup, itF_f, itF_n, itF_o, itF_b, itF_h, cf_f, cf_n, cf_b, cf_h, cf_o, allCf_nil, allCf_cons, tst_v, truth_bl, truth_lst, andT_t, andT_f, orT_t, orT_f, andR_t, andR_f, orR_f, orR_t, blV_b, ifE_t, ifE_f, ifS_t, ifS_f, ifL_t, ifL_f, elt1_v, lcB_s, lcR_v, lcR2_v, thenS_nx, thenS_rt, thenS_bk, thenS_ct, setR_v, setQ_s, slotV_f, slotV_n, slotV_nd, slotV_bl, slotV_bt, patR_v, setiR_v, appR_v, insR_v, forR_v, retV_own, retV_dat, retV_bor, retV_ownD, retR_v, exprR_v, ret_tup, esc_tup, ret_lst, esc_lst, ret_bin, esc_bin, ret_cmp, esc_cmp, ret_neg, esc_neg, ret_not, esc_not, ret_and, esc_and, ret_or, esc_or, ret_ix, esc_ix, ret_b1, esc_b1, ret_b2, esc_b2, ret_isi, esc_isi, ret_call, esc_call, ret_int, esc_int, ret_bl, esc_bl, ret_ife, esc_ife, ret_str, esc_str, ret_chain, esc_chain, ret_non, esc_non, ret_lc, esc_lc, ret_lc2, esc_lc2, esc_var, escs_nil, escs_cons, frzA_nil, frzA_cons, frz_dat, frz_bor, frz_own, frz_ownD, frz_un, srcEsc_r1, srcEsc_r2, srcEsc_var, srcEsc_call, srcEsc_lst, srcEsc_tup, srcEsc_ix, srcEsc_b1, srcEsc_bin, callR_v, callQ_f, callQ_n, callQ_x, consR_vv, tupR_v, lstR_v, lstR_h, r1R_i, r2R_i, seqR_v, srcD_scr, srcD_lf, srcD_tf, srcD_lb, srcD_tb, srcD_lo, srcD_to, srcD_lh, srcD_th, srcD_ln, fin_f, fin_n, fin_nx, slot0_int, slot0_bl, slot0_str, slot0_non, slot0_scr, slot0_lst, slot0_tup, slot0_obj, slot0_dic, bind_nm, slotOf_f, slotOf_int, slotOf_bl, bind_tp, binds_nil, binds_cons, wipe_nil, wipe_cons, isi_int_int, isi_int_bool, isi_int_str, isi_int_list, isi_int_tuple, isi_int_dict, isi_bool_int, isi_bool_bool, isi_bool_str, isi_bool_list, isi_bool_tuple, isi_bool_dict, isi_list_int, isi_list_bool, isi_list_str, isi_list_list, isi_list_tuple, isi_list_dict, isi_tuple_int, isi_tuple_bool, isi_tuple_str, isi_tuple_list, isi_tuple_tuple, isi_tuple_dict, isi_NoneType_int, isi_NoneType_bool, isi_NoneType_str, isi_NoneType_list, isi_NoneType_tuple, isi_NoneType_dict, isi_str_int, isi_str_bool, isi_str_str, isi_str_list, isi_str_tuple, isi_str_dict, isi_dict_int, isi_dict_bool, isi_dict_str, isi_dict_list, isi_dict_tuple, isi_dict_dict, Option.map_some, Option.map_none, Option.bind_some, Option.bind_none, List.getElem?_cons_zero, List.getElem?_cons_succ, List.set_cons_zero, List.set_cons_succ, List.getD_cons_zero, List.getD_cons_succ, List.map_cons, List.map_nil, List.length_cons, List.length_nil, List.nil_append, List.cons_append, List.append_nil, Bool.not_true, Bool.not_false, Bool.and_true, Bool.true_and, Bool.and_false, Bool.false_and, Bool.or_true, Bool.true_or, Bool.or_false, Bool.false_or, reduceIte, if_true, if_false, Bool.false_eq_true, decide_true, decide_false, reduceCtorEq, and_true, true_and, and_self, Nat.reduceAdd, Nat.reduceLeDiff, Nat.reduceLT, Nat.reduceSub, Nat.reduceEqDiff, List.isEmpty_cons, List.isEmpty_nil, not_true_eq_false, not_false_eq_true, bin_mul, bin_fdiv, bin_mod, bin_pow, Int.reduceLT, Int.reduceLE, Int.reduceNeg, Nat.reducePow, Int.reducePow, Int.reduceToNat])
theorem draw_v {O : Orc} {ns : List Int} {pl st sz : Int} (hb : ns.length ≤ 63) (h1 : 0 ≤ pl) (h1' : pl ≤ 1000000) (h2 : 0 ≤ st) (h3 : st ≤ 10000) (h4 : 0 < sz) : evD O ⟨8, 4, drawC⟩ [.scr ns, .int pl, .int st, .int sz] = some (.ok .f (.int (draw ns pl st sz))) := by
  rw [evD_run (by rfl)]
  show (evSs O drawC [.dat (.scr ns), .dat (.int pl), .dat (.int st), .dat (.int sz), .un, .un, .un, .un]).bind fin = _
  unfold drawC
  walk_at "ev"
  refine thenS_of (ρ1 := [.dat (.scr ns), .dat (.int pl), .dat (.int st), .dat (.int sz), .dat (.int (cell0 ns pl)), .un, .un, .un]) (ifS_dec (fun h => ?_) (fun h => ?_)) ?_
  · have hn : (0 : Int) < ns.length := h
    have hk : (pl % (ns.length : Int)).toNat < ns.length := by
      have h1 := Int.emod_lt_of_pos pl hn
      have h2 := Int.emod_nonneg pl (show (ns.length : Int) ≠ 0 by omega)
      omega
    have hx : atI ns (pl % (ns.length : Int)) = some (ns.getD (pl % (ns.length : Int)).toNat 0) := by
      have h2 := Int.emod_nonneg pl (show (ns.length : Int) ≠ 0 by omega)
      have e : pl % (ns.length : Int) = (((pl % (ns.length : Int)).toNat : Nat) : Int) := by omega
      rw [e]
      exact atI_nat (by rw [Int.toNat_natCast, List.getD_eq_getElem?_getD, List.getElem?_eq_getElem hk]; rfl)
    walk_at "ev"
    rw [bin_mod hn, bin_fdiv hn (by omega)]
    walk_at "ev"
    rw [hx]
    walk_at "ev"
    have e : cell0 ns pl = ns.getD (pl % (ns.length : Int)).toNat 0 + pl / (ns.length : Int) := if_pos (by omega)
    rw [e]
  · walk_at "ev"
    have e : cell0 ns pl = pl := if_neg (by omega)
    rw [e]
  walk_at "ev"
  refine thenS_of (ρ1 := [.dat (.scr ns), .dat (.int pl), .dat (.int st), .dat (.int sz), .dat (.int (cell1 (cell0 ns pl))), .un, .un, .un]) (ifS_dec (fun h => ?_) (fun h => ?_)) ?_
  · walk_at "ev"
    have e : cell1 (cell0 ns pl) = 0 - cell0 ns pl := if_pos h
    rw [e]
  · walk_at "ev"
    have e : cell1 (cell0 ns pl) = cell0 ns pl := if_neg h
    rw [e]
  walk_at "ev"
  rw [if_pos (by omega)]
  rw [forR_v]
  have e0 : draw ns pl st sz = (if 0 < leftN st.toNat (cell1 (cell0 ns pl) - 10 ^ (18 : Int).toNat) then (leftN st.toNat (cell1 (cell0 ns pl) - 10 ^ (18 : Int).toNat) % 1000) % sz else (mix (cell1 (cell0 ns pl)) pl st / 9) % sz) := rfl
  rw [e0]
  have e18 : (10 : Int) ^ (18 : Int).toNat = 1000000000000000000 := by decide
  simp only [e18]
  generalize cell1 (cell0 ns pl) = c
  obtain ⟨ρ', e1, s0, rfl⟩ := for_rng (i := 6) (lo := 0) (n := st.toNat) (f := evSs O (.cons (.ife (.val (.cmp .gt (.var 5) (.int 0))) (.cons (.set 5 (.bin .fdiv (.var 5) (.int 1000))) .nil) .nil) .nil))
    (ρ := [.dat (.scr ns), .dat (.int pl), .dat (.int st), .dat (.int sz), .dat (.int c), .dat (.int (c - 1000000000000000000)), .un, .un])
    (fun k ρ => ∃ s, ρ = [.dat (.scr ns), .dat (.int pl), .dat (.int st), .dat (.int sz), .dat (.int c), .dat (.int (leftN k (c - 1000000000000000000))), s, .un]) ⟨.un, rfl⟩ (fun k ρ hk ⟨s, e⟩ => by
      subst e
      refine ⟨_, .inl ?_, .dat (.int (0 + (k : Int))), rfl⟩
      walk_at "ev"
      have e : leftN (k + 1) (c - 1000000000000000000) = if 0 < leftN k (c - 1000000000000000000) then leftN k (c - 1000000000000000000) / 1000 else leftN k (c - 1000000000000000000) := rfl
      rw [e]
      generalize leftN k _ = l
      refine thenS_of' (ifS_dec (fun h => ?_) (fun h => ?_)) ss_nil
      · rw [if_pos h]; walk_at "ev"
      · rw [if_neg h]; walk_at "ev")
  refine thenS_of e1 ?_
  generalize leftN st.toNat _ = l
  walk_at "ev"
  by_cases hl : 0 < l
  · rw [if_pos hl, decide_eq_true hl]
    walk_at "ev"
    rw [bin_mod h4]
    walk_at "ev"
  · rw [if_neg hl, decide_eq_false hl]
    walk_at "ev"
    rw [bin_mul (by omega) (by omega) (by omega) (by omega), bin_mul (by omega) (by omega) (by omega) (by omega)]
    walk_at "ev"
    have m1 : mix c pl st = ((((c + 7919 * st + 104729 * pl + 13) % 2147483647 * ((c + 7919 * st + 104729 * pl + 13) % 2147483647 + 48271)) % 2147483629) * (((c + 7919 * st + 104729 * pl + 13) % 2147483647 * ((c + 7919 * st + 104729 * pl + 13) % 2147483647 + 48271)) % 2147483629 + 69621) + 31 * st) % 2147483647 := rfl
    rw [m1]
    have n1 := Int.emod_nonneg (c + 7919 * st + 104729 * pl + 13) (show (2147483647 : Int) ≠ 0 by decide)
    have n2 := Int.emod_lt_of_pos (c + 7919 * st + 104729 * pl + 13) (show (0 : Int) < 2147483647 by decide)
    generalize (c + 7919 * st + 104729 * pl + 13) % 2147483647 = a at n1 n2 ⊢
    rw [bin_mul (by omega) (by omega) (by omega) (by omega)]
    walk_at "ev"
    have n3 := Int.emod_nonneg (a * (a + 48271)) (show (2147483629 : Int) ≠ 0 by decide)
    have n4 := Int.emod_lt_of_pos (a * (a + 48271)) (show (0 : Int) < 2147483629 by decide)
    generalize a * (a + 48271) % 2147483629 = b at n3 n4 ⊢
    rw [bin_mul (by omega) (by omega) (by omega) (by omega), bin_mul (by omega) (by omega) (by omega) (by omega)]
    walk_at "ev"
    rw [bin_mod h4]
    walk_at "ev"
end QL

end
section
set_option maxRecDepth 100000
set_option maxHeartbeats 4000000
namespace QL
open PySem PySem.Spec PyProof.Rows L2 Evl
def topS (i : Nat) : Stmt := PySem.Challenge.pw_everyfuture_k18_merges.main.body.getD i (.Pass ⟨0, 0, 0, 0⟩)
abbrev s_sum_merge : Stmt := topS 1
abbrev N_sum_merge : List Str := ["first", "second", "many", "k", "one", "two"]
abbrev p_sum_merge : List Str := ["first", "second"]
theorem sc_sum_merge : FnScope N_sum_merge p_sum_merge (defScope s_sum_merge) := ⟨rfl, rfl, rfl, by decide +kernel, rfl, by decide +kernel, by decide +kernel⟩
def c_sum_merge : CSs := (.cons (.set 2 (.bin .sub (.bin .add (.b1 .len (.var 0)) (.b1 .len (.var 1))) (.int 1)))
    (.cons (.ret (.lc (.nm 3) (.r1 (.var 2)) .yes (.b1 .max (.lc (.tp [(.nm 4), (.nm 5)]) (.seq (.call "shared_out" (.cons (.var 0) (.cons (.var 1) (.cons (.var 3) .nil))))) .yes (.bin .add (.var 4) (.var 5)) [4, 5])) [3]))
    .nil))
abbrev s_least_merge : Stmt := topS 2
abbrev N_least_merge : List Str := ["first", "second", "many", "k", "one", "two"]
abbrev p_least_merge : List Str := ["first", "second"]
theorem sc_least_merge : FnScope N_least_merge p_least_merge (defScope s_least_merge) := ⟨rfl, rfl, rfl, by decide +kernel, rfl, by decide +kernel, by decide +kernel⟩
def c_least_merge : CSs := (.cons (.set 2 (.bin .sub (.bin .add (.b1 .len (.var 0)) (.b1 .len (.var 1))) (.int 1)))
    (.cons (.ret (.lc (.nm 3) (.r1 (.var 2)) .yes (.b1 .max (.lc (.tp [(.nm 4), (.nm 5)]) (.seq (.call "shared_out" (.cons (.var 0) (.cons (.var 1) (.cons (.var 3) .nil))))) .yes (.b2 .min (.var 4) (.var 5)) [4, 5])) [3]))
    .nil))
abbrev s_shared_out : Stmt := topS 3
abbrev N_shared_out : List Str := ["first", "second", "k", "least", "greatest", "at"]
abbrev p_shared_out : List Str := ["first", "second", "k"]
theorem sc_shared_out : FnScope N_shared_out p_shared_out (defScope s_shared_out) := ⟨rfl, rfl, rfl, by decide +kernel, rfl, by decide +kernel, by decide +kernel⟩
def c_shared_out : CSs := (.cons (.set 3 (.b2 .max (.int 0) (.bin .add (.bin .sub (.var 2) (.b1 .len (.var 1))) (.int 1))))
    (.cons (.set 4 (.b2 .min (.var 2) (.bin .sub (.b1 .len (.var 0)) (.int 1))))
    (.cons (.ret (.lc (.nm 5) (.r2 (.var 3) (.bin .add (.var 4) (.int 1))) .yes (.tup (.cons (.ix (.var 0) (.var 5)) (.cons (.ix (.var 1) (.bin .sub (.var 2) (.var 5))) .nil))) [5]))
    .nil)))
abbrev s__law_draw : Stmt := topS 5
abbrev N__law_draw : List Str := ["_law_script", "_law_place", "_law_step", "_law_size", "_law_cell", "_law_left", "_law_turn", "_law_mixed"]
abbrev p__law_draw : List Str := ["_law_script", "_law_place", "_law_step", "_law_size"]
theorem sc__law_draw : FnScope N__law_draw p__law_draw (defScope s__law_draw) := ⟨rfl, rfl, rfl, by decide +kernel, rfl, by decide +kernel, by decide +kernel⟩
def c__law_draw : CSs := (.cons (.set 4 (.var 1))
    (.cons (.ife (.val (.cmp .gt (.b1 .len (.var 0)) (.int 0))) (.cons (.set 4 (.bin .add (.ix (.var 0) (.bin .mod (.b1 .int (.var 1)) (.b1 .len (.var 0)))) (.bin .fdiv (.var 1) (.b1 .len (.var 0)))))
    .nil) .nil)
    (.cons (.ife (.val (.cmp .lt (.var 4) (.int 0))) (.cons (.set 4 (.bin .sub (.int 0) (.var 4)))
    .nil) .nil)
    (.cons (.set 5 (.bin .sub (.var 4) (.bin .pow (.int 10) (.int 18))))
    (.cons (.for (.nm 6) (.r1 (.var 2)) (.cons (.ife (.val (.cmp .gt (.var 5) (.int 0))) (.cons (.set 5 (.bin .fdiv (.var 5) (.int 1000)))
    .nil) .nil)
    .nil))
    (.cons (.ife (.val (.cmp .gt (.var 5) (.int 0))) (.cons (.ret (.bin .mod (.b1 .int (.bin .mod (.b1 .int (.var 5)) (.int 1000))) (.var 3)))
    .nil) .nil)
    (.cons (.set 7 (.bin .mod (.b1 .int (.bin .add (.bin .add (.bin .add (.var 4) (.bin .mul (.int 7919) (.var 2))) (.bin .mul (.int 104729) (.var 1))) (.int 13))) (.int 2147483647)))
    (.cons (.set 7 (.bin .mod (.b1 .int (.bin .mul (.var 7) (.bin .add (.var 7) (.int 48271)))) (.int 2147483629)))
    (.cons (.set 7 (.bin .mod (.b1 .int (.bin .add (.bin .mul (.var 7) (.bin .add (.var 7) (.int 69621))) (.bin .mul (.int 31) (.var 2)))) (.int 2147483647)))
    (.cons (.ret (.bin .mod (.b1 .int (.bin .fdiv (.var 7) (.int 9))) (.var 3)))
    .nil))))))))))
abbrev s__law_big : Stmt := topS 6
abbrev N__law_big : List Str := ["_law_script", "_law_place", "_law_step", "_law_size", "_law_number", "_law_turn"]
abbrev p__law_big : List Str := ["_law_script", "_law_place", "_law_step", "_law_size"]
theorem sc__law_big : FnScope N__law_big p__law_big (defScope s__law_big) := ⟨rfl, rfl, rfl, by decide +kernel, rfl, by decide +kernel, by decide +kernel⟩
def c__law_big : CSs := (.cons (.set 4 (.int 0))
    (.cons (.for (.nm 5) (.r1 (.int 7)) (.cons (.set 4 (.bin .add (.bin .mul (.var 4) (.int 1000)) (.call "_law_draw" (.cons (.var 0) (.cons (.var 1) (.cons (.bin .add (.var 2) (.var 5)) (.cons (.int 1000) .nil)))))))
    .nil))
    (.cons (.ret (.bin .mod (.b1 .int (.var 4)) (.var 3)))
    .nil)))
abbrev s__law_profile : Stmt := topS 7
abbrev N__law_profile : List Str := ["_law_script", "_law_place", "_law_shape", "_law_size", "_law_entry", "_law_row", "_law_k", "_law_more"]
abbrev p__law_profile : List Str := ["_law_script", "_law_place"]
theorem sc__law_profile : FnScope N__law_profile p__law_profile (defScope s__law_profile) := ⟨rfl, rfl, rfl, by decide +kernel, rfl, by decide +kernel, by decide +kernel⟩
def c__law_profile : CSs := (.cons (.set 2 (.call "_law_draw" (.cons (.var 0) (.cons (.var 1) (.cons (.int 0) (.cons (.int 8) .nil))))))
    (.cons (.ife (.val (.cmp .eq (.var 2) (.int 0))) (.cons (.ret (.lst (.cons (.int 0) .nil)))
    .nil) .nil)
    (.cons (.set 3 (.bin .add (.int 1) (.call "_law_draw" (.cons (.var 0) (.cons (.var 1) (.cons (.int 1) (.cons (.int 6) .nil)))))))
    (.cons (.ife (.val (.cmp .eq (.var 2) (.int 1))) (.cons (.set 3 (.bin .add (.int 1) (.call "_law_draw" (.cons (.var 0) (.cons (.var 1) (.cons (.int 1) (.cons (.int 25) .nil)))))))
    .nil) .nil)
    (.cons (.set 4 (.bin .sub (.call "_law_draw" (.cons (.var 0) (.cons (.var 1) (.cons (.int 2) (.cons (.int 15) .nil))))) (.int 5)))
    (.cons (.ife (.val (.cmp .eq (.var 2) (.int 2))) (.cons (.set 4 (.bin .sub (.call "_law_big" (.cons (.var 0) (.cons (.var 1) (.cons (.int 3) (.cons (.bin .add (.bin .mul (.int 2) (.bin .pow (.int 10) (.int 18))) (.int 1)) .nil))))) (.bin .pow (.int 10) (.int 18))))
    .nil) .nil)
    (.cons (.set 5 (.lst (.cons (.var 4) .nil)))
    (.cons (.for (.nm 6) (.r1 (.bin .sub (.var 3) (.int 1))) (.cons (.set 7 (.ix (.lst (.cons (.int 0) (.cons (.int 0) (.cons (.int 0) (.cons (.int 1) (.cons (.int 1) (.cons (.int 2) (.cons (.int 3) (.cons (.int 4) .nil))))))))) (.call "_law_draw" (.cons (.var 0) (.cons (.var 1) (.cons (.bin .add (.int 10) (.var 6)) (.cons (.int 8) .nil)))))))
    (.cons (.ife (.val (.cmp .eq (.var 2) (.int 3))) (.cons (.set 7 (.bin .mul (.var 7) (.bin .pow (.int 10) (.int 18))))
    .nil) .nil)
    (.cons (.app 5 (.bin .add (.ix (.var 5) (.neg (.int 1))) (.var 7)))
    .nil))))
    (.cons (.ret (.var 5))
    .nil)))))))))
abbrev s__law_due : Stmt := topS 8
abbrev N__law_due : List Str := ["_law_deed", "_law_first", "_law_second", "_law_due_here", "_law_i", "_law_j", "_law_value", "_law_k"]
abbrev p__law_due : List Str := ["_law_deed", "_law_first", "_law_second"]
theorem sc__law_due : FnScope N__law_due p__law_due (defScope s__law_due) := ⟨rfl, rfl, rfl, by decide +kernel, rfl, by decide +kernel, by decide +kernel⟩
def c__law_due : CSs := (.cons (.set 3 (.lc (.nm 7) (.r1 (.bin .sub (.bin .add (.b1 .len (.var 1)) (.b1 .len (.var 2))) (.int 1))) .yes .non [7]))
    (.cons (.for (.nm 4) (.r1 (.b1 .len (.var 1))) (.cons (.for (.nm 5) (.r1 (.b1 .len (.var 2))) (.cons (.set 6 (.bin .add (.ix (.var 1) (.var 4)) (.ix (.var 2) (.var 5))))
    (.cons (.ife (.val (.cmp .eq (.var 0) (.int 1))) (.cons (.set 6 (.b2 .min (.ix (.var 1) (.var 4)) (.ix (.var 2) (.var 5))))
    .nil) .nil)
    (.cons (.ife (.or (.val (.cmp .is (.ix (.var 3) (.bin .add (.var 4) (.var 5))) .non)) (.val (.cmp .gt (.var 6) (.ix (.var 3) (.bin .add (.var 4) (.var 5)))))) (.cons (.seti 3 (.bin .add (.var 4) (.var 5)) (.var 6))
    .nil) .nil)
    .nil))))
    .nil))
    (.cons (.ret (.var 3))
    .nil)))
abbrev s__law_merge : Stmt := topS 9
abbrev N__law_merge : List Str := ["_law_deed", "_law_first", "_law_second"]
abbrev p__law_merge : List Str := ["_law_deed", "_law_first", "_law_second"]
theorem sc__law_merge : FnScope N__law_merge p__law_merge (defScope s__law_merge) := ⟨rfl, rfl, rfl, by decide +kernel, rfl, by decide +kernel, by decide +kernel⟩
def c__law_merge : CSs := (.cons (.ife (.val (.cmp .eq (.var 0) (.int 0))) (.cons (.ret (.call "sum_merge" (.cons (.var 1) (.cons (.var 2) .nil))))
    .nil) .nil)
    (.cons (.ret (.call "least_merge" (.cons (.var 1) (.cons (.var 2) .nil))))
    .nil))
abbrev s__law_fits : Stmt := topS 10
abbrev N__law_fits : List Str := ["_law_told", "_law_due_here", "_law_k"]
abbrev p__law_fits : List Str := ["_law_told", "_law_due_here"]
theorem sc__law_fits : FnScope N__law_fits p__law_fits (defScope s__law_fits) := ⟨rfl, rfl, rfl, by decide +kernel, rfl, by decide +kernel, by decide +kernel⟩
def c__law_fits : CSs := (.cons (.ife (.or (.not (.val (.isi (.var 0) "list"))) (.val (.cmp .ne (.b1 .len (.var 0)) (.b1 .len (.var 1))))) (.cons (.ret (.bl false))
    .nil) .nil)
    (.cons (.for (.nm 2) (.r1 (.b1 .len (.var 1))) (.cons (.ife (.or (.not (.val (.isi (.ix (.var 0) (.var 2)) "int"))) (.or (.val (.isi (.ix (.var 0) (.var 2)) "bool")) (.val (.cmp .ne (.ix (.var 0) (.var 2)) (.ix (.var 1) (.var 2)))))) (.cons (.ret (.bl false))
    .nil) .nil)
    .nil))
    (.cons (.ret (.bl true))
    .nil)))
abbrev s__law_holds : Stmt := topS 11
abbrev N__law_holds : List Str := ["_law_deed", "_law_first", "_law_second", "_law_shape", "_law_due_here", "_law_one", "_law_two", "_law_told"]
abbrev p__law_holds : List Str := ["_law_deed", "_law_first", "_law_second", "_law_shape"]
theorem sc__law_holds : FnScope N__law_holds p__law_holds (defScope s__law_holds) := ⟨rfl, rfl, rfl, by decide +kernel, rfl, by decide +kernel, by decide +kernel⟩
def c__law_holds : CSs := (.cons (.set 4 (.call "_law_due" (.cons (.var 0) (.cons (.var 1) (.cons (.var 2) .nil)))))
    (.cons (.set 5 (.b1 .list (.var 1)))
    (.cons (.set 6 (.b1 .list (.var 2)))
    (.cons (.ife (.or (.val (.cmp .eq (.var 3) (.int 1))) (.val (.cmp .eq (.var 3) (.int 3)))) (.cons (.set 5 (.b1 .tuple (.var 5)))
    .nil) .nil)
    (.cons (.ife (.or (.val (.cmp .eq (.var 3) (.int 2))) (.val (.cmp .eq (.var 3) (.int 3)))) (.cons (.set 6 (.b1 .tuple (.var 6)))
    .nil) .nil)
    (.cons (.set 7 (.call "_law_merge" (.cons (.var 0) (.cons (.var 5) (.cons (.var 6) .nil)))))
    (.cons (.ife (.or (.not (.val (.call "_law_fits" (.cons (.var 7) (.cons (.var 4) .nil))))) (.or (.not (.val (.call "_law_fits" (.cons (.b1 .list (.var 5)) (.cons (.var 1) .nil))))) (.not (.val (.call "_law_fits" (.cons (.b1 .list (.var 6)) (.cons (.var 2) .nil))))))) (.cons (.ret (.bl false))
    .nil) .nil)
    (.cons (.ife (.val (.isi (.var 5) "list")) (.cons (.app 5 (.bin .add (.ix (.var 5) (.neg (.int 1))) (.int 5)))
    .nil) .nil)
    (.cons (.ife (.val (.isi (.var 6) "list")) (.cons (.ins 6 (.int 0) (.bin .sub (.ix (.var 6) (.int 0)) (.int 3)))
    .nil) .nil)
    (.cons (.ife (.not (.val (.call "_law_fits" (.cons (.var 7) (.cons (.var 4) .nil))))) (.cons (.ret (.bl false))
    .nil) .nil)
    (.cons (.app 7 (.int 0))
    (.cons (.seti 7 (.int 0) (.bin .add (.ix (.var 7) (.int 0)) (.int 1)))
    (.cons (.ife (.not (.val (.call "_law_fits" (.cons (.call "_law_merge" (.cons (.var 0) (.cons (.var 5) (.cons (.var 6) .nil)))) (.cons (.call "_law_due" (.cons (.var 0) (.cons (.b1 .list (.var 5)) (.cons (.b1 .list (.var 6)) .nil)))) .nil))))) (.cons (.ret (.bl false))
    .nil) .nil)
    (.cons (.ret (.call "_law_fits" (.cons (.call "_law_merge" (.cons (.var 0) (.cons (.b1 .list (.var 1)) (.cons (.b1 .tuple (.var 2)) .nil)))) (.cons (.var 4) .nil))))
    .nil))))))))))))))
abbrev s_law : Stmt := topS 12
abbrev N_law : List Str := ["_law_script", "_law_first", "_law_second", "_law_shape", "_law_deed"]
abbrev p_law : List Str := ["_law_script"]
theorem sc_law : FnScope N_law p_law (defScope s_law) := ⟨rfl, rfl, rfl, by decide +kernel, rfl, by decide +kernel, by decide +kernel⟩
def c_law : CSs := (.cons (.set 1 (.call "_law_profile" (.cons (.var 0) (.cons (.int 0) .nil))))
    (.cons (.set 2 (.call "_law_profile" (.cons (.var 0) (.cons (.int 1) .nil))))
    (.cons (.set 3 (.call "_law_draw" (.cons (.var 0) (.cons (.int 2) (.cons (.int 0) (.cons (.int 4) .nil))))))
    (.cons (.for (.nm 4) (.r1 (.int 2)) (.cons (.ife (.not (.val (.call "_law_holds" (.cons (.var 4) (.cons (.var 1) (.cons (.var 2) (.cons (.var 3) .nil))))))) (.cons (.ret (.bl false))
    .nil) .nil)
    (.cons (.ife (.not (.val (.call "_law_fits" (.cons (.call "_law_merge" (.cons (.var 4) (.cons (.b1 .list (.var 2)) (.cons (.b1 .list (.var 1)) .nil)))) (.cons (.call "_law_due" (.cons (.var 4) (.cons (.var 1) (.cons (.var 2) .nil)))) .nil))))) (.cons (.ret (.bl false))
    .nil) .nil)
    .nil)))
    (.cons (.ret (.bl true))
    .nil)))))
def T : List (Str × CDef) := [("sum_merge", ⟨6, 2, c_sum_merge⟩), ("least_merge", ⟨6, 2, c_least_merge⟩), ("shared_out", ⟨6, 3, c_shared_out⟩), ("_law_draw", ⟨8, 4, c__law_draw⟩), ("_law_big", ⟨6, 4, c__law_big⟩), ("_law_profile", ⟨8, 2, c__law_profile⟩), ("_law_due", ⟨8, 3, c__law_due⟩), ("_law_merge", ⟨3, 3, c__law_merge⟩), ("_law_fits", ⟨3, 2, c__law_fits⟩), ("_law_holds", ⟨8, 4, c__law_holds⟩), ("law", ⟨5, 1, c_law⟩)]
theorem t_sum_merge : cSs ⟨N_sum_merge, defScope s_sum_merge, defScope s_sum_merge, T.map (·.1)⟩ 100 (defBody s_sum_merge) = some c_sum_merge := by rfl
theorem v_sum_merge {k : Nat} {ds : List D} : evF T (k + 1) "sum_merge" ds = evD ⟨evF T k⟩ ⟨6, 2, c_sum_merge⟩ ds := by rw [evF]; rfl
theorem t_least_merge : cSs ⟨N_least_merge, defScope s_least_merge, defScope s_least_merge, T.map (·.1)⟩ 100 (defBody s_least_merge) = some c_least_merge := by rfl
theorem v_least_merge {k : Nat} {ds : List D} : evF T (k + 1) "least_merge" ds = evD ⟨evF T k⟩ ⟨6, 2, c_least_merge⟩ ds := by rw [evF]; rfl
theorem t_shared_out : cSs ⟨N_shared_out, defScope s_shared_out, defScope s_shared_out, T.map (·.1)⟩ 100 (defBody s_shared_out) = some c_shared_out := by rfl
theorem v_shared_out {k : Nat} {ds : List D} : evF T (k + 1) "shared_out" ds = evD ⟨evF T k⟩ ⟨6, 3, c_shared_out⟩ ds := by rw [evF]; rfl
theorem t__law_draw : cSs ⟨N__law_draw, defScope s__law_draw, defScope s__law_draw, T.map (·.1)⟩ 100 (defBody s__law_draw) = some c__law_draw := by rfl
theorem v__law_draw {k : Nat} {ds : List D} : evF T (k + 1) "_law_draw" ds = evD ⟨evF T k⟩ ⟨8, 4, c__law_draw⟩ ds := by rw [evF]; rfl
theorem t__law_big : cSs ⟨N__law_big, defScope s__law_big, defScope s__law_big, T.map (·.1)⟩ 100 (defBody s__law_big) = some c__law_big := by rfl
theorem v__law_big {k : Nat} {ds : List D} : evF T (k + 1) "_law_big" ds = evD ⟨evF T k⟩ ⟨6, 4, c__law_big⟩ ds := by rw [evF]; rfl
theorem t__law_profile : cSs ⟨N__law_profile, defScope s__law_profile, defScope s__law_profile, T.map (·.1)⟩ 100 (defBody s__law_profile) = some c__law_profile := by rfl
theorem v__law_profile {k : Nat} {ds : List D} : evF T (k + 1) "_law_profile" ds = evD ⟨evF T k⟩ ⟨8, 2, c__law_profile⟩ ds := by rw [evF]; rfl
theorem t__law_due : cSs ⟨N__law_due, defScope s__law_due, defScope s__law_due, T.map (·.1)⟩ 100 (defBody s__law_due) = some c__law_due := by rfl
theorem v__law_due {k : Nat} {ds : List D} : evF T (k + 1) "_law_due" ds = evD ⟨evF T k⟩ ⟨8, 3, c__law_due⟩ ds := by rw [evF]; rfl
theorem t__law_merge : cSs ⟨N__law_merge, defScope s__law_merge, defScope s__law_merge, T.map (·.1)⟩ 100 (defBody s__law_merge) = some c__law_merge := by rfl
theorem v__law_merge {k : Nat} {ds : List D} : evF T (k + 1) "_law_merge" ds = evD ⟨evF T k⟩ ⟨3, 3, c__law_merge⟩ ds := by rw [evF]; rfl
theorem t__law_fits : cSs ⟨N__law_fits, defScope s__law_fits, defScope s__law_fits, T.map (·.1)⟩ 100 (defBody s__law_fits) = some c__law_fits := by rfl
theorem v__law_fits {k : Nat} {ds : List D} : evF T (k + 1) "_law_fits" ds = evD ⟨evF T k⟩ ⟨3, 2, c__law_fits⟩ ds := by rw [evF]; rfl
theorem t__law_holds : cSs ⟨N__law_holds, defScope s__law_holds, defScope s__law_holds, T.map (·.1)⟩ 100 (defBody s__law_holds) = some c__law_holds := by rfl
theorem v__law_holds {k : Nat} {ds : List D} : evF T (k + 1) "_law_holds" ds = evD ⟨evF T k⟩ ⟨8, 4, c__law_holds⟩ ds := by rw [evF]; rfl
theorem t_law : cSs ⟨N_law, defScope s_law, defScope s_law, T.map (·.1)⟩ 100 (defBody s_law) = some c_law := by rfl
theorem v_law {k : Nat} {ds : List D} : evF T (k + 1) "law" ds = evD ⟨evF T k⟩ ⟨5, 1, c_law⟩ ds := by rw [evF]; rfl
end QL

end
section
set_option maxRecDepth 100000
set_option maxHeartbeats 4000000
namespace QL
open PySem PySem.Spec PyProof.Rows L2 Evl
local macro_rules | `(tactic| walk_at "ev") => `(tactic| simp -implicitDefEqProofs only [ev_var, ev_int, ev_bl, ev_str, ev_non, ev_bin, ev_cmp, ev_chain, ev_neg, ev_not, ev_and, ev_or, ev_ife, ev_ix, ev_tup, ev_lst, ev_call, ev_b1, ev_b2, ev_isi, ev_lc, ev_lc2, evs_nil, evs_cons, src_r1', src_r2', src_seq', t_yes', t_not', t_and', t_or', t_val', ss_nil, ss_cons, s_set, s_pat, s_seti, s_app, s_ins, s_ife, s_for, s_retv, s_expr, s_pass, s_brk, s_cont, varS_dat, varS_bor, varS_own, varS_ownD, nrm_int, nrm_bl, nrm_str, nrm_non, nrm_scr, nrm_obj, nrm_lst, nrm_dic, nrm_f, nrm_tup, imm_int, imm_bl, imm_str, imm_non, imm_scr, imm_lst, imm_tup, imm_dic, imm_obj, immA_nil, immA_cons, op2_vv, bin_add, bin_sub, cmp_lt, cmp_le, cmp_gt, cmp_ge, cmp_eq, cmp_ne, cmp_eqb, cmp_neb, cmp_isb, cmp_isnb, cmp_eqs, cmp_nes, isNon_non, isNon_int, isNon_bl, isNon_lst, isNon_tup, isNon_str, isNon_obj, isNon_dic, cmp_is, cmp_isn, ixQ_some, ix_lst, ix_tup, ix_scr, ixm_f, ixm_n, ixm_o, ixm_b, ixm_h, len_lst, len_tup, len_scr, int_int, max_ii, min_ii, neg_i, not_b, bv_v1, list_lst, list_tup, tuple_lst, tuple_tup, itF_f, itF_n, itF_o, itF_b, itF_h, cf_f, cf_n, cf_b, cf_h, cf_o, allCf_nil, allCf_cons, tst_v, truth_bl, truth_lst, andT_t, andT_f, orT_t, orT_f, andR_t, andR_f, orR_f, orR_t, blV_b, ifE_t, ifE_f, ifS_t, ifS_f, ifL_t, ifL_f, elt1_v, lcB_s, lcR_v, lcR2_v, thenS_nx, thenS_rt, thenS_bk, thenS_ct, setR_v, setQ_s, slotV_f, slotV_n, slotV_nd, slotV_bl, slotV_bt, patR_v, setiR_v, appR_v, insR_v, forR_v, retV_own, retV_dat, retV_bor, retV_ownD, retR_v, exprR_v, ret_tup, esc_tup, ret_lst, esc_lst, ret_bin, esc_bin, ret_cmp, esc_cmp, ret_neg, esc_neg, ret_not, esc_not, ret_and, esc_and, ret_or, esc_or, ret_ix, esc_ix, ret_b1, esc_b1, ret_b2, esc_b2, ret_isi, esc_isi, ret_call, esc_call, ret_int, esc_int, ret_bl, esc_bl, ret_ife, esc_ife, ret_str, esc_str, ret_chain, esc_chain, ret_non, esc_non, ret_lc, esc_lc, ret_lc2, esc_lc2, esc_var, escs_nil, escs_cons, frzA_nil, frzA_cons, frz_dat, frz_bor, frz_own, frz_ownD, frz_un, srcEsc_r1, srcEsc_r2, srcEsc_var, srcEsc_call, srcEsc_lst, srcEsc_tup, srcEsc_ix, srcEsc_b1, srcEsc_bin, callR_v, callQ_f, callQ_n, callQ_x, consR_vv, tupR_v, lstR_v, lstR_h, r1R_i, r2R_i, seqR_v, srcD_scr, srcD_lf, srcD_tf, srcD_lb, srcD_tb, srcD_lo, srcD_to, srcD_lh, srcD_th, srcD_ln, fin_f, fin_n, fin_nx, slot0_int, slot0_bl, slot0_str, slot0_non, slot0_scr, slot0_lst, slot0_tup, slot0_obj, slot0_dic, bind_nm, slotOf_f, slotOf_int, slotOf_bl, bind_tp, binds_nil, binds_cons, wipe_nil, wipe_cons, isi_int_int, isi_int_bool, isi_int_str, isi_int_list, isi_int_tuple, isi_int_dict, isi_bool_int, isi_bool_bool, isi_bool_str, isi_bool_list, isi_bool_tuple, isi_bool_dict, isi_list_int, isi_list_bool, isi_list_str, isi_list_list, isi_list_tuple, isi_list_dict, isi_tuple_int, isi_tuple_bool, isi_tuple_str, isi_tuple_list, isi_tuple_tuple, isi_tuple_dict, isi_NoneType_int, isi_NoneType_bool, isi_NoneType_str, isi_NoneType_list, isi_NoneType_tuple, isi_NoneType_dict, isi_str_int, isi_str_bool, isi_str_str, isi_str_list, isi_str_tuple, isi_str_dict, isi_dict_int, isi_dict_bool, isi_dict_str, isi_dict_list, isi_dict_tuple, isi_dict_dict, Option.map_some, Option.map_none, Option.bind_some, Option.bind_none, List.getElem?_cons_zero, List.getElem?_cons_succ, List.set_cons_zero, List.set_cons_succ, List.getD_cons_zero, List.getD_cons_succ, List.map_cons, List.map_nil, List.length_cons, List.length_nil, List.nil_append, List.cons_append, List.append_nil, Bool.not_true, Bool.not_false, Bool.and_true, Bool.true_and, Bool.and_false, Bool.false_and, Bool.or_true, Bool.true_or, Bool.or_false, Bool.false_or, reduceIte, if_true, if_false, Bool.false_eq_true, decide_true, decide_false, reduceCtorEq, and_true, true_and, and_self, Nat.reduceAdd, Nat.reduceLeDiff, Nat.reduceLT, Nat.reduceSub, Nat.reduceEqDiff, List.isEmpty_cons, List.isEmpty_nil, not_true_eq_false, not_false_eq_true, bin_mul, bin_fdiv, bin_mod, bin_pow, Int.reduceLT, Int.reduceLE, Int.reduceNeg, Nat.reducePow, Int.reducePow, Int.reduceToNat])
local macro_rules | `(tactic| walk_at "evs") => `(tactic| simp -implicitDefEqProofs only [*, ev_var, ev_int, ev_bl, ev_str, ev_non, ev_bin, ev_cmp, ev_chain, ev_neg, ev_not, ev_and, ev_or, ev_ife, ev_ix, ev_tup, ev_lst, ev_call, ev_b1, ev_b2, ev_isi, ev_lc, ev_lc2, evs_nil, evs_cons, src_r1', src_r2', src_seq', t_yes', t_not', t_and', t_or', t_val', ss_nil, ss_cons, s_set, s_pat, s_seti, s_app, s_ins, s_ife, s_for, s_retv, s_expr, s_pass, s_brk, s_cont, varS_dat, varS_bor, varS_own, varS_ownD, nrm_int, nrm_bl, nrm_str, nrm_non, nrm_scr, nrm_obj, nrm_lst, nrm_dic, nrm_f, nrm_tup, imm_int, imm_bl, imm_str, imm_non, imm_scr, imm_lst, imm_tup, imm_dic, imm_obj, immA_nil, immA_cons, op2_vv, bin_add, bin_sub, cmp_lt, cmp_le, cmp_gt, cmp_ge, cmp_eq, cmp_ne, cmp_eqb, cmp_neb, cmp_isb, cmp_isnb, cmp_eqs, cmp_nes, isNon_non, isNon_int, isNon_bl, isNon_lst, isNon_tup, isNon_str, isNon_obj, isNon_dic, cmp_is, cmp_isn, ixQ_some, ix_lst, ix_tup, ix_scr, ixm_f, ixm_n, ixm_o, ixm_b, ixm_h, len_lst, len_tup, len_scr, int_int, max_ii, min_ii, neg_i, not_b, bv_v1, list_lst, list_tup, tuple_lst, tuple_tup, itF_f, itF_n, itF_o, itF_b, itF_h, cf_f, cf_n, cf_b, cf_h, cf_o, allCf_nil, allCf_cons, tst_v, truth_bl, truth_lst, andT_t, andT_f, orT_t, orT_f, andR_t, andR_f, orR_f, orR_t, blV_b, ifE_t, ifE_f, ifS_t, ifS_f, ifL_t, ifL_f, elt1_v, lcB_s, lcR_v, lcR2_v, thenS_nx, thenS_rt, thenS_bk, thenS_ct, setR_v, setQ_s, slotV_f, slotV_n, slotV_nd, slotV_bl, slotV_bt, patR_v, setiR_v, appR_v, insR_v, forR_v, retV_own, retV_dat, retV_bor, retV_ownD, retR_v, exprR_v, ret_tup, esc_tup, ret_lst, esc_lst, ret_bin, esc_bin, ret_cmp, esc_cmp, ret_neg, esc_neg, ret_not, esc_not, ret_and, esc_and, ret_or, esc_or, ret_ix, esc_ix, ret_b1, esc_b1, ret_b2, esc_b2, ret_isi, esc_isi, ret_call, esc_call, ret_int, esc_int, ret_bl, esc_bl, ret_ife, esc_ife, ret_str, esc_str, ret_chain, esc_chain, ret_non, esc_non, ret_lc, esc_lc, ret_lc2, esc_lc2, esc_var, escs_nil, escs_cons, frzA_nil, frzA_cons, frz_dat, frz_bor, frz_own, frz_ownD, frz_un, srcEsc_r1, srcEsc_r2, srcEsc_var, srcEsc_call, srcEsc_lst, srcEsc_tup, srcEsc_ix, srcEsc_b1, srcEsc_bin, callR_v, callQ_f, callQ_n, callQ_x, consR_vv, tupR_v, lstR_v, lstR_h, r1R_i, r2R_i, seqR_v, srcD_scr, srcD_lf, srcD_tf, srcD_lb, srcD_tb, srcD_lo, srcD_to, srcD_lh, srcD_th, srcD_ln, fin_f, fin_n, fin_nx, slot0_int, slot0_bl, slot0_str, slot0_non, slot0_scr, slot0_lst, slot0_tup, slot0_obj, slot0_dic, bind_nm, slotOf_f, slotOf_int, slotOf_bl, bind_tp, binds_nil, binds_cons, wipe_nil, wipe_cons, isi_int_int, isi_int_bool, isi_int_str, isi_int_list, isi_int_tuple, isi_int_dict, isi_bool_int, isi_bool_bool, isi_bool_str, isi_bool_list, isi_bool_tuple, isi_bool_dict, isi_list_int, isi_list_bool, isi_list_str, isi_list_list, isi_list_tuple, isi_list_dict, isi_tuple_int, isi_tuple_bool, isi_tuple_str, isi_tuple_list, isi_tuple_tuple, isi_tuple_dict, isi_NoneType_int, isi_NoneType_bool, isi_NoneType_str, isi_NoneType_list, isi_NoneType_tuple, isi_NoneType_dict, isi_str_int, isi_str_bool, isi_str_str, isi_str_list, isi_str_tuple, isi_str_dict, isi_dict_int, isi_dict_bool, isi_dict_str, isi_dict_list, isi_dict_tuple, isi_dict_dict, Option.map_some, Option.map_none, Option.bind_some, Option.bind_none, List.getElem?_cons_zero, List.getElem?_cons_succ, List.set_cons_zero, List.set_cons_succ, List.getD_cons_zero, List.getD_cons_succ, List.map_cons, List.map_nil, List.length_cons, List.length_nil, List.nil_append, List.cons_append, List.append_nil, Bool.not_true, Bool.not_false, Bool.and_true, Bool.true_and, Bool.and_false, Bool.false_and, Bool.or_true, Bool.true_or, Bool.or_false, Bool.false_or, reduceIte, if_true, if_false, Bool.false_eq_true, decide_true, decide_false, reduceCtorEq, and_true, true_and, and_self, Nat.reduceAdd, Nat.reduceLeDiff, Nat.reduceLT, Nat.reduceSub, Nat.reduceEqDiff, List.isEmpty_cons, List.isEmpty_nil, not_true_eq_false, not_false_eq_true, bin_mul, bin_fdiv, bin_mod, bin_pow, Int.reduceLT, Int.reduceLE, Int.reduceNeg, Nat.reducePow, Int.reducePow, Int.reduceToNat])
/-- a list or a tuple of integers -/
def sq (t : Bool) (a : List Int) : D := if t = true then .tup (a.map .int) else .lst (a.map .int)
theorem len_sq {t : Bool} {a : List Int} {m : Md} : b1D .len m (sq t a) = some (.v .f (.int a.length)) := by
  cases t <;> simp [sq, b1D, dlen]
theorem slot0_sq {t : Bool} {a : List Int} : slot0 (sq t a) = if t = true then .dat (sq t a) else .bor (sq t a) := by
  cases t
  · rfl
  · show slot0 (.tup (a.map .int)) = .dat (.tup (a.map .int))
    rw [slot0_tup, if_pos (immA_ints a)]
theorem atI_int {a : List Int} {k : Nat} (h : k < a.length) : atI (a.map D.int) (k : Int) = some (.int (a.getD k 0)) := by
  apply atI_nat
  rw [List.getElem?_map, List.getElem?_eq_getElem h, List.getD_eq_getElem?_getD, List.getElem?_eq_getElem h]; rfl
theorem ix_sq {t : Bool} {a : List Int} {k : Nat} {m m' : Md} (h : k < a.length) : ixV m (sq t a) m' (.int (k : Int)) = some (.v .f (.int (a.getD k 0))) := by
  cases t
  · show ixV m (.lst (a.map .int)) m' _ = _
    rw [ix_lst, atI_int h]; rfl
  · show ixV m (.tup (a.map .int)) m' _ = _
    rw [ix_tup, atI_int h]; rfl
/-- the slot of a list or a tuple that was passed -/
def slq (t : Bool) (a : List Int) : Sl := if t = true then .dat (sq t a) else .bor (sq t a)
theorem varS_slq {t : Bool} {a : List Int} : ∃ m, varS (some (slq t a)) = some (.v m (sq t a)) := by
  cases t
  · exact ⟨_, rfl⟩
  · exact ⟨_, rfl⟩
def lo (A B : List Int) (k : Nat) : Nat := k + 1 - B.length
def hi (A : List Int) (k : Nat) : Nat := min k (A.length - 1)
def shared (A B : List Int) (k : Nat) : List (Int × Int) := (List.range (hi A k + 1 - lo A B k)).map fun j => (A.getD (lo A B k + j) 0, B.getD (k - (lo A B k + j)) 0)
def pr (x : Int × Int) : D := .tup [.int x.1, .int x.2]
theorem shared_v {k' : Nat} {t u : Bool} {A B : List Int} {k : Nat} (ha : 0 < A.length) (hb : 0 < B.length) (la : A.length ≤ 100) (lb : B.length ≤ 100) (hk : k < A.length + B.length - 1) :
    evF T (k' + 1) "shared_out" [sq t A, sq u B, .int k] = some (.ok .n (.lst ((shared A B k).map pr))) := by
  obtain ⟨m1, e1⟩ := varS_slq (t := t) (a := A)
  obtain ⟨m2, e2⟩ := varS_slq (t := u) (a := B)
  rw [v_shared_out, evD_run (by rfl)]
  show (evSs ⟨evF T k'⟩ c_shared_out [slot0 (sq t A), slot0 (sq u B), .dat (.int k), .un, .un, .un]).bind fin = _
  rw [slot0_sq, slot0_sq]
  change (evSs ⟨evF T k'⟩ c_shared_out [slq t A, slq u B, .dat (.int k), .un, .un, .un]).bind fin = _
  unfold c_shared_out
  walk_at "ev"
  simp only [e1, e2]
  have l1 := @len_sq
  walk_at "evs"
  have x1 : max 0 ((k : Int) - B.length + 1) = ((lo A B k : Nat) : Int) := by unfold lo; omega
  have x2 : min (k : Int) ((A.length : Int) - 1) = ((hi A k : Nat) : Int) := by unfold hi; omega
  simp only [x1, x2]
  have h1 : hi A k ≤ 100 := by unfold hi; omega
  have h2 : lo A B k ≤ 200 := by unfold lo; omega
  rw [if_pos (by omega)]
  walk_at "evs"
  have e3 : ((hi A k : Int) + 1 - (lo A B k : Int)).toNat = hi A k + 1 - lo A B k := by omega
  rw [e3, lc_rng (v := fun j => (Md.f, pr (A.getD (lo A B k + j) 0, B.getD (k - (lo A B k + j)) 0))) (fun j hj => ?_)]
  · rw [Option.bind_some, lcD_map (by rw [List.length_range]; omega) (fun x _ => cf_f)]
    walk_at "ev"
    unfold shared
    rw [List.map_map]; rfl
  · unfold lcBody
    walk_at "ev"
    simp only [e1, e2]
    have y1 : lo A B k + j < A.length := by unfold lo hi at *; omega
    have y2 : k - (lo A B k + j) < B.length := by unfold lo hi at *; omega
    have y3 : lo A B k + j ≤ k := by unfold lo hi at *; omega
    have z1 : (lo A B k : Int) + (j : Int) = ((lo A B k + j : Nat) : Int) := by omega
    have z2 : (k : Int) - ((lo A B k + j : Nat) : Int) = ((k - (lo A B k + j) : Nat) : Int) := by omega
    simp only [z1]
    walk_at "ev"
    simp only [z2]
    rw [ix_sq y1, ix_sq y2]
    walk_at "ev"
    rfl
/-- the greatest -/
def mxl (l : List Int) : Int := match l with | [] => 0 | a :: r => maxI a r
theorem maxL_v {l : List Int} {m : Md} (h : l ≠ []) : b1D .max m (.lst (l.map .int)) = some (.v .f (.int (mxl l))) := by
  cases l with
  | nil => exact absurd rfl h
  | cons a r =>
    have e : ∀ l : List Int, intsOf (l.map D.int) = some l := by
      intro l
      induction l with
      | nil => rfl
      | cons a r ih => simp only [List.map_cons, intsOf, ih, Option.map_some]
    simp only [b1D, e, Option.bind_some]; rfl
theorem shared_ne {A B : List Int} {k : Nat} (ha : 0 < A.length) (hb : 0 < B.length) (hk : k < A.length + B.length - 1) : shared A B k ≠ [] := by
  intro h
  have : (shared A B k).length = 0 := by rw [h]; rfl
  unfold shared at this
  rw [List.length_map, List.length_range] at this
  unfold lo hi at this
  omega
theorem shared_len {A B : List Int} {k : Nat} (la : A.length ≤ 100) : (shared A B k).length ≤ 101 := by
  unfold shared
  rw [List.length_map, List.length_range]
  unfold lo hi
  omega
/-- the merge by f -/
def mg (f : Int → Int → Int) (A B : List Int) : List Int := (List.range (A.length + B.length - 1)).map fun k => mxl ((shared A B k).map fun x => f x.1 x.2)
theorem sum_v {k' : Nat} {t u : Bool} {A B : List Int} (ha : 0 < A.length) (hb : 0 < B.length) (la : A.length ≤ 100) (lb : B.length ≤ 100) :
    evF T (k' + 2) "sum_merge" [sq t A, sq u B] = some (.ok .n (.lst ((mg (· + ·) A B).map .int))) := by
  obtain ⟨m1, e1⟩ := varS_slq (t := t) (a := A)
  obtain ⟨m2, e2⟩ := varS_slq (t := u) (a := B)
  rw [v_sum_merge, evD_run (by rfl)]
  show (evSs ⟨evF T (k' + 1)⟩ c_sum_merge [slot0 (sq t A), slot0 (sq u B), .un, .un, .un, .un]).bind fin = _
  rw [slot0_sq, slot0_sq]
  change (evSs ⟨evF T (k' + 1)⟩ c_sum_merge [slq t A, slq u B, .un, .un, .un, .un]).bind fin = _
  unfold c_sum_merge
  walk_at "ev"
  simp only [e1, e2]
  walk_at "ev"
  simp only [len_sq]
  walk_at "ev"
  rw [if_pos (by omega)]
  walk_at "ev"
  have e3 : ((A.length : Int) + B.length - 1).toNat = A.length + B.length - 1 := by omega
  rw [e3, lc_rng (v := fun k => (Md.f, D.int (mxl ((shared A B k).map fun x => x.1 + x.2)))) (fun k hk => ?_)]
  · rw [Option.bind_some, lcD_map (by rw [List.length_range]; omega) (fun x _ => cf_f)]
    walk_at "ev"
    unfold mg
    rw [List.map_map]; rfl
  · unfold lcBody
    walk_at "ev"
    simp only [e1, e2]
    walk_at "ev"
    rw [Int.zero_add, shared_v ha hb la lb hk]
    walk_at "ev"
    rw [lc_seq (v := fun x => (Md.f, D.int (x.1 + x.2))) (fun x _ => ?_)]
    · rw [Option.bind_some, lcD_map (by have := shared_len (B := B) (k := k) la; omega) (fun x _ => cf_f)]
      walk_at "ev"
      rw [show ((shared A B k).map fun x => D.int (x.1 + x.2)) = ((shared A B k).map fun x => x.1 + x.2).map D.int from by rw [List.map_map]; rfl, maxL_v (by intro h; exact shared_ne ha hb hk (List.map_eq_nil_iff.mp h))]
      walk_at "ev"
    · unfold lcBody pr
      walk_at "ev"
theorem least_v {k' : Nat} {t u : Bool} {A B : List Int} (ha : 0 < A.length) (hb : 0 < B.length) (la : A.length ≤ 100) (lb : B.length ≤ 100) :
    evF T (k' + 2) "least_merge" [sq t A, sq u B] = some (.ok .n (.lst ((mg min A B).map .int))) := by
  obtain ⟨m1, e1⟩ := varS_slq (t := t) (a := A)
  obtain ⟨m2, e2⟩ := varS_slq (t := u) (a := B)
  rw [v_least_merge, evD_run (by rfl)]
  show (evSs ⟨evF T (k' + 1)⟩ c_least_merge [slot0 (sq t A), slot0 (sq u B), .un, .un, .un, .un]).bind fin = _
  rw [slot0_sq, slot0_sq]
  change (evSs ⟨evF T (k' + 1)⟩ c_least_merge [slq t A, slq u B, .un, .un, .un, .un]).bind fin = _
  unfold c_least_merge
  walk_at "ev"
  simp only [e1, e2]
  walk_at "ev"
  simp only [len_sq]
  walk_at "ev"
  rw [if_pos (by omega)]
  walk_at "ev"
  have e3 : ((A.length : Int) + B.length - 1).toNat = A.length + B.length - 1 := by omega
  rw [e3, lc_rng (v := fun k => (Md.f, D.int (mxl ((shared A B k).map fun x => min x.1 x.2)))) (fun k hk => ?_)]
  · rw [Option.bind_some, lcD_map (by rw [List.length_range]; omega) (fun x _ => cf_f)]
    walk_at "ev"
    unfold mg
    rw [List.map_map]; rfl
  · unfold lcBody
    walk_at "ev"
    simp only [e1, e2]
    walk_at "ev"
    rw [Int.zero_add, shared_v ha hb la lb hk]
    walk_at "ev"
    rw [lc_seq (v := fun x => (Md.f, D.int (min x.1 x.2))) (fun x _ => ?_)]
    · rw [Option.bind_some, lcD_map (by have := shared_len (B := B) (k := k) la; omega) (fun x _ => cf_f)]
      walk_at "ev"
      rw [show ((shared A B k).map fun x => D.int (min x.1 x.2)) = ((shared A B k).map fun x => min x.1 x.2).map D.int from by rw [List.map_map]; rfl, maxL_v (by intro h; exact shared_ne ha hb hk (List.map_eq_nil_iff.mp h))]
      walk_at "ev"
    · unfold lcBody pr
      walk_at "ev"
end QL

end
section
set_option maxRecDepth 100000
set_option maxHeartbeats 4000000
namespace QL
open PySem PySem.Spec PyProof.Rows L2 Evl
local macro_rules | `(tactic| walk_at "ev") => `(tactic| simp -implicitDefEqProofs only [ev_var, ev_int, ev_bl, ev_str, ev_non, ev_bin, ev_cmp, ev_chain, ev_neg, ev_not, ev_and, ev_or, ev_ife, ev_ix, ev_tup, ev_lst, ev_call, ev_b1, ev_b2, ev_isi, ev_lc, ev_lc2, evs_nil, evs_cons, src_r1', src_r2', src_seq', t_yes', t_not', t_and', t_or', t_val', ss_nil, ss_cons, s_set, s_pat, s_seti, s_app, s_ins, s_ife, s_for, s_retv, s_expr, s_pass, s_brk, s_cont, varS_dat, varS_bor, varS_own, varS_ownD, nrm_int, nrm_bl, nrm_str, nrm_non, nrm_scr, nrm_obj, nrm_lst, nrm_dic, nrm_f, nrm_tup, imm_int, imm_bl, imm_str, imm_non, imm_scr, imm_lst, imm_tup, imm_dic, imm_obj, immA_nil, immA_cons, op2_vv, bin_add, bin_sub, cmp_lt, cmp_le, cmp_gt, cmp_ge, cmp_eq, cmp_ne, cmp_eqb, cmp_neb, cmp_isb, cmp_isnb, cmp_eqs, cmp_nes, isNon_non, isNon_int, isNon_bl, isNon_lst, isNon_tup, isNon_str, isNon_obj, isNon_dic, cmp_is, cmp_isn, ixQ_some, ix_lst, ix_tup, ix_scr, ixm_f, ixm_n, ixm_o, ixm_b, ixm_h, len_lst, len_tup, len_scr, int_int, max_ii, min_ii, neg_i, not_b, bv_v1, list_lst, list_tup, tuple_lst, tuple_tup, itF_f, itF_n, itF_o, itF_b, itF_h, cf_f, cf_n, cf_b, cf_h, cf_o, allCf_nil, allCf_cons, tst_v, truth_bl, truth_lst, andT_t, andT_f, orT_t, orT_f, andR_t, andR_f, orR_f, orR_t, blV_b, ifE_t, ifE_f, ifS_t, ifS_f, ifL_t, ifL_f, elt1_v, lcB_s, lcR_v, lcR2_v, thenS_nx, thenS_rt, thenS_bk, thenS_ct, setR_v, setQ_s, slotV_f, slotV_n, slotV_nd, slotV_bl, slotV_bt, patR_v, setiR_v, appR_v, insR_v, forR_v, retV_own, retV_dat, retV_bor, retV_ownD, retR_v, exprR_v, ret_tup, esc_tup, ret_lst, esc_lst, ret_bin, esc_bin, ret_cmp, esc_cmp, ret_neg, esc_neg, ret_not, esc_not, ret_and, esc_and, ret_or, esc_or, ret_ix, esc_ix, ret_b1, esc_b1, ret_b2, esc_b2, ret_isi, esc_isi, ret_call, esc_call, ret_int, esc_int, ret_bl, esc_bl, ret_ife, esc_ife, ret_str, esc_str, ret_chain, esc_chain, ret_non, esc_non, ret_lc, esc_lc, ret_lc2, esc_lc2, esc_var, escs_nil, escs_cons, frzA_nil, frzA_cons, frz_dat, frz_bor, frz_own, frz_ownD, frz_un, srcEsc_r1, srcEsc_r2, srcEsc_var, srcEsc_call, srcEsc_lst, srcEsc_tup, srcEsc_ix, srcEsc_b1, srcEsc_bin, callR_v, callQ_f, callQ_n, callQ_x, consR_vv, tupR_v, lstR_v, lstR_h, r1R_i, r2R_i, seqR_v, srcD_scr, srcD_lf, srcD_tf, srcD_lb, srcD_tb, srcD_lo, srcD_to, srcD_lh, srcD_th, srcD_ln, fin_f, fin_n, fin_nx, slot0_int, slot0_bl, slot0_str, slot0_non, slot0_scr, slot0_lst, slot0_tup, slot0_obj, slot0_dic, bind_nm, slotOf_f, slotOf_int, slotOf_bl, bind_tp, binds_nil, binds_cons, wipe_nil, wipe_cons, isi_int_int, isi_int_bool, isi_int_str, isi_int_list, isi_int_tuple, isi_int_dict, isi_bool_int, isi_bool_bool, isi_bool_str, isi_bool_list, isi_bool_tuple, isi_bool_dict, isi_list_int, isi_list_bool, isi_list_str, isi_list_list, isi_list_tuple, isi_list_dict, isi_tuple_int, isi_tuple_bool, isi_tuple_str, isi_tuple_list, isi_tuple_tuple, isi_tuple_dict, isi_NoneType_int, isi_NoneType_bool, isi_NoneType_str, isi_NoneType_list, isi_NoneType_tuple, isi_NoneType_dict, isi_str_int, isi_str_bool, isi_str_str, isi_str_list, isi_str_tuple, isi_str_dict, isi_dict_int, isi_dict_bool, isi_dict_str, isi_dict_list, isi_dict_tuple, isi_dict_dict, Option.map_some, Option.map_none, Option.bind_some, Option.bind_none, List.getElem?_cons_zero, List.getElem?_cons_succ, List.set_cons_zero, List.set_cons_succ, List.getD_cons_zero, List.getD_cons_succ, List.map_cons, List.map_nil, List.length_cons, List.length_nil, List.nil_append, List.cons_append, List.append_nil, Bool.not_true, Bool.not_false, Bool.and_true, Bool.true_and, Bool.and_false, Bool.false_and, Bool.or_true, Bool.true_or, Bool.or_false, Bool.false_or, reduceIte, if_true, if_false, Bool.false_eq_true, decide_true, decide_false, reduceCtorEq, and_true, true_and, and_self, Nat.reduceAdd, Nat.reduceLeDiff, Nat.reduceLT, Nat.reduceSub, Nat.reduceEqDiff, List.isEmpty_cons, List.isEmpty_nil, not_true_eq_false, not_false_eq_true, bin_mul, bin_fdiv, bin_mod, bin_pow, Int.reduceLT, Int.reduceLE, Int.reduceNeg, Nat.reducePow, Int.reducePow, Int.reduceToNat])
local macro_rules | `(tactic| walk_at "evs") => `(tactic| simp -implicitDefEqProofs only [*, ev_var, ev_int, ev_bl, ev_str, ev_non, ev_bin, ev_cmp, ev_chain, ev_neg, ev_not, ev_and, ev_or, ev_ife, ev_ix, ev_tup, ev_lst, ev_call, ev_b1, ev_b2, ev_isi, ev_lc, ev_lc2, evs_nil, evs_cons, src_r1', src_r2', src_seq', t_yes', t_not', t_and', t_or', t_val', ss_nil, ss_cons, s_set, s_pat, s_seti, s_app, s_ins, s_ife, s_for, s_retv, s_expr, s_pass, s_brk, s_cont, varS_dat, varS_bor, varS_own, varS_ownD, nrm_int, nrm_bl, nrm_str, nrm_non, nrm_scr, nrm_obj, nrm_lst, nrm_dic, nrm_f, nrm_tup, imm_int, imm_bl, imm_str, imm_non, imm_scr, imm_lst, imm_tup, imm_dic, imm_obj, immA_nil, immA_cons, op2_vv, bin_add, bin_sub, cmp_lt, cmp_le, cmp_gt, cmp_ge, cmp_eq, cmp_ne, cmp_eqb, cmp_neb, cmp_isb, cmp_isnb, cmp_eqs, cmp_nes, isNon_non, isNon_int, isNon_bl, isNon_lst, isNon_tup, isNon_str, isNon_obj, isNon_dic, cmp_is, cmp_isn, ixQ_some, ix_lst, ix_tup, ix_scr, ixm_f, ixm_n, ixm_o, ixm_b, ixm_h, len_lst, len_tup, len_scr, int_int, max_ii, min_ii, neg_i, not_b, bv_v1, list_lst, list_tup, tuple_lst, tuple_tup, itF_f, itF_n, itF_o, itF_b, itF_h, cf_f, cf_n, cf_b, cf_h, cf_o, allCf_nil, allCf_cons, tst_v, truth_bl, truth_lst, andT_t, andT_f, orT_t, orT_f, andR_t, andR_f, orR_f, orR_t, blV_b, ifE_t, ifE_f, ifS_t, ifS_f, ifL_t, ifL_f, elt1_v, lcB_s, lcR_v, lcR2_v, thenS_nx, thenS_rt, thenS_bk, thenS_ct, setR_v, setQ_s, slotV_f, slotV_n, slotV_nd, slotV_bl, slotV_bt, patR_v, setiR_v, appR_v, insR_v, forR_v, retV_own, retV_dat, retV_bor, retV_ownD, retR_v, exprR_v, ret_tup, esc_tup, ret_lst, esc_lst, ret_bin, esc_bin, ret_cmp, esc_cmp, ret_neg, esc_neg, ret_not, esc_not, ret_and, esc_and, ret_or, esc_or, ret_ix, esc_ix, ret_b1, esc_b1, ret_b2, esc_b2, ret_isi, esc_isi, ret_call, esc_call, ret_int, esc_int, ret_bl, esc_bl, ret_ife, esc_ife, ret_str, esc_str, ret_chain, esc_chain, ret_non, esc_non, ret_lc, esc_lc, ret_lc2, esc_lc2, esc_var, escs_nil, escs_cons, frzA_nil, frzA_cons, frz_dat, frz_bor, frz_own, frz_ownD, frz_un, srcEsc_r1, srcEsc_r2, srcEsc_var, srcEsc_call, srcEsc_lst, srcEsc_tup, srcEsc_ix, srcEsc_b1, srcEsc_bin, callR_v, callQ_f, callQ_n, callQ_x, consR_vv, tupR_v, lstR_v, lstR_h, r1R_i, r2R_i, seqR_v, srcD_scr, srcD_lf, srcD_tf, srcD_lb, srcD_tb, srcD_lo, srcD_to, srcD_lh, srcD_th, srcD_ln, fin_f, fin_n, fin_nx, slot0_int, slot0_bl, slot0_str, slot0_non, slot0_scr, slot0_lst, slot0_tup, slot0_obj, slot0_dic, bind_nm, slotOf_f, slotOf_int, slotOf_bl, bind_tp, binds_nil, binds_cons, wipe_nil, wipe_cons, isi_int_int, isi_int_bool, isi_int_str, isi_int_list, isi_int_tuple, isi_int_dict, isi_bool_int, isi_bool_bool, isi_bool_str, isi_bool_list, isi_bool_tuple, isi_bool_dict, isi_list_int, isi_list_bool, isi_list_str, isi_list_list, isi_list_tuple, isi_list_dict, isi_tuple_int, isi_tuple_bool, isi_tuple_str, isi_tuple_list, isi_tuple_tuple, isi_tuple_dict, isi_NoneType_int, isi_NoneType_bool, isi_NoneType_str, isi_NoneType_list, isi_NoneType_tuple, isi_NoneType_dict, isi_str_int, isi_str_bool, isi_str_str, isi_str_list, isi_str_tuple, isi_str_dict, isi_dict_int, isi_dict_bool, isi_dict_str, isi_dict_list, isi_dict_tuple, isi_dict_dict, Option.map_some, Option.map_none, Option.bind_some, Option.bind_none, List.getElem?_cons_zero, List.getElem?_cons_succ, List.set_cons_zero, List.set_cons_succ, List.getD_cons_zero, List.getD_cons_succ, List.map_cons, List.map_nil, List.length_cons, List.length_nil, List.nil_append, List.cons_append, List.append_nil, Bool.not_true, Bool.not_false, Bool.and_true, Bool.true_and, Bool.and_false, Bool.false_and, Bool.or_true, Bool.true_or, Bool.or_false, Bool.false_or, reduceIte, if_true, if_false, Bool.false_eq_true, decide_true, decide_false, reduceCtorEq, and_true, true_and, and_self, Nat.reduceAdd, Nat.reduceLeDiff, Nat.reduceLT, Nat.reduceSub, Nat.reduceEqDiff, List.isEmpty_cons, List.isEmpty_nil, not_true_eq_false, not_false_eq_true, bin_mul, bin_fdiv, bin_mod, bin_pow, Int.reduceLT, Int.reduceLE, Int.reduceNeg, Nat.reducePow, Int.reducePow, Int.reduceToNat])
theorem intD_ne {a : Int} : imm (.int a) = true := rfl
/-- told fits due -/
theorem fits_v {k : Nat} {t u : Bool} {a b : List Int} (lb : b.length ≤ 1000) : evF T (k + 1) "_law_fits" [.lst (a.map .int), .lst (b.map .int)] = some (.ok .f (.bl (decide (a = b)))) := by
  rw [v__law_fits, evD_run (by rfl)]
  show (evSs ⟨evF T k⟩ c__law_fits [.bor (.lst (a.map .int)), .bor (.lst (b.map .int)), .un]).bind fin = _
  unfold c__law_fits
  have ll : ∀ c : List Int, (c.map D.int).length = c.length := fun c => List.length_map _
  walk_at "evs"
  by_cases hl : a.length = b.length
  · have e1 : decide ((a.length : Int) = (b.length : Int)) = true := decide_eq_true (by omega)
    walk_at "evs"
    rw [if_pos (by omega)]
    walk_at "ev"
    have key := find_rng (i := 2) (lo := 0) (n := b.length) (f := evSs ⟨evF T k⟩ (.cons (.ife (.or (.not (.val (.isi (.ix (.var 0) (.var 2)) "int"))) (.or (.val (.isi (.ix (.var 0) (.var 2)) "bool")) (.val (.cmp .ne (.ix (.var 0) (.var 2)) (.ix (.var 1) (.var 2)))))) (.cons (.ret (.bl false)) .nil) .nil) .nil))
      (ρ := [.bor (.lst (a.map .int)), .bor (.lst (b.map .int)), .un])
      (fun ρ => ∃ s, ρ = [.bor (.lst (a.map .int)), .bor (.lst (b.map .int)), s]) (fun k => !decide (a.getD k 0 = b.getD k 0)) (fun _ => .rt .f (.bl false)) (fun _ => ⟨_, _, rfl⟩) ⟨_, rfl⟩ (fun j ρ hj ⟨s, e⟩ => by
        subst e
        have i1 := atI_int (a := a) (k := j) (by omega)
        have i2 := atI_int (a := b) (k := j) hj
        have z : (0 : Int) + (j : Int) = (j : Int) := Int.zero_add _
        refine ⟨fun h => ?_, fun h => ⟨[.bor (.lst (a.map .int)), .bor (.lst (b.map .int)), .dat (.int (0 + (j : Int)))], .inl ?_, ⟨_, rfl⟩⟩⟩
        · walk_at "evs"
        · walk_at "evs")
    have e3 : ((b.length : Int)).toNat = b.length := Int.toNat_natCast _
    simp only [e3]
    rcases key with ⟨j, h1, h2, h3, h4⟩ | ⟨h1, ρ', ⟨s, rfl⟩, h2⟩
    · rw [h4]
      walk_at "ev"
      have hne : a ≠ b := by
        intro h
        subst h
        simp at h2
      rw [decide_eq_false hne]
    · rw [h2]
      walk_at "ev"
      have he : a = b := by
        apply List.ext_getElem hl
        intro i hi hi'
        have := h1 i hi'
        simpa [List.getD_eq_getElem?_getD, List.getElem?_eq_getElem hi, List.getElem?_eq_getElem hi'] using this
      rw [decide_eq_true he]
  · have e1 : decide ((a.length : Int) = (b.length : Int)) = false := decide_eq_false (by omega)
    walk_at "evs"
    have hne : a ≠ b := by
      intro h
      subst h
      exact hl rfl
    rw [decide_eq_false hne]
theorem merge_v {k : Nat} {t u : Bool} {A B : List Int} {d : Int} (ha : 0 < A.length) (hb : 0 < B.length) (la : A.length ≤ 100) (lb : B.length ≤ 100) :
    evF T (k + 3) "_law_merge" [.int d, sq t A, sq u B] = some (.ok .n (.lst ((mg (if d = 0 then (· + ·) else min) A B).map .int))) := by
  obtain ⟨m1, e1⟩ := varS_slq (t := t) (a := A)
  obtain ⟨m2, e2⟩ := varS_slq (t := u) (a := B)
  rw [v__law_merge, evD_run (by rfl)]
  show (evSs ⟨evF T (k + 2)⟩ c__law_merge [.dat (.int d), slot0 (sq t A), slot0 (sq u B)]).bind fin = _
  rw [slot0_sq, slot0_sq]
  change (evSs ⟨evF T (k + 2)⟩ c__law_merge [.dat (.int d), slq t A, slq u B]).bind fin = _
  unfold c__law_merge
  have s1 := sum_v (k' := k) (t := t) (u := u) ha hb la lb
  have s2 := least_v (k' := k) (t := t) (u := u) ha hb la lb
  by_cases hd : d = 0
  · have e3 : decide (d = 0) = true := decide_eq_true hd
    walk_at "evs"
  · have e3 : decide (d = 0) = false := decide_eq_false hd
    walk_at "evs"

end QL

end
section
set_option maxRecDepth 100000
set_option maxHeartbeats 4000000
namespace QL
open PySem PySem.Spec PyProof.Rows L2 Evl
local macro_rules | `(tactic| walk_at "ev") => `(tactic| simp -implicitDefEqProofs only [ev_var, ev_int, ev_bl, ev_str, ev_non, ev_bin, ev_cmp, ev_chain, ev_neg, ev_not, ev_and, ev_or, ev_ife, ev_ix, ev_tup, ev_lst, ev_call, ev_b1, ev_b2, ev_isi, ev_lc, ev_lc2, evs_nil, evs_cons, src_r1', src_r2', src_seq', t_yes', t_not', t_and', t_or', t_val', ss_nil, ss_cons, s_set, s_pat, s_seti, s_app, s_ins, s_ife, s_for, s_retv, s_expr, s_pass, s_brk, s_cont, varS_dat, varS_bor, varS_own, varS_ownD, nrm_int, nrm_bl, nrm_str, nrm_non, nrm_scr, nrm_obj, nrm_lst, nrm_dic, nrm_f, nrm_tup, imm_int, imm_bl, imm_str, imm_non, imm_scr, imm_lst, imm_tup, imm_dic, imm_obj, immA_nil, immA_cons, op2_vv, bin_add, bin_sub, cmp_lt, cmp_le, cmp_gt, cmp_ge, cmp_eq, cmp_ne, cmp_eqb, cmp_neb, cmp_isb, cmp_isnb, cmp_eqs, cmp_nes, isNon_non, isNon_int, isNon_bl, isNon_lst, isNon_tup, isNon_str, isNon_obj, isNon_dic, cmp_is, cmp_isn, ixQ_some, ix_lst, ix_tup, ix_scr, ixm_f, ixm_n, ixm_o, ixm_b, ixm_h, len_lst, len_tup, len_scr, int_int, max_ii, min_ii, neg_i, not_b, bv_v1, list_lst, list_tup, tuple_lst, tuple_tup, itF_f, itF_n, itF_o, itF_b, itF_h, cf_f, cf_n, cf_b, cf_h, cf_o, allCf_nil, allCf_cons, tst_v, truth_bl, truth_lst, andT_t, andT_f, orT_t, orT_f, andR_t, andR_f, orR_f, orR_t, blV_b, ifE_t, ifE_f, ifS_t, ifS_f, ifL_t, ifL_f, elt1_v, lcB_s, lcR_v, lcR2_v, thenS_nx, thenS_rt, thenS_bk, thenS_ct, setR_v, setQ_s, slotV_f, slotV_n, slotV_nd, slotV_bl, slotV_bt, patR_v, setiR_v, appR_v, insR_v, forR_v, retV_own, retV_dat, retV_bor, retV_ownD, retR_v, exprR_v, ret_tup, esc_tup, ret_lst, esc_lst, ret_bin, esc_bin, ret_cmp, esc_cmp, ret_neg, esc_neg, ret_not, esc_not, ret_and, esc_and, ret_or, esc_or, ret_ix, esc_ix, ret_b1, esc_b1, ret_b2, esc_b2, ret_isi, esc_isi, ret_call, esc_call, ret_int, esc_int, ret_bl, esc_bl, ret_ife, esc_ife, ret_str, esc_str, ret_chain, esc_chain, ret_non, esc_non, ret_lc, esc_lc, ret_lc2, esc_lc2, esc_var, escs_nil, escs_cons, frzA_nil, frzA_cons, frz_dat, frz_bor, frz_own, frz_ownD, frz_un, srcEsc_r1, srcEsc_r2, srcEsc_var, srcEsc_call, srcEsc_lst, srcEsc_tup, srcEsc_ix, srcEsc_b1, srcEsc_bin, callR_v, callQ_f, callQ_n, callQ_x, consR_vv, tupR_v, lstR_v, lstR_h, r1R_i, r2R_i, seqR_v, srcD_scr, srcD_lf, srcD_tf, srcD_lb, srcD_tb, srcD_lo, srcD_to, srcD_lh, srcD_th, srcD_ln, fin_f, fin_n, fin_nx, slot0_int, slot0_bl, slot0_str, slot0_non, slot0_scr, slot0_lst, slot0_tup, slot0_obj, slot0_dic, bind_nm, slotOf_f, slotOf_int, slotOf_bl, bind_tp, binds_nil, binds_cons, wipe_nil, wipe_cons, isi_int_int, isi_int_bool, isi_int_str, isi_int_list, isi_int_tuple, isi_int_dict, isi_bool_int, isi_bool_bool, isi_bool_str, isi_bool_list, isi_bool_tuple, isi_bool_dict, isi_list_int, isi_list_bool, isi_list_str, isi_list_list, isi_list_tuple, isi_list_dict, isi_tuple_int, isi_tuple_bool, isi_tuple_str, isi_tuple_list, isi_tuple_tuple, isi_tuple_dict, isi_NoneType_int, isi_NoneType_bool, isi_NoneType_str, isi_NoneType_list, isi_NoneType_tuple, isi_NoneType_dict, isi_str_int, isi_str_bool, isi_str_str, isi_str_list, isi_str_tuple, isi_str_dict, isi_dict_int, isi_dict_bool, isi_dict_str, isi_dict_list, isi_dict_tuple, isi_dict_dict, Option.map_some, Option.map_none, Option.bind_some, Option.bind_none, List.getElem?_cons_zero, List.getElem?_cons_succ, List.set_cons_zero, List.set_cons_succ, List.getD_cons_zero, List.getD_cons_succ, List.map_cons, List.map_nil, List.length_cons, List.length_nil, List.nil_append, List.cons_append, List.append_nil, Bool.not_true, Bool.not_false, Bool.and_true, Bool.true_and, Bool.and_false, Bool.false_and, Bool.or_true, Bool.true_or, Bool.or_false, Bool.false_or, reduceIte, if_true, if_false, Bool.false_eq_true, decide_true, decide_false, reduceCtorEq, and_true, true_and, and_self, Nat.reduceAdd, Nat.reduceLeDiff, Nat.reduceLT, Nat.reduceSub, Nat.reduceEqDiff, List.isEmpty_cons, List.isEmpty_nil, not_true_eq_false, not_false_eq_true, bin_mul, bin_fdiv, bin_mod, bin_pow, Int.reduceLT, Int.reduceLE, Int.reduceNeg, Nat.reducePow, Int.reducePow, Int.reduceToNat])
local macro_rules | `(tactic| walk_at "evs") => `(tactic| simp -implicitDefEqProofs only [*, ev_var, ev_int, ev_bl, ev_str, ev_non, ev_bin, ev_cmp, ev_chain, ev_neg, ev_not, ev_and, ev_or, ev_ife, ev_ix, ev_tup, ev_lst, ev_call, ev_b1, ev_b2, ev_isi, ev_lc, ev_lc2, evs_nil, evs_cons, src_r1', src_r2', src_seq', t_yes', t_not', t_and', t_or', t_val', ss_nil, ss_cons, s_set, s_pat, s_seti, s_app, s_ins, s_ife, s_for, s_retv, s_expr, s_pass, s_brk, s_cont, varS_dat, varS_bor, varS_own, varS_ownD, nrm_int, nrm_bl, nrm_str, nrm_non, nrm_scr, nrm_obj, nrm_lst, nrm_dic, nrm_f, nrm_tup, imm_int, imm_bl, imm_str, imm_non, imm_scr, imm_lst, imm_tup, imm_dic, imm_obj, immA_nil, immA_cons, op2_vv, bin_add, bin_sub, cmp_lt, cmp_le, cmp_gt, cmp_ge, cmp_eq, cmp_ne, cmp_eqb, cmp_neb, cmp_isb, cmp_isnb, cmp_eqs, cmp_nes, isNon_non, isNon_int, isNon_bl, isNon_lst, isNon_tup, isNon_str, isNon_obj, isNon_dic, cmp_is, cmp_isn, ixQ_some, ix_lst, ix_tup, ix_scr, ixm_f, ixm_n, ixm_o, ixm_b, ixm_h, len_lst, len_tup, len_scr, int_int, max_ii, min_ii, neg_i, not_b, bv_v1, list_lst, list_tup, tuple_lst, tuple_tup, itF_f, itF_n, itF_o, itF_b, itF_h, cf_f, cf_n, cf_b, cf_h, cf_o, allCf_nil, allCf_cons, tst_v, truth_bl, truth_lst, andT_t, andT_f, orT_t, orT_f, andR_t, andR_f, orR_f, orR_t, blV_b, ifE_t, ifE_f, ifS_t, ifS_f, ifL_t, ifL_f, elt1_v, lcB_s, lcR_v, lcR2_v, thenS_nx, thenS_rt, thenS_bk, thenS_ct, setR_v, setQ_s, slotV_f, slotV_n, slotV_nd, slotV_bl, slotV_bt, patR_v, setiR_v, appR_v, insR_v, forR_v, retV_own, retV_dat, retV_bor, retV_ownD, retR_v, exprR_v, ret_tup, esc_tup, ret_lst, esc_lst, ret_bin, esc_bin, ret_cmp, esc_cmp, ret_neg, esc_neg, ret_not, esc_not, ret_and, esc_and, ret_or, esc_or, ret_ix, esc_ix, ret_b1, esc_b1, ret_b2, esc_b2, ret_isi, esc_isi, ret_call, esc_call, ret_int, esc_int, ret_bl, esc_bl, ret_ife, esc_ife, ret_str, esc_str, ret_chain, esc_chain, ret_non, esc_non, ret_lc, esc_lc, ret_lc2, esc_lc2, esc_var, escs_nil, escs_cons, frzA_nil, frzA_cons, frz_dat, frz_bor, frz_own, frz_ownD, frz_un, srcEsc_r1, srcEsc_r2, srcEsc_var, srcEsc_call, srcEsc_lst, srcEsc_tup, srcEsc_ix, srcEsc_b1, srcEsc_bin, callR_v, callQ_f, callQ_n, callQ_x, consR_vv, tupR_v, lstR_v, lstR_h, r1R_i, r2R_i, seqR_v, srcD_scr, srcD_lf, srcD_tf, srcD_lb, srcD_tb, srcD_lo, srcD_to, srcD_lh, srcD_th, srcD_ln, fin_f, fin_n, fin_nx, slot0_int, slot0_bl, slot0_str, slot0_non, slot0_scr, slot0_lst, slot0_tup, slot0_obj, slot0_dic, bind_nm, slotOf_f, slotOf_int, slotOf_bl, bind_tp, binds_nil, binds_cons, wipe_nil, wipe_cons, isi_int_int, isi_int_bool, isi_int_str, isi_int_list, isi_int_tuple, isi_int_dict, isi_bool_int, isi_bool_bool, isi_bool_str, isi_bool_list, isi_bool_tuple, isi_bool_dict, isi_list_int, isi_list_bool, isi_list_str, isi_list_list, isi_list_tuple, isi_list_dict, isi_tuple_int, isi_tuple_bool, isi_tuple_str, isi_tuple_list, isi_tuple_tuple, isi_tuple_dict, isi_NoneType_int, isi_NoneType_bool, isi_NoneType_str, isi_NoneType_list, isi_NoneType_tuple, isi_NoneType_dict, isi_str_int, isi_str_bool, isi_str_str, isi_str_list, isi_str_tuple, isi_str_dict, isi_dict_int, isi_dict_bool, isi_dict_str, isi_dict_list, isi_dict_tuple, isi_dict_dict, Option.map_some, Option.map_none, Option.bind_some, Option.bind_none, List.getElem?_cons_zero, List.getElem?_cons_succ, List.set_cons_zero, List.set_cons_succ, List.getD_cons_zero, List.getD_cons_succ, List.map_cons, List.map_nil, List.length_cons, List.length_nil, List.nil_append, List.cons_append, List.append_nil, Bool.not_true, Bool.not_false, Bool.and_true, Bool.true_and, Bool.and_false, Bool.false_and, Bool.or_true, Bool.true_or, Bool.or_false, Bool.false_or, reduceIte, if_true, if_false, Bool.false_eq_true, decide_true, decide_false, reduceCtorEq, and_true, true_and, and_self, Nat.reduceAdd, Nat.reduceLeDiff, Nat.reduceLT, Nat.reduceSub, Nat.reduceEqDiff, List.isEmpty_cons, List.isEmpty_nil, not_true_eq_false, not_false_eq_true, bin_mul, bin_fdiv, bin_mod, bin_pow, Int.reduceLT, Int.reduceLE, Int.reduceNeg, Nat.reducePow, Int.reducePow, Int.reduceToNat])
def oD : Option Int → D | none => .non | some v => .int v
def upd' (L : List (Option Int)) (q : Nat) (v : Int) : List (Option Int) := match L.getD q none with
  | none => L.set q (some v)
  | some w => if w < v then L.set q (some v) else L
def rowU (f : Int → Int → Int) (A B : List Int) (i : Nat) : Nat → List (Option Int) → List (Option Int)
  | 0, L => L
  | j + 1, L => upd' (rowU f A B i j L) (i + j) (f (A.getD i 0) (B.getD j 0))
def allU (f : Int → Int → Int) (A B : List Int) : Nat → List (Option Int) → List (Option Int)
  | 0, L => L
  | i + 1, L => rowU f A B i B.length (allU f A B i L)
theorem upd_len {L : List (Option Int)} {q : Nat} {v : Int} : (upd' L q v).length = L.length := by
  unfold upd'
  split
  · simp
  · split <;> simp
theorem rowU_len {f : Int → Int → Int} {A B : List Int} {i : Nat} {L : List (Option Int)} : ∀ j, (rowU f A B i j L).length = L.length
  | 0 => rfl
  | j + 1 => by show (upd' _ _ _).length = _; rw [upd_len, rowU_len j]
theorem allU_len {f : Int → Int → Int} {A B : List Int} {L : List (Option Int)} : ∀ i, (allU f A B i L).length = L.length
  | 0 => rfl
  | i + 1 => by show (rowU _ _ _ _ _ _).length = _; rw [rowU_len, allU_len i]
def fD (d : Int) : Int → Int → Int := if d = 0 then (· + ·) else min
theorem atI_o {L : List (Option Int)} {k : Nat} (h : k < L.length) : atI (L.map oD) (k : Int) = some (oD (L.getD k none)) := by
  apply atI_nat
  rw [List.getElem?_map, List.getElem?_eq_getElem h, List.getD_eq_getElem?_getD, List.getElem?_eq_getElem h]; rfl
theorem map_set {L : List (Option Int)} {k : Nat} {v : Int} : (L.map oD).set k (.int v) = (L.set k (some v)).map oD := by
  rw [List.map_set]; rfl
theorem ixN_nat {n k : Nat} (h : k < n) : ixN n (k : Int) = some k := by
  unfold ixN
  rw [if_pos (by omega), if_pos (by omega)]
  simp
theorem due_v {k : Nat} {A B : List Int} {d : Int} (hd : d = 0 ∨ d = 1) (ha : 0 < A.length) (hb : 0 < B.length) (la : A.length ≤ 100) (lb : B.length ≤ 100) :
    evF T (k + 1) "_law_due" [.int d, .lst (A.map .int), .lst (B.map .int)] = some (.ok .n (.lst ((allU (fD d) A B A.length (List.replicate (A.length + B.length - 1) none)).map oD))) := by
  rw [v__law_due, evD_run (by rfl)]
  show (evSs ⟨evF T k⟩ c__law_due [.dat (.int d), .bor (.lst (A.map .int)), .bor (.lst (B.map .int)), .un, .un, .un, .un, .un]).bind fin = _
  unfold c__law_due
  have ll : ∀ c : List Int, (c.map D.int).length = c.length := fun c => List.length_map _
  have l2 : ∀ c : List (Option Int), (c.map oD).length = c.length := fun c => List.length_map _
  walk_at "evs"
  rw [if_pos (by omega)]
  walk_at "ev"
  have e3 : ((A.length : Int) + B.length - 1).toNat = A.length + B.length - 1 := by omega
  rw [e3, lc_rng (v := fun k => (Md.f, D.non)) (fun k hk => by unfold lcBody; walk_at "ev"), Option.bind_some, lcD_map (by rw [List.length_range]; omega) (fun x _ => cf_f)]
  have e4 : ((List.range (A.length + B.length - 1)).map fun _ => D.non) = (List.replicate (A.length + B.length - 1) (none : Option Int)).map oD := by
    rw [List.map_const', List.length_range, List.map_replicate]; rfl
  simp only [e4]
  walk_at "evs"
  rw [if_pos (by omega)]
  walk_at "ev"
  have n1 : ((A.length : Int)).toNat = A.length := Int.toNat_natCast _
  have n2 : ((B.length : Int)).toNat = B.length := Int.toNat_natCast _
  simp only [n1]
  obtain ⟨ρ', h1, s4, s5, s6, rfl⟩ := for_rng (i := 4) (lo := 0) (n := A.length) (f := evSs ⟨evF T k⟩ (.cons (.for (.nm 5) (.r1 (.b1 .len (.var 2))) (.cons (.set 6 (.bin .add (.ix (.var 1) (.var 4)) (.ix (.var 2) (.var 5))))
    (.cons (.ife (.val (.cmp .eq (.var 0) (.int 1))) (.cons (.set 6 (.b2 .min (.ix (.var 1) (.var 4)) (.ix (.var 2) (.var 5))))
    .nil) .nil)
    (.cons (.ife (.or (.val (.cmp .is (.ix (.var 3) (.bin .add (.var 4) (.var 5))) .non)) (.val (.cmp .gt (.var 6) (.ix (.var 3) (.bin .add (.var 4) (.var 5)))))) (.cons (.seti 3 (.bin .add (.var 4) (.var 5)) (.var 6))
    .nil) .nil)
    .nil))))
    .nil))
    (ρ := [.dat (.int d), .bor (.lst (A.map .int)), .bor (.lst (B.map .int)), .own ((List.replicate (A.length + B.length - 1) none).map oD), .un, .un, .un, .un])
    (fun i ρ => ∃ s4 s5 s6, ρ = [.dat (.int d), .bor (.lst (A.map .int)), .bor (.lst (B.map .int)), .own ((allU (fD d) A B i (List.replicate (A.length + B.length - 1) none)).map oD), s4, s5, s6, .un]) ⟨_, _, _, rfl⟩ (fun i ρ hi ⟨s4, s5, s6, e⟩ => by
      subst e
      have z : (0 : Int) + (i : Int) = (i : Int) := Int.zero_add _
      walk_at "evs"
      rw [if_pos (by omega)]
      walk_at "evs"
      have hL := allU_len (f := fD d) (A := A) (B := B) (L := List.replicate (A.length + B.length - 1) none) i
      rw [List.length_replicate] at hL
      generalize hLe : allU (fD d) A B i (List.replicate (A.length + B.length - 1) none) = L at hL ⊢
      obtain ⟨ρ', h1, s5', s6', rfl⟩ := for_rng (i := 5) (lo := 0) (n := B.length) (f := evSs ⟨evF T k⟩ (.cons (.set 6 (.bin .add (.ix (.var 1) (.var 4)) (.ix (.var 2) (.var 5))))
          (.cons (.ife (.val (.cmp .eq (.var 0) (.int 1))) (.cons (.set 6 (.b2 .min (.ix (.var 1) (.var 4)) (.ix (.var 2) (.var 5))))
          .nil) .nil)
          (.cons (.ife (.or (.val (.cmp .is (.ix (.var 3) (.bin .add (.var 4) (.var 5))) .non)) (.val (.cmp .gt (.var 6) (.ix (.var 3) (.bin .add (.var 4) (.var 5)))))) (.cons (.seti 3 (.bin .add (.var 4) (.var 5)) (.var 6))
          .nil) .nil)
          .nil))))
        (ρ := [.dat (.int d), .bor (.lst (A.map .int)), .bor (.lst (B.map .int)), .own (L.map oD), .dat (.int (i : Int)), s5, s6, .un])
        (fun j ρ => ∃ s5 s6, ρ = [.dat (.int d), .bor (.lst (A.map .int)), .bor (.lst (B.map .int)), .own ((rowU (fD d) A B i j L).map oD), .dat (.int (i : Int)), s5, s6, .un]) ⟨_, _, rfl⟩ (fun j ρ hj ⟨s5, s6, e⟩ => by
          subst e
          have hM := rowU_len (f := fD d) (A := A) (B := B) (i := i) (L := L) j
          generalize hMe : rowU (fD d) A B i j L = M at hM ⊢
          have z2 : (0 : Int) + (j : Int) = (j : Int) := Int.zero_add _
          have i1 := atI_int (a := A) (k := i) hi
          have i2 := atI_int (a := B) (k := j) hj
          refine ⟨[.dat (.int d), .bor (.lst (A.map .int)), .bor (.lst (B.map .int)), .own ((rowU (fD d) A B i (j + 1) L).map oD), .dat (.int (i : Int)), .dat (.int (j : Int)), .dat (.int (fD d (A.getD i 0) (B.getD j 0))), .un], .inl ?_, _, _, rfl⟩
          have e5 : rowU (fD d) A B i (j + 1) L = upd' M (i + j) (fD d (A.getD i 0) (B.getD j 0)) := by rw [← hMe]; rfl
          rw [e5]
          walk_at "evs"
          have ij : (i : Int) + (j : Int) = ((i + j : Nat) : Int) := by omega
          refine thenS_of' (ρ1 := [.dat (.int d), .bor (.lst (A.map .int)), .bor (.lst (B.map .int)), .own (M.map oD), .dat (.int (i : Int)), .dat (.int (j : Int)), .dat (.int (fD d (A.getD i 0) (B.getD j 0))), .un]) ?_ ?_
          · rcases hd with rfl | rfl
            · have d1 : decide ((0 : Int) = 1) = false := by decide
              have d2 : fD 0 (A.getD i 0) (B.getD j 0) = A.getD i 0 + B.getD j 0 := rfl
              clear hMe e5
              walk_at "evs"
            · have d1 : decide ((1 : Int) = 1) = true := by decide
              have d2 : fD 1 (A.getD i 0) (B.getD j 0) = min (A.getD i 0) (B.getD j 0) := rfl
              clear hMe e5
              walk_at "evs"
          · have i3 := atI_o (L := M) (k := i + j) (by omega)
            generalize fD d (A.getD i 0) (B.getD j 0) = v
            unfold upd'
            have x1 := ixN_nat (n := A.length + B.length - 1) (k := i + j) (by omega)
            have x2 := @map_set
            cases hq : M.getD (i + j) none with
            | none =>
              have w : isNon (oD none) = true := rfl
              walk_at "evs"
            | some w =>
              have w1 : isNon (oD (some w)) = false := rfl
              have w2 : oD (some w) = .int w := rfl
              by_cases hw : w < v
              · have w3 : decide (w < v) = true := decide_eq_true hw
                walk_at "evs"
              · have w3 : decide (w < v) = false := decide_eq_false hw
                walk_at "evs")
      have eL : allU (fD d) A B (i + 1) (List.replicate (A.length + B.length - 1) none) = rowU (fD d) A B i B.length L := by rw [← hLe]; rfl
      refine ⟨[.dat (.int d), .bor (.lst (A.map .int)), .bor (.lst (B.map .int)), .own ((allU (fD d) A B (i + 1) (List.replicate (A.length + B.length - 1) none)).map oD), .dat (.int (i : Int)), s5', s6', .un], .inl ?_, _, _, _, rfl⟩
      clear hLe
      walk_at "evs")
  walk_at "evs"

end QL

end
section
set_option maxRecDepth 100000
set_option maxHeartbeats 4000000
namespace QL
open PySem PySem.Spec PyProof.Rows L2 Evl
local macro_rules | `(tactic| walk_at "ev") => `(tactic| simp -implicitDefEqProofs only [ev_var, ev_int, ev_bl, ev_str, ev_non, ev_bin, ev_cmp, ev_chain, ev_neg, ev_not, ev_and, ev_or, ev_ife, ev_ix, ev_tup, ev_lst, ev_call, ev_b1, ev_b2, ev_isi, ev_lc, ev_lc2, evs_nil, evs_cons, src_r1', src_r2', src_seq', t_yes', t_not', t_and', t_or', t_val', ss_nil, ss_cons, s_set, s_pat, s_seti, s_app, s_ins, s_ife, s_for, s_retv, s_expr, s_pass, s_brk, s_cont, varS_dat, varS_bor, varS_own, varS_ownD, nrm_int, nrm_bl, nrm_str, nrm_non, nrm_scr, nrm_obj, nrm_lst, nrm_dic, nrm_f, nrm_tup, imm_int, imm_bl, imm_str, imm_non, imm_scr, imm_lst, imm_tup, imm_dic, imm_obj, immA_nil, immA_cons, op2_vv, bin_add, bin_sub, cmp_lt, cmp_le, cmp_gt, cmp_ge, cmp_eq, cmp_ne, cmp_eqb, cmp_neb, cmp_isb, cmp_isnb, cmp_eqs, cmp_nes, isNon_non, isNon_int, isNon_bl, isNon_lst, isNon_tup, isNon_str, isNon_obj, isNon_dic, cmp_is, cmp_isn, ixQ_some, ix_lst, ix_tup, ix_scr, ixm_f, ixm_n, ixm_o, ixm_b, ixm_h, len_lst, len_tup, len_scr, int_int, max_ii, min_ii, neg_i, not_b, bv_v1, list_lst, list_tup, tuple_lst, tuple_tup, itF_f, itF_n, itF_o, itF_b, itF_h, cf_f, cf_n, cf_b, cf_h, cf_o, allCf_nil, allCf_cons, tst_v, truth_bl, truth_lst, andT_t, andT_f, orT_t, orT_f, andR_t, andR_f, orR_f, orR_t, blV_b, ifE_t, ifE_f, ifS_t, ifS_f, ifL_t, ifL_f, elt1_v, lcB_s, lcR_v, lcR2_v, thenS_nx, thenS_rt, thenS_bk, thenS_ct, setR_v, setQ_s, slotV_f, slotV_n, slotV_nd, slotV_bl, slotV_bt, patR_v, setiR_v, appR_v, insR_v, forR_v, retV_own, retV_dat, retV_bor, retV_ownD, retR_v, exprR_v, ret_tup, esc_tup, ret_lst, esc_lst, ret_bin, esc_bin, ret_cmp, esc_cmp, ret_neg, esc_neg, ret_not, esc_not, ret_and, esc_and, ret_or, esc_or, ret_ix, esc_ix, ret_b1, esc_b1, ret_b2, esc_b2, ret_isi, esc_isi, ret_call, esc_call, ret_int, esc_int, ret_bl, esc_bl, ret_ife, esc_ife, ret_str, esc_str, ret_chain, esc_chain, ret_non, esc_non, ret_lc, esc_lc, ret_lc2, esc_lc2, esc_var, escs_nil, escs_cons, frzA_nil, frzA_cons, frz_dat, frz_bor, frz_own, frz_ownD, frz_un, srcEsc_r1, srcEsc_r2, srcEsc_var, srcEsc_call, srcEsc_lst, srcEsc_tup, srcEsc_ix, srcEsc_b1, srcEsc_bin, callR_v, callQ_f, callQ_n, callQ_x, consR_vv, tupR_v, lstR_v, lstR_h, r1R_i, r2R_i, seqR_v, srcD_scr, srcD_lf, srcD_tf, srcD_lb, srcD_tb, srcD_lo, srcD_to, srcD_lh, srcD_th, srcD_ln, fin_f, fin_n, fin_nx, slot0_int, slot0_bl, slot0_str, slot0_non, slot0_scr, slot0_lst, slot0_tup, slot0_obj, slot0_dic, bind_nm, slotOf_f, slotOf_int, slotOf_bl, bind_tp, binds_nil, binds_cons, wipe_nil, wipe_cons, isi_int_int, isi_int_bool, isi_int_str, isi_int_list, isi_int_tuple, isi_int_dict, isi_bool_int, isi_bool_bool, isi_bool_str, isi_bool_list, isi_bool_tuple, isi_bool_dict, isi_list_int, isi_list_bool, isi_list_str, isi_list_list, isi_list_tuple, isi_list_dict, isi_tuple_int, isi_tuple_bool, isi_tuple_str, isi_tuple_list, isi_tuple_tuple, isi_tuple_dict, isi_NoneType_int, isi_NoneType_bool, isi_NoneType_str, isi_NoneType_list, isi_NoneType_tuple, isi_NoneType_dict, isi_str_int, isi_str_bool, isi_str_str, isi_str_list, isi_str_tuple, isi_str_dict, isi_dict_int, isi_dict_bool, isi_dict_str, isi_dict_list, isi_dict_tuple, isi_dict_dict, Option.map_some, Option.map_none, Option.bind_some, Option.bind_none, List.getElem?_cons_zero, List.getElem?_cons_succ, List.set_cons_zero, List.set_cons_succ, List.getD_cons_zero, List.getD_cons_succ, List.map_cons, List.map_nil, List.length_cons, List.length_nil, List.nil_append, List.cons_append, List.append_nil, Bool.not_true, Bool.not_false, Bool.and_true, Bool.true_and, Bool.and_false, Bool.false_and, Bool.or_true, Bool.true_or, Bool.or_false, Bool.false_or, reduceIte, if_true, if_false, Bool.false_eq_true, decide_true, decide_false, reduceCtorEq, and_true, true_and, and_self, Nat.reduceAdd, Nat.reduceLeDiff, Nat.reduceLT, Nat.reduceSub, Nat.reduceEqDiff, List.isEmpty_cons, List.isEmpty_nil, not_true_eq_false, not_false_eq_true, bin_mul, bin_fdiv, bin_mod, bin_pow, Int.reduceLT, Int.reduceLE, Int.reduceNeg, Nat.reducePow, Int.reducePow, Int.reduceToNat])
local macro_rules | `(tactic| walk_at "evs") => `(tactic| simp -implicitDefEqProofs only [*, ev_var, ev_int, ev_bl, ev_str, ev_non, ev_bin, ev_cmp, ev_chain, ev_neg, ev_not, ev_and, ev_or, ev_ife, ev_ix, ev_tup, ev_lst, ev_call, ev_b1, ev_b2, ev_isi, ev_lc, ev_lc2, evs_nil, evs_cons, src_r1', src_r2', src_seq', t_yes', t_not', t_and', t_or', t_val', ss_nil, ss_cons, s_set, s_pat, s_seti, s_app, s_ins, s_ife, s_for, s_retv, s_expr, s_pass, s_brk, s_cont, varS_dat, varS_bor, varS_own, varS_ownD, nrm_int, nrm_bl, nrm_str, nrm_non, nrm_scr, nrm_obj, nrm_lst, nrm_dic, nrm_f, nrm_tup, imm_int, imm_bl, imm_str, imm_non, imm_scr, imm_lst, imm_tup, imm_dic, imm_obj, immA_nil, immA_cons, op2_vv, bin_add, bin_sub, cmp_lt, cmp_le, cmp_gt, cmp_ge, cmp_eq, cmp_ne, cmp_eqb, cmp_neb, cmp_isb, cmp_isnb, cmp_eqs, cmp_nes, isNon_non, isNon_int, isNon_bl, isNon_lst, isNon_tup, isNon_str, isNon_obj, isNon_dic, cmp_is, cmp_isn, ixQ_some, ix_lst, ix_tup, ix_scr, ixm_f, ixm_n, ixm_o, ixm_b, ixm_h, len_lst, len_tup, len_scr, int_int, max_ii, min_ii, neg_i, not_b, bv_v1, list_lst, list_tup, tuple_lst, tuple_tup, itF_f, itF_n, itF_o, itF_b, itF_h, cf_f, cf_n, cf_b, cf_h, cf_o, allCf_nil, allCf_cons, tst_v, truth_bl, truth_lst, andT_t, andT_f, orT_t, orT_f, andR_t, andR_f, orR_f, orR_t, blV_b, ifE_t, ifE_f, ifS_t, ifS_f, ifL_t, ifL_f, elt1_v, lcB_s, lcR_v, lcR2_v, thenS_nx, thenS_rt, thenS_bk, thenS_ct, setR_v, setQ_s, slotV_f, slotV_n, slotV_nd, slotV_bl, slotV_bt, patR_v, setiR_v, appR_v, insR_v, forR_v, retV_own, retV_dat, retV_bor, retV_ownD, retR_v, exprR_v, ret_tup, esc_tup, ret_lst, esc_lst, ret_bin, esc_bin, ret_cmp, esc_cmp, ret_neg, esc_neg, ret_not, esc_not, ret_and, esc_and, ret_or, esc_or, ret_ix, esc_ix, ret_b1, esc_b1, ret_b2, esc_b2, ret_isi, esc_isi, ret_call, esc_call, ret_int, esc_int, ret_bl, esc_bl, ret_ife, esc_ife, ret_str, esc_str, ret_chain, esc_chain, ret_non, esc_non, ret_lc, esc_lc, ret_lc2, esc_lc2, esc_var, escs_nil, escs_cons, frzA_nil, frzA_cons, frz_dat, frz_bor, frz_own, frz_ownD, frz_un, srcEsc_r1, srcEsc_r2, srcEsc_var, srcEsc_call, srcEsc_lst, srcEsc_tup, srcEsc_ix, srcEsc_b1, srcEsc_bin, callR_v, callQ_f, callQ_n, callQ_x, consR_vv, tupR_v, lstR_v, lstR_h, r1R_i, r2R_i, seqR_v, srcD_scr, srcD_lf, srcD_tf, srcD_lb, srcD_tb, srcD_lo, srcD_to, srcD_lh, srcD_th, srcD_ln, fin_f, fin_n, fin_nx, slot0_int, slot0_bl, slot0_str, slot0_non, slot0_scr, slot0_lst, slot0_tup, slot0_obj, slot0_dic, bind_nm, slotOf_f, slotOf_int, slotOf_bl, bind_tp, binds_nil, binds_cons, wipe_nil, wipe_cons, isi_int_int, isi_int_bool, isi_int_str, isi_int_list, isi_int_tuple, isi_int_dict, isi_bool_int, isi_bool_bool, isi_bool_str, isi_bool_list, isi_bool_tuple, isi_bool_dict, isi_list_int, isi_list_bool, isi_list_str, isi_list_list, isi_list_tuple, isi_list_dict, isi_tuple_int, isi_tuple_bool, isi_tuple_str, isi_tuple_list, isi_tuple_tuple, isi_tuple_dict, isi_NoneType_int, isi_NoneType_bool, isi_NoneType_str, isi_NoneType_list, isi_NoneType_tuple, isi_NoneType_dict, isi_str_int, isi_str_bool, isi_str_str, isi_str_list, isi_str_tuple, isi_str_dict, isi_dict_int, isi_dict_bool, isi_dict_str, isi_dict_list, isi_dict_tuple, isi_dict_dict, Option.map_some, Option.map_none, Option.bind_some, Option.bind_none, List.getElem?_cons_zero, List.getElem?_cons_succ, List.set_cons_zero, List.set_cons_succ, List.getD_cons_zero, List.getD_cons_succ, List.map_cons, List.map_nil, List.length_cons, List.length_nil, List.nil_append, List.cons_append, List.append_nil, Bool.not_true, Bool.not_false, Bool.and_true, Bool.true_and, Bool.and_false, Bool.false_and, Bool.or_true, Bool.true_or, Bool.or_false, Bool.false_or, reduceIte, if_true, if_false, Bool.false_eq_true, decide_true, decide_false, reduceCtorEq, and_true, true_and, and_self, Nat.reduceAdd, Nat.reduceLeDiff, Nat.reduceLT, Nat.reduceSub, Nat.reduceEqDiff, List.isEmpty_cons, List.isEmpty_nil, not_true_eq_false, not_false_eq_true, bin_mul, bin_fdiv, bin_mod, bin_pow, Int.reduceLT, Int.reduceLE, Int.reduceNeg, Nat.reducePow, Int.reducePow, Int.reduceToNat])
theorem mxl_spec {l : List Int} (h : l ≠ []) : mxl l ∈ l ∧ ∀ y ∈ l, y ≤ mxl l := by
  cases l with
  | nil => exact absurd rfl h
  | cons a r => exact maxI_spec r a
def IsM (f : Int → Int → Int) (A B : List Int) (q : Nat) (w : Int) : Prop := (∃ i j, i < A.length ∧ j < B.length ∧ i + j = q ∧ f (A.getD i 0) (B.getD j 0) = w) ∧ ∀ i j, i < A.length → j < B.length → i + j = q → f (A.getD i 0) (B.getD j 0) ≤ w
theorem IsM.uniq {f : Int → Int → Int} {A B : List Int} {q : Nat} {w v : Int} (h : IsM f A B q w) (h' : IsM f A B q v) : w = v := by
  obtain ⟨⟨i, j, a, b, c, d⟩, e⟩ := h
  obtain ⟨⟨i', j', a', b', c', d'⟩, e'⟩ := h'
  have := e i' j' a' b' c'
  have := e' i j a b c
  omega
theorem mem_shared {A B : List Int} {k : Nat} (hk : k < A.length + B.length - 1) (ha : 0 < A.length) (hb : 0 < B.length) {x : Int × Int} : x ∈ shared A B k ↔ ∃ i j, i < A.length ∧ j < B.length ∧ i + j = k ∧ x = (A.getD i 0, B.getD j 0) := by
  unfold shared
  rw [List.mem_map]
  constructor
  · rintro ⟨j, hj, rfl⟩
    rw [List.mem_range] at hj
    refine ⟨lo A B k + j, k - (lo A B k + j), ?_, ?_, ?_, rfl⟩ <;> (unfold lo hi at *; omega)
  · rintro ⟨i, j, h1, h2, h3, rfl⟩
    refine ⟨i - lo A B k, ?_, ?_⟩
    · rw [List.mem_range]; unfold lo hi; omega
    · have e1 : lo A B k + (i - lo A B k) = i := by unfold lo; omega
      have e2 : k - i = j := by omega
      rw [e1, e2]
theorem mg_len {f : Int → Int → Int} {A B : List Int} : (mg f A B).length = A.length + B.length - 1 := by unfold mg; simp
theorem mg_get {f : Int → Int → Int} {A B : List Int} {q : Nat} (hk : q < A.length + B.length - 1) (ha : 0 < A.length) (hb : 0 < B.length) : ∃ w, (mg f A B)[q]? = some w ∧ IsM f A B q w := by
  refine ⟨mxl ((shared A B q).map fun x => f x.1 x.2), ?_, ?_⟩
  · unfold mg
    rw [List.getElem?_map, List.getElem?_range hk]; rfl
  · obtain ⟨s1, s2⟩ := mxl_spec (l := (shared A B q).map fun x => f x.1 x.2) (by intro h; exact shared_ne ha hb hk (List.map_eq_nil_iff.mp h))
    refine ⟨?_, fun i j h1 h2 h3 => s2 _ (List.mem_map.mpr ⟨_, (mem_shared hk ha hb).mpr ⟨i, j, h1, h2, h3, rfl⟩, rfl⟩)⟩
    obtain ⟨x, hx, e⟩ := List.mem_map.mp s1
    obtain ⟨i, j, h1, h2, h3, rfl⟩ := (mem_shared hk ha hb).mp hx
    exact ⟨i, j, h1, h2, h3, e⟩
theorem mg_eq {f : Int → Int → Int} {A B L : List Int} (ha : 0 < A.length) (hb : 0 < B.length) (hl : L.length = A.length + B.length - 1) (h : ∀ q, q < A.length + B.length - 1 → ∃ w, L[q]? = some w ∧ IsM f A B q w) : L = mg f A B := by
  apply List.ext_getElem?
  intro q
  by_cases hq : q < A.length + B.length - 1
  · obtain ⟨w, h1, h2⟩ := h q hq
    obtain ⟨v, h3, h4⟩ := mg_get (f := f) hq ha hb
    rw [h1, h3, h2.uniq h4]
  · rw [List.getElem?_eq_none (by omega), List.getElem?_eq_none (by rw [mg_len]; omega)]
theorem mg_comm {f : Int → Int → Int} (hf : ∀ a b, f a b = f b a) {A B : List Int} (ha : 0 < A.length) (hb : 0 < B.length) : mg f B A = mg f A B := by
  refine mg_eq ha hb (by rw [mg_len]; omega) fun q hq => ?_
  obtain ⟨w, h1, ⟨i, j, a, b, c, d⟩, e⟩ := mg_get (f := f) (A := B) (B := A) (q := q) (by omega) hb ha
  refine ⟨w, h1, ⟨j, i, b, a, by omega, by rw [hf]; exact d⟩, fun i' j' a' b' c' => ?_⟩
  rw [hf]
  exact e j' i' b' a' (by omega)
/-- what the law's own list holds when the pairs in S are done -/
def Inv2 (f : Int → Int → Int) (A B : List Int) (S : Nat → Nat → Prop) (L : List (Option Int)) : Prop := ∀ q, q < L.length → match L.getD q none with
  | none => ∀ i j, S i j → i + j = q → False
  | some w => (∃ i j, S i j ∧ i + j = q ∧ f (A.getD i 0) (B.getD j 0) = w) ∧ ∀ i j, S i j → i + j = q → f (A.getD i 0) (B.getD j 0) ≤ w
theorem Inv2.upd {f : Int → Int → Int} {A B : List Int} {S S' : Nat → Nat → Prop} {L : List (Option Int)} {a b : Nat} (h : Inv2 f A B S L) (hS : ∀ i j, S' i j ↔ S i j ∨ (i = a ∧ j = b)) (hl : a + b < L.length) : Inv2 f A B S' (upd' L (a + b) (f (A.getD a 0) (B.getD b 0))) := by
  intro q hq
  rw [upd_len] at hq
  have hh := h q hq
  have h0 := h (a + b) hl
  have gs : ∀ v, (L.set (a + b) (some v)).getD q none = if q = a + b then some v else L.getD q none := by
    intro v
    simp only [List.getD_eq_getElem?_getD, List.getElem?_set]
    by_cases e : a + b = q
    · subst e; simp [hl]
    · rw [if_neg e, if_neg (fun z => e z.symm)]
  unfold upd'
  cases h1 : L.getD (a + b) none with
  | none =>
    rw [h1] at h0
    dsimp only at h0 ⊢
    rw [gs]
    by_cases e : q = a + b
    · rw [if_pos e]
      refine ⟨⟨a, b, (hS _ _).mpr (.inr ⟨rfl, rfl⟩), e.symm, rfl⟩, fun i j hs hij => ?_⟩
      rcases (hS i j).mp hs with hs | ⟨rfl, rfl⟩
      · exact (h0 i j hs (by omega)).elim
      · exact Int.le_refl _
    · rw [if_neg e]
      cases h2 : L.getD q none with
      | none =>
        rw [h2] at hh
        intro i j hs hij
        rcases (hS i j).mp hs with hs | ⟨rfl, rfl⟩
        · exact hh i j hs hij
        · exact e hij.symm
      | some w =>
        rw [h2] at hh
        obtain ⟨⟨i, j, c1, c2, c3⟩, c4⟩ := hh
        refine ⟨⟨i, j, (hS _ _).mpr (.inl c1), c2, c3⟩, fun i j hs hij => ?_⟩
        rcases (hS i j).mp hs with hs | ⟨rfl, rfl⟩
        · exact c4 i j hs hij
        · exact (e hij.symm).elim
  | some w0 =>
    rw [h1] at h0
    dsimp only at h0 ⊢
    obtain ⟨⟨i0, j0, d1, d2, d3⟩, d4⟩ := h0
    by_cases hw : w0 < f (A.getD a 0) (B.getD b 0)
    · rw [if_pos hw, gs]
      by_cases e : q = a + b
      · rw [if_pos e]
        refine ⟨⟨a, b, (hS _ _).mpr (.inr ⟨rfl, rfl⟩), e.symm, rfl⟩, fun i j hs hij => ?_⟩
        rcases (hS i j).mp hs with hs | ⟨rfl, rfl⟩
        · have := d4 i j hs (by omega); omega
        · exact Int.le_refl _
      · rw [if_neg e]
        cases h2 : L.getD q none with
        | none =>
          rw [h2] at hh
          intro i j hs hij
          rcases (hS i j).mp hs with hs | ⟨rfl, rfl⟩
          · exact hh i j hs hij
          · exact e hij.symm
        | some w =>
          rw [h2] at hh
          obtain ⟨⟨i, j, c1, c2, c3⟩, c4⟩ := hh
          refine ⟨⟨i, j, (hS _ _).mpr (.inl c1), c2, c3⟩, fun i j hs hij => ?_⟩
          rcases (hS i j).mp hs with hs | ⟨rfl, rfl⟩
          · exact c4 i j hs hij
          · exact (e hij.symm).elim
    · rw [if_neg hw]
      cases h2 : L.getD q none with
      | none =>
        rw [h2] at hh
        intro i j hs hij
        rcases (hS i j).mp hs with hs | ⟨rfl, rfl⟩
        · exact hh i j hs hij
        · have e : q = i + j := hij.symm
          rw [e, h1] at h2; cases h2
      | some w =>
        rw [h2] at hh
        obtain ⟨⟨i, j, c1, c2, c3⟩, c4⟩ := hh
        refine ⟨⟨i, j, (hS _ _).mpr (.inl c1), c2, c3⟩, fun i j hs hij => ?_⟩
        rcases (hS i j).mp hs with hs | ⟨rfl, rfl⟩
        · exact c4 i j hs hij
        · have e : q = i + j := hij.symm
          rw [e, h1] at h2; cases h2; omega
theorem rowU_inv {f : Int → Int → Int} {A B : List Int} {a : Nat} {L : List (Option Int)} (ha : a < A.length) (hL : L.length = A.length + B.length - 1) (h : Inv2 f A B (fun i j => i < a ∧ j < B.length) L) : ∀ b, b ≤ B.length → Inv2 f A B (fun i j => (i < a ∧ j < B.length) ∨ (i = a ∧ j < b)) (rowU f A B a b L)
  | 0, _ => by
    intro q hq
    have := h q hq
    show match L.getD q none with | none => _ | some w => _
    cases h2 : L.getD q none with
    | none => rw [h2] at this; intro i j hs; exact this i j (hs.elim (fun z => z) (fun z => by omega))
    | some w =>
      rw [h2] at this
      obtain ⟨⟨i, j, c1, c2⟩, c3⟩ := this
      exact ⟨⟨i, j, .inl c1, c2⟩, fun i j hs => c3 i j (hs.elim (fun z => z) (fun z => by omega))⟩
  | b + 1, hb => Inv2.upd (rowU_inv ha hL h b (by omega)) (fun i j => by omega) (by rw [rowU_len]; omega)
theorem allU_inv {f : Int → Int → Int} {A B : List Int} : ∀ a, a ≤ A.length → Inv2 f A B (fun i j => i < a ∧ j < B.length) (allU f A B a (List.replicate (A.length + B.length - 1) none))
  | 0, _ => by
    intro q hq
    show match (List.replicate (A.length + B.length - 1) (none : Option Int)).getD q none with | none => _ | some w => _
    have : (List.replicate (A.length + B.length - 1) (none : Option Int)).getD q none = none := by
      simp only [List.getD_eq_getElem?_getD, List.getElem?_replicate]; split <;> rfl
    rw [this]
    intro i j hs
    omega
  | a + 1, h => by
    have := rowU_inv (f := f) (A := A) (B := B) (a := a) (by omega) (by rw [allU_len, List.length_replicate]) (allU_inv a (by omega)) B.length (Nat.le_refl _)
    intro q hq
    have t := this q hq
    show match (rowU f A B a B.length (allU f A B a (List.replicate (A.length + B.length - 1) none))).getD q none with | none => _ | some w => _
    cases h2 : (rowU f A B a B.length (allU f A B a (List.replicate (A.length + B.length - 1) none))).getD q none with
    | none => rw [h2] at t; intro i j hs hij; exact t i j (by omega) hij
    | some w =>
      rw [h2] at t
      obtain ⟨⟨i, j, c1, c2⟩, c3⟩ := t
      exact ⟨⟨i, j, by omega, c2⟩, fun i j hs hij => c3 i j (by omega) hij⟩
theorem allU_mg {f : Int → Int → Int} {A B : List Int} (ha : 0 < A.length) (hb : 0 < B.length) : (allU f A B A.length (List.replicate (A.length + B.length - 1) none)).map oD = (mg f A B).map .int := by
  have inv := allU_inv (f := f) (A := A) (B := B) A.length (Nat.le_refl _)
  have hl : (allU f A B A.length (List.replicate (A.length + B.length - 1) none)).length = A.length + B.length - 1 := by rw [allU_len, List.length_replicate]
  generalize allU f A B A.length (List.replicate (A.length + B.length - 1) none) = L at inv hl
  apply List.ext_getElem?
  intro q
  rw [List.getElem?_map, List.getElem?_map]
  by_cases hq : q < A.length + B.length - 1
  · obtain ⟨v, h3, h4⟩ := mg_get (f := f) hq ha hb
    have t := inv q (by omega)
    rw [h3]
    have e : L[q]? = some (L.getD q none) := by rw [List.getD_eq_getElem?_getD, List.getElem?_eq_getElem (by omega)]; rfl
    rw [e]
    cases h2 : L.getD q none with
    | none =>
      rw [h2] at t
      obtain ⟨⟨i, j, a, b, c, d⟩, _⟩ := h4
      exact (t i j ⟨a, b⟩ c).elim
    | some w =>
      rw [h2] at t
      obtain ⟨⟨i, j, c1, c2, c3⟩, c4⟩ := t
      have : w = v := IsM.uniq (f := f) ⟨⟨i, j, c1.1, c1.2, c2, c3⟩, fun i j a b c => c4 i j ⟨a, b⟩ c⟩ h4
      rw [this]; rfl
  · rw [List.getElem?_eq_none (by omega), List.getElem?_eq_none (by rw [mg_len]; omega)]; rfl

end QL

end
section
set_option maxRecDepth 100000
set_option maxHeartbeats 4000000
namespace QL
open PySem PySem.Spec PyProof.Rows L2 Evl
local macro_rules | `(tactic| walk_at "ev") => `(tactic| simp -implicitDefEqProofs only [ev_var, ev_int, ev_bl, ev_str, ev_non, ev_bin, ev_cmp, ev_chain, ev_neg, ev_not, ev_and, ev_or, ev_ife, ev_ix, ev_tup, ev_lst, ev_call, ev_b1, ev_b2, ev_isi, ev_lc, ev_lc2, evs_nil, evs_cons, src_r1', src_r2', src_seq', t_yes', t_not', t_and', t_or', t_val', ss_nil, ss_cons, s_set, s_pat, s_seti, s_app, s_ins, s_ife, s_for, s_retv, s_expr, s_pass, s_brk, s_cont, varS_dat, varS_bor, varS_own, varS_ownD, nrm_int, nrm_bl, nrm_str, nrm_non, nrm_scr, nrm_obj, nrm_lst, nrm_dic, nrm_f, nrm_tup, imm_int, imm_bl, imm_str, imm_non, imm_scr, imm_lst, imm_tup, imm_dic, imm_obj, immA_nil, immA_cons, op2_vv, bin_add, bin_sub, cmp_lt, cmp_le, cmp_gt, cmp_ge, cmp_eq, cmp_ne, cmp_eqb, cmp_neb, cmp_isb, cmp_isnb, cmp_eqs, cmp_nes, isNon_non, isNon_int, isNon_bl, isNon_lst, isNon_tup, isNon_str, isNon_obj, isNon_dic, cmp_is, cmp_isn, ixQ_some, ix_lst, ix_tup, ix_scr, ixm_f, ixm_n, ixm_o, ixm_b, ixm_h, len_lst, len_tup, len_scr, int_int, max_ii, min_ii, neg_i, not_b, bv_v1, list_lst, list_tup, tuple_lst, tuple_tup, itF_f, itF_n, itF_o, itF_b, itF_h, cf_f, cf_n, cf_b, cf_h, cf_o, allCf_nil, allCf_cons, tst_v, truth_bl, truth_lst, andT_t, andT_f, orT_t, orT_f, andR_t, andR_f, orR_f, orR_t, blV_b, ifE_t, ifE_f, ifS_t, ifS_f, ifL_t, ifL_f, elt1_v, lcB_s, lcR_v, lcR2_v, thenS_nx, thenS_rt, thenS_bk, thenS_ct, setR_v, setQ_s, slotV_f, slotV_n, slotV_nd, slotV_bl, slotV_bt, patR_v, setiR_v, appR_v, insR_v, forR_v, retV_own, retV_dat, retV_bor, retV_ownD, retR_v, exprR_v, ret_tup, esc_tup, ret_lst, esc_lst, ret_bin, esc_bin, ret_cmp, esc_cmp, ret_neg, esc_neg, ret_not, esc_not, ret_and, esc_and, ret_or, esc_or, ret_ix, esc_ix, ret_b1, esc_b1, ret_b2, esc_b2, ret_isi, esc_isi, ret_call, esc_call, ret_int, esc_int, ret_bl, esc_bl, ret_ife, esc_ife, ret_str, esc_str, ret_chain, esc_chain, ret_non, esc_non, ret_lc, esc_lc, ret_lc2, esc_lc2, esc_var, escs_nil, escs_cons, frzA_nil, frzA_cons, frz_dat, frz_bor, frz_own, frz_ownD, frz_un, srcEsc_r1, srcEsc_r2, srcEsc_var, srcEsc_call, srcEsc_lst, srcEsc_tup, srcEsc_ix, srcEsc_b1, srcEsc_bin, callR_v, callQ_f, callQ_n, callQ_x, consR_vv, tupR_v, lstR_v, lstR_h, r1R_i, r2R_i, seqR_v, srcD_scr, srcD_lf, srcD_tf, srcD_lb, srcD_tb, srcD_lo, srcD_to, srcD_lh, srcD_th, srcD_ln, fin_f, fin_n, fin_nx, slot0_int, slot0_bl, slot0_str, slot0_non, slot0_scr, slot0_lst, slot0_tup, slot0_obj, slot0_dic, bind_nm, slotOf_f, slotOf_int, slotOf_bl, bind_tp, binds_nil, binds_cons, wipe_nil, wipe_cons, isi_int_int, isi_int_bool, isi_int_str, isi_int_list, isi_int_tuple, isi_int_dict, isi_bool_int, isi_bool_bool, isi_bool_str, isi_bool_list, isi_bool_tuple, isi_bool_dict, isi_list_int, isi_list_bool, isi_list_str, isi_list_list, isi_list_tuple, isi_list_dict, isi_tuple_int, isi_tuple_bool, isi_tuple_str, isi_tuple_list, isi_tuple_tuple, isi_tuple_dict, isi_NoneType_int, isi_NoneType_bool, isi_NoneType_str, isi_NoneType_list, isi_NoneType_tuple, isi_NoneType_dict, isi_str_int, isi_str_bool, isi_str_str, isi_str_list, isi_str_tuple, isi_str_dict, isi_dict_int, isi_dict_bool, isi_dict_str, isi_dict_list, isi_dict_tuple, isi_dict_dict, Option.map_some, Option.map_none, Option.bind_some, Option.bind_none, List.getElem?_cons_zero, List.getElem?_cons_succ, List.set_cons_zero, List.set_cons_succ, List.getD_cons_zero, List.getD_cons_succ, List.map_cons, List.map_nil, List.length_cons, List.length_nil, List.nil_append, List.cons_append, List.append_nil, Bool.not_true, Bool.not_false, Bool.and_true, Bool.true_and, Bool.and_false, Bool.false_and, Bool.or_true, Bool.true_or, Bool.or_false, Bool.false_or, reduceIte, if_true, if_false, Bool.false_eq_true, decide_true, decide_false, reduceCtorEq, and_true, true_and, and_self, Nat.reduceAdd, Nat.reduceLeDiff, Nat.reduceLT, Nat.reduceSub, Nat.reduceEqDiff, List.isEmpty_cons, List.isEmpty_nil, not_true_eq_false, not_false_eq_true, bin_mul, bin_fdiv, bin_mod, bin_pow, Int.reduceLT, Int.reduceLE, Int.reduceNeg, Nat.reducePow, Int.reducePow, Int.reduceToNat])
local macro_rules | `(tactic| walk_at "evs") => `(tactic| simp -implicitDefEqProofs only [*, ev_var, ev_int, ev_bl, ev_str, ev_non, ev_bin, ev_cmp, ev_chain, ev_neg, ev_not, ev_and, ev_or, ev_ife, ev_ix, ev_tup, ev_lst, ev_call, ev_b1, ev_b2, ev_isi, ev_lc, ev_lc2, evs_nil, evs_cons, src_r1', src_r2', src_seq', t_yes', t_not', t_and', t_or', t_val', ss_nil, ss_cons, s_set, s_pat, s_seti, s_app, s_ins, s_ife, s_for, s_retv, s_expr, s_pass, s_brk, s_cont, varS_dat, varS_bor, varS_own, varS_ownD, nrm_int, nrm_bl, nrm_str, nrm_non, nrm_scr, nrm_obj, nrm_lst, nrm_dic, nrm_f, nrm_tup, imm_int, imm_bl, imm_str, imm_non, imm_scr, imm_lst, imm_tup, imm_dic, imm_obj, immA_nil, immA_cons, op2_vv, bin_add, bin_sub, cmp_lt, cmp_le, cmp_gt, cmp_ge, cmp_eq, cmp_ne, cmp_eqb, cmp_neb, cmp_isb, cmp_isnb, cmp_eqs, cmp_nes, isNon_non, isNon_int, isNon_bl, isNon_lst, isNon_tup, isNon_str, isNon_obj, isNon_dic, cmp_is, cmp_isn, ixQ_some, ix_lst, ix_tup, ix_scr, ixm_f, ixm_n, ixm_o, ixm_b, ixm_h, len_lst, len_tup, len_scr, int_int, max_ii, min_ii, neg_i, not_b, bv_v1, list_lst, list_tup, tuple_lst, tuple_tup, itF_f, itF_n, itF_o, itF_b, itF_h, cf_f, cf_n, cf_b, cf_h, cf_o, allCf_nil, allCf_cons, tst_v, truth_bl, truth_lst, andT_t, andT_f, orT_t, orT_f, andR_t, andR_f, orR_f, orR_t, blV_b, ifE_t, ifE_f, ifS_t, ifS_f, ifL_t, ifL_f, elt1_v, lcB_s, lcR_v, lcR2_v, thenS_nx, thenS_rt, thenS_bk, thenS_ct, setR_v, setQ_s, slotV_f, slotV_n, slotV_nd, slotV_bl, slotV_bt, patR_v, setiR_v, appR_v, insR_v, forR_v, retV_own, retV_dat, retV_bor, retV_ownD, retR_v, exprR_v, ret_tup, esc_tup, ret_lst, esc_lst, ret_bin, esc_bin, ret_cmp, esc_cmp, ret_neg, esc_neg, ret_not, esc_not, ret_and, esc_and, ret_or, esc_or, ret_ix, esc_ix, ret_b1, esc_b1, ret_b2, esc_b2, ret_isi, esc_isi, ret_call, esc_call, ret_int, esc_int, ret_bl, esc_bl, ret_ife, esc_ife, ret_str, esc_str, ret_chain, esc_chain, ret_non, esc_non, ret_lc, esc_lc, ret_lc2, esc_lc2, esc_var, escs_nil, escs_cons, frzA_nil, frzA_cons, frz_dat, frz_bor, frz_own, frz_ownD, frz_un, srcEsc_r1, srcEsc_r2, srcEsc_var, srcEsc_call, srcEsc_lst, srcEsc_tup, srcEsc_ix, srcEsc_b1, srcEsc_bin, callR_v, callQ_f, callQ_n, callQ_x, consR_vv, tupR_v, lstR_v, lstR_h, r1R_i, r2R_i, seqR_v, srcD_scr, srcD_lf, srcD_tf, srcD_lb, srcD_tb, srcD_lo, srcD_to, srcD_lh, srcD_th, srcD_ln, fin_f, fin_n, fin_nx, slot0_int, slot0_bl, slot0_str, slot0_non, slot0_scr, slot0_lst, slot0_tup, slot0_obj, slot0_dic, bind_nm, slotOf_f, slotOf_int, slotOf_bl, bind_tp, binds_nil, binds_cons, wipe_nil, wipe_cons, isi_int_int, isi_int_bool, isi_int_str, isi_int_list, isi_int_tuple, isi_int_dict, isi_bool_int, isi_bool_bool, isi_bool_str, isi_bool_list, isi_bool_tuple, isi_bool_dict, isi_list_int, isi_list_bool, isi_list_str, isi_list_list, isi_list_tuple, isi_list_dict, isi_tuple_int, isi_tuple_bool, isi_tuple_str, isi_tuple_list, isi_tuple_tuple, isi_tuple_dict, isi_NoneType_int, isi_NoneType_bool, isi_NoneType_str, isi_NoneType_list, isi_NoneType_tuple, isi_NoneType_dict, isi_str_int, isi_str_bool, isi_str_str, isi_str_list, isi_str_tuple, isi_str_dict, isi_dict_int, isi_dict_bool, isi_dict_str, isi_dict_list, isi_dict_tuple, isi_dict_dict, Option.map_some, Option.map_none, Option.bind_some, Option.bind_none, List.getElem?_cons_zero, List.getElem?_cons_succ, List.set_cons_zero, List.set_cons_succ, List.getD_cons_zero, List.getD_cons_succ, List.map_cons, List.map_nil, List.length_cons, List.length_nil, List.nil_append, List.cons_append, List.append_nil, Bool.not_true, Bool.not_false, Bool.and_true, Bool.true_and, Bool.and_false, Bool.false_and, Bool.or_true, Bool.true_or, Bool.or_false, Bool.false_or, reduceIte, if_true, if_false, Bool.false_eq_true, decide_true, decide_false, reduceCtorEq, and_true, true_and, and_self, Nat.reduceAdd, Nat.reduceLeDiff, Nat.reduceLT, Nat.reduceSub, Nat.reduceEqDiff, List.isEmpty_cons, List.isEmpty_nil, not_true_eq_false, not_false_eq_true, bin_mul, bin_fdiv, bin_mod, bin_pow, Int.reduceLT, Int.reduceLE, Int.reduceNeg, Nat.reducePow, Int.reducePow, Int.reduceToNat])
theorem drawF {k : Nat} {ns : List Int} {pl st sz : Int} (hb : ns.length ≤ 63) (h1 : 0 ≤ pl) (h1' : pl ≤ 1000000) (h2 : 0 ≤ st) (h3 : st ≤ 10000) (h4 : 0 < sz) : evF T (k + 1) "_law_draw" [.scr ns, .int pl, .int st, .int sz] = some (.ok .f (.int (draw ns pl st sz))) := by
  rw [v__law_draw]
  exact draw_v hb h1 h1' h2 h3 h4
theorem bigF {k : Nat} {ns : List Int} {pl st sz : Int} (hb : ns.length ≤ 63) (h1 : 0 ≤ pl) (h1' : pl ≤ 1000000) (h2 : 0 ≤ st) (h3 : st ≤ 1000) (h4 : 0 < sz) : ∃ v, evF T (k + 2) "_law_big" [.scr ns, .int pl, .int st, .int sz] = some (.ok .f (.int v)) ∧ 0 ≤ v ∧ v < sz := by
  rw [v__law_big, evD_run (by rfl)]
  have main : ∃ v, (evSs ⟨evF T (k + 1)⟩ c__law_big [.dat (.scr ns), .dat (.int pl), .dat (.int st), .dat (.int sz), .un, .un]).bind fin = some (.ok .f (.int v)) ∧ 0 ≤ v ∧ v < sz := by
    unfold c__law_big
    walk_at "ev"
    obtain ⟨ρ', e1, v, s, rfl, v0, v1⟩ := for_rng (i := 5) (lo := 0) (n := 7) (f := evSs ⟨evF T (k + 1)⟩ (.cons (.set 4 (.bin .add (.bin .mul (.var 4) (.int 1000)) (.call "_law_draw" (.cons (.var 0) (.cons (.var 1) (.cons (.bin .add (.var 2) (.var 5)) (.cons (.int 1000) .nil))))))) .nil))
      (ρ := [.dat (.scr ns), .dat (.int pl), .dat (.int st), .dat (.int sz), .dat (.int 0), .un])
      (fun j ρ => ∃ v s, ρ = [.dat (.scr ns), .dat (.int pl), .dat (.int st), .dat (.int sz), .dat (.int v), s] ∧ 0 ≤ v ∧ v < 1000 ^ j) ⟨0, _, rfl, by decide, by decide⟩ (fun j ρ hj ⟨v, s, e, v0, v1⟩ => by
        subst e
        have z : (0 : Int) + (j : Int) = (j : Int) := Int.zero_add _
        have hv : v < 1000 ^ 7 := Int.lt_of_lt_of_le v1 (by exact_mod_cast Nat.pow_le_pow_right (by decide) (by omega))
        have e7 : (1000 : Int) ^ 7 = 1000000000000000000000 := by decide
        rw [e7] at hv
        have d1 := drawF (k := k) (ns := ns) (pl := pl) (st := st + (j : Int)) (sz := 1000) hb h1 h1' (by omega) (by omega) (by omega)
        have d2 := draw_lt (ns := ns) (pl := pl) (st := st + (j : Int)) (sz := 1000) (by decide)
        refine ⟨[.dat (.scr ns), .dat (.int pl), .dat (.int st), .dat (.int sz), .dat (.int (v * 1000 + draw ns pl (st + (j : Int)) 1000)), .dat (.int (0 + (j : Int)))], .inl ?_, _, _, rfl, by omega, ?_⟩
        · have m1 := bin_mul (m1 := .f) (m2 := .f) (n := v) (n' := 1000) (by omega) (by omega) (by omega) (by omega)
          walk_at "evs"
        · rw [Int.pow_succ]; omega)
    simp only [e1]
    walk_at "ev"
    rw [bin_mod h4]
    walk_at "ev"
    exact ⟨v % sz, rfl, Int.emod_nonneg _ (by omega), Int.emod_lt_of_pos _ h4⟩
  exact main
theorem atI_last {A : List Int} (h : 0 < A.length) : atI (A.map D.int) (-1) = some (.int (A.getD (A.length - 1) 0)) := by
  unfold atI ixN
  rw [List.length_map, if_neg (by omega), if_pos (by omega)]
  have e : (-1 + (A.length : Int)).toNat = A.length - 1 := by omega
  simp only [Option.bind_some, e, List.getElem?_map]
  rw [List.getElem?_eq_getElem (show A.length - 1 < A.length by omega), List.getD_eq_getElem?_getD, List.getElem?_eq_getElem (show A.length - 1 < A.length by omega)]; rfl
theorem profF {k : Nat} {ns : List Int} {pl : Int} (hb : ns.length ≤ 63) (h1 : 0 ≤ pl) (h1' : pl ≤ 1000) : ∃ row : List Int, evF T (k + 3) "_law_profile" [.scr ns, .int pl] = some (.ok .n (.lst (row.map .int))) ∧ 0 < row.length ∧ row.length ≤ 30 := by
  rw [v__law_profile, evD_run (by rfl)]
  have main : ∃ row : List Int, (evSs ⟨evF T (k + 2)⟩ c__law_profile [.dat (.scr ns), .dat (.int pl), .un, .un, .un, .un, .un, .un]).bind fin = some (.ok .n (.lst (row.map .int))) ∧ 0 < row.length ∧ row.length ≤ 30 := by
    unfold c__law_profile
    have dr : ∀ st sz : Int, 0 ≤ st → st ≤ 1000 → 0 < sz → evF T (k + 2) "_law_draw" [.scr ns, .int pl, .int st, .int sz] = some (.ok .f (.int (draw ns pl st sz))) := fun st sz a b c => drawF hb h1 (by omega) a (by omega) c
    have d0 := dr 0 8 (by decide) (by decide) (by decide)
    have d1 := dr 1 6 (by decide) (by decide) (by decide)
    have d2 := dr 1 25 (by decide) (by decide) (by decide)
    have d3 := dr 2 15 (by decide) (by decide) (by decide)
    obtain ⟨bg, b1, b2, b3⟩ := bigF (k := k) (ns := ns) (pl := pl) (st := 3) (sz := 2000000000000000001) hb h1 (by omega) (by decide) (by decide) (by decide)
    have r0 := draw_lt (ns := ns) (pl := pl) (st := 1) (sz := 6) (by decide)
    have r1 := draw_lt (ns := ns) (pl := pl) (st := 1) (sz := 25) (by decide)
    clear dr
    have e18 : (10 : Int) ^ (18 : Int).toNat = 1000000000000000000 := by decide
    generalize hsh : draw ns pl 0 8 = sh at d0
    by_cases h0 : sh = 0
    · have q : decide (sh = 0) = true := decide_eq_true h0
      refine ⟨[0], ?_, by decide, by decide⟩
      walk_at "evs"
    · have q : decide (sh = 0) = false := decide_eq_false h0
      walk_at "evs"
      obtain ⟨sz, hz, z0, z1⟩ : ∃ sz : Int, ifS (⟨evF T (k + 2)⟩ : Orc) (.cons (.set 3 (.bin .add (.int 1) (.call "_law_draw" (.cons (.var 0) (.cons (.var 1) (.cons (.int 1) (.cons (.int 25) .nil))))))) .nil) .nil
          [.dat (.scr ns), .dat (.int pl), .dat (.int sh), .dat (.int (1 + draw ns pl 1 6)), .un, .un, .un, .un] (some (decide (sh = 1))) = some (.nx [.dat (.scr ns), .dat (.int pl), .dat (.int sh), .dat (.int sz), .un, .un, .un, .un]) ∧ 1 ≤ sz ∧ sz ≤ 25 := by
        by_cases h : sh = 1
        · refine ⟨1 + draw ns pl 1 25, ?_, by omega, by omega⟩
          have q : decide (sh = 1) = true := decide_eq_true h
          walk_at "evs"
        · refine ⟨1 + draw ns pl 1 6, ?_, by omega, by omega⟩
          have q : decide (sh = 1) = false := decide_eq_false h
          walk_at "evs"
      rw [hz]
      walk_at "evs"
      obtain ⟨en, hn⟩ : ∃ en : Int, ifS (⟨evF T (k + 2)⟩ : Orc) (.cons (.set 4 (.bin .sub (.call "_law_big" (.cons (.var 0) (.cons (.var 1) (.cons (.int 3) (.cons (.bin .add (.bin .mul (.int 2) (.bin .pow (.int 10) (.int 18))) (.int 1)) .nil))))) (.bin .pow (.int 10) (.int 18)))) .nil) .nil
          [.dat (.scr ns), .dat (.int pl), .dat (.int sh), .dat (.int sz), .dat (.int (draw ns pl 2 15 - 5)), .un, .un, .un] (some (decide (sh = 2))) = some (.nx [.dat (.scr ns), .dat (.int pl), .dat (.int sh), .dat (.int sz), .dat (.int en), .un, .un, .un]) := by
        by_cases h : sh = 2
        · have q : decide (sh = 2) = true := decide_eq_true h
          refine ⟨bg - 1000000000000000000, ?_⟩
          have m2 : (2 : Int) * 1000000000000000000 + 1 = 2000000000000000001 := by decide
          walk_at "evs"
        · have q : decide (sh = 2) = false := decide_eq_false h
          exact ⟨draw ns pl 2 15 - 5, by walk_at "evs"⟩
      rw [hn]
      walk_at "evs"
      rw [if_pos (by omega)]
      walk_at "ev"
      obtain ⟨ρ', e1, row, s6, s7, rfl, hr⟩ := for_rng (i := 6) (lo := 0) (n := (sz - 1).toNat) (f := evSs ⟨evF T (k + 2)⟩ (.cons (.set 7 (.ix (.lst (.cons (.int 0) (.cons (.int 0) (.cons (.int 0) (.cons (.int 1) (.cons (.int 1) (.cons (.int 2) (.cons (.int 3) (.cons (.int 4) .nil))))))))) (.call "_law_draw" (.cons (.var 0) (.cons (.var 1) (.cons (.bin .add (.int 10) (.var 6)) (.cons (.int 8) .nil)))))))
          (.cons (.ife (.val (.cmp .eq (.var 2) (.int 3))) (.cons (.set 7 (.bin .mul (.var 7) (.bin .pow (.int 10) (.int 18)))) .nil) .nil)
          (.cons (.app 5 (.bin .add (.ix (.var 5) (.neg (.int 1))) (.var 7))) .nil))))
        (ρ := [.dat (.scr ns), .dat (.int pl), .dat (.int sh), .dat (.int sz), .dat (.int en), .own [.int en], .un, .un])
        (fun j ρ => ∃ (row : List Int) (s6 s7 : Sl), ρ = [.dat (.scr ns), .dat (.int pl), .dat (.int sh), .dat (.int sz), .dat (.int en), .own (row.map .int), s6, s7] ∧ row.length = j + 1) ⟨[en], _, _, rfl, rfl⟩ (fun j ρ hj ⟨row, s6, s7, e, hr⟩ => by
          subst e
          have z : (0 : Int) + (j : Int) = (j : Int) := Int.zero_add _
          have d4 := drawF (k := k + 1) (ns := ns) (pl := pl) (st := 10 + (j : Int)) (sz := 8) hb h1 (by omega) (by omega) (by omega) (by omega)
          have d5 := draw_lt (ns := ns) (pl := pl) (st := 10 + (j : Int)) (sz := 8) (by decide)
          generalize draw ns pl (10 + (j : Int)) 8 = dd at d4 d5
          obtain ⟨mo, m1, m2, m3⟩ : ∃ mo : Int, atI [D.int 0, D.int 0, D.int 0, D.int 1, D.int 1, D.int 2, D.int 3, D.int 4] dd = some (.int mo) ∧ 0 ≤ mo ∧ mo ≤ 4 := by
            obtain rfl | rfl | rfl | rfl | rfl | rfl | rfl | rfl : dd = 0 ∨ dd = 1 ∨ dd = 2 ∨ dd = 3 ∨ dd = 4 ∨ dd = 5 ∨ dd = 6 ∨ dd = 7 := by omega
            all_goals exact ⟨_, rfl, by decide, by decide⟩
          have l1 := atI_last (A := row) (by omega)
          have l2 : ∀ (a : List Int) (x : Int), a.map D.int ++ [D.int x] = (a ++ [x]).map D.int := fun a x => by simp
          have l3 : (row.map D.int).length < 100000 := by rw [List.length_map]; omega
          by_cases h : sh = 3
          · have q : decide (sh = 3) = true := decide_eq_true h
            have m4 := bin_mul (m1 := .f) (m2 := .f) (n := mo) (n' := 1000000000000000000) (by omega) (by omega) (by omega) (by omega)
            refine ⟨[.dat (.scr ns), .dat (.int pl), .dat (.int sh), .dat (.int sz), .dat (.int en), .own ((row ++ [row.getD (row.length - 1) 0 + mo * 1000000000000000000]).map .int), .dat (.int (j : Int)), .dat (.int (mo * 1000000000000000000))], .inl ?_, _, _, _, rfl, by simp [hr]⟩
            clear hr
            walk_at "evs"
          · have q : decide (sh = 3) = false := decide_eq_false h
            refine ⟨[.dat (.scr ns), .dat (.int pl), .dat (.int sh), .dat (.int sz), .dat (.int en), .own ((row ++ [row.getD (row.length - 1) 0 + mo]).map .int), .dat (.int (j : Int)), .dat (.int mo)], .inl ?_, _, _, _, rfl, by simp [hr]⟩
            clear hr
            walk_at "evs")
      rw [e1]
      walk_at "ev"
      exact ⟨row, rfl, by omega, by omega⟩
  exact main

end QL

end
section
set_option maxRecDepth 100000
set_option maxHeartbeats 4000000
namespace QL
open PySem PySem.Spec PyProof.Rows L2 Evl
local macro_rules | `(tactic| walk_at "ev") => `(tactic| simp -implicitDefEqProofs only [ev_var, ev_int, ev_bl, ev_str, ev_non, ev_bin, ev_cmp, ev_chain, ev_neg, ev_not, ev_and, ev_or, ev_ife, ev_ix, ev_tup, ev_lst, ev_call, ev_b1, ev_b2, ev_isi, ev_lc, ev_lc2, evs_nil, evs_cons, src_r1', src_r2', src_seq', t_yes', t_not', t_and', t_or', t_val', ss_nil, ss_cons, s_set, s_pat, s_seti, s_app, s_ins, s_ife, s_for, s_retv, s_expr, s_pass, s_brk, s_cont, varS_dat, varS_bor, varS_own, varS_ownD, nrm_int, nrm_bl, nrm_str, nrm_non, nrm_scr, nrm_obj, nrm_lst, nrm_dic, nrm_f, nrm_tup, imm_int, imm_bl, imm_str, imm_non, imm_scr, imm_lst, imm_tup, imm_dic, imm_obj, immA_nil, immA_cons, op2_vv, bin_add, bin_sub, cmp_lt, cmp_le, cmp_gt, cmp_ge, cmp_eq, cmp_ne, cmp_eqb, cmp_neb, cmp_isb, cmp_isnb, cmp_eqs, cmp_nes, isNon_non, isNon_int, isNon_bl, isNon_lst, isNon_tup, isNon_str, isNon_obj, isNon_dic, cmp_is, cmp_isn, ixQ_some, ix_lst, ix_tup, ix_scr, ixm_f, ixm_n, ixm_o, ixm_b, ixm_h, len_lst, len_tup, len_scr, int_int, max_ii, min_ii, neg_i, not_b, bv_v1, list_lst, list_tup, tuple_lst, tuple_tup, itF_f, itF_n, itF_o, itF_b, itF_h, cf_f, cf_n, cf_b, cf_h, cf_o, allCf_nil, allCf_cons, tst_v, truth_bl, truth_lst, andT_t, andT_f, orT_t, orT_f, andR_t, andR_f, orR_f, orR_t, blV_b, ifE_t, ifE_f, ifS_t, ifS_f, ifL_t, ifL_f, elt1_v, lcB_s, lcR_v, lcR2_v, thenS_nx, thenS_rt, thenS_bk, thenS_ct, setR_v, setQ_s, slotV_f, slotV_n, slotV_nd, slotV_bl, slotV_bt, patR_v, setiR_v, appR_v, insR_v, forR_v, retV_own, retV_dat, retV_bor, retV_ownD, retR_v, exprR_v, ret_tup, esc_tup, ret_lst, esc_lst, ret_bin, esc_bin, ret_cmp, esc_cmp, ret_neg, esc_neg, ret_not, esc_not, ret_and, esc_and, ret_or, esc_or, ret_ix, esc_ix, ret_b1, esc_b1, ret_b2, esc_b2, ret_isi, esc_isi, ret_call, esc_call, ret_int, esc_int, ret_bl, esc_bl, ret_ife, esc_ife, ret_str, esc_str, ret_chain, esc_chain, ret_non, esc_non, ret_lc, esc_lc, ret_lc2, esc_lc2, esc_var, escs_nil, escs_cons, frzA_nil, frzA_cons, frz_dat, frz_bor, frz_own, frz_ownD, frz_un, srcEsc_r1, srcEsc_r2, srcEsc_var, srcEsc_call, srcEsc_lst, srcEsc_tup, srcEsc_ix, srcEsc_b1, srcEsc_bin, callR_v, callQ_f, callQ_n, callQ_x, consR_vv, tupR_v, lstR_v, lstR_h, r1R_i, r2R_i, seqR_v, srcD_scr, srcD_lf, srcD_tf, srcD_lb, srcD_tb, srcD_lo, srcD_to, srcD_lh, srcD_th, srcD_ln, fin_f, fin_n, fin_nx, slot0_int, slot0_bl, slot0_str, slot0_non, slot0_scr, slot0_lst, slot0_tup, slot0_obj, slot0_dic, bind_nm, slotOf_f, slotOf_int, slotOf_bl, bind_tp, binds_nil, binds_cons, wipe_nil, wipe_cons, isi_int_int, isi_int_bool, isi_int_str, isi_int_list, isi_int_tuple, isi_int_dict, isi_bool_int, isi_bool_bool, isi_bool_str, isi_bool_list, isi_bool_tuple, isi_bool_dict, isi_list_int, isi_list_bool, isi_list_str, isi_list_list, isi_list_tuple, isi_list_dict, isi_tuple_int, isi_tuple_bool, isi_tuple_str, isi_tuple_list, isi_tuple_tuple, isi_tuple_dict, isi_NoneType_int, isi_NoneType_bool, isi_NoneType_str, isi_NoneType_list, isi_NoneType_tuple, isi_NoneType_dict, isi_str_int, isi_str_bool, isi_str_str, isi_str_list, isi_str_tuple, isi_str_dict, isi_dict_int, isi_dict_bool, isi_dict_str, isi_dict_list, isi_dict_tuple, isi_dict_dict, Option.map_some, Option.map_none, Option.bind_some, Option.bind_none, List.getElem?_cons_zero, List.getElem?_cons_succ, List.set_cons_zero, List.set_cons_succ, List.getD_cons_zero, List.getD_cons_succ, List.map_cons, List.map_nil, List.length_cons, List.length_nil, List.nil_append, List.cons_append, List.append_nil, Bool.not_true, Bool.not_false, Bool.and_true, Bool.true_and, Bool.and_false, Bool.false_and, Bool.or_true, Bool.true_or, Bool.or_false, Bool.false_or, reduceIte, if_true, if_false, Bool.false_eq_true, decide_true, decide_false, reduceCtorEq, and_true, true_and, and_self, Nat.reduceAdd, Nat.reduceLeDiff, Nat.reduceLT, Nat.reduceSub, Nat.reduceEqDiff, List.isEmpty_cons, List.isEmpty_nil, not_true_eq_false, not_false_eq_true, bin_mul, bin_fdiv, bin_mod, bin_pow, Int.reduceLT, Int.reduceLE, Int.reduceNeg, Nat.reducePow, Int.reducePow, Int.reduceToNat])
local macro_rules | `(tactic| walk_at "evs") => `(tactic| simp -implicitDefEqProofs only [*, ev_var, ev_int, ev_bl, ev_str, ev_non, ev_bin, ev_cmp, ev_chain, ev_neg, ev_not, ev_and, ev_or, ev_ife, ev_ix, ev_tup, ev_lst, ev_call, ev_b1, ev_b2, ev_isi, ev_lc, ev_lc2, evs_nil, evs_cons, src_r1', src_r2', src_seq', t_yes', t_not', t_and', t_or', t_val', ss_nil, ss_cons, s_set, s_pat, s_seti, s_app, s_ins, s_ife, s_for, s_retv, s_expr, s_pass, s_brk, s_cont, varS_dat, varS_bor, varS_own, varS_ownD, nrm_int, nrm_bl, nrm_str, nrm_non, nrm_scr, nrm_obj, nrm_lst, nrm_dic, nrm_f, nrm_tup, imm_int, imm_bl, imm_str, imm_non, imm_scr, imm_lst, imm_tup, imm_dic, imm_obj, immA_nil, immA_cons, op2_vv, bin_add, bin_sub, cmp_lt, cmp_le, cmp_gt, cmp_ge, cmp_eq, cmp_ne, cmp_eqb, cmp_neb, cmp_isb, cmp_isnb, cmp_eqs, cmp_nes, isNon_non, isNon_int, isNon_bl, isNon_lst, isNon_tup, isNon_str, isNon_obj, isNon_dic, cmp_is, cmp_isn, ixQ_some, ix_lst, ix_tup, ix_scr, ixm_f, ixm_n, ixm_o, ixm_b, ixm_h, len_lst, len_tup, len_scr, int_int, max_ii, min_ii, neg_i, not_b, bv_v1, list_lst, list_tup, tuple_lst, tuple_tup, itF_f, itF_n, itF_o, itF_b, itF_h, cf_f, cf_n, cf_b, cf_h, cf_o, allCf_nil, allCf_cons, tst_v, truth_bl, truth_lst, andT_t, andT_f, orT_t, orT_f, andR_t, andR_f, orR_f, orR_t, blV_b, ifE_t, ifE_f, ifS_t, ifS_f, ifL_t, ifL_f, elt1_v, lcB_s, lcR_v, lcR2_v, thenS_nx, thenS_rt, thenS_bk, thenS_ct, setR_v, setQ_s, slotV_f, slotV_n, slotV_nd, slotV_bl, slotV_bt, patR_v, setiR_v, appR_v, insR_v, forR_v, retV_own, retV_dat, retV_bor, retV_ownD, retR_v, exprR_v, ret_tup, esc_tup, ret_lst, esc_lst, ret_bin, esc_bin, ret_cmp, esc_cmp, ret_neg, esc_neg, ret_not, esc_not, ret_and, esc_and, ret_or, esc_or, ret_ix, esc_ix, ret_b1, esc_b1, ret_b2, esc_b2, ret_isi, esc_isi, ret_call, esc_call, ret_int, esc_int, ret_bl, esc_bl, ret_ife, esc_ife, ret_str, esc_str, ret_chain, esc_chain, ret_non, esc_non, ret_lc, esc_lc, ret_lc2, esc_lc2, esc_var, escs_nil, escs_cons, frzA_nil, frzA_cons, frz_dat, frz_bor, frz_own, frz_ownD, frz_un, srcEsc_r1, srcEsc_r2, srcEsc_var, srcEsc_call, srcEsc_lst, srcEsc_tup, srcEsc_ix, srcEsc_b1, srcEsc_bin, callR_v, callQ_f, callQ_n, callQ_x, consR_vv, tupR_v, lstR_v, lstR_h, r1R_i, r2R_i, seqR_v, srcD_scr, srcD_lf, srcD_tf, srcD_lb, srcD_tb, srcD_lo, srcD_to, srcD_lh, srcD_th, srcD_ln, fin_f, fin_n, fin_nx, slot0_int, slot0_bl, slot0_str, slot0_non, slot0_scr, slot0_lst, slot0_tup, slot0_obj, slot0_dic, bind_nm, slotOf_f, slotOf_int, slotOf_bl, bind_tp, binds_nil, binds_cons, wipe_nil, wipe_cons, isi_int_int, isi_int_bool, isi_int_str, isi_int_list, isi_int_tuple, isi_int_dict, isi_bool_int, isi_bool_bool, isi_bool_str, isi_bool_list, isi_bool_tuple, isi_bool_dict, isi_list_int, isi_list_bool, isi_list_str, isi_list_list, isi_list_tuple, isi_list_dict, isi_tuple_int, isi_tuple_bool, isi_tuple_str, isi_tuple_list, isi_tuple_tuple, isi_tuple_dict, isi_NoneType_int, isi_NoneType_bool, isi_NoneType_str, isi_NoneType_list, isi_NoneType_tuple, isi_NoneType_dict, isi_str_int, isi_str_bool, isi_str_str, isi_str_list, isi_str_tuple, isi_str_dict, isi_dict_int, isi_dict_bool, isi_dict_str, isi_dict_list, isi_dict_tuple, isi_dict_dict, Option.map_some, Option.map_none, Option.bind_some, Option.bind_none, List.getElem?_cons_zero, List.getElem?_cons_succ, List.set_cons_zero, List.set_cons_succ, List.getD_cons_zero, List.getD_cons_succ, List.map_cons, List.map_nil, List.length_cons, List.length_nil, List.nil_append, List.cons_append, List.append_nil, Bool.not_true, Bool.not_false, Bool.and_true, Bool.true_and, Bool.and_false, Bool.false_and, Bool.or_true, Bool.true_or, Bool.or_false, Bool.false_or, reduceIte, if_true, if_false, Bool.false_eq_true, decide_true, decide_false, reduceCtorEq, and_true, true_and, and_self, Nat.reduceAdd, Nat.reduceLeDiff, Nat.reduceLT, Nat.reduceSub, Nat.reduceEqDiff, List.isEmpty_cons, List.isEmpty_nil, not_true_eq_false, not_false_eq_true, bin_mul, bin_fdiv, bin_mod, bin_pow, Int.reduceLT, Int.reduceLE, Int.reduceNeg, Nat.reducePow, Int.reducePow, Int.reduceToNat])
def okL (A : List Int) : Prop := 0 < A.length ∧ A.length ≤ 99
theorem fitsT {k : Nat} {a : List Int} (lb : a.length ≤ 1000) : evF T (k + 1) "_law_fits" [.lst (a.map .int), .lst (a.map .int)] = some (.ok .f (.bl true)) := by
  rw [fits_v (t := true) (u := true) lb, decide_eq_true rfl]
theorem dueF {k : Nat} {A B : List Int} {d : Int} (hd : d = 0 ∨ d = 1) (ha : 0 < A.length) (hb : 0 < B.length) (la : A.length ≤ 100) (lb : B.length ≤ 100) : evF T (k + 1) "_law_due" [.int d, .lst (A.map .int), .lst (B.map .int)] = some (.ok .n (.lst ((mg (fD d) A B).map .int))) := by
  rw [due_v hd ha hb la lb, allU_mg ha hb]
theorem mgF {k : Nat} {t u : Bool} {A B : List Int} {d : Int} (ha : 0 < A.length) (hb : 0 < B.length) (la : A.length ≤ 100) (lb : B.length ≤ 100) : evF T (k + 3) "_law_merge" [.int d, sq t A, sq u B] = some (.ok .n (.lst ((mg (fD d) A B).map .int))) := merge_v ha hb la lb
theorem holdsF {k : Nat} {A B : List Int} {d sh : Int} (hd : d = 0 ∨ d = 1) (ha : okL A) (hb : okL B) (h0 : 0 ≤ sh) (h3 : sh < 4) : evF T (k + 4) "_law_holds" [.int d, .lst (A.map .int), .lst (B.map .int), .int sh] = some (.ok .f (.bl true)) := by
  rw [v__law_holds, evD_run (by rfl)]
  show (evSs ⟨evF T (k + 3)⟩ c__law_holds [.dat (.int d), .bor (.lst (A.map .int)), .bor (.lst (B.map .int)), .dat (.int sh), .un, .un, .un, .un]).bind fin = _
  unfold c__law_holds
  obtain ⟨a1, a2⟩ := ha
  obtain ⟨b1, b2⟩ := hb
  have du := dueF (k := k + 2) (A := A) (B := B) hd a1 b1 (by omega) (by omega)
  have mm : ∀ t u, evF T (k + 3) "_law_merge" [.int d, sq t A, sq u B] = some (.ok .n (.lst ((mg (fD d) A B).map .int))) := fun t u => mgF a1 b1 (by omega) (by omega)
  have ft : ∀ a : List Int, a.length ≤ 1000 → evF T (k + 3) "_law_fits" [.lst (a.map .int), .lst (a.map .int)] = some (.ok .f (.bl true)) := fun a h => fitsT h
  have fA := ft A (by omega)
  have fB := ft B (by omega)
  have fM := ft (mg (fD d) A B) (by rw [mg_len]; omega)
  have lA := atI_last a1
  have l2 : ∀ (a : List Int) (x : Int), a.map D.int ++ [D.int x] = (a ++ [x]).map D.int := fun a x => by simp
  have l3 : ∀ (a : List Int) (x : Int), D.int x :: a.map D.int = (x :: a).map D.int := fun a x => by simp
  have ll : ∀ c : List Int, (c.map D.int).length = c.length := fun c => List.length_map _
  have gA : A.length < 100000 := by omega
  have gB : B.length < 100000 := by omega
  have gM : (mg (fD d) A B).length < 100000 := by rw [mg_len]; omega
  have iA : immA (A.map D.int) = true := immA_ints A
  have iB : immA (B.map D.int) = true := immA_ints B
  have x0 := atI_int (a := B) (k := 0) b1
  have ml := mg_len (f := fD d) (A := A) (B := B)
  have xM := atI_int (a := mg (fD d) A B ++ [0]) (k := 0) (by rw [List.length_append]; simp)
  have nM := ixN_nat (n := (mg (fD d) A B ++ [0]).length) (k := 0) (by rw [List.length_append]; simp)
  have c0 : ((0 : Nat) : Int) = 0 := rfl
  rw [c0] at x0 xM nM
  have t0 : (0 : Int).toNat = 0 := rfl
  have tk : ∀ l : List D, l.take 0 = [] := fun l => rfl
  have dp : ∀ l : List D, l.drop 0 = l := fun l => rfl
  have m00 : evF T (k + 3) "_law_merge" [.int d, .lst (A.map .int), .lst (B.map .int)] = _ := mm false false
  have m01 : evF T (k + 3) "_law_merge" [.int d, .lst (A.map .int), .tup (B.map .int)] = _ := mm false true
  have m10 : evF T (k + 3) "_law_merge" [.int d, .tup (A.map .int), .lst (B.map .int)] = _ := mm true false
  have m11 : evF T (k + 3) "_law_merge" [.int d, .tup (A.map .int), .tup (B.map .int)] = _ := mm true true
  clear mm
  have two : ∀ A' B' : List Int, 0 < A'.length → A'.length ≤ 100 → 0 < B'.length → B'.length ≤ 100 → evF T (k + 3) "_law_due" [.int d, .lst (A'.map .int), .lst (B'.map .int)] = some (.ok .n (.lst ((mg (fD d) A' B').map .int))) ∧
      (∀ t u, evF T (k + 3) "_law_merge" [.int d, sq t A', sq u B'] = some (.ok .n (.lst ((mg (fD d) A' B').map .int)))) ∧ evF T (k + 3) "_law_fits" [.lst ((mg (fD d) A' B').map .int), .lst ((mg (fD d) A' B').map .int)] = some (.ok .f (.bl true)) :=
    fun A' B' p1 p2 p3 p4 => ⟨dueF hd p1 p3 p2 p4, fun t u => mgF p1 p3 p2 p4, fitsT (by rw [mg_len]; omega)⟩
  clear ft
  have lA' : ∀ x : Int, 0 < (A ++ [x]).length ∧ (A ++ [x]).length ≤ 100 := fun x => by simp; omega
  have lB' : ∀ x : Int, 0 < (x :: B).length ∧ (x :: B).length ≤ 100 := fun x => by simp; omega
  obtain rfl | rfl | rfl | rfl : sh = 0 ∨ sh = 1 ∨ sh = 2 ∨ sh = 3 := by omega
  · have q1 : decide ((0 : Int) = 1) = false := by decide
    have q2 : decide ((0 : Int) = 2) = false := by decide
    have q3 : decide ((0 : Int) = 3) = false := by decide
    obtain ⟨w1, w2, w3⟩ := two (A ++ [A.getD (A.length - 1) 0 + 5]) ((B.getD 0 0 - 3) :: B) (lA' _).1 (lA' _).2 (lB' _).1 (lB' _).2
    have w4 := w2 false false
    simp only [sq, reduceIte, Bool.false_eq_true] at w4
    clear two w2 lA' lB' ml a1 a2 b1 b2 c0 h0 h3
    repeat (first | simp -implicitDefEqProofs only [appR_v, insR_v, cf_f, Int.reduceLT, Int.reduceLE, Int.reducePow, Int.reduceNeg, du, fA, fB, fM, lA, l2, l3, ll, gA, gB, gM, iA, iB, x0, xM, nM, t0, tk, dp, m00, m01, m10, m11, q1, q2, q3, w1, w3, w4] | walk_at "ev")
  · have q1 : decide ((1 : Int) = 1) = true := by decide
    have q2 : decide ((1 : Int) = 2) = false := by decide
    have q3 : decide ((1 : Int) = 3) = false := by decide
    obtain ⟨w1, w2, w3⟩ := two A ((B.getD 0 0 - 3) :: B) a1 (by omega) (lB' _).1 (lB' _).2
    have w4 := w2 true false
    simp only [sq, reduceIte, Bool.false_eq_true] at w4
    clear two w2 lA' lB' ml a1 a2 b1 b2 c0 h0 h3
    repeat (first | simp -implicitDefEqProofs only [appR_v, insR_v, cf_f, Int.reduceLT, Int.reduceLE, Int.reducePow, Int.reduceNeg, du, fA, fB, fM, lA, l2, l3, ll, gA, gB, gM, iA, iB, x0, xM, nM, t0, tk, dp, m00, m01, m10, m11, q1, q2, q3, w1, w3, w4] | walk_at "ev")
  · have q1 : decide ((2 : Int) = 1) = false := by decide
    have q2 : decide ((2 : Int) = 2) = true := by decide
    have q3 : decide ((2 : Int) = 3) = false := by decide
    obtain ⟨w1, w2, w3⟩ := two (A ++ [A.getD (A.length - 1) 0 + 5]) B (lA' _).1 (lA' _).2 b1 (by omega)
    have w4 := w2 false true
    simp only [sq, reduceIte, Bool.false_eq_true] at w4
    clear two w2 lA' lB' ml a1 a2 b1 b2 c0 h0 h3
    repeat (first | simp -implicitDefEqProofs only [appR_v, insR_v, cf_f, Int.reduceLT, Int.reduceLE, Int.reducePow, Int.reduceNeg, du, fA, fB, fM, lA, l2, l3, ll, gA, gB, gM, iA, iB, x0, xM, nM, t0, tk, dp, m00, m01, m10, m11, q1, q2, q3, w1, w3, w4] | walk_at "ev")
  · have q1 : decide ((3 : Int) = 1) = false := by decide
    have q2 : decide ((3 : Int) = 2) = false := by decide
    have q3 : decide ((3 : Int) = 3) = true := by decide
    obtain ⟨w1, w2, w3⟩ := two A B a1 (by omega) b1 (by omega)
    have w4 := w2 true true
    simp only [sq, reduceIte, Bool.false_eq_true] at w4
    clear two w2 lA' lB' ml a1 a2 b1 b2 c0 h0 h3
    repeat (first | simp -implicitDefEqProofs only [appR_v, insR_v, cf_f, Int.reduceLT, Int.reduceLE, Int.reducePow, Int.reduceNeg, du, fA, fB, fM, lA, l2, l3, ll, gA, gB, gM, iA, iB, x0, xM, nM, t0, tk, dp, m00, m01, m10, m11, q1, q2, q3, w1, w3, w4] | walk_at "ev")

end QL

end
section
set_option maxRecDepth 100000
set_option maxHeartbeats 4000000
namespace QL
open PySem PySem.Spec PyProof.Rows L2 Evl
local macro_rules | `(tactic| walk_at "ev") => `(tactic| simp -implicitDefEqProofs only [ev_var, ev_int, ev_bl, ev_str, ev_non, ev_bin, ev_cmp, ev_chain, ev_neg, ev_not, ev_and, ev_or, ev_ife, ev_ix, ev_tup, ev_lst, ev_call, ev_b1, ev_b2, ev_isi, ev_lc, ev_lc2, evs_nil, evs_cons, src_r1', src_r2', src_seq', t_yes', t_not', t_and', t_or', t_val', ss_nil, ss_cons, s_set, s_pat, s_seti, s_app, s_ins, s_ife, s_for, s_retv, s_expr, s_pass, s_brk, s_cont, varS_dat, varS_bor, varS_own, varS_ownD, nrm_int, nrm_bl, nrm_str, nrm_non, nrm_scr, nrm_obj, nrm_lst, nrm_dic, nrm_f, nrm_tup, imm_int, imm_bl, imm_str, imm_non, imm_scr, imm_lst, imm_tup, imm_dic, imm_obj, immA_nil, immA_cons, op2_vv, bin_add, bin_sub, cmp_lt, cmp_le, cmp_gt, cmp_ge, cmp_eq, cmp_ne, cmp_eqb, cmp_neb, cmp_isb, cmp_isnb, cmp_eqs, cmp_nes, isNon_non, isNon_int, isNon_bl, isNon_lst, isNon_tup, isNon_str, isNon_obj, isNon_dic, cmp_is, cmp_isn, ixQ_some, ix_lst, ix_tup, ix_scr, ixm_f, ixm_n, ixm_o, ixm_b, ixm_h, len_lst, len_tup, len_scr, int_int, max_ii, min_ii, neg_i, not_b, bv_v1, list_lst, list_tup, tuple_lst, tuple_tup, itF_f, itF_n, itF_o, itF_b, itF_h, cf_f, cf_n, cf_b, cf_h, cf_o, allCf_nil, allCf_cons, tst_v, truth_bl, truth_lst, andT_t, andT_f, orT_t, orT_f, andR_t, andR_f, orR_f, orR_t, blV_b, ifE_t, ifE_f, ifS_t, ifS_f, ifL_t, ifL_f, elt1_v, lcB_s, lcR_v, lcR2_v, thenS_nx, thenS_rt, thenS_bk, thenS_ct, setR_v, setQ_s, slotV_f, slotV_n, slotV_nd, slotV_bl, slotV_bt, patR_v, setiR_v, appR_v, insR_v, forR_v, retV_own, retV_dat, retV_bor, retV_ownD, retR_v, exprR_v, ret_tup, esc_tup, ret_lst, esc_lst, ret_bin, esc_bin, ret_cmp, esc_cmp, ret_neg, esc_neg, ret_not, esc_not, ret_and, esc_and, ret_or, esc_or, ret_ix, esc_ix, ret_b1, esc_b1, ret_b2, esc_b2, ret_isi, esc_isi, ret_call, esc_call, ret_int, esc_int, ret_bl, esc_bl, ret_ife, esc_ife, ret_str, esc_str, ret_chain, esc_chain, ret_non, esc_non, ret_lc, esc_lc, ret_lc2, esc_lc2, esc_var, escs_nil, escs_cons, frzA_nil, frzA_cons, frz_dat, frz_bor, frz_own, frz_ownD, frz_un, srcEsc_r1, srcEsc_r2, srcEsc_var, srcEsc_call, srcEsc_lst, srcEsc_tup, srcEsc_ix, srcEsc_b1, srcEsc_bin, callR_v, callQ_f, callQ_n, callQ_x, consR_vv, tupR_v, lstR_v, lstR_h, r1R_i, r2R_i, seqR_v, srcD_scr, srcD_lf, srcD_tf, srcD_lb, srcD_tb, srcD_lo, srcD_to, srcD_lh, srcD_th, srcD_ln, fin_f, fin_n, fin_nx, slot0_int, slot0_bl, slot0_str, slot0_non, slot0_scr, slot0_lst, slot0_tup, slot0_obj, slot0_dic, bind_nm, slotOf_f, slotOf_int, slotOf_bl, bind_tp, binds_nil, binds_cons, wipe_nil, wipe_cons, isi_int_int, isi_int_bool, isi_int_str, isi_int_list, isi_int_tuple, isi_int_dict, isi_bool_int, isi_bool_bool, isi_bool_str, isi_bool_list, isi_bool_tuple, isi_bool_dict, isi_list_int, isi_list_bool, isi_list_str, isi_list_list, isi_list_tuple, isi_list_dict, isi_tuple_int, isi_tuple_bool, isi_tuple_str, isi_tuple_list, isi_tuple_tuple, isi_tuple_dict, isi_NoneType_int, isi_NoneType_bool, isi_NoneType_str, isi_NoneType_list, isi_NoneType_tuple, isi_NoneType_dict, isi_str_int, isi_str_bool, isi_str_str, isi_str_list, isi_str_tuple, isi_str_dict, isi_dict_int, isi_dict_bool, isi_dict_str, isi_dict_list, isi_dict_tuple, isi_dict_dict, Option.map_some, Option.map_none, Option.bind_some, Option.bind_none, List.getElem?_cons_zero, List.getElem?_cons_succ, List.set_cons_zero, List.set_cons_succ, List.getD_cons_zero, List.getD_cons_succ, List.map_cons, List.map_nil, List.length_cons, List.length_nil, List.nil_append, List.cons_append, List.append_nil, Bool.not_true, Bool.not_false, Bool.and_true, Bool.true_and, Bool.and_false, Bool.false_and, Bool.or_true, Bool.true_or, Bool.or_false, Bool.false_or, reduceIte, if_true, if_false, Bool.false_eq_true, decide_true, decide_false, reduceCtorEq, and_true, true_and, and_self, Nat.reduceAdd, Nat.reduceLeDiff, Nat.reduceLT, Nat.reduceSub, Nat.reduceEqDiff, List.isEmpty_cons, List.isEmpty_nil, not_true_eq_false, not_false_eq_true, bin_mul, bin_fdiv, bin_mod, bin_pow, Int.reduceLT, Int.reduceLE, Int.reduceNeg, Nat.reducePow, Int.reducePow, Int.reduceToNat])
local macro_rules | `(tactic| walk_at "evs") => `(tactic| simp -implicitDefEqProofs only [*, ev_var, ev_int, ev_bl, ev_str, ev_non, ev_bin, ev_cmp, ev_chain, ev_neg, ev_not, ev_and, ev_or, ev_ife, ev_ix, ev_tup, ev_lst, ev_call, ev_b1, ev_b2, ev_isi, ev_lc, ev_lc2, evs_nil, evs_cons, src_r1', src_r2', src_seq', t_yes', t_not', t_and', t_or', t_val', ss_nil, ss_cons, s_set, s_pat, s_seti, s_app, s_ins, s_ife, s_for, s_retv, s_expr, s_pass, s_brk, s_cont, varS_dat, varS_bor, varS_own, varS_ownD, nrm_int, nrm_bl, nrm_str, nrm_non, nrm_scr, nrm_obj, nrm_lst, nrm_dic, nrm_f, nrm_tup, imm_int, imm_bl, imm_str, imm_non, imm_scr, imm_lst, imm_tup, imm_dic, imm_obj, immA_nil, immA_cons, op2_vv, bin_add, bin_sub, cmp_lt, cmp_le, cmp_gt, cmp_ge, cmp_eq, cmp_ne, cmp_eqb, cmp_neb, cmp_isb, cmp_isnb, cmp_eqs, cmp_nes, isNon_non, isNon_int, isNon_bl, isNon_lst, isNon_tup, isNon_str, isNon_obj, isNon_dic, cmp_is, cmp_isn, ixQ_some, ix_lst, ix_tup, ix_scr, ixm_f, ixm_n, ixm_o, ixm_b, ixm_h, len_lst, len_tup, len_scr, int_int, max_ii, min_ii, neg_i, not_b, bv_v1, list_lst, list_tup, tuple_lst, tuple_tup, itF_f, itF_n, itF_o, itF_b, itF_h, cf_f, cf_n, cf_b, cf_h, cf_o, allCf_nil, allCf_cons, tst_v, truth_bl, truth_lst, andT_t, andT_f, orT_t, orT_f, andR_t, andR_f, orR_f, orR_t, blV_b, ifE_t, ifE_f, ifS_t, ifS_f, ifL_t, ifL_f, elt1_v, lcB_s, lcR_v, lcR2_v, thenS_nx, thenS_rt, thenS_bk, thenS_ct, setR_v, setQ_s, slotV_f, slotV_n, slotV_nd, slotV_bl, slotV_bt, patR_v, setiR_v, appR_v, insR_v, forR_v, retV_own, retV_dat, retV_bor, retV_ownD, retR_v, exprR_v, ret_tup, esc_tup, ret_lst, esc_lst, ret_bin, esc_bin, ret_cmp, esc_cmp, ret_neg, esc_neg, ret_not, esc_not, ret_and, esc_and, ret_or, esc_or, ret_ix, esc_ix, ret_b1, esc_b1, ret_b2, esc_b2, ret_isi, esc_isi, ret_call, esc_call, ret_int, esc_int, ret_bl, esc_bl, ret_ife, esc_ife, ret_str, esc_str, ret_chain, esc_chain, ret_non, esc_non, ret_lc, esc_lc, ret_lc2, esc_lc2, esc_var, escs_nil, escs_cons, frzA_nil, frzA_cons, frz_dat, frz_bor, frz_own, frz_ownD, frz_un, srcEsc_r1, srcEsc_r2, srcEsc_var, srcEsc_call, srcEsc_lst, srcEsc_tup, srcEsc_ix, srcEsc_b1, srcEsc_bin, callR_v, callQ_f, callQ_n, callQ_x, consR_vv, tupR_v, lstR_v, lstR_h, r1R_i, r2R_i, seqR_v, srcD_scr, srcD_lf, srcD_tf, srcD_lb, srcD_tb, srcD_lo, srcD_to, srcD_lh, srcD_th, srcD_ln, fin_f, fin_n, fin_nx, slot0_int, slot0_bl, slot0_str, slot0_non, slot0_scr, slot0_lst, slot0_tup, slot0_obj, slot0_dic, bind_nm, slotOf_f, slotOf_int, slotOf_bl, bind_tp, binds_nil, binds_cons, wipe_nil, wipe_cons, isi_int_int, isi_int_bool, isi_int_str, isi_int_list, isi_int_tuple, isi_int_dict, isi_bool_int, isi_bool_bool, isi_bool_str, isi_bool_list, isi_bool_tuple, isi_bool_dict, isi_list_int, isi_list_bool, isi_list_str, isi_list_list, isi_list_tuple, isi_list_dict, isi_tuple_int, isi_tuple_bool, isi_tuple_str, isi_tuple_list, isi_tuple_tuple, isi_tuple_dict, isi_NoneType_int, isi_NoneType_bool, isi_NoneType_str, isi_NoneType_list, isi_NoneType_tuple, isi_NoneType_dict, isi_str_int, isi_str_bool, isi_str_str, isi_str_list, isi_str_tuple, isi_str_dict, isi_dict_int, isi_dict_bool, isi_dict_str, isi_dict_list, isi_dict_tuple, isi_dict_dict, Option.map_some, Option.map_none, Option.bind_some, Option.bind_none, List.getElem?_cons_zero, List.getElem?_cons_succ, List.set_cons_zero, List.set_cons_succ, List.getD_cons_zero, List.getD_cons_succ, List.map_cons, List.map_nil, List.length_cons, List.length_nil, List.nil_append, List.cons_append, List.append_nil, Bool.not_true, Bool.not_false, Bool.and_true, Bool.true_and, Bool.and_false, Bool.false_and, Bool.or_true, Bool.true_or, Bool.or_false, Bool.false_or, reduceIte, if_true, if_false, Bool.false_eq_true, decide_true, decide_false, reduceCtorEq, and_true, true_and, and_self, Nat.reduceAdd, Nat.reduceLeDiff, Nat.reduceLT, Nat.reduceSub, Nat.reduceEqDiff, List.isEmpty_cons, List.isEmpty_nil, not_true_eq_false, not_false_eq_true, bin_mul, bin_fdiv, bin_mod, bin_pow, Int.reduceLT, Int.reduceLE, Int.reduceNeg, Nat.reducePow, Int.reducePow, Int.reduceToNat])
theorem law_true : ∀ ns : List Int, ns.length ≤ 63 → evF T 8 "law" [.scr ns] = some (.ok .f (.bl true)) := by
  intro ns hb
  rw [v_law, evD_run (by rfl)]
  show (evSs ⟨evF T 7⟩ c_law [.dat (.scr ns), .un, .un, .un, .un]).bind fin = _
  unfold c_law
  obtain ⟨A, p1, a1, a2⟩ := profF (k := 4) (ns := ns) (pl := 0) hb (by decide) (by decide)
  obtain ⟨B, p2, b1, b2⟩ := profF (k := 4) (ns := ns) (pl := 1) hb (by decide) (by decide)
  have d1 := drawF (k := 6) (ns := ns) (pl := 2) (st := 0) (sz := 4) hb (by decide) (by decide) (by decide) (by decide) (by decide)
  obtain ⟨d2, d3⟩ := draw_lt (ns := ns) (pl := 2) (st := 0) (sz := 4) (by decide)
  generalize draw ns 2 0 4 = sh at d1 d2 d3
  have ho : ∀ d : Int, d = 0 ∨ d = 1 → evF T 7 "_law_holds" [.int d, .lst (A.map .int), .lst (B.map .int), .int sh] = some (.ok .f (.bl true)) := fun d hd => holdsF (k := 3) hd ⟨a1, by omega⟩ ⟨b1, by omega⟩ d2 d3
  have fc : ∀ d : Int, ∀ a b : Int, fD d a b = fD d b a := fun d a b => by
    unfold fD
    split
    · show a + b = b + a; omega
    · show min a b = min b a; omega
  have mm : ∀ d : Int, evF T 7 "_law_merge" [.int d, .lst (B.map .int), .lst (A.map .int)] = some (.ok .n (.lst ((mg (fD d) A B).map .int))) := fun d => by
    have := mgF (k := 4) (t := false) (u := false) (d := d) b1 a1 (show B.length ≤ 100 by omega) (show A.length ≤ 100 by omega)
    rw [mg_comm (fc d) a1 b1] at this
    exact this
  have du : ∀ d : Int, d = 0 ∨ d = 1 → evF T 7 "_law_due" [.int d, .lst (A.map .int), .lst (B.map .int)] = some (.ok .n (.lst ((mg (fD d) A B).map .int))) := fun d hd => dueF hd a1 b1 (by omega) (by omega)
  have ft : ∀ d : Int, evF T 7 "_law_fits" [.lst ((mg (fD d) A B).map .int), .lst ((mg (fD d) A B).map .int)] = some (.ok .f (.bl true)) := fun d => fitsT (by rw [mg_len]; omega)
  repeat (first | simp -implicitDefEqProofs only [p1, p2, d1] | walk_at "ev")
  obtain ⟨ρ', e1, s, rfl⟩ := for_rng (i := 4) (lo := 0) (n := 2) (f := evSs ⟨evF T 7⟩ (.cons (.ife (.not (.val (.call "_law_holds" (.cons (.var 4) (.cons (.var 1) (.cons (.var 2) (.cons (.var 3) .nil))))))) (.cons (.ret (.bl false))
    .nil) .nil)
    (.cons (.ife (.not (.val (.call "_law_fits" (.cons (.call "_law_merge" (.cons (.var 4) (.cons (.b1 .list (.var 2)) (.cons (.b1 .list (.var 1)) .nil)))) (.cons (.call "_law_due" (.cons (.var 4) (.cons (.var 1) (.cons (.var 2) .nil)))) .nil))))) (.cons (.ret (.bl false))
    .nil) .nil)
    .nil)))
    (ρ := [.dat (.scr ns), .own (A.map .int), .own (B.map .int), .dat (.int sh), .un])
    (fun j ρ => ∃ s, ρ = [.dat (.scr ns), .own (A.map .int), .own (B.map .int), .dat (.int sh), s]) ⟨_, rfl⟩ (fun j ρ hj ⟨s, e⟩ => by
      subst e
      have z : (0 : Int) + (j : Int) = (j : Int) := Int.zero_add _
      have hd : (j : Int) = 0 ∨ (j : Int) = 1 := by omega
      have h1 := ho _ hd
      have h2 := du _ hd
      refine ⟨[.dat (.scr ns), .own (A.map .int), .own (B.map .int), .dat (.int sh), .dat (.int (j : Int))], .inl ?_, _, rfl⟩
      repeat (first | simp -implicitDefEqProofs only [z, h1, h2, mm, ft] | walk_at "ev"))
  repeat (first | simp -implicitDefEqProofs only [e1] | walk_at "ev")

end QL

end
set_option maxRecDepth 100000
set_option maxHeartbeats 4000000
namespace QL
open PySem PySem.Spec PyProof.Rows L2 Evl
theorem all_mk {l : PySem.W.OpenLaw} {w : World} {K : PySem.W.Frag} {h : Heap} {mg : Str → Option Value} {fa f0 f1 f2 f3 f4 f5 f6 f7 f8 f9 f10 : Addr} (X : K.In h) (G : h.Ns mainGlobals mg) (hfa : mg "law" = some (.ref fa))
    {od0 an0 od1 an1 od2 an2 od3 an3 od4 an4 od5 an5 od6 an6 od7 an7 od8 an8 od9 an9 od10 an10 : Option Addr} {sl0 sl1 sl2 sl3 sl4 sl5 sl6 sl7 sl8 sl9 sl10 : Array (Option Value)} {oc0 kV0 dc0 pm0 cd0 ct0 oc1 kV1 dc1 pm1 cd1 ct1 oc2 kV2 dc2 pm2 cd2 ct2 oc3 kV3 dc3 pm3 cd3 ct3 oc4 kV4 dc4 pm4 cd4 ct4 oc5 kV5 dc5 pm5 cd5 ct5 oc6 kV6 dc6 pm6 cd6 ct6 oc7 kV7 dc7 pm7 cd7 ct7 oc8 kV8 dc8 pm8 cd8 ct8 oc9 kV9 dc9 pm9 cd9 ct9 oc10 kV10 dc10 pm10 cd10 ct10 : Value}
    (a0 : PySem.W.nsIn K mainGlobals "sum_merge" = some (some (.ref f0))) (l0 : K.lookup f0 = some ⟨oc0, od0, .func (PySem.W.fnOf "sum_merge" "sum_merge" (defArgs s_sum_merge) (defBody s_sum_merge) (defScope s_sum_merge) .none kV0 dc0 pm0 an0 cd0 ct0), sl0⟩) (c0 : PySem.W.codeIn K cd0 "sum_merge" = true) (k0 : PySem.W.keepIn K (.ref f0) = true)
    (a1 : PySem.W.nsIn K mainGlobals "least_merge" = some (some (.ref f1))) (l1 : K.lookup f1 = some ⟨oc1, od1, .func (PySem.W.fnOf "least_merge" "least_merge" (defArgs s_least_merge) (defBody s_least_merge) (defScope s_least_merge) .none kV1 dc1 pm1 an1 cd1 ct1), sl1⟩) (c1 : PySem.W.codeIn K cd1 "least_merge" = true) (k1 : PySem.W.keepIn K (.ref f1) = true)
    (a2 : PySem.W.nsIn K mainGlobals "shared_out" = some (some (.ref f2))) (l2 : K.lookup f2 = some ⟨oc2, od2, .func (PySem.W.fnOf "shared_out" "shared_out" (defArgs s_shared_out) (defBody s_shared_out) (defScope s_shared_out) .none kV2 dc2 pm2 an2 cd2 ct2), sl2⟩) (c2 : PySem.W.codeIn K cd2 "shared_out" = true) (k2 : PySem.W.keepIn K (.ref f2) = true)
    (a3 : PySem.W.nsIn K mainGlobals "_law_draw" = some (some (.ref f3))) (l3 : K.lookup f3 = some ⟨oc3, od3, .func (PySem.W.fnOf "_law_draw" "_law_draw" (defArgs s__law_draw) (defBody s__law_draw) (defScope s__law_draw) .none kV3 dc3 pm3 an3 cd3 ct3), sl3⟩) (c3 : PySem.W.codeIn K cd3 "_law_draw" = true) (k3 : PySem.W.keepIn K (.ref f3) = true)
    (a4 : PySem.W.nsIn K mainGlobals "_law_big" = some (some (.ref f4))) (l4 : K.lookup f4 = some ⟨oc4, od4, .func (PySem.W.fnOf "_law_big" "_law_big" (defArgs s__law_big) (defBody s__law_big) (defScope s__law_big) .none kV4 dc4 pm4 an4 cd4 ct4), sl4⟩) (c4 : PySem.W.codeIn K cd4 "_law_big" = true) (k4 : PySem.W.keepIn K (.ref f4) = true)
    (a5 : PySem.W.nsIn K mainGlobals "_law_profile" = some (some (.ref f5))) (l5 : K.lookup f5 = some ⟨oc5, od5, .func (PySem.W.fnOf "_law_profile" "_law_profile" (defArgs s__law_profile) (defBody s__law_profile) (defScope s__law_profile) .none kV5 dc5 pm5 an5 cd5 ct5), sl5⟩) (c5 : PySem.W.codeIn K cd5 "_law_profile" = true) (k5 : PySem.W.keepIn K (.ref f5) = true)
    (a6 : PySem.W.nsIn K mainGlobals "_law_due" = some (some (.ref f6))) (l6 : K.lookup f6 = some ⟨oc6, od6, .func (PySem.W.fnOf "_law_due" "_law_due" (defArgs s__law_due) (defBody s__law_due) (defScope s__law_due) .none kV6 dc6 pm6 an6 cd6 ct6), sl6⟩) (c6 : PySem.W.codeIn K cd6 "_law_due" = true) (k6 : PySem.W.keepIn K (.ref f6) = true)
    (a7 : PySem.W.nsIn K mainGlobals "_law_merge" = some (some (.ref f7))) (l7 : K.lookup f7 = some ⟨oc7, od7, .func (PySem.W.fnOf "_law_merge" "_law_merge" (defArgs s__law_merge) (defBody s__law_merge) (defScope s__law_merge) .none kV7 dc7 pm7 an7 cd7 ct7), sl7⟩) (c7 : PySem.W.codeIn K cd7 "_law_merge" = true) (k7 : PySem.W.keepIn K (.ref f7) = true)
    (a8 : PySem.W.nsIn K mainGlobals "_law_fits" = some (some (.ref f8))) (l8 : K.lookup f8 = some ⟨oc8, od8, .func (PySem.W.fnOf "_law_fits" "_law_fits" (defArgs s__law_fits) (defBody s__law_fits) (defScope s__law_fits) .none kV8 dc8 pm8 an8 cd8 ct8), sl8⟩) (c8 : PySem.W.codeIn K cd8 "_law_fits" = true) (k8 : PySem.W.keepIn K (.ref f8) = true)
    (a9 : PySem.W.nsIn K mainGlobals "_law_holds" = some (some (.ref f9))) (l9 : K.lookup f9 = some ⟨oc9, od9, .func (PySem.W.fnOf "_law_holds" "_law_holds" (defArgs s__law_holds) (defBody s__law_holds) (defScope s__law_holds) .none kV9 dc9 pm9 an9 cd9 ct9), sl9⟩) (c9 : PySem.W.codeIn K cd9 "_law_holds" = true) (k9 : PySem.W.keepIn K (.ref f9) = true)
    (a10 : PySem.W.nsIn K mainGlobals "law" = some (some (.ref f10))) (l10 : K.lookup f10 = some ⟨oc10, od10, .func (PySem.W.fnOf "law" "law" (defArgs s_law) (defBody s_law) (defScope s_law) .none kV10 dc10 pm10 an10 cd10 ct10), sl10⟩) (c10 : PySem.W.codeIn K cd10 "law" = true) (k10 : PySem.W.keepIn K (.ref f10) = true)
    (z_len : PySem.W.nsIn K mainGlobals "len" = some none)
    (z_int : PySem.W.nsIn K mainGlobals "int" = some none)
    (z_sum : PySem.W.nsIn K mainGlobals "sum" = some none)
    (z_any : PySem.W.nsIn K mainGlobals "any" = some none)
    (z_all : PySem.W.nsIn K mainGlobals "all" = some none)
    (z_list : PySem.W.nsIn K mainGlobals "list" = some none)
    (z_tuple : PySem.W.nsIn K mainGlobals "tuple" = some none)
    (z_max : PySem.W.nsIn K mainGlobals "max" = some none)
    (z_min : PySem.W.nsIn K mainGlobals "min" = some none)
    (z_isinstance : PySem.W.nsIn K mainGlobals "isinstance" = some none)
    (z_bool : PySem.W.nsIn K mainGlobals "bool" = some none)
    (z_str : PySem.W.nsIn K mainGlobals "str" = some none)
    (z_dict : PySem.W.nsIn K mainGlobals "dict" = some none)
    (z_range : PySem.W.nsIn K mainGlobals "range" = some none)
    (z_sorted : PySem.W.nsIn K mainGlobals "sorted" = some none)
    : ∃ fd : FuncData, (∀ (s : Shared) (v : Value), BindsTo s fd ⟨[v], []⟩ [("_law_script", v)]) ∧ ∀ base : Heap, K.In base → base.Ns mainGlobals mg → FnOk l.prog w K mg base (L2.CX l.prog w) 8 fa fd p_law (SpE K (evF T 8 "law")) := by
  have e := hfa.symm.trans (PySem.W.mg_of X G a10)
  cases e
  have F0 := fun_mk (st := s_sum_merge) l0 c0 k0
  have F1 := fun_mk (st := s_least_merge) l1 c1 k1
  have F2 := fun_mk (st := s_shared_out) l2 c2 k2
  have F3 := fun_mk (st := s__law_draw) l3 c3 k3
  have F4 := fun_mk (st := s__law_big) l4 c4 k4
  have F5 := fun_mk (st := s__law_profile) l5 c5 k5
  have F6 := fun_mk (st := s__law_due) l6 c6 k6
  have F7 := fun_mk (st := s__law_merge) l7 c7 k7
  have F8 := fun_mk (st := s__law_fits) l8 c8 k8
  have F9 := fun_mk (st := s__law_holds) l9 c9 k9
  have F10 := fun_mk (st := s_law) l10 c10 k10
  have hb : ∀ y ∈ bNames, y ∉ T.map (·.1) → mg y = none := by
    intro y hy _
    simp only [bNames, List.mem_cons, List.not_mem_nil, or_false] at hy
    rcases hy with rfl | rfl | rfl | rfl | rfl | rfl | rfl | rfl | rfl | rfl | rfl | rfl | rfl | rfl | rfl
    · exact PySem.W.mg_none_of X G z_len
    · exact PySem.W.mg_none_of X G z_int
    · exact PySem.W.mg_none_of X G z_sum
    · exact PySem.W.mg_none_of X G z_any
    · exact PySem.W.mg_none_of X G z_all
    · exact PySem.W.mg_none_of X G z_list
    · exact PySem.W.mg_none_of X G z_tuple
    · exact PySem.W.mg_none_of X G z_max
    · exact PySem.W.mg_none_of X G z_min
    · exact PySem.W.mg_none_of X G z_isinstance
    · exact PySem.W.mg_none_of X G z_bool
    · exact PySem.W.mg_none_of X G z_str
    · exact PySem.W.mg_none_of X G z_dict
    · exact PySem.W.mg_none_of X G z_range
    · exact PySem.W.mg_none_of X G z_sorted
  have hT : ∀ g ∈ T.map (·.1), ∃ ps, DefAt K mg T g ps := by
    intro g hg
    simp only [T, List.map_cons, List.map_nil, List.mem_cons, List.not_mem_nil, or_false] at hg
    rcases hg with rfl | rfl | rfl | rfl | rfl | rfl | rfl | rfl | rfl | rfl | rfl
    · exact ⟨p_sum_merge, s_sum_merge, f0, _, N_sum_merge, 100, c_sum_merge, F0, sc_sum_merge, PySem.W.mg_of X G a0, k0, F0.binds (ps := p_sum_merge) (fun _ _ _ _ _ _ us hl => match us, hl with | [_, _], _ => rfl), t_sum_merge, rfl⟩
    · exact ⟨p_least_merge, s_least_merge, f1, _, N_least_merge, 100, c_least_merge, F1, sc_least_merge, PySem.W.mg_of X G a1, k1, F1.binds (ps := p_least_merge) (fun _ _ _ _ _ _ us hl => match us, hl with | [_, _], _ => rfl), t_least_merge, rfl⟩
    · exact ⟨p_shared_out, s_shared_out, f2, _, N_shared_out, 100, c_shared_out, F2, sc_shared_out, PySem.W.mg_of X G a2, k2, F2.binds (ps := p_shared_out) (fun _ _ _ _ _ _ us hl => match us, hl with | [_, _, _], _ => rfl), t_shared_out, rfl⟩
    · exact ⟨p__law_draw, s__law_draw, f3, _, N__law_draw, 100, c__law_draw, F3, sc__law_draw, PySem.W.mg_of X G a3, k3, F3.binds (ps := p__law_draw) (fun _ _ _ _ _ _ us hl => match us, hl with | [_, _, _, _], _ => rfl), t__law_draw, rfl⟩
    · exact ⟨p__law_big, s__law_big, f4, _, N__law_big, 100, c__law_big, F4, sc__law_big, PySem.W.mg_of X G a4, k4, F4.binds (ps := p__law_big) (fun _ _ _ _ _ _ us hl => match us, hl with | [_, _, _, _], _ => rfl), t__law_big, rfl⟩
    · exact ⟨p__law_profile, s__law_profile, f5, _, N__law_profile, 100, c__law_profile, F5, sc__law_profile, PySem.W.mg_of X G a5, k5, F5.binds (ps := p__law_profile) (fun _ _ _ _ _ _ us hl => match us, hl with | [_, _], _ => rfl), t__law_profile, rfl⟩
    · exact ⟨p__law_due, s__law_due, f6, _, N__law_due, 100, c__law_due, F6, sc__law_due, PySem.W.mg_of X G a6, k6, F6.binds (ps := p__law_due) (fun _ _ _ _ _ _ us hl => match us, hl with | [_, _, _], _ => rfl), t__law_due, rfl⟩
    · exact ⟨p__law_merge, s__law_merge, f7, _, N__law_merge, 100, c__law_merge, F7, sc__law_merge, PySem.W.mg_of X G a7, k7, F7.binds (ps := p__law_merge) (fun _ _ _ _ _ _ us hl => match us, hl with | [_, _, _], _ => rfl), t__law_merge, rfl⟩
    · exact ⟨p__law_fits, s__law_fits, f8, _, N__law_fits, 100, c__law_fits, F8, sc__law_fits, PySem.W.mg_of X G a8, k8, F8.binds (ps := p__law_fits) (fun _ _ _ _ _ _ us hl => match us, hl with | [_, _], _ => rfl), t__law_fits, rfl⟩
    · exact ⟨p__law_holds, s__law_holds, f9, _, N__law_holds, 100, c__law_holds, F9, sc__law_holds, PySem.W.mg_of X G a9, k9, F9.binds (ps := p__law_holds) (fun _ _ _ _ _ _ us hl => match us, hl with | [_, _, _, _], _ => rfl), t__law_holds, rfl⟩
    · exact ⟨p_law, s_law, fa, _, N_law, 100, c_law, F10, sc_law, PySem.W.mg_of X G a10, k10, F10.binds (ps := p_law) (fun _ _ _ _ _ _ us hl => match us, hl with | [_], _ => rfl), t_law, rfl⟩
  refine ⟨PySem.W.fnOf "law" "law" (defArgs s_law) (defBody s_law) (defScope s_law) .none kV10 dc10 pm10 an10 cd10 ct10, fun s v => .of_eq rfl, fun base _ _ => ?_⟩
  exact law_ok (k := 7) hT hb (by decide) F10 sc_law t_law rfl
end QL
open PySem PySem.W PyProof.Rows
set_option maxHeartbeats 0 in
theorem PySem.Challenge.cw_everyfuture_k18_merges_holds : PySem.Challenge.rw_everyfuture_k18_merges.Holds := by
  w_on; o_law; k_head; (case hw => w_witness2)
  k_fill
  refine L2.walk_of (l := PySem.Challenge.rw_everyfuture_k18_merges) (n := 63) (k := 8) (x := "_law_script") (CX := fun w => L2.CX PySem.Challenge.rw_everyfuture_k18_merges.prog w) (sp := fun w => QL.SpE _ (QL.evF QL.T 8 "law")) rfl (by decide) rfl ⟨rfl, by decide, by decide⟩ (fun w h Y => PySem.W.kIn_of Y) ?F (fun w H a ns hl _ hS => QL.law_sp hS (QL.law_true ns hl) fun v H' e => e) (fun _ _ _ _ _ h => by obtain ⟨_, _, _, _, _, _, _, _, _, _, _, _, z⟩ := h; exact z)
  case F =>
    intro w mg fa h KX G hmg
    refine' QL.all_mk KX G hmg ?a0 ?l0 ?c0 ?k0 ?a1 ?l1 ?c1 ?k1 ?a2 ?l2 ?c2 ?k2 ?a3 ?l3 ?c3 ?k3 ?a4 ?l4 ?c4 ?k4 ?a5 ?l5 ?c5 ?k5 ?a6 ?l6 ?c6 ?k6 ?a7 ?l7 ?c7 ?k7 ?a8 ?l8 ?c8 ?k8 ?a9 ?l9 ?c9 ?k9 ?a10 ?l10 ?c10 ?k10 ?z_len ?z_int ?z_sum ?z_any ?z_all ?z_list ?z_tuple ?z_max ?z_min ?z_isinstance ?z_bool ?z_str ?z_dict ?z_range ?z_sorted
    (case a0 => k_is); (case l0 => k_is); (case c0 => k_is); (case k0 => k_is); (case a1 => k_is); (case l1 => k_is); (case c1 => k_is); (case k1 => k_is); (case a2 => k_is); (case l2 => k_is); (case c2 => k_is); (case k2 => k_is); (case a3 => k_is); (case l3 => k_is); (case c3 => k_is); (case k3 => k_is); (case a4 => k_is); (case l4 => k_is); (case c4 => k_is); (case k4 => k_is); (case a5 => k_is); (case l5 => k_is); (case c5 => k_is); (case k5 => k_is); (case a6 => k_is); (case l6 => k_is); (case c6 => k_is); (case k6 => k_is); (case a7 => k_is); (case l7 => k_is); (case c7 => k_is); (case k7 => k_is); (case a8 => k_is); (case l8 => k_is); (case c8 => k_is); (case k8 => k_is); (case a9 => k_is); (case l9 => k_is); (case c9 => k_is); (case k9 => k_is); (case a10 => k_is); (case l10 => k_is); (case c10 => k_is); (case k10 => k_is); (case z_len => k_is); (case z_int => k_is); (case z_sum => k_is); (case z_any => k_is); (case z_all => k_is); (case z_list => k_is); (case z_tuple => k_is); (case z_max => k_is); (case z_min => k_is); (case z_isinstance => k_is); (case z_bool => k_is); (case z_str => k_is); (case z_dict => k_is); (case z_range => k_is); (case z_sorted => k_is)
