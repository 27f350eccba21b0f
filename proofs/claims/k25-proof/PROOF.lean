import PyProof.Rows.All
import Wide.All
import OpenK.AllK
import Wide.FinOn
import HandS.ForMost
import HandS.ForExc
import HandS.Evl
import HandS.IsInst
import HandS.Wide
import HandS.SortRule
import HandS.Conv
import HandS.Exc
import HandS.Style
import HandS.More
import HandS.ExcOwn
import HandS.MakeKw
import HandS.AnyAll
import HandS.WordsExc
import PyProof.TupleOfSeq
import HandS.ExcInit
import HandS.Star
import HandS.ExcIs
import HandS.Iter
import KE.GoesMore
import HandS.TupAny
import PyProof.ReprRoads
import HandS.Gcd
import HandS.Deep
import HandS.Ends
import HandS.Dict
import HandS.ListEq
import HandS.Flow
import KE.KEqDict
import PySem.Challenge.RW_everyfuture_k25_sections
set_option Elab.async false
set_option linter.all false
section
set_option maxRecDepth 100000
set_option maxHeartbeats 4000000
/-! sorted(xs) of pairs of ints, xs a list or a tuple -/
namespace SrtO
open PySem PyProof.Rows Srt
section
variable {prog : Program} {w : World} {A : Around} {E : Value → Shared → Prop} {s : Shared}
theorem sorted_pairsS {l : Addr} {o : Obj} {n : Nat} {T : String} {vs : List Value} {k : Value → Int × Int} {Q : Value → Shared → Prop} (hT : T = "list" ∨ T = "tuple") (ho : s.heap.get? l = some o) (hc : o.cls = .type T) (hd : o.data = .seq vs.toArray n)
    (hz : vs.length ≤ sizeLine) (hp : ∀ v ∈ vs, IsPair s.heap v (k v).1 (k v).2)
    (h : ∀ (h' : Heap) (d : Addr) (out : List Value), Srtd (fun v u => lexB (k v) (k u)) out → Stb (fun v u => lexB (k v) (k u)) out vs → (∃ h1 : Heap, (∀ b o, s.heap.get? b = some o → h1.get? b = some o) ∧ (∀ b o, h1.get? b = some o → h'.get? b = some o) ∧ h1.objs.size ≤ d) → (∃ n, h'.get? d = some (seqObj "list" out.toArray n)) → Q (.ref d) { s with heap := h' }) :
    wpAny (model prog w) A (call (.builtin "sorted") [.ref l]) Q E s := by
  refine Calls.call_function_entry kind_sorted plain_sorted entry_sorted (args_sorted1 _) ?_
  unfold Builtin.«sorted»
  refine wpAny_bind (m := checkCount "sorted" 1 1 _) (wpAny_pure ?_)
  refine wpAny_bind (wpAny_collect_seq l hT ho hc hd (fun h1 keep => ?_) (by rw [List.size_toArray]; exact hz))
  refine wpAny_bind (wpAny_newList ?_ (by simpa using hz))
  have e0 : vs.toArray.toList = vs := by simp
  rw [e0]
  have hoL : (h1.push (seqObj "list" vs.toArray 0)).get? h1.objs.size = some (seqObj "list" vs.toArray 0) := Heap.get?_push_size _ rfl
  have keep2 : ∀ b o, s.heap.get? b = some o → (h1.push (seqObj "list" vs.toArray 0)).get? b = some o := fun b o q => Heap.get?_push_of_some _ (keep b o q)
  show wpAny _ _ _ _ _ { s with heap := h1.push (seqObj "list" vs.toArray 0) }
  refine wpAny_bind (wpAny_holding (wpAny_call_entry slot_list_sort ⟨_, hoL, rfl⟩ entry_list_sort (list_sort_ord (s := { s with heap := h1.push (seqObj "list" vs.toArray 0) }) (swo_lex k) hoL hz (fun h2 => ?_) fun out hs hb => ⟨_, rfl, ?_⟩) (args_list_sort _)))
  · refine pairs_sortableO (by omega) (fun v hv => (hp v hv).keeps fun b o e _ => keep2 b o e) fun o e => ?_
    have e' : some o = some (seqObj "list" vs.toArray 0) := e.symm.trans hoL
    cases e'
    intro c
    exact absurd (Value.type.inj c) (by decide)
  · refine wpAny_pure ⟨_, rfl, ?_⟩
    refine h _ _ out hs hb ⟨h1, keep, fun b o e => ?_, Nat.le_refl _⟩ (sortedHeap_at hoL)
    have hlt : b < h1.objs.size := Heap.lt_size e
    rw [sortedHeap_old (Nat.ne_of_lt hlt) (by rw [size_push']; exact Nat.lt_succ_of_lt hlt)]
    exact Heap.get?_push_of_some _ e
end
end SrtO
namespace L2
open PySem PySem.Spec PyProof.Rows
def rSortedPS (K : PySem.W.Frag) : List V → Hp → VK → Prop := fun vs H Q => ∃ (a : Addr) (xs : List V) (k : V → Int × Int), vs = [V.ref a] ∧ (SqL K H a xs ∨ SqT K H a xs) ∧ (∀ x ∈ xs, ∃ t, x = V.ref t ∧ H t = some (.tup [.int (k x).1, .int (k x).2])) ∧
  ∀ ys p, SrtO.Srtd (ltP k) ys → SrtO.Stb (ltP k) ys xs → H p = none → Q (.ref p) (upd H p (.lst ys))
section
variable {X : Cx}
theorem cr_sortedPS : CallR X (.builtin "sorted") (rSortedPS X.K) := by
  intro pins s σ H vs us Q I r h
  obtain ⟨a, xs, k, rfl, hs, hx, q⟩ := h
  obtain ⟨u, rfl, ru⟩ := vals1 r
  obtain rfl : u = Value.ref a := ru
  obtain ⟨its, T, o, n, rv, hT, ho, hc, hd, hz⟩ : ∃ (its : List Value) (T : String) (o : Obj) (n : Nat), Vals xs its ∧ (T = "list" ∨ T = "tuple") ∧ s.heap.get? a = some o ∧ o.cls = .type T ∧ o.data = .seq its.toArray n ∧ xs.length ≤ sizeLine := by
    rcases hs with hs | hs
    · obtain ⟨its, rv, hl, hz⟩ := I.list hs
      obtain ⟨o, ho, hc, n, hd⟩ := hl.isList
      exact ⟨its, "list", o, n, rv, .inl rfl, ho, hc, hd, hz⟩
    · obtain ⟨its, rv, hl, hz⟩ := I.tuple hs
      obtain ⟨o, ho, hc, n, hd⟩ := hl
      exact ⟨its, "tuple", o, n, rv, .inr rfl, ho, hc, hd, hz⟩
  obtain ⟨e1, e2⟩ := refs_back rv fun x m => by
    obtain ⟨t, e, _⟩ := hx x m
    exact ⟨t, e⟩
  refine SrtO.sorted_pairsS (k := fun u => k (backV u)) hT ho hc hd (by rw [← rv.length]; exact hz) (fun v hv => ?_) fun h' d out h1 h2 kp hn => ?_
  · obtain ⟨t, rfl⟩ := e2 v hv
    have hm : V.ref t ∈ xs := by rw [e1]; exact List.mem_map.mpr ⟨_, hv, rfl⟩
    obtain ⟨t', e, ht⟩ := hx _ hm
    cases e
    obtain ⟨_, its2, r2, o, ho, hc, n, hd⟩ := I.hok _ _ ht
    obtain ⟨u1, u2, rfl, ri, rj⟩ := vals2 r2
    obtain ⟨t1, rfl⟩ := ri
    obtain ⟨t2, rfl⟩ := rj
    exact ⟨t, o, t1, t2, n, rfl, ho, hc, hd⟩
  · have h3 : ∀ u ∈ out, ∃ a, u = Value.ref a := fun u hu => e2 u (h2.perm.mem_iff.mp hu)
    obtain ⟨n, hn⟩ := hn
    obtain ⟨hm, k1, k2, hd⟩ := kp
    have I1 : Inv X pins σ H { s with heap := hm } := I.kept (t' := s.toks) k1
    have hb : SrtO.Stb (ltP k) (out.map backV) xs := by
      rw [e1]
      exact SrtO.Stb.map (ltP_swo k) backV h2
    refine ⟨.ref d, upd H d (.lst (out.map backV)), I1.laid (t' := s.toks) k2 hd ⟨?_, out, n, vals_back h3, hn⟩, rfl, q _ d (SrtO.srtd_map h1) hb (I1.hok.fresh hd)⟩
    rw [hb.len]
    exact hz
end
end L2

end
section
set_option maxRecDepth 100000
set_option maxHeartbeats 2000000
/-! PL: data without the heap: what expressions are worth, how statements run, over slots that hold data. -/
namespace QL
open PySem PySem.Spec PyProof.Rows L2 Evl

inductive D where
  | non | bl (b : Bool) | int (i : Int) | str (x : Str)
  | lst (ds : List D) | tup (ds : List D)
  | scr (ns : List Int)
  /-- an instance of the class at C that is changed no more: its attributes -/
  | obj (C : Addr) (ns : List Str) (ds : List D)
  /-- a dict: its keys in order, what they give -/
  | dic (ks : List Key) (ds : List D)
  /-- a dict whose keys are tuples -/
  | dit (ks : List (List Key)) (ds : List D)

mutual
inductive Dt (K : PySem.W.Frag) (H : Hp) : V → D → Prop where
  | non : Dt K H .non .non
  | bl (b : Bool) : Dt K H (.bl b) (.bl b)
  | int (i : Int) : Dt K H (.int i) (.int i)
  | str (x : Str) : Dt K H (.str x) (.str x)
  | scr {a : Addr} {ns : List Int} : SqL K H a (ns.map V.int) → Dt K H (.ref a) (.scr ns)
  | lst {a : Addr} {xs : List V} {ds : List D} : H a = some (.lst xs) → DtA K H xs ds → Dt K H (.ref a) (.lst ds)
  | tup {a : Addr} {xs : List V} {ds : List D} : H a = some (.tup xs) → DtA K H xs ds → Dt K H (.ref a) (.tup ds)
  | obj {a C dx : Addr} {ns : List Str} {xs : List V} {ds : List D} : H a = some (.ins C dx (ns.zip xs)) → xs.length = ns.length → DtA K H xs ds → Dt K H (.ref a) (.obj C ns ds)
  | dic {a : Addr} {ks : List Key} {xs : List V} {ds : List D} : H a = some (.dK (ks.zip xs)) → xs.length = ks.length → DtA K H xs ds → Dt K H (.ref a) (.dic ks ds)
  | dit {a : Addr} {ks : List (List Key)} {xs : List V} {ds : List D} : H a = some (.dT (ks.zip xs)) → xs.length = ks.length → DtA K H xs ds → Dt K H (.ref a) (.dit ks ds)
inductive DtA (K : PySem.W.Frag) (H : Hp) : List V → List D → Prop where
  | nil : DtA K H [] []
  | cons {v : V} {d : D} {vs : List V} {ds : List D} : Dt K H v d → DtA K H vs ds → DtA K H (v :: vs) (d :: ds)
end
section
variable {K : PySem.W.Frag} {H H' : Hp}
mutual
theorem Dt.mono (e : Ex H H') : ∀ {v : V} {d : D}, Dt K H v d → Dt K H' v d
  | _, _, .non => .non
  | _, _, .bl b => .bl b
  | _, _, .int b => .int b
  | _, _, .str b => .str b
  | _, _, .scr h => .scr (ex_l e h)
  | _, _, .lst h q => .lst (e _ _ h) (DtA.mono e q)
  | _, _, .tup h q => .tup (e _ _ h) (DtA.mono e q)
  | _, _, .obj h l q => .obj (e _ _ h) l (DtA.mono e q)
  | _, _, .dic h l q => .dic (e _ _ h) l (DtA.mono e q)
  | _, _, .dit h l q => .dit (e _ _ h) l (DtA.mono e q)
theorem DtA.mono (e : Ex H H') : ∀ {vs : List V} {ds : List D}, DtA K H vs ds → DtA K H' vs ds
  | _, _, .nil => .nil
  | _, _, .cons h q => .cons (Dt.mono e h) (DtA.mono e q)
end
theorem DtA.len : ∀ {vs : List V} {ds : List D}, DtA K H vs ds → vs.length = ds.length
  | _, _, .nil => rfl
  | _, _, .cons _ q => by simp [q.len]
theorem DtA.get : ∀ {vs : List V} {ds : List D} {i : Nat} {d : D}, DtA K H vs ds → ds[i]? = some d → ∃ v, vs[i]? = some v ∧ Dt K H v d
  | _, _, _, _, .nil, e => by simp at e
  | _, _, 0, _, .cons h _, e => by simp at e; subst e; exact ⟨_, rfl, h⟩
  | _, _, i + 1, d, .cons _ q, e => by
    obtain ⟨v, h1, h2⟩ := q.get (i := i) (d := d) (by simpa using e)
    exact ⟨v, by simpa using h1, h2⟩
theorem DtA.append : ∀ {vs ws : List V} {ds es : List D}, DtA K H vs ds → DtA K H ws es → DtA K H (vs ++ ws) (ds ++ es)
  | _, _, _, _, .nil, q => q
  | _, _, _, _, .cons h t, q => .cons h (DtA.append t q)
theorem DtA.one {v : V} {d : D} (h : Dt K H v d) : DtA K H [v] [d] := .cons h .nil
theorem DtA.set {v : V} {d : D} (r : Dt K H v d) : ∀ {vs : List V} {ds : List D} (i : Nat), DtA K H vs ds → DtA K H (vs.set i v) (ds.set i d)
  | _, _, _, .nil => .nil
  | _, _, 0, .cons _ t => .cons r t
  | _, _, i + 1, .cons q t => .cons q (DtA.set r i t)
theorem DtA.erase : ∀ {vs : List V} {ds : List D} (i : Nat), DtA K H vs ds → DtA K H (vs.eraseIdx i) (ds.eraseIdx i)
  | _, _, _, .nil => .nil
  | _, _, 0, .cons _ t => t
  | _, _, i + 1, .cons q t => .cons q (DtA.erase i t)
theorem DtA.ints : ∀ (ns : List Int), DtA K H (ns.map V.int) (ns.map D.int)
  | [] => .nil
  | n :: r => .cons (.int n) (DtA.ints r)
theorem DtA.ints_inv : ∀ {vs : List V} {ns : List Int}, DtA K H vs (ns.map D.int) → vs = ns.map V.int
  | _, [], h => by cases h; rfl
  | _, n :: r, h => by
    cases h with
    | cons a b =>
      cases a
      rw [DtA.ints_inv b]
      rfl
theorem Dt.int_inv {v : V} {i : Int} (h : Dt K H v (.int i)) : v = .int i := by cases h; rfl
theorem Dt.bl_inv {v : V} {i : Bool} (h : Dt K H v (.bl i)) : v = .bl i := by cases h; rfl
theorem Dt.lst_inv {v : V} {ds : List D} (h : Dt K H v (.lst ds)) : ∃ a xs, v = .ref a ∧ H a = some (.lst xs) ∧ DtA K H xs ds := by
  cases h with
  | lst h q => exact ⟨_, _, rfl, h, q⟩
theorem Dt.tup_inv {v : V} {ds : List D} (h : Dt K H v (.tup ds)) : ∃ a xs, v = .ref a ∧ H a = some (.tup xs) ∧ DtA K H xs ds := by
  cases h with
  | tup h q => exact ⟨_, _, rfl, h, q⟩
theorem Dt.obj_inv {v : V} {C : Addr} {ns : List Str} {ds : List D} (h : Dt K H v (.obj C ns ds)) : ∃ a dx xs, v = .ref a ∧ H a = some (.ins C dx (ns.zip xs)) ∧ xs.length = ns.length ∧ DtA K H xs ds := by
  cases h with
  | obj h l q => exact ⟨_, _, _, rfl, h, l, q⟩
theorem Dt.dic_inv {v : V} {ks : List Key} {ds : List D} (h : Dt K H v (.dic ks ds)) : ∃ a xs, v = .ref a ∧ H a = some (.dK (ks.zip xs)) ∧ xs.length = ks.length ∧ DtA K H xs ds := by
  cases h with
  | dic h l q => exact ⟨_, _, rfl, h, l, q⟩
theorem Dt.dit_inv {v : V} {ks : List (List Key)} {ds : List D} (h : Dt K H v (.dit ks ds)) : ∃ a xs, v = .ref a ∧ H a = some (.dT (ks.zip xs)) ∧ xs.length = ks.length ∧ DtA K H xs ds := by
  cases h with
  | dit h l q => exact ⟨_, _, rfl, h, l, q⟩
theorem Dt.scr_inv {v : V} {ns : List Int} (h : Dt K H v (.scr ns)) : ∃ a, v = .ref a ∧ SqL K H a (ns.map V.int) := by
  cases h with
  | scr h => exact ⟨_, rfl, h⟩
end


/-! ### data that may be changed by others -/
mutual
/-- nothing in it can be changed -/
def imm : D → Bool
  | .lst _ => false
  | .dic _ _ => false
  | .dit _ _ => false
  | .tup ds => immA ds
  | _ => true
def immA : List D → Bool
  | [] => true
  | d :: ds => imm d && immA ds
end
mutual
/-- v stands for d: what can't be changed lies in F, the rest in F or P -/
inductive DtM (K : PySem.W.Frag) (P F : Hp) : V → D → Prop where
  | fz {v : V} {d : D} : Dt K F v d → DtM K P F v d
  | lst {a : Addr} {xs : List V} {ds : List D} : P a = some (.lst xs) → DtMA K P F xs ds → DtM K P F (.ref a) (.lst ds)
  | tup {a : Addr} {xs : List V} {ds : List D} : imm (.tup ds) = false → P a = some (.tup xs) → DtMA K P F xs ds → DtM K P F (.ref a) (.tup ds)
  | dic {a : Addr} {ks : List Key} {xs : List V} {ds : List D} : P a = some (.dK (ks.zip xs)) → xs.length = ks.length → DtMA K P F xs ds → DtM K P F (.ref a) (.dic ks ds)
  | dit {a : Addr} {ks : List (List Key)} {xs : List V} {ds : List D} : P a = some (.dT (ks.zip xs)) → xs.length = ks.length → DtMA K P F xs ds → DtM K P F (.ref a) (.dit ks ds)
inductive DtMA (K : PySem.W.Frag) (P F : Hp) : List V → List D → Prop where
  | nil : DtMA K P F [] []
  | cons {v : V} {d : D} {vs : List V} {ds : List D} : DtM K P F v d → DtMA K P F vs ds → DtMA K P F (v :: vs) (d :: ds)
end
section
variable {K : PySem.W.Frag} {P P' F F' H : Hp}
mutual
theorem DtM.mono (a : Ex P P') (b : Ex F F') : ∀ {v : V} {d : D}, DtM K P F v d → DtM K P' F' v d
  | _, _, .fz h => .fz (h.mono b)
  | _, _, .lst h q => .lst (a _ _ h) (DtMA.mono a b q)
  | _, _, .tup i h q => .tup i (a _ _ h) (DtMA.mono a b q)
  | _, _, .dic h l q => .dic (a _ _ h) l (DtMA.mono a b q)
  | _, _, .dit h l q => .dit (a _ _ h) l (DtMA.mono a b q)
theorem DtMA.mono (a : Ex P P') (b : Ex F F') : ∀ {vs : List V} {ds : List D}, DtMA K P F vs ds → DtMA K P' F' vs ds
  | _, _, .nil => .nil
  | _, _, .cons h q => .cons (DtM.mono a b h) (DtMA.mono a b q)
end
theorem DtMA.len : ∀ {vs : List V} {ds : List D}, DtMA K P F vs ds → vs.length = ds.length
  | _, _, .nil => rfl
  | _, _, .cons _ q => by simp [q.len]
theorem DtMA.get : ∀ {vs : List V} {ds : List D} {i : Nat} {d : D}, DtMA K P F vs ds → ds[i]? = some d → ∃ v, vs[i]? = some v ∧ DtM K P F v d
  | _, _, _, _, .nil, e => by simp at e
  | _, _, 0, _, .cons h _, e => by simp at e; subst e; exact ⟨_, rfl, h⟩
  | _, _, i + 1, d, .cons _ q, e => by
    obtain ⟨v, h1, h2⟩ := q.get (i := i) (d := d) (by simpa using e)
    exact ⟨v, by simpa using h1, h2⟩
theorem DtMA.get2 {vs : List V} {ds : List D} {i : Nat} {v : V} {d : D} (h : DtMA K P F vs ds) (a : vs[i]? = some v) (b : ds[i]? = some d) : DtM K P F v d := by
  obtain ⟨v', h1, h2⟩ := h.get b
  rw [a] at h1; cases h1; exact h2
theorem DtMA.append : ∀ {vs ws : List V} {ds es : List D}, DtMA K P F vs ds → DtMA K P F ws es → DtMA K P F (vs ++ ws) (ds ++ es)
  | _, _, _, _, .nil, q => q
  | _, _, _, _, .cons h t, q => .cons h (DtMA.append t q)
theorem DtA.m : ∀ {vs : List V} {ds : List D}, DtA K F vs ds → DtMA K P F vs ds
  | _, _, .nil => .nil
  | _, _, .cons h q => .cons (.fz h) (DtA.m q)
theorem DtM.imm {v : V} {d : D} (i : imm d = true) (h : DtM K P F v d) : Dt K F v d := by
  cases h with
  | fz h => exact h
  | lst _ _ => simp [QL.imm] at i
  | tup j _ _ => rw [i] at j; cases j
  | dic _ _ _ => simp [QL.imm] at i
  | dit _ _ _ => simp [QL.imm] at i
theorem DtMA.imm : ∀ {vs : List V} {ds : List D}, immA ds = true → DtMA K P F vs ds → DtA K F vs ds
  | _, _, _, .nil => .nil
  | _, _, i, .cons h q => by
    simp [immA] at i
    exact .cons (h.imm i.1) (DtMA.imm i.2 q)
theorem DtM.emp {v : V} {d : D} (h : DtM K (fun _ => none) F v d) : Dt K F v d := by
  cases h with
  | fz h => exact h
  | lst h _ => cases h
  | tup _ h _ => cases h
  | dic h _ _ => cases h
  | dit h _ _ => cases h
theorem DtMA.emp : ∀ {vs : List V} {ds : List D}, DtMA K (fun _ => none) F vs ds → DtA K F vs ds
  | _, _, .nil => .nil
  | _, _, .cons h q => .cons h.emp (DtMA.emp q)
theorem DtM.int_inv {v : V} {i : Int} (h : DtM K P F v (.int i)) : v = .int i := (h.imm rfl).int_inv
theorem DtM.bl_inv {v : V} {i : Bool} (h : DtM K P F v (.bl i)) : v = .bl i := (h.imm rfl).bl_inv
theorem DtM.non_inv {v : V} (h : DtM K P F v .non) : v = .non := by cases h.imm rfl; rfl
theorem DtM.str_inv {v : V} {x : Str} (h : DtM K P F v (.str x)) : v = .str x := by cases h.imm rfl; rfl
theorem DtM.lst_inv {v : V} {ds : List D} (a : Ex P H) (b : Ex F H) (h : DtM K P F v (.lst ds)) : ∃ p xs, v = .ref p ∧ H p = some (.lst xs) ∧ DtMA K P F xs ds := by
  cases h with
  | fz h =>
    obtain ⟨p, xs, e, h1, h2⟩ := h.lst_inv
    exact ⟨p, xs, e, b _ _ h1, h2.m⟩
  | lst h q => exact ⟨_, _, rfl, a _ _ h, q⟩
theorem DtM.tup_inv {v : V} {ds : List D} (a : Ex P H) (b : Ex F H) (h : DtM K P F v (.tup ds)) : ∃ p xs, v = .ref p ∧ H p = some (.tup xs) ∧ DtMA K P F xs ds := by
  cases h with
  | fz h =>
    obtain ⟨p, xs, e, h1, h2⟩ := h.tup_inv
    exact ⟨p, xs, e, b _ _ h1, h2.m⟩
  | tup _ h q => exact ⟨_, _, rfl, a _ _ h, q⟩
theorem DtM.scr_inv {v : V} {ns : List Int} (b : Ex F H) (h : DtM K P F v (.scr ns)) : ∃ a, v = .ref a ∧ SqL K H a (ns.map V.int) := by
  obtain ⟨a, e, h1⟩ := (h.imm rfl).scr_inv
  exact ⟨a, e, ex_l b h1⟩
theorem DtM.obj_inv {v : V} {C : Addr} {ns : List Str} {ds : List D} (h : DtM K P F v (.obj C ns ds)) : ∃ a dx xs, v = .ref a ∧ F a = some (.ins C dx (ns.zip xs)) ∧ xs.length = ns.length ∧ DtA K F xs ds := (h.imm rfl).obj_inv
theorem DtM.dic_inv {v : V} {ks : List Key} {ds : List D} (a : Ex P H) (b : Ex F H) (h : DtM K P F v (.dic ks ds)) : ∃ p xs, v = .ref p ∧ H p = some (.dK (ks.zip xs)) ∧ xs.length = ks.length ∧ DtMA K P F xs ds := by
  cases h with
  | fz h =>
    obtain ⟨p, xs, e, h1, l, h2⟩ := h.dic_inv
    exact ⟨p, xs, e, b _ _ h1, l, h2.m⟩
  | dic h l q => exact ⟨_, _, rfl, a _ _ h, l, q⟩
theorem DtM.dit_inv {v : V} {ks : List (List Key)} {ds : List D} (a : Ex P H) (b : Ex F H) (h : DtM K P F v (.dit ks ds)) : ∃ p xs, v = .ref p ∧ H p = some (.dT (ks.zip xs)) ∧ xs.length = ks.length ∧ DtMA K P F xs ds := by
  cases h with
  | fz h =>
    obtain ⟨p, xs, e, h1, l, h2⟩ := h.dit_inv
    exact ⟨p, xs, e, b _ _ h1, l, h2.m⟩
  | dit h l q => exact ⟨_, _, rfl, a _ _ h, l, q⟩
end

/-! ### growing -/
abbrev Emp : Hp := fun _ => none
theorem ex_emp (H : Hp) : Ex Emp H := fun _ _ h => nomatch h
structure Grow (Hf H Hf' H' : Hp) : Prop where
  f : Ex Hf Hf'
  i : Ex Hf' H'
  h : Ex H H'
  n : ∀ p, Hf p = none → H p ≠ none → Hf' p = none
theorem ex_some {H H' : Hp} (e : Ex H H') {p : Addr} (h : H p ≠ none) : H' p ≠ none := by
  cases q : H p with
  | none => exact absurd q h
  | some o => rw [e _ _ q]; exact fun z => nomatch z
theorem Grow.refl {Hf H : Hp} (e : Ex Hf H) : Grow Hf H Hf H := ⟨Ex.refl _, e, Ex.refl _, fun _ h _ => h⟩
theorem Grow.trans {Hf H Hf1 H1 Hf2 H2 : Hp} (a : Grow Hf H Hf1 H1) (b : Grow Hf1 H1 Hf2 H2) : Grow Hf H Hf2 H2 :=
  ⟨a.f.trans b.f, b.i, a.h.trans b.h, fun p h1 h2 => b.n p (a.n p h1 h2) (ex_some a.h h2)⟩
theorem Grow.up {Hf H H' : Hp} (a : Ex Hf H) (b : Ex H H') : Grow Hf H Hf H' := ⟨Ex.refl _, a.trans b, b, fun _ h _ => h⟩
/-- a new object, in the frame and out of it -/
theorem Grow.new {Hf H : Hp} (a : Ex Hf H) {p : Addr} {o : HO} (h : H p = none) : Grow Hf H (upd Hf p o) (upd H p o) :=
  ⟨Ex.new (fresh_back a h), fun b u e => by
    by_cases hb : b = p
    · subst hb; rw [upd_same] at e ⊢; exact e
    · rw [upd_ne hb] at e ⊢; exact a _ _ e, Ex.new h, fun q h1 h2 => by
    rw [upd_ne (fun z => h2 (by rw [z]; exact h))]; exact h1⟩
theorem Grow.newO {Hf H : Hp} (a : Ex Hf H) {p : Addr} {o : HO} (h : H p = none) : Grow Hf H Hf (upd H p o) := Grow.up a (Ex.new h)
/-- a new list put into the frame -/
theorem Grow.freeze {Hf H Hf' H' : Hp} (g : Grow Hf H Hf' H') {p : Addr} {o : HO} (hn : H p = none) (hf : Hf' p = none) (h : H' p = some o) : Grow Hf H (upd Hf' p o) H' :=
  ⟨g.f.trans (Ex.new hf), fun b u e => by
    by_cases hb : b = p
    · subst hb; rw [upd_same] at e; rw [← e]; exact h
    · rw [upd_ne hb] at e; exact g.i _ _ e, g.h, fun q h1 h2 => by
    rw [upd_ne (fun z => h2 (by rw [z]; exact hn))]; exact g.n q h1 h2⟩
/-- two fragments together -/
def both (A B : Hp) : Hp := fun p => match A p with | some o => some o | none => B p
theorem both_l {A B : Hp} : Ex A (both A B) := fun p o h => by unfold both; rw [h]
theorem both_none {A B : Hp} {p : Addr} (a : A p = none) (b : B p = none) : both A B p = none := by unfold both; rw [a]; exact b
theorem Grow.join {Hf H Hn H' : Hp} (a : Ex Hf H) (g : Grow Emp H Hn H') : Grow Hf H (both Hf Hn) H' ∧ Ex Hn (both Hf Hn) := by
  refine ⟨⟨both_l, fun p o h => ?_, g.h, fun p h1 h2 => both_none h1 (g.n p rfl h2)⟩, fun p o h => ?_⟩
  · unfold both at h
    cases q : Hf p with
    | some u => rw [q] at h; rw [← h]; exact g.h _ _ (a _ _ q)
    | none => rw [q] at h; exact g.i _ _ h
  · unfold both
    cases q : Hf p with
    | none => exact h
    | some u =>
      have := g.n p rfl (by rw [a _ _ q]; exact fun z => nomatch z)
      rw [this] at h; cases h

/-! ### errors that fly -/
/-- an error: its class, its fields (the last one stored first) -/
structure Er where
  C : Addr
  ns : List Str
  ds : List D
/-- its dict, if it has fields, lies in the frame -/
inductive ErAt (K : PySem.W.Frag) (Hf : Hp) (x : Er) : Option Addr → Prop where
  | bare : x.ns = [] → x.ds = [] → ErAt K Hf x none
  | dict {dx : Addr} {vs : List V} : vs.length = x.ns.length → Hf dx = some (.xd (x.ns.zip vs)) → DtA K Hf vs x.ds → ErAt K Hf x (some dx)
theorem ErAt.mono {K : PySem.W.Frag} {Hf Hf' : Hp} {x : Er} {d : Option Addr} (e : Ex Hf Hf') (h : ErAt K Hf x d) : ErAt K Hf' x d := by
  cases h with
  | bare a b => exact .bare a b
  | dict a b c => exact .dict a (e _ _ b) (c.mono e)

/-! ### slots -/
inductive Sl where
  | un | dat (d : D) | bor (d : D) | own (ds : List D) | err (a : Addr) (d : Option Addr) (x : Er) | ownD (ks : List Key) (ds : List D) | ownT (ks : List (List Key)) (ds : List D) | slf (p dx C : Addr) (ns : List Str) (ds : List D)
def Sl.mine : Sl → Bool
  | .own _ => true | .ownD _ _ => true | .ownT _ _ => true | .slf _ _ _ _ _ => true | _ => false
inductive SlOk (K : PySem.W.Frag) (B Hf H : Hp) : Option V → Sl → Prop where
  | un (o : Option V) : SlOk K B Hf H o .un
  | dat {v : V} {d : D} : Dt K Hf v d → SlOk K B Hf H (some v) (.dat d)
  | bor {v : V} {d : D} : DtM K B Hf v d → SlOk K B Hf H (some v) (.bor d)
  | own {p : Addr} {xs : List V} {ds : List D} : Hf p = none → B p = none → H p = some (.lst xs) → DtA K Hf xs ds → SlOk K B Hf H (some (.ref p)) (.own ds)
  | err {a : Addr} {d : Option Addr} {x : Er} : ErAt K Hf x d → SlOk K B Hf H (some (.ref a)) (.err a d x)
  | ownD {p : Addr} {ks : List Key} {xs : List V} {ds : List D} : Hf p = none → B p = none → H p = some (.dK (ks.zip xs)) → xs.length = ks.length → DtA K Hf xs ds → SlOk K B Hf H (some (.ref p)) (.ownD ks ds)
  | ownT {p : Addr} {ks : List (List Key)} {xs : List V} {ds : List D} : Hf p = none → B p = none → H p = some (.dT (ks.zip xs)) → xs.length = ks.length → DtA K Hf xs ds → SlOk K B Hf H (some (.ref p)) (.ownT ks ds)
  | slf {p C dx : Addr} {ns : List Str} {xs : List V} {ds : List D} : Hf p = none → B p = none → H p = some (.ins C dx (ns.zip xs)) → xs.length = ns.length → DtA K Hf xs ds → SlOk K B Hf H (some (.ref p)) (.slf p dx C ns ds)
/-- slot i holds an owned thing, at p -/
def Own1 (σ : L2.St) (ρ : List Sl) (i : Nat) (p : Addr) : Prop := σ[i]? = some (some (.ref p)) ∧ ∃ s, ρ[i]? = some s ∧ s.mine = true
structure EnvOk (K : PySem.W.Frag) (B Hf H : Hp) (σ : L2.St) (ρ : List Sl) : Prop where
  eb : Ex B H
  ef : Ex Hf H
  len : σ.length = ρ.length
  sl : ∀ (i : Nat) o s, σ[i]? = some o → ρ[i]? = some s → SlOk K B Hf H o s
  dis : ∀ (i j : Nat) p, i ≠ j → Own1 σ ρ i p → Own1 σ ρ j p → False
section
variable {K : PySem.W.Frag} {B Hf H Hf' H' : Hp} {σ : L2.St} {ρ : List Sl}
theorem SlOk.grow {o : Option V} {s : Sl} (h : SlOk K B Hf H o s) (g : Grow Hf H Hf' H') : SlOk K B Hf' H' o s := by
  cases h with
  | un => exact .un _
  | dat h => exact .dat (h.mono g.f)
  | bor h => exact .bor (h.mono (Ex.refl _) g.f)
  | own a b c d => exact .own (g.n _ a (by rw [c]; exact fun z => nomatch z)) b (g.h _ _ c) (d.mono g.f)
  | err h => exact .err (h.mono g.f)
  | ownD a b c l d => exact .ownD (g.n _ a (by rw [c]; exact fun z => nomatch z)) b (g.h _ _ c) l (d.mono g.f)
  | ownT a b c l d => exact .ownT (g.n _ a (by rw [c]; exact fun z => nomatch z)) b (g.h _ _ c) l (d.mono g.f)
  | slf a b c l d => exact .slf (g.n _ a (by rw [c]; exact fun z => nomatch z)) b (g.h _ _ c) l (d.mono g.f)
theorem EnvOk.grow (e : EnvOk K B Hf H σ ρ) (g : Grow Hf H Hf' H') : EnvOk K B Hf' H' σ ρ :=
  ⟨e.eb.trans g.h, g.i, e.len, fun i o s h1 h2 => (e.sl i o s h1 h2).grow g, e.dis⟩
theorem EnvOk.at (e : EnvOk K B Hf H σ ρ) {i : Nat} {s : Sl} (h : ρ[i]? = some s) : ∃ o, σ[i]? = some o ∧ SlOk K B Hf H o s := by
  have hl : i < σ.length := by rw [e.len]; exact (List.getElem?_eq_some_iff.mp h).1
  exact ⟨_, List.getElem?_eq_getElem hl, e.sl i _ s (List.getElem?_eq_getElem hl) h⟩
theorem EnvOk.dat (e : EnvOk K B Hf H σ ρ) {i : Nat} {d : D} (h : ρ[i]? = some (.dat d)) : ∃ v, σ[i]? = some (some v) ∧ Dt K Hf v d := by
  obtain ⟨o, h1, h2⟩ := e.at h
  cases h2 with
  | dat q => exact ⟨_, h1, q⟩
theorem EnvOk.bor (e : EnvOk K B Hf H σ ρ) {i : Nat} {d : D} (h : ρ[i]? = some (.bor d)) : ∃ v, σ[i]? = some (some v) ∧ DtM K B Hf v d := by
  obtain ⟨o, h1, h2⟩ := e.at h
  cases h2 with
  | bor q => exact ⟨_, h1, q⟩
theorem EnvOk.err (e : EnvOk K B Hf H σ ρ) {i : Nat} {a : Addr} {d : Option Addr} {x : Er} (h : ρ[i]? = some (.err a d x)) : σ[i]? = some (some (.ref a)) ∧ ErAt K Hf x d := by
  obtain ⟨o, h1, h2⟩ := e.at h
  cases h2 with
  | err q => exact ⟨h1, q⟩
theorem EnvOk.own (e : EnvOk K B Hf H σ ρ) {i : Nat} {ds : List D} (h : ρ[i]? = some (.own ds)) : ∃ p xs, σ[i]? = some (some (.ref p)) ∧ Hf p = none ∧ B p = none ∧ H p = some (.lst xs) ∧ DtA K Hf xs ds := by
  obtain ⟨o, h1, h2⟩ := e.at h
  cases h2 with
  | own a b c d => exact ⟨_, _, h1, a, b, c, d⟩
theorem EnvOk.ownD (e : EnvOk K B Hf H σ ρ) {i : Nat} {ks : List Key} {ds : List D} (h : ρ[i]? = some (.ownD ks ds)) : ∃ p xs, σ[i]? = some (some (.ref p)) ∧ Hf p = none ∧ B p = none ∧ H p = some (.dK (ks.zip xs)) ∧ xs.length = ks.length ∧ DtA K Hf xs ds := by
  obtain ⟨o, h1, h2⟩ := e.at h
  cases h2 with
  | ownD a b c l d => exact ⟨_, _, h1, a, b, c, l, d⟩
theorem EnvOk.ownT (e : EnvOk K B Hf H σ ρ) {i : Nat} {ks : List (List Key)} {ds : List D} (h : ρ[i]? = some (.ownT ks ds)) : ∃ p xs, σ[i]? = some (some (.ref p)) ∧ Hf p = none ∧ B p = none ∧ H p = some (.dT (ks.zip xs)) ∧ xs.length = ks.length ∧ DtA K Hf xs ds := by
  obtain ⟨o, h1, h2⟩ := e.at h
  cases h2 with
  | ownT a b c l d => exact ⟨_, _, h1, a, b, c, l, d⟩
theorem EnvOk.slf (e : EnvOk K B Hf H σ ρ) {i : Nat} {p dx C : Addr} {ns : List Str} {ds : List D} (h : ρ[i]? = some (.slf p dx C ns ds)) : ∃ xs, σ[i]? = some (some (.ref p)) ∧ Hf p = none ∧ B p = none ∧ H p = some (.ins C dx (ns.zip xs)) ∧ xs.length = ns.length ∧ DtA K Hf xs ds := by
  obtain ⟨o, h1, h2⟩ := e.at h
  cases h2 with
  | slf a b c l d => exact ⟨_, h1, a, b, c, l, d⟩
theorem EnvOk.mine (e : EnvOk K B Hf H σ ρ) {i : Nat} {p : Addr} (h : Own1 σ ρ i p) : Hf p = none ∧ B p = none ∧ H p ≠ none := by
  obtain ⟨h1, s, h2, h3⟩ := h
  have q := e.sl i _ s h1 h2
  cases q with
  | own a b c d => exact ⟨a, b, by rw [c]; exact fun z => nomatch z⟩
  | ownD a b c l d => exact ⟨a, b, by rw [c]; exact fun z => nomatch z⟩
  | ownT a b c l d => exact ⟨a, b, by rw [c]; exact fun z => nomatch z⟩
  | slf a b c l d => exact ⟨a, b, by rw [c]; exact fun z => nomatch z⟩
  | un _ => cases h3
  | dat _ => cases h3
  | bor _ => cases h3
  | err _ => cases h3
theorem own1_set {i j : Nat} {o : Option V} {s : Sl} {p : Addr} (hj : i ≠ j) (h : Own1 (σ.set i o) (ρ.set i s) j p) : Own1 σ ρ j p := by
  obtain ⟨h1, s', h2, h3⟩ := h
  rw [List.getElem?_set_ne hj] at h1 h2
  exact ⟨h1, s', h2, h3⟩
theorem own1_at {i : Nat} {o : Option V} {s : Sl} {p : Addr} (h : Own1 (σ.set i o) (ρ.set i s) i p) : o = some (.ref p) ∧ s.mine = true := by
  obtain ⟨h1, s', h2, h3⟩ := h
  have hl : i < σ.length := by simpa using (List.getElem?_eq_some_iff.mp h1).1
  have hl2 : i < ρ.length := by simpa using (List.getElem?_eq_some_iff.mp h2).1
  rw [List.getElem?_set_self hl] at h1
  rw [List.getElem?_set_self hl2] at h2
  cases h1; cases h2
  exact ⟨rfl, h3⟩
/-- one slot anew; what is owned is owned by no other slot -/
theorem EnvOk.put_any (e : EnvOk K B Hf H σ ρ) (i : Nat) {o : Option V} {s : Sl} (h : SlOk K B Hf H o s) (hn : ∀ (j : Nat) p, j ≠ i → o = some (.ref p) → s.mine = true → Own1 σ ρ j p → False) : EnvOk K B Hf H (σ.set i o) (ρ.set i s) := by
  refine ⟨e.eb, e.ef, by simp [e.len], fun j o' s' h1 h2 => ?_, fun j k p hjk h1 h2 => ?_⟩
  · by_cases hj : i = j
    · subst hj
      have hl : i < σ.length := by
        have := (List.getElem?_eq_some_iff.mp h1).1
        simpa using this
      rw [List.getElem?_set_self hl] at h1
      rw [List.getElem?_set_self (by rw [← e.len]; exact hl)] at h2
      cases h1; cases h2; exact h
    · rw [List.getElem?_set_ne hj] at h1 h2
      exact e.sl j _ _ h1 h2
  · by_cases hj : i = j
    · subst hj
      obtain ⟨a, b⟩ := own1_at h1
      exact hn k p (Ne.symm hjk) a b (own1_set hjk h2)
    · by_cases hk : i = k
      · subst hk
        obtain ⟨a, b⟩ := own1_at h2
        exact hn j p hjk a b (own1_set hj h1)
      · exact e.dis j k p hjk (own1_set hj h1) (own1_set hk h2)
theorem EnvOk.put (e : EnvOk K B Hf H σ ρ) (i : Nat) {o : Option V} {s : Sl} (h : SlOk K B Hf H o s) (hn : s.mine = false) : EnvOk K B Hf H (σ.set i o) (ρ.set i s) :=
  e.put_any i h fun j p _ _ hm => by rw [hn] at hm; cases hm
theorem EnvOk.put_dat (e : EnvOk K B Hf H σ ρ) (i : Nat) {v : V} {d : D} (h : Dt K Hf v d) : EnvOk K B Hf H (σ.set i (some v)) (ρ.set i (.dat d)) := e.put i (.dat h) rfl
theorem EnvOk.put_bor (e : EnvOk K B Hf H σ ρ) (i : Nat) {v : V} {d : D} (h : DtM K B Hf v d) : EnvOk K B Hf H (σ.set i (some v)) (ρ.set i (.bor d)) := e.put i (.bor h) rfl
theorem EnvOk.put_err (e : EnvOk K B Hf H σ ρ) (i : Nat) {a : Addr} {d : Option Addr} {x : Er} (h : ErAt K Hf x d) : EnvOk K B Hf H (σ.set i (some (.ref a))) (ρ.set i (.err a d x)) := e.put i (.err h) rfl
theorem EnvOk.put_un (e : EnvOk K B Hf H σ ρ) (i : Nat) (o : Option V) : EnvOk K B Hf H (σ.set i o) (ρ.set i .un) := e.put i (.un o) rfl
/-- an owned list, an owned dict that no other slot has -/
theorem EnvOk.put_own (e : EnvOk K B Hf H σ ρ) (i : Nat) {p : Addr} {xs : List V} {ds : List D} (hf : Hf p = none) (hb : B p = none) (h : H p = some (.lst xs)) (hd : DtA K Hf xs ds)
    (hn : ∀ (j : Nat), j ≠ i → Own1 σ ρ j p → False) : EnvOk K B Hf H (σ.set i (some (.ref p))) (ρ.set i (.own ds)) :=
  e.put_any i (.own hf hb h hd) fun j q hj ho _ o1 => hn j hj (by cases ho; exact o1)
theorem EnvOk.put_ownD (e : EnvOk K B Hf H σ ρ) (i : Nat) {p : Addr} {ks : List Key} {xs : List V} {ds : List D} (hf : Hf p = none) (hb : B p = none) (h : H p = some (.dK (ks.zip xs))) (hl : xs.length = ks.length) (hd : DtA K Hf xs ds)
    (hn : ∀ (j : Nat), j ≠ i → Own1 σ ρ j p → False) : EnvOk K B Hf H (σ.set i (some (.ref p))) (ρ.set i (.ownD ks ds)) :=
  e.put_any i (.ownD hf hb h hl hd) fun j q hj ho _ o1 => hn j hj (by cases ho; exact o1)
theorem EnvOk.put_ownT (e : EnvOk K B Hf H σ ρ) (i : Nat) {p : Addr} {ks : List (List Key)} {xs : List V} {ds : List D} (hf : Hf p = none) (hb : B p = none) (h : H p = some (.dT (ks.zip xs))) (hl : xs.length = ks.length) (hd : DtA K Hf xs ds)
    (hn : ∀ (j : Nat), j ≠ i → Own1 σ ρ j p → False) : EnvOk K B Hf H (σ.set i (some (.ref p))) (ρ.set i (.ownT ks ds)) :=
  e.put_any i (.ownT hf hb h hl hd) fun j q hj ho _ o1 => hn j hj (by cases ho; exact o1)
theorem ne_own {i j : Nat} {p q : Addr} (e : EnvOk K B Hf H σ ρ) (hij : i ≠ j) (a : Own1 σ ρ i p) (b : Own1 σ ρ j q) : p ≠ q := fun z => e.dis i j p hij a (by rw [z]; exact b)
/-- the owned thing at slot i is changed -/
theorem EnvOk.mutAny (e : EnvOk K B Hf H σ ρ) {i : Nat} {p : Addr} {s' : Sl} {u : HO} (ho : Own1 σ ρ i p) (hm : s'.mine = true) (hs : SlOk K B Hf (upd H p u) (some (.ref p)) s') : EnvOk K B Hf (upd H p u) σ (ρ.set i s') := by
  obtain ⟨h2, h3, _⟩ := e.mine ho
  have hl : i < ρ.length := (List.getElem?_eq_some_iff.mp ho.2.choose_spec.1).1
  have back : ∀ {j : Nat} {q : Addr}, Own1 σ (ρ.set i s') j q → Own1 σ ρ j q := fun {j q} h => by
    by_cases hj : i = j
    · subst hj
      obtain ⟨a, _⟩ := h
      obtain ⟨b, c⟩ := ho
      exact ⟨a, c⟩
    · obtain ⟨a, s, b, c⟩ := h
      rw [List.getElem?_set_ne hj] at b
      exact ⟨a, s, b, c⟩
  refine ⟨Ex.mut e.eb h3, Ex.mut e.ef h2, by simp [e.len], fun j o' s g1 g2 => ?_, fun j k q hjk g1 g2 => e.dis j k q hjk (back g1) (back g2)⟩
  by_cases hj : i = j
  · subst hj
    rw [List.getElem?_set_self hl] at g2
    rw [ho.1] at g1
    cases g1; cases g2; exact hs
  · rw [List.getElem?_set_ne hj] at g2
    have q := e.sl j _ _ g1 g2
    cases q with
    | un => exact .un _
    | dat h => exact .dat h
    | bor h => exact .bor h
    | err h => exact .err h
    | @own p2 xs2 es2 a b c d =>
      refine .own a b ?_ d
      rw [upd_ne (Ne.symm (ne_own e hj ho ⟨g1, _, g2, rfl⟩))]
      exact c
    | @ownD p2 ks2 xs2 es2 a b c l d =>
      refine .ownD a b ?_ l d
      rw [upd_ne (Ne.symm (ne_own e hj ho ⟨g1, _, g2, rfl⟩))]
      exact c
    | @ownT p2 ks2 xs2 es2 a b c l d =>
      refine .ownT a b ?_ l d
      rw [upd_ne (Ne.symm (ne_own e hj ho ⟨g1, _, g2, rfl⟩))]
      exact c
    | @slf p2 C2 dx2 ns2 xs2 es2 a b c l d =>
      refine .slf a b (dx := dx2) ?_ l d
      rw [upd_ne (Ne.symm (ne_own e hj ho ⟨g1, _, g2, rfl⟩))]
      exact c
theorem EnvOk.mut (e : EnvOk K B Hf H σ ρ) {i : Nat} {p : Addr} {ds ds' : List D} {ys : List V} (hi : ρ[i]? = some (.own ds)) (hs : σ[i]? = some (some (.ref p))) (hd : DtA K Hf ys ds') : EnvOk K B Hf (upd H p (.lst ys)) σ (ρ.set i (.own ds')) := by
  have ho : Own1 σ ρ i p := ⟨hs, _, hi, rfl⟩
  obtain ⟨h2, h3, _⟩ := e.mine ho
  exact e.mutAny ho rfl (.own h2 h3 upd_same hd)
theorem EnvOk.mutD (e : EnvOk K B Hf H σ ρ) {i : Nat} {p : Addr} {ks ks' : List Key} {ds ds' : List D} {ys : List V} (hi : ρ[i]? = some (.ownD ks ds)) (hs : σ[i]? = some (some (.ref p))) (hl : ys.length = ks'.length) (hd : DtA K Hf ys ds') : EnvOk K B Hf (upd H p (.dK (ks'.zip ys))) σ (ρ.set i (.ownD ks' ds')) := by
  have ho : Own1 σ ρ i p := ⟨hs, _, hi, rfl⟩
  obtain ⟨h2, h3, _⟩ := e.mine ho
  exact e.mutAny ho rfl (.ownD h2 h3 upd_same hl hd)
theorem EnvOk.mutT (e : EnvOk K B Hf H σ ρ) {i : Nat} {p : Addr} {ks ks' : List (List Key)} {ds ds' : List D} {ys : List V} (hi : ρ[i]? = some (.ownT ks ds)) (hs : σ[i]? = some (some (.ref p))) (hl : ys.length = ks'.length) (hd : DtA K Hf ys ds') : EnvOk K B Hf (upd H p (.dT (ks'.zip ys))) σ (ρ.set i (.ownT ks' ds')) := by
  have ho : Own1 σ ρ i p := ⟨hs, _, hi, rfl⟩
  obtain ⟨h2, h3, _⟩ := e.mine ho
  exact e.mutAny ho rfl (.ownT h2 h3 upd_same hl hd)
/-- an owned thing is owned no longer -/
theorem EnvOk.freezeAny (e : EnvOk K B Hf H σ ρ) {i : Nat} {p : Addr} {u : HO} {d : D} (ho : Own1 σ ρ i p) (hu : H p = some u) (hd : Dt K (upd Hf p u) (.ref p) d) : EnvOk K B (upd Hf p u) H σ (ρ.set i (.dat d)) := by
  obtain ⟨h2, h3, _⟩ := e.mine ho
  have hl : i < ρ.length := (List.getElem?_eq_some_iff.mp ho.2.choose_spec.1).1
  have hx : Ex Hf (upd Hf p u) := Ex.new h2
  have back : ∀ {j : Nat} {q : Addr}, Own1 σ (ρ.set i (.dat d)) j q → i ≠ j ∧ Own1 σ ρ j q := fun {j q} h => by
    by_cases hj : i = j
    · subst hj
      obtain ⟨a, s, b, c⟩ := h
      rw [List.getElem?_set_self hl] at b
      cases b
      cases c
    · obtain ⟨a, s, b, c⟩ := h
      rw [List.getElem?_set_ne hj] at b
      exact ⟨hj, a, s, b, c⟩
  refine ⟨e.eb, fun b w q => ?_, by simp [e.len], fun j o' s' g1 g2 => ?_, fun j k q hjk g1 g2 => e.dis j k q hjk (back g1).2 (back g2).2⟩
  · by_cases hb : b = p
    · subst hb; rw [upd_same] at q; rw [← q]; exact hu
    · rw [upd_ne hb] at q; exact e.ef _ _ q
  · by_cases hj : i = j
    · subst hj
      rw [List.getElem?_set_self hl] at g2
      rw [ho.1] at g1
      cases g1; cases g2; exact .dat hd
    · rw [List.getElem?_set_ne hj] at g2
      have q := e.sl j _ _ g1 g2
      cases q with
      | un => exact .un _
      | dat h => exact .dat (h.mono hx)
      | bor h => exact .bor (h.mono (Ex.refl _) hx)
      | err h => exact .err (h.mono hx)
      | @own p2 xs2 es2 a b c d =>
        refine .own ?_ b c (d.mono hx)
        rw [upd_ne (Ne.symm (ne_own e hj ho ⟨g1, _, g2, rfl⟩))]
        exact a
      | @ownD p2 ks2 xs2 es2 a b c l d =>
        refine .ownD ?_ b c l (d.mono hx)
        rw [upd_ne (Ne.symm (ne_own e hj ho ⟨g1, _, g2, rfl⟩))]
        exact a
      | @ownT p2 ks2 xs2 es2 a b c l d =>
        refine .ownT ?_ b c l (d.mono hx)
        rw [upd_ne (Ne.symm (ne_own e hj ho ⟨g1, _, g2, rfl⟩))]
        exact a
      | @slf p2 C2 dx2 ns2 xs2 es2 a b c l d =>
        refine .slf ?_ b c l (d.mono hx)
        rw [upd_ne (Ne.symm (ne_own e hj ho ⟨g1, _, g2, rfl⟩))]
        exact a
theorem EnvOk.freeze (e : EnvOk K B Hf H σ ρ) {i : Nat} {ds : List D} (hi : ρ[i]? = some (.own ds)) : ∃ p xs, B p = none ∧ Hf p = none ∧ EnvOk K B (upd Hf p (.lst xs)) H σ (ρ.set i (.dat (.lst ds))) := by
  obtain ⟨p, xs, h1, h2, h3, h4, h5⟩ := e.own hi
  exact ⟨p, xs, h3, h2, e.freezeAny ⟨h1, _, hi, rfl⟩ h4 (.lst upd_same (h5.mono (Ex.new h2)))⟩
theorem EnvOk.freezeD (e : EnvOk K B Hf H σ ρ) {i : Nat} {ks : List Key} {ds : List D} (hi : ρ[i]? = some (.ownD ks ds)) : ∃ p xs, B p = none ∧ Hf p = none ∧ EnvOk K B (upd Hf p (.dK (ks.zip xs))) H σ (ρ.set i (.dat (.dic ks ds))) := by
  obtain ⟨p, xs, h1, h2, h3, h4, hl, h5⟩ := e.ownD hi
  exact ⟨p, xs, h3, h2, e.freezeAny ⟨h1, _, hi, rfl⟩ h4 (.dic upd_same hl (h5.mono (Ex.new h2)))⟩
theorem EnvOk.freezeT (e : EnvOk K B Hf H σ ρ) {i : Nat} {ks : List (List Key)} {ds : List D} (hi : ρ[i]? = some (.ownT ks ds)) : ∃ p xs, B p = none ∧ Hf p = none ∧ EnvOk K B (upd Hf p (.dT (ks.zip xs))) H σ (ρ.set i (.dat (.dit ks ds))) := by
  obtain ⟨p, xs, h1, h2, h3, h4, hl, h5⟩ := e.ownT hi
  exact ⟨p, xs, h3, h2, e.freezeAny ⟨h1, _, hi, rfl⟩ h4 (.dit upd_same hl (h5.mono (Ex.new h2)))⟩
end
end QL

end
section
set_option maxRecDepth 100000
set_option maxHeartbeats 2000000
namespace QL
open PySem PySem.Spec PyProof.Rows L2 Evl

/-- how a value hangs: frozen, lent, anywhere, new and ours, ours or somebody's with frozen items -/
inductive Md where | f | b | h | n | o
  deriving DecidableEq
section
variable (K : PySem.W.Frag)
/-- a list, a dict at p with frozen items -/
def Shell (F H : Hp) (p : Addr) (d : D) : Prop := (∃ xs ds, d = .lst ds ∧ H p = some (.lst xs) ∧ DtA K F xs ds) ∨ (∃ ks xs ds, d = .dic ks ds ∧ H p = some (.dK (ks.zip xs)) ∧ xs.length = ks.length ∧ DtA K F xs ds) ∨ ∃ ks xs ds, d = .dit ks ds ∧ H p = some (.dT (ks.zip xs)) ∧ xs.length = ks.length ∧ DtA K F xs ds
/-- v is d in the mode m: B lent, H0 what stood before, F the frame, H the whole -/
def Val (m : Md) (B H0 F H : Hp) (v : V) (d : D) : Prop := match m with
  | .f => Dt K F v d
  | .b => DtM K B F v d
  | .h => DtM K H F v d
  | .n => ∃ p, v = .ref p ∧ F p = none ∧ H0 p = none ∧ Shell K F H p d
  | .o => ∃ p, v = .ref p ∧ Shell K F H p d
end
section
variable {K : PySem.W.Frag} {B H0 H1 F F' H H' : Hp} {v : V} {d : D} {m : Md} {p : Addr}
theorem Shell.mono (a : Ex F F') (b : Ex H H') (h : Shell K F H p d) : Shell K F' H' p d := by
  rcases h with ⟨xs, ds, e, h1, h2⟩ | ⟨ks, xs, ds, e, h1, l, h2⟩ | ⟨ks, xs, ds, e, h1, l, h2⟩
  · exact .inl ⟨xs, ds, e, b _ _ h1, h2.mono a⟩
  · exact .inr (.inl ⟨ks, xs, ds, e, b _ _ h1, l, h2.mono a⟩)
  · exact .inr (.inr ⟨ks, xs, ds, e, b _ _ h1, l, h2.mono a⟩)
theorem Shell.ne (h : Shell K F H p d) : H p ≠ none := by
  rcases h with ⟨xs, ds, e, h1, h2⟩ | ⟨ks, xs, ds, e, h1, l, h2⟩ | ⟨ks, xs, ds, e, h1, l, h2⟩ <;> rw [h1] <;> exact fun z => nomatch z
theorem Shell.dm (h : Shell K F H p d) : DtM K H F (.ref p) d := by
  rcases h with ⟨xs, ds, rfl, h1, h2⟩ | ⟨ks, xs, ds, rfl, h1, l, h2⟩ | ⟨ks, xs, ds, rfl, h1, l, h2⟩
  · exact .lst h1 h2.m
  · exact .dic h1 l h2.m
  · exact .dit h1 l h2.m
theorem Val.grow (g : Grow F H F' H') (h : Val K m B H0 F H v d) : Val K m B H0 F' H' v d := by
  cases m with
  | f => exact Dt.mono g.f h
  | b => exact DtM.mono (Ex.refl _) g.f h
  | h => exact DtM.mono g.h g.f h
  | n =>
    obtain ⟨p, e, h1, h2, h3⟩ := h
    exact ⟨p, e, g.n _ h1 h3.ne, h2, h3.mono g.f g.h⟩
  | o =>
    obtain ⟨p, e, h3⟩ := h
    exact ⟨p, e, h3.mono g.f g.h⟩
theorem Val.back (x : Ex H1 H0) (h : Val K m B H0 F H v d) : Val K m B H1 F H v d := by
  cases m with
  | f => exact h
  | b => exact h
  | h => exact h
  | n =>
    obtain ⟨p, e, h1, h2, h3⟩ := h
    exact ⟨p, e, h1, fresh_back x h2, h3⟩
  | o => exact h
theorem Val.toH (b : Ex B H) (h : Val K m B H0 F H v d) : DtM K H F v d := by
  cases m with
  | f => exact .fz h
  | b => exact DtM.mono b (Ex.refl _) h
  | h => exact h
  | n =>
    obtain ⟨p, rfl, h1, h2, h3⟩ := h
    exact h3.dm
  | o =>
    obtain ⟨p, rfl, h3⟩ := h
    exact h3.dm
end

section
variable (K : PySem.W.Frag)
/-- an expression's worth -/
def EE (te : TE) (ρ : List Sl) (m : Md) (d : D) : Prop := ∀ B F H σ, EnvOk K B F H σ ρ → ∀ Q : VK, (∀ v F' H', Grow F H F' H' → Val K m B H F' H' v d → Q v H') → te σ H Q
/-- arguments, of any kind; frozen ones -/
def EA (ta : TA) (ρ : List Sl) (ds : List D) : Prop := ∀ B F H σ, EnvOk K B F H σ ρ → ∀ Q : List V → Hp → Prop, (∀ vs F' H', Grow F H F' H' → DtMA K H' F' vs ds → Q vs H') → ta σ H Q
def EF (ta : TA) (ρ : List Sl) (ds : List D) : Prop := ∀ B F H σ, EnvOk K B F H σ ρ → ∀ Q : List V → Hp → Prop, (∀ vs F' H', Grow F H F' H' → DtA K F' vs ds → Q vs H') → ta σ H Q
/-- a test -/
def ET (tt : TT) (ρ : List Sl) (b : Bool) : Prop := ∀ B F H σ, EnvOk K B F H σ ρ → ∀ Q : Bool → Hp → Prop, (∀ F' H', Grow F H F' H' → Q b H') → tt σ H Q
/-- an operation upon values: its result -/
def Op2 (rr : R2) (d1 d2 : D) (m : Md) (d : D) : Prop := ∀ B F H x y, Ex B H → Ex F H → DtM K H F x d1 → DtM K H F y d2 → ∀ Q : VK, (∀ v F' H', Grow F H F' H' → Val K m B H F' H' v d → Q v H') → rr x y H Q
def OpA (rr : List V → Hp → VK → Prop) (ds : List D) (m : Md) (d : D) : Prop := ∀ B F H xs, Ex B H → Ex F H → DtMA K H F xs ds → ∀ Q : VK, (∀ v F' H', Grow F H F' H' → Val K m B H F' H' v d → Q v H') → rr xs H Q
end

/-- can be frozen -/
def cf (m : Md) (d : D) : Bool := decide (m = .f) || decide (m = .n) || imm d
/-- the items are frozen -/
def itF (m : Md) (ds : List D) : Bool := decide (m = .f) || decide (m = .n) || decide (m = .o) || immA ds
/-- the mode of an item -/
def ixm (m : Md) : Md := match m with | .f => .f | .n => .f | .o => .f | .b => .b | .h => .h
def nrm (m : Md) (d : D) : Md := if imm d then .f else m

section
variable {K : PySem.W.Frag} {ρ : List Sl} {ta tb te : TE} {m m1 m2 m3 : Md} {d d1 d2 d3 : D} {i : Nat} {rr : R2} {ds es : List D}
theorem EE.to (h : EE K te ρ m d) (e : d = d2) : EE K te ρ m d2 := e ▸ h
theorem EE.h (h : EE K te ρ m d) : EE K te ρ .h d := fun B F H σ e Q q => h B F H σ e Q fun v F' H' g dv => q v F' H' g (dv.toH (e.eb.trans g.h))
theorem EE.imm (i : imm d = true) (h : EE K te ρ m d) : EE K te ρ .f d := fun B F H σ e Q q => h B F H σ e Q fun v F' H' g dv => q v F' H' g ((dv.toH (e.eb.trans g.h)).imm i)
theorem EE.nrm (h : EE K te ρ m d) : EE K te ρ (nrm m d) d := by
  unfold QL.nrm
  split
  · rename_i i; exact h.imm i
  · exact h
theorem Shell.frz {F H : Hp} {p : Addr} (h : Shell K F H p d) (hf : F p = none) : ∃ o, H p = some o ∧ Dt K (upd F p o) (.ref p) d := by
  rcases h with ⟨xs, ds, rfl, h1, h2⟩ | ⟨ks, xs, ds, rfl, h1, l, h2⟩ | ⟨ks, xs, ds, rfl, h1, l, h2⟩
  · exact ⟨_, h1, .lst upd_same (h2.mono (Ex.new hf))⟩
  · exact ⟨_, h1, .dic upd_same l (h2.mono (Ex.new hf))⟩
  · exact ⟨_, h1, .dit upd_same l (h2.mono (Ex.new hf))⟩
theorem EE.fz (h : EE K te ρ .n d) : EE K te ρ .f d := fun B F H σ e Q q => h B F H σ e Q fun v F' H' g dv => by
  obtain ⟨p, rfl, h1, h2, h3⟩ := dv
  obtain ⟨o, e1, e2⟩ := h3.frz h1
  exact q _ _ H' (g.freeze h2 h1 e1) e2
theorem EE.f (c : cf m d = true) (h : EE K te ρ m d) : EE K te ρ .f d := by
  unfold cf at c
  simp only [Bool.or_eq_true, decide_eq_true_eq] at c
  rcases c with (rfl | rfl) | c
  · exact h
  · exact h.fz
  · exact h.imm c
theorem e_var {s : Sl} (h : ρ[i]? = some s) : match s with
    | .dat d => EE K (tVar i) ρ .f d
    | .bor d => EE K (tVar i) ρ .b d
    | .own ds => EE K (tVar i) ρ .o (.lst ds)
    | .ownD ks ds => EE K (tVar i) ρ .o (.dic ks ds)
    | .ownT ks ds => EE K (tVar i) ρ .o (.dit ks ds)
    | _ => True := by
  cases s with
  | un => trivial
  | err _ _ _ => trivial
  | slf _ _ _ _ _ => trivial
  | dat d =>
    intro B F H σ e Q q
    obtain ⟨v, h1, h2⟩ := e.dat h
    exact ⟨v, h1, q v F H (Grow.refl e.ef) h2⟩
  | bor d =>
    intro B F H σ e Q q
    obtain ⟨v, h1, h2⟩ := e.bor h
    exact ⟨v, h1, q v F H (Grow.refl e.ef) h2⟩
  | own ds =>
    intro B F H σ e Q q
    obtain ⟨p, xs, h1, h2, h3, h4, h5⟩ := e.own h
    exact ⟨_, h1, q _ F H (Grow.refl e.ef) ⟨p, rfl, .inl ⟨xs, ds, rfl, h4, h5⟩⟩⟩
  | ownD ks ds =>
    intro B F H σ e Q q
    obtain ⟨p, xs, h1, h2, h3, h4, l, h5⟩ := e.ownD h
    exact ⟨_, h1, q _ F H (Grow.refl e.ef) ⟨p, rfl, .inr (.inl ⟨ks, xs, ds, rfl, h4, l, h5⟩)⟩⟩
  | ownT ks ds =>
    intro B F H σ e Q q
    obtain ⟨p, xs, h1, h2, h3, h4, l, h5⟩ := e.ownT h
    exact ⟨_, h1, q _ F H (Grow.refl e.ef) ⟨p, rfl, .inr (.inr ⟨ks, xs, ds, rfl, h4, l, h5⟩)⟩⟩
theorem e_int {i : Int} : EE K (tC (.int i)) ρ .f (.int i) := fun B F H σ e Q q => q _ F H (Grow.refl e.ef) (.int i)
theorem e_bl {i : Bool} : EE K (tC (.bl i)) ρ .f (.bl i) := fun B F H σ e Q q => q _ F H (Grow.refl e.ef) (.bl i)
theorem e_str {i : Str} : EE K (tC (.str i)) ρ .f (.str i) := fun B F H σ e Q q => q _ F H (Grow.refl e.ef) (.str i)
theorem e_non : EE K (tC .non) ρ .f .non := fun B F H σ e Q q => q _ F H (Grow.refl e.ef) .non
theorem e_op (ha : EE K ta ρ m1 d1) (hb : EE K tb ρ m2 d2) (ho : Op2 K rr d1 d2 m3 d3) : EE K (tOp rr ta tb) ρ m3 d3 := fun B F H σ e Q q =>
  ha.h B F H σ e _ fun x F1 H1 g1 dx => hb.h B F1 H1 σ (e.grow g1) _ fun y F2 H2 g2 dy =>
    ho B F2 H2 x y ((e.eb.trans g1.h).trans g2.h) g2.i (dx.grow (B := B) (H0 := H) (m := .h) g2) dy Q fun v F3 H3 g3 dv => q v F3 H3 ((g1.trans g2).trans g3) (dv.back (g1.h.trans g2.h))
/-! operations with plain results -/
theorem o_pl {i : D} (hi : imm i = true) (h : ∀ F H x y, DtM K H F x d1 → DtM K H F y d2 → ∀ Q : VK, (∀ v, Dt K F v i → Q v H) → rr x y H Q) : Op2 K rr d1 d2 .f i := fun B F H x y _ ef dx dy Q q => h F H x y dx dy Q fun v dv => q v F H (Grow.refl ef) dv
theorem o_i {g : Int → Int → Int} {i j : Int} : Op2 K (rI0 fun i j => .int (g i j)) (.int i) (.int j) .f (.int (g i j)) := o_pl rfl fun F H x y dx dy Q q => ⟨_, _, dx.int_inv, dy.int_inv, q _ (.int _)⟩
theorem o_ic {C : Int → Int → Prop} {g : Int → Int → Int} {i j : Int} (hc : C i j) : Op2 K (rI C fun i j => .int (g i j)) (.int i) (.int j) .f (.int (g i j)) := o_pl rfl fun F H x y dx dy Q q => ⟨_, _, dx.int_inv, dy.int_inv, hc, q _ (.int _)⟩
theorem o_b {g : Int → Int → Bool} {i j : Int} : Op2 K (rI0 fun i j => .bl (g i j)) (.int i) (.int j) .f (.bl (g i j)) := o_pl rfl fun F H x y dx dy Q q => ⟨_, _, dx.int_inv, dy.int_inv, q _ (.bl _)⟩
theorem o_eqI {i j : Int} : Op2 K rEq (.int i) (.int j) .f (.bl (decide (i = j))) := o_pl rfl fun F H x y dx dy Q q => by
  rw [dx.int_inv, dy.int_inv]
  refine ⟨rfl, q _ ?_⟩
  have e : decide (V.int i = V.int j) = decide (i = j) := by simp
  rw [e]; exact .bl _
theorem o_neI {i j : Int} : Op2 K rNe (.int i) (.int j) .f (.bl (!decide (i = j))) := o_pl rfl fun F H x y dx dy Q q => by
  rw [dx.int_inv, dy.int_inv]
  refine ⟨rfl, q _ ?_⟩
  have e : decide (V.int i = V.int j) = decide (i = j) := by simp
  rw [e]; exact .bl _
theorem o_eqB {i j : Bool} : Op2 K rEq (.bl i) (.bl j) .f (.bl (decide (i = j))) := o_pl rfl fun F H x y dx dy Q q => by
  rw [dx.bl_inv, dy.bl_inv]
  refine ⟨rfl, q _ ?_⟩
  have e : decide (V.bl i = V.bl j) = decide (i = j) := by simp
  rw [e]; exact .bl _
theorem o_neB {i j : Bool} : Op2 K rNe (.bl i) (.bl j) .f (.bl (!decide (i = j))) := o_pl rfl fun F H x y dx dy Q q => by
  rw [dx.bl_inv, dy.bl_inv]
  refine ⟨rfl, q _ ?_⟩
  have e : decide (V.bl i = V.bl j) = decide (i = j) := by simp
  rw [e]; exact .bl _
theorem o_eqS {i j : Str} : Op2 K rEq (.str i) (.str j) .f (.bl (decide (i = j))) := o_pl rfl fun F H x y dx dy Q q => by
  rw [dx.str_inv, dy.str_inv]
  refine ⟨rfl, q _ ?_⟩
  have e : decide (V.str i = V.str j) = decide (i = j) := by simp
  rw [e]; exact .bl _
theorem o_neS {i j : Str} : Op2 K rNe (.str i) (.str j) .f (.bl (!decide (i = j))) := o_pl rfl fun F H x y dx dy Q q => by
  rw [dx.str_inv, dy.str_inv]
  refine ⟨rfl, q _ ?_⟩
  have e : decide (V.str i = V.str j) = decide (i = j) := by simp
  rw [e]; exact .bl _
/-! items -/
theorem at_dts {F H : Hp} {xs : List V} {ds : List D} {i : Int} {d : D} (q : DtMA K H F xs ds) (h : atI ds i = some d) : ∃ v, atI xs i = some v ∧ DtM K H F v d := by
  have hl := q.len
  unfold atI at h ⊢
  rw [hl]
  cases hk : ixN ds.length i with
  | none => rw [hk] at h; cases h
  | some k =>
    rw [hk] at h
    exact q.get h
theorem at_dtf {F : Hp} {xs : List V} {ds : List D} {i : Int} {d : D} (q : DtA K F xs ds) (h : atI ds i = some d) : ∃ v, atI xs i = some v ∧ Dt K F v d := by
  have hl := q.len
  unfold atI at h ⊢
  rw [hl]
  cases hk : ixN ds.length i with
  | none => rw [hk] at h; cases h
  | some k =>
    rw [hk] at h
    exact q.get h
/-- a list in a mode: where it is, how its items hang -/
theorem Val.isL {B H0 F H : Hp} {v : V} (eb : Ex B H) (ef : Ex F H) (h : Val K m B H0 F H v (.lst ds)) : ∃ p xs, v = .ref p ∧ H p = some (.lst xs) ∧ (match ixm m with | .f => DtA K F xs ds | .b => DtMA K B F xs ds | _ => DtMA K H F xs ds) := by
  cases m with
  | f =>
    obtain ⟨p, xs, e, h1, h2⟩ := Dt.lst_inv h
    exact ⟨p, xs, e, ef _ _ h1, h2⟩
  | b =>
    obtain ⟨p, xs, e, h1, h2⟩ := DtM.lst_inv eb ef h
    exact ⟨p, xs, e, h1, h2⟩
  | h =>
    obtain ⟨p, xs, e, h1, h2⟩ := DtM.lst_inv (Ex.refl _) ef h
    exact ⟨p, xs, e, h1, h2⟩
  | n =>
    obtain ⟨p, e, _, _, h3⟩ := h
    rcases h3 with ⟨xs, ds', e1, h1, h2⟩ | ⟨ks, xs, ds', e1, h1, l, h2⟩ | ⟨ks, xs, ds', e1, h1, l, h2⟩
    · cases e1; exact ⟨p, xs, e, h1, h2⟩
    · cases e1
    · cases e1
  | o =>
    obtain ⟨p, e, h3⟩ := h
    rcases h3 with ⟨xs, ds', e1, h1, h2⟩ | ⟨ks, xs, ds', e1, h1, l, h2⟩ | ⟨ks, xs, ds', e1, h1, l, h2⟩
    · cases e1; exact ⟨p, xs, e, h1, h2⟩
    · cases e1
    · cases e1
theorem Val.isT {B H0 F H : Hp} {v : V} (eb : Ex B H) (ef : Ex F H) (h : Val K m B H0 F H v (.tup ds)) : ∃ p xs, v = .ref p ∧ H p = some (.tup xs) ∧ (match ixm m with | .f => DtA K F xs ds | .b => DtMA K B F xs ds | _ => DtMA K H F xs ds) := by
  cases m with
  | f =>
    obtain ⟨p, xs, e, h1, h2⟩ := Dt.tup_inv h
    exact ⟨p, xs, e, ef _ _ h1, h2⟩
  | b =>
    obtain ⟨p, xs, e, h1, h2⟩ := DtM.tup_inv eb ef h
    exact ⟨p, xs, e, h1, h2⟩
  | h =>
    obtain ⟨p, xs, e, h1, h2⟩ := DtM.tup_inv (Ex.refl _) ef h
    exact ⟨p, xs, e, h1, h2⟩
  | n =>
    obtain ⟨p, e, _, _, h3⟩ := h
    rcases h3 with ⟨xs, ds', e1, h1, h2⟩ | ⟨ks, xs, ds', e1, h1, l, h2⟩ | ⟨ks, xs, ds', e1, h1, l, h2⟩ <;> cases e1
  | o =>
    obtain ⟨p, e, h3⟩ := h
    rcases h3 with ⟨xs, ds', e1, h1, h2⟩ | ⟨ks, xs, ds', e1, h1, l, h2⟩ | ⟨ks, xs, ds', e1, h1, l, h2⟩ <;> cases e1
/-- items in a mode -/
def ItV (K : PySem.W.Frag) (m : Md) (B F H : Hp) (xs : List V) (ds : List D) : Prop := match ixm m with | .f => DtA K F xs ds | .b => DtMA K B F xs ds | _ => DtMA K H F xs ds
theorem ItV.at {B H0 F H : Hp} {xs : List V} {k : Int} (h : ItV K m B F H xs ds) (e : atI ds k = some d) : ∃ v, atI xs k = some v ∧ Val K (ixm m) B H0 F H v d := by
  unfold ItV at h
  cases m with
  | f => exact at_dtf h e
  | n => exact at_dtf h e
  | o => exact at_dtf h e
  | b =>
    have hl := DtMA.len h
    unfold atI at e ⊢
    rw [hl]
    cases hk : ixN ds.length k with
    | none => rw [hk] at e; cases e
    | some k => rw [hk] at e; exact DtMA.get h e
  | h => exact at_dts h e
theorem ItV.len {B F H : Hp} {xs : List V} (h : ItV K m B F H xs ds) : xs.length = ds.length := by
  unfold ItV at h
  cases m with
  | f => exact DtA.len h
  | n => exact DtA.len h
  | o => exact DtA.len h
  | b => exact DtMA.len h
  | h => exact DtMA.len h
theorem ItV.fz {B F H : Hp} {xs : List V} (h : ItV K m B F H xs ds) (c : itF m ds = true) : DtA K F xs ds := by
  unfold itF at c
  simp only [Bool.or_eq_true, decide_eq_true_eq] at c
  unfold ItV at h
  rcases c with ((rfl | rfl) | rfl) | c
  · exact h
  · exact h
  · exact h
  · cases m with
    | f => exact h
    | n => exact h
    | o => exact h
    | b => exact DtMA.imm c h
    | h => exact DtMA.imm c h
theorem ItV.h {B F H : Hp} {xs : List V} (eb : Ex B H) (h : ItV K m B F H xs ds) : DtMA K H F xs ds := by
  unfold ItV at h
  cases m with
  | f => exact DtA.m h
  | n => exact DtA.m h
  | o => exact DtA.m h
  | b => exact DtMA.mono eb (Ex.refl _) h
  | h => exact h
theorem ItV.grow {B F H F' H' : Hp} {xs : List V} (g : Grow F H F' H') (h : ItV K m B F H xs ds) : ItV K m B F' H' xs ds := by
  unfold ItV at h ⊢
  cases m with
  | f => exact DtA.mono g.f h
  | n => exact DtA.mono g.f h
  | o => exact DtA.mono g.f h
  | b => exact DtMA.mono (Ex.refl _) g.f h
  | h => exact DtMA.mono g.h g.f h
theorem e_ixL {k : Int} (ha : EE K ta ρ m1 (.lst ds)) (hb : EE K tb ρ m2 (.int k)) (h : atI ds k = some d) : EE K (tOp (rIxL K) ta tb) ρ (ixm m1) d := fun B F H σ e Q q =>
  ha B F H σ e _ fun x F1 H1 g1 dx => hb.h B F1 H1 σ (e.grow g1) _ fun y F2 H2 g2 dy => by
    obtain ⟨p, xs, rfl, h1, h2⟩ := dx.isL (e.eb.trans g1.h) g1.i
    have h2 : ItV K m1 B F2 H2 xs ds := ItV.grow g2 h2
    obtain ⟨v, h3, h4⟩ := h2.at (H0 := H) h
    exact ⟨p, xs, k, v, rfl, dy.int_inv, .inl (.inl (g2.h _ _ h1)), h3, q v F2 H2 (g1.trans g2) h4⟩
theorem e_ixT {k : Int} (ha : EE K ta ρ m1 (.tup ds)) (hb : EE K tb ρ m2 (.int k)) (h : atI ds k = some d) : EE K (tOp (rIxT K) ta tb) ρ (ixm m1) d := fun B F H σ e Q q =>
  ha B F H σ e _ fun x F1 H1 g1 dx => hb.h B F1 H1 σ (e.grow g1) _ fun y F2 H2 g2 dy => by
    obtain ⟨p, xs, rfl, h1, h2⟩ := dx.isT (e.eb.trans g1.h) g1.i
    have h2 : ItV K m1 B F2 H2 xs ds := ItV.grow g2 h2
    obtain ⟨v, h3, h4⟩ := h2.at (H0 := H) h
    exact ⟨p, xs, k, v, rfl, dy.int_inv, .inl (.inl (g2.h _ _ h1)), h3, q v F2 H2 (g1.trans g2) h4⟩
theorem e_ixS {ns : List Int} {i n : Int} (ha : EE K ta ρ m1 (.scr ns)) (hb : EE K tb ρ m2 (.int i)) (h : atI ns i = some n) : EE K (tOp (rIxL K) ta tb) ρ .f (.int n) := e_op ha hb fun B F H x y eb ef dx dy Q q => by
  obtain ⟨a, rfl, h1⟩ := dx.scr_inv ef
  have h2 : atI (ns.map V.int) i = some (.int n) := by
    unfold atI at h ⊢
    rw [List.length_map]
    cases hk : ixN ns.length i with
    | none => rw [hk] at h; cases h
    | some k =>
      rw [hk] at h
      have h' : ns[k]? = some n := h
      show (ns.map V.int)[k]? = some (V.int n)
      rw [List.getElem?_map, h']; rfl
  exact ⟨a, _, i, _, rfl, dy.int_inv, h1, h2, q _ F H (Grow.refl ef) (.int n)⟩
/-- lists together -/
theorem e_cat {ds es : List D} (ha : EE K ta ρ m1 (.lst ds)) (hb : EE K tb ρ m2 (.lst es)) (c1 : itF m1 ds = true) (c2 : itF m2 es = true) (hl : ds.length + es.length ≤ 100000) : EE K (tOp rCat ta tb) ρ .n (.lst (ds ++ es)) := fun B F H σ e Q q =>
  ha B F H σ e _ fun x F1 H1 g1 dx => hb B F1 H1 σ (e.grow g1) _ fun y F2 H2 g2 dy => by
    obtain ⟨p, xs, rfl, h1, h2⟩ := dx.isL (e.eb.trans g1.h) g1.i
    obtain ⟨p', ys, rfl, h3, h4⟩ := dy.isL ((e.eb.trans g1.h).trans g2.h) g2.i
    have f2 := (ItV.fz h2 c1).mono g2.f
    have f4 := ItV.fz h4 c2
    exact ⟨p, p', xs, ys, rfl, rfl, g2.h _ _ h1, h3, sz_of (by rw [f2.len, f4.len]; exact hl), fun l hn =>
      q _ F2 _ ((g1.trans g2).trans (Grow.newO g2.i hn)) ⟨l, rfl, fresh_back g2.i hn, fresh_back (g1.trans g2).h hn, .inl ⟨_, _, rfl, upd_same, .append f2 f4⟩⟩⟩
/-! arguments, displays -/
theorem ea_nil : EA K tNil ρ [] := fun B F H σ e Q q => q [] F H (Grow.refl e.ef) .nil
theorem ea_cons {tr : TA} (h : EE K te ρ m d) (hr : EA K tr ρ ds) : EA K (tCons te tr) ρ (d :: ds) := fun B F H σ e Q q =>
  h.h B F H σ e _ fun v F1 H1 g1 dv => hr B F1 H1 σ (e.grow g1) _ fun vs F2 H2 g2 dvs => q (v :: vs) F2 H2 (g1.trans g2) (.cons (dv.grow (m := .h) (B := B) (H0 := H) g2) dvs)
theorem ef_nil : EF K tNil ρ [] := fun B F H σ e Q q => q [] F H (Grow.refl e.ef) .nil
theorem ef_cons {tr : TA} (c : cf m d = true) (h : EE K te ρ m d) (hr : EF K tr ρ ds) : EF K (tCons te tr) ρ (d :: ds) := fun B F H σ e Q q =>
  (h.f c) B F H σ e _ fun v F1 H1 g1 dv => hr B F1 H1 σ (e.grow g1) _ fun vs F2 H2 g2 dvs => q (v :: vs) F2 H2 (g1.trans g2) (.cons (Dt.mono g2.f dv) dvs)
theorem e_tup {ta : TA} (h : EF K ta ρ ds) (hl : ds.length ≤ 100000) : EE K (tTup ta) ρ .f (.tup ds) := fun B F H σ e Q q =>
  h B F H σ e _ fun vs F1 H1 g1 dvs => ⟨sz_of (by rw [dvs.len]; exact hl), fun p hn =>
    q _ _ _ (g1.trans (Grow.new g1.i hn)) (Dt.tup upd_same (dvs.mono (Ex.new (fresh_back g1.i hn))))⟩
theorem e_tupH {ta : TA} (h : EA K ta ρ ds) (hl : ds.length ≤ 100000) (hi : immA ds = false) : EE K (tTup ta) ρ .h (.tup ds) := fun B F H σ e Q q =>
  h B F H σ e _ fun vs F1 H1 g1 dvs => ⟨sz_of (by rw [dvs.len]; exact hl), fun p hn =>
    q _ F1 _ (g1.trans (Grow.newO g1.i hn)) (DtM.tup (by simp [QL.imm, hi]) upd_same (dvs.mono (Ex.new hn) (Ex.refl _)))⟩
theorem e_lst {ta : TA} (h : EF K ta ρ ds) (hl : ds.length ≤ 100000) : EE K (tLst ta) ρ .n (.lst ds) := fun B F H σ e Q q =>
  h B F H σ e _ fun vs F1 H1 g1 dvs => ⟨sz_of (by rw [dvs.len]; exact hl), fun p hn =>
    q _ F1 _ (g1.trans (Grow.newO g1.i hn)) ⟨p, rfl, fresh_back g1.i hn, fresh_back g1.h hn, .inl ⟨_, _, rfl, upd_same, dvs⟩⟩⟩
theorem e_lstH {ta : TA} (h : EA K ta ρ ds) (hl : ds.length ≤ 100000) : EE K (tLst ta) ρ .h (.lst ds) := fun B F H σ e Q q =>
  h B F H σ e _ fun vs F1 H1 g1 dvs => ⟨sz_of (by rw [dvs.len]; exact hl), fun p hn =>
    q _ F1 _ (g1.trans (Grow.newO g1.i hn)) (DtM.lst upd_same (dvs.mono (Ex.new hn) (Ex.refl _)))⟩
theorem e_cb {rr : List V → Hp → VK → Prop} {ta : TA} (h : EA K ta ρ ds) (ho : OpA K rr ds m3 d3) : EE K (tCB rr ta) ρ m3 d3 := fun B F H σ e Q q =>
  h B F H σ e _ fun vs F1 H1 g1 dvs => ho B F1 H1 vs (e.eb.trans g1.h) g1.i dvs Q fun v F2 H2 g2 dv => q v F2 H2 (g1.trans g2) (dv.back g1.h)
theorem e_neg {i : Int} (ha : EE K ta ρ m1 (.int i)) : EE K (tUn (rU fun i => .int (-i)) ta) ρ .f (.int (-i)) := fun B F H σ e Q q =>
  ha.h B F H σ e _ fun x F1 H1 g1 dx => ⟨_, DtM.int_inv dx, q _ F1 H1 g1 (.int _)⟩
theorem DtMA.inv1 {P F : Hp} {xs : List V} {d : D} (h : DtMA K P F xs [d]) : ∃ v, xs = [v] ∧ DtM K P F v d := by
  cases h with
  | cons a b => cases b; exact ⟨_, rfl, a⟩
theorem DtMA.inv2 {P F : Hp} {xs : List V} {d d' : D} (h : DtMA K P F xs [d, d']) : ∃ v v', xs = [v, v'] ∧ DtM K P F v d ∧ DtM K P F v' d' := by
  cases h with
  | cons a b =>
    obtain ⟨v, rfl, q⟩ := b.inv1
    exact ⟨_, _, rfl, a, q⟩
theorem oa_int {i : Int} : OpA K (fun xs H Q => (∃ i, xs = [.int i] ∧ Q (.int i) H) ∨ ∃ k, xs = [.bl k] ∧ Q (.int (if k then 1 else 0)) H) [.int i] .f (.int i) := fun B F H xs _ ef h Q q => by
  obtain ⟨v, rfl, dv⟩ := h.inv1
  exact .inl ⟨i, by rw [dv.int_inv], q _ _ _ (Grow.refl ef) (.int i)⟩
/-- len -/
def dlen : D → Option Nat
  | .lst ds => some ds.length | .tup ds => some ds.length | .scr ns => some ns.length | _ => none
theorem oa_len {n : Nat} (hn : dlen d = some n) : OpA K (fun xs H Q => ∃ p ys, xs = [.ref p] ∧ (SqL K H p ys ∨ SqT K H p ys) ∧ Q (.int ys.length) H) [d] .f (.int n) := fun B F H xs eb ef h Q q => by
  obtain ⟨v, rfl, dv⟩ := h.inv1
  cases d with
  | lst ds =>
    cases hn
    obtain ⟨a, ys, rfl, h1, h2⟩ := dv.lst_inv (Ex.refl _) ef
    refine ⟨a, ys, rfl, .inl (.inl (.inl h1)), q _ _ _ (Grow.refl ef) ?_⟩
    rw [h2.len]; exact .int _
  | tup ds =>
    cases hn
    obtain ⟨a, ys, rfl, h1, h2⟩ := dv.tup_inv (Ex.refl _) ef
    refine ⟨a, ys, rfl, .inr (.inl (.inl h1)), q _ _ _ (Grow.refl ef) ?_⟩
    rw [h2.len]; exact .int _
  | scr ns =>
    cases hn
    obtain ⟨a, rfl, h1⟩ := dv.scr_inv ef
    refine ⟨a, _, rfl, .inl h1, q _ _ _ (Grow.refl ef) ?_⟩
    rw [List.length_map]; exact .int _
  | _ => cases hn
/-- the items of a sequence -/
def seqOf : D → Option (List D)
  | .lst ds => some ds | .tup ds => some ds | .scr ns => some (ns.map .int) | _ => none
theorem Val.seq {B H0 F H : Hp} {v : V} (eb : Ex B H) (ef : Ex F H) (h : Val K m B H0 F H v d) (hs : seqOf d = some ds) : ∃ p xs, v = .ref p ∧ (SqL K H p xs ∨ SqT K H p xs) ∧ ItV K m B F H xs ds := by
  cases d with
  | lst es =>
    cases hs
    obtain ⟨p, xs, e, h1, h2⟩ := h.isL eb ef
    exact ⟨p, xs, e, .inl (.inl (.inl h1)), h2⟩
  | tup es =>
    cases hs
    obtain ⟨p, xs, e, h1, h2⟩ := h.isT eb ef
    exact ⟨p, xs, e, .inr (.inl (.inl h1)), h2⟩
  | scr ns =>
    cases hs
    obtain ⟨p, e, h1⟩ := (h.toH eb).scr_inv ef
    refine ⟨p, _, e, .inl h1, ?_⟩
    have i := DtA.ints (K := K) (H := F) ns
    unfold ItV
    cases m with
    | f => exact i
    | n => exact i
    | o => exact i
    | b => exact i.m
    | h => exact i.m
  | _ => cases hs
/-- list(xs) -/
theorem e_list {ta : TE} (h : EE K ta ρ m d) (hs : seqOf d = some ds) (c : itF m ds = true) : EE K (tCB (fun xs H Q => ∃ p ys, xs = [.ref p] ∧ (SqL K H p ys ∨ SqT K H p ys) ∧ ∀ l, H l = none → Q (.ref l) (upd H l (.lst ys))) (tCons ta tNil)) ρ .n (.lst ds) := fun B F H σ e Q q =>
  h B F H σ e _ fun v F1 H1 g1 dv => by
    obtain ⟨p, xs, rfl, h1, h2⟩ := dv.seq (e.eb.trans g1.h) g1.i hs
    exact ⟨p, xs, rfl, h1, fun l hn => q _ F1 _ (g1.trans (Grow.newO g1.i hn)) ⟨l, rfl, fresh_back g1.i hn, fresh_back g1.h hn, .inl ⟨_, _, rfl, upd_same, h2.fz c⟩⟩⟩
theorem e_listH {ta : TE} (h : EE K ta ρ m d) (hs : seqOf d = some ds) : EE K (tCB (fun xs H Q => ∃ p ys, xs = [.ref p] ∧ (SqL K H p ys ∨ SqT K H p ys) ∧ ∀ l, H l = none → Q (.ref l) (upd H l (.lst ys))) (tCons ta tNil)) ρ .h (.lst ds) := fun B F H σ e Q q =>
  h B F H σ e _ fun v F1 H1 g1 dv => by
    obtain ⟨p, xs, rfl, h1, h2⟩ := dv.seq (e.eb.trans g1.h) g1.i hs
    exact ⟨p, xs, rfl, h1, fun l hn => q _ F1 _ (g1.trans (Grow.newO g1.i hn)) (DtM.lst upd_same ((h2.h (e.eb.trans g1.h)).mono (Ex.new hn) (Ex.refl _)))⟩
/-- tuple(xs) of a list, of a tuple -/
abbrev rTupOf (K : PySem.W.Frag) : List V → Hp → VK → Prop := fun xs H Q => ∃ p ys, xs = [.ref p] ∧ ((SqL K H p ys ∧ ∀ l, H l = none → Q (.ref l) (upd H l (.tup ys))) ∨ (SqT K H p ys ∧ Q (.ref p) H))
theorem e_tupleL {ta : TE} (h : EE K ta ρ m (.lst ds)) (c : itF m ds = true) : EE K (tCB (rTupOf K) (tCons ta tNil)) ρ .f (.tup ds) := fun B F H σ e Q q =>
  h B F H σ e _ fun v F1 H1 g1 dv => by
    obtain ⟨p, xs, rfl, h1, h2⟩ := dv.isL (e.eb.trans g1.h) g1.i
    exact ⟨p, xs, rfl, .inl ⟨.inl (.inl h1), fun l hn => q _ _ _ (g1.trans (Grow.new g1.i hn)) (Dt.tup upd_same ((ItV.fz h2 c).mono (Ex.new (fresh_back g1.i hn))))⟩⟩
theorem e_tupleS {ns : List Int} {ta : TE} (h : EE K ta ρ m (.scr ns)) : EE K (tCB (rTupOf K) (tCons ta tNil)) ρ .f (.tup (ns.map .int)) := fun B F H σ e Q q =>
  h.h B F H σ e _ fun v F1 H1 g1 dv => by
    obtain ⟨p, rfl, h1⟩ := DtM.scr_inv g1.i dv
    exact ⟨p, _, rfl, .inl ⟨h1, fun l hn => q _ _ _ (g1.trans (Grow.new g1.i hn)) (Dt.tup upd_same (DtA.ints ns))⟩⟩
theorem e_tupleT {ta : TE} (h : EE K ta ρ m (.tup ds)) : EE K (tCB (rTupOf K) (tCons ta tNil)) ρ m (.tup ds) := fun B F H σ e Q q =>
  h B F H σ e _ fun v F1 H1 g1 dv => by
    obtain ⟨p, xs, rfl, h1, h2⟩ := dv.isT (e.eb.trans g1.h) g1.i
    exact ⟨p, xs, rfl, .inr ⟨.inl (.inl h1), q _ _ _ g1 dv⟩⟩
/-! isinstance with a built-in class -/
def tyName : D → String
  | .non => "NoneType" | .bl _ => "bool" | .int _ => "int" | .str _ => "str" | .lst _ => "list" | .tup _ => "tuple" | .scr _ => "" | .obj _ _ _ => "" | .dic _ _ => "dict" | .dit _ _ => ""
theorem ty_of {H F : Hp} {v : V} {d : D} (ef : Ex F H) (h : DtM K H F v d) (hs : tyName d ≠ "") : TyX K H v (.type (tyName d)) := by
  cases d with
  | non => rw [h.non_inv]; exact .base .non
  | bl b => rw [h.bl_inv]; exact .base (.bl b)
  | int b => rw [h.int_inv]; exact .base (.int b)
  | str b => rw [h.str_inv]; exact .base (.str b)
  | scr ns => exact absurd rfl hs
  | lst ds =>
    obtain ⟨a, ys, rfl, h1, h2⟩ := h.lst_inv (Ex.refl _) ef
    exact .base (.lst h1)
  | tup ds =>
    obtain ⟨a, ys, rfl, h1, h2⟩ := h.tup_inv (Ex.refl _) ef
    exact .base (.tup h1)
  | obj _ _ _ => exact absurd rfl hs
  | dic ks ds =>
    obtain ⟨a, ys, rfl, h1, l, h2⟩ := h.dic_inv (Ex.refl _) ef
    exact .base (.dK h1)
  | dit _ _ => exact absurd rfl hs
theorem e_isi {T : String} {b : Bool} (h : EE K te ρ m d) (hs : tyName d ≠ "") (hk : kitB (tyName d) T = some b) : EE K (tCB (rIsi K) (tCons te (tCons (tC (.ty T)) tNil))) ρ .f (.bl b) := fun B F H σ e Q q =>
  h.h B F H σ e _ fun v F1 H1 g1 dv => ⟨v, .ty T, _, _, b, rfl, .ty T, ty_of g1.i dv hs, kit_ty hk, q _ _ _ g1 (.bl b)⟩
/-! and, or, not as values; tests -/
variable {t u : TT} {a b : Bool}
theorem e_and (h1 : EE K ta ρ m1 (.bl a)) (h2 : a = true → EE K tb ρ m2 (.bl b)) : EE K (tAndV ta tb) ρ .f (.bl (a && b)) := fun B F H σ e Q q => h1.h B F H σ e _ fun v F1 H1 g1 dv => by
  refine ⟨a, DtM.bl_inv dv, ?_⟩
  cases a with
  | true =>
    show tb σ H1 Q
    exact (h2 rfl).h B F1 H1 σ (e.grow g1) Q fun w F2 H2 g2 dw => by
      rw [DtM.bl_inv dw]; exact q _ F2 H2 (g1.trans g2) (.bl b)
  | false =>
    show Q (.bl false) H1
    exact q _ F1 H1 g1 (.bl false)
theorem e_or (h1 : EE K ta ρ m1 (.bl a)) (h2 : a = false → EE K tb ρ m2 (.bl b)) : EE K (tOrV ta tb) ρ .f (.bl (a || b)) := fun B F H σ e Q q => h1.h B F H σ e _ fun v F1 H1 g1 dv => by
  refine ⟨a, DtM.bl_inv dv, ?_⟩
  cases a with
  | true =>
    show Q (.bl true) H1
    exact q _ F1 H1 g1 (.bl true)
  | false =>
    show tb σ H1 Q
    exact (h2 rfl).h B F1 H1 σ (e.grow g1) Q fun w F2 H2 g2 dw => by
      rw [DtM.bl_inv dw]; exact q _ F2 H2 (g1.trans g2) (.bl b)
theorem e_not (h1 : EE K ta ρ m1 (.bl a)) : EE K (tNotV ta) ρ .f (.bl (!a)) := fun B F H σ e Q q => h1.h B F H σ e _ fun v F1 H1 g1 dv => ⟨a, DtM.bl_inv dv, q _ F1 H1 g1 (.bl _)⟩
theorem e_ifx {d : D} (h : ET K t ρ b) (h1 : b = true → EE K ta ρ m d) (h2 : b = false → EE K tb ρ m d) : EE K (tIf t ta tb) ρ m d := fun B F H σ e Q q => h B F H σ e _ fun F1 H1 g1 => by
  cases b with
  | true => exact h1 rfl B F1 H1 σ (e.grow g1) Q fun w F2 H2 g2 dw => q _ F2 H2 (g1.trans g2) (dw.back g1.h)
  | false => exact h2 rfl B F1 H1 σ (e.grow g1) Q fun w F2 H2 g2 dw => q _ F2 H2 (g1.trans g2) (dw.back g1.h)
theorem t_test (h : EE K te ρ m (.bl b)) : ET K (tTest te) ρ b := fun B F H σ e Q q => h.h B F H σ e _ fun v F1 H1 g1 dv => ⟨b, DtM.bl_inv dv, q F1 H1 g1⟩
theorem t_val (h : EE K te ρ m (.bl b)) : ET K (tB te) ρ b := fun B F H σ e Q q => h.h B F H σ e _ fun v F1 H1 g1 dv => ⟨b, DtM.bl_inv dv, q F1 H1 g1⟩
theorem t_and (h1 : ET K t ρ a) (h2 : a = true → ET K u ρ b) : ET K (tAnd t u) ρ (a && b) := fun B F H σ e Q q => h1 B F H σ e _ fun F1 H1 g1 => by
  cases a with
  | true => exact h2 rfl B F1 H1 σ (e.grow g1) Q fun F2 H2 g2 => q F2 H2 (g1.trans g2)
  | false => exact q F1 H1 g1
theorem t_or (h1 : ET K t ρ a) (h2 : a = false → ET K u ρ b) : ET K (tOr t u) ρ (a || b) := fun B F H σ e Q q => h1 B F H σ e _ fun F1 H1 g1 => by
  cases a with
  | true => exact q F1 H1 g1
  | false => exact h2 rfl B F1 H1 σ (e.grow g1) Q fun F2 H2 g2 => q F2 H2 (g1.trans g2)
theorem t_not (h1 : ET K t ρ a) : ET K (tNot t) ρ (!a) := fun B F H σ e Q q => h1 B F H σ e _ fun F1 H1 g1 => q F1 H1 g1
theorem t_yes : ET K tYes ρ true := fun B F H σ e Q q => q F H (Grow.refl e.ef)
theorem ET.to (h : ET K t ρ a) (e : a = b) : ET K t ρ b := e ▸ h
/-- a list's truth -/
theorem t_lst (h : EE K ta ρ m (.lst ds)) : ET K (fun σ H Q => ta σ H fun x H' => ∃ k, TruV K x H' k ∧ Q k H') ρ (!ds.isEmpty) := fun B F H σ e Q q => h.h B F H σ e _ fun v F1 H1 g1 dv => by
  obtain ⟨p, xs, rfl, h1, h2⟩ := DtM.lst_inv (Ex.refl _) g1.i dv
  refine ⟨_, .inl ⟨xs, .inl (.inl h1), rfl⟩, ?_⟩
  have e : xs.isEmpty = ds.isEmpty := by
    cases h2 <;> rfl
  rw [e]
  exact q F1 H1 g1
theorem e_chain {tc : TE} {g g' : Int → Int → Bool} {x y z : Int} (ha : EE K ta ρ m1 (.int x)) (hb : EE K tb ρ m2 (.int y)) (hc : EE K tc ρ m3 (.int z)) : EE K (tChain (rI0 fun i j => .bl (g i j)) (rI0 fun i j => .bl (g' i j)) ta tb tc) ρ .f (.bl (g x y && g' y z)) := fun B F H σ e Q q =>
  ha.h B F H σ e _ fun v F1 H1 g1 dv => hb.h B F1 H1 σ (e.grow g1) _ fun w F2 H2 g2 dw => by
    rw [DtM.int_inv dv, DtM.int_inv dw]
    refine ⟨x, y, rfl, rfl, g x y, rfl, ?_⟩
    cases hg : g x y with
    | true =>
      rw [if_pos rfl]
      refine hc.h B F2 H2 σ ((e.grow g1).grow g2) _ fun w' F3 H3 g3 dw' => ?_
      rw [DtM.int_inv dw']
      refine ⟨y, z, rfl, rfl, q _ F3 H3 ((g1.trans g2).trans g3) ?_⟩
      rw [hg]; exact .bl _
    | false =>
      rw [if_neg Bool.false_ne_true]
      refine q _ F2 H2 (g1.trans g2) ?_
      rw [hg]; exact .bl _
end

/-! ### deep equality -/
mutual
def toPy : D → PyData
  | .non => .none
  | .bl b => .bool b
  | .int i => .int i
  | .str x => .str x
  | .lst ds => .list (toPyA ds)
  | .tup ds => .tuple (toPyA ds)
  | .scr ns => .list (ns.map PyData.int)
  | .obj _ _ _ => .dict []
  | .dic _ _ => .dict []
  | .dit _ _ => .dict []
def toPyA : List D → List PyData
  | [] => []
  | d :: ds => toPy d :: toPyA ds
end
theorem dp_ints {K : PySem.W.Frag} {H : Hp} : ∀ (ns : List Int), DpAll K H (ns.map V.int) (ns.map PyData.int)
  | [] => .nil
  | n :: r => .cons (.int n) (dp_ints r)
mutual
theorem dp_of {K : PySem.W.Frag} {H : Hp} : ∀ {v : V} {d : D}, PyData.canLay0 (toPy d) = true → Dt K H v d → Dp K H v (toPy d)
  | _, _, _, .non => .non
  | _, _, _, .bl b => .bl b
  | _, _, _, .int b => .int b
  | _, _, _, .str b => .str b
  | _, _, _, .scr (ns := ns) h => .lst h (dp_ints ns)
  | _, _, c, .lst h q => .lst (.inl (.inl h)) (dp_all (by simpa [toPy, PyData.canLay0] using c) q)
  | _, _, c, .tup h q => .tup (.inl (.inl h)) (dp_all (by simpa [toPy, PyData.canLay0] using c) q)
  | _, _, c, .obj _ _ _ => absurd c (by simp [toPy, PyData.canLay0])
  | _, _, c, .dic _ _ _ => absurd c (by simp [toPy, PyData.canLay0])
  | _, _, c, .dit _ _ _ => absurd c (by simp [toPy, PyData.canLay0])
theorem dp_all {K : PySem.W.Frag} {H : Hp} : ∀ {vs : List V} {ds : List D}, PyData.canLayAll0 (toPyA ds) = true → DtA K H vs ds → DpAll K H vs (toPyA ds)
  | _, _, _, .nil => .nil
  | _, _, c, .cons h q => by
    simp [toPyA, PyData.canLayAll0] at c
    exact .cons (dp_of c.1 h) (dp_all c.2 q)
end
mutual
theorem dpm_of {K : PySem.W.Frag} {H F : Hp} (ef : Ex F H) : ∀ {v : V} {d : D}, PyData.canLay0 (toPy d) = true → DtM K H F v d → Dp K H v (toPy d)
  | _, _, c, .fz h => dp_of c (h.mono ef)
  | _, _, c, .lst h q => .lst (.inl (.inl h)) (dpm_all ef (by simpa [toPy, PyData.canLay0] using c) q)
  | _, _, c, .tup _ h q => .tup (.inl (.inl h)) (dpm_all ef (by simpa [toPy, PyData.canLay0] using c) q)
  | _, _, c, .dic _ _ _ => absurd c (by simp [toPy, PyData.canLay0])
  | _, _, c, .dit _ _ _ => absurd c (by simp [toPy, PyData.canLay0])
theorem dpm_all {K : PySem.W.Frag} {H F : Hp} (ef : Ex F H) : ∀ {vs : List V} {ds : List D}, PyData.canLayAll0 (toPyA ds) = true → DtMA K H F vs ds → DpAll K H vs (toPyA ds)
  | _, _, _, .nil => .nil
  | _, _, c, .cons h q => by
    simp [toPyA, PyData.canLayAll0] at c
    exact .cons (dpm_of ef c.1 h) (dpm_all ef c.2 q)
end
section
variable {K : PySem.W.Frag} {d1 d2 : D}
theorem o_eqD (h1 : SeqAt.shaped (toPy d1) = true) (h2 : SeqAt.shaped (toPy d2) = true) : Op2 K (rEqD K) d1 d2 .f (.bl (PyData.eqv (toPy d1) (toPy d2))) := fun B F H x y eb ef dx dy Q q =>
  ⟨_, _, dpm_of ef (SeqAt.canLay_of_shaped h1) dx, dpm_of ef (SeqAt.canLay_of_shaped h2) dy, h1, h2, q _ _ _ (Grow.refl ef) (.bl _)⟩
theorem o_neD (h1 : SeqAt.shaped (toPy d1) = true) (h2 : SeqAt.shaped (toPy d2) = true) : Op2 K (rNeD K) d1 d2 .f (.bl (!PyData.eqv (toPy d1) (toPy d2))) := fun B F H x y eb ef dx dy Q q =>
  ⟨_, _, dpm_of ef (SeqAt.canLay_of_shaped h1) dx, dpm_of ef (SeqAt.canLay_of_shaped h2) dy, h1, h2, q _ _ _ (Grow.refl ef) (.bl _)⟩
end

/-! ### promises of defs -/
/-- what a call comes to -/
inductive Res where
  | ok (m : Md) (d : D)
  | er (x : Er)
/-- a def's promise -/
def SpR (K : PySem.W.Frag) (R : List D → Option Res) : Sp := fun vs H Q E => ∃ Fi ds m d, Ex Fi H ∧ DtMA K H Fi vs ds ∧ R ds = some (.ok m d) ∧ (m = .f ∨ m = .n) ∧ ∀ v F' H', Grow Fi H F' H' → Val K m Emp H F' H' v d → Q v H'
section
variable {K : PySem.W.Frag} {ρ : List Sl} {ta : TA} {ds : List D} {d : D} {m : Md} {E : XK} {R : List D → Option Res}
theorem Val.anyB {m : Md} {B B' H0 F H : Hp} {v : V} (hm : m = .f ∨ m = .n) (h : Val K m B H0 F H v d) : Val K m B' H0 F H v d := by
  rcases hm with rfl | rfl
  · exact h
  · exact h
theorem e_call (h : EA K ta ρ ds) (hR : R ds = some (.ok m d)) (hm : m = .f ∨ m = .n) : EE K (tCall (SpR K R) [] E ta) ρ m d := fun B F H σ e Q q =>
  h B F H σ e _ fun vs F1 H1 g1 dvs => ⟨F1, ds, m, d, g1.i, by rw [List.append_nil]; exact dvs, hR, hm, fun v F2 H2 g2 dv => q v F2 H2 (g1.trans g2) ((dv.anyB hm).back g1.h)⟩
end
end QL

end
section
set_option maxRecDepth 100000
set_option maxHeartbeats 2000000
namespace QL
open PySem PySem.Spec PyProof.Rows L2 Evl

/-! ### items of what is walked, patterns -/
/-- an item: a datum in a mode; a tuple on the way, of such -/
inductive Item where
  | one (m : Md) (d : D)
  | many (ms : List (Md × D))
def ValA (K : PySem.W.Frag) (B F H : Hp) : List V → List (Md × D) → Prop
  | [], [] => True
  | v :: vs, x :: ms => Val K x.1 B H F H v x.2 ∧ ValA K B F H vs ms
  | _, _ => False
def IVal (K : PySem.W.Frag) (B F H : Hp) (v : V) : Item → Prop
  | .one m d => Val K m B H F H v d
  | .many ms => ∃ p vs, v = .ref p ∧ H p = some (.tup vs) ∧ ValA K B F H vs ms
inductive Pat where
  | nm (i : Nat)
  | tp (ps : List Pat)
/-- what a name takes -/
def slotOf (m : Md) (d : D) : Option Sl := if imm d = true then some (.dat d) else match m with | .f => some (.dat d) | .b => some (.bor d) | _ => none
mutual
def bindP : Pat → List Sl → Item → Option (List Sl)
  | .nm i, ρ, .one m d => (slotOf m d).map fun s => ρ.set i s
  | .nm _, _, .many _ => none
  | .tp ps, ρ, .one m d => match d with
    | .tup ds => if ds.length = ps.length then bindPs ps ρ (ds.map fun d => (ixm m, d)) else none
    | _ => none
  | .tp ps, ρ, .many ms => if ms.length = ps.length then bindPs ps ρ ms else none
def bindPs : List Pat → List Sl → List (Md × D) → Option (List Sl)
  | [], ρ, [] => some ρ
  | p :: ps, ρ, x :: ms => (bindP p ρ (.one x.1 x.2)).bind fun ρ1 => bindPs ps ρ1 ms
  | _, _, _ => none
end
mutual
def Pat.vars : Pat → List Nat
  | .nm i => [i]
  | .tp ps => Pat.varsA ps
def Pat.varsA : List Pat → List Nat
  | [] => []
  | p :: ps => Pat.vars p ++ Pat.varsA ps
end
theorem wipe_set {σ : L2.St} {i : Nat} {o : Option V} : ∀ {vs : List Nat}, i ∈ vs → L2.wipe (σ.set i o) vs = L2.wipe σ vs
  | [], h => by cases h
  | v :: vs, h => by
    show (L2.wipe (σ.set i o) vs).set v none = (L2.wipe σ vs).set v none
    by_cases hv : i ∈ vs
    · rw [wipe_set hv]
    · have e : i = v := by
        rcases List.mem_cons.mp h with e | e
        · exact e
        · exact absurd e hv
      subst e
      have key : ∀ {vs : List Nat}, i ∉ vs → L2.wipe (σ.set i o) vs = (L2.wipe σ vs).set i o := by
        intro vs
        induction vs with
        | nil => intro _; rfl
        | cons w ws ih =>
          intro hn
          show (L2.wipe (σ.set i o) ws).set w none = ((L2.wipe σ ws).set w none).set i o
          rw [ih (fun z => hn (List.mem_cons_of_mem _ z))]
          exact List.set_comm _ _ (fun z => hn (by rw [z]; exact List.mem_cons_self))
      rw [key hv, List.set_set]
section
variable {K : PySem.W.Frag} {B F H : Hp} {ρ ρ' : List Sl}
theorem slotOf_ok {m : Md} {d : D} {s : Sl} {v : V} (eb : Ex B H) (h : slotOf m d = some s) (hv : Val K m B H F H v d) : SlOk K B F H (some v) s ∧ s.mine = false := by
  unfold slotOf at h
  split at h
  · rename_i i
    cases h
    exact ⟨.dat ((hv.toH eb).imm i), rfl⟩
  · cases m with
    | f => cases h; exact ⟨.dat hv, rfl⟩
    | b => cases h; exact ⟨.bor hv, rfl⟩
    | _ => cases h
theorem ValA.of {m : Md} {xs : List V} {ds : List D} (h : ItV K m B F H xs ds) : ValA K B F H xs (ds.map fun d => (ixm m, d)) := by
  unfold ItV at h
  have kf : ∀ {xs : List V} {ds : List D}, DtA K F xs ds → ValA K B F H xs (ds.map fun d => (Md.f, d)) := by
    intro xs
    induction xs with
    | nil => intro ds h; cases h; trivial
    | cons x xs ih => intro ds h; cases h with | cons a b => exact ⟨a, ih b⟩
  have kb : ∀ {xs : List V} {ds : List D}, DtMA K B F xs ds → ValA K B F H xs (ds.map fun d => (Md.b, d)) := by
    intro xs
    induction xs with
    | nil => intro ds h; cases h; trivial
    | cons x xs ih => intro ds h; cases h with | cons a b => exact ⟨a, ih b⟩
  have kh : ∀ {xs : List V} {ds : List D}, DtMA K H F xs ds → ValA K B F H xs (ds.map fun d => (Md.h, d)) := by
    intro xs
    induction xs with
    | nil => intro ds h; cases h; trivial
    | cons x xs ih => intro ds h; cases h with | cons a b => exact ⟨a, ih b⟩
  cases m with
  | f => exact kf h
  | n => exact kf h
  | o => exact kf h
  | b => exact kb h
  | h => exact kh h
theorem ValA.len : ∀ {vs : List V} {ms : List (Md × D)}, ValA K B F H vs ms → vs.length = ms.length
  | [], [], _ => rfl
  | _ :: _, _ :: _, h => by simp [ValA.len h.2]
  | [], _ :: _, h => h.elim
  | _ :: _, [], h => h.elim
mutual
/-- a target that stands for a pattern -/
inductive GP (K : PySem.W.Frag) : TG → Pat → Prop where
  | nm (i : Nat) : GP K (gName i) (.nm i)
  | tp {n : Nat} {ts : TGs} {ps : List Pat} : n = ps.length → GPs K ts ps → GP K (gTup K n ts) (.tp ps)
inductive GPs (K : PySem.W.Frag) : TGs → List Pat → Prop where
  | nil : GPs K gNil []
  | cons {t : TG} {ts : TGs} {p : Pat} {ps : List Pat} : GP K t p → GPs K ts ps → GPs K (gCons t ts) (p :: ps)
end
mutual
theorem GP.run (eb : Ex B H) (ef : Ex F H) : ∀ {g : TG} {p : Pat}, GP K g p → ∀ {it : Item} {ρ ρ' : List Sl} {σ : L2.St} {v : V}, bindP p ρ it = some ρ' → EnvOk K B F H σ ρ → IVal K B F H v it →
    ∀ Q : L2.St → Hp → Prop, (∀ σ', EnvOk K B F H σ' ρ' → (∀ vs, (∀ i ∈ p.vars, i ∈ vs) → L2.wipe σ' vs = L2.wipe σ vs) → (∀ k p, Own1 σ' ρ' k p → Own1 σ ρ k p) → Q σ' H) → g v σ H Q
  | _, _, .nm i, it, ρ, ρ', σ, v, hb, e, iv, Q, q => by
    cases it with
    | many ms => cases hb
    | one m d =>
      simp only [bindP, Option.map_eq_some_iff] at hb
      obtain ⟨s, h1, rfl⟩ := hb
      obtain ⟨h2, h3⟩ := slotOf_ok eb h1 iv
      exact q _ (e.put i h2 h3) (fun vs hv => wipe_set (hv i (by simp [Pat.vars]))) fun k p o => by
        by_cases hk : i = k
        · subst hk
          have := (own1_at o).2
          rw [h3] at this; cases this
        · exact own1_set hk o
  | _, _, .tp hn hs, it, ρ, ρ', σ, v, hb, e, iv, Q, q => by
    cases it with
    | many ms =>
      simp only [bindP] at hb
      split at hb
      · rename_i hl
        obtain ⟨p, vs, rfl, h1, h2⟩ := iv
        exact ⟨p, vs, rfl, .inl (.inl h1), by rw [h2.len, hl, hn], GPs.run eb ef hs hb e h2 Q fun σ' e' hw ho => q σ' e' hw ho⟩
      · cases hb
    | one m d =>
      cases d with
      | tup ds =>
        simp only [bindP] at hb
        split at hb
        · rename_i hl
          obtain ⟨p, vs, rfl, h1, h2⟩ := Val.isT eb ef iv
          have h2 : ItV K m B F H vs ds := h2
          exact ⟨p, vs, rfl, .inl (.inl h1), by rw [h2.len, hl, hn], GPs.run eb ef hs hb e (ValA.of h2) Q fun σ' e' hw ho => q σ' e' hw ho⟩
        · cases hb
      | _ => simp [bindP] at hb
theorem GPs.run (eb : Ex B H) (ef : Ex F H) : ∀ {g : TGs} {ps : List Pat}, GPs K g ps → ∀ {ms : List (Md × D)} {ρ ρ' : List Sl} {σ : L2.St} {vs : List V}, bindPs ps ρ ms = some ρ' → EnvOk K B F H σ ρ → ValA K B F H vs ms →
    ∀ Q : L2.St → Hp → Prop, (∀ σ', EnvOk K B F H σ' ρ' → (∀ ws, (∀ i ∈ Pat.varsA ps, i ∈ ws) → L2.wipe σ' ws = L2.wipe σ ws) → (∀ k p, Own1 σ' ρ' k p → Own1 σ ρ k p) → Q σ' H) → g vs σ H Q
  | _, _, .nil, ms, ρ, ρ', σ, vs, hb, e, iv, Q, q => by
    cases ms with
    | cons _ _ => simp [bindPs] at hb
    | nil =>
      cases vs with
      | cons _ _ => exact iv.elim
      | nil =>
        simp only [bindPs, Option.some.injEq] at hb
        subst hb
        exact ⟨rfl, q σ e (fun _ _ => rfl) fun _ _ o => o⟩
  | _, _, .cons hp hs, ms, ρ, ρ', σ, vs, hb, e, iv, Q, q => by
    cases ms with
    | nil => simp [bindPs] at hb
    | cons x ms =>
      cases vs with
      | nil => exact iv.elim
      | cons v vs =>
        simp only [bindPs, Option.bind_eq_some_iff] at hb
        obtain ⟨ρ1, h1, h2⟩ := hb
        refine ⟨v, vs, rfl, ?_⟩
        refine GP.run eb ef hp h1 e iv.1 _ fun σ1 e1 w1 o1 => ?_
        refine GPs.run eb ef hs h2 e1 iv.2 _ fun σ2 e2 w2 o2 => q σ2 e2 (fun ws hw => ?_) fun k p o => o1 k p (o2 k p o)
        rw [w2 ws fun i hi => hw i (by simp [Pat.varsA, hi]), w1 ws fun i hi => hw i (by simp [Pat.varsA, hi])]
end
end

/-! ### sources -/
/-- its items; those of a stable source hang on the frame or on what was lent -/
def Src (K : PySem.W.Frag) (wi : TI) (ρ : List Sl) (st : Bool) (its : List Item) : Prop :=
  ∀ B F H σ, EnvOk K B F H σ ρ → ∀ R : It → Hp → Prop, (∀ (J : It) F' H', Grow F H F' H' →
    (∀ F2 H2, Ex F' F2 → (∀ p, B p ≠ none → F' p = none → F2 p = none) → Ex B H2 → Ex F2 H2 → (st = false → Ex H' H2) → ∀ (k : Nat) it, its[k]? = some it → J.go k H2 ∧ ∀ x H3, J.yld k H2 x H3 → Ex H2 H3 ∧ IVal K B F2 H3 x it) →
    (∀ F2 H2, Ex F' F2 → (∀ p, B p ≠ none → F' p = none → F2 p = none) → Ex B H2 → Ex F2 H2 → (st = false → Ex H' H2) → J.stop its.length H2) → R J H') → wi σ H R
def rngIt (lo : Int) (n : Nat) : List Item := (List.range n).map fun (k : Nat) => .one .f (.int (lo + (k : Int)))
theorem rngIt_get {lo : Int} {n k : Nat} {it : Item} (h : (rngIt lo n)[k]? = some it) : k < n ∧ it = .one .f (.int (lo + (k : Int))) := by
  unfold rngIt at h
  rw [List.getElem?_map] at h
  have hk : k < n := by
    by_cases hk : k < n
    · exact hk
    · rw [List.getElem?_eq_none (by rw [List.length_range]; omega)] at h; cases h
  rw [List.getElem?_range hk] at h
  cases h
  exact ⟨hk, rfl⟩
theorem rngIt_len {lo : Int} {n : Nat} : (rngIt lo n).length = n := by simp [rngIt]
section
variable {K : PySem.W.Frag} {ρ : List Sl} {te ta tb : TE} {m m1 m2 : Md} {d : D} {ds : List D}
theorem src_r1 {n : Int} (h : EE K ta ρ m (.int n)) (hn : -100000 ≤ n ∧ n ≤ 100000) : Src K (iRng1 (tCons ta tNil)) ρ true (rngIt 0 n.toNat) := fun B F H σ e R q => h.h B F H σ e _ fun v F1 H1 g dv => by
  rw [DtM.int_inv dv]
  refine ⟨n, rfl, by omega, by omega, q _ F1 H1 g (fun F2 H2 _ _ _ _ _ k it hk => ?_) fun F2 H2 _ _ _ _ _ => ?_⟩
  · obtain ⟨h1, rfl⟩ := rngIt_get hk
    exact ⟨h1, fun x H3 hy => ⟨by rw [hy.1]; exact Ex.refl _, by rw [hy.2]; exact Dt.int _⟩⟩
  · rw [rngIt_len]; exact Nat.le_refl _
theorem src_r2 {lo n : Int} (h : EE K ta ρ m (.int lo)) (h' : EE K tb ρ m1 (.int n)) (hn : -100000 ≤ n ∧ n ≤ 100000 ∧ -100000 ≤ lo ∧ lo ≤ 100000) : Src K (iRng2 (tCons ta (tCons tb tNil))) ρ true (rngIt lo (n - lo).toNat) := fun B F H σ e R q => h.h B F H σ e _ fun v F1 H1 g dv => h'.h B F1 H1 σ (e.grow g) _ fun v' F1' H1' g' dv' => by
  rw [DtM.int_inv dv, DtM.int_inv dv']
  refine ⟨lo, n, rfl, ⟨by omega, by omega, by omega, by omega⟩, q _ F1' H1' (g.trans g') (fun F2 H2 _ _ _ _ _ k it hk => ?_) fun F2 H2 _ _ _ _ _ => ?_⟩
  · obtain ⟨h1, rfl⟩ := rngIt_get hk
    exact ⟨h1, fun x H3 hy => ⟨by rw [hy.1]; exact Ex.refl _, by rw [hy.2]; exact Dt.int _⟩⟩
  · rw [rngIt_len]; exact Nat.le_refl _
theorem itl_go {a : Addr} {xs : List V} {H : Hp} {k : Nat} (h : SqL K H a xs) (hk : k < xs.length) : (Itl K a).go k H ∧ ∀ x H3, (Itl K a).yld k H x H3 → H3 = H ∧ xs[k]? = some x :=
  ⟨⟨xs, xs[k], h, List.getElem?_eq_getElem hk⟩, fun x H3 hy => ⟨hy.1, hy.2 xs h⟩⟩
theorem itt_go {a : Addr} {xs : List V} {H : Hp} {k : Nat} (h : SqT K H a xs) (hk : k < xs.length) : (Itt K a).go k H ∧ ∀ x H3, (Itt K a).yld k H x H3 → H3 = H ∧ xs[k]? = some x :=
  ⟨⟨xs, xs[k], h, List.getElem?_eq_getElem hk⟩, fun x H3 hy => ⟨hy.1, hy.2 xs h⟩⟩
/-- is a list, a tuple in the mode stable: does it hang on the frame or on what was lent -/
def stab (m : Md) : Bool := match m with | .f => true | .b => true | .n => true | _ => false
theorem Val.at {B F H : Hp} {xs : List V} {k : Nat} {x : V} {e : D} (h : ItV K m B F H xs ds) (h1 : xs[k]? = some x) (h2 : ds[k]? = some e) : Val K (ixm m) B H F H x e := by
  unfold ItV at h
  have gf : ∀ {xs : List V} {ds : List D} {k : Nat}, DtA K F xs ds → xs[k]? = some x → ds[k]? = some e → Dt K F x e := by
    intro xs ds k h a b
    obtain ⟨v', c1, c2⟩ := h.get b
    rw [a] at c1; cases c1; exact c2
  cases m with
  | f => exact gf h h1 h2
  | n => exact gf h h1 h2
  | o => exact gf h h1 h2
  | b => exact DtMA.get2 h h1 h2
  | h => exact DtMA.get2 h h1 h2
/-- items that hang where they hang -/
theorem keepL {B H0 F H : Hp} {v : V} (hm : m ≠ .n) (eb : Ex B H) (ef : Ex F H) (h : Val K m B H0 F H v (.lst ds)) : ∃ p xs, v = .ref p ∧ SqL K H p xs ∧ ∀ F2 H2, Ex F F2 → Ex B H2 → Ex F2 H2 → (stab m = false → Ex H H2) → SqL K H2 p xs ∧ ItV K m B F2 H2 xs ds := by
  cases m with
  | n => exact absurd rfl hm
  | f =>
    obtain ⟨p, xs, e, h1, h2⟩ := Dt.lst_inv h
    exact ⟨p, xs, e, .inl (.inl (ef _ _ h1)), fun F2 H2 a b c _ => ⟨.inl (.inl (c _ _ (a _ _ h1))), DtA.mono a h2⟩⟩
  | b =>
    cases h with
    | fz h =>
      obtain ⟨p, xs, e, h1, h2⟩ := Dt.lst_inv h
      exact ⟨p, xs, e, .inl (.inl (ef _ _ h1)), fun F2 H2 a b c _ => ⟨.inl (.inl (c _ _ (a _ _ h1))), (DtA.mono a h2).m⟩⟩
    | lst h1 h2 => exact ⟨_, _, rfl, .inl (.inl (eb _ _ h1)), fun F2 H2 a b c _ => ⟨.inl (.inl (b _ _ h1)), DtMA.mono (Ex.refl _) a h2⟩⟩
  | h =>
    obtain ⟨p, xs, e, h1, h2⟩ := DtM.lst_inv (Ex.refl _) ef h
    exact ⟨p, xs, e, .inl (.inl h1), fun F2 H2 a b c x => ⟨.inl (.inl (x rfl _ _ h1)), DtMA.mono (x rfl) a h2⟩⟩
  | o =>
    obtain ⟨p, e, h3⟩ := h
    rcases h3 with ⟨xs, ds', e1, h1, h2⟩ | ⟨ks, xs, ds', e1, h1, l, h2⟩ | ⟨ks, xs, ds', e1, h1, l, h2⟩
    · cases e1
      exact ⟨p, xs, e, .inl (.inl h1), fun F2 H2 a b c x => ⟨.inl (.inl (x rfl _ _ h1)), DtA.mono a h2⟩⟩
    · cases e1
    · cases e1
theorem keepT {B H0 F H : Hp} {v : V} (hm : m ≠ .n) (eb : Ex B H) (ef : Ex F H) (h : Val K m B H0 F H v (.tup ds)) : ∃ p xs, v = .ref p ∧ SqT K H p xs ∧ ∀ F2 H2, Ex F F2 → Ex B H2 → Ex F2 H2 → (stab m = false → Ex H H2) → SqT K H2 p xs ∧ ItV K m B F2 H2 xs ds := by
  cases m with
  | n => exact absurd rfl hm
  | f =>
    obtain ⟨p, xs, e, h1, h2⟩ := Dt.tup_inv h
    exact ⟨p, xs, e, .inl (.inl (ef _ _ h1)), fun F2 H2 a b c _ => ⟨.inl (.inl (c _ _ (a _ _ h1))), DtA.mono a h2⟩⟩
  | b =>
    cases h with
    | fz h =>
      obtain ⟨p, xs, e, h1, h2⟩ := Dt.tup_inv h
      exact ⟨p, xs, e, .inl (.inl (ef _ _ h1)), fun F2 H2 a b c _ => ⟨.inl (.inl (c _ _ (a _ _ h1))), (DtA.mono a h2).m⟩⟩
    | tup _ h1 h2 => exact ⟨_, _, rfl, .inl (.inl (eb _ _ h1)), fun F2 H2 a b c _ => ⟨.inl (.inl (b _ _ h1)), DtMA.mono (Ex.refl _) a h2⟩⟩
  | h =>
    obtain ⟨p, xs, e, h1, h2⟩ := DtM.tup_inv (Ex.refl _) ef h
    exact ⟨p, xs, e, .inl (.inl h1), fun F2 H2 a b c x => ⟨.inl (.inl (x rfl _ _ h1)), DtMA.mono (x rfl) a h2⟩⟩
  | o =>
    obtain ⟨p, e, h3⟩ := h
    rcases h3 with ⟨xs, ds', e1, h1, h2⟩ | ⟨ks, xs, ds', e1, h1, l, h2⟩ | ⟨ks, xs, ds', e1, h1, l, h2⟩ <;> cases e1
theorem keepS {B H0 F H : Hp} {v : V} {ns : List Int} (eb : Ex B H) (ef : Ex F H) (h : Val K m B H0 F H v (.scr ns)) : ∃ p xs, v = .ref p ∧ SqL K H p xs ∧ ∀ F2 H2, Ex F F2 → Ex B H2 → Ex F2 H2 → (stab .f = false → Ex H H2) → SqL K H2 p xs ∧ ItV K .f B F2 H2 xs (ns.map .int) := by
  obtain ⟨p, e, h1⟩ := ((h.toH eb).imm rfl).scr_inv
  exact ⟨p, _, e, ex_l ef h1, fun F2 H2 a b c _ => ⟨ex_l (a.trans c) h1, DtA.ints ns⟩⟩
/-- the mode of what a sequence is when it is walked -/
def wm (m : Md) (d : D) : Md := match d with | .scr _ => .f | _ => if m = .n then .f else nrm m d
theorem map_one {mm : Md} {k : Nat} {it : Item} (h : (ds.map fun e => Item.one mm e)[k]? = some it) : ∃ e, ds[k]? = some e ∧ it = .one mm e := by
  rw [List.getElem?_map] at h
  cases he : ds[k]? with
  | none => rw [he] at h; cases h
  | some e => rw [he] at h; cases h; exact ⟨e, rfl, rfl⟩
def seqIt (m : Md) (ds : List D) : List Item := ds.map fun e => .one (ixm m) e
theorem src_l (hm : m ≠ .n) (h : EE K te ρ m (.lst ds)) : Src K (iList K te) ρ (stab m) (seqIt m ds) := fun B F H σ e R q => h B F H σ e _ fun v F1 H1 g dv => by
  obtain ⟨p, xs, rfl, h1, h2⟩ := keepL hm (e.eb.trans g.h) g.i dv
  refine ⟨p, rfl, ⟨xs, h1⟩, q _ F1 H1 g (fun F2 H2 c _ eb ef x k it hk => ?_) fun F2 H2 c _ eb ef x => ?_⟩
  · obtain ⟨a, b⟩ := h2 F2 H2 c eb ef x
    obtain ⟨d0, e1, rfl⟩ := map_one hk
    have hk' : k < xs.length := by rw [b.len]; exact (List.getElem?_eq_some_iff.mp e1).1
    obtain ⟨q1, q2⟩ := itl_go (K := K) a hk'
    refine ⟨q1, fun y H3 hy => ?_⟩
    obtain ⟨e2, e3⟩ := q2 y H3 hy
    subst e2
    exact ⟨Ex.refl _, Val.at b e3 e1⟩
  · obtain ⟨a, b⟩ := h2 F2 H2 c eb ef x
    exact ⟨xs, a, by rw [b.len]; simp [seqIt]⟩
theorem src_t (hm : m ≠ .n) (h : EE K te ρ m (.tup ds)) : Src K (iTup K te) ρ (stab m) (seqIt m ds) := fun B F H σ e R q => h B F H σ e _ fun v F1 H1 g dv => by
  obtain ⟨p, xs, rfl, h1, h2⟩ := keepT hm (e.eb.trans g.h) g.i dv
  refine ⟨p, rfl, ⟨xs, h1⟩, q _ F1 H1 g (fun F2 H2 c _ eb ef x k it hk => ?_) fun F2 H2 c _ eb ef x => ?_⟩
  · obtain ⟨a, b⟩ := h2 F2 H2 c eb ef x
    obtain ⟨d0, e1, rfl⟩ := map_one hk
    have hk' : k < xs.length := by rw [b.len]; exact (List.getElem?_eq_some_iff.mp e1).1
    obtain ⟨q1, q2⟩ := itt_go (K := K) a hk'
    refine ⟨q1, fun y H3 hy => ?_⟩
    obtain ⟨e2, e3⟩ := q2 y H3 hy
    subst e2
    exact ⟨Ex.refl _, Val.at b e3 e1⟩
  · obtain ⟨a, b⟩ := h2 F2 H2 c eb ef x
    exact ⟨xs, a, by rw [b.len]; simp [seqIt]⟩
theorem src_s {ns : List Int} (h : EE K te ρ m (.scr ns)) : Src K (iList K te) ρ true (seqIt .f (ns.map .int)) := fun B F H σ e R q => h B F H σ e _ fun v F1 H1 g dv => by
  obtain ⟨p, xs, rfl, h1, h2⟩ := keepS (e.eb.trans g.h) g.i dv
  refine ⟨p, rfl, ⟨xs, h1⟩, q _ F1 H1 g (fun F2 H2 c _ eb ef x k it hk => ?_) fun F2 H2 c _ eb ef x => ?_⟩
  · obtain ⟨a, b⟩ := h2 F2 H2 c eb ef x
    obtain ⟨d0, e1, rfl⟩ := map_one hk
    have hk' : k < xs.length := by rw [b.len]; exact (List.getElem?_eq_some_iff.mp e1).1
    obtain ⟨q1, q2⟩ := itl_go (K := K) a hk'
    refine ⟨q1, fun y H3 hy => ?_⟩
    obtain ⟨e2, e3⟩ := q2 y H3 hy
    subst e2
    exact ⟨Ex.refl _, Val.at b e3 e1⟩
  · obtain ⟨a, b⟩ := h2 F2 H2 c eb ef x
    exact ⟨xs, a, by rw [b.len]; simp [seqIt]⟩
end
end QL

end
section
set_option maxRecDepth 100000
set_option maxHeartbeats 2000000
namespace QL
open PySem PySem.Spec PyProof.Rows L2 Evl

/-! ### statements -/
inductive Out where
  | nx (ρ : List Sl) | bk (ρ : List Sl) | ct (ρ : List Sl)
  | rt (m : Md) (d : D)
  /-- raises x, its slots then -/
  | xs (x : Er) (ρ : List Sl)
/-- the frame has grown by new things alone -/
structure Chg (B F F' : Hp) : Prop where
  f : Ex F F'
  n : ∀ p, B p ≠ none → F p = none → F' p = none
theorem Chg.refl (B F : Hp) : Chg B F F := ⟨Ex.refl _, fun _ _ h => h⟩
theorem Chg.trans {B F F1 F2 : Hp} (a : Chg B F F1) (b : Chg B F1 F2) : Chg B F F2 := ⟨a.f.trans b.f, fun p h1 h2 => b.n p h1 (a.n p h1 h2)⟩
theorem Grow.chg {B F H F' H' : Hp} (g : Grow F H F' H') (e : Ex B H) : Chg B F F' := ⟨g.f, fun p h1 h2 => g.n p h2 (ex_some e h1)⟩
def Post (K : PySem.W.Frag) (W : WX) (B F : Hp) (Dn : Ends) : Out → Prop
  | .nx ρ' => ∀ σ' F' H', Chg B F F' → EnvOk K B F' H' σ' ρ' → Dn.nx σ' H'
  | .bk ρ' => ∀ σ' F' H', Chg B F F' → EnvOk K B F' H' σ' ρ' → Dn.bk σ' H'
  | .ct ρ' => ∀ σ' F' H', Chg B F F' → EnvOk K B F' H' σ' ρ' → Dn.ct σ' H'
  | .rt m d => ∀ v F' H', Chg B F F' → Ex B H' → Ex F' H' → Val K m B B F' H' v d → Dn.rt v H'
  | .xs x ρ' => ∀ σ' d F' H', Chg B F F' → EnvOk K B F' H' σ' ρ' → ErAt K F' x d → W (.ref x.C) d σ' H'
theorem Post.chg {K : PySem.W.Frag} {W : WX} {B F F1 : Hp} {Dn : Ends} {o : Out} (h : Post K W B F Dn o) (c : Chg B F F1) : Post K W B F1 Dn o := by
  cases o with
  | nx ρ' => exact fun σ' F' H' c' e => h σ' F' H' (c.trans c') e
  | bk ρ' => exact fun σ' F' H' c' e => h σ' F' H' (c.trans c') e
  | ct ρ' => exact fun σ' F' H' c' e => h σ' F' H' (c.trans c') e
  | rt m d => exact fun v F' H' c' e => h v F' H' (c.trans c') e
  | xs x ρ' => exact fun σ' d F' H' c' e => h σ' d F' H' (c.trans c') e
def Run (K : PySem.W.Frag) (W : WX) (ts : TS) (ρ : List Sl) (o : Out) : Prop := ∀ B F H σ (Dn : Ends), EnvOk K B F H σ ρ → Post K W B F Dn o → ts Dn σ H
section
variable {K : PySem.W.Frag} {W : WX} {ρ ρ1 ρ2 : List Sl} {t u : TS} {o : Out} {te ta tb ti : TE} {tt : TT} {m m1 : Md} {d : D} {ds es : List D} {i j : Nat} {b : Bool}
def Out.stops : Out → Bool
  | .nx _ => false
  | _ => true
theorem Post.nx {B F : Hp} {Dn : Ends} {N : L2.St → Hp → Prop} (hs : o.stops = true) (h : Post K W B F Dn o) : Post K W B F { Dn with nx := N } o := by
  cases o with
  | nx ρ' => cases hs
  | bk ρ' => exact h
  | ct ρ' => exact h
  | rt m d => exact h
  | xs x ρ' => exact h
theorem run_seq (h1 : Run K W t ρ (.nx ρ1)) (h2 : Run K W u ρ1 o) : Run K W (tSeq t u) ρ o := fun B F H σ Dn e p =>
  h1 B F H σ { Dn with nx := u Dn } e fun σ' F' H' c e' => h2 B F' H' σ' Dn e' (p.chg c)
theorem run_stop (hs : o.stops = true) (h1 : Run K W t ρ o) : Run K W (tSeq t u) ρ o := fun B F H σ Dn e p => h1 B F H σ { Dn with nx := u Dn } e (p.nx hs)
theorem run_next : Run K W tNext ρ (.nx ρ) := fun B F H σ Dn e p => p σ F H (Chg.refl _ _) e
theorem run_break : Run K W tBreak ρ (.bk ρ) := fun B F H σ Dn e p => p σ F H (Chg.refl _ _) e
theorem run_cont : Run K W tCont ρ (.ct ρ) := fun B F H σ Dn e p => p σ F H (Chg.refl _ _) e
theorem run_if (h : ET K tt ρ b) (h1 : b = true → Run K W t ρ o) (h2 : b = false → Run K W u ρ o) : Run K W (tIfS tt t u) ρ o := fun B F H σ Dn e p =>
  h B F H σ e _ fun F1 H1 g => by
    cases b with
    | true =>
      show t Dn σ H1
      exact h1 rfl B F1 H1 σ Dn (e.grow g) (p.chg (g.chg e.eb))
    | false =>
      show u Dn σ H1
      exact h2 rfl B F1 H1 σ Dn (e.grow g) (p.chg (g.chg e.eb))
/-- the slot of a name that takes a value -/
def slotV (m : Md) (d : D) : Option Sl := if imm d = true then some (.dat d) else match m, d with
  | .f, d => some (.dat d)
  | .b, d => some (.bor d)
  | .n, .lst ds => some (.own ds)
  | .n, .dic ks ds => some (.ownD ks ds)
  | .n, .dit ks ds => some (.ownT ks ds)
  | _, _ => none
theorem EnvOk.take {B F H F1 H1 : Hp} {σ : L2.St} (e : EnvOk K B F H σ ρ) (g : Grow F H F1 H1) {v : V} {s : Sl} (h : slotV m d = some s) (hv : Val K m B H F1 H1 v d) (i : Nat) : EnvOk K B F1 H1 (σ.set i (some v)) (ρ.set i s) := by
  unfold slotV at h
  have e1 := e.grow g
  split at h
  · rename_i hi
    cases h
    exact e1.put_dat i ((hv.toH e1.eb).imm hi)
  · cases m with
    | f => cases h; exact e1.put_dat i hv
    | b => cases h; exact e1.put_bor i hv
    | h => cases h
    | o => cases h
    | n =>
      obtain ⟨p, rfl, h1, h2, h3⟩ := hv
      rcases h3 with ⟨xs, ds, rfl, a1, a2⟩ | ⟨ks, xs, ds, rfl, a1, l, a2⟩ | ⟨ks, xs, ds, rfl, a1, l, a2⟩
      · cases h
        exact e1.put_own i h1 (fresh_back e.eb h2) a1 a2 fun k _ o => (e.mine o).2.2 h2
      · cases h
        exact e1.put_ownD i h1 (fresh_back e.eb h2) a1 l a2 fun k _ o => (e.mine o).2.2 h2
      · cases h
        exact e1.put_ownT i h1 (fresh_back e.eb h2) a1 l a2 fun k _ o => (e.mine o).2.2 h2
theorem run_set {s : Sl} (h : EE K te ρ m d) (hs : slotV m d = some s) : Run K W (tAsg te (gName i)) ρ (.nx (ρ.set i s)) := fun B F H σ Dn e p =>
  h B F H σ e _ fun v F1 H1 g dv => p _ F1 H1 (g.chg e.eb) (e.take g hs dv i)
/-- a target with a pattern -/
theorem run_pat {g : TG} {pt : Pat} (hg : GP K g pt) (h : EE K te ρ m d) (hm : m ≠ .n) (hb : bindP pt ρ (.one m d) = some ρ1) : Run K W (tAsg te g) ρ (.nx ρ1) := fun B F H σ Dn e p =>
  h B F H σ e _ fun v F1 H1 gr dv => by
    have e1 := e.grow gr
    have dv' : Val K m B H1 F1 H1 v d := by
      cases m with
      | n => exact absurd rfl hm
      | f => exact dv
      | b => exact dv
      | h => exact dv
      | o => exact dv
    exact hg.run e1.eb e1.ef hb e1 dv' _ fun σ' e' _ _ => p σ' F1 H1 (gr.chg e.eb) e'
theorem run_ret (h : EE K te ρ m d) : Run K W (tRet te) ρ (.rt m d) := fun B F H σ Dn e p =>
  h B F H σ e _ fun v F1 H1 g dv => p v F1 H1 (g.chg e.eb) (e.eb.trans g.h) g.i (dv.back e.eb)
theorem run_retO (h : ρ[i]? = some (.own ds)) : Run K W (tRet (tVar i)) ρ (.rt .n (.lst ds)) := fun B F H σ Dn e p => by
  obtain ⟨q, xs, h1, h2, h3, h4, h5⟩ := e.own h
  exact ⟨_, h1, p _ F H (Chg.refl _ _) e.eb e.ef ⟨q, rfl, h2, h3, .inl ⟨xs, ds, rfl, h4, h5⟩⟩⟩
theorem run_retOD {ks : List Key} (h : ρ[i]? = some (.ownD ks ds)) : Run K W (tRet (tVar i)) ρ (.rt .n (.dic ks ds)) := fun B F H σ Dn e p => by
  obtain ⟨q, xs, h1, h2, h3, h4, l, h5⟩ := e.ownD h
  exact ⟨_, h1, p _ F H (Chg.refl _ _) e.eb e.ef ⟨q, rfl, h2, h3, .inr (.inl ⟨ks, xs, ds, rfl, h4, l, h5⟩)⟩⟩
theorem run_retOT {ks : List (List Key)} (h : ρ[i]? = some (.ownT ks ds)) : Run K W (tRet (tVar i)) ρ (.rt .n (.dit ks ds)) := fun B F H σ Dn e p => by
  obtain ⟨q, xs, h1, h2, h3, h4, l, h5⟩ := e.ownT h
  exact ⟨_, h1, p _ F H (Chg.refl _ _) e.eb e.ef ⟨q, rfl, h2, h3, .inr (.inr ⟨ks, xs, ds, rfl, h4, l, h5⟩)⟩⟩
/-- an owned thing is frozen -/
def frzS : Sl → Sl
  | .own ds => .dat (.lst ds)
  | .ownD ks ds => .dat (.dic ks ds)
  | .ownT ks ds => .dat (.dit ks ds)
  | s => s
theorem set_same {i : Nat} {s : Sl} (h : ρ[i]? = some s) : ρ.set i s = ρ := by
  apply List.ext_getElem?
  intro j
  by_cases hj : i = j
  · subst hj
    rw [List.getElem?_set_self (List.getElem?_eq_some_iff.mp h).1, h]
  · rw [List.getElem?_set_ne hj]
theorem Run.same {ρ' : List Sl} (h : Run K W t ρ' o) (e : ρ' = ρ) : Run K W t ρ o := e ▸ h
theorem run_frz (i : Nat) (h1 : Run K W t (ρ.set i (frzS (ρ.getD i .un))) o) : Run K W t ρ o := fun B F H σ Dn e p => by
  by_cases hi : i < ρ.length
  · have hg : ρ[i]? = some (ρ.getD i .un) := by rw [List.getD_eq_getElem?_getD, List.getElem?_eq_getElem hi]; rfl
    cases hs : ρ.getD i .un with
    | own ds =>
      rw [hs] at hg h1
      obtain ⟨q, xs, a, b, e'⟩ := e.freeze hg
      exact h1 B _ H σ Dn e' (p.chg ⟨Ex.new b, fun p' z1 z2 => by
        rw [upd_ne (fun z => z1 (by rw [z]; exact a))]; exact z2⟩)
    | ownD ks ds =>
      rw [hs] at hg h1
      obtain ⟨q, xs, a, b, e'⟩ := e.freezeD hg
      exact h1 B _ H σ Dn e' (p.chg ⟨Ex.new b, fun p' z1 z2 => by
        rw [upd_ne (fun z => z1 (by rw [z]; exact a))]; exact z2⟩)
    | ownT ks ds =>
      rw [hs] at hg h1
      obtain ⟨q, xs, a, b, e'⟩ := e.freezeT hg
      exact h1 B _ H σ Dn e' (p.chg ⟨Ex.new b, fun p' z1 z2 => by
        rw [upd_ne (fun z => z1 (by rw [z]; exact a))]; exact z2⟩)
    | un | dat _ | bor _ | err _ _ _ | slf _ _ _ _ _ =>
      rw [hs] at hg h1
      exact h1.same (set_same hg) B F H σ Dn e p
  · rw [List.set_eq_of_length_le (by omega)] at h1
    exact h1 B F H σ Dn e p
theorem tyV_lst {H : Hp} {p : Addr} {xs : List V} (h : H p = some (.lst xs)) : tyV K "list" (.ref p) H := Or.inl ⟨rfl, xs, .inl (.inl h)⟩
theorem run_append (h : ρ[i]? = some (.own ds)) (hv : EE K te ρ m d) (c : cf m d = true) (hl : ds.length < 100000) : Run K W (tDrop (tBM K "list" rAppend (tVar i) (tCons te tNil))) ρ (.nx (ρ.set i (.own (ds ++ [d])))) := fun B F H σ Dn e p => by
  obtain ⟨q, xs, h1, h2, h3, h4, h5⟩ := e.own h
  refine ⟨_, h1, tyV_lst h4, ?_⟩
  refine (hv.f c) B F H σ e _ fun v F1 H1 g dv => ?_
  refine ⟨q, xs, v, rfl, rfl, g.h _ _ h4, sz_lt (by rw [h5.len]; exact hl), ?_⟩
  exact p _ F1 _ (g.chg e.eb) ((e.grow g).mut h h1 (.append (h5.mono g.f) (.one dv)))
theorem DtA.take {H : Hp} : ∀ {vs : List V} {ds : List D} (n : Nat), DtA K H vs ds → DtA K H (vs.take n) (ds.take n)
  | _, _, 0, _ => .nil
  | _, _, _ + 1, .nil => .nil
  | _, _, n + 1, .cons a b => .cons a (DtA.take n b)
theorem DtA.drop {H : Hp} : ∀ {vs : List V} {ds : List D} (n : Nat), DtA K H vs ds → DtA K H (vs.drop n) (ds.drop n)
  | _, _, 0, h => h
  | _, _, _ + 1, .nil => .nil
  | _, _, n + 1, .cons a b => DtA.drop n b
theorem run_ins {n : Int} (h : ρ[i]? = some (.own ds)) (hi : EE K ti ρ m1 (.int n)) (hv : EE K te ρ m d) (c : cf m d = true) (hl : ds.length < 100000) (h0 : 0 ≤ n) (h1 : n < 2 ^ 63) : Run K W (tDrop (tBM K "list" (fun x vs H Q => ∃ (l : Addr) (xs : List V) (i : Int) (y : V), x = .ref l ∧ vs = [.int i, y] ∧ H l = some (.lst xs) ∧ xs.length < sizeLine ∧ 0 ≤ i ∧ i < 2 ^ 63 ∧
    Q .non (upd H l (.lst (xs.take i.toNat ++ [y] ++ xs.drop i.toNat)))) (tVar i) (tCons ti (tCons te tNil)))) ρ (.nx (ρ.set i (.own (ds.take n.toNat ++ [d] ++ ds.drop n.toNat)))) := fun B F H σ Dn e p => by
  obtain ⟨q, xs, g1, g2, g3, g4, g5⟩ := e.own h
  refine ⟨_, g1, tyV_lst g4, ?_⟩
  refine hi.h B F H σ e _ fun w F0 H0 g0 dw => ?_
  refine (hv.f c) B F0 H0 σ (e.grow g0) _ fun v F1 H1 g dv => ?_
  have g5' := (g5.mono g0.f).mono g.f
  refine ⟨q, xs, n, v, rfl, by rw [DtM.int_inv dw], g.h _ _ (g0.h _ _ g4), sz_lt (by rw [g5.len]; exact hl), h0, h1, ?_⟩
  exact p _ F1 _ ((g0.trans g).chg e.eb) (((e.grow g0).grow g).mut h g1 (.append (.append (g5'.take _) (.one dv)) (g5'.drop _)))
theorem run_seti {n : Int} {k : Nat} (h : ρ[i]? = some (.own ds)) (hv : EE K te ρ m d) (c : cf m d = true) (hi : EE K ti ρ m1 (.int n)) (hk : ixN ds.length n = some k) : Run K W (tAsg te (gSub (tVar i) ti rSetL)) ρ (.nx (ρ.set i (.own (ds.set k d)))) := fun B F H σ Dn e p =>
  (hv.f c) B F H σ e _ fun v F1 H1 g dv => by
    obtain ⟨q, xs, h1, h2, h3, h4, h5⟩ := (e.grow g).own h
    refine ⟨_, h1, ?_⟩
    refine hi.h B F1 H1 σ (e.grow g) _ fun w F2 H2 g2 dw => ?_
    have ew := DtM.int_inv dw
    subst ew
    refine ⟨q, xs, n, k, rfl, rfl, g2.h _ _ h4, by rw [h5.len]; exact hk, ?_⟩
    exact p _ F2 _ ((g.trans g2).chg e.eb) (((e.grow g).grow g2).mut h h1 (.set (Dt.mono g2.f dv) k (h5.mono g2.f)))
/-- an expression that raises -/
def XX (K : PySem.W.Frag) (te : TE) (ρ : List Sl) (W : WX) (x : Er) : Prop := ∀ B F H σ, EnvOk K B F H σ ρ → (∀ d F' H', Grow F H F' H' → ErAt K F' x d → W (.ref x.C) d σ H') → ∀ Q : VK, te σ H Q
theorem run_setX {g : TG} {x : Er} (h : XX K te ρ W x) : Run K W (tAsg te g) ρ (.xs x ρ) := fun B F H σ Dn e p => h B F H σ e (fun d F1 H1 g1 er => p σ d F1 H1 (g1.chg e.eb) (e.grow g1) er) _
theorem run_retX {x : Er} (h : XX K te ρ W x) : Run K W (tRet te) ρ (.xs x ρ) := fun B F H σ Dn e p => h B F H σ e (fun d F1 H1 g1 er => p σ d F1 H1 (g1.chg e.eb) (e.grow g1) er) _
theorem run_dropX {x : Er} (h : XX K te ρ W x) : Run K W (tDrop te) ρ (.xs x ρ) := fun B F H σ Dn e p => h B F H σ e (fun d F1 H1 g1 er => p σ d F1 H1 (g1.chg e.eb) (e.grow g1) er) _
/-- an error that is made, raised -/
def EM (K : PySem.W.Frag) (t : L2.St → Hp → XK → Prop) (ρ : List Sl) (x : Er) : Prop := ∀ B F H σ, EnvOk K B F H σ ρ → ∀ Q : XK, (∀ d F' H', Grow F H F' H' → ErAt K F' x d → Q (.ref x.C) d H') → t σ H Q
theorem run_raise {t : L2.St → Hp → XK → Prop} {x : Er} (h : EM K t ρ x) : Run K W (fun _ σ H => t σ H fun cls d H' => W cls d σ H') ρ (.xs x ρ) := fun B F H σ Dn e p =>
  h B F H σ e _ fun d F1 H1 g er => p σ d F1 H1 (g.chg e.eb) (e.grow g) er
theorem putF_new {f : Str} {y : V} : ∀ {ns : List Str} {xs : List V}, f ∉ ns → xs.length = ns.length → L2.putF f y (ns.zip xs) = (ns ++ [f]).zip (xs ++ [y])
  | [], [], _, _ => rfl
  | n :: ns, x :: xs, h, hl => by
    rw [List.zip_cons_cons]
    unfold L2.putF
    rw [if_neg (fun e => h (by rw [e]; exact List.mem_cons_self)), putF_new (fun z => h (List.mem_cons_of_mem _ z)) (by simpa using hl)]
    rfl
/-- self.f = e in an __init__, f not there before -/
theorem run_setF {a dx C : Addr} {ns : List Str} {f : Str} (h0 : ρ[i]? = some (.slf a dx C ns ds)) (h : EE K te ρ m d) (c : cf m d = true) (cc : Cls K C) (n : NoAttr K C f) (hf0 : f ∉ ns) (hsz : ns.length < 1000) : Run K W (sFld K (tVar i) te f) ρ (.nx (ρ.set i (.slf a dx C (ns ++ [f]) (ds ++ [d])))) := fun B F H σ Dn e p =>
  (h.f c) B F H σ e _ fun v F1 H1 g dv => by
    have e1 := e.grow g
    obtain ⟨xs, h1, hf, hb, hi, hl, hd⟩ := e1.slf h0
    refine ⟨_, h1, a, C, dx, _, rfl, hi, cc, n, by rw [List.length_zip]; omega, ?_⟩
    rw [putF_new hf0 hl]
    exact p σ F1 _ (g.chg e.eb) (e1.mutAny ⟨h1, _, h0, rfl⟩ rfl (.slf hf hb upd_same (by simp [hl]) (hd.append (.one dv))))
theorem run_drop (h : EE K te ρ m d) : Run K W (tDrop te) ρ (.nx ρ) := fun B F H σ Dn e p => h B F H σ e _ fun v F1 H1 g _ => p σ F1 H1 (g.chg e.eb) (e.grow g)

/-! ### loops -/
/-- what a loop comes to -/
inductive Loop (K : PySem.W.Frag) (W : WX) (body : TS) (pt : Pat) : List Item → List Sl → Out → Prop where
  | done {ρ : List Sl} : Loop K W body pt [] ρ (.nx ρ)
  | step {it : Item} {its : List Item} {ρ ρ1 ρ' : List Sl} {o : Out} : bindP pt ρ it = some ρ1 → Run K W body ρ1 (.nx ρ') → Loop K W body pt its ρ' o → Loop K W body pt (it :: its) ρ o
  | cont {it : Item} {its : List Item} {ρ ρ1 ρ' : List Sl} {o : Out} : bindP pt ρ it = some ρ1 → Run K W body ρ1 (.ct ρ') → Loop K W body pt its ρ' o → Loop K W body pt (it :: its) ρ o
  | brk {it : Item} {its : List Item} {ρ ρ1 ρ' : List Sl} : bindP pt ρ it = some ρ1 → Run K W body ρ1 (.bk ρ') → Loop K W body pt (it :: its) ρ (.nx ρ')
  | ret {it : Item} {its : List Item} {ρ ρ1 : List Sl} {m : Md} {d : D} : bindP pt ρ it = some ρ1 → Run K W body ρ1 (.rt m d) → Loop K W body pt (it :: its) ρ (.rt m d)
  | exc {it : Item} {its : List Item} {ρ ρ1 ρ' : List Sl} {x : Er} : bindP pt ρ it = some ρ1 → Run K W body ρ1 (.xs x ρ') → Loop K W body pt (it :: its) ρ (.xs x ρ')
theorem run_for {body : TS} {g : TG} {wi : TI} {pt : Pat} {its : List Item} (hw : Src K wi ρ true its) (hg : GP K g pt) (hl : Loop K W body pt its ρ o) : Run K W (tFor wi g body) ρ o := fun B F H σ Dn e p => by
  refine hw B F H σ e _ fun J F1 H1 g1 hgo hst => ?_
  refine ⟨fun k n σ' H' => n = its.length - k ∧ k ≤ its.length ∧ ∃ F' ρ', Chg B F1 F' ∧ EnvOk K B F' H' σ' ρ' ∧ Loop K W body pt (its.drop k) ρ' o, ⟨its.length, by simp, Nat.zero_le _, F1, ρ, Chg.refl _ _, e.grow g1, hl⟩, fun k n σ' H' hW => ?_⟩
  obtain ⟨rfl, hk, F', ρ', c, e', l⟩ := hW
  have c1 : Chg B F F' := (g1.chg e.eb).trans c
  let N0 : L2.St → Hp → Prop := fun σ2 H2 => k + 1 ≤ its.length ∧ ∃ F'' ρ'', Chg B F1 F'' ∧ EnvOk K B F'' H2 σ2 ρ'' ∧ Loop K W body pt (its.drop (k + 1)) ρ'' o
  have turn : ∀ {o' : Out} {it : Item} {rest : List Item} {ρ1 : List Sl}, its.drop k = it :: rest → bindP pt ρ' it = some ρ1 → Run K W body ρ1 o' →
      Post K W B F' { Dn with nx := N0, ct := N0, bk := Dn.nx } o' →
        (J.stop k H' ∧ Dn.nx σ' H') ∨ (J.go k H' ∧ ∃ N : L2.St → Hp → Prop, (∀ σ2 H2, N σ2 H2 → ∃ m', m' < its.length - k ∧ m' = its.length - (k + 1) ∧ k + 1 ≤ its.length ∧ ∃ F'' ρ'', Chg B F1 F'' ∧ EnvOk K B F'' H2 σ2 ρ'' ∧ Loop K W body pt (its.drop (k + 1)) ρ'' o) ∧ ∀ x H2, J.yld k H' x H2 → g x σ' H2 fun σ2 H3 => body { Dn with nx := N, ct := N, bk := Dn.nx } σ2 H3) := fun {o' it rest ρ1} hd hb hr hP => by
    have hlt : k < its.length := by
      by_cases z : k < its.length
      · exact z
      · rw [List.drop_eq_nil_of_le (by omega)] at hd; cases hd
    have hit : its[k]? = some it := by
      have : (its.drop k)[0]? = some it := by rw [hd]; rfl
      rwa [List.getElem?_drop, Nat.add_zero] at this
    obtain ⟨h1, h2⟩ := hgo F' H' c.f c.n e'.eb e'.ef (fun z => nomatch z) k it hit
    refine .inr ⟨h1, N0, fun σ2 H2 h => ⟨its.length - (k + 1), by omega, rfl, h.1, h.2⟩, fun x H2 hy => ?_⟩
    obtain ⟨hx0, hx⟩ := h2 x H2 hy
    have e2 := e'.grow (Grow.up e'.ef hx0)
    exact hg.run e2.eb e2.ef hb e2 hx _ fun σ2 e3 _ _ => hr B F' H2 σ2 _ e3 hP
  have rest_eq : ∀ {it : Item} {rest : List Item}, its.drop k = it :: rest → rest = its.drop (k + 1) ∧ k + 1 ≤ its.length := fun {it rest} hd => by
    constructor
    · have : (its.drop k).drop 1 = rest := by rw [hd]; rfl
      rw [← this, List.drop_drop]
    · by_cases z : k < its.length
      · omega
      · rw [List.drop_eq_nil_of_le (by omega)] at hd; cases hd
  generalize hdk : its.drop k = rem at l
  cases l with
  | done =>
    have hkn : k = its.length := by
      have : (its.drop k).length = 0 := by rw [hdk]; rfl
      rw [List.length_drop] at this
      omega
    subst hkn
    exact .inl ⟨hst F' H' c.f c.n e'.eb e'.ef (fun z => nomatch z), p σ' F' H' c1 e'⟩
  | step hb hr hl =>
    obtain ⟨r1, r2⟩ := rest_eq hdk
    exact turn hdk hb hr fun σ2 F'' H2 c' e2 => ⟨r2, F'', _, c.trans c', e2, by rw [← r1]; exact hl⟩
  | cont hb hr hl =>
    obtain ⟨r1, r2⟩ := rest_eq hdk
    exact turn hdk hb hr fun σ2 F'' H2 c' e2 => ⟨r2, F'', _, c.trans c', e2, by rw [← r1]; exact hl⟩
  | brk hb hr => exact turn hdk hb hr fun σ2 F'' H2 c' e2 => p σ2 F'' H2 (c1.trans c') e2
  | ret hb hr => exact turn hdk hb hr fun v F'' H2 c' e2 => p v F'' H2 (c1.trans c') e2
  | exc hb hr => exact turn hdk hb hr fun σ2 d F'' H2 c' e2 => p σ2 d F'' H2 (c1.trans c') e2
end

/-! ### a def keeps its promise -/
def slot0 (d : D) : Sl := if imm d = true then .dat d else .bor d
def slots (n : Nat) (ds : List D) : List Sl := ds.map slot0 ++ List.replicate (n - ds.length) .un
theorem slots_mine {n : Nat} {ds : List D} {i : Nat} {s : Sl} (h : (slots n ds)[i]? = some s) : s.mine = false := by
  unfold slots at h
  rcases List.mem_append.mp (List.mem_of_getElem? h) with z | z
  · obtain ⟨d, _, e⟩ := List.mem_map.mp z
    subst e
    unfold slot0
    split <;> rfl
  · have e := (List.mem_replicate.mp z).2; subst e; rfl
section
variable {K : PySem.W.Frag} {W : WX} {ds : List D} {d : D} {m : Md} {t : TS}
theorem env_start {F H : Hp} {N : List Str} {vs : List V} (x : Ex F H) (h : DtMA K H F vs ds) : EnvOk K H F H (L2.start N vs) (slots N.length ds) := by
  refine ⟨Ex.refl _, x, ?_, fun i o s h1 h2 => ?_, fun i j p _ o1 _ => ?_⟩
  · unfold L2.start slots
    simp [h.len]
  · unfold L2.start at h1
    unfold slots at h2
    by_cases hi : i < ds.length
    · have hv : i < vs.length := by rw [h.len]; exact hi
      rw [List.getElem?_append_left (by simpa using hv), List.getElem?_map] at h1
      rw [List.getElem?_append_left (by simpa using hi), List.getElem?_map] at h2
      rw [List.getElem?_eq_getElem hv] at h1
      rw [List.getElem?_eq_getElem hi] at h2
      cases h1; cases h2
      have q := h.get2 (List.getElem?_eq_getElem hv) (List.getElem?_eq_getElem hi)
      show SlOk K H F H (some vs[i]) (slot0 ds[i])
      unfold slot0
      split
      · rename_i hi; exact .dat (q.imm hi)
      · exact .bor q
    · rw [List.getElem?_append_right (by simpa using (by omega : ds.length ≤ i))] at h2
      have := List.mem_of_getElem? h2
      have e := (List.mem_replicate.mp this).2
      subst e
      exact .un _
  · obtain ⟨_, s, b, c⟩ := o1
    rw [slots_mine b] at c
    cases c
/-- what a body hands back -/
def fin : Out → Option Res
  | .nx _ => some (.ok .f .non)
  | .rt m d => if cf m d = true then some (.ok (if m = .n then .n else .f) d) else none
  | .xs x _ => some (.er x)
  | _ => none
theorem fin_ok {F H : Hp} {N : List Str} {vs : List V} {Q : VK} {o : Out} (x : Ex F H) (h : DtMA K H F vs ds) (hr : Run K W t (slots N.length ds) o) (hf : fin o = some (.ok m d))
    (q : ∀ v F' H', Grow F H F' H' → Val K m Emp H F' H' v d → Q v H') : t { nx := fun _ H' => Q .non H', rt := Q } (L2.start N vs) H := by
  refine hr H F H _ _ (env_start x h) ?_
  have gr : ∀ {F' H' : Hp}, Chg H F F' → Ex H H' → Ex F' H' → Grow F H F' H' := fun c eb ef => ⟨c.f, ef, eb, fun p a b => c.n p b a⟩
  cases o with
  | nx ρ' =>
    cases hf
    exact fun σ' F' H' c e => q .non F' H' (gr c e.eb e.ef) Dt.non
  | bk _ => cases hf
  | ct _ => cases hf
  | xs _ _ => cases hf
  | rt m0 d0 =>
    simp only [fin] at hf
    split at hf
    · rename_i c
      simp only [Option.some.injEq, Res.ok.injEq] at hf
      obtain ⟨rfl, rfl⟩ := hf
      intro v F' H' ch eb ef hv
      by_cases hn : m0 = .n
      · subst hn
        rw [if_pos rfl] at q
        exact q v F' H' (gr ch eb ef) hv
      · rw [if_neg hn] at q
        refine q v F' H' (gr ch eb ef) ?_
        unfold cf at c
        simp only [Bool.or_eq_true, decide_eq_true_eq] at c
        rcases c with (rfl | rfl) | c
        · exact hv
        · exact absurd rfl hn
        · exact (hv.toH eb).imm c
    · cases hf
theorem fin_X {F H : Hp} {N : List Str} {vs : List V} {Q : VK} {E : XK} {x : Er} {ρ' : List Sl} (xF : Ex F H) (h : DtMA K H F vs ds) (hr : Run K (fun cls d _ H => E cls d H) t (slots N.length ds) (.xs x ρ'))
    (q : ∀ dx F' H', Grow F H F' H' → ErAt K F' x dx → E (.ref x.C) dx H') : t { nx := fun _ H' => Q .non H', rt := Q } (L2.start N vs) H :=
  hr H F H _ _ (env_start xF h) fun σ' d F' H' c e er => q d F' H' ⟨c.f, e.ef, e.eb, fun p a b => c.n p b a⟩ er
theorem fin_m {o : Out} (h : fin o = some (.ok m d)) : m = .f ∨ m = .n := by
  cases o with
  | nx _ => cases h; exact .inl rfl
  | bk _ => cases h
  | ct _ => cases h
  | xs _ _ => cases h
  | rt m0 d0 =>
    simp only [fin] at h
    split at h
    · simp only [Option.some.injEq, Res.ok.injEq] at h
      obtain ⟨rfl, rfl⟩ := h
      split
      · exact .inr rfl
      · exact .inl rfl
    · cases h
end
end QL

end
section
set_option maxRecDepth 100000
set_option maxHeartbeats 2000000
namespace QL
open PySem PySem.Spec PyProof.Rows L2 Evl
/-! ### comprehensions -/
def wipeR (ρ : List Sl) : List Nat → List Sl
  | [] => ρ
  | v :: vs => (wipeR ρ vs).set v .un
/-- may be put into the list -/
def okm (fz : Bool) (m : Md) (d : D) : Bool := cf m d || (!fz && decide (m = .b))
section
variable {K : PySem.W.Frag} {ρ : List Sl} {te ta tb : TE} {tt tt1 : TT} {wi wi1 : TI} {g g1 : TG} {m : Md} {d : D} {ds : List D} {pt pt1 : Pat} {vs vs1 : List Nat}
theorem EnvOk.wipe {B F H : Hp} {σ : L2.St} (e : EnvOk K B F H σ ρ) : ∀ vs : List Nat, EnvOk K B F H (L2.wipe σ vs) (wipeR ρ vs)
  | [] => e
  | v :: vs => (EnvOk.wipe e vs).put_un v none
theorem own1_wipe {σ : L2.St} {k : Nat} {p : Addr} : ∀ {vs : List Nat}, Own1 (L2.wipe σ vs) (wipeR ρ vs) k p → Own1 σ ρ k p
  | [], o => o
  | v :: vs, o => by
    by_cases hk : v = k
    · subst hk
      have := (own1_at o).1
      cases this
    · exact own1_wipe (own1_set hk o)
/-- something that nobody here holds is changed -/
theorem EnvOk.off {B F H : Hp} {σ : L2.St} (e : EnvOk K B F H σ ρ) {p : Addr} {u : HO} (hb : B p = none) (hf : F p = none) (hn : ∀ k : Nat, Own1 σ ρ k p → False) : EnvOk K B F (upd H p u) σ ρ := by
  refine ⟨Ex.mut e.eb hb, Ex.mut e.ef hf, e.len, fun i o s h1 h2 => ?_, e.dis⟩
  have q := e.sl i o s h1 h2
  cases q with
  | un => exact .un _
  | dat h => exact .dat h
  | bor h => exact .bor h
  | err h => exact .err h
  | @own p' xs es a b c d =>
    refine .own a b ?_ d
    rw [upd_ne (fun z => hn i ⟨by rw [← z]; exact h1, _, h2, rfl⟩)]
    exact c
  | @ownD p' ks xs es a b c l d =>
    refine .ownD a b ?_ l d
    rw [upd_ne (fun z => hn i ⟨by rw [← z]; exact h1, _, h2, rfl⟩)]
    exact c
  | @ownT p' ks xs es a b c l d =>
    refine .ownT a b ?_ l d
    rw [upd_ne (fun z => hn i ⟨by rw [← z]; exact h1, _, h2, rfl⟩)]
    exact c
  | @slf p' C dx ns xs es a b c l d =>
    refine .slf a b (dx := dx) ?_ l d
    rw [upd_ne (fun z => hn i ⟨by rw [← z]; exact h1, _, h2, rfl⟩)]
    exact c
/-- what a comprehension's clause gives of items -/
inductive LcR (K : PySem.W.Frag) (pt : Pat) (ρ0 : List Sl) (tt : TT) (te : TE) (fz : Bool) : List Item → List D → Prop where
  | nil : LcR K pt ρ0 tt te fz [] []
  | yes {it : Item} {its : List Item} {ρ1 : List Sl} {m : Md} {d : D} {ds : List D} : bindP pt ρ0 it = some ρ1 → ET K tt ρ1 true → EE K te ρ1 m d → okm fz m d = true → LcR K pt ρ0 tt te fz its ds → LcR K pt ρ0 tt te fz (it :: its) (d :: ds)
  | no {it : Item} {its : List Item} {ρ1 : List Sl} {ds : List D} : bindP pt ρ0 it = some ρ1 → ET K tt ρ1 false → LcR K pt ρ0 tt te fz its ds → LcR K pt ρ0 tt te fz (it :: its) ds
inductive LcR2 (K : PySem.W.Frag) (pt : Pat) (ρ0 : List Sl) (tt : TT) (wi1 : TI) (pt1 : Pat) (vs1 : List Nat) (tt1 : TT) (te : TE) (fz : Bool) : List Item → List D → Prop where
  | nil : LcR2 K pt ρ0 tt wi1 pt1 vs1 tt1 te fz [] []
  | yes {it : Item} {its its1 : List Item} {ρ1 : List Sl} {es ds : List D} : bindP pt ρ0 it = some ρ1 → ET K tt ρ1 true → Src K wi1 ρ1 true its1 → LcR K pt1 (wipeR ρ1 vs1) tt1 te fz its1 es → LcR2 K pt ρ0 tt wi1 pt1 vs1 tt1 te fz its ds → LcR2 K pt ρ0 tt wi1 pt1 vs1 tt1 te fz (it :: its) (es ++ ds)
  | no {it : Item} {its : List Item} {ρ1 : List Sl} {ds : List D} : bindP pt ρ0 it = some ρ1 → ET K tt ρ1 false → LcR2 K pt ρ0 tt wi1 pt1 vs1 tt1 te fz its ds → LcR2 K pt ρ0 tt wi1 pt1 vs1 tt1 te fz (it :: its) ds
def baseP (fz : Bool) (B : Hp) : Hp := if fz = true then Emp else B
theorem okm_dt {fz : Bool} {B H0 F H : Hp} {v : V} (eb : Ex B H) (c : okm fz m d = true) (h : EE K te ρ m d) : ∀ B F H σ, EnvOk K B F H σ ρ → ∀ Q : VK, (∀ v F' H', Grow F H F' H' → DtM K (baseP fz B) F' v d → Q v H') → te σ H Q := by
  unfold okm at c
  intro B F H σ e Q q
  by_cases c1 : cf m d = true
  · exact (h.f c1) B F H σ e Q fun v F' H' g dv => q v F' H' g (.fz dv)
  · simp only [c1, Bool.false_or, Bool.and_eq_true, Bool.not_eq_true', decide_eq_true_eq] at c
    obtain ⟨rfl, rfl⟩ := c
    exact h B F H σ e Q fun v F' H' g dv => q v F' H' g dv
theorem drop_cons {α : Type} {l : List α} {k : Nat} {x : α} {r : List α} (h : l.drop k = x :: r) : l[k]? = some x ∧ l.drop (k + 1) = r ∧ k < l.length := by
  have hlt : k < l.length := by
    by_cases z : k < l.length
    · exact z
    · rw [List.drop_eq_nil_of_le (by omega)] at h; cases h
  refine ⟨?_, ?_, hlt⟩
  · have : (l.drop k)[0]? = some x := by rw [h]; rfl
    rwa [List.getElem?_drop, Nat.add_zero] at this
  · have : (l.drop k).drop 1 = r := by rw [h]; rfl
    rw [← this, List.drop_drop]
theorem drop_nil {α : Type} {l : List α} {k : Nat} (hk : k ≤ l.length) (h : l.drop k = []) : k = l.length := by
  have : (l.drop k).length = 0 := by rw [h]; rfl
  rw [List.length_drop] at this
  omega
theorem wipe_wipe {σ : L2.St} {vs : List Nat} : L2.wipe (L2.wipe σ vs) vs = L2.wipe σ vs := by
  have key : ∀ ws : List Nat, (∀ w ∈ ws, w ∈ vs) → L2.wipe (L2.wipe σ ws) vs = L2.wipe σ vs := by
    intro ws
    induction ws with
    | nil => intro _; rfl
    | cons w ws ih =>
      intro h
      show L2.wipe ((L2.wipe σ ws).set w none) vs = _
      rw [wipe_set (h w List.mem_cons_self)]
      exact ih fun z hz => h z (List.mem_cons_of_mem _ hz)
  exact key vs fun _ h => h
/-- what holds of the list that is made, at Dl, when es are in it -/
structure Acc (K : PySem.W.Frag) (fz : Bool) (B F1 H1 : Hp) (Dl : Addr) (σ : L2.St) (ρ : List Sl) (F H : Hp) (es : List D) : Prop where
  c : Chg B F1 F
  x1 : Ex H1 H
  n : ∀ p, F1 p = none → H1 p ≠ none → F p = none
  fr : F Dl = none
  ex : ∃ acc, H Dl = some (.lst acc) ∧ DtMA K (baseP fz B) F acc es
  e : EnvOk K B F H σ ρ
theorem Acc.grow {fz : Bool} {B F1 H1 F H F' H' : Hp} {Dl : Addr} {σ : L2.St} {es : List D} (a : Acc K fz B F1 H1 Dl σ ρ F H es) (g : Grow F H F' H') : Acc K fz B F1 H1 Dl σ ρ F' H' es := by
  obtain ⟨acc, h1, h2⟩ := a.ex
  exact ⟨a.c.trans (g.chg a.e.eb), a.x1.trans g.h, fun p z1 z2 => g.n p (a.n p z1 z2) (ex_some a.x1 z2), g.n Dl a.fr (by rw [h1]; exact fun z => nomatch z), ⟨acc, g.h _ _ h1, h2.mono (Ex.refl _) g.f⟩, a.e.grow g⟩
theorem baseP_ex {fz : Bool} {B H : Hp} (e : Ex B H) : Ex (baseP fz B) H := by
  unfold baseP
  split
  · exact ex_emp _
  · exact e
theorem Acc.push {fz : Bool} {B F1 H1 F H : Hp} {Dl : Addr} {σ : L2.St} {es : List D} {v : V} (a : Acc K fz B F1 H1 Dl σ ρ F H es) (hD : H1 Dl = none) (bD : B Dl = none) (off : ∀ k : Nat, Own1 σ ρ k Dl → False) (dv : DtM K (baseP fz B) F v d) {acc : List V} (h1 : H Dl = some (.lst acc)) (h2 : DtMA K (baseP fz B) F acc es) :
    Acc K fz B F1 H1 Dl σ ρ F (upd H Dl (.lst (acc ++ [v]))) (es ++ [d]) := by
  exact ⟨a.c, Ex.mut a.x1 hD, a.n, a.fr, ⟨_, upd_same, h2.append (.cons dv .nil)⟩, a.e.off bD a.fr off⟩
/-- the mode of the made list -/
def lcm (fz : Bool) : Md := if fz = true then .n else .h
theorem Acc.val {fz : Bool} {B H0 F1 H1 F H : Hp} {Dl : Addr} {σ : L2.St} {es : List D} (a : Acc K fz B F1 H1 Dl σ ρ F H es) (h0 : H0 Dl = none) : Val K (lcm fz) B H0 F H (.ref Dl) (.lst es) := by
  obtain ⟨acc, h1, h2⟩ := a.ex
  unfold lcm
  cases fz with
  | true => exact ⟨Dl, rfl, a.fr, h0, .inl ⟨acc, es, rfl, h1, DtMA.emp h2⟩⟩
  | false => exact DtM.lst h1 (h2.mono (baseP_ex a.e.eb) (Ex.refl _))
theorem Src.go {st : Bool} {its : List Item} (hw : Src K wi ρ st its) {B F H : Hp} {σ : L2.St} (e : EnvOk K B F H σ ρ) {R : It → Hp → Prop} (h : ∀ (J : It) F' H', Grow F H F' H' →
    (∀ F2 H2, Chg B F' F2 → Ex B H2 → Ex F2 H2 → Ex H' H2 → ∀ (k : Nat) it, its[k]? = some it → J.go k H2 ∧ ∀ x H3, J.yld k H2 x H3 → Ex H2 H3 ∧ IVal K B F2 H3 x it) →
    (∀ F2 H2, Chg B F' F2 → Ex B H2 → Ex F2 H2 → Ex H' H2 → J.stop its.length H2) → R J H') : wi σ H R :=
  hw B F H σ e R fun J F' H' g a b => h J F' H' g (fun F2 H2 c eb ef x => a F2 H2 c.f c.n eb ef fun _ => x) fun F2 H2 c eb ef x => b F2 H2 c.f c.n eb ef fun _ => x
theorem e_lc {st fz : Bool} {its : List Item} (hw : Src K wi ρ st its) (hg : GP K g pt) (hv : ∀ i ∈ pt.vars, i ∈ vs) (hl : LcR K pt (wipeR ρ vs) tt te fz its ds) (hn : ds.length < 100000) : EE K (tLc wi g tt te vs) ρ (lcm fz) (.lst ds) := fun B F H σ e Q q => by
  refine hw.go e fun J F1 H1 g1 hgo hst => ?_
  intro Dl hD
  have e1 := e.grow g1
  have off : ∀ k : Nat, Own1 σ ρ k Dl → False := fun k o => (e1.mine o).2.2 hD
  have bD : B Dl = none := fresh_back e1.eb hD
  have fD : F1 Dl = none := fresh_back e1.ef hD
  refine ⟨fun k m H' => m = its.length - k ∧ k ≤ its.length ∧ ∃ F' es rem, es ++ rem = ds ∧ Acc K fz B F1 H1 Dl σ ρ F' H' es ∧ LcR K pt (wipeR ρ vs) tt te fz (its.drop k) rem,
    ⟨its.length, by simp, Nat.zero_le _, F1, [], ds, rfl, ⟨Chg.refl _ _, Ex.new hD, fun _ h _ => h, fD, ⟨[], upd_same, .nil⟩, e1.off bD fD off⟩, hl⟩, fun k m H' hW => ?_⟩
  obtain ⟨rfl, hk, F', es, rem, hr, a, l⟩ := hW
  generalize hdk : its.drop k = its' at l
  cases l with
  | nil =>
    have hkn := drop_nil hk hdk
    subst hkn
    refine .inl ⟨hst F' H' a.c a.e.eb a.e.ef a.x1, ?_⟩
    rw [List.append_nil] at hr
    subst hr
    exact q _ F' H' ⟨g1.f.trans a.c.f, a.e.ef, g1.h.trans a.x1, fun p z1 z2 => a.n p (g1.n p z1 z2) (ex_some g1.h z2)⟩ (a.val (fresh_back g1.h hD))
  | @yes it its0 ρ1 m d ds0 hb ht he hc hl0 =>
    obtain ⟨hit, hd2, hlt⟩ := drop_cons hdk
    obtain ⟨go1, go2⟩ := hgo F' H' a.c a.e.eb a.e.ef a.x1 k it hit
    refine .inr ⟨go1, fun H2 => ∃ F2, Acc K fz B F1 H1 Dl σ ρ F2 H2 (es ++ [d]), fun H2 h => ?_, fun x H2 hy => ?_⟩
    · obtain ⟨F2, a2⟩ := h
      exact ⟨its.length - (k + 1), by omega, rfl, hlt, F2, es ++ [d], ds0, by rw [← hr]; simp, a2, by rw [hd2]; exact hl0⟩
    · obtain ⟨y1, y2⟩ := go2 x H2 hy
      have g3 : Grow F' H' F' H2 := Grow.up a.e.ef y1
      have e3 := (a.grow g3).e.wipe vs
      refine hg.run e3.eb e3.ef hb e3 y2 _ fun σ' e4 hw' _ => ⟨?_, ?_⟩
      · have w1 := hw' vs hv
        rw [w1]
        exact wipe_wipe
      · refine ht B F' H2 σ' e4 _ fun F4 H4 g4 => ?_
        rw [if_pos rfl]
        refine okm_dt (H0 := H) (v := .non) (B := B) (H := H2) (F := F') e3.eb hc he B F4 H4 σ' (e4.grow g4) _ fun v F5 H5 g5 dv => ?_
        have a5 := ((a.grow g3).grow g4).grow g5
        obtain ⟨acc, h1, h2⟩ := a5.ex
        refine ⟨acc, h1, sz_lt (by rw [h2.len]; have := congrArg List.length hr; simp at this; omega), F5, a5.push hD bD off dv h1 h2⟩
  | @no it its0 ρ1 ds0 hb ht hl0 =>
    obtain ⟨hit, hd2, hlt⟩ := drop_cons hdk
    obtain ⟨go1, go2⟩ := hgo F' H' a.c a.e.eb a.e.ef a.x1 k it hit
    refine .inr ⟨go1, fun H2 => ∃ F2, Acc K fz B F1 H1 Dl σ ρ F2 H2 es, fun H2 h => ?_, fun x H2 hy => ?_⟩
    · obtain ⟨F2, a2⟩ := h
      exact ⟨its.length - (k + 1), by omega, rfl, hlt, F2, es, rem, hr, a2, by rw [hd2]; exact hl0⟩
    · obtain ⟨y1, y2⟩ := go2 x H2 hy
      have g3 : Grow F' H' F' H2 := Grow.up a.e.ef y1
      have e3 := (a.grow g3).e.wipe vs
      refine hg.run e3.eb e3.ef hb e3 y2 _ fun σ' e4 hw' _ => ⟨?_, ?_⟩
      · have w1 := hw' vs hv
        rw [w1]
        exact wipe_wipe
      · refine ht B F' H2 σ' e4 _ fun F4 H4 g4 => ?_
        rw [if_neg Bool.false_ne_true]
        exact ⟨F4, (a.grow g3).grow g4⟩
theorem e_lc2 {st fz : Bool} {its : List Item} (hw : Src K wi ρ st its) (hg : GP K g pt) (hg1 : GP K g1 pt1) (hv : ∀ i ∈ pt.vars, i ∈ vs) (hv1 : ∀ i ∈ pt1.vars, i ∈ vs1) (hl : LcR2 K pt (wipeR ρ vs) tt wi1 pt1 vs1 tt1 te fz its ds) (hn : ds.length < 100000) : EE K (tLc2 wi g tt wi1 g1 tt1 te vs vs1) ρ (lcm fz) (.lst ds) := fun B F H σ e Q q => by
  refine hw.go e fun J F1 H1 gr1 hgo hst => ?_
  intro Dl hD
  have e1 := e.grow gr1
  have off : ∀ k : Nat, Own1 σ ρ k Dl → False := fun k o => (e1.mine o).2.2 hD
  have bD : B Dl = none := fresh_back e1.eb hD
  have fD : F1 Dl = none := fresh_back e1.ef hD
  refine ⟨fun k m H' => m = its.length - k ∧ k ≤ its.length ∧ ∃ F' es rem, es ++ rem = ds ∧ Acc K fz B F1 H1 Dl σ ρ F' H' es ∧ LcR2 K pt (wipeR ρ vs) tt wi1 pt1 vs1 tt1 te fz (its.drop k) rem,
    ⟨its.length, by simp, Nat.zero_le _, F1, [], ds, rfl, ⟨Chg.refl _ _, Ex.new hD, fun _ h _ => h, fD, ⟨[], upd_same, .nil⟩, e1.off bD fD off⟩, hl⟩, fun k m H' hW => ?_⟩
  obtain ⟨rfl, hk, F', es, rem, hr, a, l⟩ := hW
  generalize hdk : its.drop k = its' at l
  cases l with
  | nil =>
    have hkn := drop_nil hk hdk
    subst hkn
    refine .inl ⟨hst F' H' a.c a.e.eb a.e.ef a.x1, ?_⟩
    rw [List.append_nil] at hr
    subst hr
    exact q _ F' H' ⟨gr1.f.trans a.c.f, a.e.ef, gr1.h.trans a.x1, fun p z1 z2 => a.n p (gr1.n p z1 z2) (ex_some gr1.h z2)⟩ (a.val (fresh_back gr1.h hD))
  | @yes it its0 its1 ρ1 es1 ds0 hb ht hs1 hl1 hl0 =>
    obtain ⟨hit, hd2, hlt⟩ := drop_cons hdk
    obtain ⟨go1, go2⟩ := hgo F' H' a.c a.e.eb a.e.ef a.x1 k it hit
    refine .inr ⟨go1, fun H2 => ∃ F2, Acc K fz B F1 H1 Dl σ ρ F2 H2 (es ++ es1), fun H2 h => ?_, fun x H2 hy => ?_⟩
    · obtain ⟨F2, a2⟩ := h
      exact ⟨its.length - (k + 1), by omega, rfl, hlt, F2, es ++ es1, ds0, by rw [← hr]; simp, a2, by rw [hd2]; exact hl0⟩
    · obtain ⟨y1, y2⟩ := go2 x H2 hy
      have g3 : Grow F' H' F' H2 := Grow.up a.e.ef y1
      have e3 := (a.grow g3).e.wipe vs
      refine hg.run e3.eb e3.ef hb e3 y2 _ fun σ' e4 hw' ho' => ⟨?_, ?_⟩
      · have w1 := hw' vs hv
        rw [w1]
        exact wipe_wipe
      · have off1 : ∀ k : Nat, Own1 σ' ρ1 k Dl → False := fun k o => off k (own1_wipe (ho' k Dl o))
        refine ht B F' H2 σ' e4 _ fun F4 H4 g4 => ?_
        rw [if_pos rfl]
        refine hs1 B F4 H4 σ' (e4.grow g4) _ fun J1 F5 H5 g5 hgo1 hst1 => ?_
        have a5 := ((a.grow g3).grow g4).grow g5
        refine ⟨fun j m H6 => m = its1.length - j ∧ j ≤ its1.length ∧ ∃ F6 es2 rem2, es2 ++ rem2 = es1 ∧ Chg B F5 F6 ∧ Acc K fz B F1 H1 Dl σ ρ F6 H6 (es ++ es2) ∧ EnvOk K B F6 H6 σ' ρ1 ∧ LcR K pt1 (wipeR ρ1 vs1) tt1 te fz (its1.drop j) rem2,
          ⟨its1.length, by simp, Nat.zero_le _, F5, [], es1, rfl, Chg.refl _ _, by rw [List.append_nil]; exact a5, (e4.grow g4).grow g5, hl1⟩, fun j m H6 hW1 => ?_⟩
        obtain ⟨rfl, hj, F6, es2, rem2, hr2, c6, a6, e6, l6⟩ := hW1
        generalize hdj : its1.drop j = its1' at l6
        cases l6 with
        | nil =>
          have hjn := drop_nil hj hdj
          subst hjn
          refine .inl ⟨hst1 F6 H6 c6.f c6.n e6.eb e6.ef (fun z => nomatch z), F6, ?_⟩
          rw [List.append_nil] at hr2
          subst hr2
          exact a6
        | @yes it1 its2 ρ2 m2 d2 ds2 hb1 ht1 he1 hc1 hl2 =>
          obtain ⟨hit1, hd3, hlt1⟩ := drop_cons hdj
          obtain ⟨go3, go4⟩ := hgo1 F6 H6 c6.f c6.n e6.eb e6.ef (fun z => nomatch z) j it1 hit1
          refine .inr ⟨go3, fun H2 => ∃ F2, Chg B F5 F2 ∧ Acc K fz B F1 H1 Dl σ ρ F2 H2 (es ++ (es2 ++ [d2])) ∧ EnvOk K B F2 H2 σ' ρ1, fun H2 h => ?_, fun x1 H7 hy1 => ?_⟩
          · obtain ⟨F2, c2, a2, e2⟩ := h
            exact ⟨its1.length - (j + 1), by omega, rfl, hlt1, F2, es2 ++ [d2], ds2, by rw [← hr2]; simp, c2, a2, e2, by rw [hd3]; exact hl2⟩
          · obtain ⟨y3, y4⟩ := go4 x1 H7 hy1
            have g7 : Grow F6 H6 F6 H7 := Grow.up e6.ef y3
            have e8 := (e6.grow g7).wipe vs1
            refine hg1.run e8.eb e8.ef hb1 e8 y4 _ fun σ3 e9 hw3 ho3 => ⟨?_, ?_⟩
            · have w1 := hw3 vs1 hv1
              rw [w1]
              exact wipe_wipe
            · refine ht1 B F6 H7 σ3 e9 _ fun F8 H8 g8 => ?_
              rw [if_pos rfl]
              refine okm_dt (H0 := H) (v := .non) (B := B) (H := H7) (F := F6) e8.eb hc1 he1 B F8 H8 σ3 (e9.grow g8) _ fun v F9 H9 g9 dv => ?_
              have a9 := ((a6.grow g7).grow g8).grow g9
              obtain ⟨acc, h1, h2⟩ := a9.ex
              refine ⟨acc, h1, sz_lt (by rw [h2.len]; have := congrArg List.length hr; have := congrArg List.length hr2; simp at *; omega), F9, ?_, ?_, ?_⟩
              · exact c6.trans (((g7.trans g8).trans g9).chg e6.eb)
              · rw [← List.append_assoc]
                exact a9.push hD bD off dv h1 h2
              · exact (((e6.grow g7).grow g8).grow g9).off bD a9.fr off1
        | @no it1 its2 ρ2 ds2 hb1 ht1 hl2 =>
          obtain ⟨hit1, hd3, hlt1⟩ := drop_cons hdj
          obtain ⟨go3, go4⟩ := hgo1 F6 H6 c6.f c6.n e6.eb e6.ef (fun z => nomatch z) j it1 hit1
          refine .inr ⟨go3, fun H2 => ∃ F2, Chg B F5 F2 ∧ Acc K fz B F1 H1 Dl σ ρ F2 H2 (es ++ es2) ∧ EnvOk K B F2 H2 σ' ρ1, fun H2 h => ?_, fun x1 H7 hy1 => ?_⟩
          · obtain ⟨F2, c2, a2, e2⟩ := h
            exact ⟨its1.length - (j + 1), by omega, rfl, hlt1, F2, es2, rem2, hr2, c2, a2, e2, by rw [hd3]; exact hl2⟩
          · obtain ⟨y3, y4⟩ := go4 x1 H7 hy1
            have g7 : Grow F6 H6 F6 H7 := Grow.up e6.ef y3
            have e8 := (e6.grow g7).wipe vs1
            refine hg1.run e8.eb e8.ef hb1 e8 y4 _ fun σ3 e9 hw3 ho3 => ⟨?_, ?_⟩
            · have w1 := hw3 vs1 hv1
              rw [w1]
              exact wipe_wipe
            · refine ht1 B F6 H7 σ3 e9 _ fun F8 H8 g8 => ?_
              rw [if_neg Bool.false_ne_true]
              exact ⟨F8, c6.trans ((g7.trans g8).chg e6.eb), (a6.grow g7).grow g8, (e6.grow g7).grow g8⟩
  | @no it its0 ρ1 ds0 hb ht hl0 =>
    obtain ⟨hit, hd2, hlt⟩ := drop_cons hdk
    obtain ⟨go1, go2⟩ := hgo F' H' a.c a.e.eb a.e.ef a.x1 k it hit
    refine .inr ⟨go1, fun H2 => ∃ F2, Acc K fz B F1 H1 Dl σ ρ F2 H2 es, fun H2 h => ?_, fun x H2 hy => ?_⟩
    · obtain ⟨F2, a2⟩ := h
      exact ⟨its.length - (k + 1), by omega, rfl, hlt, F2, es, rem, hr, a2, by rw [hd2]; exact hl0⟩
    · obtain ⟨y1, y2⟩ := go2 x H2 hy
      have g3 : Grow F' H' F' H2 := Grow.up a.e.ef y1
      have e3 := (a.grow g3).e.wipe vs
      refine hg.run e3.eb e3.ef hb e3 y2 _ fun σ' e4 hw' _ => ⟨?_, ?_⟩
      · have w1 := hw' vs hv
        rw [w1]
        exact wipe_wipe
      · refine ht B F' H2 σ' e4 _ fun F4 H4 g4 => ?_
        rw [if_neg Bool.false_ne_true]
        exact ⟨F4, (a.grow g3).grow g4⟩
end
end QL

end
section
set_option maxRecDepth 100000
set_option maxHeartbeats 2000000
namespace QL
open PySem PySem.Spec PyProof.Rows L2 Evl
/-! ### an error of one field, made -/
/-- what may stand in an error's text -/
def saidD : D → Bool
  | .str y => decide (y.length ≤ 1000)
  | .int i => decide (i.natAbs.log2 < 1920)
  | _ => false
/-- __init__(self, v): self.fld = v -/
def SpI (C : Addr) (fld : Str) : Sp := fun vs H Q _ => ∃ (a : Addr) (v : V), vs = [.ref a, v] ∧ ((∃ y : Str, v = .str y ∧ y.length ≤ 1000) ∨ ∃ i : Int, v = .int i ∧ i.natAbs.log2 < 1920) ∧ H a = some (exo a C none) ∧
  ∀ dx, H dx = none → dx ≠ a → Q .non (upd (upd H dx (exd dx [(fld, v)])) a (exo a C (some dx)))
section
variable {K : PySem.W.Frag} {W : WX} {ρ : List Sl} {ta : TA} {d : D} {x : Er}
theorem em_one {C : Addr} {fld : Str} (h : EA K ta ρ [d]) (s : saidD d = true) : EM K (tMkO C (SpI C fld) [] ta) ρ ⟨C, [fld], [d]⟩ := fun B F H σ e Q q =>
  h B F H σ e _ fun vs F1 H1 g1 dv => by
    obtain ⟨v, rfl, hv⟩ := dv.inv1
    have sv : ((∃ y : Str, v = .str y ∧ y.length ≤ 1000) ∨ ∃ i : Int, v = .int i ∧ i.natAbs.log2 < 1920) ∧ Dt K F1 v d := by
      cases d with
      | str y =>
        have := DtM.str_inv hv; subst this
        exact ⟨.inl ⟨y, rfl, of_decide_eq_true s⟩, hv.imm rfl⟩
      | int j =>
        have := DtM.int_inv hv; subst this
        exact ⟨.inr ⟨j, rfl, of_decide_eq_true s⟩, hv.imm rfl⟩
      | _ => cases s
    obtain ⟨sv, hv1⟩ := sv
    refine ⟨by simp, fun a ha => ⟨a, v, rfl, sv, upd_same, fun dx hd hne => ⟨rfl, dx, [(fld, v)], upd_same, ?_, ?_, ?_⟩⟩⟩
    · rw [upd_ne hne, upd_same]
    · rw [upd_ne hne] at hd
      exact hd
    · have hd1 : H1 dx = none := by rw [upd_ne hne] at hd; exact hd
      have eq : upd (L2.del (upd (upd (upd H1 a (exo a C none)) dx (exd dx [(fld, v)])) a (exo a C (some dx))) a) dx (.xd [(fld, v)]) = upd H1 dx (.xd [(fld, v)]) := by
        funext b
        by_cases hb : b = dx
        · rw [hb, upd_same, upd_same]
        · rw [upd_ne hb, upd_ne hb]
          by_cases hb2 : b = a
          · rw [hb2, del_same, ha]
          · rw [del_ne hb2, upd_ne hb2, upd_ne hb, upd_ne hb2]
      rw [eq]
      have g2 : Grow F1 H1 (upd F1 dx (.xd [(fld, v)])) (upd H1 dx (.xd [(fld, v)])) := Grow.new g1.i hd1
      refine q (some dx) _ _ (g1.trans g2) (.dict (vs := [v]) rfl upd_same (.one (hv1.mono g2.f)))
/-- an error class of one field: what a def needs to raise it -/
structure ErrOk (P : Program) (w : World) (K : PySem.W.Frag) (mg : Str → Option Value) (base : Heap) (x fld : Str) (C : Addr) : Prop where
  gC : mg x = some (.ref C)
  T : OexC K C
  ini : ∃ fI fd, PySem.W.findIn K (.ref C) "__init__" = some (some (.ref fI)) ∧ PySem.W.typeIn K (.ref fI) = some (.type "function") ∧ FnOk P w K mg base (L2.CX P w) 1 fI fd ["self", fld] (SpI C fld) ∧ Binds K fd ["self", fld] []
theorem pmk_err {X : Cx} {x fld : Str} {C : Addr} {k : Nat} {e : Expr} {t : TA} {p pos : Pos} (h : ErrOk X.prog X.w X.K X.mg X.base x fld C) (hr : Room k X.A) (hk : 2 ≤ k) (hg : Gl X x) (ha : PA X [e] t)
    (hdb : (x == ("__debug__" : Str)) = false) (he : starEach [e] X.env = (false, eval e X.env) :: starEach [] X.env) (hpl : (backTo pos (starEach [] X.env)).any (·.1) = false := by rfl) :
    PMk X (.Call (.Name x p) [e] [] pos) (tMkO C (SpI C fld) [] t) := by
  obtain ⟨fI, fd, iC, tI, F, hb⟩ := h.ini
  exact pmk_oex h.T iC tI (F.mono (show 1 ≤ k - 1 by omega)) (by rw [show k - 1 + 1 = k by omega]; exact hr) hb .nil passL hg h.gC ha hdb he hpl
/-- the making of an error whose argument raises another -/
theorem run_raiseX {t : TA} {C : Addr} {sp : Sp} {dvs : List V} (h : ∀ B F H σ, EnvOk K B F H σ ρ → (∀ d F' H', Grow F H F' H' → ErAt K F' x d → W (.ref x.C) d σ H') → ∀ Q : List V → Hp → Prop, t σ H Q) : Run K W (fun _ σ H => tMkO C sp dvs t σ H fun cls d H' => W cls d σ H') ρ (.xs x ρ) := fun B F H σ Dn e p =>
  h B F H σ e (fun d F1 H1 g er => p σ d F1 H1 (g.chg e.eb) (e.grow g) er) _
end
end QL

end
section
set_option maxRecDepth 100000
set_option maxHeartbeats 2000000
namespace QL
open PySem PySem.Spec PyProof.Rows L2 Evl
/-! ### calls of classes and methods that may raise, the wish by the slots -/
section
variable {X : Cx} {CX : CXT} {k : Nat} {f C : Addr} {fd : FuncData} {ps : List Str} {sp : Sp} {E : L2.St → XK} {x m : Str} {p pos apos : Pos} {e o : Expr} {es : List Expr} {ta : TE} {t : TA}
def tMakeS (C : Addr) (sp : Sp) (E : L2.St → XK) (t : TA) : TE := fun σ H Q => t σ H fun vs H1 => ∀ x dx, H1 x = none → H1 dx = none → dx ≠ x →
  sp (.ref x :: vs) (upd (upd H1 dx (.own x)) x (.ins C dx [])) (fun v H2 => v = .non ∧ Q (.ref x) H2) (E σ)
/-- the wish at one entry -/
theorem pe_makeS (M : Mk X.K C f) (F : FnOk X.prog X.w X.K X.mg X.base CX k f fd ps sp) (hr : Room (k + 1) X.A) (hg : Gl X x) (hm : X.mg x = some (.ref C)) (hb : Binds X.K fd ps []) (hx : ∀ σ, PassesAt CX X σ (E σ))
    (ha : PA X (e :: es) t) (hdb : (x == ("__debug__" : Str)) = false := by decide) (he : starEach (e :: es) X.env = (false, eval e X.env) :: starEach es X.env := by rfl) (hpl : (backTo pos (starEach es X.env)).any (·.1) = false := by rfl) :
    PE X (.Call (.Name x p) (e :: es) [] pos) (tMakeS C sp E t) := by
  refine ⟨fun pins s σ H Q I h => ?_⟩
  refine wpAny_Call_Name_kw (ld_glob I hg hm ?_ hdb)
  refine PySem.W.callWith_K (h₀ := X.base) I.ok.mod.kin M.kp (thn (ha.run pos pins s σ H _ I h) fun us s1 ⟨vs, H1, I1, r, q⟩ => ⟨I1.kIn, ?_⟩) he hpl
  have hq := q (s1.heap.objs.size + 1) s1.heap.objs.size (I1.hok.fresh (Nat.le_succ _)) (I1.hok.fresh (Nat.le_refl _)) (Nat.ne_of_lt (Nat.lt_succ_self _))
  have I2 := Inv.made (C := C) I1
  have r2 : Vals (V.ref (s1.heap.objs.size + 1) :: vs) (Value.ref (s1.heap.objs.size + 1) :: us) := .cons rfl r
  have hl : (Value.ref (s1.heap.objs.size + 1) :: us).length = ps.length := by rw [← r2.length]; exact F.len _ _ _ _ hq
  have b := hb _ (Value.ref (s1.heap.objs.size + 1) :: us) I2.kIn (by rw [List.append_nil]; exact hl)
  rw [List.append_nil] at b
  refine wpAny_call (make_map (f := f) I1.kIn M.makes M.init (beq_iff_eq.mp M.fn) (codeAny_mono (F.run _ X.stack _ _ ⟨Value.ref (s1.heap.objs.size + 1) :: us, []⟩ _ _ _ (E σ) (hr.make C us []) (I2.env0.make C us []) b r2 hq) fun r s' hq' => ?_))
  cases r with
  | error er => exact hx σ pins _ _ er s' I2 hq'
  | ok fl =>
    cases fl with
    | ret u =>
      obtain ⟨v, H', I3, rv, ev, q3⟩ := I2.after hq'
      subst ev
      exact ⟨rv, ⟨V.ref (s1.heap.objs.size + 1), H', I3, rfl, q3⟩⟩
    | next => exact False.elim hq'
    | brk => exact False.elim hq'
    | cont => exact False.elim hq'
def tMethS (C : Addr) (m : Str) (sp : Sp) (E : L2.St → XK) (ta : TE) (t : TA) : TE := fun σ H Q => ta σ H fun x H1 => ∃ a dx fs, x = .ref a ∧ H1 a = some (.ins C dx fs) ∧ fs.lookup m = none ∧ t σ H1 fun vs H2 => sp (x :: vs) H2 Q (E σ)
theorem pe_methX {pl : Sem Bool} (he : PE X o ta) (c : Cls X.K C) (hm : Meth X.K C m f) (F : FnOk X.prog X.w X.K X.mg X.base CX k f fd ps sp) (hr : Room k X.A) (hb : Binds X.K fd ps []) (hx : ∀ σ, PassesAt CX X σ (E σ)) (ha : PA X (e :: es) t)
    (hst : starEach (e :: es) X.env = (false, eval e X.env) :: starEach es X.env := by rfl) (hpl : (backTo pos (starEach es X.env)).any (·.1) = false := by rfl)
    (ht : eval (.Call (.Attribute o m apos) (e :: es) [] pos) X.env = (do
      let ov ← eval o X.env
      standAt apos.atName
      let (f, first) ← holding [ov] (getMethod ov m pl)
      callWith pos f first (backTo pos (starEach (e :: es) X.env)) (backToKw pos (keywordEach [] X.env))) := by rfl) :
    PE X (.Call (.Attribute o m apos) (e :: es) [] pos) (tMethS C m sp E ta t) := by
  refine ⟨fun pins s σ H Q I h => ?_⟩
  refine PySem.W.methodCall_KW (pl := pl) (thn (he.run pins s σ H _ I h) fun u s1 ⟨x, H1, I1, rx, a, dx, fs, ex, ea, l, q⟩ => ?_) ht
  subst ex
  obtain rfl : u = Value.ref a := rx
  refine getmeth_ok I1 ea c hm l ?_
  exact PySem.W.callWith_K (first := [.ref a]) (h₀ := X.base) I.ok.mod.kin hm.kp (thn (ha.run pos pins s1 σ H1 _ I1 q) fun us s2 ⟨vs, H2, I2, r, q2⟩ => ⟨I2.kIn, run_fnS (us := .ref a :: us) (vs := .ref a :: vs) F hr hb (hx σ) I2 (.cons rfl r) q2⟩) hst hpl
theorem pe_methX0 {pl : Sem Bool} (he : PE X o ta) (c : Cls X.K C) (hm : Meth X.K C m f) (F : FnOk X.prog X.w X.K X.mg X.base CX k f fd ps sp) (hr : Room k X.A) (hb : Binds X.K fd ps []) (hx : ∀ σ, PassesAt CX X σ (E σ))
    (ht : eval (.Call (.Attribute o m apos) [] [] pos) X.env = (do
      let ov ← eval o X.env
      standAt apos.atName
      let (f, first) ← holding [ov] (getMethod ov m pl)
      callWith pos f first (backTo pos (starEach [] X.env)) (backToKw pos (keywordEach [] X.env))) := by rfl) :
    PE X (.Call (.Attribute o m apos) [] [] pos) (tMethS C m sp E ta tNil) := by
  refine ⟨fun pins s σ H Q I h => ?_⟩
  refine PySem.W.methodCall_KW (pl := pl) (thn (he.run pins s σ H _ I h) fun u s1 ⟨x, H1, I1, rx, a, dx, fs, ex, ea, l, q⟩ => ?_) ht
  subst ex
  obtain rfl : u = Value.ref a := rx
  refine getmeth_ok I1 ea c hm l ?_
  exact PySem.W.callWith_K0 (first := [.ref a]) I1.kIn hm.kp (run_fnS (us := [.ref a]) (vs := [.ref a]) F hr hb (hx σ) I1 (.cons rfl .nil) q)
end

/-- a class of the module whose __init__ keeps sp -/
structure HasC (P : Program) (w : World) (K : PySem.W.Frag) (mg : Str → Option Value) (base : Heap) (x : Str) (C : Addr) (k : Nat) (ps : List Str) (sp : Sp) : Prop where
  ex : ∃ (f : Addr) (fd : FuncData), Mk K C f ∧ FnOk P w K mg base (L2.CX P w) k f fd ps sp ∧ mg x = some (.ref C) ∧ Binds K fd ps []
theorem pe_makeX {X : Cx} {W : WX} {x : Str} {C : Addr} {j k : Nat} {ps : List Str} {sp : Sp} {e : Expr} {es : List Expr} {t : TA} {p pos : Pos} (h : HasC X.prog X.w X.K X.mg X.base x C j ps sp) (hr : Room k X.A) (hj : j + 1 ≤ k) (tk : Takes X W) (hg : Gl X x) (ha : PA X (e :: es) t)
    (hdb : (x == ("__debug__" : Str)) = false := by decide) (he : starEach (e :: es) X.env = (false, eval e X.env) :: starEach es X.env := by rfl) (hpl : (backTo pos (starEach es X.env)).any (·.1) = false := by rfl) :
    PE X (.Call (.Name x p) (e :: es) [] pos) (tMakeS C sp (WE W) t) := by
  obtain ⟨f, fd, M, F, hm, hb⟩ := h.ex
  exact pe_makeS M (F.mono (show j ≤ k - 1 by omega)) (by rw [show k - 1 + 1 = k by omega]; exact hr) hg hm hb (fun σ => passAt tk σ) ha hdb he hpl

/-! ### fields, by data -/
section
variable {K : PySem.W.Frag} {ρ ρ1 : List Sl} {te : TE} {ta : TA} {m : Md} {d : D} {ds es : List D} {x : Er} {W : WX} {o : Out} {i : Nat} {C : Addr} {ns : List Str} {f : Str} {t : TS}
theorem lk_cons {α : Type} (f g : Str) (y : α) (fs : List (Str × α)) : ((f, y) :: fs).lookup g = if g = f then some y else fs.lookup g := by
  by_cases h : g = f
  · subst h
    simp [List.lookup]
  · have e : (g == f) = false := by simpa using h
    rw [if_neg h]
    simp [List.lookup, e]
theorem DtA.lk {H : Hp} {f : Str} {d : D} : ∀ {ns : List Str} {vs : List V} {ds : List D}, DtA K H vs ds → (ns.zip ds).lookup f = some d → ∃ v, (ns.zip vs).lookup f = some v ∧ Dt K H v d
  | [], _, _, _, hl => by simp at hl
  | n :: ns, _, _, .nil, hl => by simp at hl
  | n :: ns, _, _, .cons (vs := vs) (ds := ds) q1 q2, hl => by
    rw [List.zip_cons_cons, lk_cons] at hl
    rw [List.zip_cons_cons, lk_cons]
    by_cases e : f = n
    · rw [if_pos e] at hl ⊢
      cases hl
      exact ⟨_, rfl, q1⟩
    · rw [if_neg e] at hl ⊢
      exact DtA.lk q2 hl
theorem zip_none {α : Type} {f : Str} : ∀ {ns : List Str} {vs : List α}, f ∉ ns → (ns.zip vs).lookup f = none
  | [], _, _ => by simp
  | n :: ns, [], _ => by simp
  | n :: ns, v :: vs, h => by
    rw [List.zip_cons_cons, lk_cons, if_neg (fun e => h (by rw [e]; exact List.mem_cons_self))]
    exact zip_none fun z => h (List.mem_cons_of_mem _ z)

theorem cf_obj : cf m (.obj C ns ds) = true := by unfold cf; simp [imm]
/-- e.f -/
theorem e_fld (h : EE K te ρ m (.obj C ns ds)) (c : Cls K C) (n : NoAttr K C f) (hl : (ns.zip ds).lookup f = some d) : EE K (tFld K te f) ρ .f d := fun B F H σ e Q q =>
  (h.f cf_obj) B F H σ e _ fun v F1 H1 g1 dv => by
    obtain ⟨a, dx, xs, rfl, h1, h2, h3⟩ := Dt.obj_inv dv
    obtain ⟨w, l, dw⟩ := h3.lk hl
    exact ⟨a, C, dx, _, w, rfl, g1.i _ _ h1, c, n, l, q w F1 H1 g1 dw⟩
/-- self.f in an __init__ -/
theorem e_fldS {a dx : Addr} (h : ρ[i]? = some (.slf a dx C ns ds)) (c : Cls K C) (n : NoAttr K C f) (hl : (ns.zip ds).lookup f = some d) : EE K (tFld K (tVar i) f) ρ .f d := fun B F H σ e Q q => by
  obtain ⟨xs, h1, hf, hb, hi, hlen, hd⟩ := e.slf h
  obtain ⟨w, l, dw⟩ := hd.lk hl
  exact ⟨_, h1, a, C, dx, _, w, rfl, hi, c, n, l, q w F H (Grow.refl e.ef) dw⟩
theorem xx_fld (h : XX K te ρ W x) : XX K (tFld K te f) ρ W x := fun B F H σ e w Q => h B F H σ e w _
/-! classes, by data -/
/-- the making of an instance: it has attributes as R says; or it raises -/
def SpC (K : PySem.W.Frag) (C : Addr) (R : List D → Option Res) : Sp := fun vs H Q E => ∃ (a dx : Addr) (ws : List V) (H1 Fi : Hp) (ds : List D), vs = .ref a :: ws ∧ H1 a = none ∧ H1 dx = none ∧ dx ≠ a ∧ H = upd (upd H1 dx (.own a)) a (.ins C dx []) ∧ Ex Fi H1 ∧ DtMA K H1 Fi ws ds ∧
  ((∃ ns es, R ds = some (.ok .f (.obj C ns es)) ∧ ∀ xs F' H', Grow Fi H1 F' H' → F' a = none → H' a = some (.ins C dx (ns.zip xs)) → xs.length = ns.length → DtA K F' xs es → Q .non H') ∨
    ∃ x, R ds = some (.er x) ∧ ∀ d F' H', Grow Fi H1 F' H' → ErAt K F' x d → E (.ref x.C) d H')
theorem Grow.put {F H F' H' : Hp} {a : Addr} {u : HO} (g : Grow F H F' H') (ha : H a = none) (hf : F' a = none) (hh : H' a = some u) : Grow F H (upd F' a u) H' :=
  ⟨g.f.trans (Ex.new hf), fun p w z => by
      by_cases hp : p = a
      · rw [hp, upd_same] at z; rw [hp, hh, ← z]
      · rw [upd_ne hp] at z; exact g.i _ _ z, g.h, fun p h1 h2 => by
      rw [upd_ne (fun z => h2 (by rw [z]; exact ha))]; exact g.n p h1 h2⟩
/-- C(e, ..) -/
theorem e_make {R : List D → Option Res} {EW : L2.St → XK} (h : EA K ta ρ ds) (hR : R ds = some (.ok .f (.obj C ns es))) : EE K (tMakeS C (SpC K C R) EW ta) ρ .f (.obj C ns es) := fun B F H σ e Q q =>
  h B F H σ e _ fun vs F1 H1 g1 dvs => fun a dx ha hd hne => ⟨a, dx, vs, H1, F1, ds, rfl, ha, hd, hne, rfl, g1.i, dvs, .inl ⟨ns, es, hR, fun xs F' H' g x5 x6 x7 x8 =>
    ⟨rfl, q (.ref a) _ H' (g1.trans (g.put ha x5 x6)) (Dt.obj upd_same x7 (x8.mono (Ex.new x5)))⟩⟩⟩
theorem x_make {R : List D → Option Res} (h : EA K ta ρ ds) (hR : R ds = some (.er x)) : XX K (tMakeS C (SpC K C R) (WE W) ta) ρ W x := fun B F H σ e w Q =>
  h B F H σ e _ fun vs F1 H1 g1 dvs => fun a dx ha hd hne => ⟨a, dx, vs, H1, F1, ds, rfl, ha, hd, hne, rfl, g1.i, dvs, .inr ⟨x, hR, fun d F' H' g er => w d F' H' (g1.trans g) er⟩⟩
/-- the slots at an __init__'s start -/
def slotsI (n : Nat) (a dx C : Addr) (ds : List D) : List Sl := .slf a dx C [] [] :: slots (n - 1) ds
theorem env_startI {F H1 : Hp} {N : List Str} {a dx : Addr} {ws : List V} (ha : H1 a = none) (hd : H1 dx = none) (hne : dx ≠ a) (x : Ex F H1) (h : DtMA K H1 F ws ds) (hN : 0 < N.length) : EnvOk K H1 F (upd (upd H1 dx (.own a)) a (.ins C dx [])) (L2.start N (.ref a :: ws)) (slotsI N.length a dx C ds) := by
  obtain ⟨n0, N', rfl⟩ : ∃ n0 N', N = n0 :: N' := by
    cases N with
    | nil => simp at hN
    | cons a b => exact ⟨a, b, rfl⟩
  have hx : Ex H1 (upd (upd H1 dx (.own a)) a (.ins C dx [])) := fun p w h => by
    rw [upd_ne (fun z => by rw [z, ha] at h; cases h), upd_ne (fun z => by rw [z, hd] at h; cases h)]
    exact h
  have e := (env_start (N := N') x h).grow (Grow.up x hx)
  have es : L2.start (n0 :: N') (.ref a :: ws) = some (.ref a) :: L2.start N' ws := by
    unfold L2.start
    simp
  have hF : F a = none := by
    cases z : F a with
    | none => rfl
    | some w => rw [x _ _ z] at ha; cases ha
  rw [es]
  unfold slotsI
  rw [show (n0 :: N').length - 1 = N'.length by simp]
  refine ⟨e.eb, e.ef, by simpa using e.len, fun i o s h1 h2 => ?_, fun i j p hij o1 o2 => ?_⟩
  · cases i with
    | zero =>
      simp at h1 h2
      subst h1; subst h2
      exact .slf (xs := []) hF ha upd_same rfl .nil
    | succ i => exact e.sl i o s (by simpa using h1) (by simpa using h2)
  · have key : ∀ {i p}, Own1 (some (V.ref a) :: L2.start N' ws) (Sl.slf a dx C [] [] :: slots N'.length ds) i p → i = 0 := fun {i p} o1 => by
      obtain ⟨_, s, b, c⟩ := o1
      cases i with
      | zero => rfl
      | succ i => rw [slots_mine (show (slots N'.length ds)[i]? = some s by simpa using b)] at c; cases c
    exact hij ((key o1).trans (key o2).symm)
/-- what an __init__ comes to -/
def finI (a dx C : Addr) : Out → Option Res
  | .nx ρ => match ρ with
    | .slf a' dx' C' ns ds :: _ => if a' = a ∧ dx' = dx ∧ C' = C then some (.ok .f (.obj C ns ds)) else none
    | _ => none
  | .xs x _ => some (.er x)
  | _ => none
theorem fin_I {F H1 : Hp} {N : List Str} {a dx : Addr} {ws : List V} {Q : VK} {o : Out} {rt : VK} {E : XK} {ns : List Str} (ha : H1 a = none) (hd : H1 dx = none) (hne : dx ≠ a) (x : Ex F H1) (h : DtMA K H1 F ws ds) (hN : 0 < N.length)
    (hr : Run K W t (slotsI N.length a dx C ds) o) (hf : finI a dx C o = some (.ok m (.obj C ns es)))
    (q : ∀ xs F' H', Grow F H1 F' H' → F' a = none → H' a = some (.ins C dx (ns.zip xs)) → xs.length = ns.length → DtA K F' xs es → Q .non H') :
    t { nx := fun _ H' => Q .non H', rt := rt } (L2.start N (.ref a :: ws)) (upd (upd H1 dx (.own a)) a (.ins C dx [])) := by
  refine hr H1 F _ _ _ (env_startI ha hd hne x h hN) ?_
  cases o with
  | nx ρ' =>
    intro σ' F' H' c e
    unfold finI at hf
    dsimp only at hf
    split at hf
    · rename_i a' dx' C' ns' ds' ρ''
      split at hf
      · rename_i hc
        obtain ⟨rfl, rfl, rfl⟩ := hc
        cases hf
        obtain ⟨xs, h1, h2, h3, h4, h5, h6⟩ := e.slf (i := 0) rfl
        exact q xs F' H' ⟨c.f, e.ef, e.eb, fun p a b => c.n p b a⟩ h2 h4 h5 h6
      · cases hf
    · cases hf
  | bk _ => cases hf
  | ct _ => cases hf
  | xs _ _ => cases hf
  | rt _ _ => cases hf
theorem fin_IX {F H1 : Hp} {N : List Str} {a dx : Addr} {ws : List V} {Q : VK} {E : XK} {nx : L2.St → Hp → Prop} {ρ' : List Sl} (ha : H1 a = none) (hd : H1 dx = none) (hne : dx ≠ a) (xF : Ex F H1) (h : DtMA K H1 F ws ds) (hN : 0 < N.length)
    (hr : Run K (fun cls d _ H => E cls d H) t (slotsI N.length a dx C ds) (.xs x ρ')) (q : ∀ d F' H', Grow F H1 F' H' → ErAt K F' x d → E (.ref x.C) d H') :
    t { nx := nx, rt := Q } (L2.start N (.ref a :: ws)) (upd (upd H1 dx (.own a)) a (.ins C dx [])) :=
  hr H1 F _ _ _ (env_startI ha hd hne xF h hN) fun σ' d F' H' c e er => q d F' H' ⟨c.f, e.ef, e.eb, fun p a b => c.n p b a⟩ er
end
end QL

end
section
set_option maxRecDepth 100000
set_option maxHeartbeats 2000000
/-! PX7: enumerate over a tuple. -/
namespace PX
open PySem PySem.Spec PyProof.Rows L2
set_option maxHeartbeats 1000000 in
/-- enumerate(v) made, v any thing that begins an iterator -/
theorem enum_new1 {v : Value} {o : Obj} {H : Heap → Prop} (B : Begins v o H) :
    Meets (Builtin.«enumerate.__new__» ⟨[.type "enumerate", v], []⟩) (fun _ R s => H s.heap ∧
      R (.ok (.ret (.ref (s.heap.push o).objs.size))) { s with heap := (s.heap.push o).push { cls := .type "enumerate", data := .fields #[.none, .bool false, .ref s.heap.objs.size, rawInt 0, .none, .none] } }) :=
  .of_wp fun prog w A R s h => by
    obtain ⟨hp, g, d, tk, os⟩ := s; obtain ⟨h1, h⟩ := h
    have hsub := sub_enumerate
    have q1 : ∀ {A' : Around} {E : Value → Shared → Prop} {Q : Value → Shared → Prop}, Q (.ref hp.objs.size) ⟨hp.push o, g, d, tk, os⟩ → wpAny (model prog w) A' (pyIter v) Q E ⟨hp, g, d, tk, os⟩ :=
      fun q => B.iter prog w _ _ ⟨hp, g, d, tk, os⟩ _ h1 q
    wp_walk using q1
    refine wpAny_stack_any fun st => wpAny_pure ?_
    split
    · rename_i c _ _ _ _ _
      cases (c == Value.type "enumerate") <;> (wp_walk using q1; exact ⟨_, rfl, h⟩)
    · wp_walk using q1
      exact ⟨_, rfl, h⟩
theorem enum_call1 {prog : Program} {w : World} {A : Around} {E : Value → Shared → Prop} {s : Shared} {v : Value} {o : Obj} {H : Heap → Prop} {Q : Value → Shared → Prop} (B : Begins v o H) (h1 : H s.heap)
    (h : ∀ h', IsEnum h' (s.heap.objs.size + 1) s.heap.objs.size 0 .none → h'.get? s.heap.objs.size = some o →
      (∀ b u, s.heap.get? b = some u → h'.get? b = some u) → Q (.ref (s.heap.objs.size + 1)) { s with heap := h' }) :
    wpAny (model prog w) A (call (.type "enumerate") [v]) Q E s := by
  refine callType_new F.called_enumerate (by decide) (F.typeCall_enumerate_1 _) (F.newCall_enumerate_1 _) (fun obj => F.args_object_init_2 obj _) F.entry_enumerate_new (enum_new1 B) ⟨h1, ?_⟩
  have hz : (s.heap.push o).objs.size = s.heap.objs.size + 1 := Heap.size_push ..
  show _ ∧ _
  rw [hz]
  have he : IsEnum ((s.heap.push o).push { cls := .type "enumerate", data := .fields #[.none, .bool false, .ref s.heap.objs.size, rawInt 0, .none, .none] }) (s.heap.objs.size + 1) s.heap.objs.size 0 .none := by
    have z := Heap.get?_push_size (s.heap.push o) (o := { cls := .type "enumerate", data := .fields #[.none, .bool false, .ref s.heap.objs.size, rawInt 0, .none, .none] }) rfl
    rw [hz] at z
    exact z
  exact ⟨⟨_, he, rfl⟩, h _ he (Heap.get?_push_of_some _ (Heap.get?_push_size _ B.free)) fun b u x => Heap.get?_push_of_some _ (Heap.get?_push_of_some _ x)⟩
/-- the tuple at a, each item in a new pair -/
def IteT (K : PySem.W.Frag) (a : Addr) : It :=
  ⟨fun i H => ∃ (xs : List V) (x : V), SqT K H a xs ∧ xs[i]? = some x, fun i H v H' => ∃ T x, v = .ref T ∧ H T = none ∧ H' = upd H T (.tup [.int (i : Nat), x]) ∧ ∀ xs, SqT K H a xs → xs[i]? = some x, fun i H => ∃ xs : List V, SqT K H a xs ∧ xs.length ≤ i⟩
theorem turn_enumT {P : Program} {w : World} {K : PySem.W.Frag} {elts : List Expr} {kk : Nat} {tpos : Pos} (a e it : Addr) :
    Turn P w K (.Tuple elts kk tpos) (IteT K a) [e, it] e (fun i h => (∃ old, IsEnum h e it ((i : Nat) : Int) old) ∧ h.IsTupleIter it a i ∧ e ≠ it) where
  mem := by simp
  obj := fun i h st b hb => by
    obtain ⟨⟨old, he⟩, ⟨o, ho, _, hd⟩, _⟩ := st
    rcases (by simpa using hb : b = e ∨ b = it) with z | z
    · rw [z]; exact ⟨_, he, fun v q => nomatch q⟩
    · rw [z]; exact ⟨o, ho, fun v q => by rw [hd] at q; cases q⟩
  keep := fun i h h' st k => let ⟨⟨old, he⟩, hi, hne⟩ := st; ⟨⟨old, k e (by simp) _ he⟩, hi.at fun o q => k it (by simp) o q, hne⟩
  item := by
    intro X hP hw hK hc i pins s σ H E I hf st hg
    subst hP hw hK
    obtain ⟨⟨old, he⟩, hit, hne⟩ := st
    obtain ⟨xs, x, hq, hx⟩ := hg
    obtain ⟨its, rv, p, hz⟩ := I.tuple hq
    obtain ⟨u, hu, ru⟩ := rv.get hx
    have ht : s.heap.IsTuple a its.toArray := p
    have hel : e < s.heap.objs.size := Heap.lt_size he
    have hil : it < s.heap.objs.size := by obtain ⟨_, q, _⟩ := hit; exact Heap.lt_size q
    have hai : a ≠ it := fun z => by
      obtain ⟨o1, q1, c1, _⟩ := ht
      obtain ⟨o2, q2, c2, _⟩ := hit
      rw [z, q2] at q1
      cases q1
      rw [c2] at c1
      exact absurd c1 (by decide)
    have hae : a ≠ e := fun z => by
      obtain ⟨o1, q1, c1, _⟩ := ht
      rw [z] at q1
      have q2 : s.heap.get? e = _ := he
      rw [q2] at q1
      cases q1
      exact absurd (show Value.type "enumerate" = Value.type "tuple" from c1) (by decide)
    have hlt : i < its.toArray.size := by
      have := (List.getElem?_eq_some_iff.mp hu).1
      simpa using this
    refine wpAny_pyNext_enum_itemD (Draws.tuple (A := X.A.in1) (show X.A.in1.handled = none from I.ok.hd hc) it a hai its.toArray) he ⟨hit, ht⟩ hlt hne (by simp [hne, Ne.symm hae]) fun x' h' tk hx' ho hit' hT hsz hk => ?_
    have ex : x' = u := by
      have q : its.toArray[i]? = some x' := hx'
      rw [show its.toArray[i]? = its[i]? by simp, hu] at q
      exact (Option.some.inj q).symm
    subst ex
    refine ⟨_, rfl, wpAny_letOwnedTupleGo_enum (s := { s with heap := h', toks := tk + 1 }) ho fun h'' he' sb => ?_⟩
    have hT2 : h''.get? s.heap.objs.size = some { cls := .type "tuple", data := .seq #[.int i tk, x'] } := (sb.2 _ (Nat.ne_of_gt hel)).trans hT
    have new : ObjOk X.prog X.w (upd H s.heap.objs.size (.tup [.int (i : Nat), x])) h'' s.heap.objs.size (.tup [.int (i : Nat), x]) :=
      ⟨by show 2 ≤ sizeLine; decide, [.int i tk, x'], .cons ⟨_, rfl⟩ (.cons ru .nil), ⟨_, hT2, rfl, _, rfl⟩⟩
    have I1 : Inv X pins σ (upd H s.heap.objs.size (.tup [.int (i : Nat), x])) { s with heap := h'', toks := tk + 1 } :=
      I.turnedNew (ch := [e, it]) (fun b ob hb q => (sb.2 b (fun z => hb (by simp [z]))).trans (hk b ob (fun z => hb (by simp [z])) (fun z => hb (by simp [z])) q)) hf (Nat.le_refl _) new
    refine ⟨.ref s.heap.objs.size, _, I1, rfl, ⟨_, x, rfl, I.hok.fresh (Nat.le_refl _), rfl, fun ys hy => by rw [I.tuple_inj hy hq]; exact hx⟩, ⟨⟨x', ?_⟩, hit'.1.at fun o q => (sb.2 it (Ne.symm hne)).trans q, hne⟩, fun b hb => ?_⟩
    · have e1 : ((i + 1 : Nat) : Int) = (i : Int) + 1 := by omega
      rw [e1]
      exact he'
    · have hb' : b < s.heap.objs.size := by
        rcases (by simpa using hb : b = e ∨ b = it) with z | z
        · rw [z]; exact hel
        · rw [z]; exact hil
      rw [upd_ne (Nat.ne_of_lt hb')]
      exact (hf b hb).1
  done := by
    intro X hP hw hK hc i pins s σ H E I hf st hg
    subst hP hw hK
    obtain ⟨⟨old, he⟩, hit, hne⟩ := st
    obtain ⟨xs, hq, hx⟩ := hg
    obtain ⟨its, rv, p, hz⟩ := I.tuple hq
    obtain ⟨f0, f1, f2, f3, f4, f5⟩ := hf it (by simp)
    have hl := rv.length
    have ht : s.heap.IsTuple a its.toArray := p
    have hT : s.TypeIs (.ref e) "enumerate" := ⟨_, he, rfl⟩
    unfold pyNext
    refine wpAny_bind (wpAny_attempt (wpAny_callSpecial?_slot (name := Str.ofString "__next__") hT F.slot_enumerate_next
      (wpAny_call_entry F.slot_enumerate_next hT F.entry_enumerate_next ?_ (F.args_enumerate_next_1 _))))
    show wpAny _ _ (field (.ref e) 2 >>= _) _ _ _
    refine wpAny_bind (wpAny_field he rfl (x := .ref it) rfl ?_)
    refine wpAny_bind (wpAny_nextOf_tuple_end (I.ok.hd hc) hit ht (by simp; omega) fun h' x he' hx' => ?_)
    obtain ⟨o, ho, hcx⟩ := hx'
    refine wpAny_bind (wpAny_isInstance (T := "StopIteration") (b := true) ⟨o, ho, hcx⟩ isSubtype_stop ?_)
    exact wpAny_pure ⟨rfl, I.turned (t' := s.toks) (fun b o hb q => he' b o hb q) f0 f1 f3 f4 f5⟩
  self := fun A i s Q E st h => let ⟨⟨_, he⟩, _⟩ := st; wpAny_pyIter_enum he h
def iEnumT (K : PySem.W.Frag) (ta : TA) : TI := fun σ H R => ta σ H fun vs H1 => ∃ a xs, vs = [.ref a] ∧ SqT K H1 a xs ∧ R (IteT K a) H1
theorem pi_enumT {X : Cx} {e : Expr} {ta : TA} {p pos tpos : Pos} {elts : List Expr} {kk : Nat} (hg : Gl X "enumerate") (hm : X.mg "enumerate" = none) (ha : PA X [e] ta) (hs : starEach [e] X.env = [(false, eval e X.env)] := by rfl) :
    PI X (.Tuple elts kk tpos) (.Call (.Name "enumerate" p) [e] [] pos) (iEnumT X.K ta) := by
  refine ⟨fun pins s σ H R I h => ?_⟩
  refine Call_ (ld_blt I hg hm boot_enumerate (PyProof.Rows.callWith_type1 (thn (ha.run pos pins s σ H _ I h) fun us s1 ⟨vs, H1, I1, r1, q1⟩ => ?_) hs rfl))
  obtain ⟨a, xs, ex, hq, q⟩ := q1
  subst ex
  cases r1 with
  | cons r rr =>
    cases rr
    cases r
    obtain ⟨its, rv, p', hz⟩ := I1.tuple hq
    have ht : s1.heap.IsTuple a its.toArray := p'
    refine enum_call1 (begins_tuple a its.toArray) ht fun h' he hit hk => wpAny_pyIter_enum he ?_
    have I2 : Inv X pins σ H1 { s1 with heap := h' } := I1.kept (t' := s1.toks) hk
    refine ⟨s1.heap.objs.size + 1, [s1.heap.objs.size + 1, s1.heap.objs.size], _, _, H1, rfl, I2, turn_enumT a (s1.heap.objs.size + 1) s1.heap.objs.size, ⟨⟨.none, he⟩, ⟨_, hit, rfl, rfl⟩, Nat.succ_ne_self _⟩, fun b hb => ?_, q⟩
    have hle : s1.heap.objs.size ≤ b := by
      rcases (by simpa using hb : b = s1.heap.objs.size + 1 ∨ b = s1.heap.objs.size) with z | z
      · rw [z]; exact Nat.le_add_right _ _
      · rw [z]; exact Nat.le_refl _
    exact I1.fpOk hle (I1.hok.fresh hle)
end PX
namespace QL
open PySem PySem.Spec PyProof.Rows L2 Evl
/-- the items of an enumerate -/
def enIt (m : Md) (ds : List D) : List Item := ds.zipIdx.map fun x => .many [(.f, .int (x.2 : Int)), (ixm m, x.1)]
theorem enIt_get {m : Md} {ds : List D} {k : Nat} {it : Item} (h : (enIt m ds)[k]? = some it) : ∃ e, ds[k]? = some e ∧ it = .many [(.f, .int (k : Int)), (ixm m, e)] := by
  unfold enIt at h
  rw [List.getElem?_map, List.getElem?_zipIdx] at h
  cases he : ds[k]? with
  | none => rw [he] at h; cases h
  | some e => rw [he] at h; cases h; exact ⟨e, rfl, by simp⟩
theorem enIt_len {m : Md} {ds : List D} : (enIt m ds).length = ds.length := by simp [enIt]
section
variable {K : PySem.W.Frag} {ρ : List Sl} {te : TE} {m : Md} {ds : List D}
theorem ItV.up {B F H H' : Hp} {xs : List V} (x : Ex H H') (h : ItV K m B F H xs ds) : ItV K m B F H' xs ds := by
  unfold ItV at h ⊢
  cases m with
  | h => exact DtMA.mono x (Ex.refl _) h
  | _ => exact h
theorem src_enL (hm : m ≠ .n) (h : EE K te ρ m (.lst ds)) : Src K (iEnum K (tCons te tNil)) ρ (stab m) (enIt m ds) := fun B F H σ e R q => h B F H σ e _ fun v F1 H1 g dv => by
  obtain ⟨p, xs, rfl, h1, h2⟩ := keepL hm (e.eb.trans g.h) g.i dv
  refine ⟨p, xs, rfl, h1, q _ F1 H1 g (fun F2 H2 c _ eb ef x k it hk => ?_) fun F2 H2 c _ eb ef x => ?_⟩
  · obtain ⟨a, b⟩ := h2 F2 H2 c eb ef x
    obtain ⟨d0, e1, rfl⟩ := enIt_get hk
    have hk' : k < xs.length := by rw [b.len]; exact (List.getElem?_eq_some_iff.mp e1).1
    refine ⟨⟨xs, xs[k], a, List.getElem?_eq_getElem hk'⟩, fun y H3 hy => ?_⟩
    obtain ⟨T, z, rfl, n, rfl, hz⟩ := hy
    have ez := hz xs a
    exact ⟨Ex.new n, T, [.int (k : Int), z], rfl, upd_same, Dt.int _, Val.at (b.up (Ex.new n)) ez e1, trivial⟩
  · obtain ⟨a, b⟩ := h2 F2 H2 c eb ef x
    exact ⟨xs, a, by rw [b.len, enIt_len]; exact Nat.le_refl _⟩
theorem src_enT (hm : m ≠ .n) (h : EE K te ρ m (.tup ds)) : Src K (PX.iEnumT K (tCons te tNil)) ρ (stab m) (enIt m ds) := fun B F H σ e R q => h B F H σ e _ fun v F1 H1 g dv => by
  obtain ⟨p, xs, rfl, h1, h2⟩ := keepT hm (e.eb.trans g.h) g.i dv
  refine ⟨p, xs, rfl, h1, q _ F1 H1 g (fun F2 H2 c _ eb ef x k it hk => ?_) fun F2 H2 c _ eb ef x => ?_⟩
  · obtain ⟨a, b⟩ := h2 F2 H2 c eb ef x
    obtain ⟨d0, e1, rfl⟩ := enIt_get hk
    have hk' : k < xs.length := by rw [b.len]; exact (List.getElem?_eq_some_iff.mp e1).1
    refine ⟨⟨xs, xs[k], a, List.getElem?_eq_getElem hk'⟩, fun y H3 hy => ?_⟩
    obtain ⟨T, z, rfl, n, rfl, hz⟩ := hy
    have ez := hz xs a
    exact ⟨Ex.new n, T, [.int (k : Int), z], rfl, upd_same, Dt.int _, Val.at (b.up (Ex.new n)) ez e1, trivial⟩
  · obtain ⟨a, b⟩ := h2 F2 H2 c eb ef x
    exact ⟨xs, a, by rw [b.len, enIt_len]; exact Nat.le_refl _⟩
end
end QL

end
section
set_option maxRecDepth 100000
set_option maxHeartbeats 2000000
namespace QL
open PySem PySem.Spec PyProof.Rows L2 Evl
/-! ### slices, by data -/
def cutD (ds : List D) (lo hi : Option Int) : List D := (ds.drop (HT.sIx ds.length 0 lo)).take (HT.sIx ds.length ds.length hi - HT.sIx ds.length 0 lo)
theorem DtA.cut {K : PySem.W.Frag} {H : Hp} {vs : List V} {ds : List D} (h : DtA K H vs ds) (lo hi : Option Int) : DtA K H (L2.cutV vs lo hi) (cutD ds lo hi) := by
  unfold L2.cutV cutD
  rw [h.len]
  exact (h.drop _).take _
/-- a part of a slice -/
def EO (K : PySem.W.Frag) (t : TO) (ρ : List Sl) (o : Option Int) : Prop := ∀ B F H σ, EnvOk K B F H σ ρ → ∀ Q : Option Int → Hp → Prop, (∀ F' H', Grow F H F' H' → Q o H') → t σ H Q
section
variable {K : PySem.W.Frag} {ρ : List Sl} {te : TE} {tl th : TO} {m : Md} {ds : List D} {lo hi : Option Int} {i : Int}
theorem eo_none : EO K tNoPart ρ none := fun B F H σ e Q q => q F H (Grow.refl e.ef)
theorem eo_some (h : EE K te ρ m (.int i)) : EO K (tPart te) ρ (some i) := fun B F H σ e Q q => h.h B F H σ e _ fun v F1 H1 g dv => ⟨i, DtM.int_inv dv, q F1 H1 g⟩
theorem e_slL (ha : EE K te ρ m (.lst ds)) (c : itF m ds = true) (h1 : EO K tl ρ lo) (h2 : EO K th ρ hi) : EE K (tSl (rSlL K) te tl th) ρ .n (.lst (cutD ds lo hi)) := fun B F H σ e Q q =>
  ha B F H σ e _ fun x F1 H1 g1 dx => h1 B F1 H1 σ (e.grow g1) _ fun F2 H2 g2 => h2 B F2 H2 σ ((e.grow g1).grow g2) _ fun F3 H3 g3 => by
    obtain ⟨p, xs, rfl, h1, h2⟩ := dx.isL (e.eb.trans g1.h) g1.i
    have f1 := ((ItV.fz h2 c).mono (g2.trans g3).f).cut lo hi
    exact ⟨p, xs, rfl, .inl (.inl ((g2.trans g3).h _ _ h1)), fun l hn =>
      q _ F3 _ (((g1.trans g2).trans g3).trans (Grow.newO g3.i hn)) ⟨l, rfl, fresh_back g3.i hn, fresh_back ((g1.trans g2).trans g3).h hn, .inl ⟨_, _, rfl, upd_same, f1⟩⟩⟩
theorem cut_all (h : HT.sIx ds.length 0 lo = 0 ∧ HT.sIx ds.length ds.length hi = ds.length) : cutD ds lo hi = ds := by
  unfold cutD
  rw [h.1, h.2, List.drop_zero, Nat.sub_zero, List.take_length]
theorem e_slT (ha : EE K te ρ m (.tup ds)) (c : cf m (.tup ds) = true) (h1 : EO K tl ρ lo) (h2 : EO K th ρ hi) : EE K (tSl (rSlA K) te tl th) ρ .f (.tup (cutD ds lo hi)) := fun B F H σ e Q q =>
  (ha.f c) B F H σ e _ fun x F1 H1 g1 dx => h1 B F1 H1 σ (e.grow g1) _ fun F2 H2 g2 => h2 B F2 H2 σ ((e.grow g1).grow g2) _ fun F3 H3 g3 => by
    obtain ⟨p, xs, rfl, h1, h2⟩ := Dt.tup_inv dx
    have f0 := h2.mono (g2.trans g3).f
    have f1 := f0.cut lo hi
    refine ⟨p, xs, rfl, .inl (.inl (g3.i _ _ ((g2.trans g3).f _ _ h1))), fun hw => ?_, fun hw l hn => ?_⟩
    · rw [h2.len] at hw
      exact q _ F3 H3 ((g1.trans g2).trans g3) (by rw [cut_all hw]; exact Dt.tup ((g2.trans g3).f _ _ h1) f0)
    · exact q _ _ _ (((g1.trans g2).trans g3).trans (Grow.new g3.i hn)) (Dt.tup upd_same (f1.mono (Ex.new (fresh_back g3.i hn))))
theorem xx_sl {r : V → Option Int → Option Int → Hp → VK → Prop} {W : WX} {x : Er} (h : XX K te ρ W x) : XX K (tSl r te tl th) ρ W x := fun B F H σ e w Q => h B F H σ e w _
end
end QL

end
section
set_option maxRecDepth 100000
set_option maxHeartbeats 2000000
namespace QL
open PySem PySem.Spec PyProof.Rows L2 Evl
/-! ### promises of defs where it is known that no repr is under way -/
/-- as FnOk; if rp, then only where nothing is being shown -/
structure FnR (rp : Bool) (P : Program) (w : World) (K : PySem.W.Frag) (mg : Str → Option Value) (base : Heap) (k : Nat) (f : Addr) (fd : FuncData) (ps : List Str) (sp : Sp) : Prop where
  len : ∀ ys H Q E, sp ys H Q E → ys.length = ps.length
  go : ∀ (A : Around) (outer : List Env) (s : Shared) (H : Hp) (as : Args) (xs : List Value) (ys : List V) (Q : VK) (E : XK),
    Room k A → (rp = true → A.guards = some []) → Env0 P w K mg base A outer s H → BindsTo s fd as (ps.zip xs) → Vals ys xs → sp ys H Q E →
    codeAny (model P w) A (.call (.ref f) as) (CR (L2.CX P w) outer P w H s Q E) s
section
variable {P : Program} {w : World} {K : PySem.W.Frag} {mg : Str → Option Value} {base : Heap} {rp : Bool} {f : Addr} {fd : FuncData} {N ps : List Str} {k j : Nat} {sp : Sp} {x qual : Str} {st : Stmt}
theorem FnR.of (F : FnOk P w K mg base (L2.CX P w) k f fd ps sp) : FnR rp P w K mg base k f fd ps sp :=
  ⟨F.len, fun A o s H as xs ys Q E hr _ e b v h => F.run A o s H as xs ys Q E hr e b v h⟩
theorem FnR.ok (F : FnR false P w K mg base k f fd ps sp) : FnOk P w K mg base (L2.CX P w) k f fd ps sp :=
  ⟨F.len, fun A o s H as xs ys Q E hr e b v h => F.go A o s H as xs ys Q E hr (fun z => nomatch z) e b v h⟩
theorem FnR.mono (F : FnR rp P w K mg base j f fd ps sp) (h : j ≤ k) : FnR rp P w K mg base k f fd ps sp :=
  ⟨F.len, fun A o s H as xs ys Q E hr => F.go A o s H as xs ys Q E (hr.mono h)⟩
/-- a def of the text, by its body -/
theorem okR (F : Fun K x qual st f fd) (S : FnScope N ps (defScope st)) (len : ∀ ys H Q E, sp ys H Q E → ys.length = ps.length)
    (hbody : ∀ (cdv : Value) (A : Around) (outer : List Env) (s : Shared) (H : Hp) (ys : List V) (Q : VK) (E : XK),
      Room k (A.deeper (envOfC qual (defScope st) s.heap.objs.size f cdv)) → (rp = true → A.guards = some []) → sp ys H Q E →
      ∃ t, PSs (cxOf (L2.CX P w) P w K mg base N qual (defScope st) f cdv A outer s H E) (defBody st) t ∧ t { nx := fun _ H' => Q .non H', rt := Q } (start N ys) H) :
    FnR rp P w K mg base (k + 1) f fd ps sp := by
  obtain ⟨oc, od, kV, doc, pm, an, cdv, ct, osl, rfl, lk, hcd⟩ := F.ex
  refine ⟨len, fun A o s H as xs ys Q E hr hg e0 hb vv hs => ?_⟩
  have inK : K.In s.heap := e0.mod.kin.keeps fun b u z => (e0.bs b u z).1
  have noL : s.heap.NoLimit := e0.mod.nolimit.keeps fun b u z => (e0.bs b u z).1
  refine codeAny_call_function hr.depth (inK _ _ lk) rfl S.co S.gen rfl (PySem.W.codeRec_of inK hcd) (hb _ _ _ _ ?_)
  refine wpAny_newFunctionEnv_cells S.kind (fun z hz => ?_) fun env he s1 cc => ?_
  · obtain ⟨n, v⟩ := z
    rcases S.par n (List.of_mem_zip hz).1 with q | q
    · exact Or.inl q
    · exact Or.inr ⟨q, PySem.W.cellsFrom_some _ _ _ (Or.inl q)⟩
  · subst he
    refine ⟨noL.keeps cc.toInCall.keep, codeAny_func ?_⟩
    obtain ⟨t, pt, run⟩ := hbody cdv A o s H ys Q E (hr.deeper _) hg hs
    have I0 := inv_start (CX := L2.CX P w) (E := E) S hr.hd e0 (len _ _ _ _ hs) vv cc
    refine wpAny_mono (pt.run [] s1 (start N ys) H _ I0 run) (fun fl s' hf => ?_) fun _ _ z => z
    cases fl with
    | next =>
      obtain ⟨_, H', J, q⟩ := hf
      exact ⟨.non, H', J.os, J.bare, J.base, J.hok, rfl, q⟩
    | ret u =>
      obtain ⟨v, _, H', J, rv, q⟩ := hf
      exact ⟨v, H', J.os, J.bare, J.base, J.hok, rv, q⟩
    | brk => exact hf.elim fun _ z => z.elim fun _ z => z.2.elim
    | cont => exact hf.elim fun _ z => z.elim fun _ z => z.2.elim
end
section
variable {X : Cx} {W : WX} {rp : Bool} {k : Nat} {f : Addr} {fd : FuncData} {ps : List Str} {sp : Sp} {x : Str} {p pos : Pos} {e : Expr} {es : List Expr} {t : TA}
/-- a call of a def that has FnR -/
theorem pe_callR (F : FnR rp X.prog X.w X.K X.mg X.base k f fd ps sp) (hr : Room k X.A) (hgd : rp = true → X.A.guards = some []) (hg : Gl X x) (hm : X.mg x = some (.ref f)) (hk : PySem.W.keepIn X.K (.ref f) = true) (hb : Binds X.K fd ps []) (tk : Takes X W)
    (ha : PA X (e :: es) t) (hdb : (x == ("__debug__" : Str)) = false) (he : starEach (e :: es) X.env = (false, eval e X.env) :: starEach es X.env) (hpl : (backTo pos (starEach es X.env)).any (·.1) = false) :
    PE X (.Call (.Name x p) (e :: es) [] pos) (tCallS sp (WE W) t) := by
  refine ⟨fun pins s σ H Q I h => wpAny_Call_Name_kw (ld_glob I hg hm ?_ hdb)⟩
  refine PySem.W.callWith_K (h₀ := X.base) I.ok.mod.kin hk (thn (ha.run pos pins s σ H _ I h) fun us s1 ⟨ys, H1, I1, r1, q1⟩ => ⟨I1.kIn, ?_⟩) he hpl
  have hl : us.length = ps.length := r1.length ▸ F.len _ _ _ _ q1
  have b : BindsTo s1 fd ⟨us, []⟩ (ps.zip us) := by
    have b0 := hb s1 us I1.kIn (by simpa using hl)
    simpa using b0
  refine wpAny_call (codeAny_mono (F.go X.A X.stack s1 H1 ⟨us, []⟩ us ys Q (WE W σ) hr hgd I1.env0 b r1 q1) fun r s' hq => ?_)
  rcases r with e0 | fl
  · exact passAt tk σ pins H1 s1 e0 s' I1 hq
  · cases fl with
    | ret u => exact I1.after hq
    | _ => exact hq.elim
end
/-! ### repr of a list, a tuple -/
section
variable {X : Cx}
def rRepr (K : PySem.W.Frag) : List V → Hp → VK → Prop := fun xs H Q => ∃ (a : Addr) (d : PyData), xs = [.ref a] ∧ Dp K H (.ref a) d ∧ SeqAt.shaped d = true ∧ d.showable = true ∧ d.hasDict = false ∧ d.shown.length ≤ sizeLine ∧ Q (.str d.shown) H
theorem cr_repr (hg : X.A.guards = some []) (hu : X.A.units + 66 < cLine) : CallR X (.builtin "repr") (rRepr X.K) := by
  intro pins s σ H vs us Q I r h
  obtain ⟨a, d, rfl, hd, sd, hs, hnd, hz, q⟩ := h
  cases r with
  | cons r1 r2 =>
    cases r2
    cases r1
    obtain ⟨as, rd⟩ := Dp.reads I d (.ref a) (.ref a) hd rfl
    have := SeqAt.depth_of_shaped sd
    exact repr_of_reads' rd hs (PyData.noDict_hsm hnd) hg (by omega) (fun _ _ e => e) (fun h' u tk hk => ⟨.str d.shown, H, I.kept hk, ⟨u, rfl⟩, q⟩) hz
end
/-! ### the law's own def, where nothing is being shown -/
section
variable {P : Program} {w : World} {K : PySem.W.Frag} {mg mb : Str → Option Value} {k : Nat} {fa a : Addr} {fd : FuncData} {x : Str} {sp : Sp} {s₁ : Shared} {vs : List Value} {ns : List Int}
theorem law_callR (KX : K.In s₁.heap) (hns : s₁.heap.Ns mainGlobals mg) (hb : s₁.heap.Ns builtinsNs mb) (hbb : ∀ x : Str, x ≠ "__name__" → mb x = bootBuiltins x) (hlim : s₁.heap.NoLimit) (hg : s₁.gens = #[])
    (ha : s₁.heap.get? a = some { cls := .type "list", data := .seq vs.toArray }) (hi : IntsAre vs ns) (hl : ns.length ≤ sizeLine) (hr : Room k callerA)
    (F : ∀ base : Heap, K.In base → base.Ns mainGlobals mg → FnR true P w K mg base k fa fd [x] sp) (hbind : ∀ (s : Shared) (u : Value), BindsTo s fd ⟨[u], []⟩ [(x, u)])
    (hsp : ∀ H : Hp, Only H → SqL K H a (ns.map V.int) → sp [.ref a] H (fun v _ => v = .bl true) fun _ _ _ => False)
    (hCX : ∀ H e s', L2.CX P w [] H s₁ (fun _ _ _ => False) e s' → False) :
    codeAny (model P w) callerA (.call (.ref fa) ⟨[.ref a], []⟩) (fun r s' => r = .ok (.ret (.bool true)) ∧ OldK s₁.heap s'.heap ∧ s'.os = s₁.os ∧ AllBare s'.gens) s₁ := by
  have rv := vals_ints hi
  have nV := hi.length
  have main : ∀ H : Hp, Only H → SqL K H a (ns.map V.int) → HOk P w H s₁.heap → (∀ b, H b ≠ none → b = a ∧ K.lookup a = none) →
      codeAny (model P w) callerA (.call (.ref fa) ⟨[.ref a], []⟩) (fun r s' => r = .ok (.ret (.bool true)) ∧ OldK s₁.heap s'.heap ∧ s'.os = s₁.os ∧ AllBare s'.gens) s₁ := by
    intro H hO hS hok hA
    have out : ∀ {b : Addr} {o : Obj}, s₁.heap.get? b = some o → (b = a → K.lookup a = none → False) → (hidT s₁.heap H).get? b = some o := fun {b o} e n => hidT_get e (by
      rcases hb0 : H b with _ | u
      · rfl
      · obtain ⟨h1, h2⟩ := hA b (by rw [hb0]; exact fun z => nomatch z)
        exact (n h1 h2).elim)
    have dictOut : ∀ {b : Addr} {m : Str → Option Value}, s₁.heap.Ns b m → (hidT s₁.heap H).Ns b m := fun {b m} ⟨o, es, ep, e, d, r⟩ => ⟨o, es, ep, out e (fun z _ => by
      subst z
      rw [ha] at e
      cases e
      exact nomatch (show Data.seq vs.toArray _ = Data.dict es ep from d)), d, r⟩
    have inB : K.In (hidT s₁.heap H) := fun b o e => out (KX b o e) fun z y => by
      subst z
      rw [y] at e
      cases e
    have md : Mod K mg (hidT s₁.heap H) := by
      obtain ⟨mc, l1, l2⟩ := hlim
      exact ⟨inB, dictOut hns, ⟨mb, dictOut hb, hbb⟩, mc, dictOut l1, l2⟩
    have env : Env0 P w K mg (hidT s₁.heap H) callerA [] s₁ H := ⟨rfl, md, fun b o e => of_hidT e, Nat.le_of_eq (hidT_size _ _), trivial, fun b hb => (nomatch hb), hok, .of_eq hg⟩
    have run := (F _ inB (dictOut hns)).go callerA [] s₁ H ⟨[.ref a], []⟩ [.ref a] [.ref a] (fun v _ => v = .bl true) (fun _ _ _ => False) hr (fun _ => rfl) env (hbind s₁ (.ref a)) (.cons rfl .nil) (hsp H hO hS)
    refine codeAny_mono run fun r s' h => ?_
    rcases r with e | fl
    · exact (hCX H e s' h).elim
    · cases fl with
      | ret u =>
        obtain ⟨v, H', os, bare, un, hok', rv', q⟩ := h
        have ev : v = V.bl true := q
        subst ev
        have eu : u = Value.bool true := rv'
        subst eu
        refine ⟨rfl, OldK.of_keep fun b o e => ?_, os, bare⟩
        rcases hb0 : H b with _ | u0
        · exact un.keep b o e hb0 (fun z => (nomatch z)) (fun z => (nomatch z))
        · rcases hO b with z | ⟨ob, xs, z⟩
          · rw [hb0] at z; cases z
          · have g1 := (hok b _ z).1
            have g2 := (hok' b _ (un.frzs b ob _ z)).1
            rw [e] at g1
            cases g1
            exact g2
      | _ => exact h.elim
  rcases hk : K.lookup a with _ | o
  · refine main (fun b => if b = a then some (.frz { cls := .type "list", data := .seq vs.toArray } (.lst (ns.map V.int))) else none) (fun b => ?_) (.inl (.inr ⟨{ cls := .type "list", data := .seq vs.toArray }, if_pos rfl⟩)) (fun b u z => ?_) fun b z => ?_
    · by_cases c : b = a
      · exact .inr ⟨_, _, if_pos c⟩
      · exact .inl (if_neg c)
    · by_cases c : b = a
      · have z2 := (if_pos c).symm.trans z
        cases z2
        subst c
        exact ⟨ha, by rw [List.length_map]; exact hl, vs, _, rv, ha⟩
      · have z2 := (if_neg c).symm.trans z
        cases z2
    · by_cases c : b = a
      · exact ⟨c, hk⟩
      · exact absurd (if_neg c) z
  · have e := KX a o hk
    rw [ha] at e
    cases e
    exact main (fun _ => none) (fun _ => .inl rfl) (.inr ⟨_, vs.toArray, _, hk, rfl, rfl, rfl, by rw [List.size_toArray, nV]; exact hl, by simpa using rv⟩) (fun b u z => nomatch (show (none : Option HO) = some u from z)) fun b z => absurd rfl z
end
theorem walkR {l : PySem.W.OpenLaw} {n k : Nat} {q : Program} {loose : List Str} {XP : (Str → Option Value) → Heap → Prop} {YP : World → Heap → Prop} {d : DefRec} {K : Params → PySem.W.Frag} {sp : World → Sp} {x : Str}
    (hn : l.most = some n) (hn2 : n ≤ sizeLine) (hdf : d.params.defaults = []) (hr : Room k callerA)
    (hY : ∀ (w : World) (h : Heap), YP w h → (K w.params).In h)
    (F : ∀ (w : World) (mg : Str → Option Value) (fa : Addr) (h : Heap), (K w.params).In h → h.Ns mainGlobals mg → mg d.name = some (.ref fa) →
      ∃ fd : FuncData, (∀ (s : Shared) (v : Value), BindsTo s fd ⟨[v], []⟩ [(x, v)]) ∧ ∀ base : Heap, (K w.params).In base → base.Ns mainGlobals mg → FnR true l.prog w (K w.params) mg base k fa fd [x] (sp w))
    (hsp : ∀ (w : World) (H : Hp) (a : Addr) (ns : List Int), ns.length ≤ n → Only H → SqL (K w.params) H a (ns.map V.int) → sp w [.ref a] H (fun v _ => v = .bl true) fun _ _ _ => False)
    (hCX : ∀ (w : World) (H : Hp) (s : Shared) (e : Value) (s' : Shared), L2.CX l.prog w [] H s (fun _ _ _ => False) e s' → False) :
    PySem.W.WalkO q loose XP YP l.row.toRowW d [] (fun f vs => PySem.call f vs) := by
  refine Att.attach_call hn hdf fun w s₀ s₁ mg mb fa o pm cd doc a vs ns G Y ho hd hcd hmg hobj hints hlen hg => ?_
  obtain ⟨fd, hb, hF⟩ := F w mg fa _ (hY w _ Y) G.T.g hmg
  exact law_callR (hY w _ Y) G.T.g G.T.b G.T.builtins G.T.nolimit hg hobj hints (Nat.le_trans hlen hn2) hr hF hb (fun H hO hS => hsp w H a ns hlen hO hS) fun H e s' => hCX w H s₁ e s'
end QL

end
section
set_option maxRecDepth 100000
set_option maxHeartbeats 2000000
namespace QL
open PySem PySem.Spec PyProof.Rows L2 Evl
/-! ### while -/
inductive Whl (K : PySem.W.Frag) (W : WX) (tc : TT) (tb : TS) : Nat → List Sl → Out → Prop where
  | stop {n : Nat} {ρ : List Sl} : ET K tc ρ false → Whl K W tc tb (n + 1) ρ (.nx ρ)
  | step {n : Nat} {ρ ρ1 : List Sl} {o : Out} : ET K tc ρ true → Run K W tb ρ (.nx ρ1) → Whl K W tc tb n ρ1 o → Whl K W tc tb (n + 1) ρ o
  | cont {n : Nat} {ρ ρ1 : List Sl} {o : Out} : ET K tc ρ true → Run K W tb ρ (.ct ρ1) → Whl K W tc tb n ρ1 o → Whl K W tc tb (n + 1) ρ o
  | brk {n : Nat} {ρ ρ1 : List Sl} : ET K tc ρ true → Run K W tb ρ (.bk ρ1) → Whl K W tc tb (n + 1) ρ (.nx ρ1)
  | ret {n : Nat} {ρ : List Sl} {m : Md} {d : D} : ET K tc ρ true → Run K W tb ρ (.rt m d) → Whl K W tc tb (n + 1) ρ (.rt m d)
  | exc {n : Nat} {ρ ρ1 : List Sl} {x : Er} : ET K tc ρ true → Run K W tb ρ (.xs x ρ1) → Whl K W tc tb (n + 1) ρ (.xs x ρ1)
section
variable {K : PySem.W.Frag} {W : WX} {ρ ρ1 : List Sl} {tc : TT} {tb t u : TS} {o : Out} {te : TE} {m : Md} {d : D} {i j : Nat} {n : Nat}
theorem run_while (h : Whl K W tc tb n ρ o) : Run K W (tWhile tc tb) ρ o := fun B F H σ Dn e p => by
  refine ⟨fun m σ' H' => ∃ F' ρ', Chg B F F' ∧ EnvOk K B F' H' σ' ρ' ∧ Whl K W tc tb m ρ' o, ⟨n, F, ρ, Chg.refl _ _, e, h⟩, fun m σ' H' hW => ?_⟩
  obtain ⟨F', ρ', c, e', w⟩ := hW
  have turn : ∀ {m' : Nat} {o' : Out} {N : L2.St → Hp → Prop}, (∀ σ2 H2, N σ2 H2 → ∃ m2, m2 < m ∧ ∃ F2 ρ2, Chg B F F2 ∧ EnvOk K B F2 H2 σ2 ρ2 ∧ Whl K W tc tb m2 ρ2 o) → ET K tc ρ' true → Run K W tb ρ' o' →
      Post K W B F' { Dn with nx := N, ct := N, bk := Dn.nx } o' →
      tc σ' H' fun b H1 => if b = true then ∃ N : L2.St → Hp → Prop, (∀ σ2 H2, N σ2 H2 → ∃ m2, m2 < m ∧ ∃ F2 ρ2, Chg B F F2 ∧ EnvOk K B F2 H2 σ2 ρ2 ∧ Whl K W tc tb m2 ρ2 o) ∧ tb { Dn with nx := N, ct := N, bk := Dn.nx } σ' H1 else Dn.nx σ' H1 :=
    fun {m' o' N} hN ht hr hp => ht B F' H' σ' e' _ fun F1 H1 g => by
      rw [if_pos rfl]
      exact ⟨N, hN, hr B F1 H1 σ' _ (e'.grow g) (hp.chg (g.chg e'.eb))⟩
  cases w with
  | stop ht =>
    refine ht B F' H' σ' e' _ fun F1 H1 g => ?_
    rw [if_neg Bool.false_ne_true]
    exact p σ' F1 H1 (c.trans (g.chg e'.eb)) (e'.grow g)
  | @step m1 _ ρ2 _ ht hr hw => exact turn (m' := m1) (N := fun σ2 H2 => ∃ F2, Chg B F F2 ∧ EnvOk K B F2 H2 σ2 ρ2) (fun σ2 H2 ⟨F2, c2, e2⟩ => ⟨m1, Nat.lt_succ_self _, F2, ρ2, c2, e2, hw⟩) ht hr fun σ2 F2 H2 c2 e2 => ⟨F2, c.trans c2, e2⟩
  | @cont m1 _ ρ2 _ ht hr hw => exact turn (m' := m1) (N := fun σ2 H2 => ∃ F2, Chg B F F2 ∧ EnvOk K B F2 H2 σ2 ρ2) (fun σ2 H2 ⟨F2, c2, e2⟩ => ⟨m1, Nat.lt_succ_self _, F2, ρ2, c2, e2, hw⟩) ht hr fun σ2 F2 H2 c2 e2 => ⟨F2, c.trans c2, e2⟩
  | brk ht hr => exact turn (m' := 0) (N := fun _ _ => False) (fun _ _ z => z.elim) ht hr fun σ2 F2 H2 c2 e2 => p σ2 F2 H2 (c.trans c2) e2
  | ret ht hr => exact turn (m' := 0) (N := fun _ _ => False) (fun _ _ z => z.elim) ht hr fun v F2 H2 c2 e2 => p v F2 H2 (c.trans c2) e2
  | exc ht hr => exact turn (m' := 0) (N := fun _ _ => False) (fun _ _ z => z.elim) ht hr fun σ2 dx F2 H2 c2 e2 => p σ2 dx F2 H2 (c.trans c2) e2
/-- a = b = e of something that is never changed -/
theorem run_asg2 (h : EE K te ρ m d) (hi : imm d = true) : Run K W (tAsg2 te (gName i) (gName j)) ρ (.nx ((ρ.set i (.dat d)).set j (.dat d))) := fun B F H σ Dn e p =>
  (h.imm hi) B F H σ e _ fun v F1 H1 g dv => p _ F1 H1 (g.chg e.eb) (((e.grow g).put_dat i dv).put_dat j dv)
theorem run_asg2X {x : Er} {g1 g2 : TG} (h : XX K te ρ W x) : Run K W (tAsg2 te g1 g2) ρ (.xs x ρ) := fun B F H σ Dn e p => h B F H σ e (fun d F1 H1 g1 er => p σ d F1 H1 (g1.chg e.eb) (e.grow g1) er) _
theorem oa_abs {a : Int} : OpA K (fun xs H Q => ∃ i, xs = [.int i] ∧ Q (.int (if i < 0 then -i else i)) H) [.int a] .f (.int (if a < 0 then -a else a)) := fun B F H xs _ ef h Q q => by
  obtain ⟨v, rfl, dv⟩ := h.inv1
  exact ⟨a, by rw [dv.int_inv], q _ F H (Grow.refl ef) (Dt.int _)⟩
theorem oa_gcd {a b : Int} : OpA K rGcd [.int a, .int b] .f (.int ((Nat.gcd a.natAbs b.natAbs : Nat) : Int)) := fun B F H xs _ ef h Q q => by
  obtain ⟨v, v', rfl, dv, dw⟩ := h.inv2
  exact ⟨a, b, by rw [dv.int_inv, dw.int_inv], q _ F H (Grow.refl ef) (Dt.int _)⟩
/-- repr of a list, of a tuple -/
def isSeq : D → Bool
  | .lst _ => true | .tup _ => true | _ => false
theorem oa_repr (hq : isSeq d = true) (h1 : SeqAt.shaped (toPy d) = true) (h2 : (toPy d).showable = true) (h3 : (toPy d).hasDict = false) (h4 : (toPy d).shown.length ≤ 16000000) : OpA K (rRepr K) [d] .f (.str (toPy d).shown) := fun B F H xs eb ef h Q q => by
  obtain ⟨v, rfl, dv⟩ := h.inv1
  have hp := dpm_of ef (SeqAt.canLay_of_shaped h1) dv
  have hz : (toPy d).shown.length ≤ sizeLine := by have := sizeLine_eq; omega
  cases d with
  | lst ds =>
    obtain ⟨a, ys, rfl, _⟩ := dv.lst_inv (Ex.refl _) ef
    exact ⟨a, _, rfl, hp, h1, h2, h3, hz, q _ F H (Grow.refl ef) (Dt.str _)⟩
  | tup ds =>
    obtain ⟨a, ys, rfl, _⟩ := dv.tup_inv (Ex.refl _) ef
    exact ⟨a, _, rfl, hp, h1, h2, h3, hz, q _ F H (Grow.refl ef) (Dt.str _)⟩
  | _ => cases hq
/-- x in l, x not in l -/
theorem o_inD {ds : List D} (h1 : SeqAt.shaped (toPy d) = true) (h2 : SeqAt.shaped (toPy (.lst ds)) = true) : Op2 K (rInD K) d (.lst ds) .f (.bl ((toPyA ds).any fun z => PyData.eqv z (toPy d))) := fun B F H x y eb ef dx dy Q q =>
  ⟨_, toPyA ds, dpm_of ef (SeqAt.canLay_of_shaped h1) dx, dpm_of ef (SeqAt.canLay_of_shaped h2) dy, h1, h2, q _ _ _ (Grow.refl ef) (.bl _)⟩
theorem o_notInD {ds : List D} (h1 : SeqAt.shaped (toPy d) = true) (h2 : SeqAt.shaped (toPy (.lst ds)) = true) : Op2 K (rNotInD K) d (.lst ds) .f (.bl (!(toPyA ds).any fun z => PyData.eqv z (toPy d))) := fun B F H x y eb ef dx dy Q q =>
  ⟨_, toPyA ds, dpm_of ef (SeqAt.canLay_of_shaped h1) dx, dpm_of ef (SeqAt.canLay_of_shaped h2) dy, h1, h2, q _ _ _ (Grow.refl ef) (.bl _)⟩
end
end QL

end
section
set_option maxRecDepth 100000
set_option maxHeartbeats 2000000
namespace QL
open PySem PySem.Spec PyProof.Rows L2 Evl
/-! ### dicts whose keys are tuples -/
section
variable {prog : Program} {w : World} {A : Around} {E : Value → Shared → Prop} {s : Shared} {κ : Type} [DecidableEq κ] {kd : HeapKind prog w κ}
/-- the whole numbers that entries hold -/
def Holds (xs : List (κ × Addr × Value)) (vs : List Int) : Prop := vs.length = xs.length ∧ ∀ (j : Nat) (x : κ × Addr × Value), xs[j]? = some x → ∃ t, x.2.2 = .int (vs.getD j 0) t
theorem nodup_at {xs : List (κ × Addr × Value)} (hn : (xs.map (·.1)).Nodup) {i j : Nat} {x y : κ × Addr × Value} (hi : xs[i]? = some x) (hj : xs[j]? = some y) (h : x.1 = y.1) : i = j := by
  have a : (xs.map (·.1))[i]? = some x.1 := by rw [List.getElem?_map, hi]; rfl
  have b : (xs.map (·.1))[j]? = some x.1 := by rw [List.getElem?_map, hj, h]; rfl
  obtain ⟨hi2, a2⟩ := List.getElem?_eq_some_iff.mp a
  obtain ⟨hj2, b2⟩ := List.getElem?_eq_some_iff.mp b
  exact (List.getElem_inj hn).mp (a2.trans b2.symm)
theorem pairsT {nm : String} {a b : Addr} {xs ys : List (κ × Addr × Value)} {vs ws : List Int} {Q : Bool → Shared → Prop} (hr : kd.room A) (ha : (a == sysModules) = false) (hb : (b == sysModules) = false)
    (da : s.heap.DictOfH kd a xs) (db : s.heap.DictOfH kd b ys) (hk : xs.map (·.1) = ys.map (·.1)) (hv : Holds xs vs) (hw : Holds ys ws) (h : Q (decide (vs = ws)) s) : wpAny (model prog w) A (Builtin.Dict.samePairs nm a b) Q E s := by
  obtain ⟨oa, es, ep, a1, _, a3, a4, a5, a6⟩ := da
  obtain ⟨ob, fs, eq, b1, _, b3, b4, b5, b6⟩ := db
  have na := size_of_entries a4
  have nb := size_of_entries b4
  have nxy : xs.length = ys.length := by simpa using congrArg List.length hk
  unfold Builtin.Dict.samePairs Builtin.Dict.showsAll
  rw [ha, hb]
  simp only [Bool.false_eq_true, if_false]
  refine wpAny_bind (wpAny_pure (wpAny_bind (wpAny_pure (wpAny_bind (wpAny_dictEntries a1 a3 ?_)))))
  refine wpAny_bind (wpAny_dictEntries b1 b3 ?_)
  have hne : ¬ ((es.size != fs.size) = true) := by rw [na, nb, nxy]; simp
  rw [if_neg hne]
  refine wpAny_bind (wpAny_dictEpoch a1 a3 (wpAny_bind ?_))
  rw [Std.Legacy.Range.forIn_eq_forIn_range']
  simp only [Std.Legacy.Range.size, Nat.sub_zero, Nat.add_sub_cancel, Nat.div_one]
  refine wpAny_forIn_list _ (fun rest q z => z = s ∧ q = (none, ()) ∧ ∃ i, rest = List.range' i (es.size - i) ∧ i ≤ es.size ∧ ∀ j, j < i → vs.getD j 0 = ws.getD j 0) _ (fun x rest q z hz => ?_) (fun q z hz => ?_) _ _ ⟨rfl, rfl, 0, by simp, Nat.zero_le _, fun j hj => absurd hj (Nat.not_lt_zero _)⟩
  · obtain ⟨rfl, rfl, i, h1, h2, h3⟩ := hz
    have hlt : i < es.size := by
      by_cases c : i < es.size
      · exact c
      · rw [show es.size - i = 0 by omega] at h1; cases h1
    rw [show es.size - i = (es.size - (i + 1)) + 1 by omega, List.range'_succ] at h1
    obtain ⟨rfl, rfl⟩ : x = i ∧ rest = List.range' (i + 1) (es.size - (i + 1)) := by
      injection h1 with u v
      exact ⟨u, v⟩
    have hx : x < xs.length := by omega
    have hy : x < ys.length := by omega
    have ex : es[x]? = some (entryOfKey kd xs[x]) := by rw [entry_at a4 x, List.getElem?_eq_getElem hx]; rfl
    have ey : fs[x]? = some (entryOfKey kd ys[x]) := by rw [entry_at b4 x, List.getElem?_eq_getElem hy]; rfl
    have keq : xs[x].1 = ys[x].1 := by
      have := congrArg (fun l => l[x]?) hk
      simp only [List.getElem?_map, List.getElem?_eq_getElem hx, List.getElem?_eq_getElem hy, Option.map_some, Option.some.injEq] at this
      exact this
    obtain ⟨t1, v1⟩ := hv.2 x xs[x] (List.getElem?_eq_getElem hx)
    obtain ⟨t2, v2⟩ := hw.2 x ys[x] (List.getElem?_eq_getElem hy)
    refine wpAny_bind (wpAny_dictEntries a1 a3 ?_)
    rw [ex]
    show wpAny _ _ (holding [Value.ref xs[x].2.1, xs[x].2.2] _ >>= _) _ _ _
    refine wpAny_bind (wpAny_holding (wpAny_bind ?_))
    refine wpAny_dictFind_heap (k := xs[x].1) hr (a5 xs[x] (List.getElem_mem hx)) b1 b3 b4 b5 b6 (fun z => ?_) fun j p hj => ?_
    · exact absurd (show ys[x]? = some (xs[x].1, ys[x].2) by rw [List.getElem?_eq_getElem hy, keq]) (z x ys[x].2)
    · obtain rfl : x = j := nodup_at b6 (List.getElem?_eq_getElem hy) hj keq.symm
      refine wpAny_bind (wpAny_dictEntries b1 b3 ?_)
      rw [ey]
      show wpAny _ _ (holding [ys[x].2.2] (eqBool xs[x].2.2 ys[x].2.2)) _ _ _
      refine wpAny_holding ?_
      rw [v1, v2]
      refine SeqAt.EqAt.int_int (vs.getD x 0) t1 (ws.getD x 0) t2 prog w E _ ?_
      by_cases c : vs.getD x 0 = ws.getD x 0
      · have e1 : (vs.getD x 0 == ws.getD x 0) = true := beq_iff_eq.mpr c
        rw [e1]
        show wpAny _ _ (if (!true) = true then _ else _) _ _ _
        rw [if_neg (by decide)]
        refine wpAny_bind (wpAny_dictEpoch a1 a3 ?_)
        rw [if_neg (by simp)]
        refine wpAny_pure ⟨rfl, rfl, x + 1, rfl, hlt, fun j hj => ?_⟩
        by_cases cj : j = x
        · rw [cj]; exact c
        · exact h3 j (by omega)
      · have e1 : (vs.getD x 0 == ws.getD x 0) = false := beq_eq_false_iff_ne.mpr c
        rw [e1]
        show wpAny _ _ (if (!false) = true then _ else _) _ _ _
        rw [if_pos (by decide)]
        have hn : vs ≠ ws := fun z => c (by rw [z])
        rw [decide_eq_false hn] at h
        exact wpAny_pure (wpAny_pure h)
  · obtain ⟨rfl, rfl, i, h1, h2, h3⟩ := hz
    have hi : i = es.size := by
      by_cases c : i < es.size
      · rw [show es.size - i = (es.size - (i + 1)) + 1 by omega, List.range'_succ] at h1; cases h1
      · omega
    have he : vs = ws := by
      apply List.ext_getElem (by rw [hv.1, hw.1, nxy])
      intro j j1 j2
      have := h3 j (by rw [hi, na, ← hv.1]; exact j1)
      simpa [List.getD_eq_getElem?_getD, List.getElem?_eq_getElem j1, List.getElem?_eq_getElem j2] using this
    rw [decide_eq_true he] at h
    exact wpAny_pure h
theorem rc_dictsT {a b : Addr} {xs ys : List (κ × Addr × Value)} {vs ws : List Int} (hr : kd.room A.in1) (ha : (a == sysModules) = false) (hb : (b == sysModules) = false)
    (da : s.heap.DictOfH kd a xs) (db : s.heap.DictOfH kd b ys) (hk : xs.map (·.1) = ys.map (·.1)) (hv : Holds xs vs) (hw : Holds ys ws) (hu : A.units < cLine) {Q : Value → Shared → Prop} (h : Q (.bool (decide (vs = ws))) s) : wpAny (model prog w) A (richCompare .Eq (.ref a) (.ref b)) Q E s := by
  have ty := db.typeIs
  refine wpAny_richCompare_same_room (op := .Eq) da.typeIs ty PySem.F.slot_dict_eq (wpAny_call_entry PySem.F.slot_dict_eq da.typeIs PySem.F.entry_dict_eq ?_ (PySem.F.args_dict_eq_2 _ _)) hu
  show wpAny _ _ (Builtin.Dict.dictSlotArgs "__eq__" ⟨[.ref a, .ref b], []⟩ >>= _) _ _ s
  refine wpAny_bind ?_
  unfold Builtin.Dict.dictSlotArgs
  refine wpAny_bind (wpAny_notOrdered_dict da.typeIs ?_)
  show wpAny _ _ (pure (Value.ref a, Value.ref b)) _ _ s
  refine wpAny_pure (wpAny_bind (wpAny_isInstance (T := "dict") ty PySem.F.sub_dict_dict ?_))
  simp only [Bool.not_true, Bool.false_eq_true, if_false]
  refine wpAny_bind (wpAny_pure (wpAny_bind (wpAny_pure (wpAny_bind (pairsT hr ha hb da db hk hv hw (wpAny_pure ⟨_, rfl, (fun z => (nomatch z)), ?_⟩))))))
  simpa using h
end
end QL

end
section
set_option maxRecDepth 100000
set_option maxHeartbeats 2000000
namespace QL
open PySem PySem.Spec PyProof.Rows L2 Evl
/-! ### dicts with tuple keys, at the level of data -/
def keysOf : List D → Option (List Key)
  | [] => some []
  | .int i :: r => (keysOf r).map (.inl i :: ·)
  | .str x :: r => (keysOf r).map (.inr x :: ·)
  | _ => none
def dgt {κ : Type} [DecidableEq κ] : List κ → List D → κ → Option D
  | k :: ks, d :: ds, q => if k = q then some d else dgt ks ds q
  | _, _, _ => none
theorem dgt_at {κ : Type} [DecidableEq κ] : ∀ {ks : List κ} {ds : List D} {q : κ} {d : D}, dgt ks ds q = some d → ∃ j : Nat, ds[j]? = some d ∧ ∀ xs : List V, xs.length = ks.length → valV (ks.zip xs) q = xs[j]?
  | k :: ks, e :: ds, q, d, h => by
    unfold dgt at h
    by_cases c : k = q
    · rw [if_pos c] at h
      cases h
      refine ⟨0, rfl, fun xs hl => ?_⟩
      cases xs with
      | nil => cases hl
      | cons x xs => exact valV_pos (p := (k, x)) c
    · rw [if_neg c] at h
      obtain ⟨j, h1, h2⟩ := dgt_at h
      refine ⟨j + 1, h1, fun xs hl => ?_⟩
      cases xs with
      | nil => cases hl
      | cons x xs =>
        rw [List.zip_cons_cons, valV_neg (p := (k, x)) c]
        exact h2 xs (by simpa using hl)
  | [], _, _, _, h => by simp [dgt] at h
  | _ :: _, [], _, _, h => by simp [dgt] at h
theorem valV_out {κ : Type} [DecidableEq κ] : ∀ {ks : List κ} {xs : List V} {q : κ}, q ∉ ks → valV (ks.zip xs) q = none
  | [], _, _, _ => by simp [valV]
  | _ :: _, [], _, _ => by simp [valV]
  | k :: ks, x :: xs, q, h => by
    rw [List.zip_cons_cons, valV_neg (p := (k, x)) (fun z => h (by rw [← z]; exact List.mem_cons_self))]
    exact valV_out fun z => h (List.mem_cons_of_mem _ z)
theorem keys_imm : ∀ {es : List D} {k : List Key}, keysOf es = some k → immA es = true
  | [], _, _ => rfl
  | e :: es, k, h => by
    cases e <;> simp only [keysOf, Option.map_eq_some_iff] at h <;> first | (obtain ⟨r, h1, _⟩ := h; simp only [immA, imm, Bool.true_and]; exact keys_imm h1) | cases h
theorem keys_vals {K : PySem.W.Frag} {F : Hp} : ∀ {es : List D} {k : List Key} {xs : List V}, keysOf es = some k → DtA K F xs es → xs = k.map kV
  | [], k, xs, h, q => by cases h; cases q; rfl
  | e :: es, k, xs, h, q => by
    cases q with
    | cons q1 q2 =>
      cases e <;> simp only [keysOf, Option.map_eq_some_iff] at h <;> first | (obtain ⟨r, h1, rfl⟩ := h; cases q1; rw [keys_vals h1 q2]; rfl) | cases h
section
variable {K : PySem.W.Frag} {W : WX} {ρ : List Sl} {ta tb td ty te : TE} {m m1 m2 : Md} {d : D} {ds es : List D} {ks : List (List Key)} {k : List Key} {i : Nat}
theorem key_at {H F : Hp} {y : V} (ef : Ex F H) (hk : keysOf es = some k) (h : DtM K H F y (.tup es)) : ∃ b, y = .ref b ∧ H b = some (.tup (k.map kV)) := by
  obtain ⟨b, xs, e, h1, h2⟩ := (h.imm (show imm (.tup es) = true from keys_imm hk)).tup_inv
  rw [keys_vals hk h2] at h1
  exact ⟨b, e, ef _ _ h1⟩
theorem Val.isDT {B H0 F H : Hp} {v : V} (eb : Ex B H) (ef : Ex F H) (h : Val K m B H0 F H v (.dit ks ds)) : ∃ p xs, v = .ref p ∧ H p = some (.dT (ks.zip xs)) ∧ xs.length = ks.length ∧ ItV K m B F H xs ds := by
  cases m with
  | f =>
    obtain ⟨p, xs, e, h1, l, h2⟩ := Dt.dit_inv h
    exact ⟨p, xs, e, ef _ _ h1, l, h2⟩
  | b =>
    obtain ⟨p, xs, e, h1, l, h2⟩ := DtM.dit_inv eb ef h
    exact ⟨p, xs, e, h1, l, h2⟩
  | h =>
    obtain ⟨p, xs, e, h1, l, h2⟩ := DtM.dit_inv (Ex.refl _) ef h
    exact ⟨p, xs, e, h1, l, h2⟩
  | n =>
    obtain ⟨p, e, _, _, h3⟩ := h
    rcases h3 with ⟨xs, ds', e1, h1, h2⟩ | ⟨ks, xs, ds', e1, h1, l, h2⟩ | ⟨ks, xs, ds', e1, h1, l, h2⟩
    · cases e1
    · cases e1
    · cases e1; exact ⟨p, xs, e, h1, l, h2⟩
  | o =>
    obtain ⟨p, e, h3⟩ := h
    rcases h3 with ⟨xs, ds', e1, h1, h2⟩ | ⟨ks, xs, ds', e1, h1, l, h2⟩ | ⟨ks, xs, ds', e1, h1, l, h2⟩
    · cases e1
    · cases e1
    · cases e1; exact ⟨p, xs, e, h1, l, h2⟩
theorem e_dnT : EE K tDNewT ρ .n (.dit [] []) := fun B F H σ e Q q => fun p hp =>
  q _ F _ (Grow.newO e.ef hp) ⟨p, rfl, fresh_back e.ef hp, hp, .inr (.inr ⟨[], [], [], rfl, upd_same, rfl, .nil⟩)⟩
theorem Val.at2 {B F H H0 : Hp} {xs : List V} {j : Nat} {x : V} {e : D} (h : ItV K m B F H xs ds) (h1 : xs[j]? = some x) (h2 : ds[j]? = some e) : Val K (ixm m) B H0 F H x e := by
  have q := Val.at (B := B) h h1 h2
  cases m with
  | f => exact q
  | b => exact q
  | h => exact q
  | n => exact q
  | o => exact q
theorem e_dgetT (ha : EE K td ρ m1 (.dit ks ds)) (hb : EE K ty ρ m2 (.tup es)) (hk : keysOf es = some k) (h : dgt ks ds k = some d) : EE K (tDGet td ty) ρ (ixm m1) d := fun B F H σ e Q q =>
  ha B F H σ e _ fun x F1 H1 g1 dx => hb.h B F1 H1 σ (e.grow g1) _ fun y F2 H2 g2 dy => by
    obtain ⟨p, xs, rfl, h1, l, h2⟩ := dx.isDT (e.eb.trans g1.h) g1.i
    have h2 : ItV K m1 B F2 H2 xs ds := ItV.grow g2 h2
    obtain ⟨b, rfl, hb⟩ := key_at g2.i hk dy
    obtain ⟨j, j1, j2⟩ := dgt_at h
    have hx : j < xs.length := by rw [h2.len]; exact (List.getElem?_eq_some_iff.mp j1).1
    refine ⟨p, xs[j], rfl, ?_, q _ F2 H2 (g1.trans g2) (Val.at2 h2 (List.getElem?_eq_getElem hx) j1)⟩
    have := DGet.t (k := k) (g2.h _ _ h1) hb
    rw [j2 xs l, List.getElem?_eq_getElem hx] at this
    exact this
theorem run_putT (h : ρ[i]? = some (.ownT ks ds)) (hv : EE K te ρ m d) (c : cf m d = true) (hy : EE K ty ρ m2 (.tup es)) (hk : keysOf es = some k) (hn : k ∉ ks) (hz : ks.length < 100000) :
    Run K W (sDPut (tVar i) ty te) ρ (.nx (ρ.set i (.ownT (ks ++ [k]) (ds ++ [d])))) := fun B F H σ Dn e p =>
  (hv.f c) B F H σ e _ fun v F1 H1 g dv => by
    obtain ⟨q, xs, h1, h2, h3, h4, hl, h5⟩ := (e.grow g).ownT h
    refine ⟨_, h1, ?_⟩
    refine hy.h B F1 H1 σ (e.grow g) _ fun y F2 H2 g2 dy => ?_
    obtain ⟨b, rfl, hb⟩ := key_at g2.i hk dy
    have e0 : putK (ks.zip xs) k v = (ks ++ [k]).zip (xs ++ [v]) := by
      rw [putK_new v (valV_out hn), List.zip_append hl.symm]; rfl
    refine ⟨q, _, rfl, DPut.t (g2.h _ _ h4) hb (sz_lt (by rw [List.length_zip]; omega)), ?_⟩
    rw [e0]
    exact p _ F2 _ ((g.trans g2).chg e.eb) (((e.grow g).grow g2).mutT h h1 (by simp [hl]) (.append (h5.mono g2.f) (.one (Dt.mono g2.f dv))))
/-- == of two such dicts with the same keys in the same order and whole numbers -/
def rEqT : R2 := fun x y H Q => ∃ (a b : Addr) (ks : List (List Key)) (vs ws : List Int), x = .ref a ∧ y = .ref b ∧ vs.length = ks.length ∧ ws.length = ks.length ∧ H a = some (.dT (ks.zip (vs.map V.int))) ∧ H b = some (.dT (ks.zip (ws.map V.int))) ∧ Q (.bl (decide (vs = ws))) H
theorem kt_of {H : Hp} : ∀ {ks : List (List Key)} {vs : List Int} {xs : List (List Key × Addr × Value)}, vs.length = ks.length → KT H (ks.zip (vs.map V.int)) xs → xs.map (·.1) = ks ∧ Holds xs vs
  | [], [], xs, _, h => by
    cases h
    exact ⟨rfl, rfl, fun j x hx => by simp at hx⟩
  | k :: ks, v :: vs, xs, hl, h => by
    rw [List.map_cons, List.zip_cons_cons] at h
    cases h with
    | cons h1 h2 =>
      obtain ⟨a1, a2, a3⟩ := h1
      obtain ⟨i1, i2, i3⟩ := kt_of (by simpa using hl) h2
      refine ⟨by rw [List.map_cons, i1, ← a1], by simp [i2], fun j x hx => ?_⟩
      cases j with
      | zero =>
        simp only [List.getElem?_cons_zero, Option.some.injEq] at hx
        subst hx
        obtain ⟨t, e⟩ := a3
        exact ⟨t, e⟩
      | succ j => exact i3 j x (by simpa using hx)
theorem op_eqT {X : Cx} (hu : X.A.units + 1 < cLine) : OpR X (compareOp .Eq) rEqT := by
  intro pins s σ H x y v u Q I rx ry h
  obtain ⟨a, b, ks, vs, ws, rfl, rfl, l1, l2, ha, hb, q⟩ := h
  cases rx
  cases ry
  obtain ⟨_, na, xs, r1, da⟩ := dt_of I.hok ha
  obtain ⟨_, nb, ys, r2, db⟩ := dt_of I.hok hb
  obtain ⟨k1, v1⟩ := kt_of l1 r1
  obtain ⟨k2, v2⟩ := kt_of l2 r2
  show wpAny (model X.prog X.w) X.A (richCompare .Eq (.ref a) (.ref b)) (EP X pins σ Q) X.xe s
  exact rc_dictsT (tupleKind_room_in1 hu) na nb da db (k1.trans k2.symm) v1 v2 (by omega) ⟨.bl _, H, I, rfl, q⟩
theorem dtma_ints {P F : Hp} : ∀ {vs : List Int} {xs : List V}, DtMA K P F xs (vs.map .int) → xs = vs.map V.int
  | [], xs, h => by cases h; rfl
  | v :: vs, xs, h => by
    cases h with
    | cons a b => rw [a.int_inv, dtma_ints b]; rfl
theorem o_eqT {vs ws : List Int} : Op2 K rEqT (.dit ks (vs.map .int)) (.dit ks (ws.map .int)) .f (.bl (decide (vs = ws))) := fun B F H x y eb ef dx dy Q q => by
  obtain ⟨a, xs, rfl, h1, l1, h2⟩ := dx.dit_inv (Ex.refl _) ef
  obtain ⟨b, ys, rfl, h3, l3, h4⟩ := dy.dit_inv (Ex.refl _) ef
  have e1 := dtma_ints h2
  have e2 := dtma_ints h4
  subst e1 e2
  exact ⟨a, b, ks, vs, ws, rfl, rfl, by simpa using l1, by simpa using l3, h1, h3, q _ F H (Grow.refl ef) (Dt.bl _)⟩
end
/-! ### a list of new lists that is changed at once: x = [.. for ..]; x[i][j] = e -/
/-- new lists at ps, nothing but these -/
inductive RowsN (K : PySem.W.Frag) (F H H0 : Hp) : List Addr → List (List D) → Prop where
  | nil : RowsN K F H H0 [] []
  | cons {p : Addr} {ps : List Addr} {xs : List V} {row : List D} {rows : List (List D)} : F p = none → H0 p = none → H p = some (.lst xs) → DtA K F xs row → p ∉ ps → RowsN K F H H0 ps rows → RowsN K F H H0 (p :: ps) (row :: rows)
section
variable {K : PySem.W.Frag} {W : WX} {F F' H H' H0 : Hp} {ps : List Addr} {rows : List (List D)} {p : Addr}
theorem RowsN.len (h : RowsN K F H H0 ps rows) : ps.length = rows.length := by
  induction h with
  | nil => rfl
  | cons _ _ _ _ _ _ ih => simp [ih]
theorem RowsN.grow (g : Grow F H F' H') (h : RowsN K F H H0 ps rows) : RowsN K F' H' H0 ps rows := by
  induction h with
  | nil => exact .nil
  | cons a b c d e _ ih => exact .cons (g.n _ a (by rw [c]; exact fun z => nomatch z)) b (g.h _ _ c) (d.mono g.f) e ih
theorem RowsN.mem (h : RowsN K F H H0 ps rows) : p ∈ ps → F p = none ∧ H0 p = none ∧ H p ≠ none := by
  induction h with
  | nil => intro z; cases z
  | cons a b c d e _ ih =>
    intro z
    rcases List.mem_cons.mp z with rfl | z
    · exact ⟨a, b, by rw [c]; exact fun z => nomatch z⟩
    · exact ih z
theorem RowsN.at {k : Nat} {row : List D} (h : RowsN K F H H0 ps rows) (e : rows[k]? = some row) : ∃ p xs, ps[k]? = some p ∧ H p = some (.lst xs) ∧ DtA K F xs row := by
  induction h generalizing k with
  | nil => simp at e
  | @cons p ps xs r rs a b c d e' _ ih =>
    cases k with
    | zero => simp at e; subst e; exact ⟨p, xs, rfl, c, d⟩
    | succ k => exact ih (by simpa using e)
theorem RowsN.upd_out {u : HO} (hp : p ∉ ps) (h : RowsN K F H H0 ps rows) : RowsN K F (upd H p u) H0 ps rows := by
  induction h with
  | nil => exact .nil
  | cons a b c d e _ ih =>
    simp only [List.mem_cons, not_or] at hp
    exact .cons a b (by rw [upd_ne (Ne.symm hp.1)]; exact c) d e (ih hp.2)
theorem RowsN.push {xs : List V} {row : List D} (h : RowsN K F H H0 ps rows) (a : F p = none) (b : H0 p = none) (c : H p = some (.lst xs)) (d : DtA K F xs row) (e : p ∉ ps) : RowsN K F H H0 (ps ++ [p]) (rows ++ [row]) := by
  revert e
  induction h with
  | nil => intro _; exact .cons a b c d (by simp) .nil
  | @cons q qs ys r rs a' b' c' d' e' _ ih =>
    intro e
    simp only [List.mem_cons, not_or] at e
    have h9 : q ∉ qs ++ [p] := by
      simp only [List.mem_append, List.mem_singleton, not_or]
      exact ⟨e', Ne.symm e.1⟩
    exact .cons a' b' c' d' h9 (ih e.2)
/-- one of them is changed -/
theorem RowsN.set {k : Nat} {row : List D} {ys : List V} (h : RowsN K F H H0 ps rows) (e : ps[k]? = some p) (d : DtA K F ys row) : RowsN K F (upd H p (.lst ys)) H0 ps (rows.set k row) := by
  induction h generalizing k with
  | nil => simp at e
  | @cons q qs zs r rs a b c d' e' t ih =>
    cases k with
    | zero =>
      simp only [List.getElem?_cons_zero, Option.some.injEq] at e
      subst e
      exact .cons a b upd_same d e' (t.upd_out e')
    | succ k =>
      have hq : qs[k]? = some p := by simpa using e
      have hne : q ≠ p := fun z => e' (by rw [z]; exact List.mem_of_getElem? hq)
      exact .cons a b (by rw [upd_ne hne]; exact c) d' e' (ih hq)
/-- they are put into the frame -/
def addF (F H : Hp) (ps : List Addr) : Hp := fun q => if q ∈ ps then H q else F q
theorem addF_out {q : Addr} (h : q ∉ ps) : addF F H ps q = F q := if_neg h
theorem addF_in {q : Addr} (h : q ∈ ps) : addF F H ps q = H q := if_pos h
theorem RowsN.ex (h : RowsN K F H H0 ps rows) : Ex F (addF F H ps) := fun q o e => by
  by_cases c : q ∈ ps
  · rw [(h.mem c).1] at e; cases e
  · rw [addF_out c]; exact e
theorem RowsN.exH (x : Ex F H) : Ex (addF F H ps) H := fun q o e => by
  by_cases c : q ∈ ps
  · rw [addF_in c] at e; exact e
  · rw [addF_out c] at e; exact x _ _ e
theorem RowsN.frz (h : RowsN K F H H0 ps rows) : ∀ {qs : List Addr}, (∀ q ∈ ps, q ∈ qs) → (∀ q o, F q = some o → q ∉ qs) → DtA K (addF F H qs) (ps.map V.ref) (rows.map .lst) := by
  intro qs
  induction h with
  | nil => intro _ _; exact .nil
  | @cons q qs' zs r rs a b c d' e' t ih =>
    intro h1 h2
    refine .cons (.lst (by rw [addF_in (h1 _ List.mem_cons_self)]; exact c) (d'.mono fun z o ez => ?_)) (ih (fun z hz => h1 z (List.mem_cons_of_mem _ hz)) h2)
    rw [addF_out (h2 z o ez)]; exact ez
/-- what a comprehension of new lists gives -/
inductive LcN (K : PySem.W.Frag) (pt : Pat) (ρ0 : List Sl) (tt : TT) (te : TE) : List Item → List (List D) → Prop where
  | nil : LcN K pt ρ0 tt te [] []
  | cons {it : Item} {its : List Item} {ρ1 : List Sl} {row : List D} {rows : List (List D)} : bindP pt ρ0 it = some ρ1 → ET K tt ρ1 true → EE K te ρ1 .n (.lst row) → LcN K pt ρ0 tt te its rows → LcN K pt ρ0 tt te (it :: its) (row :: rows)
structure AccN (K : PySem.W.Frag) (B F1 H1 : Hp) (Dl : Addr) (σ : L2.St) (ρ : List Sl) (F H : Hp) (es : List (List D)) : Prop where
  c : Chg B F1 F
  x1 : Ex H1 H
  n : ∀ p, F1 p = none → H1 p ≠ none → F p = none
  fr : F Dl = none
  ex : ∃ ps, H Dl = some (.lst (ps.map V.ref)) ∧ RowsN K F H H1 ps es ∧ Dl ∉ ps
  e : EnvOk K B F H σ ρ
theorem AccN.grow {B F1 H1 F H F' H' : Hp} {Dl : Addr} {σ : L2.St} {ρ : List Sl} {es : List (List D)} (a : AccN K B F1 H1 Dl σ ρ F H es) (g : Grow F H F' H') : AccN K B F1 H1 Dl σ ρ F' H' es := by
  obtain ⟨ps, h1, h2, h3⟩ := a.ex
  exact ⟨a.c.trans (g.chg a.e.eb), a.x1.trans g.h, fun p z1 z2 => g.n p (a.n p z1 z2) (ex_some a.x1 z2), g.n Dl a.fr (by rw [h1]; exact fun z => nomatch z), ⟨ps, g.h _ _ h1, h2.grow g, h3⟩, a.e.grow g⟩
variable {ρ : List Sl} {te : TE} {tt : TT} {wi : TI} {g : TG} {pt : Pat} {vs : List Nat}
theorem e_lcN {st : Bool} {its : List Item} (hw : Src K wi ρ st its) (hg : GP K g pt) (hv : ∀ i ∈ pt.vars, i ∈ vs) (hl : LcN K pt (wipeR ρ vs) tt te its rows) (hn : rows.length < 100000) :
    ∀ B F H σ, EnvOk K B F H σ ρ → ∀ Q : VK, (∀ Dl F' H', Grow F H F' H' → H Dl = none → AccN K B F H Dl σ ρ F' H' rows → Q (.ref Dl) H') → tLc wi g tt te vs σ H Q := fun B F H σ e Q q => by
  refine hw.go e fun J F1 H1 g1 hgo hst => ?_
  intro Dl hD
  have e1 := e.grow g1
  have off : ∀ k : Nat, Own1 σ ρ k Dl → False := fun k o => (e1.mine o).2.2 hD
  have bD : B Dl = none := fresh_back e1.eb hD
  have fD : F1 Dl = none := fresh_back e1.ef hD
  refine ⟨fun k m H' => m = its.length - k ∧ k ≤ its.length ∧ ∃ F' es rem, es ++ rem = rows ∧ AccN K B F1 H1 Dl σ ρ F' H' es ∧ LcN K pt (wipeR ρ vs) tt te (its.drop k) rem,
    ⟨its.length, by simp, Nat.zero_le _, F1, [], rows, rfl, ⟨Chg.refl _ _, Ex.new hD, fun _ h _ => h, fD, ⟨[], upd_same, .nil, by simp⟩, e1.off bD fD off⟩, hl⟩, fun k m H' hW => ?_⟩
  obtain ⟨rfl, hk, F', es, rem, hr, a, l⟩ := hW
  generalize hdk : its.drop k = its' at l
  cases l with
  | nil =>
    have hkn := drop_nil hk hdk
    subst hkn
    refine .inl ⟨hst F' H' a.c a.e.eb a.e.ef a.x1, ?_⟩
    rw [List.append_nil] at hr
    subst hr
    have gr : Grow F H F' H' := ⟨g1.f.trans a.c.f, a.e.ef, g1.h.trans a.x1, fun p z1 z2 => a.n p (g1.n p z1 z2) (ex_some g1.h z2)⟩
    obtain ⟨ps, h1, h2, h3⟩ := a.ex
    refine q Dl F' H' gr (fresh_back g1.h hD) ⟨gr.chg e.eb, gr.h, gr.n, a.fr, ⟨ps, h1, ?_, h3⟩, a.e⟩
    clear h1 h3
    have back : ∀ {ps : List Addr} {es : List (List D)}, RowsN K F' H' H1 ps es → RowsN K F' H' H ps es := by
      intro ps es h
      induction h with
      | nil => exact .nil
      | cons a b c d e _ ih => exact .cons a (fresh_back g1.h b) c d e ih
    exact back h2
  | @cons it its0 ρ1 row rows0 hb ht he hl0 =>
    obtain ⟨hit, hd2, hlt⟩ := drop_cons hdk
    obtain ⟨go1, go2⟩ := hgo F' H' a.c a.e.eb a.e.ef a.x1 k it hit
    refine .inr ⟨go1, fun H2 => ∃ F2, AccN K B F1 H1 Dl σ ρ F2 H2 (es ++ [row]), fun H2 h => ?_, fun x H2 hy => ?_⟩
    · obtain ⟨F2, a2⟩ := h
      exact ⟨its.length - (k + 1), by omega, rfl, hlt, F2, es ++ [row], rows0, by rw [← hr]; simp, a2, by rw [hd2]; exact hl0⟩
    · obtain ⟨y1, y2⟩ := go2 x H2 hy
      have g3 : Grow F' H' F' H2 := Grow.up a.e.ef y1
      have e3 := (a.grow g3).e.wipe vs
      refine hg.run e3.eb e3.ef hb e3 y2 _ fun σ' e4 hw' _ => ⟨?_, ?_⟩
      · rw [hw' vs hv]
        exact wipe_wipe
      · refine ht B F' H2 σ' e4 _ fun F4 H4 g4 => ?_
        rw [if_pos rfl]
        refine he B F4 H4 σ' (e4.grow g4) _ fun v F5 H5 g5 dv => ?_
        have a4 := (a.grow g3).grow g4
        have a5 := a4.grow g5
        obtain ⟨p, rfl, p1, p2, p3⟩ := dv
        obtain ⟨ps, h1, h2, h3⟩ := a5.ex
        obtain ⟨ps4, h14, h24, h34⟩ := a4.ex
        have eps : ps = ps4 := by
          have := g5.h _ _ h14
          rw [h1] at this
          have h0 : ps.map V.ref = ps4.map V.ref := by injection this with z; injection z
          exact List.map_inj_right (fun a b z => by injection z) |>.mp h0
        subst eps
        have pDl : Dl ≠ p := fun z => by rw [z] at h14; rw [p2] at h14; cases h14
        have pps : p ∉ ps := fun z => (h24.mem z).2.2 p2
        rcases p3 with ⟨xs, ds', e9, k1, k2⟩ | ⟨_, _, _, e9, _⟩ | ⟨_, _, _, e9, _⟩
        rotate_left
        · cases e9
        · cases e9
        · cases e9
          refine ⟨_, h1, sz_lt (by rw [List.length_map, h2.len]; have := congrArg List.length hr; simp at this; omega), F5, a5.c, Ex.mut a5.x1 hD, a5.n, a5.fr, ⟨ps ++ [p], ?_, ?_, ?_⟩, a5.e.off bD a5.fr off⟩
          · rw [upd_same, List.map_append]; rfl
          · exact (h2.push p1 (fresh_back a4.x1 p2) k1 k2 pps).upd_out (by simp only [List.mem_append, List.mem_singleton, not_or]; exact ⟨h3, pDl⟩)
          · simp only [List.mem_append, List.mem_singleton, not_or]; exact ⟨h3, pDl⟩
/-- more is lent -/
theorem EnvOk.lend {B P : Hp} {σ : L2.St} (e : EnvOk K B F H σ ρ) (hP : Ex P H) (ho : ∀ k p, Own1 σ ρ k p → P p = none) : EnvOk K (both B P) F H σ ρ := by
  refine ⟨fun q o z => ?_, e.ef, e.len, fun i o s h1 h2 => ?_, e.dis⟩
  · unfold both at z
    cases hb : B q with
    | some u => rw [hb] at z; rw [← z]; exact e.eb _ _ hb
    | none => rw [hb] at z; exact hP _ _ z
  · have q := e.sl i o s h1 h2
    cases q with
    | un => exact .un _
    | dat h => exact .dat h
    | bor h => exact .bor (h.mono both_l (Ex.refl _))
    | err h => exact .err h
    | own a b c d => exact .own a (both_none b (ho i _ ⟨h1, _, h2, rfl⟩)) c d
    | ownD a b c l d => exact .ownD a (both_none b (ho i _ ⟨h1, _, h2, rfl⟩)) c l d
    | ownT a b c l d => exact .ownT a (both_none b (ho i _ ⟨h1, _, h2, rfl⟩)) c l d
    | slf a b c l d => exact .slf a (both_none b (ho i _ ⟨h1, _, h2, rfl⟩)) c l d
/-- new things that nobody holds are put into the frame -/
theorem EnvOk.keepN {B : Hp} {σ : L2.St} (e : EnvOk K B F H σ ρ) (h : RowsN K F H H0 ps rows) (ho : ∀ k p, Own1 σ ρ k p → p ∉ ps) : EnvOk K B (addF F H ps) H σ ρ := by
  have x := h.ex
  refine ⟨e.eb, RowsN.exH e.ef, e.len, fun i o s h1 h2 => ?_, e.dis⟩
  have q := e.sl i o s h1 h2
  cases q with
  | un => exact .un _
  | dat h => exact .dat (h.mono x)
  | bor h => exact .bor (h.mono (Ex.refl _) x)
  | err h => exact .err (h.mono x)
  | own a b c d => exact .own (by rw [addF_out (ho i _ ⟨h1, _, h2, rfl⟩)]; exact a) b c (d.mono x)
  | ownD a b c l d => exact .ownD (by rw [addF_out (ho i _ ⟨h1, _, h2, rfl⟩)]; exact a) b c l (d.mono x)
  | ownT a b c l d => exact .ownT (by rw [addF_out (ho i _ ⟨h1, _, h2, rfl⟩)]; exact a) b c l (d.mono x)
  | slf a b c l d => exact .slf (by rw [addF_out (ho i _ ⟨h1, _, h2, rfl⟩)]; exact a) b c l (d.mono x)
end
end QL

end
section
set_option maxRecDepth 100000
set_option maxHeartbeats 2000000
namespace QL
open PySem PySem.Spec PyProof.Rows L2 Evl
section
variable {K : PySem.W.Frag} {W : WX} {F F' H H' H0 : Hp} {ps : List Addr} {rows : List (List D)} {p : Addr} {ρ : List Sl} {te te2 tk1 tk2 : TE} {tt : TT} {wi : TI} {g : TG} {pt : Pat} {vs : List Nat} {u : TS} {o : Out}
theorem ixN_lt {n k : Nat} {z : Int} (h : ixN n z = some k) : k < n := by
  unfold ixN at h
  split at h <;> split at h <;> first | (cases h; omega) | (cases h)
/-- x = [.. for ..] of new lists; x[i][j] = e -/
theorem run_setN2 {st : Bool} {its : List Item} {i : Nat} {d2 : D} {m2 m3 m4 : Md} {n1 n2 : Int} {k1 k2 : Nat} {row : List D} (hw : Src K wi ρ st its) (hg : GP K g pt) (hv : ∀ i ∈ pt.vars, i ∈ vs) (hl : LcN K pt (wipeR ρ vs) tt te its rows) (hn : rows.length < 100000)
    (he : EE K te2 (ρ.set i (.bor (.lst (rows.map .lst)))) m2 d2) (hi2 : imm d2 = true) (h1 : EE K tk1 (ρ.set i (.bor (.lst (rows.map .lst)))) m3 (.int n1)) (h2 : EE K tk2 (ρ.set i (.bor (.lst (rows.map .lst)))) m4 (.int n2))
    (hk1 : ixN rows.length n1 = some k1) (hr : rows[k1]? = some row) (hk2 : ixN row.length n2 = some k2) (hi : i < ρ.length)
    (hu : Run K W u (ρ.set i (.own ((rows.set k1 (row.set k2 d2)).map .lst))) o) :
    Run K W (tSeq (tAsg (tLc wi g tt te vs) (gName i)) (tSeq (tAsg te2 (gSub (tOp (rIxL K) (tVar i) tk1) tk2 rSetL)) u)) ρ o := fun B F H σ Dn e pp => by
  show tLc wi g tt te vs σ H fun x H1 => (tSeq (tAsg te2 (gSub (tOp (rIxL K) (tVar i) tk1) tk2 rSetL)) u) Dn (σ.set i (some x)) H1
  refine e_lcN hw hg hv hl hn B F H σ e _ fun Dl F1 H1 g1 hD a => ?_
  show (tSeq (tAsg te2 (gSub (tOp (rIxL K) (tVar i) tk1) tk2 rSetL)) u) Dn (σ.set i (some (.ref Dl))) H1
  obtain ⟨ps, q1, q2, q3⟩ := a.ex
  have own : ∀ k p, Own1 σ ρ k p → p ≠ Dl ∧ p ∉ ps := fun k p oo => by
    have := (e.mine oo).2.2
    exact ⟨fun z => this (by rw [z]; exact hD), fun z => this (q2.mem z).2.1⟩
  have hsi : i < σ.length := by rw [e.len]; exact hi
  have hσ : (σ.set i (some (V.ref Dl)))[i]? = some (some (.ref Dl)) := List.getElem?_set_self hsi
  have bD : B Dl = none := fresh_back e.eb hD
  have bps : ∀ q ∈ ps, B q = none := fun q hq => fresh_back e.eb (q2.mem hq).2.1
  let P : Hp := fun q => if q = Dl ∨ q ∈ ps then H1 q else none
  have xP : Ex P H1 := fun q w z => by
    have z' : (if q = Dl ∨ q ∈ ps then H1 q else none) = some w := z
    split at z'
    · exact z'
    · cases z'
  have eP : EnvOk K (both B P) F1 H1 σ ρ := a.e.lend xP fun k q oo => by
    obtain ⟨z1, z2⟩ := own k q oo
    show (if q = Dl ∨ q ∈ ps then H1 q else none) = none
    rw [if_neg (by simp [z1, z2])]
  have bothP : ∀ {q : Addr} {w : HO}, q = Dl ∨ q ∈ ps → H1 q = some w → both B P q = some w := fun {q w} c z => by
    have b0 : B q = none := by
      rcases c with c | c
      · rw [c]; exact bD
      · exact bps q c
    unfold both
    rw [b0]
    show (if q = Dl ∨ q ∈ ps then H1 q else none) = some w
    rw [if_pos c]; exact z
  have dP : DtMA K (both B P) F1 (ps.map V.ref) (rows.map .lst) := by
    have key : ∀ {qs : List Addr} {rs : List (List D)}, RowsN K F1 H1 H qs rs → (∀ q ∈ qs, q ∈ ps) → DtMA K (both B P) F1 (qs.map V.ref) (rs.map .lst) := by
      intro qs rs h
      induction h with
      | nil => intro _; exact .nil
      | cons a b c d e _ ih => intro hq; exact .cons (.lst (bothP (.inr (hq _ List.mem_cons_self)) c) d.m) (ih fun z hz => hq z (List.mem_cons_of_mem _ hz))
    exact key q2 fun _ h => h
  have eb := eP.put_bor i (v := .ref Dl) (d := .lst (rows.map .lst)) (.lst (bothP (.inl rfl) q1) dP)
  refine (he.imm hi2) (both B P) F1 H1 _ eb _ fun v F2 H2 g2 dv => ?_
  refine ⟨.ref Dl, hσ, ?_⟩
  refine h1.h (both B P) F2 H2 _ (eb.grow g2) _ fun y F3 H3 g3 dy => ?_
  rw [DtM.int_inv dy]
  obtain ⟨p, xs, r1, r2, r3⟩ := q2.at hr
  have hpm : p ∈ ps := List.mem_of_getElem? r1
  refine ⟨Dl, ps.map V.ref, n1, .ref p, rfl, rfl, .inl (.inl ((g2.trans g3).h _ _ q1)), ?_, ?_⟩
  · unfold atI
    rw [List.length_map, q2.len, hk1]
    show (ps.map V.ref)[k1]? = _
    rw [List.getElem?_map, r1]; rfl
  refine h2.h (both B P) F3 H3 _ ((eb.grow g2).grow g3) _ fun y2 F4 H4 g4 dy2 => ?_
  rw [DtM.int_inv dy2]
  have g234 := (g2.trans g3).trans g4
  have hp4 : H4 p = some (.lst xs) := g234.h _ _ r2
  have lx : xs.length = row.length := r3.len
  refine ⟨p, xs, n2, k2, rfl, rfl, hp4, by rw [lx]; exact hk2, ?_⟩
  have a4 := a.grow g234
  obtain ⟨ps4, w1, w2, w3⟩ := a4.ex
  have eps : ps4 = ps := by
    have := g234.h _ _ q1
    rw [w1] at this
    have h0 : ps4.map V.ref = ps.map V.ref := by injection this with z; injection z
    exact List.map_inj_right (fun a b z => by injection z) |>.mp h0
  subst eps
  have hDp : Dl ≠ p := fun z => q3 (by rw [z]; exact hpm)
  have w5 : RowsN K F4 (upd H4 p (.lst (xs.set k2 v))) H ps4 (rows.set k1 (row.set k2 d2)) := w2.set r1 (.set (Dt.mono (g3.trans g4).f dv) k2 (r3.mono g234.f))
  have e5 : EnvOk K B F4 (upd H4 p (.lst (xs.set k2 v))) σ ρ := a4.e.off (bps p hpm) (w2.mem hpm).1 fun k oo => (own k p oo).2 hpm
  have e6 := e5.keepN w5 fun k q oo => (own k q oo).2
  have f6 : addF F4 (upd H4 p (.lst (xs.set k2 v))) ps4 Dl = none := by rw [addF_out w3]; exact a4.fr
  have e7 := e6.put_own i f6 bD (show upd H4 p (.lst (xs.set k2 v)) Dl = some (.lst (ps4.map V.ref)) by rw [upd_ne hDp]; exact w1) (w5.frz (fun _ h => h) fun q w z c => by rw [(w2.mem c).1] at z; cases z) fun k _ oo => (own k Dl oo).1 rfl
  refine hu B _ _ _ Dn e7 (pp.chg ((g1.chg e.eb).trans ⟨g234.f.trans w5.ex, fun q z1 z2 => ?_⟩))
  rw [addF_out fun c => z1 (bps q c)]
  exact g234.n q z2 (ex_some g1.h (ex_some e.eb z1))
end
end QL

end
section
set_option maxRecDepth 100000
set_option maxHeartbeats 2000000
namespace QL
open PySem PySem.Spec PyProof.Rows L2 Evl

/-! ### a small language, out of the text -/
inductive BO where | add | sub | mul | fdiv | mod | pow
  deriving DecidableEq
inductive CO where | lt | le | gt | ge | eq | ne | is | isnot | isin | notin
  deriving DecidableEq
/-- built-in functions of one argument -/
inductive B1 where | len | int | sum | any | all | sorted | list | tuple | max | min | abs | repr | listrange
  deriving DecidableEq
inductive B2 where | max | min | gcd
  deriving DecidableEq
mutual
inductive CE where
  | var (i : Nat) | int (i : Int) | bl (b : Bool) | str (x : Str) | non
  | bin (o : BO) (a b : CE) | cmp (o : CO) (a b : CE) | chain (o o' : CO) (a b c : CE)
  | neg (a : CE) | not (a : CE) | and (a b : CE) | or (a b : CE) | ife (t : CT) (a b : CE)
  | dnT | ix (a b : CE) | tup (es : CEs) | lst (es : CEs)
  | slc (a lo hi : CE) | fld (a : CE) (f : Str) | meth (a : CE) (m : Str) (es : CEs)
  | call (g : Str) (es : CEs) | b1 (f : B1) (a : CE) | b2 (f : B2) (a b : CE) | isi (a : CE) (T : String)
  | lc (pt : Pat) (src : CSrc) (t : CT) (e : CE) (vs : List Nat)
  | lc2 (pt : Pat) (src : CSrc) (t : CT) (pt1 : Pat) (src1 : CSrc) (t1 : CT) (vs1 : List Nat) (e : CE) (vs : List Nat)
inductive CEs where
  | nil | cons (e : CE) (r : CEs)
inductive CSrc where
  | r1 (a : CE) | r2 (a b : CE) | seq (a : CE) | enum (a : CE)
/-- a test -/
inductive CT where
  | yes | not (a : CT) | and (a b : CT) | or (a b : CT) | val (e : CE)
end
mutual
inductive CS where
  | set (i : Nat) (e : CE) | pat (p : Pat) (e : CE) | seti (i : Nat) (k e : CE) | app (i : Nat) (e : CE) | ins (i : Nat) (k e : CE)
  | ife (t : CT) (a b : CSs) | for (p : Pat) (src : CSrc) (body : CSs) | ret (e : CE) | expr (e : CE) | pass | brk | cont
  | raise (g : Str) (es : CEs) | setf (i : Nat) (f : Str) (e : CE)
  | whl (t : CT) (body : CSs) | par (i j : Nat) (a b : CE) | asg2 (i j : Nat) (e : CE)
  /-- x = [e for pt in src], x[ki][kj] = e2 -/
  | setN (i : Nat) (pt : Pat) (src : CSrc) (e : CE) (vs : List Nat) (ki kj e2 : CE)
inductive CSs where
  | nil | cons (s : CS) (r : CSs)
end

/-! ### what it is worth -/
/-- an expression's result; what the defs of the text come to -/
inductive Rv where
  | v (m : Md) (d : D)
  | x (e : Er)
structure Orc where
  call : Str → List D → Option Res
  /-- an error that is made -/
  mkE : Str → List D → Option Er
  /-- an instance's making, at this depth -/
  ini : Str → List D → Option Res
  meth : Addr → Str → List D → Option Res
  mok : Addr → Str → Bool
  /-- attributes that no class has -/
  fok : Addr → Str → Bool
def bv (r : Option Rv) (k : Md → D → Option Rv) : Option Rv := match r with
  | some (.v m d) => k m d
  | some (.x e) => some (.x e)
  | none => none
@[simp] theorem bv_v {m : Md} {d : D} {k : Md → D → Option Rv} : bv (some (.v m d)) k = k m d := rfl
@[simp] theorem bv_x {e : Er} {k : Md → D → Option Rv} : bv (some (.x e)) k = some (.x e) := rfl
@[simp] theorem bv_n {k : Md → D → Option Rv} : bv none k = none := rfl
def fv (d : D) : Option Rv := some (.v .f d)
/-- a bound for numbers that are multiplied, divided by -/
def big200 : Nat := 2 ^ 2000
def binI (o : BO) (i j : Int) : Option Int := match o with
  | .add => some (i + j)
  | .sub => some (i - j)
  | .mul => if i.natAbs < big200 ∧ j.natAbs < big200 then some (i * j) else none
  | .fdiv => if 0 < j ∧ j.natAbs < big200 then some (i / j) else none
  | .mod => if 0 < j then some (i % j) else none
  | .pow => if 0 ≤ j ∧ j ≤ 1000000 ∧ i.natAbs < 2 ^ 64 then some (i ^ j.toNat) else none
def binD (o : BO) (m1 : Md) (d1 : D) (m2 : Md) (d2 : D) : Option Rv := match d1, d2 with
  | .int i, .int j => (binI o i j).bind fun n => fv (.int n)
  | .lst ds, .lst es => if o = .add ∧ itF m1 ds = true ∧ itF m2 es = true ∧ ds.length + es.length ≤ 100000 then some (.v .n (.lst (ds ++ es))) else none
  | _, _ => none
def cmpI (o : CO) (i j : Int) : Option Bool := match o with
  | .lt => some (decide (i < j)) | .le => some (decide (i ≤ j)) | .gt => some (decide (j < i)) | .ge => some (decide (j ≤ i))
  | .eq => some (decide (i = j)) | .ne => some (!decide (i = j)) | _ => none
def intsOf : List D → Option (List Int)
  | [] => some []
  | .int i :: ds => (intsOf ds).map (i :: ·)
  | _ => none
def isSc : D → Bool
  | .non => true | .bl _ => true | .int _ => true | .str _ => true | _ => false
def cmpD (o : CO) (d1 d2 : D) : Option Bool := match d1, d2 with
  | .int i, .int j => cmpI o i j
  | .bl i, .bl j => match o with | .eq => some (decide (i = j)) | .ne => some (!decide (i = j)) | .is => some (decide (i = j)) | .isnot => some (!decide (i = j)) | _ => none
  | .str i, .str j => match o with | .eq => some (decide (i = j)) | .ne => some (!decide (i = j)) | _ => none
  | .dit ks ds, .dit ks' es => match o with
    | .eq => if ks = ks' then (intsOf ds).bind fun vs => (intsOf es).map fun ws => decide (vs = ws) else none
    | _ => none
  | a, b => match o, b with
    | .isin, .lst ds => if SeqAt.shaped (toPy a) = true ∧ SeqAt.shaped (toPy (.lst ds)) = true then some ((toPyA ds).any fun z => PyData.eqv z (toPy a)) else none
    | .notin, .lst ds => if SeqAt.shaped (toPy a) = true ∧ SeqAt.shaped (toPy (.lst ds)) = true then some (!(toPyA ds).any fun z => PyData.eqv z (toPy a)) else none
    | .is, .non => some (match a with | .non => true | _ => false)
    | .isnot, .non => some (match a with | .non => false | _ => true)
    | .eq, b => if SeqAt.shaped (toPy a) = true ∧ SeqAt.shaped (toPy b) = true then some (PyData.eqv (toPy a) (toPy b)) else none
    | .ne, b => if SeqAt.shaped (toPy a) = true ∧ SeqAt.shaped (toPy b) = true then some (!PyData.eqv (toPy a) (toPy b)) else none
    | _, _ => none
def ixD (m : Md) (d : D) (i : Int) : Option Rv := match d with
  | .lst ds => (atI ds i).map fun e => .v (nrm (ixm m) e) e
  | .tup ds => (atI ds i).map fun e => .v (nrm (ixm m) e) e
  | .scr ns => (atI ns i).map fun n => .v .f (.int n)
  | _ => none
def litNon : CE → Bool
  | .non => true
  | _ => false
/-- an entry of a dict with tuple keys -/
def dgD (m : Md) (d : D) (es : List D) : Option Rv := match d with
  | .dit ks ds => (keysOf es).bind fun k => (dgt ks ds k).map fun e => .v (nrm (ixm m) e) e
  | _ => none
/-- a part of a slice: None where it is left out -/
def partD (c : CE) (r : Option Rv) : Option (Option Int) := if litNon c = true then some none else match r with
  | some (.v _ (.int i)) => some (some i)
  | _ => none
def slD (m : Md) (d : D) (lo hi : Option Int) : Option Rv := match d with
  | .lst ds => if itF m ds = true then some (.v .n (.lst (cutD ds lo hi))) else none
  | .tup ds => if cf m (.tup ds) = true then some (.v .f (.tup (cutD ds lo hi))) else none
  | _ => none
def blsOf : List D → Option (List Bool)
  | [] => some []
  | .bl i :: ds => (blsOf ds).map (i :: ·)
  | _ => none
def rowsOf : List D → Option (List (Int × Int))
  | [] => some []
  | .tup [.int a, .int b] :: ds => (rowsOf ds).map ((a, b) :: ·)
  | _ => none
def maxI : Int → List Int → Int
  | a, [] => a
  | a, b :: r => maxI (if b > a then b else a) r
def minI : Int → List Int → Int
  | a, [] => a
  | a, b :: r => minI (if b < a then b else a) r
def b1D (f : B1) (m : Md) (d : D) : Option Rv := match f with
  | .len => (dlen d).map fun (n : Nat) => .v .f (.int (n : Int))
  | .int => match d with | .int i => fv (.int i) | _ => none
  | .list => (seqOf d).bind fun ds => if itF m ds = true then some (.v .n (.lst ds)) else some (.v .h (.lst ds))
  | .tuple => match d with
    | .lst ds => if itF m ds = true then some (.v .f (.tup ds)) else none
    | .tup ds => some (.v (nrm m (.tup ds)) (.tup ds))
    | .scr ns => some (.v .f (.tup (ns.map .int)))
    | _ => none
  | .sum => match d with | .lst ds => (intsOf ds).bind fun ns => fv (.int ns.sum) | _ => none
  | .any => match d with | .lst ds => (blsOf ds).bind fun bs => fv (.bl (bs.any id)) | _ => none
  | .all => match d with | .lst ds => (blsOf ds).bind fun bs => fv (.bl (bs.all id)) | _ => none
  | .max => match d with | .lst ds => (intsOf ds).bind fun ns => (match ns with | [] => none | a :: r => fv (.int (maxI a r))) | _ => none
  | .abs => match d with | .int i => fv (.int (if i < 0 then -i else i)) | _ => none
  | .repr => if isSeq d = true ∧ SeqAt.shaped (toPy d) = true ∧ (toPy d).showable = true ∧ (toPy d).hasDict = false ∧ (toPy d).shown.length ≤ 16000000 then fv (.str (toPy d).shown) else none
  | .min => match d with | .lst ds => (intsOf ds).bind fun ns => (match ns with | [] => none | a :: r => fv (.int (minI a r))) | _ => none
  | .listrange => match d with | .int n => if 0 ≤ n ∧ n ≤ 100000 then some (.v .n (.lst ((List.range n.toNat).map fun (i : Nat) => .int (i : Int)))) else none | _ => none
  | _ => none
def b2D (f : B2) (d e : D) : Option Rv := match d, e with
  | .int i, .int j => fv (.int (match f with | .max => max i j | .min => min i j | .gcd => ((Nat.gcd i.natAbs j.natAbs : Nat) : Int)))
  | _, _ => none
def isiD (d : D) (T : String) : Option Rv := if tyName d = "" then none else (kitB (tyName d) T).bind fun b => fv (.bl b)
def varD (ρ : List Sl) (i : Nat) : Option Rv := match ρ[i]? with
  | some (.dat d) => some (.v .f d)
  | some (.bor d) => some (.v (nrm .b d) d)
  | some (.own ds) => some (.v .o (.lst ds))
  | some (.ownD ks ds) => some (.v .o (.dic ks ds))
  | some (.ownT ks ds) => some (.v .o (.dit ks ds))
  | _ => none
def truthD : D → Option Bool
  | .bl b => some b
  | .lst ds => some (!ds.isEmpty)
  | _ => none
def allCf : List (Md × D) → Bool
  | [] => true
  | x :: r => cf x.1 x.2 && allCf r
/-- arguments' results -/
inductive Ra where
  | v (ms : List (Md × D))
  | x (e : Er)
/-- a source's: is it stable, its items -/
inductive Rs where
  | v (st : Bool) (its : List Item)
def srcD (m : Md) (d : D) : Option Rs := match d with
  | .scr ns => some (.v true (seqIt .f (ns.map .int)))
  | .lst ds => if m = .n then some (.v true (seqIt .f ds)) else some (.v (stab m) (seqIt m ds))
  | .tup ds => if m = .n then none else some (.v (stab m) (seqIt m ds))
  | _ => none
def enD (m : Md) (d : D) : Option Rs := if m = .n then none else match d with
  | .lst ds => some (.v (stab m) (enIt m ds))
  | .tup ds => some (.v (stab m) (enIt m ds))
  | _ => none
/-- a loop of a comprehension over items -/
def lcGo (g : Item → Option (List (Md × D))) : List Item → Option (List (Md × D))
  | [] => some []
  | it :: its => (g it).bind fun y => (lcGo g its).map fun ys => y ++ ys
def lcD (r : List (Md × D)) : Option Rv := if r.length < 100000 then
    if allCf r = true then some (.v .n (.lst (r.map (·.2)))) else if r.all (fun x => okm false x.1 x.2) = true then some (.v .h (.lst (r.map (·.2)))) else none
  else none
def lcNGo (g : Item → Option (List D)) : List Item → Option (List (List D))
  | [] => some []
  | it :: its => (g it).bind fun y => (lcNGo g its).map fun ys => y :: ys
/-- self in an __init__ -/
def selfAt : CE → List Sl → Option (Addr × List Str × List D)
  | .var i, ρ => match ρ[i]? with
    | some (.slf _ _ C ns ds) => some (C, ns, ds)
    | _ => none
  | _, _ => none
def fldD (O : Orc) (C : Addr) (ns : List Str) (ds : List D) (f : Str) : Option Rv := if O.fok C f = true then ((ns.zip ds).lookup f).map fun e => .v .f e else none
mutual
def evE (O : Orc) : CE → List Sl → Option Rv
  | .var i, ρ => varD ρ i
  | .int i, _ => fv (.int i)
  | .bl b, _ => fv (.bl b)
  | .str x, _ => fv (.str x)
  | .non, _ => fv .non
  | .bin o a b, ρ => bv (evE O a ρ) fun m1 d1 => bv (evE O b ρ) fun m2 d2 => binD o m1 d1 m2 d2
  | .cmp o a b, ρ => bv (evE O a ρ) fun _ d1 => bv (evE O b ρ) fun _ d2 => (cmpD o d1 d2).bind fun b => fv (.bl b)
  | .chain o o' a b c, ρ => match evE O a ρ, evE O b ρ, evE O c ρ with
    | some (.v _ (.int i)), some (.v _ (.int j)), some (.v _ (.int k)) => (cmpI o i j).bind fun x => (cmpI o' j k).bind fun y => if (o = .eq ∨ o = .ne ∨ o' = .eq ∨ o' = .ne) then none else fv (.bl (x && y))
    | _, _, _ => none
  | .neg a, ρ => bv (evE O a ρ) fun _ d => match d with | .int i => fv (.int (-i)) | _ => none
  | .not a, ρ => bv (evE O a ρ) fun _ d => match d with | .bl b => fv (.bl (!b)) | _ => none
  | .and a b, ρ => bv (evE O a ρ) fun _ d => match d with
    | .bl true => bv (evE O b ρ) fun _ e => match e with | .bl y => fv (.bl y) | _ => none
    | .bl false => fv (.bl false)
    | _ => none
  | .or a b, ρ => bv (evE O a ρ) fun _ d => match d with
    | .bl false => bv (evE O b ρ) fun _ e => match e with | .bl y => fv (.bl y) | _ => none
    | .bl true => fv (.bl true)
    | _ => none
  | .ife t a b, ρ => (evT O t ρ).bind fun c => if c = true then evE O a ρ else evE O b ρ
  | .dnT, _ => some (.v .n (.dit [] []))
  | .ix a b, ρ => bv (evE O a ρ) fun m d => bv (evE O b ρ) fun _ e => match e with | .int i => ixD m d i | .tup es => dgD m d es | _ => none
  | .slc a lo hi, ρ => bv (evE O a ρ) fun m d => (partD lo (evE O lo ρ)).bind fun l => (partD hi (evE O hi ρ)).bind fun u => slD m d l u
  | .tup es, ρ => (evEs O es ρ).bind fun r => match r with
    | .v ms => if ms.length ≤ 100000 then (if allCf ms = true then fv (.tup (ms.map (·.2))) else if immA (ms.map (·.2)) = false then some (.v .h (.tup (ms.map (·.2)))) else none) else none
    | .x e => some (.x e)
  | .lst es, ρ => (evEs O es ρ).bind fun r => match r with
    | .v ms => if ms.length ≤ 100000 then (if allCf ms = true then some (.v .n (.lst (ms.map (·.2)))) else some (.v .h (.lst (ms.map (·.2))))) else none
    | .x e => some (.x e)
  | .fld a f, ρ => match selfAt a ρ with
    | some (C, ns, ds) => fldD O C ns ds f
    | none => bv (evE O a ρ) fun _ d => match d with
      | .obj C ns ds => fldD O C ns ds f
      | _ => none
  | .meth a mn es, ρ => bv (evE O a ρ) fun _ d => match d with
    | .obj C ns ds => if O.mok C mn = false ∨ mn ∈ ns then none else (evEs O es ρ).bind fun r => match r with
      | .v ms => match O.meth C mn (.obj C ns ds :: ms.map (·.2)) with
        | some (.ok m d) => if m = .f ∨ m = .n then some (.v m d) else none
        | some (.er e) => some (.x e)
        | none => none
      | .x e => some (.x e)
    | _ => none
  | .call g es, ρ => (evEs O es ρ).bind fun r => match r with
    | .v ms => match O.call g (ms.map (·.2)) with
      | some (.ok m d) => if m = .f ∨ m = .n then some (.v m d) else none
      | some (.er e) => some (.x e)
      | none => none
    | .x e => some (.x e)
  | .b1 f a, ρ => bv (evE O a ρ) fun m d => b1D f m d
  | .b2 f a b, ρ => bv (evE O a ρ) fun _ d => bv (evE O b ρ) fun _ e => b2D f d e
  | .isi a T, ρ => bv (evE O a ρ) fun _ d => isiD d T
  | .lc pt src t e vs, ρ => (evSrc O src ρ).bind fun r => match r with
    | .v _ its => (lcGo (fun it => (bindP pt (wipeR ρ vs) it).bind fun ρ1 => (evT O t ρ1).bind fun c => if c = true then (match evE O e ρ1 with | some (.v m d) => some [(m, d)] | _ => none) else some []) its).bind lcD
  | .lc2 pt src t pt1 src1 t1 vs1 e vs, ρ => (evSrc O src ρ).bind fun r => match r with
    | .v _ its => (lcGo (fun it => (bindP pt (wipeR ρ vs) it).bind fun ρ1 => (evT O t ρ1).bind fun c => if c = true then
        ((evSrc O src1 ρ1).bind fun r1 => match r1 with
          | .v true its1 => lcGo (fun it1 => (bindP pt1 (wipeR ρ1 vs1) it1).bind fun ρ2 => (evT O t1 ρ2).bind fun c1 => if c1 = true then (match evE O e ρ2 with | some (.v m d) => some [(m, d)] | _ => none) else some []) its1
          | _ => none) else some []) its).bind lcD
def evEs (O : Orc) : CEs → List Sl → Option Ra
  | .nil, _ => some (.v [])
  | .cons e r, ρ => match evE O e ρ with
    | some (.v m d) => (evEs O r ρ).bind fun x => match x with
      | .v ms => some (.v ((m, d) :: ms))
      | .x e => some (.x e)
    | some (.x e) => some (.x e)
    | none => none
def evSrc (O : Orc) : CSrc → List Sl → Option Rs
  | .r1 a, ρ => match evE O a ρ with
    | some (.v _ (.int n)) => if -100000 ≤ n ∧ n ≤ 100000 then some (.v true (rngIt 0 n.toNat)) else none
    | _ => none
  | .r2 a b, ρ => match evE O a ρ with
    | some (.v _ (.int lo)) => match evE O b ρ with
      | some (.v _ (.int n)) => if -100000 ≤ n ∧ n ≤ 100000 ∧ -100000 ≤ lo ∧ lo ≤ 100000 then some (.v true (rngIt lo (n - lo).toNat)) else none
      | _ => none
    | _ => none
  | .seq a, ρ => match evE O a ρ with
    | some (.v m d) => srcD m d
    | _ => none
  | .enum a, ρ => match evE O a ρ with
    | some (.v m d) => enD m d
    | _ => none
/-- a test -/
def evT (O : Orc) : CT → List Sl → Option Bool
  | .yes, _ => some true
  | .not a, ρ => (evT O a ρ).map not
  | .and a b, ρ => (evT O a ρ).bind fun c => if c = true then evT O b ρ else some false
  | .or a b, ρ => (evT O a ρ).bind fun c => if c = true then some true else evT O b ρ
  | .val e, ρ => match evE O e ρ with
    | some (.v _ d) => truthD d
    | _ => none
end

/-! ### statements -/
/-- a loop over items -/
def forGo (pt : Pat) (body : List Sl → Option Out) : List Item → List Sl → Option Out
  | [], ρ => some (.nx ρ)
  | it :: its, ρ => (bindP pt ρ it).bind fun ρ1 => (body ρ1).bind fun o => match o with
    | .nx ρ2 => forGo pt body its ρ2
    | .ct ρ2 => forGo pt body its ρ2
    | .bk ρ2 => some (.nx ρ2)
    | .rt m d => some (.rt m d)
    | .xs x ρ2 => some (.xs x ρ2)
/-- a while loop, so many turns at most -/
def whlGo (t : List Sl → Option Bool) (body : List Sl → Option Out) : Nat → List Sl → Option Out
  | 0, _ => none
  | n + 1, ρ => (t ρ).bind fun c => if c = true then (body ρ).bind fun o => match o with
      | .nx ρ2 => whlGo t body n ρ2
      | .ct ρ2 => whlGo t body n ρ2
      | .bk ρ2 => some (.nx ρ2)
      | .rt m d => some (.rt m d)
      | .xs x ρ2 => some (.xs x ρ2)
    else some (.nx ρ)
/-! the names whose value goes on as it is -/
mutual
def esc : CE → List Nat
  | .var i => [i]
  | .tup es => escs es
  | .lst es => escs es
  | .ife _ a b => esc a ++ esc b
  | _ => []
def escs : CEs → List Nat
  | .nil => []
  | .cons e r => esc e ++ escs r
end
def frzA (ρ : List Sl) : List Nat → List Sl
  | [] => ρ
  | i :: r => frzA (ρ.set i (frzS (ρ.getD i .un))) r
/-- the names that a source walks -/
def srcEsc : CSrc → List Nat
  | .seq (.var i) => [i]
  | .enum (.var i) => [i]
  | _ => []
mutual
def evS (O : Orc) : CS → List Sl → Option Out
  | .set i e, ρ => let ρ0 := frzA ρ (esc e); match evE O e ρ0 with
    | some (.v m d) => (slotV m d).map fun s => .nx (ρ0.set i s)
    | some (.x e) => some (.xs e ρ0)
    | none => none
  | .pat p e, ρ => let ρ0 := frzA ρ (esc e); match evE O e ρ0 with
    | some (.v m d) => if m = .n then none else (bindP p ρ0 (.one m d)).map .nx
    | some (.x e) => some (.xs e ρ0)
    | none => none
  | .seti i k e, ρ => let ρ0 := frzA ρ (esc e); match evE O e ρ0, evE O k ρ0, ρ0[i]? with
    | some (.v m d), some (.v _ (.int n)), some (.own ds) => if cf m d = true then (ixN ds.length n).map fun k => .nx (ρ0.set i (.own (ds.set k d))) else none
    | some (.v m d), some (.v _ (.tup es)), some (.ownT ks ds) => if cf m d = true ∧ ks.length < 100000 then (keysOf es).bind fun k => if (ks.any fun z => decide (z = k)) = true then none else some (.nx (ρ0.set i (.ownT (ks ++ [k]) (ds ++ [d])))) else none
    | _, _, _ => none
  | .app i e, ρ => let ρ0 := frzA ρ (esc e); match evE O e ρ0, ρ0[i]? with
    | some (.v m d), some (.own ds) => if cf m d = true ∧ ds.length < 100000 then some (.nx (ρ0.set i (.own (ds ++ [d])))) else none
    | _, _ => none
  | .ins i k e, ρ => let ρ0 := frzA ρ (esc e); match evE O k ρ0, evE O e ρ0, ρ0[i]? with
    | some (.v _ (.int n)), some (.v m d), some (.own ds) => if cf m d = true ∧ ds.length < 100000 ∧ 0 ≤ n ∧ n < 2 ^ 63 then some (.nx (ρ0.set i (.own (ds.take n.toNat ++ [d] ++ ds.drop n.toNat)))) else none
    | _, _, _ => none
  | .ife t a b, ρ => (evT O t ρ).bind fun c => if c = true then evSs O a ρ else evSs O b ρ
  | .for p src body, ρ => let ρ0 := frzA ρ (srcEsc src); match evSrc O src ρ0 with
    | some (.v true its) => forGo p (fun ρ1 => evSs O body ρ1) its ρ0
    | _ => none
  | .ret (.var i), ρ => match ρ[i]? with
    | some (.own ds) => some (.rt .n (.lst ds))
    | some (.ownD ks ds) => some (.rt .n (.dic ks ds))
    | some (.ownT ks ds) => some (.rt .n (.dit ks ds))
    | some (.dat d) => some (.rt .f d)
    | some (.bor d) => some (.rt (nrm .b d) d)
    | _ => none
  | .ret e, ρ => match evE O e (frzA ρ (esc e)) with
    | some (.v m d) => some (.rt m d)
    | some (.x x) => some (.xs x (frzA ρ (esc e)))
    | none => none
  | .expr e, ρ => match evE O e ρ with
    | some (.v _ _) => some (.nx ρ)
    | some (.x x) => some (.xs x ρ)
    | none => none
  | .pass, ρ => some (.nx ρ)
  | .brk, ρ => some (.bk ρ)
  | .cont, ρ => some (.ct ρ)
  | .setf i f e, ρ => let ρ0 := frzA ρ (esc e); match evE O e ρ0 with
    | some (.v m d) => match ρ0[i]? with
      | some (.slf a dx C ns ds) => if cf m d = true ∧ O.fok C f = true ∧ f ∉ ns ∧ ns.length < 1000 then some (.nx (ρ0.set i (.slf a dx C (ns ++ [f]) (ds ++ [d])))) else none
      | _ => none
    | some (.x e) => some (.xs e ρ0)
    | none => none
  | .whl t body, ρ => whlGo (fun ρ1 => evT O t ρ1) (fun ρ1 => evSs O body ρ1) 100000 ρ
  | .par i j a b, ρ => let ρ0 := frzA (frzA ρ (esc a)) (esc b); match evE O a ρ0, evE O b ρ0 with
    | some (.v m1 d1), some (.v m2 d2) => if cf m1 d1 = true ∧ cf m2 d2 = true then some (.nx ((ρ0.set i (.dat d1)).set j (.dat d2))) else none
    | _, _ => none
  | .asg2 i j e, ρ => match evE O e ρ with
    | some (.v _ d) => if imm d = true then some (.nx ((ρ.set i (.dat d)).set j (.dat d))) else none
    | some (.x e) => some (.xs e ρ)
    | none => none
  | .setN i pt src e vs ki kj e2, ρ => match evSrc O src ρ with
    | some (.v _ its) => (lcNGo (fun it => (bindP pt (wipeR ρ vs) it).bind fun ρ1 => match evE O e ρ1 with | some (.v .n (.lst row)) => some row | _ => none) its).bind fun rows =>
      if rows.length < 100000 ∧ i < ρ.length then
        match evE O e2 (ρ.set i (.bor (.lst (rows.map .lst)))), evE O ki (ρ.set i (.bor (.lst (rows.map .lst)))), evE O kj (ρ.set i (.bor (.lst (rows.map .lst)))) with
        | some (.v _ d2), some (.v _ (.int n1)), some (.v _ (.int n2)) => if imm d2 = true then (ixN rows.length n1).bind fun k1 => (rows[k1]?).bind fun row => (ixN row.length n2).map fun k2 => .nx (ρ.set i (.own ((rows.set k1 (row.set k2 d2)).map .lst))) else none
        | _, _, _ => none
      else none
    | none => none
  | .raise g es, ρ => (evEs O es ρ).bind fun r => match r with
    | .v ms => (O.mkE g (ms.map (·.2))).map fun x => .xs x ρ
    | .x e => (O.mkE g [.int 0]).map fun _ => .xs e ρ
def evSs (O : Orc) : CSs → List Sl → Option Out
  | .nil, ρ => some (.nx ρ)
  | .cons s r, ρ => (evS O s ρ).bind fun o => match o with
    | .nx ρ1 => evSs O r ρ1
    | o => some o
end
/-- a def: how many names it has, its parameters, its body -/
structure CDef where
  n : Nat
  ps : Nat
  body : CSs
def evD (O : Orc) (c : CDef) (ds : List D) : Option Res := if ds.length = c.ps then (evSs O c.body (slots c.n ds)).bind fin else none
/-- the error classes of a text: name, address, the name of the field -/
abbrev ErrT := List (Str × Addr × Str)
def mkErr (E : ErrT) (k : Nat) (g : Str) (ds : List D) : Option Er := if 2 ≤ k then
    match E.lookup g, ds with
    | some (C, f), [d] => if saidD d = true then some ⟨C, [f], [d]⟩ else none
    | _, _ => none
  else none
/-- an answer that does not hang on where the new object lies -/
noncomputable def mkI (f : Addr → Addr → Option Res) : Option Res := by
  classical exact if ∀ a dx, f a dx = f 0 0 then f 0 0 else none
theorem mkI_all {f : Addr → Addr → Option Res} {r : Res} (h : mkI f = some r) (a dx : Addr) : f a dx = some r := by
  unfold mkI at h
  split at h
  · rename_i hh; rw [hh a dx]; exact h
  · cases h
theorem mkI_eq {f : Addr → Addr → Option Res} {r : Res} (h : ∀ a dx, f a dx = some r) : mkI f = some r := by
  unfold mkI
  rw [if_pos (fun a dx => by rw [h a dx, h 0 0])]
  exact h 0 0
/-- an __init__ -/
noncomputable def evI (O : Orc) (C : Addr) (c : CDef) (ds : List D) : Option Res := if ds.length + 1 = c.ps then mkI fun a dx => (evSs O c.body (slotsI c.n a dx C ds)).bind (finI a dx C) else none
/-- what else a text may do: show lists (then nothing may be being shown when it is called), use math's gcd -/
structure Fl where
  rp : Bool
  gcd : Bool
/-- a text: its defs; error classes; classes: name, address, __init__; methods; attributes asked for -/
structure Txt where
  defs : List (Str × CDef)
  errs : ErrT
  clss : List (Str × Addr × CDef)
  mets : List ((Addr × Str) × CDef)
  flds : List (Addr × Str)
  fl : Fl
/-- the defs of a text, k deep (k + 1 calls) -/
noncomputable def orc (P : Txt) : Nat → Orc
  | 0 => { call := fun _ _ => none, mkE := mkErr P.errs 1, ini := fun _ _ => none, meth := fun _ _ _ => none, mok := fun C m => (P.mets.lookup (C, m)).isSome, fok := fun C f => P.flds.contains (C, f) }
  | k + 1 =>
    { call := fun g ds => match P.defs.lookup g with
        | some c => evD (orc P k) c ds
        | none => (orc P k).ini g ds
      mkE := mkErr P.errs (k + 2)
      ini := fun g ds => match P.clss.lookup g with
        | some (C, c) => evI (orc P k) C c ds
        | none => none
      meth := fun C m ds => match P.mets.lookup (C, m) with
        | some c => evD (orc P k) c ds
        | none => none
      mok := fun C m => (P.mets.lookup (C, m)).isSome
      fok := fun C f => P.flds.contains (C, f) }
noncomputable def evF (P : Txt) (k : Nat) (g : Str) (ds : List D) : Option Res := (orc P k).call g ds
end QL

end
section
set_option maxRecDepth 100000
set_option maxHeartbeats 2000000
namespace QL
open PySem PySem.Spec PyProof.Rows L2 Evl

/-! ### the best reading of a text -/
section
variable (X : Cx)
def eB (e : Expr) : TE := fun σ H Q => ∃ t, PE X e t ∧ t σ H Q
def aB (es : List Expr) : TA := fun σ H Q => ∃ t, PA X es t ∧ t σ H Q
def tB' (e : Expr) : TT := fun σ H Q => ∃ t, PT X e t ∧ t σ H Q
def tsB (es : List Expr) : TT := fun σ H Q => ∃ t, PTs X es t ∧ t σ H Q
def iB (tg e : Expr) : TI := fun σ H R => ∃ t, PI X tg e t ∧ t σ H R
def sB (s : Stmt) : TS := fun D σ H => ∃ t, PS X s t ∧ t D σ H
def ssB (s : List Stmt) : TS := fun D σ H => ∃ t, PSs X s t ∧ t D σ H
end
section
variable {X : Cx} {e : Expr} {es : List Expr} {s : Stmt} {ss : List Stmt} {tg : Expr}
theorem pe_B : PE X e (eB X e) := ⟨fun pins s σ H Q I ⟨t, h, q⟩ => h.run pins s σ H Q I q⟩
theorem pa_B : PA X es (aB X es) := ⟨fun pos pins s σ H Q I ⟨t, h, q⟩ => h.run pos pins s σ H Q I q⟩
theorem pt_B : PT X e (tB' X e) := ⟨fun pins s σ H Q I ⟨t, h, q⟩ => h.run pins s σ H Q I q⟩
theorem pts_B : PTs X es (tsB X es) := ⟨fun pins s σ H Q I ⟨t, h, q⟩ => h.run pins s σ H Q I q⟩
theorem pi_B : PI X tg e (iB X tg e) := ⟨fun pins s σ H R I ⟨t, h, q⟩ => h.run pins s σ H R I q⟩
theorem ps_B : PS X s (sB X s) := ⟨fun pins st σ H D I ⟨t, h, q⟩ => h.run pins st σ H D I q⟩
theorem pss_B : PSs X ss (ssB X ss) := ⟨fun pins st σ H D I ⟨t, h, q⟩ => h.run pins st σ H D I q⟩
variable {K : PySem.W.Frag} {ρ : List Sl} {m : Md} {d : D} {ds : List D} {b : Bool}
theorem ee_B {t : TE} (h : PE X e t) (q : EE K t ρ m d) : EE K (eB X e) ρ m d := fun B F H σ ev Q k => ⟨t, h, q B F H σ ev Q k⟩
theorem ea_B {t : TA} (h : PA X es t) (q : EA K t ρ ds) : EA K (aB X es) ρ ds := fun B F H σ ev Q k => ⟨t, h, q B F H σ ev Q k⟩
theorem ef_B {t : TA} (h : PA X es t) (q : EF K t ρ ds) : EF K (aB X es) ρ ds := fun B F H σ ev Q k => ⟨t, h, q B F H σ ev Q k⟩
theorem et_B {t : TT} (h : PT X e t) (q : ET K t ρ b) : ET K (tB' X e) ρ b := fun B F H σ ev Q k => ⟨t, h, q B F H σ ev Q k⟩
theorem ets_B {t : TT} (h : PTs X es t) (q : ET K t ρ b) : ET K (tsB X es) ρ b := fun B F H σ ev Q k => ⟨t, h, q B F H σ ev Q k⟩
theorem src_B {t : TI} {st : Bool} {its : List Item} (h : PI X tg e t) (q : Src K t ρ st its) : Src K (iB X tg e) ρ st its := fun B F H σ ev R k => ⟨t, h, q B F H σ ev R k⟩
theorem run_B {W : WX} {t : TS} {o : Out} (h : PS X s t) (q : Run K W t ρ o) : Run K W (sB X s) ρ o := fun B F H σ D ev k => ⟨t, h, q B F H σ D ev k⟩
theorem runs_B {W : WX} {t : TS} {o : Out} (h : PSs X ss t) (q : Run K W t ρ o) : Run K W (ssB X ss) ρ o := fun B F H σ D ev k => ⟨t, h, q B F H σ D ev k⟩
end

/-! ### compiling -/
/-- what is known of the place of a text: the names of the def, the scope, the defs of the module -/
structure Sc where
  N : List Str
  sc : Scope
  /-- the scope as it is written -/
  sc0 : Scope
  defs : List Str
  /-- error classes of the module -/
  errs : List Str
  fl : Fl
def relabelC (scope sc : Scope) : Scope :=
  { scope with names := scope.names.map fun (n, k) => if (k == .free && sc.kind == .function && sc.names.lookup n == some .cell) then (n, .cell) else (n, k) }
/-- the place of a comprehension's inside -/
def Sc.blk (S : Sc) (scope : Scope) : Sc := { S with sc := relabelC scope S.sc, sc0 := scope }
def Sc.slot (S : Sc) (x : Str) : Option Nat := match S.sc.names.lookup x with
  | some .local | some .cell | some .free => if x = "__debug__" ∨ x = "__classdict__" then none else
      let i := S.N.findIdx (fun y => decide (y = x))
      if S.N[i]? = some x then some i else none
  | _ => none
/-- a name that may be stored -/
def Sc.store (S : Sc) (x : Str) : Option Nat := match S.sc.names.lookup x with
  | some .local => S.slot x
  | some .cell => (match S.sc0.names.lookup x with
    | some .cell => S.slot x
    | _ => none)
  | _ => none
def Sc.gl (S : Sc) (x : Str) : Bool := match S.sc.names.lookup x with
  | some .globalImplicit => true
  | _ => false
def cBO : Operator → Option BO
  | .Add => some .add | .Sub => some .sub | .Mult => some .mul | .FloorDiv => some .fdiv | .Mod => some .mod | .Pow => some .pow | _ => none
def cCO : CmpOp → Option CO
  | .Lt => some .lt | .LtE => some .le | .Gt => some .gt | .GtE => some .ge | .Eq => some .eq | .NotEq => some .ne | .Is => some .is | .IsNot => some .isnot | .In => some .isin | .NotIn => some .notin
def cB1 (x : Str) : Option B1 :=
  if x = "len" then some .len else if x = "int" then some .int else if x = "sum" then some .sum else if x = "any" then some .any else if x = "all" then some .all
  else if x = "list" then some .list else if x = "tuple" then some .tuple else if x = "max" then some .max else if x = "min" then some .min
  else if x = "abs" then some .abs else if x = "repr" then some .repr else none
def cB2 (x : Str) : Option B2 := if x = "max" then some .max else if x = "min" then some .min else if x = "gcd" then some .gcd else none
def tyNames : List String := ["int", "bool", "str", "list", "tuple", "dict"]
/-- the built-in names that may stand in a text -/
def bNames : List Str := ["len", "int", "sum", "any", "all", "list", "tuple", "max", "min", "isinstance", "bool", "str", "dict", "range", "sorted", "enumerate", "abs", "repr"]
mutual
def cP (S : Sc) : Nat → Expr → Option Pat
  | 0, _ => none
  | n + 1, .Name x _ => (S.store x).map .nm
  | n + 1, .Tuple es _ _ => (cPs S n es).map .tp
  | _, _ => none
def cPs (S : Sc) : Nat → List Expr → Option (List Pat)
  | _, [] => some []
  | 0, _ => none
  | n + 1, e :: es => match cP S n e, cPs S n es with
    | some p, some ps => some (p :: ps)
    | _, _ => none
end
/-- a part of a slice -/
def cPart (f : Expr → Option CE) : Option Expr → Option CE
  | none => some .non
  | some e => (f e).bind fun c => if litNon c = true then none else some c
/-- the bound of a written range -/
def isRng (S : Sc) : Expr → Option Expr
  | .Call (.Name g _) [b] [] _ => if g = "range" ∧ S.gl g = true ∧ g ∉ S.defs then some b else none
  | _ => none
/-- a, b = e1, e2: the names are stored one by one, or the pair is a constant -/
def parF (a b : Expr) : Bool := [a, b].all (foldedForSure 8)
def parOk (S : Sc) (px py : Pos) (x y : Str) (a b : Expr) : Bool :=
  parF a b || (decide (S.sc.kind = .function) && !decide (x = y) && decide (S.sc.names.lookup x = some .local) && decide (S.sc.names.lookup y = some .local) && (py.line == px.line) && !([a, b].all (constantsAlone 8)))
def isTup : Expr → Bool
  | .Tuple _ _ _ => true
  | _ => false
mutual
def cE (S : Sc) : Nat → Expr → Option CE
  | 0, _ => none
  | n + 1, e => match e with
    | .Constant (.int i) _ _ => some (.int i)
    | .Constant (.bool b) _ _ => some (.bl b)
    | .Constant (.str x) _ _ => some (.str x)
    | .Constant .none _ _ => some .non
    | .Name x _ => (S.slot x).map .var
    | .BinOp a op b _ => match cBO op, cE S n a, cE S n b with
      | some o, some a, some b => some (.bin o a b)
      | _, _, _ => none
    | .UnaryOp .USub a _ => (cE S n a).map .neg
    | .UnaryOp .Not a _ => (cE S n a).map .not
    | .BoolOp op (a :: b :: r) _ => cB S n op (a :: b :: r)
    | .Compare a [op] [b] _ => match cCO op, cE S n a, cE S n b with
      | some o, some a, some b => some (.cmp o a b)
      | _, _, _ => none
    | .Compare a [op, op'] [b, c] _ => match cCO op, cCO op', cE S n a, cE S n b, cE S n c with
      | some o, some o', some a, some b, some c => some (.chain o o' a b c)
      | _, _, _, _, _ => none
    | .IfExp t a b _ => match cT S n t, cE S n a, cE S n b with
      | some t, some a, some b => some (.ife t a b)
      | _, _, _ => none
    | .Subscript a (.Slice lo hi none _) _ => match cE S n a, cPart (fun e => cE S n e) lo, cPart (fun e => cE S n e) hi with
      | some a, some lo, some hi => some (.slc a lo hi)
      | _, _, _ => none
    | .Subscript a b _ => match cE S n a, cE S n b with
      | some a, some b => some (.ix a b)
      | _, _ => none
    | .Tuple es _ _ => (cEs S n es).map .tup
    | .List es _ => (cEs S n es).map .lst
    | .Call (.Name f _) [a] [] _ => if S.gl f = true then
        (if f ∈ S.defs then (cEs S n [a]).map (.call f) else if f = "list" ∧ (isRng S a).isSome = true then (match isRng S a with
          | some b => (cE S n b).map (.b1 .listrange)
          | none => none) else match cB1 f, cE S n a with
          | some g, some a => if g = .repr ∧ S.fl.rp = false then none else some (.b1 g a)
          | _, _ => none) else none
    | .Call (.Name f _) [a, b] [] _ => if S.gl f = true then
        (if f ∈ S.defs then (cEs S n [a, b]).map (.call f) else if f = "isinstance" then (match b with
            | .Name T _ => if S.gl T = true ∧ T ∉ S.defs then (match tyNames.find? (fun z => decide (Str.ofString z = T)), cE S n a with
              | some z, some a => some (.isi a z)
              | _, _ => none) else none
            | _ => none)
          else match cB2 f, cE S n a, cE S n b with
            | some g, some a, some b => if g = .gcd ∧ S.fl.gcd = false then none else some (.b2 g a b)
            | _, _, _ => none) else none
    | .Call (.Name f _) (a :: es) [] _ => if S.gl f = true ∧ f ∈ S.defs then (cEs S n (a :: es)).map (.call f) else none
    | .ListComp elt [⟨tg, iter, ifs, 0⟩] scope _ =>
      let S' : Sc := S.blk scope
      match cP S' n tg, cSrc S n (isTup tg) iter, cTs S' n ifs, cE S' n elt with
      | some p, some src, some t, some e => let own := p.vars.map fun i => (S.N.getD i "", i)
        if blkC S.N S.sc scope own = true then some (.lc p src t e p.vars) else none
      | _, _, _, _ => none
    | .ListComp elt [⟨tg, iter, ifs, 0⟩, ⟨tg1, iter1, ifs1, 0⟩] scope _ =>
      let S' : Sc := S.blk scope
      match cP S' n tg, cSrc S n (isTup tg) iter, cTs S' n ifs, cP S' n tg1, cSrc S' n (isTup tg1) iter1, cTs S' n ifs1, cE S' n elt with
      | some p, some src, some t, some p1, some src1, some t1, some e => let own := (p.vars ++ p1.vars).map fun i => (S.N.getD i "", i)
        if blkC S.N S.sc scope own = true then some (.lc2 p src t p1 src1 t1 p1.vars e (p.vars ++ p1.vars)) else none
      | _, _, _, _, _, _, _ => none
    | .Dict [] [] _ => some .dnT
    | .Attribute (.Name x _) f _ => (S.slot x).map fun i => .fld (.var i) f
    | .Call (.Attribute (.Name x _) m pa) (a :: es) [] pc => if (pa.endLine == pc.line) = true ∧ (a :: es).length < 30 then (match S.slot x, cEs S n (a :: es) with
      | some i, some cs => some (.meth (.var i) m cs)
      | _, _ => none) else none
    | .Call (.Attribute (.Name x _) m pa) [] [] pc => if (pa.endLine == pc.line) = true then (match S.slot x with
      | some i => some (.meth (.var i) m .nil)
      | _ => none) else none
    | _ => none
def cEs (S : Sc) : Nat → List Expr → Option CEs
  | _, [] => some .nil
  | 0, _ => none
  | n + 1, e :: es => match cE S n e, cEs S n es with
    | some c, some cs => some (.cons c cs)
    | _, _ => none
def cB (S : Sc) : Nat → BoolOp → List Expr → Option CE
  | 0, _, _ => none
  | n + 1, _, [a] => cE S n a
  | n + 1, op, a :: b :: r => match cE S n a, cB S n op (b :: r) with
    | some x, some y => some (match op with | .And => .and x y | .Or => .or x y)
    | _, _ => none
  | _, _, _ => none
def cSrc (S : Sc) : Nat → Bool → Expr → Option CSrc
  | 0, _, _ => none
  | n + 1, tt, e => match e with
    | .Call (.Name f _) [a] [] _ => if f = "range" then (if S.gl f = true ∧ f ∉ S.defs then (cE S n a).map .r1 else none)
        else if f = "enumerate" then (if S.gl f = true ∧ f ∉ S.defs ∧ tt = true then (cE S n a).map .enum else none) else (cE S n e).map .seq
    | .Call (.Name f _) [a, b] [] _ => if f = "range" then (if S.gl f = true ∧ f ∉ S.defs then (match cE S n a, cE S n b with
        | some a, some b => some (.r2 a b)
        | _, _ => none) else none) else (cE S n e).map .seq
    | .Set _ _ _ => none
    | e => (cE S n e).map .seq
def cT (S : Sc) : Nat → Expr → Option CT
  | 0, _ => none
  | n + 1, e => match e with
    | .UnaryOp .Not a _ => (cT S n a).map .not
    | .BoolOp op vs _ => cTB S n op vs
    | .IfExp _ _ _ _ => none
    | e => (cE S n e).map .val
def cTB (S : Sc) : Nat → BoolOp → List Expr → Option CT
  | 0, _, _ => none
  | n + 1, _, [a] => cT S n a
  | n + 1, op, a :: b :: r => match cT S n a, cTB S n op (b :: r) with
    | some x, some y => some (match op with | .And => .and x y | .Or => .or x y)
    | _, _ => none
  | _, _, _ => none
def cTs (S : Sc) : Nat → List Expr → Option CT
  | _, [] => some .yes
  | 0, _ => none
  | n + 1, [c] => cT S n c
  | _, _ => none
end
/-- x = [e for t in it]; x[i][j] = e2 -/
def cN (S : Sc) (n : Nat) : List Stmt → Option (CS × List Stmt)
  | .Assign [.Name x _] (.ListComp elt [⟨tg, iter, [], 0⟩] scope _) _ :: .Assign [.Subscript (.Subscript (.Name y _) i _) j _] e2 _ :: r => match e2 with
    | .ListComp _ _ _ _ => none
    | e2 => if S.sc.names.lookup x = some .local ∧ S.slot y = S.store x then
      (match S.store x, cP (S.blk scope) n tg, cSrc S n (isTup tg) iter, cE (S.blk scope) n elt, cE S n i, cE S n j, cE S n e2 with
      | some v, some p, some src, some e, some ci, some cj, some c2 => if blkC S.N S.sc scope (p.vars.map fun i => (S.N.getD i "", i)) = true then some (.setN v p src e p.vars ci cj c2, r) else none
      | _, _, _, _, _, _, _ => none) else none
  | _ => none
mutual
def cS (S : Sc) : Nat → Stmt → Option CS
  | 0, _ => none
  | n + 1, s => match s with
    | .Assign [.Name x _] e _ => match S.store x, cE S n e with
      | some i, some e => some (.set i e)
      | _, _ => none
    | .Assign [.Name x _, .Name y _] e _ => match e with
      | .ListComp _ _ _ _ => none
      | e => match S.store x, S.store y, cE S n e with
        | some i, some j, some e => some (.asg2 i j e)
        | _, _, _ => none
    | .While t body [] _ => match cT S n t, cSs S n body with
      | some t, some b => some (.whl t b)
      | _, _ => none
    | .Assign [.Tuple [.Name x px, .Name y py] _ _] (.Tuple [a, b] _ _) _ => if parOk S px py x y a b = true then (match S.store x, S.store y, cE S n a, cE S n b with
      | some i, some j, some a, some b => if i = j then none else some (.par i j a b)
      | _, _, _, _ => none) else none
    | .Assign [.Tuple es k p] e _ => match e with
      | .Tuple _ _ _ => none
      | .ListComp _ _ _ _ => none
      | e => match cP S n (.Tuple es k p), cE S n e with
        | some p, some e => some (.pat p e)
        | _, _ => none
    | .Assign [.Subscript (.Name x _) i _] e _ => match e with
      | .ListComp _ _ _ _ => none
      | e => match S.slot x, cE S n i, cE S n e with
        | some v, some i, some e => some (.seti v i e)
        | _, _, _ => none
    | .Assign [.Attribute (.Name x _) f _] e _ => match e with
      | .ListComp _ _ _ _ => none
      | e => match S.slot x, cE S n e with
        | some i, some e => some (.setf i f e)
        | _, _ => none
    | .If t a b _ => match cT S n t, cSs S n a, cSs S n b with
      | some t, some a, some b => some (.ife t a b)
      | _, _, _ => none
    | .For tg it body [] _ => match cP S n tg, cSrc S n (isTup tg) it, cSs S n body with
      | some p, some src, some b => some (.for p src b)
      | _, _, _ => none
    | .Return (some e) _ => (cE S n e).map .ret
    | .Expr (.Call (.Attribute (.Name x _) a pa) [e] [] pc) _ => if a = "append" ∧ (pa.endLine == pc.line) = true then (match S.slot x, cE S n e with
        | some i, some e => some (.app i e)
        | _, _ => none) else none
    | .Expr (.Call (.Attribute (.Name x _) a pa) [k, e] [] pc) _ => if a = "insert" ∧ (pa.endLine == pc.line) = true then (match S.slot x, cE S n k, cE S n e with
        | some i, some k, some e => some (.ins i k e)
        | _, _, _ => none) else none
    | .Expr (.Call (.Name f p) es [] p') _ => (cE S n (.Call (.Name f p) es [] p')).map .expr
    | .Raise (some (.Call (.Name f _) [e] [] _)) none _ => if S.gl f = true ∧ f ∈ S.errs then (match cE S n e with
        | some e => some (.raise f (.cons e .nil))
        | _ => none) else none
    | .Pass _ => some .pass
    | .Break _ => some .brk
    | .Continue _ => some .cont
    | _ => none
def cSs (S : Sc) : Nat → List Stmt → Option CSs
  | _, [] => some .nil
  | 0, _ => none
  | n + 1, s :: r => match cN S n (s :: r) with
    | some (c, r') => (cSs S n r').map (.cons c)
    | none => match cS S n s, cSs S n r with
      | some s, some r => some (.cons s r)
      | _, _ => none
end
end QL

end
section
set_option maxRecDepth 100000
set_option maxHeartbeats 2000000
namespace QL
open PySem PySem.Spec PyProof.Rows L2 Evl

/-! ### what raises -/
def XA (K : PySem.W.Frag) (ta : TA) (ρ : List Sl) (W : WX) (x : Er) : Prop := ∀ B F H σ, EnvOk K B F H σ ρ → (∀ d F' H', Grow F H F' H' → ErAt K F' x d → W (.ref x.C) d σ H') → ∀ Q : List V → Hp → Prop, ta σ H Q
def RvOk (K : PySem.W.Frag) (W : WX) (te : TE) (ρ : List Sl) : Rv → Prop
  | .v m d => EE K te ρ m d
  | .x e => XX K te ρ W e
section
variable {K : PySem.W.Frag} {W : WX} {te ta tb : TE} {ρ : List Sl} {x : Er} {m : Md} {d : D}
theorem xx_opL {rr : R2} (h : XX K ta ρ W x) : XX K (tOp rr ta tb) ρ W x := fun B F H σ e w Q => h B F H σ e w _
theorem xx_opR {rr : R2} (ha : EE K ta ρ m d) (h : XX K tb ρ W x) : XX K (tOp rr ta tb) ρ W x := fun B F H σ e w Q =>
  ha B F H σ e _ fun v F1 H1 g1 _ => h B F1 H1 σ (e.grow g1) (fun dx F' H' g er => w dx F' H' (g1.trans g) er) _
theorem xx_B {X : Cx} {e : Expr} {t : TE} (h : PE X e t) (q : XX K t ρ W x) : XX K (eB X e) ρ W x := fun B F H σ ev w Q => ⟨t, h, q B F H σ ev w Q⟩
theorem xa_B {X : Cx} {es : List Expr} {t : TA} (h : PA X es t) (q : XA K t ρ W x) : XA K (aB X es) ρ W x := fun B F H σ ev w Q => ⟨t, h, q B F H σ ev w Q⟩
theorem xa_here {tr : TA} (h : XX K te ρ W x) : XA K (tCons te tr) ρ W x := fun B F H σ e w Q => h B F H σ e w _
theorem xa_next {tr : TA} (h : EE K te ρ m d) (hr : XA K tr ρ W x) : XA K (tCons te tr) ρ W x := fun B F H σ e w Q =>
  h B F H σ e _ fun v F1 H1 g1 _ => hr B F1 H1 σ (e.grow g1) (fun dx F' H' g er => w dx F' H' (g1.trans g) er) _
theorem xx_cb {rr : List V → Hp → VK → Prop} {t : TA} (h : XA K t ρ W x) : XX K (tCB rr t) ρ W x := fun B F H σ e w Q => h B F H σ e w _
theorem xx_tup {t : TA} (h : XA K t ρ W x) : XX K (tTup t) ρ W x := fun B F H σ e w Q => h B F H σ e w _
theorem xx_lst {t : TA} (h : XA K t ρ W x) : XX K (tLst t) ρ W x := fun B F H σ e w Q => h B F H σ e w _
theorem xx_un {r : V → Hp → VK → Prop} (h : XX K ta ρ W x) : XX K (tUn r ta) ρ W x := fun B F H σ e w Q => h B F H σ e w _
theorem xx_callA {sp : Sp} {E : L2.St → XK} {t : TA} (h : XA K t ρ W x) : XX K (tCallS sp E t) ρ W x := fun B F H σ e w Q => h B F H σ e w _
end

/-! ### the promise of a def, errors with it -/
def SpE (K : PySem.W.Frag) (R : List D → Option Res) : Sp := fun vs H Q E => ∃ Fi ds, Ex Fi H ∧ DtMA K H Fi vs ds ∧
  ((∃ m d, R ds = some (.ok m d) ∧ (m = .f ∨ m = .n) ∧ ∀ v F' H', Grow Fi H F' H' → Val K m Emp H F' H' v d → Q v H') ∨
   ∃ x, R ds = some (.er x) ∧ ∀ dx F' H', Grow Fi H F' H' → ErAt K F' x dx → E (.ref x.C) dx H')
section
variable {K : PySem.W.Frag} {W : WX} {ρ : List Sl} {ta : TA} {ds : List D} {d : D} {m : Md} {R : List D → Option Res} {x : Er}
theorem e_callE {E : L2.St → XK} (h : EA K ta ρ ds) (hR : R ds = some (.ok m d)) (hm : m = .f ∨ m = .n) : EE K (tCallS (SpE K R) E ta) ρ m d := fun B F H σ e Q q =>
  h B F H σ e _ fun vs F1 H1 g1 dvs => ⟨F1, ds, g1.i, dvs, .inl ⟨m, d, hR, hm, fun v F2 H2 g2 dv => q v F2 H2 (g1.trans g2) ((dv.anyB hm).back g1.h)⟩⟩
theorem xx_callE (h : EA K ta ρ ds) (hR : R ds = some (.er x)) : XX K (tCallS (SpE K R) (WE W) ta) ρ W x := fun B F H σ e w Q =>
  h B F H σ e _ fun vs F1 H1 g1 dvs => ⟨F1, ds, g1.i, dvs, .inr ⟨x, hR, fun dx F2 H2 g2 er => w dx F2 H2 (g1.trans g2) er⟩⟩
end
structure HasX (rp : Bool) (P : Program) (w : World) (K : PySem.W.Frag) (mg : Str → Option Value) (base : Heap) (x : Str) (k : Nat) (ps : List Str) (sp : Sp) : Prop where
  ex : ∃ (f : Addr) (fd : FuncData), FnR rp P w K mg base k f fd ps sp ∧ mg x = some (.ref f) ∧ PySem.W.keepIn K (.ref f) = true ∧ Binds K fd ps []

structure HasM (P : Program) (w : World) (K : PySem.W.Frag) (mg : Str → Option Value) (base : Heap) (C : Addr) (m : Str) (k : Nat) (ps : List Str) (sp : Sp) : Prop where
  ex : ∃ (f : Addr) (fd : FuncData), Cls K C ∧ Meth K C m f ∧ FnOk P w K mg base (L2.CX P w) k f fd ps sp ∧ Binds K fd ps []
section
variable {K : PySem.W.Frag} {W : WX} {ρ : List Sl} {te : TE} {ta : TA} {C : Addr} {ns : List Str} {ds es : List D} {m m2 : Md} {mn : Str} {d : D} {R : List D → Option Res} {E : L2.St → XK} {x : Er}
/-- e.m(..) -/
theorem e_methE (h : EE K te ρ m (.obj C ns ds)) (hm : mn ∉ ns) (ha : EA K ta ρ es) (hR : R (.obj C ns ds :: es) = some (.ok m2 d)) (hm2 : m2 = .f ∨ m2 = .n) : EE K (tMethS C mn (SpE K R) E te ta) ρ m2 d := fun B F H σ e Q q =>
  (h.f cf_obj) B F H σ e _ fun v F1 H1 g1 dv => by
    obtain ⟨a, dx, xs, rfl, h1, h2, h3⟩ := Dt.obj_inv dv
    exact ⟨a, dx, _, rfl, g1.i _ _ h1, zip_none hm, ha B F1 H1 σ (e.grow g1) _ fun vs F2 H2 g2 dvs => ⟨F2, _, g2.i, .cons (.fz (Dt.mono g2.f dv)) dvs, .inl ⟨m2, d, hR, hm2, fun w F3 H3 g3 dw => q w F3 H3 ((g1.trans g2).trans g3) ((dw.anyB hm2).back (g1.h.trans g2.h))⟩⟩⟩
theorem xx_methE (h : EE K te ρ m (.obj C ns ds)) (hm : mn ∉ ns) (ha : EA K ta ρ es) (hR : R (.obj C ns ds :: es) = some (.er x)) : XX K (tMethS C mn (SpE K R) (WE W) te ta) ρ W x := fun B F H σ e w Q =>
  (h.f cf_obj) B F H σ e _ fun v F1 H1 g1 dv => by
    obtain ⟨a, dx, xs, rfl, h1, h2, h3⟩ := Dt.obj_inv dv
    exact ⟨a, dx, _, rfl, g1.i _ _ h1, zip_none hm, ha B F1 H1 σ (e.grow g1) _ fun vs F2 H2 g2 dvs => ⟨F2, _, g2.i, .cons (.fz (Dt.mono g2.f dv)) dvs, .inr ⟨x, hR, fun dx F3 H3 g3 er => w dx F3 H3 ((g1.trans g2).trans g3) er⟩⟩⟩
theorem xx_methL {sp : Sp} (h : XX K te ρ W x) : XX K (tMethS C mn sp E te ta) ρ W x := fun B F H σ e w Q => h B F H σ e w _
theorem xx_methA {sp : Sp} (h : EE K te ρ m (.obj C ns ds)) (hm : mn ∉ ns) (ha : XA K ta ρ W x) : XX K (tMethS C mn sp E te ta) ρ W x := fun B F H σ e w Q =>
  (h.f cf_obj) B F H σ e _ fun v F1 H1 g1 dv => by
    obtain ⟨a, dx, xs, rfl, h1, h2, h3⟩ := Dt.obj_inv dv
    exact ⟨a, dx, _, rfl, g1.i _ _ h1, zip_none hm, ha B F1 H1 σ (e.grow g1) (fun d F' H' g er => w d F' H' (g1.trans g) er) _⟩
end
/-- a context in which a text is compiled -/
structure Ok (X : Cx) (S : Sc) (W : WX) : Prop where
  N : X.N = S.N
  nd : X.N.Nodup
  sc : X.env.scope = S.sc
  calm : X.calm = true
  fn : ∀ x, S.sc0.names.lookup x = some .cell → X.fn x = true
  blt : ∀ x ∈ bNames, x ∉ S.defs → X.mg x = none
  un : X.A.units + 70 < cLine
  gd : S.fl.rp = true → X.A.guards = some []
  gc : S.fl.gcd = true → X.mg "gcd" = some (.builtin "math.gcd")
  tk : Takes X W
  dbg : ("__debug__" : Str) ∉ S.defs
/-- the defs keep their promises -/
structure Calls (X : Cx) (S : Sc) (O : Orc) : Prop where
  ex : ∃ k, Room k X.A ∧
  (∀ g ∈ S.defs, (∃ ps, HasX S.fl.rp X.prog X.w X.K X.mg X.base g k ps (SpE X.K (O.call g))) ∨
    ∃ j C ps, j + 1 ≤ k ∧ HasC X.prog X.w X.K X.mg X.base g C j ps (SpC X.K C (O.call g)) ∧ ∀ ds m d, O.call g ds = some (.ok m d) → m = .f ∧ ∃ ns es, d = .obj C ns es) ∧
  (∀ g ∈ S.errs, (g == ("__debug__" : Str)) = false ∧ ∃ C f, (2 ≤ k → ErrOk X.prog X.w X.K X.mg X.base g f C) ∧ ∀ ds x, O.mkE g ds = some x → 2 ≤ k ∧ ∃ d, ds = [d] ∧ saidD d = true ∧ x = ⟨C, [f], [d]⟩) ∧
  (∀ C m, O.mok C m = true → ∃ ps, HasM X.prog X.w X.K X.mg X.base C m k ps (SpE X.K (O.meth C m))) ∧
  ∀ C f, O.fok C f = true → Cls X.K C ∧ NoAttr X.K C f
section
variable {X : Cx} {S : Sc} {W : WX} {O : Orc}
theorem Ok.var (k : Ok X S W) {x : Str} {i : Nat} (h : S.slot x = some i) : X.N[i]? = some x ∧ Vis X.env.scope x ∧ (x == ("__debug__" : Str)) = false ∧ (x == ("__classdict__" : Str)) = false := by
  unfold Sc.slot at h
  rw [k.sc, k.N]
  have key : ∀ {o : Option Nat}, (if x = "__debug__" ∨ x = "__classdict__" then none else
      let i := S.N.findIdx (fun y => decide (y = x))
      if S.N[i]? = some x then some i else none) = some i → S.N[i]? = some x ∧ (x == ("__debug__" : Str)) = false ∧ (x == ("__classdict__" : Str)) = false := by
    intro _ h
    split at h
    · cases h
    · rename_i hn
      simp only [not_or] at hn
      dsimp only at h
      split at h
      · rename_i hi
        cases h
        exact ⟨hi, by simpa using hn.1, by simpa using hn.2⟩
      · cases h
  split at h
  · rename_i hl; obtain ⟨a, b, c⟩ := key (o := none) h; exact ⟨a, .inl hl, b, c⟩
  · rename_i hl; obtain ⟨a, b, c⟩ := key (o := none) h; exact ⟨a, .inr (.inl hl), b, c⟩
  · rename_i hl; obtain ⟨a, b, c⟩ := key (o := none) h; exact ⟨a, .inr (.inr hl), b, c⟩
  · cases h
theorem Ok.store (k : Ok X S W) {x : Str} {i : Nat} (h : S.store x = some i) : X.N[i]? = some x ∧ Loc X.env.scope x ∧ (X.fn x = true ∨ X.env.scope.names.lookup x = some .local) := by
  unfold Sc.store at h
  split at h
  · rename_i hl
    refine ⟨(k.var h).1, .inl ?_, .inr ?_⟩ <;> rw [k.sc] <;> exact hl
  · rename_i hl
    split at h
    · rename_i h0
      refine ⟨(k.var h).1, .inr ?_, .inl (k.fn x h0)⟩
      rw [k.sc]; exact hl
    · cases h
  · cases h
theorem Ok.gl (k : Ok X S W) {x : Str} (h : S.gl x = true) : Gl X x := by
  unfold Sc.gl at h
  show X.env.scope.names.lookup x = some .globalImplicit
  rw [k.sc]
  split at h
  · assumption
  · cases h
theorem Ok.blk (k : Ok X S W) (s : Shared) (H : Hp) (scope : Scope) (C : Addr) (cl : List (Str × Addr)) (fp : List Addr) : Ok (X.blk s H scope (compEnvC scope cl C X.env) fp) (S.blk scope) (fun _ _ _ _ => False) :=
  ⟨k.N, k.nd, by show relabelC scope X.env.scope = relabelC scope S.sc; rw [k.sc], k.calm, fun x h => by show (scope.names.lookup x == some .cell) = true; rw [show scope.names.lookup x = some .cell from h]; rfl, k.blt, k.un, k.gd, k.gc, fun _ _ x => by
    obtain ⟨_, _, _, _, _, _, _, _, _, _, _, _, _, _, _, _, z⟩ := x
    exact z.elim, k.dbg⟩
theorem Calls.blk (c : Calls X S O) (s : Shared) (H : Hp) (scope : Scope) (env : Env) (fp : List Addr) : Calls (X.blk s H scope env fp) (S.blk scope) O := ⟨c.ex⟩
theorem pe_callX {rp : Bool} {x : Str} {j k : Nat} {ps : List Str} {sp : Sp} {e : Expr} {es : List Expr} {t : TA} {p pos : Pos} (h : HasX rp X.prog X.w X.K X.mg X.base x j ps sp) (hgd : rp = true → X.A.guards = some []) (hr : Room k X.A) (hj : j ≤ k) (tk : Takes X W) (hg : Gl X x) (ha : PA X (e :: es) t)
    (hdb : (x == ("__debug__" : Str)) = false) (he : starEach (e :: es) X.env = (false, eval e X.env) :: starEach es X.env) (hpl : (backTo pos (starEach es X.env)).any (·.1) = false) :
    PE X (.Call (.Name x p) (e :: es) [] pos) (tCallS sp (WE W) t) := by
  obtain ⟨f, fd, F, hm, hk, hb⟩ := h.ex
  exact pe_callR (F.mono hj) hr hgd hg hm hk hb tk ha hdb he hpl
end

/-! ### no stars -/
theorem cE_star {S : Sc} {n : Nat} {e : Expr} {p : Pos} : cE S n (.Starred e p) = none := by cases n <;> rfl
theorem star1 {S : Sc} {n : Nat} {e : Expr} {c : CE} (h : cE S n e = some c) (es : List Expr) (env : Env) : starEach (e :: es) env = (false, eval e env) :: starEach es env := by
  cases e <;> first | rfl | (rw [cE_star] at h; cases h)
theorem starAll {S : Sc} : ∀ {n : Nat} {es : List Expr} {cs : CEs}, cEs S n es = some cs → ∀ (pos : Pos) (env : Env), (backTo pos (starEach es env)).any (·.1) = false
  | _, [], _, _, pos, env => rfl
  | 0, _ :: _, _, h, _, _ => by simp [cEs] at h
  | n + 1, e :: es, cs, h, pos, env => by
    simp only [cEs] at h
    split at h
    · rename_i c cs' h1 h2
      rw [star1 h1]
      have := starAll h2 pos env
      unfold backTo at this ⊢
      simp only [List.map_cons, List.any_cons, Bool.false_or]
      exact this
    · cases h
theorem plainIx {S : Sc} {n : Nat} {e : Expr} {c : CE} (h : cE S n e = some c) : PlainIx e := by
  cases e <;> first | (intro _ _; rfl) | (cases n <;> simp [cE] at h)
end QL

end
section
set_option maxRecDepth 100000
set_option maxHeartbeats 4000000
namespace QL
open PySem PySem.Spec PyProof.Rows L2 Evl

/-! ### targets -/
mutual
def gOf (K : PySem.W.Frag) : Pat → TG
  | .nm i => gName i
  | .tp ps => gTup K ps.length (gsOf K ps)
def gsOf (K : PySem.W.Frag) : List Pat → TGs
  | [] => gNil
  | p :: ps => gCons (gOf K p) (gsOf K ps)
end
mutual
theorem gp_of (K : PySem.W.Frag) : ∀ p : Pat, GP K (gOf K p) p
  | .nm i => .nm i
  | .tp ps => .tp rfl (gps_of K ps)
theorem gps_of (K : PySem.W.Frag) : ∀ ps : List Pat, GPs K (gsOf K ps) ps
  | [] => .nil
  | p :: ps => .cons (gp_of K p) (gps_of K ps)
end
theorem cP_star {S : Sc} {n : Nat} {e : Expr} {p : Pos} : cP S n (.Starred e p) = none := by cases n <;> rfl
theorem asg1 {S : Sc} {n : Nat} {e : Expr} {c : Pat} (h : cP S n e = some c) (es : List Expr) (env : Env) : assignEach (e :: es) env = (false, assign e env) :: assignEach es env := by
  cases e <;> first | rfl | (rw [cP_star] at h; cases h)
section
variable {X : Cx} {S : Sc} {W : WX}
theorem pg_aux (k : Ok X S W) : ∀ n : Nat, (∀ tg p, cP S n tg = some p → PG X tg (gOf X.K p)) ∧ (∀ es ps, cPs S n es = some ps → PGs X es (gsOf X.K ps) ∧ (assignEach es X.env).length = ps.length ∧ (assignEach es X.env).findIdx? (·.1) = none) := by
  intro n
  induction n with
  | zero =>
    refine ⟨fun tg p h => by simp [cP] at h, fun es ps h => ?_⟩
    cases es with
    | nil => simp only [cPs, Option.some.injEq] at h; subst h; exact ⟨pgs_nil, rfl, rfl⟩
    | cons e es => simp [cPs] at h
  | succ n ih =>
    refine ⟨fun tg p h => ?_, fun es ps h => ?_⟩
    · cases tg with
      | Name x pos =>
        simp only [cP, Option.map_eq_some_iff] at h
        obtain ⟨i, h1, rfl⟩ := h
        obtain ⟨a, b, c⟩ := k.store h1
        exact pg_name k.nd a b c
      | Tuple es kk pos =>
        simp only [cP, Option.map_eq_some_iff] at h
        obtain ⟨ps, h1, rfl⟩ := h
        obtain ⟨a, b, c⟩ := ih.2 es ps h1
        exact pg_tup k.calm a b c
      | _ => simp [cP] at h
    · cases es with
      | nil => simp only [cPs, Option.some.injEq] at h; subst h; exact ⟨pgs_nil, rfl, rfl⟩
      | cons e es =>
        simp only [cPs] at h
        split at h
        · rename_i p ps' h1 h2
          cases h
          obtain ⟨a, b, c⟩ := ih.2 es ps' h2
          refine ⟨pgs_cons (ih.1 e p h1) a (by rw [asg1 h1]; rfl), ?_, ?_⟩
          · rw [asg1 h1]; simp [b]
          · rw [asg1 h1, List.findIdx?_cons]; simp [c]
        · cases h
theorem pg_of (k : Ok X S W) {n : Nat} {tg : Expr} {p : Pat} (h : cP S n tg = some p) : PG X tg (gOf X.K p) := (pg_aux k n).1 tg p h
end

/-! ### operations -/
section
variable {X : Cx} {S : Sc} {W : WX} {O : Orc} {ρ : List Sl} {a b e : Expr} {m m1 m2 : Md} {d d1 d2 : D} {r : Rv} {pos : Pos}
theorem intsOf_eq : ∀ {ds : List D} {ns : List Int}, intsOf ds = some ns → ds = ns.map .int
  | [], ns, h => by cases h; rfl
  | d :: ds, ns, h => by
    cases d <;> simp only [intsOf] at h <;> try cases h
    rename_i i
    simp only [Option.map_eq_some_iff] at h
    obtain ⟨ms, h1, rfl⟩ := h
    rw [intsOf_eq h1]; rfl
theorem fv_eq {d : D} {r : Rv} (h : fv d = some r) : r = .v .f d := by cases h; rfl
theorem dpow {n : Nat} (h : n < big200) : n < 2 ^ 2000 := h
theorem binI_ok {o : BO} {op : Operator} (ho : cBO op = some o) {i j n : Int} (h : binI o i j = some n) : ∃ rr, OpR X (binaryOp op) rr ∧ Op2 X.K rr (.int i) (.int j) .f (.int n) := by
  cases op <;> first | (simp [cBO] at ho; done) | skip
  all_goals (simp only [cBO, Option.some.injEq] at ho; subst ho; simp only [binI] at h)
  · cases h; exact ⟨_, op_add, o_i⟩
  · cases h; exact ⟨_, op_sub, o_i⟩
  · split at h
    · rename_i c
      cases h
      exact ⟨_, op_mulW, o_ic (wide_mul (dpow c.1) (dpow c.2) (by omega) (by omega) (by omega))⟩
    · cases h
  · split at h
    · rename_i c; cases h; exact ⟨_, op_mod, o_ic c⟩
    · cases h
  · split at h
    · rename_i c; cases h; exact ⟨_, op_pow, o_ic c⟩
    · cases h
  · split at h
    · rename_i c; cases h; exact ⟨_, op_fdivW, o_ic (wide_div c.1 (dpow c.2) (by omega) (by omega))⟩
    · cases h
theorem bin_any {o : BO} {op : Operator} (ho : cBO op = some o) : ∃ rr, OpR X (binaryOp op) rr := by
  cases op <;> first | (simp [cBO] at ho; done) | skip
  · exact ⟨_, op_add⟩
  · exact ⟨_, op_sub⟩
  · exact ⟨_, op_mulW⟩
  · exact ⟨_, op_mod⟩
  · exact ⟨_, op_pow⟩
  · exact ⟨_, op_fdivW⟩
theorem binD_ok {o : BO} {op : Operator} (ho : cBO op = some o) (ha : EE X.K (eB X a) ρ m1 d1) (hb : EE X.K (eB X b) ρ m2 d2) (h : binD o m1 d1 m2 d2 = some r) : RvOk X.K W (eB X (.BinOp a op b pos)) ρ r := by
  unfold binD at h
  split at h
  · simp only [Option.bind_eq_some_iff] at h
    obtain ⟨n, h1, h2⟩ := h
    have := fv_eq h2
    subst this
    obtain ⟨rr, p, q⟩ := binI_ok (X := X) ho h1
    exact ee_B (pe_op p pe_B pe_B) (e_op ha hb q)
  · split at h
    · rename_i c
      cases h
      obtain ⟨rfl, c1, c2, c3⟩ := c
      have : op = .Add := by cases op <;> simp [cBO] at ho <;> rfl
      subst this
      exact ee_B (pe_op op_cat pe_B pe_B) (e_cat ha hb c1 c2 c3)
    · cases h
  · cases h
/-- two operands in a row -/
theorem ax2 {ra rb : Option Rv} {k : Md → D → Md → D → Option Rv} {ta tb te : TE} (ha : ∀ r, ra = some r → RvOk X.K W ta ρ r) (hb : ∀ r, rb = some r → RvOk X.K W tb ρ r)
    (hxl : ∀ x, XX X.K ta ρ W x → XX X.K te ρ W x) (hxr : ∀ m d x, EE X.K ta ρ m d → XX X.K tb ρ W x → XX X.K te ρ W x)
    (hv : ∀ m1 d1 m2 d2, EE X.K ta ρ m1 d1 → EE X.K tb ρ m2 d2 → ∀ r, k m1 d1 m2 d2 = some r → RvOk X.K W te ρ r)
    (h : bv ra (fun m1 d1 => bv rb fun m2 d2 => k m1 d1 m2 d2) = some r) : RvOk X.K W te ρ r := by
  cases ra with
  | none => simp at h
  | some x =>
    cases x with
    | x e =>
      simp only [bv_x, Option.some.injEq] at h
      subst h
      exact hxl e (ha _ rfl)
    | v m1 d1 =>
      simp only [bv_v] at h
      cases rb with
      | none => simp at h
      | some y =>
        cases y with
        | x e =>
          simp only [bv_x, Option.some.injEq] at h
          subst h
          exact hxr m1 d1 e (ha _ rfl) (hb _ rfl)
        | v m2 d2 => exact hv m1 d1 m2 d2 (ha _ rfl) (hb _ rfl) r h
/-- one operand -/
theorem ax1 {ra : Option Rv} {k : Md → D → Option Rv} {ta te : TE} (ha : ∀ r, ra = some r → RvOk X.K W ta ρ r) (hx : ∀ x, XX X.K ta ρ W x → XX X.K te ρ W x)
    (hv : ∀ m d, EE X.K ta ρ m d → ∀ r, k m d = some r → RvOk X.K W te ρ r) (h : bv ra k = some r) : RvOk X.K W te ρ r := by
  cases ra with
  | none => simp at h
  | some x =>
    cases x with
    | x e =>
      simp only [bv_x, Option.some.injEq] at h
      subst h
      exact hx e (ha _ rfl)
    | v m d => exact hv m d (ha _ rfl) r h
theorem cmp_any (k : Ok X S W) {o : CO} {op : CmpOp} (ho : cCO op = some o) : ∃ rr, OpR X (compareOp op) rr := by
  cases op <;> first | (simp [cCO] at ho; done) | skip
  · exact ⟨_, op_eq⟩
  · exact ⟨_, op_ne⟩
  · exact ⟨_, op_lt⟩
  · exact ⟨_, op_le⟩
  · exact ⟨_, op_gt⟩
  · exact ⟨_, op_ge⟩
  · exact ⟨_, op_isN⟩
  · exact ⟨_, op_notN⟩
  · exact ⟨_, op_inD (by have := k.un; omega)⟩
  · exact ⟨_, op_notInD (by have := k.un; omega)⟩
theorem cmp_mark {n : Nat} {b : Expr} {c : CE} (h : cE S n b = some c) (op : CmpOp) : behindInMarks op b = false := by
  cases b <;> first | rfl | (cases n <;> simp [cE] at h)
theorem cmpI_ok {o : CO} {op : CmpOp} (ho : cCO op = some o) {i j : Int} {c : Bool} (h : cmpI o i j = some c) : ∃ rr, OpR X (compareOp op) rr ∧ Op2 X.K rr (.int i) (.int j) .f (.bl c) := by
  cases op <;> first | (simp [cCO] at ho; done) | skip
  all_goals (simp only [cCO, Option.some.injEq] at ho; subst ho; simp only [cmpI] at h; try cases h)
  · exact ⟨_, op_eq, o_eqI⟩
  · exact ⟨_, op_ne, o_neI⟩
  · exact ⟨_, op_lt, o_b⟩
  · exact ⟨_, op_le, o_b⟩
  · exact ⟨_, op_gt, o_b⟩
  · exact ⟨_, op_ge, o_b⟩
theorem o_isN {a : D} : Op2 X.K (fun x y H Q => y = .non ∧ Q (.bl (decide (x = .non))) H) a .non .f (.bl (match a with | .non => true | _ => false)) := fun B F H x y eb ef dx dy Q q => by
  refine ⟨dy.non_inv, q _ F H (Grow.refl ef) ?_⟩
  cases a with
  | non => rw [dx.non_inv]; exact Dt.bl true
  | bl b => rw [dx.bl_inv]; exact Dt.bl false
  | int b => rw [dx.int_inv]; exact Dt.bl false
  | str b => rw [dx.str_inv]; exact Dt.bl false
  | lst ds => obtain ⟨p, xs, rfl, _⟩ := dx.lst_inv (Ex.refl _) ef; exact Dt.bl false
  | tup ds => obtain ⟨p, xs, rfl, _⟩ := dx.tup_inv (Ex.refl _) ef; exact Dt.bl false
  | scr ns => obtain ⟨p, rfl, _⟩ := dx.scr_inv ef; exact Dt.bl false
  | obj _ _ _ => obtain ⟨p, _, _, rfl, _⟩ := dx.obj_inv; exact Dt.bl false
  | dic _ _ => obtain ⟨p, _, rfl, _⟩ := dx.dic_inv (Ex.refl _) ef; exact Dt.bl false
  | dit _ _ => obtain ⟨p, _, rfl, _⟩ := dx.dit_inv (Ex.refl _) ef; exact Dt.bl false
theorem o_notN {a : D} : Op2 X.K (fun x y H Q => y = .non ∧ Q (.bl (!decide (x = .non))) H) a .non .f (.bl (match a with | .non => false | _ => true)) := fun B F H x y eb ef dx dy Q q => by
  refine ⟨dy.non_inv, q _ F H (Grow.refl ef) ?_⟩
  cases a with
  | non => rw [dx.non_inv]; exact Dt.bl false
  | bl b => rw [dx.bl_inv]; exact Dt.bl true
  | int b => rw [dx.int_inv]; exact Dt.bl true
  | str b => rw [dx.str_inv]; exact Dt.bl true
  | lst ds => obtain ⟨p, xs, rfl, _⟩ := dx.lst_inv (Ex.refl _) ef; exact Dt.bl true
  | tup ds => obtain ⟨p, xs, rfl, _⟩ := dx.tup_inv (Ex.refl _) ef; exact Dt.bl true
  | scr ns => obtain ⟨p, rfl, _⟩ := dx.scr_inv ef; exact Dt.bl true
  | obj _ _ _ => obtain ⟨p, _, _, rfl, _⟩ := dx.obj_inv; exact Dt.bl true
  | dic _ _ => obtain ⟨p, _, rfl, _⟩ := dx.dic_inv (Ex.refl _) ef; exact Dt.bl true
  | dit _ _ => obtain ⟨p, _, rfl, _⟩ := dx.dit_inv (Ex.refl _) ef; exact Dt.bl true
theorem o_isB {i j : Bool} : Op2 X.K rIsB (.bl i) (.bl j) .f (.bl (decide (i = j))) := o_pl rfl fun F H x y dx dy Q q => ⟨i, j, dx.bl_inv, dy.bl_inv, q _ (.bl _)⟩
theorem o_notB {i j : Bool} : Op2 X.K rNotB (.bl i) (.bl j) .f (.bl (!decide (i = j))) := o_pl rfl fun F H x y dx dy Q q => ⟨i, j, dx.bl_inv, dy.bl_inv, q _ (.bl _)⟩
def opOf : CO → CmpOp
  | .lt => .Lt | .le => .LtE | .gt => .Gt | .ge => .GtE | .eq => .Eq | .ne => .NotEq | .is => .Is | .isnot => .IsNot | .isin => .In | .notin => .NotIn
theorem cCO_is {op : CmpOp} {o : CO} (h : cCO op = some o) : op = opOf o := by
  cases op <;> simp [cCO] at h <;> subst h <;> rfl
theorem cmpD_ok (k : Ok X S W) {o : CO} {op : CmpOp} (ho : cCO op = some o) {c : Bool} (h : cmpD o d1 d2 = some c) : ∃ rr, OpR X (compareOp op) rr ∧ Op2 X.K rr d1 d2 .f (.bl c) := by
  have hop := cCO_is ho
  unfold cmpD at h
  split at h
  · exact cmpI_ok ho h
  · cases o <;> simp only [Option.some.injEq] at h <;> first | (cases h; done) | (subst h; subst hop)
    · exact ⟨_, op_eq, o_eqB⟩
    · exact ⟨_, op_ne, o_neB⟩
    · exact ⟨_, op_isBl, o_isB⟩
    · exact ⟨_, op_notBl, o_notB⟩
  · cases o <;> simp only [Option.some.injEq] at h <;> first | (cases h; done) | (subst h; subst hop)
    · exact ⟨_, op_eq, o_eqS⟩
    · exact ⟨_, op_ne, o_neS⟩
  · cases o <;> dsimp only at h <;> first | (cases h; done) | skip
    split at h
    · rename_i hk
      subst hk
      simp only [Option.bind_eq_some_iff, Option.map_eq_some_iff] at h
      obtain ⟨vs, h1, ws, h2, rfl⟩ := h
      rw [intsOf_eq h1, intsOf_eq h2]
      subst hop
      exact ⟨_, op_eqT (by have := k.un; omega), o_eqT⟩
    · cases h
  · split at h
    · split at h
      · rename_i c; cases h; subst hop; exact ⟨_, op_inD (by have := k.un; omega), o_inD c.1 c.2⟩
      · cases h
    · split at h
      · rename_i c; cases h; subst hop; exact ⟨_, op_notInD (by have := k.un; omega), o_notInD c.1 c.2⟩
      · cases h
    · cases h; subst hop; exact ⟨_, op_isN, o_isN⟩
    · cases h; subst hop; exact ⟨_, op_notN, o_notN⟩
    · split at h
      · rename_i c; cases h; subst hop; exact ⟨_, op_eqD (by have := k.un; omega), o_eqD c.1 c.2⟩
      · cases h
    · split at h
      · rename_i c; cases h; subst hop; exact ⟨_, op_neD (by have := k.un; omega), o_neD c.1 c.2⟩
      · cases h
    · cases h
theorem ee_nrm {t : TE} (h : EE X.K t ρ m d) : RvOk X.K W t ρ (.v (nrm m d) d) := h.nrm
theorem dgD_ok (k : Ok X S W) {es : List D} (ha : EE X.K (eB X a) ρ m1 d1) (hb : EE X.K (eB X b) ρ m2 (.tup es)) (hp : PlainIx b) (h : dgD m1 d1 es = some r) : RvOk X.K W (eB X (.Subscript a b pos)) ρ r := by
  unfold dgD at h
  split at h
  · simp only [Option.bind_eq_some_iff, Option.map_eq_some_iff] at h
    obtain ⟨kk, h1, e, h2, rfl⟩ := h
    exact ee_nrm (ee_B (pe_dget (by have := k.un; omega) pe_B pe_B hp) (e_dgetT ha hb h1 h2))
  · cases h
theorem ixD_ok {i : Int} (ha : EE X.K (eB X a) ρ m1 d1) (hb : EE X.K (eB X b) ρ m2 (.int i)) (hp : PlainIx b) (h : ixD m1 d1 i = some r) : RvOk X.K W (eB X (.Subscript a b pos)) ρ r := by
  unfold ixD at h
  split at h
  · simp only [Option.map_eq_some_iff] at h
    obtain ⟨e, h1, rfl⟩ := h
    exact ee_nrm (ee_B (pe_ix ix_list pe_B pe_B hp) (e_ixL ha hb h1))
  · simp only [Option.map_eq_some_iff] at h
    obtain ⟨e, h1, rfl⟩ := h
    exact ee_nrm (ee_B (pe_ix ix_tup pe_B pe_B hp) (e_ixT ha hb h1))
  · simp only [Option.map_eq_some_iff] at h
    obtain ⟨e, h1, rfl⟩ := h
    exact ee_B (pe_ix ix_list pe_B pe_B hp) (e_ixS ha hb h1)
  · cases h
end
end QL

end
section
set_option maxRecDepth 100000
set_option maxHeartbeats 4000000
namespace QL
open PySem PySem.Spec PyProof.Rows L2 Evl
section
variable {X : Cx} {S : Sc} {W : WX} {O : Orc} {ρ : List Sl} {a b e : Expr} {m m1 m2 : Md} {d d1 d2 : D} {r : Rv} {pos p : Pos} {ds : List D}
theorem blsOf_eq : ∀ {ds : List D} {ns : List Bool}, blsOf ds = some ns → ds = ns.map .bl
  | [], ns, h => by cases h; rfl
  | d :: ds, ns, h => by
    cases d <;> simp only [blsOf] at h <;> try cases h
    rename_i i
    simp only [Option.map_eq_some_iff] at h
    obtain ⟨ms, h1, rfl⟩ := h
    rw [blsOf_eq h1]; rfl
theorem immA_ints : ∀ ns : List Int, immA (ns.map .int) = true
  | [] => rfl
  | _ :: r => by show (imm _ && immA (r.map .int)) = true; rw [immA_ints r]; rfl
theorem immA_bls : ∀ ns : List Bool, immA (ns.map .bl) = true
  | [] => rfl
  | _ :: r => by show (imm _ && immA (r.map .bl)) = true; rw [immA_bls r]; rfl
theorem DtA.bls_inv {K : PySem.W.Frag} {H : Hp} : ∀ {vs : List V} {ns : List Bool}, DtA K H vs (ns.map D.bl) → vs = ns.map V.bl
  | _, [], h => by cases h; rfl
  | _, n :: r, h => by
    cases h with
    | cons a b =>
      cases a
      rw [DtA.bls_inv b]
      rfl
theorem sq_ints {K : PySem.W.Frag} {H F : Hp} {xs : List V} {ns : List Int} (ef : Ex F H) (h : DtMA K H F xs [.lst (ns.map .int)]) : ∃ p, xs = [.ref p] ∧ SqL K H p (ns.map V.int) := by
  obtain ⟨v, rfl, dv⟩ := h.inv1
  obtain ⟨p, ys, rfl, h1, h2⟩ := dv.lst_inv (Ex.refl _) ef
  rw [(h2.imm (immA_ints ns)).ints_inv] at h1
  exact ⟨p, rfl, .inl (.inl h1)⟩
theorem sq_bls {K : PySem.W.Frag} {H F : Hp} {xs : List V} {ns : List Bool} (ef : Ex F H) (h : DtMA K H F xs [.lst (ns.map .bl)]) : ∃ p, xs = [.ref p] ∧ SqL K H p (ns.map V.bl) := by
  obtain ⟨v, rfl, dv⟩ := h.inv1
  obtain ⟨p, ys, rfl, h1, h2⟩ := dv.lst_inv (Ex.refl _) ef
  rw [(h2.imm (immA_bls ns)).bls_inv] at h1
  exact ⟨p, rfl, .inl (.inl h1)⟩
theorem oa_sum {ns : List Int} : OpA X.K (rSum X.K) [.lst (ns.map .int)] .f (.int ns.sum) := fun B F H xs eb ef h Q q => by
  obtain ⟨p, rfl, h1⟩ := sq_ints ef h
  exact ⟨p, ns, rfl, h1, q _ F H (Grow.refl ef) (Dt.int _)⟩
theorem oa_any {ns : List Bool} : OpA X.K (rAny X.K) [.lst (ns.map .bl)] .f (.bl (ns.any id)) := fun B F H xs eb ef h Q q => by
  obtain ⟨p, rfl, h1⟩ := sq_bls ef h
  exact ⟨p, ns, rfl, h1, q _ F H (Grow.refl ef) (Dt.bl _)⟩
theorem oa_all {ns : List Bool} : OpA X.K (rAll X.K) [.lst (ns.map .bl)] .f (.bl (ns.all id)) := fun B F H xs eb ef h Q q => by
  obtain ⟨p, rfl, h1⟩ := sq_bls ef h
  exact ⟨p, ns, rfl, h1, q _ F H (Grow.refl ef) (Dt.bl _)⟩
theorem maxI_spec : ∀ (r : List Int) (a : Int), maxI a r ∈ a :: r ∧ ∀ y ∈ a :: r, y ≤ maxI a r
  | [], a => ⟨List.mem_cons_self, fun y h => by simp at h; subst h; exact Int.le_refl _⟩
  | b :: r, a => by
    obtain ⟨h1, h2⟩ := maxI_spec r (if b > a then b else a)
    have hb : b ≤ (if b > a then b else a) := by split <;> omega
    have ha : a ≤ (if b > a then b else a) := by split <;> omega
    show maxI (if b > a then b else a) r ∈ _ ∧ ∀ y ∈ _, y ≤ maxI (if b > a then b else a) r
    refine ⟨?_, fun y hy => ?_⟩
    · rcases List.mem_cons.mp h1 with h | h
      · rw [h]; split <;> simp
      · simp [h]
    · have h0 := h2 _ List.mem_cons_self
      rcases List.mem_cons.mp hy with rfl | hy
      · omega
      · rcases List.mem_cons.mp hy with rfl | hy
        · omega
        · exact h2 y (List.mem_cons_of_mem _ hy)
theorem minI_spec : ∀ (r : List Int) (a : Int), minI a r ∈ a :: r ∧ ∀ y ∈ a :: r, minI a r ≤ y
  | [], a => ⟨List.mem_cons_self, fun y h => by simp at h; subst h; exact Int.le_refl _⟩
  | b :: r, a => by
    obtain ⟨h1, h2⟩ := minI_spec r (if b < a then b else a)
    have hb : (if b < a then b else a) ≤ b := by split <;> omega
    have ha : (if b < a then b else a) ≤ a := by split <;> omega
    show minI (if b < a then b else a) r ∈ _ ∧ ∀ y ∈ _, minI (if b < a then b else a) r ≤ y
    refine ⟨?_, fun y hy => ?_⟩
    · rcases List.mem_cons.mp h1 with h | h
      · rw [h]; split <;> simp
      · simp [h]
    · have h0 := h2 _ List.mem_cons_self
      rcases List.mem_cons.mp hy with rfl | hy
      · omega
      · rcases List.mem_cons.mp hy with rfl | hy
        · omega
        · exact h2 y (List.mem_cons_of_mem _ hy)
theorem oa_maxL {a : Int} {r : List Int} : OpA X.K (rMax X.K) [.lst ((a :: r).map .int)] .f (.int (maxI a r)) := fun B F H xs eb ef h Q q => by
  obtain ⟨p, rfl, h1⟩ := sq_ints ef h
  obtain ⟨s1, s2⟩ := maxI_spec r a
  refine ⟨p, a :: r, rfl, h1, by simp, fun mm h2 h3 => ?_⟩
  have : mm = maxI a r := Int.le_antisymm (s2 mm h2) (h3 _ s1)
  rw [this]
  exact q _ F H (Grow.refl ef) (Dt.int _)
theorem oa_minL {a : Int} {r : List Int} : OpA X.K (rMin X.K) [.lst ((a :: r).map .int)] .f (.int (minI a r)) := fun B F H xs eb ef h Q q => by
  obtain ⟨p, rfl, h1⟩ := sq_ints ef h
  obtain ⟨s1, s2⟩ := minI_spec r a
  refine ⟨p, a :: r, rfl, h1, by simp, fun mm h2 h3 => ?_⟩
  have : mm = minI a r := Int.le_antisymm (h3 _ s1) (s2 mm h2)
  rw [this]
  exact q _ F H (Grow.refl ef) (Dt.int _)
theorem oa_max {i k : Int} : OpA X.K (fun xs H Q => ∃ i j, xs = [.int i, .int j] ∧ Q (.int (if j > i then j else i)) H) [.int i, .int k] .f (.int (max i k)) := fun B F H xs _ ef h Q q => by
  obtain ⟨v, v', rfl, dv, dw⟩ := h.inv2
  refine ⟨i, k, by rw [dv.int_inv, dw.int_inv], q _ F H (Grow.refl ef) ?_⟩
  have e : (if k > i then k else i) = max i k := by
    rw [Int.max_def]; split <;> split <;> omega
  rw [e]; exact Dt.int _
theorem oa_min {i k : Int} : OpA X.K (fun xs H Q => ∃ i j, xs = [.int i, .int j] ∧ Q (.int (if j < i then j else i)) H) [.int i, .int k] .f (.int (min i k)) := fun B F H xs _ ef h Q q => by
  obtain ⟨v, v', rfl, dv, dw⟩ := h.inv2
  refine ⟨i, k, by rw [dv.int_inv, dw.int_inv], q _ F H (Grow.refl ef) ?_⟩
  have e : (if k < i then k else i) = min i k := by
    rw [Int.min_def]; split <;> split <;> omega
  rw [e]; exact Dt.int _
/-- a name of a built-in -/
theorem Ok.bl (k : Ok X S W) {x : Str} (h : S.gl x = true) (hd : x ∉ S.defs) (hb : x ∈ bNames) : Gl X x ∧ X.mg x = none := ⟨k.gl h, k.blt x hb hd⟩
/-- f(a) of a built-in function -/
theorem ax_b1 (k : Ok X S W) {f : Str} {g : B1} (hrp : g = .repr → S.fl.rp = true) (hg : cB1 f = some g) (hl : S.gl f = true) (hd : f ∉ S.defs) (hs : starEach [a] X.env = (false, eval a X.env) :: starEach [] X.env)
    (ha : EE X.K (eB X a) ρ m d) (h : b1D g m d = some r) : RvOk X.K W (eB X (.Call (.Name f p) [a] [] pos)) ρ r := by
  have pa : PA X [a] (tCons (eB X a) tNil) := pa_cons pe_B pa_nil hs
  have en := fun hb => k.bl hl hd hb
  unfold cB1 at hg
  split at hg
  · rename_i e; subst e; cases hg
    obtain ⟨g1, g2⟩ := en (by decide)
    simp only [b1D, Option.map_eq_some_iff] at h
    obtain ⟨n, h1, rfl⟩ := h
    exact ee_B (pe_callB call_len_seq g1 g2 PySem.boot_len pa (by decide) (by decide) hs rfl) (e_cb (ea_cons ha ea_nil) (oa_len h1))
  split at hg
  · rename_i e; subst e; cases hg
    obtain ⟨g1, g2⟩ := en (by decide)
    simp only [b1D] at h
    split at h
    · have := fv_eq h; subst this
      exact ee_B (pe_callTy call_int1 g1 g2 (by decide +kernel) pa (by decide) (by decide) hs rfl) (e_cb (ea_cons ha ea_nil) oa_int)
    · cases h
  split at hg
  · rename_i e; subst e; cases hg
    obtain ⟨g1, g2⟩ := en (by decide)
    simp only [b1D] at h
    split at h
    · simp only [Option.bind_eq_some_iff] at h
      obtain ⟨ns, h1, h2⟩ := h
      have := fv_eq h2; subst this
      have := intsOf_eq h1; subst this
      exact ee_B (pe_callB (cr_sum k.calm) g1 g2 (by decide +kernel) pa (by decide) (by decide) hs rfl) (e_cb (ea_cons ha ea_nil) oa_sum)
    · cases h
  split at hg
  · rename_i e; subst e; cases hg
    obtain ⟨g1, g2⟩ := en (by decide)
    simp only [b1D] at h
    split at h
    · simp only [Option.bind_eq_some_iff] at h
      obtain ⟨ns, h1, h2⟩ := h
      have := fv_eq h2; subst this
      have := blsOf_eq h1; subst this
      exact ee_B (pe_callB (cr_any k.calm) g1 g2 (by decide +kernel) pa (by decide) (by decide) hs rfl) (e_cb (ea_cons ha ea_nil) oa_any)
    · cases h
  split at hg
  · rename_i e; subst e; cases hg
    obtain ⟨g1, g2⟩ := en (by decide)
    simp only [b1D] at h
    split at h
    · simp only [Option.bind_eq_some_iff] at h
      obtain ⟨ns, h1, h2⟩ := h
      have := fv_eq h2; subst this
      have := blsOf_eq h1; subst this
      exact ee_B (pe_callB (cr_all k.calm) g1 g2 (by decide +kernel) pa (by decide) (by decide) hs rfl) (e_cb (ea_cons ha ea_nil) oa_all)
    · cases h
  split at hg
  · rename_i e; subst e; cases hg
    obtain ⟨g1, g2⟩ := en (by decide)
    simp only [b1D, Option.bind_eq_some_iff] at h
    obtain ⟨ds, h1, h2⟩ := h
    split at h2
    · rename_i c; cases h2
      exact ee_B (pe_callTy call_list_of g1 g2 (by decide +kernel) pa (by decide) (by decide) hs rfl) (e_list ha h1 c)
    · cases h2
      exact ee_B (pe_callTy call_list_of g1 g2 (by decide +kernel) pa (by decide) (by decide) hs rfl) (e_listH ha h1)
  split at hg
  · rename_i e; subst e; cases hg
    obtain ⟨g1, g2⟩ := en (by decide)
    simp only [b1D] at h
    split at h
    · split at h
      · rename_i c; cases h
        exact ee_B (pe_callTy call_tuple_of g1 g2 (by decide +kernel) pa (by decide) (by decide) hs rfl) (e_tupleL ha c)
      · cases h
    · cases h
      exact ee_nrm (ee_B (pe_callTy call_tuple_of g1 g2 (by decide +kernel) pa (by decide) (by decide) hs rfl) (e_tupleT ha))
    · cases h
      exact ee_B (pe_callTy call_tuple_of g1 g2 (by decide +kernel) pa (by decide) (by decide) hs rfl) (e_tupleS ha)
    · cases h
  split at hg
  · rename_i e; subst e; cases hg
    obtain ⟨g1, g2⟩ := en (by decide)
    simp only [b1D] at h
    split at h
    · simp only [Option.bind_eq_some_iff] at h
      obtain ⟨ns, h1, h2⟩ := h
      have := intsOf_eq h1; subst this
      cases ns with
      | nil => cases h2
      | cons x xs =>
        have := fv_eq h2; subst this
        exact ee_B (pe_callB (cr_max k.calm) g1 g2 (by decide +kernel) pa (by decide) (by decide) hs rfl) (e_cb (ea_cons ha ea_nil) oa_maxL)
    · cases h
  split at hg
  · rename_i e; subst e; cases hg
    obtain ⟨g1, g2⟩ := en (by decide)
    simp only [b1D] at h
    split at h
    · simp only [Option.bind_eq_some_iff] at h
      obtain ⟨ns, h1, h2⟩ := h
      have := intsOf_eq h1; subst this
      cases ns with
      | nil => cases h2
      | cons x xs =>
        have := fv_eq h2; subst this
        exact ee_B (pe_callB (cr_min k.calm) g1 g2 (by decide +kernel) pa (by decide) (by decide) hs rfl) (e_cb (ea_cons ha ea_nil) oa_minL)
    · cases h
  split at hg
  · rename_i e; subst e; cases hg
    obtain ⟨g1, g2⟩ := en (by decide)
    simp only [b1D] at h
    split at h
    · have := fv_eq h; subst this
      exact ee_B (pe_callB call_abs g1 g2 (by decide +kernel) pa (by decide) (by decide) hs rfl) (e_cb (ea_cons ha ea_nil) oa_abs)
    · cases h
  split at hg
  · rename_i e; subst e; cases hg
    obtain ⟨g1, g2⟩ := en (by decide)
    simp only [b1D] at h
    split at h
    · rename_i c
      have := fv_eq h; subst this
      exact ee_B (pe_callB (cr_repr (k.gd (hrp rfl)) (by have := k.un; omega)) g1 g2 (by decide +kernel) pa (by decide) (by decide) hs rfl) (e_cb (ea_cons ha ea_nil) (oa_repr c.1 c.2.1 c.2.2.1 c.2.2.2.1 c.2.2.2.2))
    · cases h
  · cases hg
/-- .. raises where its argument does -/
theorem ax_b1X (k : Ok X S W) {f : Str} {g : B1} {x : Er} (hrp : g = .repr → S.fl.rp = true) (hg : cB1 f = some g) (hl : S.gl f = true) (hd : f ∉ S.defs) (hs : starEach [a] X.env = (false, eval a X.env) :: starEach [] X.env)
    (ha : XX X.K (eB X a) ρ W x) : XX X.K (eB X (.Call (.Name f p) [a] [] pos)) ρ W x := by
  have pa : PA X [a] (tCons (eB X a) tNil) := pa_cons pe_B pa_nil hs
  have en := fun hb => k.bl hl hd hb
  have fin : ∀ {rr : List V → Hp → VK → Prop}, PE X (.Call (.Name f p) [a] [] pos) (tCB rr (tCons (eB X a) tNil)) → XX X.K (eB X (.Call (.Name f p) [a] [] pos)) ρ W x := fun h => xx_B h (xx_cb (xa_here ha))
  unfold cB1 at hg
  repeat' split at hg
  all_goals first | (cases hg; done) | skip
  all_goals (rename_i e; subst e; obtain ⟨g1, g2⟩ := en (by decide))
  · exact fin (pe_callB call_len_seq g1 g2 PySem.boot_len pa (by decide) (by decide) hs rfl)
  · exact fin (pe_callTy call_int1 g1 g2 (by decide +kernel) pa (by decide) (by decide) hs rfl)
  · exact fin (pe_callB (cr_sum k.calm) g1 g2 (by decide +kernel) pa (by decide) (by decide) hs rfl)
  · exact fin (pe_callB (cr_any k.calm) g1 g2 (by decide +kernel) pa (by decide) (by decide) hs rfl)
  · exact fin (pe_callB (cr_all k.calm) g1 g2 (by decide +kernel) pa (by decide) (by decide) hs rfl)
  · exact fin (pe_callTy call_list_of g1 g2 (by decide +kernel) pa (by decide) (by decide) hs rfl)
  · exact fin (pe_callTy call_tuple_of g1 g2 (by decide +kernel) pa (by decide) (by decide) hs rfl)
  · exact fin (pe_callB (cr_max k.calm) g1 g2 (by decide +kernel) pa (by decide) (by decide) hs rfl)
  · exact fin (pe_callB (cr_min k.calm) g1 g2 (by decide +kernel) pa (by decide) (by decide) hs rfl)
  · exact fin (pe_callB call_abs g1 g2 (by decide +kernel) pa (by decide) (by decide) hs rfl)
  · exact fin (pe_callB (cr_repr (k.gd (hrp (by cases hg; rfl))) (by have := k.un; omega)) g1 g2 (by decide +kernel) pa (by decide) (by decide) hs rfl)
end
end QL

end
section
set_option maxRecDepth 100000
set_option maxHeartbeats 4000000
namespace QL
open PySem PySem.Spec PyProof.Rows L2 Evl
/-! ### compiled texts mean what they mean -/
structure Sound (O : Orc) (n : Nat) : Prop where
  E : ∀ {X : Cx} {S : Sc} {W : WX} {e : Expr} {c : CE}, Ok X S W → Calls X S O → cE S n e = some c → ∀ ρ r, evE O c ρ = some r → RvOk X.K W (eB X e) ρ r
  B : ∀ {X : Cx} {S : Sc} {W : WX} {op : BoolOp} {vs : List Expr} {c : CE} {pos : Pos}, Ok X S W → Calls X S O → cB S n op vs = some c → ∀ ρ r, evE O c ρ = some r → RvOk X.K W (eB X (.BoolOp op vs pos)) ρ r
  A : ∀ {X : Cx} {S : Sc} {W : WX} {es : List Expr} {cs : CEs}, Ok X S W → Calls X S O → cEs S n es = some cs → ∀ ρ, (∀ ms, evEs O cs ρ = some (.v ms) → EA X.K (aB X es) ρ (ms.map (·.2)) ∧ (allCf ms = true → EF X.K (aB X es) ρ (ms.map (·.2)))) ∧ (∀ x, evEs O cs ρ = some (.x x) → XA X.K (aB X es) ρ W x)
  C : ∀ {X : Cx} {S : Sc} {W : WX} {tt : Bool} {e : Expr} {c : CSrc}, Ok X S W → Calls X S O → cSrc S n tt e = some c → (∀ tg, (tt = true → isTup tg = true) → ∀ ρ st its, evSrc O c ρ = some (.v st its) → Src X.K (iB X tg e) ρ st its) ∧ ∀ env x, foldedSetIterable e env x = pure x
  T : ∀ {X : Cx} {S : Sc} {W : WX} {e : Expr} {c : CT}, Ok X S W → Calls X S O → cT S n e = some c → ∀ ρ b, evT O c ρ = some b → ET X.K (tB' X e) ρ b
  TB : ∀ {X : Cx} {S : Sc} {W : WX} {op : BoolOp} {vs : List Expr} {c : CT} {pos : Pos}, Ok X S W → Calls X S O → cTB S n op vs = some c → ∀ ρ b, evT O c ρ = some b → ∃ t, PW X (.BoolOp op vs pos) t ∧ ET X.K t ρ b
  Ts : ∀ {X : Cx} {S : Sc} {W : WX} {es : List Expr} {c : CT}, Ok X S W → Calls X S O → cTs S n es = some c → ∀ ρ b, evT O c ρ = some b → ET X.K (tsB X es) ρ b
  D : ∀ {X : Cx} {S : Sc} {W : WX} {a : Expr} {ops : List CmpOp} {cs : List Expr} {pos : Pos} {c : CE}, Ok X S W → Calls X S O → cE S n (.Compare a ops cs pos) = some c → ∀ ρ m d b, evE O c ρ = some (.v m d) → truthD d = some b → ET X.K (tB' X (.Compare a ops cs pos)) ρ b

section
variable {X : Cx} {S : Sc} {W : WX} {O : Orc} {n : Nat} {ρ : List Sl} {r : Rv}
/-- a source's results -/
theorem src_ok {e : Expr} {tg : Expr} {m : Md} {d : D} {st : Bool} {its : List Item} (h : EE X.K (eB X e) ρ m d) (hs : srcD m d = some (.v st its)) : Src X.K (iB X tg e) ρ st its := by
  unfold srcD at hs
  split at hs
  · cases hs; exact src_B (pi_list pe_B) (src_s h)
  · split at hs
    · rename_i hm; subst hm; cases hs
      exact src_B (pi_list pe_B) (src_l (by decide) h.fz)
    · rename_i hm; cases hs
      exact src_B (pi_list pe_B) (src_l hm h)
  · split at hs
    · cases hs
    · rename_i hm; cases hs
      exact src_B (pi_tup pe_B) (src_t hm h)
  · cases hs
theorem truth_ok {e : Expr} {m : Md} {d : D} {b : Bool} (hp : ∀ whole, isTrue e X.env whole = (do let v ← whole; standAt e.pos; holding [v] (truthy v))) (h : EE X.K (eB X e) ρ m d) (ht : truthD d = some b) : ET X.K (tB' X e) ρ b := by
  unfold truthD at ht
  split at ht
  · cases ht; exact et_B (pt_val pe_B hp) (t_val h)
  · cases ht; exact et_B (pt_truth pe_B hp) (t_lst h)
  · cases ht
/-- a comparison: its reading -/
theorem cmp_ok (s : Sound O n) (k : Ok X S W) (cl : Calls X S O) {a b : Expr} {op : CmpOp} {o : CO} {ca cb : CE} {m1 m2 : Md} {d1 d2 : D} {v : Bool} (ho : cCO op = some o) (ha : cE S n a = some ca) (hb : cE S n b = some cb)
    (h1 : evE O ca ρ = some (.v m1 d1)) (h2 : evE O cb ρ = some (.v m2 d2)) (h : cmpD o d1 d2 = some v) : ∃ rr, OpR X (compareOp op) rr ∧ EE X.K (tOp rr (eB X a) (eB X b)) ρ .f (.bl v) := by
  obtain ⟨rr, p, q⟩ := cmpD_ok k ho h
  exact ⟨rr, p, e_op (s.E k cl ha ρ _ h1) (s.E k cl hb ρ _ h2) q⟩
theorem lmark {m : Nat} {op op' : CmpOp} {b c : Expr} {cc : CE} (h : cE S m c = some cc) : lastMarks [op, op'] [b, c] = false := by
  show lastMarks [op'] [c] = false
  exact cmp_mark h op'
theorem cmpI_rI {o : CO} {op : CmpOp} (ho : cCO op = some o) {i j : Int} {x : Bool} (h : cmpI o i j = some x) (hn : ¬ (o = .eq ∨ o = .ne)) : ∃ g : Int → Int → Bool, OpR X (compareOp op) (rI0 fun i j => .bl (g i j)) ∧ ∀ i j x, cmpI o i j = some x → x = g i j := by
  have hop := cCO_is ho
  cases o <;> simp only [cmpI] at h <;> first | (cases h; done) | skip
  · subst hop; exact ⟨fun i j => decide (i < j), op_lt, fun i j x h => by cases h; rfl⟩
  · subst hop; exact ⟨fun i j => decide (i ≤ j), op_le, fun i j x h => by cases h; rfl⟩
  · subst hop; exact ⟨fun i j => decide (j < i), op_gt, fun i j x h => by cases h; rfl⟩
  · subst hop; exact ⟨fun i j => decide (j ≤ i), op_ge, fun i j x h => by cases h; rfl⟩
  · exact absurd (.inl rfl) hn
  · exact absurd (.inr rfl) hn
theorem chain_ok (s : Sound O n) (k : Ok X S W) (cl : Calls X S O) {a b c : Expr} {op op' : CmpOp} {o o' : CO} {ca cb cc : CE} {m1 m2 m3 : Md} {i j l : Int} {x y : Bool} (ho : cCO op = some o) (ho' : cCO op' = some o') (ha : cE S n a = some ca) (hb : cE S n b = some cb) (hc : cE S n c = some cc)
    (h1 : evE O ca ρ = some (.v m1 (.int i))) (h2 : evE O cb ρ = some (.v m2 (.int j))) (h3 : evE O cc ρ = some (.v m3 (.int l))) (hx : cmpI o i j = some x) (hy : cmpI o' j l = some y) (hn : ¬ (o = .eq ∨ o = .ne ∨ o' = .eq ∨ o' = .ne)) :
    ∃ rr rr', OpR X (compareOp op) rr ∧ OpR X (compareOp op') rr' ∧ EE X.K (tChain rr rr' (eB X a) (eB X b) (eB X c)) ρ .f (.bl (x && y)) := by
  obtain ⟨g, p, q⟩ := cmpI_rI (X := X) ho hx (fun z => hn (z.elim .inl fun z => .inr (.inl z)))
  obtain ⟨g', p', q'⟩ := cmpI_rI (X := X) ho' hy (fun z => hn (.inr (.inr z)))
  refine ⟨_, _, p, p', ?_⟩
  rw [q _ _ _ hx, q' _ _ _ hy]
  exact e_chain (s.E k cl ha ρ _ h1) (s.E k cl hb ρ _ h2) (s.E k cl hc ρ _ h3)
end
theorem blk_vs {N : List Str} {p : Pat} : (p.vars.map fun i => (N.getD i "", i)).map (·.2) = p.vars := by
  rw [List.map_map]
  exact List.map_id' _
theorem blk_vs2 {N : List Str} {vs : List Nat} : (vs.map fun i => (N.getD i "", i)).map (·.2) = vs := by
  rw [List.map_map]
  exact List.map_id' _
/-! the inside of a comprehension, whatever its block -/
section
variable (X : Cx) (scope : Scope)
abbrev bx (s : Shared) (H : Hp) (C : Addr) (cl : List (Str × Addr)) (fp : List Addr) : Cx := X.blk s H scope (compEnvC scope cl C X.env) fp
def bE (e : Expr) : TE := fun σ H Q => ∀ s H' C cl fp, eB (bx X scope s H' C cl fp) e σ H Q
def bT (es : List Expr) : TT := fun σ H Q => ∀ s H' C cl fp, tsB (bx X scope s H' C cl fp) es σ H Q
def bI (tg e : Expr) : TI := fun σ H R => ∀ s H' C cl fp, iB (bx X scope s H' C cl fp) tg e σ H R
end
section
variable {X : Cx} {S : Sc} {W : WX} {O : Orc} {n : Nat} {ρ : List Sl} {scope : Scope}
theorem pe_bE {e : Expr} (s : Shared) (H' : Hp) (C : Addr) (cl : List (Str × Addr)) (fp : List Addr) : PE (bx X scope s H' C cl fp) e (bE X scope e) := ⟨fun pins st σ H Q I h => pe_B.run pins st σ H Q I (h s H' C cl fp)⟩
theorem pts_bT {es : List Expr} (s : Shared) (H' : Hp) (C : Addr) (cl : List (Str × Addr)) (fp : List Addr) : PTs (bx X scope s H' C cl fp) es (bT X scope es) := ⟨fun pins st σ H Q I h => pts_B.run pins st σ H Q I (h s H' C cl fp)⟩
theorem pi_bI {tg e : Expr} (s : Shared) (H' : Hp) (C : Addr) (cl : List (Str × Addr)) (fp : List Addr) : PI (bx X scope s H' C cl fp) tg e (bI X scope tg e) := ⟨fun pins st σ H R I h => pi_B.run pins st σ H R I (h s H' C cl fp)⟩
theorem ee_bE {e : Expr} {m : Md} {d : D} (h : ∀ s H' C cl fp, EE X.K (eB (bx X scope s H' C cl fp) e) ρ m d) : EE X.K (bE X scope e) ρ m d := fun B F H σ ev Q q s H' C cl fp => h s H' C cl fp B F H σ ev Q q
theorem et_bT {es : List Expr} {b : Bool} (h : ∀ s H' C cl fp, ET X.K (tsB (bx X scope s H' C cl fp) es) ρ b) : ET X.K (bT X scope es) ρ b := fun B F H σ ev Q q s H' C cl fp => h s H' C cl fp B F H σ ev Q q
theorem src_bI {tg e : Expr} {st : Bool} {its : List Item} (h : ∀ s H' C cl fp, Src X.K (iB (bx X scope s H' C cl fp) tg e) ρ st its) : Src X.K (bI X scope tg e) ρ st its := fun B F H σ ev R q s H' C cl fp => h s H' C cl fp B F H σ ev R q
/-- the clause's results -/
theorem lcGo_ok (so : Sound O n) (k : Ok X S W) (cl : Calls X S O) {ifs : List Expr} {elt : Expr} {t : CT} {e : CE} {pt : Pat} {ρ0 : List Sl} (ht : cTs (S.blk scope) n ifs = some t) (he : cE (S.blk scope) n elt = some e) (fz : Bool) :
    ∀ {its : List Item} {r : List (Md × D)}, lcGo (fun it => (bindP pt ρ0 it).bind fun ρ1 => (evT O t ρ1).bind fun c => if c = true then (match evE O e ρ1 with | some (.v m d) => some [(m, d)] | _ => none) else some []) its = some r →
      (∀ x ∈ r, okm fz x.1 x.2 = true) → LcR X.K pt ρ0 (bT X scope ifs) (bE X scope elt) fz its (r.map (·.2))
  | [], r, h, _ => by
    simp only [lcGo, Option.some.injEq] at h
    subst h; exact .nil
  | it :: its, r, h, hr => by
    simp only [lcGo, Option.bind_eq_some_iff, Option.map_eq_some_iff] at h
    obtain ⟨y, ⟨ρ1, h1, c, h2, h3⟩, ys, h4, rfl⟩ := h
    have ih := lcGo_ok so k cl ht he fz h4 fun x hx => hr x (List.mem_append_right _ hx)
    have tst : ET X.K (bT X scope ifs) ρ1 c := et_bT fun s H' C cl' fp => so.Ts (k.blk s H' scope C cl' fp) (cl.blk s H' scope _ fp) ht ρ1 c h2
    cases c with
    | true =>
      rw [if_pos rfl] at h3
      split at h3
      · rename_i m d h5
        cases h3
        exact .yes h1 tst (ee_bE fun s H' C cl' fp => so.E (k.blk s H' scope C cl' fp) (cl.blk s H' scope _ fp) he ρ1 _ h5) (hr (m, d) (by simp)) ih
      · cases h3
    | false =>
      rw [if_neg Bool.false_ne_true] at h3
      cases h3
      exact .no h1 tst ih
theorem lcGo2_ok (so : Sound O n) (k : Ok X S W) (cl : Calls X S O) {ifs ifs1 : List Expr} {elt iter1 tg1 : Expr} {t t1 : CT} {e : CE} {pt pt1 : Pat} {src1 : CSrc} {vs1 : List Nat} {ρ0 : List Sl} (ht : cTs (S.blk scope) n ifs = some t) (hs : cSrc (S.blk scope) n (isTup tg1) iter1 = some src1) (ht1 : cTs (S.blk scope) n ifs1 = some t1) (he : cE (S.blk scope) n elt = some e) (fz : Bool) :
    ∀ {its : List Item} {r : List (Md × D)}, lcGo (fun it => (bindP pt ρ0 it).bind fun ρ1 => (evT O t ρ1).bind fun c => if c = true then
        ((evSrc O src1 ρ1).bind fun r1 => match r1 with
          | .v true its1 => lcGo (fun it1 => (bindP pt1 (wipeR ρ1 vs1) it1).bind fun ρ2 => (evT O t1 ρ2).bind fun c1 => if c1 = true then (match evE O e ρ2 with | some (.v m d) => some [(m, d)] | _ => none) else some []) its1
          | _ => none) else some []) its = some r →
      (∀ x ∈ r, okm fz x.1 x.2 = true) → LcR2 X.K pt ρ0 (bT X scope ifs) (bI X scope tg1 iter1) pt1 vs1 (bT X scope ifs1) (bE X scope elt) fz its (r.map (·.2))
  | [], r, h, _ => by
    simp only [lcGo, Option.some.injEq] at h
    subst h; exact .nil
  | it :: its, r, h, hr => by
    simp only [lcGo, Option.bind_eq_some_iff, Option.map_eq_some_iff] at h
    obtain ⟨y, ⟨ρ1, h1, c, h2, h3⟩, ys, h4, rfl⟩ := h
    have ih := lcGo2_ok (tg1 := tg1) so k cl ht hs ht1 he fz h4 fun x hx => hr x (List.mem_append_right _ hx)
    have tst : ET X.K (bT X scope ifs) ρ1 c := et_bT fun s H' C cl' fp => so.Ts (k.blk s H' scope C cl' fp) (cl.blk s H' scope _ fp) ht ρ1 c h2
    cases c with
    | true =>
      rw [if_pos rfl] at h3
      simp only [Option.bind_eq_some_iff] at h3
      obtain ⟨r1, h5, h6⟩ := h3
      split at h6
      · rename_i its1
        rw [List.map_append]
        exact .yes h1 tst (src_bI fun s H' C cl' fp => (so.C (k.blk s H' scope C cl' fp) (cl.blk s H' scope _ fp) hs).1 tg1 (fun z => z) ρ1 _ _ h5) (lcGo_ok so k cl ht1 he fz h6 fun x hx => hr x (List.mem_append_left _ hx)) ih
      · cases h6
    | false =>
      rw [if_neg Bool.false_ne_true] at h3
      cases h3
      exact .no h1 tst ih
theorem allCf_all : ∀ {ms : List (Md × D)}, allCf ms = true → ∀ x ∈ ms, cf x.1 x.2 = true
  | [], _, x, h => by cases h
  | y :: ms, h, x, hx => by
    simp only [allCf, Bool.and_eq_true] at h
    rcases List.mem_cons.mp hx with rfl | hx
    · exact h.1
    · exact allCf_all h.2 x hx
/-- a comprehension -/
theorem lc_ok (so : Sound O n) (k : Ok X S W) (cl : Calls X S O) {tg iter elt : Expr} {ifs : List Expr} {pt : Pat} {src : CSrc} {t : CT} {e : CE} (hp : cP (S.blk scope) n tg = some pt) (hc : cSrc S n (isTup tg) iter = some src) (ht : cTs (S.blk scope) n ifs = some t) (he : cE (S.blk scope) n elt = some e)
    {r : Rv} (h : evE O (.lc pt src t e pt.vars) ρ = some r) : ∃ m d, r = .v m d ∧ EE X.K (tLc (iB X tg iter) (gOf X.K pt) (bT X scope ifs) (bE X scope elt) pt.vars) ρ m d := by
  simp only [evE, Option.bind_eq_some_iff] at h
  obtain ⟨⟨st, its⟩, h1, r0, h2, h3⟩ := h
  have src := (so.C k cl hc).1 tg (fun z => z) ρ st its h1
  unfold lcD at h3
  split at h3
  · rename_i hl
    split at h3
    · rename_i ca
      cases h3
      exact ⟨_, _, rfl, e_lc (fz := true) src (gp_of _ _) (fun i hi => hi) (lcGo_ok so k cl ht he true h2 fun x hx => by unfold okm; rw [allCf_all ca x hx]; rfl) (by rw [List.length_map]; exact hl)⟩
    · split at h3
      · rename_i ca
        cases h3
        exact ⟨_, _, rfl, e_lc (fz := false) src (gp_of _ _) (fun i hi => hi) (lcGo_ok so k cl ht he false h2 fun x hx => List.all_eq_true.mp ca x hx) (by rw [List.length_map]; exact hl)⟩
      · cases h3
  · cases h3
theorem lc2_ok (so : Sound O n) (k : Ok X S W) (cl : Calls X S O) {tg iter elt tg1 iter1 : Expr} {ifs ifs1 : List Expr} {pt pt1 : Pat} {src src1 : CSrc} {t t1 : CT} {e : CE} (hp : cP (S.blk scope) n tg = some pt) (hc : cSrc S n (isTup tg) iter = some src) (ht : cTs (S.blk scope) n ifs = some t)
    (hp1 : cP (S.blk scope) n tg1 = some pt1) (hs : cSrc (S.blk scope) n (isTup tg1) iter1 = some src1) (ht1 : cTs (S.blk scope) n ifs1 = some t1) (he : cE (S.blk scope) n elt = some e)
    {r : Rv} (h : evE O (.lc2 pt src t pt1 src1 t1 pt1.vars e (pt.vars ++ pt1.vars)) ρ = some r) : ∃ m d, r = .v m d ∧ EE X.K (tLc2 (iB X tg iter) (gOf X.K pt) (bT X scope ifs) (bI X scope tg1 iter1) (gOf X.K pt1) (bT X scope ifs1) (bE X scope elt) (pt.vars ++ pt1.vars) pt1.vars) ρ m d := by
  simp only [evE, Option.bind_eq_some_iff] at h
  obtain ⟨⟨st, its⟩, h1, r0, h2, h3⟩ := h
  have src := (so.C k cl hc).1 tg (fun z => z) ρ st its h1
  unfold lcD at h3
  split at h3
  · rename_i hl
    split at h3
    · rename_i ca
      cases h3
      exact ⟨_, _, rfl, e_lc2 (fz := true) src (gp_of _ _) (gp_of _ _) (fun i hi => List.mem_append_left _ hi) (fun i hi => hi) (lcGo2_ok so k cl ht hs ht1 he true h2 fun x hx => by unfold okm; rw [allCf_all ca x hx]; rfl) (by rw [List.length_map]; exact hl)⟩
    · split at h3
      · rename_i ca
        cases h3
        exact ⟨_, _, rfl, e_lc2 (fz := false) src (gp_of _ _) (gp_of _ _) (fun i hi => List.mem_append_left _ hi) (fun i hi => hi) (lcGo2_ok so k cl ht hs ht1 he false h2 fun x hx => List.all_eq_true.mp ca x hx) (by rw [List.length_map]; exact hl)⟩
      · cases h3
  · cases h3
end
end QL

end
section
set_option maxRecDepth 100000
set_option maxHeartbeats 4000000
namespace QL
open PySem PySem.Spec PyProof.Rows L2 Evl
section
variable {X : Cx} {S : Sc} {W : WX} {O : Orc} {n : Nat} {ρ : List Sl} {r : Rv}
theorem zero_sound (O : Orc) : Sound O 0 := by
  refine ⟨?_, ?_, ?_, ?_, ?_, ?_, ?_, ?_⟩
  · intro X S W e c _ _ h; simp [cE] at h
  · intro X S W op vs c pos _ _ h; simp [cB] at h
  · intro X S W es cs k cl h ρ
    cases es with
    | nil =>
      simp only [cEs, Option.some.injEq] at h; subst h
      exact ⟨fun ms h => by simp only [evEs, Option.some.injEq, Ra.v.injEq] at h; subst h; exact ⟨ea_B pa_nil ea_nil, fun _ => ef_B pa_nil ef_nil⟩, fun x h => by simp [evEs] at h⟩
    | cons e es => simp [cEs] at h
  · intro X S W tt e c _ _ h; simp [cSrc] at h
  · intro X S W e c _ _ h; simp [cT] at h
  · intro X S W op vs c pos _ _ h; simp [cTB] at h
  · intro X S W es c _ _ h ρ b hb
    cases es with
    | nil =>
      simp only [cTs, Option.some.injEq] at h; subst h
      simp only [evT, Option.some.injEq] at hb; subst hb
      exact ets_B pts_nil t_yes
    | cons e es => simp [cTs] at h
  · intro X S W a ops cs pos c _ _ h; simp [cE] at h
/-- arguments -/
theorem args_sound (s : Sound O n) {es : List Expr} {cs : CEs} (k : Ok X S W) (cl : Calls X S O) (h : cEs S (n + 1) es = some cs) (ρ : List Sl) : (∀ ms, evEs O cs ρ = some (.v ms) → EA X.K (aB X es) ρ (ms.map (·.2)) ∧ (allCf ms = true → EF X.K (aB X es) ρ (ms.map (·.2)))) ∧ (∀ x, evEs O cs ρ = some (.x x) → XA X.K (aB X es) ρ W x) := by
  cases es with
  | nil =>
    simp only [cEs, Option.some.injEq] at h; subst h
    exact ⟨fun ms h => by simp only [evEs, Option.some.injEq, Ra.v.injEq] at h; subst h; exact ⟨ea_B pa_nil ea_nil, fun _ => ef_B pa_nil ef_nil⟩, fun x h => by simp [evEs] at h⟩
  | cons e es =>
    simp only [cEs] at h
    split at h
    · rename_i c cs' h1 h2
      cases h
      have ih := s.A k cl h2 ρ
      have pa : PA X (e :: es) (tCons (eB X e) (aB X es)) := pa_cons pe_B pa_B (star1 h1 es X.env)
      refine ⟨fun ms hm => ?_, fun x hm => ?_⟩
      · simp only [evEs] at hm
        split at hm
        · rename_i m d he
          have hE := s.E k cl h1 ρ _ he
          simp only [Option.bind_eq_some_iff] at hm
          obtain ⟨ra, h3, h4⟩ := hm
          split at h4
          · rename_i ms'
            simp only [Option.some.injEq, Ra.v.injEq] at h4; subst h4
            obtain ⟨i1, i2⟩ := ih.1 ms' h3
            refine ⟨ea_B pa (ea_cons hE i1), fun hc => ?_⟩
            simp only [allCf, Bool.and_eq_true] at hc
            exact ef_B pa (ef_cons hc.1 hE (i2 hc.2))
          · simp at h4
        · simp at hm
        · simp at hm
      · simp only [evEs] at hm
        split at hm
        · rename_i m d he
          have hE := s.E k cl h1 ρ _ he
          simp only [Option.bind_eq_some_iff] at hm
          obtain ⟨ra, h3, h4⟩ := hm
          split at h4
          · simp at h4
          · rename_i x'
            simp only [Option.some.injEq, Ra.x.injEq] at h4; subst h4
            exact xa_B pa (xa_next hE (ih.2 x' h3))
        · rename_i x' he
          simp only [Option.some.injEq, Ra.x.injEq] at hm; subst hm
          exact xa_B pa (xa_here (s.E k cl h1 ρ _ he))
        · simp at hm
    · cases h
theorem varD_ok {K : PySem.W.Frag} {i : Nat} {m : Md} {d : D} (hr : varD ρ i = some (.v m d)) : EE K (tVar i) ρ m d := by
  unfold varD at hr
  split at hr
  · rename_i d hs; cases hr; exact e_var hs
  · rename_i d hs; cases hr; exact EE.nrm (m := .b) (e_var hs)
  · rename_i d hs; cases hr; exact e_var hs
  · rename_i d hs; cases hr; exact e_var hs
  · rename_i d hs; cases hr; exact e_var hs
  · cases hr
theorem xx_makeA {K : PySem.W.Frag} {ta : TA} {x : Er} {C : Addr} {sp : Sp} {E : L2.St → XK} (h : XA K ta ρ W x) : XX K (tMakeS C sp E ta) ρ W x := fun B F H σ e w Q => h B F H σ e w _
theorem fld_sound {m : Md} {d : D} {C : Addr} {ns : List Str} {ds : List D} {f : Str} {r : Rv} (h : fldD O C ns ds f = some r) : O.fok C f = true ∧ ∃ d, (ns.zip ds).lookup f = some d ∧ r = .v .f d := by
  unfold fldD at h
  split at h
  · rename_i hf
    simp only [Option.map_eq_some_iff] at h
    obtain ⟨d, h1, rfl⟩ := h
    exact ⟨hf, d, h1, rfl⟩
  · cases h
/-- an attribute -/
theorem att_sound (s : Sound O n) {x f : Str} {i : Nat} {p pos : Pos} (k : Ok X S W) (cl : Calls X S O) (hx : S.slot x = some i) {r : Rv} (hr : evE O (.fld (.var i) f) ρ = some r) : RvOk X.K W (eB X (.Attribute (.Name x p) f pos)) ρ r := by
  obtain ⟨_, _, _, _, _, hf⟩ := cl.ex
  obtain ⟨a1, a2, a3, a4⟩ := k.var hx
  have pe : PE X (.Attribute (.Name x p) f pos) (tFld X.K (tVar i) f) := pe_fld (pe_var a1 a2 a3 a4) rfl
  unfold evE at hr
  split at hr
  · rename_i C ns ds hs
    unfold selfAt at hs
    dsimp only at hs
    split at hs
    · rename_i a dx C' ns' ds' h0
      cases hs
      obtain ⟨h1, d, h2, rfl⟩ := fld_sound (m := .f) (d := .non) hr
      obtain ⟨c, n⟩ := hf _ _ h1
      exact ee_B pe (e_fldS h0 c n h2)
    · cases hs
  · simp only [evE] at hr
    cases hv : varD ρ i with
    | none => rw [hv] at hr; cases hr
    | some r0 =>
      rw [hv] at hr
      cases r0 with
      | x e => exact absurd hv (by unfold varD; split <;> simp)
      | v m d =>
        simp only [bv_v] at hr
        split at hr
        · obtain ⟨h1, d, h2, rfl⟩ := fld_sound (m := .f) (d := .non) hr
          obtain ⟨c, n⟩ := hf _ _ h1
          exact ee_B pe (e_fld (varD_ok hv) c n h2)
        · cases hr
theorem all_not {α : Type} : ∀ {l : List (Bool × α)}, l.any (·.1) = false → l.all (fun x => !x.1) = true
  | [], _ => rfl
  | (b, a) :: l, h => by
    simp only [List.any_cons, Bool.or_eq_false_iff] at h
    simp only [List.all_cons, Bool.and_eq_true]
    exact ⟨by rw [h.1]; rfl, all_not h.2⟩
theorem ht_of {x mn : Str} {es : List Expr} {p pa pos : Pos} {env : Env} (hline : (pa.endLine == pos.line) = true) (hpl : (backTo pos (starEach es env)).any (·.1) = false) (hlen : es.length < 30) :
    eval (.Call (.Attribute (.Name x p) mn pa) es [] pos) env = (do
      let ov ← eval (.Name x p) env
      standAt pa.atName
      let (f, first) ← holding [ov] (getMethod ov mn (do return (← importBound (.Name x p) env).getD true))
      callWith pos f first (backTo pos (starEach es env)) (backToKw pos (keywordEach [] env))) := by
  have hform : methodCallForm (es.length + ([] : List Keyword).length) (backTo pos (starEach es env)) (backToKw pos (keywordEach [] env)) = true := by
    unfold methodCallForm
    rw [all_not hpl]
    show (true && true && decide (es.length + 0 + 0 < 30)) = true
    simpa using hlen
  rw [arm_eval_Call]
  unfold methodCall methodCallPos
  rw [hform, hline]
  rfl
/-- a call of a method -/
theorem meth_sound (s : Sound O n) {x mn : Str} {i : Nat} {es : List Expr} {cs : CEs} {p pa pos : Pos} (k : Ok X S W) (cl : Calls X S O) (hx : S.slot x = some i) (hline : (pa.endLine == pos.line) = true) (hes : (∃ e es', es = e :: es' ∧ cEs S n es = some cs ∧ es.length < 30) ∨ es = [] ∧ cs = .nil) {r : Rv} (hr : evE O (.meth (.var i) mn cs) ρ = some r) : RvOk X.K W (eB X (.Call (.Attribute (.Name x p) mn pa) es [] pos)) ρ r := by
  obtain ⟨j, hr0, _, _, hm, _⟩ := cl.ex
  obtain ⟨a1, a2, a3, a4⟩ := k.var hx
  simp only [evE] at hr
  cases hv : varD ρ i with
  | none => rw [hv] at hr; cases hr
  | some r0 =>
    rw [hv] at hr
    cases r0 with
    | x e => exact absurd hv (by unfold varD; split <;> simp)
    | v m d =>
      simp only [bv_v] at hr
      split at hr
      · rename_i C ns ds
        split at hr
        · cases hr
        · rename_i hc
          simp only [not_or] at hc
          obtain ⟨h1, h2⟩ := hc
          have h1 : O.mok C mn = true := by simpa using h1
          obtain ⟨ps, f, fd, c, hM, F, hb⟩ := hm C mn h1
          have hv := varD_ok (K := X.K) hv
          rcases hes with ⟨e, es', rfl, he, hlen⟩ | ⟨rfl, rfl⟩
          · have hs : starEach (e :: es') X.env = (false, eval e X.env) :: starEach es' X.env := by
              cases n with
              | zero => simp [cEs] at he
              | succ n =>
                simp only [cEs] at he
                split at he
                · rename_i c cs' h1 h2; exact star1 h1 es' X.env
                · cases he
            have hpl : (backTo pos (starEach es' X.env)).any (·.1) = false := by
              cases n with
              | zero => simp [cEs] at he
              | succ n =>
                simp only [cEs] at he
                split at he
                · rename_i c cs' h1 h2; exact starAll h2 pos X.env
                · cases he
            have pe := pe_methX (pos := pos) (apos := pa) (E := WE W) (pe_var a1 a2 a3 a4 : PE X (.Name x p) _) c hM F hr0 hb (fun σ => passAt k.tk σ) (pa_B (X := X) (es := e :: es')) hs hpl (ht_of hline (by rw [hs]; exact hpl) hlen)
            obtain ⟨b1, b2⟩ := s.A k cl he ρ
            simp only [Option.bind_eq_some_iff] at hr
            obtain ⟨ra, h3, h4⟩ := hr
            split at h4
            · rename_i ms
              split at h4
              · rename_i m' d' ho
                split at h4
                · rename_i hm'
                  simp only [Option.some.injEq] at h4; subst h4
                  exact ee_B pe (e_methE hv h2 (b1 ms h3).1 ho hm')
                · cases h4
              · rename_i x' ho
                simp only [Option.some.injEq] at h4; subst h4
                exact xx_B pe (xx_methE hv h2 (b1 ms h3).1 ho)
              · cases h4
            · rename_i x'
              simp only [Option.some.injEq] at h4; subst h4
              exact xx_B pe (xx_methA hv h2 (b2 x' h3))
          · have pe := pe_methX0 (pos := pos) (apos := pa) (E := WE W) (pe_var a1 a2 a3 a4 : PE X (.Name x p) _) c hM F hr0 hb (fun σ => passAt k.tk σ) (ht_of hline rfl (by decide))
            simp only [evEs, Option.bind_some, List.map_nil] at hr
            split at hr
            · rename_i m' d' ho
              split at hr
              · rename_i hm'
                simp only [Option.some.injEq] at hr; subst hr
                exact ee_B pe (e_methE hv h2 ea_nil ho hm')
              · cases hr
            · rename_i x' ho
              simp only [Option.some.injEq] at hr; subst hr
              exact xx_B pe (xx_methE hv h2 ea_nil ho)
            · cases hr
      · cases hr
/-- a call of a def -/
theorem call_sound (s : Sound O n) {f : Str} {e : Expr} {es : List Expr} {cs : CEs} {p pos : Pos} (k : Ok X S W) (cl : Calls X S O) (hl : S.gl f = true) (hd : f ∈ S.defs) (hdb : (f == ("__debug__" : Str)) = false) (h : cEs S n (e :: es) = some cs) {r : Rv} (hr : evE O (.call f cs) ρ = some r) : RvOk X.K W (eB X (.Call (.Name f p) (e :: es) [] pos)) ρ r := by
  obtain ⟨i, hr0, hh, _⟩ := cl.ex
  have hs : starEach (e :: es) X.env = (false, eval e X.env) :: starEach es X.env := by
    cases n with
    | zero => simp [cEs] at h
    | succ n =>
      simp only [cEs] at h
      split at h
      · rename_i c cs' h1 h2; exact star1 h1 es X.env
      · cases h
  have hpl : (backTo pos (starEach es X.env)).any (·.1) = false := by
    cases n with
    | zero => simp [cEs] at h
    | succ n =>
      simp only [cEs] at h
      split at h
      · rename_i c cs' h1 h2; exact starAll h2 pos X.env
      · cases h
  obtain ⟨a1, a2⟩ := s.A k cl h ρ
  simp only [evE, Option.bind_eq_some_iff] at hr
  obtain ⟨ra, h1, h2⟩ := hr
  rcases hh f hd with ⟨ps, hx⟩ | ⟨j, C, ps, hj, hx, hC⟩
  rotate_left
  · have pe := pe_makeX (p := p) (pos := pos) hx hr0 hj k.tk (k.gl hl) (pa_B (X := X) (es := e :: es)) hdb hs hpl
    split at h2
    · rename_i ms
      split at h2
      · rename_i m d ho
        split at h2
        · simp only [Option.some.injEq] at h2; subst h2
          obtain ⟨rfl, ns, es, rfl⟩ := hC _ _ _ ho
          exact ee_B pe (e_make (a1 ms h1).1 ho)
        · cases h2
      · rename_i x ho
        simp only [Option.some.injEq] at h2; subst h2
        exact xx_B pe (x_make (a1 ms h1).1 ho)
      · cases h2
    · rename_i x
      simp only [Option.some.injEq] at h2; subst h2
      exact xx_B pe (xx_makeA (a2 x h1))
  have pe := pe_callX (p := p) (pos := pos) hx k.gd hr0 (Nat.le_refl _) k.tk (k.gl hl) (pa_B (X := X) (es := e :: es)) hdb hs hpl
  split at h2
  · rename_i ms
    split at h2
    · rename_i m d ho
      split at h2
      · rename_i hm
        simp only [Option.some.injEq] at h2; subst h2
        exact ee_B pe (e_callE (a1 ms h1).1 ho hm)
      · cases h2
    · rename_i x ho
      simp only [Option.some.injEq] at h2; subst h2
      exact xx_B pe (xx_callE (a1 ms h1).1 ho)
    · cases h2
  · rename_i x
    simp only [Option.some.injEq] at h2; subst h2
    exact xx_B pe (xx_callA (a2 x h1))
theorem str_dec {z : String} {T : Str} (h : decide (Str.ofString z = T) = true) : Str.ofString z = T := of_decide_eq_true h
end
end QL

end
section
set_option maxRecDepth 100000
set_option maxHeartbeats 8000000
namespace QL
open PySem PySem.Spec PyProof.Rows L2 Evl
section
variable {X : Cx} {S : Sc} {W : WX} {O : Orc} {n : Nat} {ρ : List Sl} {r : Rv}
theorem var_sound (k : Ok X S W) {x : Str} {pos : Pos} {i : Nat} (h : S.slot x = some i) (hr : varD ρ i = some r) : RvOk X.K W (eB X (.Name x pos)) ρ r := by
  obtain ⟨a, b, c, d⟩ := k.var h
  have pe : PE X (.Name x pos) (tVar i) := pe_var a b c d
  unfold varD at hr
  split at hr
  · rename_i d hs; cases hr; exact ee_B pe (e_var hs)
  · rename_i d hs; cases hr; exact ee_nrm (m := .b) (ee_B pe (e_var hs))
  · rename_i d hs; cases hr; exact ee_B pe (e_var hs)
  · rename_i d hs; cases hr; exact ee_B pe (e_var hs)
  · rename_i d hs; cases hr; exact ee_B pe (e_var hs)
  · cases hr
theorem not_dbg (k : Ok X S W) {f : Str} (h : f ∈ S.defs) : (f == ("__debug__" : Str)) = false := by
  rw [beq_eq_false_iff_ne]
  intro z
  subst z
  exact k.dbg h
theorem b1_sound (s : Sound O n) (k : Ok X S W) (cl : Calls X S O) {f : Str} {a : Expr} {p pos : Pos} {g : B1} {ca : CE} (hrp : g = .repr → S.fl.rp = true) (hl : S.gl f = true) (hd : f ∉ S.defs) (hg : cB1 f = some g) (ha : cE S n a = some ca) (hr : evE O (.b1 g ca) ρ = some r) : RvOk X.K W (eB X (.Call (.Name f p) [a] [] pos)) ρ r := by
  simp only [evE] at hr
  have hs := star1 ha [] X.env
  exact ax1 (fun r h => s.E k cl ha ρ r h) (fun x hx => ax_b1X k hrp hg hl hd hs hx) (fun m d hm r hh => ax_b1 k hrp hg hl hd hs hm hh) hr
def mm (g : B2) (i j : Int) : Int := match g with | .max => max i j | .min => min i j | .gcd => ((Nat.gcd i.natAbs j.natAbs : Nat) : Int)
theorem b2_sound (s : Sound O n) (k : Ok X S W) (cl : Calls X S O) {f : Str} {a b : Expr} {p pos : Pos} {g : B2} {ca cb : CE} (hgc : g = .gcd → S.fl.gcd = true) (hl : S.gl f = true) (hd : f ∉ S.defs) (hg : cB2 f = some g) (ha : cE S n a = some ca) (hb : cE S n b = some cb) (hr : evE O (.b2 g ca cb) ρ = some r) : RvOk X.K W (eB X (.Call (.Name f p) [a, b] [] pos)) ρ r := by
  simp only [evE] at hr
  have hs := star1 ha [b] X.env
  have hs2 := star1 hb [] X.env
  have pa : PA X [a, b] (tCons (eB X a) (tCons (eB X b) tNil)) := pa_cons pe_B (pa_cons pe_B pa_nil hs2) hs
  have hpl : (backTo pos (starEach [b] X.env)).any (·.1) = false := by rw [hs2]; rfl
  obtain ⟨rr, pe, ho⟩ : ∃ rr, PE X (.Call (.Name f p) [a, b] [] pos) (tCB rr (tCons (eB X a) (tCons (eB X b) tNil))) ∧ ∀ i j : Int, OpA X.K rr [.int i, .int j] .f (.int (mm g i j)) := by
    unfold cB2 at hg
    split at hg
    · rename_i e; subst e; cases hg
      obtain ⟨g1, g2⟩ := k.bl hl hd (by decide)
      exact ⟨_, pe_callB (call_max2 k.calm) g1 g2 (by decide +kernel) pa (by decide) (by decide) hs hpl, fun i j => oa_max⟩
    split at hg
    · rename_i e; subst e; cases hg
      obtain ⟨g1, g2⟩ := k.bl hl hd (by decide)
      exact ⟨_, pe_callB (call_min2 k.calm) g1 g2 (by decide +kernel) pa (by decide) (by decide) hs hpl, fun i j => oa_min⟩
    split at hg
    · rename_i e; subst e; cases hg
      exact ⟨_, pe_callBfun cr_gcd (k.gl hl) (k.gc (hgc rfl)) pa (by decide) hs hpl, fun i j => oa_gcd⟩
    · cases hg
  refine ax2 (fun r h => s.E k cl ha ρ r h) (fun r h => s.E k cl hb ρ r h) (fun x hx => xx_B pe (xx_cb (xa_here hx))) (fun m d x h1 h2 => xx_B pe (xx_cb (xa_next h1 (xa_here h2)))) (fun m1 d1 m2 d2 h1 h2 r hh => ?_) hr
  unfold b2D at hh
  split at hh
  · rename_i i j
    have := fv_eq hh; subst this
    exact ee_B pe (e_cb (ea_cons h1 (ea_cons h2 ea_nil)) (ho i j))
  · cases hh
theorem tyB : ∀ z ∈ tyNames, bootBuiltins (Str.ofString z) = some (.type z) ∧ Str.ofString z ≠ "__name__" ∧ (Str.ofString z == ("__debug__" : Str)) = false ∧ Str.ofString z ∈ bNames := by decide +kernel
theorem isi_sound (s : Sound O n) (k : Ok X S W) (cl : Calls X S O) {a : Expr} {p pos pT : Pos} {T : Str} {z : String} {ca : CE} (hl : S.gl "isinstance" = true) (hd : ("isinstance" : Str) ∉ S.defs) (hT : S.gl T = true) (hdT : T ∉ S.defs) (hz : tyNames.find? (fun z => decide (Str.ofString z = T)) = some z) (ha : cE S n a = some ca) (hr : evE O (.isi ca z) ρ = some r) :
    RvOk X.K W (eB X (.Call (.Name "isinstance" p) [a, .Name T pT] [] pos)) ρ r := by
  simp only [evE] at hr
  have hzT : Str.ofString z = T := by simpa using List.find?_some hz
  subst hzT
  have hm : z ∈ tyNames := List.mem_of_find?_eq_some hz
  obtain ⟨t1, t2, t3, t4⟩ := tyB z hm
  obtain ⟨g1, g2⟩ := k.bl hl hd (by decide)
  obtain ⟨g3, g4⟩ := k.bl hT hdT t4
  have hs := star1 ha [.Name (Str.ofString z) pT] X.env
  have pb : PE X (.Name (Str.ofString z) pT) (tC (.ty z)) := pe_bltn (v := .ty z) g3 g4 t1 rfl t2 t3
  have pa : PA X [a, .Name (Str.ofString z) pT] (tCons (eB X a) (tCons (tC (.ty z)) tNil)) := pa_cons pe_B (pa_cons pb pa_nil) hs
  have pe : PE X (.Call (.Name "isinstance" p) [a, .Name (Str.ofString z) pT] [] pos) (tCB (rIsi X.K) (tCons (eB X a) (tCons (tC (.ty z)) tNil))) := pe_callB call_isi g1 g2 (by decide +kernel) pa (by decide) (by decide) hs rfl
  refine ax1 (fun r h => s.E k cl ha ρ r h) (fun x hx => xx_B pe (xx_cb (xa_here hx))) (fun m d h1 r hh => ?_) hr
  unfold isiD at hh
  split at hh
  · cases hh
  · rename_i ht
    simp only [Option.bind_eq_some_iff] at hh
    obtain ⟨b, h2, h3⟩ := hh
    have := fv_eq h3; subst this
    exact ee_B pe (e_isi h1 ht h2)
/-- list(range(b)) -/
theorem rngL_sound (s : Sound O n) (k : Ok X S W) (cl : Calls X S O) {a b : Expr} {p pos : Pos} {cb : CE} (hl : S.gl "list" = true) (hd : ("list" : Str) ∉ S.defs) (hb : isRng S a = some b) (hc : cE S n b = some cb) (hr : evE O (.b1 .listrange cb) ρ = some r) : RvOk X.K W (eB X (.Call (.Name "list" p) [a] [] pos)) ρ r := by
  unfold isRng at hb
  split at hb
  · rename_i g pg b' pa
    split at hb
    · rename_i h0
      obtain ⟨rfl, h1, h2⟩ := h0
      cases hb
      obtain ⟨g1, g2⟩ := k.bl hl hd (by decide)
      obtain ⟨g3, g4⟩ := k.bl h1 h2 (by decide)
      have pe : PE X (.Call (.Name "list" p) [.Call (.Name "range" pg) [b] [] pa] [] pos) (tLstRg (tRg1 (eB X b))) := pe_listRg k.calm g1 g2 (prg_1 g3 g4 pe_B (star1 hc [] X.env)) rfl
      simp only [evE] at hr
      refine ax1 (fun r h => s.E k cl hc ρ r h) (fun x hx => xx_B pe (fun B F H σ e w Q => hx B F H σ e w _)) (fun m d h1 r hh => ?_) hr
      simp only [b1D] at hh
      split at hh
      · rename_i nn
        split at hh
        · rename_i hz
          cases hh
          refine ee_B pe fun B F H σ e Q q => h1.h B F H σ e _ fun v F1 H1 g dv => ?_
          refine ⟨nn, DtM.int_inv dv, RgOk.of_le (by omega) (by omega) (by omega) (by omega), fun l hn => q _ F1 _ (g.trans (Grow.newO g.i hn)) ⟨l, rfl, fresh_back g.i hn, fresh_back g.h hn, .inl ⟨_, _, rfl, upd_same, ?_⟩⟩⟩
          have e1 : rgV 0 nn = ((List.range nn.toNat).map fun (i : Nat) => (i : Int)).map V.int := by
            unfold rgV
            rw [List.map_map, Int.sub_zero]
            apply List.map_congr_left
            intro i _
            simp
          have e2 : ((List.range nn.toNat).map fun (i : Nat) => D.int (i : Int)) = ((List.range nn.toNat).map fun (i : Nat) => (i : Int)).map D.int := by rw [List.map_map]; rfl
          rw [e1, e2]
          exact DtA.ints _
        · cases hh
      · cases hh
    · cases hb
  · cases hb
theorem part_any (lo : Option Expr) : ∃ t, PO X lo t := by
  cases lo with
  | none => exact ⟨_, po_none⟩
  | some e => exact ⟨_, po_some pe_B⟩
theorem part_sound (s : Sound O n) (k : Ok X S W) (cl : Calls X S O) {lo : Option Expr} {c : CE} {l : Option Int} (h : cPart (fun e => cE S n e) lo = some c) (hp : partD c (evE O c ρ) = some l) : ∃ t, PO X lo t ∧ EO X.K t ρ l := by
  unfold partD at hp
  cases lo with
  | none =>
    cases h
    rw [if_pos (show litNon CE.non = true from rfl)] at hp
    cases hp
    exact ⟨_, po_none, eo_none⟩
  | some e =>
    simp only [cPart, Option.bind_eq_some_iff] at h
    obtain ⟨c', h1, h2⟩ := h
    split at h2
    · cases h2
    · rename_i hn
      cases h2
      rw [if_neg hn] at hp
      split at hp
      · rename_i m i he
        cases hp
        exact ⟨_, po_some pe_B, eo_some (s.E k cl h1 ρ _ he)⟩
      · cases hp
theorem slc_sound (s : Sound O n) (k : Ok X S W) (cl : Calls X S O) {a : Expr} {lo hi : Option Expr} {ca cl' ch : CE} {p2 pos : Pos} (ha : cE S n a = some ca) (h1 : cPart (fun e => cE S n e) lo = some cl') (h2 : cPart (fun e => cE S n e) hi = some ch) (hr : evE O (.slc ca cl' ch) ρ = some r) : RvOk X.K W (eB X (.Subscript a (.Slice lo hi none p2) pos)) ρ r := by
  simp only [evE] at hr
  cases he : evE O ca ρ with
  | none => rw [he] at hr; cases hr
  | some r0 =>
    rw [he] at hr
    have q := s.E k cl ha ρ r0 he
    cases r0 with
    | x e =>
      simp only [bv_x, Option.some.injEq] at hr
      subst hr
      obtain ⟨t1, p1⟩ := part_any (X := X) lo
      obtain ⟨t2, p2⟩ := part_any (X := X) hi
      exact xx_B (pe_slice sl_list pe_B p1 p2) (xx_sl q)
    | v m d =>
      simp only [bv_v, Option.bind_eq_some_iff] at hr
      obtain ⟨l, h3, u, h4, h5⟩ := hr
      obtain ⟨t1, p1, e1⟩ := part_sound s k cl h1 h3
      obtain ⟨t2, p2, e2⟩ := part_sound s k cl h2 h4
      unfold slD at h5
      split at h5
      · split at h5
        · rename_i c
          cases h5
          exact ee_B (pe_slice sl_list pe_B p1 p2) (e_slL q c e1 e2)
        · cases h5
      · split at h5
        · rename_i c
          cases h5
          exact ee_B (pe_slice sl_tupA pe_B p1 p2) (e_slT q c e1 e2)
        · cases h5
      · cases h5
theorem step_E (s : Sound O n) (k : Ok X S W) (cl : Calls X S O) {e : Expr} {c : CE} (h : cE S (n + 1) e = some c) (hr : evE O c ρ = some r) : RvOk X.K W (eB X e) ρ r := by
  unfold cE at h
  split at h
  · cases h; simp only [evE] at hr; have := fv_eq hr; subst this; exact ee_B pe_int e_int
  · cases h; simp only [evE] at hr; have := fv_eq hr; subst this; exact ee_B pe_bl e_bl
  · cases h; simp only [evE] at hr; have := fv_eq hr; subst this; exact ee_B pe_str e_str
  · cases h; simp only [evE] at hr; have := fv_eq hr; subst this; exact ee_B pe_non e_non
  · simp only [Option.map_eq_some_iff] at h
    obtain ⟨i, h1, rfl⟩ := h
    simp only [evE] at hr
    exact var_sound k h1 hr
  · -- BinOp
    split at h
    · rename_i o ca cb ho ha hb
      cases h
      simp only [evE] at hr
      obtain ⟨rr, hrr⟩ := bin_any (X := X) ho
      exact ax2 (fun r h => s.E k cl ha ρ r h) (fun r h => s.E k cl hb ρ r h) (fun x hx => xx_B (pe_op hrr pe_B pe_B) (xx_opL hx)) (fun m d x h1 h2 => xx_B (pe_op hrr pe_B pe_B) (xx_opR h1 h2)) (fun m1 d1 m2 d2 h1 h2 r hh => binD_ok ho h1 h2 hh) hr
    · cases h
  · -- neg
    simp only [Option.map_eq_some_iff] at h
    obtain ⟨ca, ha, rfl⟩ := h
    simp only [evE] at hr
    refine ax1 (fun r h => s.E k cl ha ρ r h) (fun x hx => xx_B (pe_un un_neg pe_B) (xx_un hx)) (fun m d h1 r hh => ?_) hr
    split at hh
    · have := fv_eq hh; subst this; exact ee_B (pe_un un_neg pe_B) (e_neg h1)
    · cases hh
  · -- not
    simp only [Option.map_eq_some_iff] at h
    obtain ⟨ca, ha, rfl⟩ := h
    simp only [evE] at hr
    refine ax1 (fun r h => s.E k cl ha ρ r h) (fun x hx => xx_B (pe_not pe_B) (fun B F H σ e w Q => hx B F H σ e w _)) (fun m d h1 r hh => ?_) hr
    split at hh
    · have := fv_eq hh; subst this; exact ee_B (pe_not pe_B) (e_not h1)
    · cases hh
  · exact s.B k cl h ρ r hr
  · -- Compare
    split at h
    · rename_i o ca cb ho ha hb
      cases h
      simp only [evE] at hr
      obtain ⟨rr, hrr⟩ := cmp_any k ho
      refine ax2 (fun r h => s.E k cl ha ρ r h) (fun r h => s.E k cl hb ρ r h) (fun x hx => xx_B (pe_cmpR hrr pe_B pe_B (cmp_mark hb _)) (xx_opL hx)) (fun m d x h1 h2 => xx_B (pe_cmpR hrr pe_B pe_B (cmp_mark hb _)) (xx_opR h1 h2)) (fun m1 d1 m2 d2 h1 h2 r hh => ?_) hr
      simp only [Option.bind_eq_some_iff] at hh
      obtain ⟨v, h3, h4⟩ := hh
      have := fv_eq h4; subst this
      obtain ⟨r2, p, q⟩ := cmpD_ok k ho h3
      exact ee_B (pe_cmpR p pe_B pe_B (cmp_mark hb _)) (e_op h1 h2 q)
    · cases h
  · -- chain
    split at h
    · rename_i o o' ca cb cc ho ho' ha hb hc
      cases h
      simp only [evE] at hr
      split at hr
      · rename_i m1 i m2 j m3 l h1 h2 h3
        simp only [Option.bind_eq_some_iff] at hr
        obtain ⟨x, hx, y, hy, h4⟩ := hr
        split at h4
        · cases h4
        · rename_i hn
          have := fv_eq h4; subst this
          obtain ⟨rr, rr', p, p', q⟩ := chain_ok s k cl ho ho' ha hb hc h1 h2 h3 hx hy hn
          exact ee_B (pe_chain p p' pe_B pe_B pe_B (lmark hc)) q
      · cases hr
    · cases h
  · -- ife
    split at h
    · rename_i ct ca cb ht ha hb
      cases h
      simp only [evE, Option.bind_eq_some_iff] at hr
      obtain ⟨c, h1, h2⟩ := hr
      have tst := s.T k cl ht ρ c h1
      cases c with
      | true =>
        rw [if_pos rfl] at h2
        have q := s.E k cl ha ρ _ h2
        cases r with
        | v m d => exact ee_B (pe_ifExp pt_B pe_B pe_B) (e_ifx tst (fun _ => q) (fun z => nomatch z))
        | x e => exact xx_B (pe_ifExp pt_B pe_B pe_B) (fun B F H σ ev w Q => tst B F H σ ev _ fun F1 H1 g1 => q B F1 H1 σ (ev.grow g1) (fun dx F' H' g er => w dx F' H' (g1.trans g) er) _)
      | false =>
        rw [if_neg Bool.false_ne_true] at h2
        have q := s.E k cl hb ρ _ h2
        cases r with
        | v m d => exact ee_B (pe_ifExp pt_B pe_B pe_B) (e_ifx tst (fun z => nomatch z) (fun _ => q))
        | x e => exact xx_B (pe_ifExp pt_B pe_B pe_B) (fun B F H σ ev w Q => tst B F H σ ev _ fun F1 H1 g1 => q B F1 H1 σ (ev.grow g1) (fun dx F' H' g er => w dx F' H' (g1.trans g) er) _)
    · cases h
  · -- slice
    split at h
    · rename_i ca c1 c2 ha h1 h2
      cases h
      exact slc_sound s k cl ha h1 h2 hr
    · cases h
  · -- subscript
    split at h
    · rename_i ca cb ha hb
      cases h
      simp only [evE] at hr
      have hp := plainIx hb
      refine ax2 (fun r h => s.E k cl ha ρ r h) (fun r h => s.E k cl hb ρ r h) (fun x hx => xx_B (pe_ix ix_list pe_B pe_B hp) (xx_opL hx)) (fun m d x h1 h2 => xx_B (pe_ix ix_list pe_B pe_B hp) (xx_opR h1 h2)) (fun m1 d1 m2 d2 h1 h2 r hh => ?_) hr
      split at hh
      · exact ixD_ok h1 h2 hp hh
      · exact dgD_ok k h1 h2 hp hh
      · cases hh
    · cases h
  · -- tuple
    simp only [Option.map_eq_some_iff] at h
    obtain ⟨cs, h1, rfl⟩ := h
    simp only [evE, Option.bind_eq_some_iff] at hr
    obtain ⟨ra, h2, h3⟩ := hr
    obtain ⟨a1, a2⟩ := s.A k cl h1 ρ
    split at h3
    · rename_i ms
      split at h3
      · rename_i hl
        obtain ⟨b1, b2⟩ := a1 ms h2
        split at h3
        · rename_i hc
          have := fv_eq h3; subst this
          exact ee_B (pe_tup pa_B) (e_tup (b2 hc) (by rw [List.length_map]; exact hl))
        · split at h3
          · rename_i hi
            cases h3
            exact ee_B (pe_tup pa_B) (e_tupH b1 (by rw [List.length_map]; exact hl) hi)
          · cases h3
      · cases h3
    · rename_i x
      cases h3
      exact xx_B (pe_tup pa_B) (xx_tup (a2 x h2))
  · -- list
    simp only [Option.map_eq_some_iff] at h
    obtain ⟨cs, h1, rfl⟩ := h
    simp only [evE, Option.bind_eq_some_iff] at hr
    obtain ⟨ra, h2, h3⟩ := hr
    obtain ⟨a1, a2⟩ := s.A k cl h1 ρ
    split at h3
    · rename_i ms
      split at h3
      · rename_i hl
        obtain ⟨b1, b2⟩ := a1 ms h2
        split at h3
        · rename_i hc
          cases h3
          exact ee_B (pe_lst pa_B) (e_lst (b2 hc) (by rw [List.length_map]; exact hl))
        · cases h3
          exact ee_B (pe_lst pa_B) (e_lstH b1 (by rw [List.length_map]; exact hl))
      · cases h3
    · rename_i x
      cases h3
      exact xx_B (pe_lst pa_B) (xx_lst (a2 x h2))
  · -- f(a)
    split at h
    · rename_i hl
      split at h
      · rename_i hd
        simp only [Option.map_eq_some_iff] at h
        obtain ⟨cs, h1, rfl⟩ := h
        exact call_sound s k cl hl hd (not_dbg k hd) h1 hr
      · rename_i hd
        split at h
        · rename_i hr2
          split at h
          · rename_i b hb
            simp only [Option.map_eq_some_iff] at h
            obtain ⟨cb, h1, rfl⟩ := h
            obtain ⟨rfl, _⟩ := hr2
            exact rngL_sound s k cl hl hd hb h1 hr
          · cases h
        split at h
        · rename_i g ca hg ha
          split at h
          · cases h
          · rename_i hc
            cases h
            exact b1_sound s k cl (fun z => by
              cases hb : S.fl.rp
              · exact absurd ⟨z, hb⟩ hc
              · rfl) hl hd hg ha hr
        · cases h
    · cases h
  · -- f(a, b)
    split at h
    · rename_i hl
      split at h
      · rename_i hd
        simp only [Option.map_eq_some_iff] at h
        obtain ⟨cs, h1, rfl⟩ := h
        exact call_sound s k cl hl hd (not_dbg k hd) h1 hr
      · rename_i hd
        split at h
        · rename_i hi
          subst hi
          split at h
          · split at h
            · rename_i hT
              split at h
              · rename_i z ca hz ha
                cases h
                exact isi_sound s k cl hl hd hT.1 hT.2 hz ha hr
              · cases h
            · cases h
          · cases h
        · split at h
          · rename_i g ca cb hg ha hb
            split at h
            · cases h
            · rename_i hc
              cases h
              exact b2_sound s k cl (fun z => by
                cases hb : S.fl.gcd
                · exact absurd ⟨z, hb⟩ hc
                · rfl) hl hd hg ha hb hr
          · cases h
    · cases h
  · -- f(a, b, ..)
    split at h
    · rename_i hl
      simp only [Option.map_eq_some_iff] at h
      obtain ⟨cs, h1, rfl⟩ := h
      exact call_sound s k cl hl.1 hl.2 (not_dbg k hl.2) h1 hr
    · cases h
  · -- a comprehension
    dsimp only at h
    split at h
    · rename_i pt src t ce hp hc ht he
      split at h
      · rename_i hb
        cases h
        obtain ⟨m, d, rfl, q⟩ := lc_ok s k cl hp hc ht he hr
        exact ee_B (pe_lc k.calm k.nd (pi_B (X := X)) (blkOk_by (by rw [k.N, k.sc]; exact hb)) (fun s H' C cl' fp => pg_of (k.blk s H' _ C cl' fp) hp) (fun s H' C cl' fp => pts_bT s H' C cl' fp) (fun s H' C cl' fp => pe_bE s H' C cl' fp) ((s.C k cl hc).2 X.env)) (by rw [blk_vs2]; exact q)
      · cases h
    · cases h
  · dsimp only at h
    split at h
    · rename_i pt src t pt1 src1 t1 ce hp hc ht hp1 hs1 ht1 he
      split at h
      · rename_i hb
        cases h
        obtain ⟨m, d, rfl, q⟩ := lc2_ok s k cl hp hc ht hp1 hs1 ht1 he hr
        exact ee_B (pe_lc2 (vs1 := pt1.vars) k.calm k.nd (pi_B (X := X)) (blkOk_by (by rw [k.N, k.sc]; exact hb)) (fun i hi => by rw [blk_vs2]; exact List.mem_append_right _ hi) (fun s H' C cl' fp => pg_of (k.blk s H' _ C cl' fp) hp) (fun s H' C cl' fp => pts_bT s H' C cl' fp) (fun s H' C cl' fp => pi_bI s H' C cl' fp) (fun s H' C cl' fp => pg_of (k.blk s H' _ C cl' fp) hp1) (fun s H' C cl' fp => pts_bT s H' C cl' fp) (fun s H' C cl' fp => pe_bE s H' C cl' fp) ((s.C k cl hc).2 X.env) (fun env x => (s.C (k.blk X.s_0 X.H_0 _ 0 [] []) (cl.blk X.s_0 X.H_0 _ _ []) hs1).2 env x)) (by rw [blk_vs2]; exact q)
      · cases h
    · cases h
  · -- {}
    cases h
    simp only [evE, Option.some.injEq] at hr
    subst hr
    exact ee_B pe_dnewT e_dnT
  · -- x.f
    simp only [Option.map_eq_some_iff] at h
    obtain ⟨i, h1, rfl⟩ := h
    exact att_sound s k cl h1 hr
  · -- x.m(a, ..)
    split at h
    · rename_i hl
      split at h
      · rename_i i cs h1 h2
        cases h
        exact meth_sound s k cl h1 hl.1 (.inl ⟨_, _, rfl, h2, hl.2⟩) hr
      · cases h
    · cases h
  · -- x.m()
    split at h
    · rename_i hl
      split at h
      · rename_i i h1
        cases h
        exact meth_sound s k cl h1 hl (.inr ⟨rfl, rfl⟩) hr
      · cases h
    · cases h
  · cases h
end
end QL

end
section
set_option maxRecDepth 100000
set_option maxHeartbeats 8000000
namespace QL
open PySem PySem.Spec PyProof.Rows L2 Evl
section
variable {X : Cx} {S : Sc} {W : WX} {O : Orc} {n : Nat} {ρ : List Sl} {r : Rv}
theorem xx_and {ta tb : TE} {x : Er} (h : XX X.K ta ρ W x) : XX X.K (tAndV ta tb) ρ W x := fun B F H σ e w Q => h B F H σ e w _
theorem xx_or {ta tb : TE} {x : Er} (h : XX X.K ta ρ W x) : XX X.K (tOrV ta tb) ρ W x := fun B F H σ e w Q => h B F H σ e w _
theorem xx_and2 {ta tb : TE} {x : Er} {m : Md} (h1 : EE X.K ta ρ m (.bl true)) (h : XX X.K tb ρ W x) : XX X.K (tAndV ta tb) ρ W x := fun B F H σ e w Q =>
  h1.h B F H σ e _ fun v F1 H1 g1 dv => ⟨true, DtM.bl_inv dv, h B F1 H1 σ (e.grow g1) (fun dx F' H' g er => w dx F' H' (g1.trans g) er) Q⟩
theorem xx_or2 {ta tb : TE} {x : Er} {m : Md} (h1 : EE X.K ta ρ m (.bl false)) (h : XX X.K tb ρ W x) : XX X.K (tOrV ta tb) ρ W x := fun B F H σ e w Q =>
  h1.h B F H σ e _ fun v F1 H1 g1 dv => ⟨false, DtM.bl_inv dv, h B F1 H1 σ (e.grow g1) (fun dx F' H' g er => w dx F' H' (g1.trans g) er) Q⟩
theorem step_B (s : Sound O n) (k : Ok X S W) (cl : Calls X S O) {op : BoolOp} {vs : List Expr} {c : CE} {pos : Pos} (h : cB S (n + 1) op vs = some c) (hr : evE O c ρ = some r) : RvOk X.K W (eB X (.BoolOp op vs pos)) ρ r := by
  cases vs with
  | nil => simp [cB] at h
  | cons a rest =>
    cases rest with
    | nil =>
      simp only [cB] at h
      have q := s.E k cl h ρ r hr
      cases r with
      | v m d => exact ee_B (pe_one pe_B) q
      | x e => exact xx_B (pe_one pe_B) q
    | cons b rest =>
      simp only [cB] at h
      split at h
      · rename_i x y ha hb
        cases op with
        | And =>
          simp only [Option.some.injEq] at h; subst h
          simp only [evE] at hr
          refine ax1 (fun r h => s.E k cl ha ρ r h) (fun x hx => xx_B (pe_and pe_B pe_B) (xx_and hx)) (fun m d h1 r hh => ?_) hr
          split at hh
          · cases he : evE O y ρ with
            | none => rw [he] at hh; simp at hh
            | some r2 =>
              have q := s.B (pos := pos) k cl hb ρ r2 he
              rw [he] at hh
              cases r2 with
              | v m2 d2 =>
                simp only [bv_v] at hh
                split at hh
                · have := fv_eq hh; subst this
                  exact ee_B (pe_and pe_B pe_B) (e_and h1 fun _ => q)
                · cases hh
              | x e2 =>
                simp only [bv_x, Option.some.injEq] at hh; subst hh
                exact xx_B (pe_and pe_B pe_B) (xx_and2 h1 q)
          · have := fv_eq hh; subst this
            exact ee_B (pe_and pe_B pe_B) (e_and (m2 := .f) (b := true) h1 fun z => nomatch z)
          · cases hh
        | Or =>
          simp only [Option.some.injEq] at h; subst h
          simp only [evE] at hr
          refine ax1 (fun r h => s.E k cl ha ρ r h) (fun x hx => xx_B (pe_or pe_B pe_B) (xx_or hx)) (fun m d h1 r hh => ?_) hr
          split at hh
          · cases he : evE O y ρ with
            | none => rw [he] at hh; simp at hh
            | some r2 =>
              have q := s.B (pos := pos) k cl hb ρ r2 he
              rw [he] at hh
              cases r2 with
              | v m2 d2 =>
                simp only [bv_v] at hh
                split at hh
                · have := fv_eq hh; subst this
                  exact ee_B (pe_or pe_B pe_B) (e_or h1 fun _ => q)
                · cases hh
              | x e2 =>
                simp only [bv_x, Option.some.injEq] at hh; subst hh
                exact xx_B (pe_or pe_B pe_B) (xx_or2 h1 q)
          · have := fv_eq hh; subst this
            exact ee_B (pe_or pe_B pe_B) (e_or (m2 := .f) (b := true) h1 fun z => nomatch z)
          · cases hh
      · cases h
theorem seq_src (s : Sound O n) (k : Ok X S W) (cl : Calls X S O) {e : Expr} {c : CSrc} (h : (cE S n e).map CSrc.seq = some c) (tg : Expr) (st : Bool) (its : List Item) (hr : evSrc O c ρ = some (.v st its)) : Src X.K (iB X tg e) ρ st its := by
  simp only [Option.map_eq_some_iff] at h
  obtain ⟨ce, h1, rfl⟩ := h
  simp only [evSrc] at hr
  split at hr
  · rename_i m d he
    exact src_ok (s.E k cl h1 ρ _ he) hr
  · cases hr
theorem step_C (s : Sound O n) (k : Ok X S W) (cl : Calls X S O) {tt : Bool} {e : Expr} {c : CSrc} (h : cSrc S (n + 1) tt e = some c) : (∀ tg, (tt = true → isTup tg = true) → ∀ ρ st its, evSrc O c ρ = some (.v st its) → Src X.K (iB X tg e) ρ st its) ∧ ∀ env x, foldedSetIterable e env x = pure x := by
  unfold cSrc at h
  split at h
  · refine ⟨fun tg htg ρ st its hr => ?_, fun _ _ => rfl⟩
    split at h
    · rename_i hf
      subst hf
      split at h
      · rename_i hl
        simp only [Option.map_eq_some_iff] at h
        obtain ⟨ca, ha, rfl⟩ := h
        obtain ⟨g1, g2⟩ := k.bl hl.1 hl.2 (by decide)
        have hs := star1 ha [] X.env
        simp only [evSrc] at hr
        split at hr
        · rename_i m n' he
          split at hr
          · rename_i hn
            cases hr
            exact src_B (pi_range1 g1 g2 (pa_cons pe_B pa_nil hs) hs) (src_r1 (s.E k cl ha ρ _ he) hn)
          · cases hr
        · cases hr
      · cases h
    · split at h
      · rename_i hf
        subst hf
        split at h
        · rename_i hl
          simp only [Option.map_eq_some_iff] at h
          obtain ⟨ca, ha, rfl⟩ := h
          obtain ⟨g1, g2⟩ := k.bl hl.1 hl.2.1 (by decide)
          have hs := star1 ha [] X.env
          have ht := htg hl.2.2
          cases tg with
          | Tuple es kk p =>
            simp only [evSrc] at hr
            split at hr
            · rename_i m d he
              unfold enD at hr
              split at hr
              · cases hr
              · rename_i hm
                split at hr
                · cases hr
                  exact src_B (pi_enum g1 g2 (pa_cons pe_B pa_nil hs) hs) (src_enL hm (s.E k cl ha ρ _ he))
                · cases hr
                  exact src_B (PX.pi_enumT g1 g2 (pa_cons pe_B pa_nil hs) hs) (src_enT hm (s.E k cl ha ρ _ he))
                · cases hr
            · cases hr
          | _ => cases ht
        · cases h
      · exact seq_src s k cl h tg st its hr
  · refine ⟨fun tg htg ρ st its hr => ?_, fun _ _ => rfl⟩
    split at h
    · rename_i hf
      subst hf
      split at h
      · rename_i hl
        split at h
        · rename_i ca cb ha hb
          cases h
          obtain ⟨g1, g2⟩ := k.bl hl.1 hl.2 (by decide)
          have hs2 := star1 hb [] X.env
          simp only [evSrc] at hr
          split at hr
          · rename_i m lo he
            split at hr
            · rename_i m2 n' he2
              split at hr
              · rename_i hn
                cases hr
                exact src_B (pi_range2 g1 g2 (pa_cons pe_B (pa_cons pe_B pa_nil hs2) (star1 ha _ X.env)) (by rw [star1 ha, hs2]; rfl) hs2) (src_r2 (s.E k cl ha ρ _ he) (s.E k cl hb ρ _ he2) hn)
              · cases hr
            · cases hr
          · cases hr
        · cases h
      · cases h
    · exact seq_src s k cl h tg st its hr
  · cases h
  · rename_i hns
    refine ⟨fun tg htg ρ st its hr => seq_src s k cl h tg st its hr, fun env x => ?_⟩
    cases e <;> first | rfl | exact absurd rfl (hns _ _ _)
theorem step_D (s : Sound O n) (k : Ok X S W) (cl : Calls X S O) {a : Expr} {ops : List CmpOp} {cs : List Expr} {pos : Pos} {c : CE} (h : cE S (n + 1) (.Compare a ops cs pos) = some c) {m : Md} {d : D} {b : Bool} (he : evE O c ρ = some (.v m d)) (ht : truthD d = some b) : ET X.K (tB' X (.Compare a ops cs pos)) ρ b := by
  unfold cE at h
  split at h
  all_goals first | (rename_i heq; cases heq; done) | skip
  · rename_i heq
    cases heq
    split at h
    · rename_i o ca cb ho ha hb
      cases h
      simp only [evE] at he
      cases h1 : evE O ca ρ with
      | none => rw [h1] at he; simp at he
      | some r1 =>
        cases r1 with
        | x e => rw [h1] at he; simp at he
        | v m1 d1 =>
          rw [h1, bv_v] at he
          cases h2 : evE O cb ρ with
          | none => rw [h2] at he; simp at he
          | some r2 =>
            cases r2 with
            | x e => rw [h2] at he; simp at he
            | v m2 d2 =>
              rw [h2, bv_v] at he
              simp only [Option.bind_eq_some_iff] at he
              obtain ⟨v, h3, h4⟩ := he
              have h5 := fv_eq h4
              cases h5
              simp only [truthD, Option.some.injEq] at ht
              subst ht
              obtain ⟨rr, p, q⟩ := cmp_ok s k cl ho ha hb h1 h2 h3
              exact et_B (pt_cmpR p pe_B pe_B (cmp_mark hb _)) (t_test q)
    · cases h
  · rename_i heq
    cases heq
    split at h
    · rename_i o o' ca cb cc ho ho' ha hb hc
      cases h
      simp only [evE] at he
      split at he
      · rename_i m1 i m2 j m3 l h1 h2 h3
        simp only [Option.bind_eq_some_iff] at he
        obtain ⟨x, hx, y, hy, h4⟩ := he
        split at h4
        · cases h4
        · rename_i hn
          have h5 := fv_eq h4
          cases h5
          simp only [truthD, Option.some.injEq] at ht
          subst ht
          obtain ⟨rr, rr', p, p', q⟩ := chain_ok s k cl ho ho' ha hb hc h1 h2 h3 hx hy hn
          exact et_B (pt_chain p p' pe_B pe_B pe_B (lmark hc)) (t_test q)
      · cases he
    · cases h
  · cases h
theorem val_test (s : Sound O n) (k : Ok X S W) (cl : Calls X S O) {e : Expr} {c : CT} (h : (cE S n e).map CT.val = some c) {b : Bool} (hb : evT O c ρ = some b)
    (hp : (∀ whole, isTrue e X.env whole = (do let v ← whole; standAt e.pos; holding [v] (truthy v))) ∨ ∃ a ops cs pos, e = .Compare a ops cs pos) : ET X.K (tB' X e) ρ b := by
  simp only [Option.map_eq_some_iff] at h
  obtain ⟨ce, h1, rfl⟩ := h
  simp only [evT] at hb
  split at hb
  · rename_i m d he
    rcases hp with hp | ⟨a, ops, cs, pos, rfl⟩
    · exact truth_ok hp (s.E k cl h1 ρ _ he) hb
    · exact s.D k cl h1 ρ m d b he hb
  · cases hb
theorem step_T (s : Sound O n) (k : Ok X S W) (cl : Calls X S O) {e : Expr} {c : CT} (h : cT S (n + 1) e = some c) {b : Bool} (hb : evT O c ρ = some b) : ET X.K (tB' X e) ρ b := by
  unfold cT at h
  split at h
  · simp only [Option.map_eq_some_iff] at h
    obtain ⟨ct, h1, rfl⟩ := h
    simp only [evT, Option.map_eq_some_iff] at hb
    obtain ⟨b', h2, rfl⟩ := hb
    exact et_B (pt_not pt_B) (t_not (s.T k cl h1 ρ b' h2))
  · obtain ⟨t, h1, h2⟩ := s.TB k cl h ρ b hb
    exact et_B (PW.pt h1) h2
  · cases h
  · rename_i h1 h2 h3
    refine val_test s k cl h hb ?_
    cases e with
    | UnaryOp o x p =>
      cases o with
      | Not => exact absurd rfl (h1 _ _)
      | _ => exact .inl fun _ => rfl
    | BoolOp a b c => exact absurd rfl (h2 _ _ _)
    | IfExp a b c d => exact absurd rfl (h3 _ _ _ _)
    | Compare a b c d => exact .inr ⟨_, _, _, _, rfl⟩
    | _ => exact .inl fun _ => rfl
theorem pw_no {e : Expr} : PW X e (fun _ _ _ => False) := ⟨fun _ _ _ _ _ _ _ h => h.elim⟩
theorem step_TB (s : Sound O n) (k : Ok X S W) (cl : Calls X S O) {op : BoolOp} {vs : List Expr} {c : CT} {pos : Pos} (h : cTB S (n + 1) op vs = some c) {b : Bool} (hb : evT O c ρ = some b) : ∃ t, PW X (.BoolOp op vs pos) t ∧ ET X.K t ρ b := by
  cases vs with
  | nil => simp [cTB] at h
  | cons a rest =>
    cases rest with
    | nil =>
      simp only [cTB] at h
      have q := s.T k cl h ρ b hb
      cases op with
      | And => exact ⟨_, pw_and1 pt_B, q⟩
      | Or => exact ⟨_, pw_or1 pt_B, q⟩
    | cons a2 rest =>
      simp only [cTB] at h
      split at h
      · rename_i x y ha hr
        cases op with
        | And =>
          simp only [Option.some.injEq] at h; subst h
          simp only [evT, Option.bind_eq_some_iff] at hb
          obtain ⟨c1, h1, h2⟩ := hb
          have q := s.T k cl ha ρ c1 h1
          cases c1 with
          | true =>
            rw [if_pos rfl] at h2
            obtain ⟨t, p1, p2⟩ := s.TB (pos := pos) k cl hr ρ b h2
            exact ⟨_, pw_and pt_B p1, ET.to (t_and q fun _ => p2) rfl⟩
          | false =>
            rw [if_neg Bool.false_ne_true] at h2
            cases h2
            exact ⟨_, pw_and pt_B pw_no, ET.to (t_and (b := true) q fun z => nomatch z) rfl⟩
        | Or =>
          simp only [Option.some.injEq] at h; subst h
          simp only [evT, Option.bind_eq_some_iff] at hb
          obtain ⟨c1, h1, h2⟩ := hb
          have q := s.T k cl ha ρ c1 h1
          cases c1 with
          | false =>
            rw [if_neg Bool.false_ne_true] at h2
            obtain ⟨t, p1, p2⟩ := s.TB (pos := pos) k cl hr ρ b h2
            exact ⟨_, pw_or pt_B p1, ET.to (t_or q fun _ => p2) rfl⟩
          | true =>
            rw [if_pos rfl] at h2
            cases h2
            exact ⟨_, pw_or pt_B pw_no, ET.to (t_or (b := true) q fun z => nomatch z) rfl⟩
      · cases h
theorem step_Ts (s : Sound O n) (k : Ok X S W) (cl : Calls X S O) {es : List Expr} {c : CT} (h : cTs S (n + 1) es = some c) {b : Bool} (hb : evT O c ρ = some b) : ET X.K (tsB X es) ρ b := by
  cases es with
  | nil =>
    simp only [cTs, Option.some.injEq] at h; subst h
    simp only [evT, Option.some.injEq] at hb; subst hb
    exact ets_B pts_nil t_yes
  | cons e es =>
    cases es with
    | nil =>
      simp only [cTs] at h
      exact ets_B (pts_one pt_B) (s.T k cl h ρ b hb)
    | cons _ _ => simp [cTs] at h
end
theorem sound (O : Orc) : ∀ n, Sound O n
  | 0 => zero_sound O
  | n + 1 => by
    have s := sound O n
    exact ⟨fun k cl h ρ r hr => step_E s k cl h hr, fun k cl h ρ r hr => step_B s k cl h hr, fun k cl h ρ => args_sound s k cl h ρ, fun k cl h => step_C s k cl h, fun k cl h ρ b hb => step_T s k cl h hb, fun k cl h ρ b hb => step_TB s k cl h hb, fun k cl h ρ b hb => step_Ts s k cl h hb, fun k cl h ρ m d b he ht => step_D s k cl h he ht⟩
end QL

end
section
set_option maxRecDepth 100000
set_option maxHeartbeats 8000000
namespace QL
open PySem PySem.Spec PyProof.Rows L2 Evl
section
variable {X : Cx} {S : Sc} {W : WX} {O : Orc} {n : Nat} {ρ : List Sl} {o : Out}
structure SoundS (O : Orc) (n : Nat) : Prop where
  S : ∀ {X : Cx} {S : Sc} {W : WX} {st : Stmt} {c : CS}, Ok X S W → PassesOwn (model X.prog X.w) X.A X.env X.xe → Calls X S O → cS S n st = some c → ∀ ρ o, evS O c ρ = some o → Run X.K W (sB X st) ρ o
  SS : ∀ {X : Cx} {S : Sc} {W : WX} {st : List Stmt} {c : CSs}, Ok X S W → PassesOwn (model X.prog X.w) X.A X.env X.xe → Calls X S O → cSs S n st = some c → ∀ ρ o, evSs O c ρ = some o → Run X.K W (ssB X st) ρ o
theorem run_frzA {t : TS} : ∀ {l : List Nat} {ρ : List Sl}, Run X.K W t (frzA ρ l) o → Run X.K W t ρ o
  | [], _, h => h
  | i :: r, ρ, h => run_frz i (run_frzA (l := r) h)
theorem for_ok {body : TS} {pt : Pat} {f : List Sl → Option Out} (hb : ∀ ρ o, f ρ = some o → Run X.K W body ρ o) : ∀ {its : List Item} {ρ : List Sl} {o : Out}, forGo pt f its ρ = some o → Loop X.K W body pt its ρ o
  | [], ρ, o, h => by simp only [forGo, Option.some.injEq] at h; subst h; exact .done
  | it :: its, ρ, o, h => by
    simp only [forGo, Option.bind_eq_some_iff] at h
    obtain ⟨ρ1, h1, o1, h2, h3⟩ := h
    have r := hb ρ1 o1 h2
    cases o1 with
    | nx ρ2 => exact .step h1 r (for_ok hb h3)
    | ct ρ2 => exact .cont h1 r (for_ok hb h3)
    | bk ρ2 => simp only [Option.some.injEq] at h3; subst h3; exact .brk h1 r
    | rt m d => simp only [Option.some.injEq] at h3; subst h3; exact .ret h1 r
    | xs x ρ2 => simp only [Option.some.injEq] at h3; subst h3; exact .exc h1 r
theorem whl_ok {tc : TT} {tb : TS} {t : List Sl → Option Bool} {f : List Sl → Option Out} (ht : ∀ ρ b, t ρ = some b → ET X.K tc ρ b) (hb : ∀ ρ o, f ρ = some o → Run X.K W tb ρ o) : ∀ {n : Nat} {ρ : List Sl} {o : Out}, whlGo t f n ρ = some o → Whl X.K W tc tb n ρ o
  | 0, ρ, o, h => by cases h
  | n + 1, ρ, o, h => by
    simp only [whlGo, Option.bind_eq_some_iff] at h
    obtain ⟨c, h1, h2⟩ := h
    have q := ht ρ c h1
    cases c with
    | false =>
      rw [if_neg Bool.false_ne_true] at h2
      cases h2
      exact .stop q
    | true =>
      rw [if_pos rfl] at h2
      simp only [Option.bind_eq_some_iff] at h2
      obtain ⟨o1, h3, h4⟩ := h2
      have r := hb ρ o1 h3
      cases o1 with
      | nx ρ2 => exact .step q r (whl_ok ht hb h4)
      | ct ρ2 => exact .cont q r (whl_ok ht hb h4)
      | bk ρ2 => cases h4; exact .brk q r
      | rt m d => cases h4; exact .ret q r
      | xs x ρ2 => cases h4; exact .exc q r
/-- a name takes a comprehension's list -/
theorem set_sound (k : Ok X S W) (cl : Calls X S O) {x : Str} {e : Expr} {p pos : Pos} {i : Nat} {c : CE} (hx : S.store x = some i) (he : cE S n e = some c) {m : Md} {d : D} {s : Sl} (hr : evE O c ρ = some (.v m d)) (hs : slotV m d = some s) : Run X.K W (sB X (.Assign [.Name x p] e pos)) ρ (.nx (ρ.set i s)) := by
  obtain ⟨h1, h2, h3⟩ := k.store hx
  have q := (sound O n).E k cl he ρ _ hr
  have pl : ∀ (_ : swapsWith e (some (.Name x p)) pos.line X.env = pure false), Run X.K W (sB X (.Assign [.Name x p] e pos)) ρ (.nx (ρ.set i s)) := fun hsw => run_B (ps_set k.nd h1 h2 pe_B hsw h3) (run_set q hs)
  cases e with
  | ListComp elt gens scope lp =>
    have hsw : ∃ b, swapsWith (.ListComp elt gens scope lp) (some (.Name x p)) pos.line X.env = pure b ∧ (b = true → X.env.scope.names.lookup x = some .local) := by
      refine ⟨_, rfl, fun hb => ?_⟩
      simp only [Bool.and_eq_true] at hb
      have := hb.1.1.2
      have e1 : X.env.kindOf x = X.env.scope.names.lookup x := rfl
      rw [e1] at this
      cases hk : X.env.scope.names.lookup x with
      | none => rw [hk] at this; cases this
      | some kk => rw [hk] at this; cases kk <;> first | rfl | cases this
    obtain ⟨b, hb1, hb2⟩ := hsw
    cases b with
    | false => exact pl hb1
    | true =>
      have hl := hb2 rfl
      cases n with
      | zero => simp [cE] at he
      | succ n =>
        have s := sound O n
        unfold cE at he
        split at he
        all_goals first | (rename_i heq; cases heq; done) | skip
        · rename_i heq
          cases heq
          dsimp only at he
          split at he
          · rename_i pt src t ce hp hc ht hel
            split at he
            · rename_i hb
              cases he
              obtain ⟨m', d', e1, q⟩ := lc_ok s k cl hp hc ht hel hr
              cases e1
              refine run_B (ps_setLc (i := i) k.calm k.nd h1 hl hb1 (pi_B (X := X)) (blkOk_by (by rw [k.N, k.sc]; exact hb)) (fun s H' C cl' fp => pg_of (k.blk s H' _ C cl' fp) hp) (fun s H' C cl' fp => pts_bT s H' C cl' fp) (fun s H' C cl' fp => pe_bE s H' C cl' fp) ((s.C k cl hc).2 X.env)) (run_set (m := m) (d := d) (by rw [blk_vs2]; exact q) hs)
            · cases he
          · cases he
        · rename_i heq
          cases heq
          dsimp only at he
          split at he
          · rename_i pt src t pt1 src1 t1 ce hp hc ht hp1 hs1 ht1 hel
            split at he
            · rename_i hb
              cases he
              obtain ⟨m', d', e1, q⟩ := lc2_ok s k cl hp hc ht hp1 hs1 ht1 hel hr
              cases e1
              refine run_B (ps_setLc2 (i := i) (vs1 := pt1.vars) k.calm k.nd h1 hl hb1 (pi_B (X := X)) (blkOk_by (by rw [k.N, k.sc]; exact hb)) (fun i hi => by rw [blk_vs2]; exact List.mem_append_right _ hi) (fun s H' C cl' fp => pg_of (k.blk s H' _ C cl' fp) hp) (fun s H' C cl' fp => pts_bT s H' C cl' fp) (fun s H' C cl' fp => pi_bI s H' C cl' fp) (fun s H' C cl' fp => pg_of (k.blk s H' _ C cl' fp) hp1) (fun s H' C cl' fp => pts_bT s H' C cl' fp) (fun s H' C cl' fp => pe_bE s H' C cl' fp) ((s.C k cl hc).2 X.env) (fun env x => (s.C (k.blk X.s_0 X.H_0 _ 0 [] []) (cl.blk X.s_0 X.H_0 _ _ []) hs1).2 env x)) (run_set (m := m) (d := d) (by rw [blk_vs2]; exact q) hs)
            · cases he
          · cases he
        · cases he
  | SetComp _ _ _ _ => cases n <;> simp [cE] at he
  | DictComp _ _ _ _ _ => cases n <;> simp [cE] at he
  | _ => exact pl rfl
theorem pat_sound (k : Ok X S W) (cl : Calls X S O) {es : List Expr} {kk : Nat} {e : Expr} {p pos : Pos} {pt : Pat} {c : CE} (hp : cP S n (.Tuple es kk p) = some pt) (he : cE S n e = some c) (hn : ∀ a b c, e ≠ .Tuple a b c) (hl : ∀ a b c d, e ≠ .ListComp a b c d) {m : Md} {d : D} {ρ1 : List Sl} (hr : evE O c ρ = some (.v m d)) (hm : m ≠ .n) (hb : bindP pt ρ (.one m d) = some ρ1) : Run X.K W (sB X (.Assign [.Tuple es kk p] e pos)) ρ (.nx ρ1) := by
  have q := (sound O n).E k cl he ρ _ hr
  have fin : swapsWithSole [.Tuple es kk p] e pos.line X.env = pure false → swappedStores [.Tuple es kk p] e X.env = pure none → Run X.K W (sB X (.Assign [.Tuple es kk p] e pos)) ρ (.nx ρ1) := fun h1 h2 =>
    run_B (ps_asg pe_B (pg_of k hp) h1 h2) (run_pat (gp_of _ _) q hm hb)
  cases e with
  | Tuple a b c => exact absurd rfl (hn _ _ _)
  | ListComp a b c d => exact absurd rfl (hl _ _ _ _)
  | SetComp _ _ _ _ => cases n <;> simp [cE] at he
  | DictComp _ _ _ _ _ => cases n <;> simp [cE] at he
  | _ => exact fin rfl rfl
theorem patX_sound (k : Ok X S W) (cl : Calls X S O) {es : List Expr} {kk : Nat} {e : Expr} {p pos : Pos} {pt : Pat} {c : CE} (hp : cP S n (.Tuple es kk p) = some pt) (he : cE S n e = some c) (hn : ∀ a b c, e ≠ .Tuple a b c) (hl : ∀ a b c d, e ≠ .ListComp a b c d) {x : Er} (hr : evE O c ρ = some (.x x)) : Run X.K W (sB X (.Assign [.Tuple es kk p] e pos)) ρ (.xs x ρ) := by
  have q := (sound O n).E k cl he ρ _ hr
  have fin : swapsWithSole [.Tuple es kk p] e pos.line X.env = pure false → swappedStores [.Tuple es kk p] e X.env = pure none → Run X.K W (sB X (.Assign [.Tuple es kk p] e pos)) ρ (.xs x ρ) := fun h1 h2 =>
    run_B (ps_asg pe_B (pg_of k hp) h1 h2) (run_setX q)
  cases e with
  | Tuple a b c => exact absurd rfl (hn _ _ _)
  | ListComp a b c d => exact absurd rfl (hl _ _ _ _)
  | SetComp _ _ _ _ => cases n <;> simp [cE] at he
  | DictComp _ _ _ _ _ => cases n <;> simp [cE] at he
  | _ => exact fin rfl rfl
theorem lc_noX {c : CE} {x : Er} (hl : (∃ a b t d vs, c = .lc a b t d vs) ∨ ∃ a b t a1 b1 t1 v1 d vs, c = .lc2 a b t a1 b1 t1 v1 d vs) : evE O c ρ ≠ some (.x x) := by
  intro h
  have key : ∀ r, lcD r ≠ some (.x x) := by
    intro r z
    unfold lcD at z
    split at z
    · split at z
      · cases z
      · split at z <;> cases z
    · cases z
  rcases hl with ⟨a, b, t, d, vs, rfl⟩ | ⟨a, b, t, a1, b1, t1, v1, d, vs, rfl⟩
  · simp only [evE, Option.bind_eq_some_iff] at h
    obtain ⟨⟨st, its⟩, h1, r0, h2, h3⟩ := h
    exact key _ h3
  · simp only [evE, Option.bind_eq_some_iff] at h
    obtain ⟨⟨st, its⟩, h1, r0, h2, h3⟩ := h
    exact key _ h3
theorem lc_inv {S : Sc} {elt : Expr} {gens : List Comprehension} {scope : Scope} {lp : Pos} {c : CE} (h : cE S n (.ListComp elt gens scope lp) = some c) : (∃ a b t d vs, c = .lc a b t d vs) ∨ ∃ a b t a1 b1 t1 v1 d vs, c = .lc2 a b t a1 b1 t1 v1 d vs := by
  cases n with
  | zero => simp [cE] at h
  | succ n =>
    unfold cE at h
    split at h
    all_goals first | (rename_i heq; cases heq; done) | skip
    · dsimp only at h
      split at h
      · split at h
        · cases h; exact .inl ⟨_, _, _, _, _, rfl⟩
        · cases h
      · cases h
    · dsimp only at h
      split at h
      · split at h
        · cases h; exact .inr ⟨_, _, _, _, _, _, _, _, _, rfl⟩
        · cases h
      · cases h
    · cases h
theorem setX_sound (k : Ok X S W) (cl : Calls X S O) {y : Str} {e : Expr} {p pos : Pos} {i : Nat} {c : CE} (hx : S.store y = some i) (he : cE S n e = some c) {x : Er} (hr : evE O c ρ = some (.x x)) : Run X.K W (sB X (.Assign [.Name y p] e pos)) ρ (.xs x ρ) := by
  obtain ⟨h1, h2, h3⟩ := k.store hx
  have q := (sound O n).E k cl he ρ _ hr
  have pl : ∀ (_ : swapsWith e (some (.Name y p)) pos.line X.env = pure false), Run X.K W (sB X (.Assign [.Name y p] e pos)) ρ (.xs x ρ) := fun hsw => run_B (ps_set k.nd h1 h2 pe_B hsw h3) (run_setX q)
  cases e with
  | ListComp elt gens scope lp => exact absurd hr (lc_noX (lc_inv he))
  | SetComp _ _ _ _ => cases n <;> simp [cE] at he
  | DictComp _ _ _ _ _ => cases n <;> simp [cE] at he
  | _ => exact pl rfl
theorem seti_sound (k : Ok X S W) (cl : Calls X S O) {x : Str} {i e : Expr} {px p pos : Pos} {v : Nat} {ci ce : CE} (hx : S.slot x = some v) (hi : cE S n i = some ci) (he : cE S n e = some ce) (hl : ∀ a b c d, e ≠ .ListComp a b c d)
    {m m1 : Md} {d : D} {z : Int} {ds : List D} {q : Nat} (h1 : evE O ce ρ = some (.v m d)) (h2 : evE O ci ρ = some (.v m1 (.int z))) (h3 : ρ[v]? = some (.own ds)) (hc : cf m d = true) (hq : ixN ds.length z = some q) :
    Run X.K W (sB X (.Assign [.Subscript (.Name x px) i p] e pos)) ρ (.nx (ρ.set v (.own (ds.set q d)))) := by
  obtain ⟨a1, a2, a3, a4⟩ := k.var hx
  have q1 := (sound O n).E k cl he ρ _ h1
  have q2 := (sound O n).E k cl hi ρ _ h2
  have pgs : PG X (.Subscript (.Name x px) i p) (gSub (tVar v) (eB X i) rSetL) := pg_sub (pe_var a1 a2 a3 a4) pe_B set_list (by
    cases i <;> first | (intro _; rfl) | (cases n <;> simp [cE] at hi))
  have fin : swapsWithSole [.Subscript (.Name x px) i p] e pos.line X.env = pure false → swappedStores [.Subscript (.Name x px) i p] e X.env = pure none → Run X.K W (sB X (.Assign [.Subscript (.Name x px) i p] e pos)) ρ (.nx (ρ.set v (.own (ds.set q d)))) := fun h1 h2 =>
    run_B (ps_asg pe_B pgs h1 h2) (run_seti h3 q1 hc q2 hq)
  cases e with
  | ListComp a b c d => exact absurd rfl (hl _ _ _ _)
  | SetComp _ _ _ _ => cases n <;> simp [cE] at he
  | DictComp _ _ _ _ _ => cases n <;> simp [cE] at he
  | _ => exact fin rfl rfl
theorem putT_sound (k : Ok X S W) (cl : Calls X S O) {x : Str} {i e : Expr} {px p pos : Pos} {v : Nat} {ci ce : CE} (hx : S.slot x = some v) (hi : cE S n i = some ci) (he : cE S n e = some ce) (hl : ∀ a b c d, e ≠ .ListComp a b c d)
    {m m1 : Md} {d : D} {es ds : List D} {ks : List (List Key)} {kk : List Key} (h1 : evE O ce ρ = some (.v m d)) (h2 : evE O ci ρ = some (.v m1 (.tup es))) (h3 : ρ[v]? = some (.ownT ks ds)) (hc : cf m d = true) (hz : ks.length < 100000) (hk : keysOf es = some kk) (hn : kk ∉ ks) :
    Run X.K W (sB X (.Assign [.Subscript (.Name x px) i p] e pos)) ρ (.nx (ρ.set v (.ownT (ks ++ [kk]) (ds ++ [d])))) := by
  obtain ⟨a1, a2, a3, a4⟩ := k.var hx
  have q1 := (sound O n).E k cl he ρ _ h1
  have q2 := (sound O n).E k cl hi ρ _ h2
  have fin : swapsWith e (some (.Subscript (.Name x px) i p)) pos.line X.env = pure false → Run X.K W (sB X (.Assign [.Subscript (.Name x px) i p] e pos)) ρ (.nx (ρ.set v (.ownT (ks ++ [kk]) (ds ++ [d])))) := fun h1 =>
    run_B (ps_dput (by have := k.un; omega) (pe_var a1 a2 a3 a4) pe_B pe_B h1) (run_putT h3 q1 hc q2 hk hn hz)
  cases e with
  | ListComp a b c d => exact absurd rfl (hl _ _ _ _)
  | SetComp _ _ _ _ => cases n <;> simp [cE] at he
  | DictComp _ _ _ _ _ => cases n <;> simp [cE] at he
  | _ => exact fin rfl
theorem asg2_sound (k : Ok X S W) (cl : Calls X S O) {x y : Str} {e : Expr} {px py pos : Pos} {i j : Nat} {ce : CE} (hx : S.store x = some i) (hy : S.store y = some j) (he : cE S n e = some ce) (hl : ∀ a b c d, e ≠ .ListComp a b c d) {o : Out} (hr : evS O (.asg2 i j ce) ρ = some o) :
    Run X.K W (sB X (.Assign [.Name x px, .Name y py] e pos)) ρ o := by
  obtain ⟨a1, a2, a3⟩ := k.store hx
  obtain ⟨b1, b2, b3⟩ := k.store hy
  have q := (sound O n).E k cl he ρ
  have ps : PS X (.Assign [.Name x px, .Name y py] e pos) (tAsg2 (eB X e) (gName i) (gName j)) := by
    have fin : swappedStores [.Name x px, .Name y py] e X.env = pure none → PS X (.Assign [.Name x px, .Name y py] e pos) (tAsg2 (eB X e) (gName i) (gName j)) := fun h => ps_asg2 pe_B (pg_name k.nd a1 a2 a3) (pg_name k.nd b1 b2 b3) rfl h
    cases e with
    | ListComp a b c d => exact absurd rfl (hl _ _ _ _)
    | SetComp _ _ _ _ => cases n <;> simp [cE] at he
    | DictComp _ _ _ _ _ => cases n <;> simp [cE] at he
    | _ => exact fin rfl
  simp only [evS] at hr
  split at hr
  · rename_i m d h1
    split at hr
    · rename_i hi
      cases hr
      exact run_B ps (run_asg2 (q _ h1) hi)
    · cases hr
  · rename_i x0 h1
    cases hr
    exact run_B ps (run_asg2X (q _ h1))
  · cases hr
theorem swapped_folded {ts vs : List Expr} {kt k2 : Nat} {p p2 : Pos} {env : Env} (h : vs.all (foldedForSure 8) = true) : swappedStores [.Tuple ts kt p] (.Tuple vs k2 p2) env = pure none := by
  unfold swappedStores
  dsimp only
  repeat' (first | rfl | split)
  all_goals first | rfl | (rename_i z; exact absurd h z) | (rename_i z _; exact absurd h z)
theorem kind_block {sc : Scope} {env : Env} (h : env.scope = sc) (hk : sc.kind = .function) : env.blockKind = .function := by
  unfold Env.blockKind
  rw [h, hk]; rfl
theorem swapped_par {x y : Str} {px py p p2 : Pos} {kt k2 : Nat} {a b : Expr} {env : Env} (hb : env.blockKind = .function) (hxy : x ≠ y) (hx : env.scope.names.lookup x = some .local) (hy : env.scope.names.lookup y = some .local) (hl : (py.line == px.line) = true)
    (h1 : [a, b].all (foldedForSure 8) = false) (h2 : [a, b].all (constantsAlone 8) = false) (ha : ∀ z q, a ≠ .Starred z q) (hb' : ∀ z q, b ≠ .Starred z q) : swappedStores [.Tuple [.Name x px, .Name y py] kt p] (.Tuple [a, b] k2 p2) env = pure (some [x, y]) := by
  have kx : env.kindOf x = some .local := hx
  have ky : env.kindOf y = some .local := hy
  have eyx : (y == x) = false := by simpa using Ne.symm hxy
  have pl : ((Expr.Name x px).pos.line) = px.line := rfl
  unfold swappedStores
  dsimp only
  refine (if_neg ?_).trans ((if_neg ?_).trans ?_)
  · rw [hb]; exact Bool.false_ne_true
  · intro hz
    simp only [List.any_cons, List.any_nil, Bool.or_false, Bool.or_eq_true] at hz
    rcases hz with hz | hz <;> (split at hz <;> first | exact ha _ _ rfl | exact hb' _ _ rfl | cases hz)
  · simp only [List.filterMap_cons, List.filterMap_nil, kx, ky, List.head?_cons, Option.map_some, Option.getD_some, pl, hl, beq_self_eq_true, Bool.and_self, if_true]
    refine (if_neg ?_).trans ((if_neg ?_).trans ((if_neg ?_).trans rfl))
    · simp [List.eraseDups_cons, eyx]
    · rw [h1]; exact Bool.false_ne_true
    · rw [h2]; exact Bool.false_ne_true
theorem cE_nostar {S : Sc} {e : Expr} {c : CE} (h : cE S n e = some c) (z : Expr) (q : Pos) : e ≠ .Starred z q := fun w => by
  subst w
  rw [cE_star] at h; cases h
theorem par_sound (k : Ok X S W) (cl : Calls X S O) {x y : Str} {px py p p2 pos : Pos} {kt k2 : Nat} {a b : Expr} {i j : Nat} {ca cb : CE} (hp : parOk S px py x y a b = true) (hx : S.store x = some i) (hy : S.store y = some j) (ha : cE S n a = some ca) (hb : cE S n b = some cb) (hij : i ≠ j)
    {m1 m2 : Md} {d1 d2 : D} (h1 : evE O ca ρ = some (.v m1 d1)) (h2 : evE O cb ρ = some (.v m2 d2)) (c1 : cf m1 d1 = true) (c2 : cf m2 d2 = true) :
    Run X.K W (sB X (.Assign [.Tuple [.Name x px, .Name y py] kt p] (.Tuple [a, b] k2 p2) pos)) ρ (.nx ((ρ.set i (.dat d1)).set j (.dat d2))) := by
  obtain ⟨a1, a2, a3⟩ := k.store hx
  obtain ⟨b1, b2, b3⟩ := k.store hy
  have q1 := (sound O n).E k cl ha ρ _ h1
  have q2 := (sound O n).E k cl hb ρ _ h2
  have s2 := star1 hb [] X.env
  have s1 := star1 ha [b] X.env
  have pa : PA X [a, b] (tCons (eB X a) (tCons (eB X b) tNil)) := pa_cons pe_B (pa_cons pe_B pa_nil s2) s1
  have ef : EF X.K (tCons (eB X a) (tCons (eB X b) tNil)) ρ [d1, d2] := ef_cons c1 q1 (ef_cons c2 q2 ef_nil)
  by_cases hf : parF a b = true
  · have pg : PG X (.Tuple [.Name x px, .Name y py] kt p) (gTup X.K 2 (gCons (gName i) (gCons (gName j) gNil))) := pg_tup k.calm (pgs_cons (pg_name k.nd a1 a2 a3) (pgs_cons (pg_name k.nd b1 b2 b3) pgs_nil rfl) rfl) rfl rfl
    have gp : GP X.K (gTup X.K 2 (gCons (gName i) (gCons (gName j) gNil))) (.tp [.nm i, .nm j]) := .tp rfl (.cons (.nm i) (.cons (.nm j) .nil))
    have sl : ∀ d, slotOf .f d = some (.dat d) := fun d => by unfold slotOf; split <;> rfl
    refine run_B (ps_asg (pe_tup pa) pg rfl (swapped_folded hf)) (run_pat gp (e_tup ef (by show 2 ≤ 100000; decide)) (fun z => nomatch z) ?_)
    simp only [bindP, bindPs, List.length_cons, List.length_nil, if_true, List.map_cons, List.map_nil, ixm, sl, Option.map_some, Option.bind_some]
  · have hf : parF a b = false := by simpa using hf
    unfold parOk at hp
    rw [hf] at hp
    simp only [Bool.false_or, Bool.and_eq_true, decide_eq_true_eq, Bool.not_eq_true', decide_eq_false_iff_not] at hp
    obtain ⟨⟨⟨⟨⟨e1, e2⟩, e3⟩, e4⟩, e5⟩, e6⟩ := hp
    have lx : X.env.scope.names.lookup x = some .local := by rw [k.sc]; exact e3
    have ly : X.env.scope.names.lookup y = some .local := by rw [k.sc]; exact e4
    refine run_B (ps_par k.calm k.nd a1 b1 hij lx ly pa (swapped_par (kind_block k.sc e1) e2 lx ly e5 hf e6 (cE_nostar ha) (cE_nostar hb)) rfl) fun B F H σ Dn e pp => ?_
    refine ef B F H σ e _ fun vs F1 H1 g dv => ?_
    cases dv with
    | cons r1 r2 =>
      cases r2 with
      | cons r2 r3 =>
        cases r3
        exact ⟨_, _, rfl, pp _ F1 H1 (g.chg e.eb) (((e.grow g).put_dat i r1).put_dat j r2)⟩
theorem app_sound (k : Ok X S W) (cl : Calls X S O) {x : Str} {e : Expr} {px pa pc pos : Pos} {v : Nat} {ce : CE} (hx : S.slot x = some v) (he : cE S n e = some ce) {m : Md} {d : D} {ds : List D} (h1 : evE O ce ρ = some (.v m d)) (h3 : ρ[v]? = some (.own ds)) (hc : cf m d = true) (hl : ds.length < 100000) (hline : (pa.endLine == pc.line) = true) :
    Run X.K W (sB X (.Expr (.Call (.Attribute (.Name x px) "append" pa) [e] [] pc) pos)) ρ (.nx (ρ.set v (.own (ds ++ [d])))) := by
  obtain ⟨a1, a2, a3, a4⟩ := k.var hx
  have q1 := (sound O n).E k cl he ρ _ h1
  have hs := star1 he [] X.env
  exact run_B (ps_expr (pe_bm PySem.F.plainAttrs_list PySem.F.slot_list_append PySem.F.type_list_append mt_append (pe_var a1 a2 a3 a4) (pa_cons pe_B pa_nil hs) rfl (by rw [hs]; rfl) hline hs rfl)) (run_append h3 q1 hc hl)
theorem ins_sound (k : Ok X S W) (cl : Calls X S O) {x : Str} {i e : Expr} {px pa pc pos : Pos} {v : Nat} {ci ce : CE} (hx : S.slot x = some v) (hi : cE S n i = some ci) (he : cE S n e = some ce) {m m1 : Md} {d : D} {z : Int} {ds : List D} (h2 : evE O ci ρ = some (.v m1 (.int z))) (h1 : evE O ce ρ = some (.v m d)) (h3 : ρ[v]? = some (.own ds)) (hc : cf m d = true) (hl : ds.length < 100000) (h4 : 0 ≤ z) (h5 : z < 2 ^ 63) (hline : (pa.endLine == pc.line) = true) :
    Run X.K W (sB X (.Expr (.Call (.Attribute (.Name x px) "insert" pa) [i, e] [] pc) pos)) ρ (.nx (ρ.set v (.own (ds.take z.toNat ++ [d] ++ ds.drop z.toNat)))) := by
  obtain ⟨a1, a2, a3, a4⟩ := k.var hx
  have q1 := (sound O n).E k cl he ρ _ h1
  have q2 := (sound O n).E k cl hi ρ _ h2
  have hs2 := star1 he [] X.env
  have hs := star1 hi [e] X.env
  exact run_B (ps_expr (pe_bm PySem.F.plainAttrs_list PySem.F.slot_list_insert PySem.F.type_list_insert mt_insert (pe_var a1 a2 a3 a4) (pa_cons pe_B (pa_cons pe_B pa_nil hs2) hs) rfl (by rw [hs, hs2]; rfl) hline hs (by rw [hs2]; rfl))) (run_ins h3 q2 q1 hc hl h4 h5)
theorem cB_var {S : Sc} {n : Nat} {op : BoolOp} {a b : Expr} {r : List Expr} {i : Nat} : cB S n op (a :: b :: r) ≠ some (.var i) := by
  intro h
  cases n with
  | zero => simp [cB] at h
  | succ n =>
    simp only [cB] at h
    split at h
    · cases op <;> simp at h
    · cases h
theorem var_inv {S : Sc} {n : Nat} {e : Expr} {i : Nat} (h : cE S n e = some (.var i)) : ∃ x p, e = .Name x p ∧ S.slot x = some i := by
  cases n with
  | zero => simp [cE] at h
  | succ n =>
    unfold cE at h
    split at h
    all_goals try dsimp only at h
    all_goals first
      | (simp only [Option.map_eq_some_iff] at h; obtain ⟨j, h1, h2⟩ := h; cases h2; exact ⟨_, _, rfl, h1⟩)
      | (exact absurd h cB_var)
      | (repeat' split at h) <;> simp at h
theorem ret_sound (k : Ok X S W) (cl : Calls X S O) {e : Expr} {pos : Pos} {ce : CE} (he : cE S n e = some ce) (hr : evS O (.ret ce) ρ = some o) : Run X.K W (sB X (.Return (some e) pos)) ρ o := by
  have so := sound O n
  have plain : ∀ {l : List Nat} {m : Md} {d : D}, evE O ce (frzA ρ l) = some (.v m d) → Run X.K W (sB X (.Return (some e) pos)) ρ (.rt m d) := fun {l m d} h1 =>
    run_frzA (l := l) (run_B (ps_ret pe_B) (run_ret (so.E k cl he _ _ h1)))
  unfold evS at hr
  split at hr
  all_goals first | (rename_i heq; cases heq; done) | skip
  · rename_i i heq
    cases heq
    obtain ⟨x, p, rfl, hx⟩ := var_inv he
    obtain ⟨a1, a2, a3, a4⟩ := k.var hx
    split at hr
    · rename_i ds hs; cases hr; exact run_B (ps_ret (pe_var a1 a2 a3 a4)) (run_retO hs)
    · rename_i ks ds hs; cases hr; exact run_B (ps_ret (pe_var a1 a2 a3 a4)) (run_retOD hs)
    · rename_i ks ds hs; cases hr; exact run_B (ps_ret (pe_var a1 a2 a3 a4)) (run_retOT hs)
    · rename_i d hs; cases hr; exact run_B (ps_ret (pe_var a1 a2 a3 a4)) (run_ret (e_var hs))
    · rename_i d hs; cases hr; exact run_B (ps_ret (pe_var a1 a2 a3 a4)) (run_ret (EE.nrm (m := .b) (e_var hs)))
    · cases hr
  · rename_i heq
    cases heq
    split at hr
    · rename_i m d h1
      cases hr
      exact plain h1
    · rename_i x0 h1
      cases hr
      exact run_frzA (run_B (ps_ret pe_B) (run_retX (so.E k cl he _ _ h1)))
    · cases hr
theorem run_setFX {f : Str} {te : TE} {x : Er} {i : Nat} {K : PySem.W.Frag} (h : XX K te ρ W x) : Run K W (sFld K (tVar i) te f) ρ (.xs x ρ) := fun B F H σ Dn e p => h B F H σ e (fun d F1 H1 g1 er => p σ d F1 H1 (g1.chg e.eb) (e.grow g1) er) _
theorem setf_sound (k : Ok X S W) (cl : Calls X S O) {x f : Str} {e : Expr} {px p pos : Pos} {v : Nat} {ce : CE} (hx : S.slot x = some v) (he : cE S n e = some ce) (hl : ∀ a b c d, e ≠ .ListComp a b c d) (hr : evS O (.setf v f ce) ρ = some o) : Run X.K W (sB X (.Assign [.Attribute (.Name x px) f p] e pos)) ρ o := by
  obtain ⟨_, _, _, _, _, hf⟩ := cl.ex
  obtain ⟨a1, a2, a3, a4⟩ := k.var hx
  have ps : PS X (.Assign [.Attribute (.Name x px) f p] e pos) (sFld X.K (tVar v) (eB X e) f) := by
    refine ps_fld (pe_var a1 a2 a3 a4) pe_B ?_
    cases e with
    | ListComp a b c d => exact absurd rfl (hl _ _ _ _)
    | SetComp _ _ _ _ => cases n <;> simp [cE] at he
    | DictComp _ _ _ _ _ => cases n <;> simp [cE] at he
    | _ => rfl
  simp only [evS] at hr
  refine run_frzA (l := esc ce) ?_
  split at hr
  · rename_i m d h1
    split at hr
    · rename_i a dx C ns ds h0
      split at hr
      · rename_i hc
        cases hr
        obtain ⟨c, nn⟩ := hf _ _ hc.2.1
        exact run_B ps (run_setF h0 ((sound O n).E k cl he _ _ h1) hc.1 c nn hc.2.2.1 hc.2.2.2)
      · cases hr
    · cases hr
  · rename_i x0 h1
    cases hr
    exact run_B ps (run_setFX ((sound O n).E k cl he _ _ h1))
  · cases hr
theorem raise_sound (k : Ok X S W) (cl : Calls X S O) {f : Str} {p pos pos2 : Pos} {e : Expr} {ce : CE} (hg : S.gl f = true) (hf : f ∈ S.errs) (he : cE S n e = some ce) (hr : evS O (.raise f (.cons ce .nil)) ρ = some o) : Run X.K W (sB X (.Raise (some (.Call (.Name f p) [e] [] pos)) none pos2)) ρ o := by
  obtain ⟨j, hr0, _, hE, _⟩ := cl.ex
  obtain ⟨hdb, C, fl, h1, h2⟩ := hE f hf
  have so := (sound O n).E k cl he ρ
  have hs := star1 he [] X.env
  have pa : PA X [e] (tCons (eB X e) tNil) := pa_cons pe_B pa_nil hs
  simp only [evS, evEs] at hr
  cases hv : evE O ce ρ with
  | none => rw [hv] at hr; simp at hr
  | some r =>
    rw [hv] at hr
    have q := so r hv
    cases r with
    | v m d =>
      simp only [Option.bind_some, List.map_cons, List.map_nil, Option.map_eq_some_iff] at hr
      obtain ⟨x, h3, rfl⟩ := hr
      obtain ⟨h4, d', h5, h6, rfl⟩ := h2 _ _ h3
      cases h5
      exact run_B (ps_raise k.calm k.tk (pmk_err (h1 h4) hr0 h4 (k.gl hg) pa hdb hs rfl)) (run_raise (em_one (ea_cons q ea_nil) h6))
    | x e0 =>
      simp only [Option.bind_some, Option.map_eq_some_iff] at hr
      obtain ⟨x, h3, rfl⟩ := hr
      obtain ⟨h4, _⟩ := h2 _ _ h3
      exact run_B (ps_raise k.calm k.tk (pmk_err (h1 h4) hr0 h4 (k.gl hg) pa hdb hs rfl)) (run_raiseX fun B F H σ e w Q => q B F H σ e w _)
theorem stmt_step (s : SoundS O n) {st : Stmt} {c : CS} (k : Ok X S W) (po : PassesOwn (model X.prog X.w) X.A X.env X.xe) (cl : Calls X S O) (h : cS S (n + 1) st = some c) (hr : evS O c ρ = some o) : Run X.K W (sB X st) ρ o := by
  have so := sound O n
  unfold cS at h
  split at h
  · -- x = e
    split at h
    · rename_i i ce hx he
      cases h
      simp only [evS] at hr
      split at hr
      · rename_i m d h1
        simp only [Option.map_eq_some_iff] at hr
        obtain ⟨sl, h2, rfl⟩ := hr
        exact run_frzA (set_sound k cl hx he h1 h2)
      · rename_i x0 h1
        cases hr
        exact run_frzA (setX_sound k cl hx he h1)
      · cases hr
    · cases h
  · -- x = y = e
    split at h
    · cases h
    · rename_i hl
      split at h
      · rename_i i j ce hx hy he
        cases h
        exact asg2_sound k cl hx hy he (fun a b c d z => hl a b c d z) hr
      · cases h
  · -- while
    split at h
    · rename_i ct cb ht hb
      cases h
      simp only [evS] at hr
      exact run_B (ps_while po pt_B pss_B) (run_while (whl_ok (fun ρ b hb => so.T k cl ht ρ b hb) (fun ρ o ho => s.SS k po cl hb ρ o ho) hr))
    · cases h
  · -- a, b = e1, e2
    split at h
    · rename_i hp
      split at h
      · rename_i i j ca cb hx hy ha hb
        split at h
        · cases h
        · rename_i hij
          cases h
          simp only [evS] at hr
          split at hr
          · rename_i m1 d1 m2 d2 h1 h2
            split at hr
            · rename_i hc
              cases hr
              exact run_frzA (run_frzA (par_sound k cl hp hx hy ha hb hij h1 h2 hc.1 hc.2))
            · cases hr
          · cases hr
      · cases h
    · cases h
  · -- a, b = e
    split at h
    · cases h
    · cases h
    · rename_i hn hl
      split at h
      · rename_i p ce hp he
        cases h
        simp only [evS] at hr
        split at hr
        · rename_i m d h1
          split at hr
          · cases hr
          · rename_i hm
            simp only [Option.map_eq_some_iff] at hr
            obtain ⟨ρ1, h2, rfl⟩ := hr
            exact run_frzA (pat_sound k cl hp he (fun a b c z => hn a b c z) (fun a b c d z => hl a b c d z) h1 hm h2)
        · rename_i x0 h1
          cases hr
          exact run_frzA (patX_sound k cl hp he (fun a b c z => hn a b c z) (fun a b c d z => hl a b c d z) h1)
        · cases hr
      · cases h
  · -- x[i] = e
    split at h
    · cases h
    · rename_i hl
      split at h
      · rename_i v ci ce hx hi he
        cases h
        simp only [evS] at hr
        split at hr
        · rename_i m d m1 z ds h1 h2 h3
          split at hr
          · rename_i hc
            simp only [Option.map_eq_some_iff] at hr
            obtain ⟨q, h4, rfl⟩ := hr
            exact run_frzA (seti_sound k cl hx hi he (fun a b c d z => hl a b c d z) h1 h2 h3 hc h4)
          · cases hr
        · rename_i m d m1 es ks ds h1 h2 h3
          split at hr
          · rename_i hc
            simp only [Option.bind_eq_some_iff] at hr
            obtain ⟨kk, h4, h5⟩ := hr
            split at h5
            · cases h5
            · rename_i hn
              cases h5
              exact run_frzA (putT_sound k cl hx hi he (fun a b c d z => hl a b c d z) h1 h2 h3 hc.1 hc.2 h4 fun z => hn (List.any_eq_true.mpr ⟨kk, z, decide_eq_true rfl⟩))
          · cases hr
        · cases hr
      · cases h
  · -- self.f = e
    split at h
    · cases h
    · rename_i hl
      split at h
      · rename_i v ce hx he
        cases h
        exact setf_sound k cl hx he (fun a b c d z => hl a b c d z) hr
      · cases h
  · -- if
    split at h
    · rename_i ct ca cb ht ha hb
      cases h
      simp only [evS, Option.bind_eq_some_iff] at hr
      obtain ⟨b, h1, h2⟩ := hr
      have tst := so.T k cl ht ρ b h1
      cases b with
      | true =>
        rw [if_pos rfl] at h2
        exact run_B (ps_if pt_B pss_B pss_B) (run_if tst (fun _ => s.SS k po cl ha ρ o h2) (fun z => nomatch z))
      | false =>
        rw [if_neg Bool.false_ne_true] at h2
        exact run_B (ps_if pt_B pss_B pss_B) (run_if tst (fun z => nomatch z) (fun _ => s.SS k po cl hb ρ o h2))
    · cases h
  · -- for
    split at h
    · rename_i p src b hp hs hb
      cases h
      simp only [evS] at hr
      split at hr
      · rename_i its h1
        obtain ⟨c1, c2⟩ := so.C k cl hs
        exact run_frzA (run_B (ps_for po k.calm pi_B (pg_of k hp) pss_B (c2 X.env)) (run_for (c1 _ (fun z => z) _ _ _ h1) (gp_of _ _) (for_ok (fun ρ o ho => s.SS k po cl hb ρ o ho) hr)))
      · cases hr
    · cases h
  · -- return
    simp only [Option.map_eq_some_iff] at h
    obtain ⟨ce, he, rfl⟩ := h
    exact ret_sound k cl he hr
  · -- append
    split at h
    · rename_i ha
      obtain ⟨ha, hline⟩ := ha
      subst ha
      split at h
      · rename_i v ce hx he
        cases h
        simp only [evS] at hr
        split at hr
        · rename_i m d ds h1 h3
          split at hr
          · rename_i hc
            cases hr
            exact run_frzA (app_sound k cl hx he h1 h3 hc.1 hc.2 hline)
          · cases hr
        · cases hr
      · cases h
    · cases h
  · -- insert
    split at h
    · rename_i ha
      obtain ⟨ha, hline⟩ := ha
      subst ha
      split at h
      · rename_i v ck ce hx hk he
        cases h
        simp only [evS] at hr
        split at hr
        · rename_i m1 z m d ds h1 h2 h3
          split at hr
          · rename_i hc
            cases hr
            exact run_frzA (ins_sound k cl hx hk he h1 h2 h3 hc.1 hc.2.1 hc.2.2.1 hc.2.2.2 hline)
          · cases hr
        · cases hr
      · cases h
    · cases h
  · -- f(..)
    simp only [Option.map_eq_some_iff] at h
    obtain ⟨ce, he, rfl⟩ := h
    simp only [evS] at hr
    split at hr
    · rename_i m d h1
      cases hr
      exact run_B (ps_expr pe_B rfl) (run_drop (so.E k cl he _ _ h1))
    · rename_i x0 h1
      cases hr
      exact run_B (ps_expr pe_B rfl) (run_dropX (so.E k cl he _ _ h1))
    · cases hr
  · -- raise
    split at h
    · rename_i hc
      split at h
      · rename_i ce he
        cases h
        exact raise_sound k cl hc.1 hc.2 he hr
      · cases h
    · cases h
  · cases h; simp only [evS, Option.some.injEq] at hr; subst hr; exact run_B ps_pass run_next
  · cases h; simp only [evS, Option.some.injEq] at hr; subst hr; exact run_B ps_break run_break
  · cases h; simp only [evS, Option.some.injEq] at hr; subst hr; exact run_B ps_continue run_cont
  · cases h
theorem lcNGo_ok {scope : Scope} (so : Sound O n) (k : Ok X S W) (cl : Calls X S O) {elt : Expr} {e : CE} {pt : Pat} {ρ0 : List Sl} (he : cE (S.blk scope) n elt = some e) :
    ∀ {its : List Item} {r : List (List D)}, lcNGo (fun it => (bindP pt ρ0 it).bind fun ρ1 => match evE O e ρ1 with | some (.v .n (.lst row)) => some row | _ => none) its = some r → LcN X.K pt ρ0 (bT X scope []) (bE X scope elt) its r
  | [], r, h => by
    simp only [lcNGo, Option.some.injEq] at h
    subst h; exact .nil
  | it :: its, r, h => by
    simp only [lcNGo, Option.bind_eq_some_iff, Option.map_eq_some_iff] at h
    obtain ⟨y, ⟨ρ1, h1, h3⟩, ys, h4, rfl⟩ := h
    have ih := lcNGo_ok so k cl he h4
    have tst : ET X.K (bT X scope []) ρ1 true := et_bT fun s H' C cl' fp => so.Ts (k.blk s H' scope C cl' fp) (cl.blk s H' scope _ fp) (c := .yes) (by cases n <;> rfl) ρ1 true rfl
    split at h3
    · rename_i row h5
      cases h3
      exact .cons h1 tst (ee_bE fun s H' C cl' fp => so.E (k.blk s H' scope C cl' fp) (cl.blk s H' scope _ fp) he ρ1 _ h5) ih
    · cases h3
/-- x = [.. for ..]; x[i][j] = e -/
theorem setN_core (k : Ok X S W) (cl : Calls X S O) {x y : Str} {px py lp pos p1 p2 pos2 : Pos} {elt tg iter i j e2 : Expr} {scope : Scope} {r : List Stmt} {v : Nat} {pt : Pat} {src : CSrc} {e ci cj c2 : CE} (hnl : ∀ a b c d, e2 ≠ .ListComp a b c d)
    (hloc : S.sc.names.lookup x = some .local) (hyx : S.slot y = S.store x) (hx : S.store x = some v) (hp : cP (S.blk scope) n tg = some pt) (hc : cSrc S n (isTup tg) iter = some src) (he : cE (S.blk scope) n elt = some e) (hi : cE S n i = some ci) (hj : cE S n j = some cj) (h2 : cE S n e2 = some c2)
    (hb : blkC S.N S.sc scope (pt.vars.map fun i => (S.N.getD i "", i)) = true) {o1 o : Out} (hr : evS O (.setN v pt src e pt.vars ci cj c2) ρ = some o1) (hu : ∀ ρ1, o1 = .nx ρ1 → Run X.K W (ssB X r) ρ1 o) :
    Run X.K W (ssB X (.Assign [.Name x px] (.ListComp elt [⟨tg, iter, [], 0⟩] scope lp) pos :: .Assign [.Subscript (.Subscript (.Name y py) i p1) j p2] e2 pos2 :: r)) ρ o := by
  have so := sound O n
  obtain ⟨a1, a2, a3⟩ := k.store hx
  obtain ⟨b1, b2, b3, b4⟩ := k.var (hyx.trans hx)
  have hl : X.env.scope.names.lookup x = some .local := by rw [k.sc]; exact hloc
  have hlc : PE X (.ListComp elt [⟨tg, iter, [], 0⟩] scope lp) (tLc (iB X tg iter) (gOf X.K pt) (bT X scope []) (bE X scope elt) pt.vars) := by
    have := pe_lc (g := gOf X.K pt) (pos := lp) k.calm k.nd (pi_B (X := X) (tg := tg) (e := iter)) (blkOk_by (by rw [k.N, k.sc]; exact hb)) (fun s H' C cl' fp => pg_of (k.blk s H' _ C cl' fp) hp) (fun s H' C cl' fp => pts_bT (es := []) s H' C cl' fp) (fun s H' C cl' fp => pe_bE (e := elt) s H' C cl' fp) ((so.C k cl hc).2 X.env)
    rw [blk_vs2] at this
    exact this
  have ps1 : PS X (.Assign [.Name x px] (.ListComp elt [⟨tg, iter, [], 0⟩] scope lp) pos) (tAsg (tLc (iB X tg iter) (gOf X.K pt) (bT X scope []) (bE X scope elt) pt.vars) (gName v)) := by
    obtain ⟨b, hb1⟩ : ∃ b, swapsWith (.ListComp elt [⟨tg, iter, [], 0⟩] scope lp) (some (.Name x px)) pos.line X.env = pure b := ⟨_, rfl⟩
    cases b with
    | false => exact ps_set k.nd a1 a2 hlc hb1 a3
    | true =>
      have := ps_setLc (g := gOf X.K pt) (i := v) k.calm k.nd a1 hl hb1 (pi_B (X := X) (tg := tg) (e := iter)) (blkOk_by (by rw [k.N, k.sc]; exact hb)) (fun s H' C cl' fp => pg_of (k.blk s H' _ C cl' fp) hp) (fun s H' C cl' fp => pts_bT (es := []) s H' C cl' fp) (fun s H' C cl' fp => pe_bE (e := elt) s H' C cl' fp) ((so.C k cl hc).2 X.env)
      rw [blk_vs2] at this
      exact this
  have ps2 : PS X (.Assign [.Subscript (.Subscript (.Name y py) i p1) j p2] e2 pos2) (tAsg (eB X e2) (gSub (tOp (rIxL X.K) (tVar v) (eB X i)) (eB X j) rSetL)) := by
    have pgs : PG X (.Subscript (.Subscript (.Name y py) i p1) j p2) (gSub (tOp (rIxL X.K) (tVar v) (eB X i)) (eB X j) rSetL) := pg_sub (pe_ix ix_list (pe_var b1 b2 b3 b4) pe_B (plainIx hi)) pe_B set_list (by
      cases j <;> first | (intro _; rfl) | (cases n <;> simp [cE] at hj))
    have fin : swapsWithSole [.Subscript (.Subscript (.Name y py) i p1) j p2] e2 pos2.line X.env = pure false → swappedStores [.Subscript (.Subscript (.Name y py) i p1) j p2] e2 X.env = pure none → PS X (.Assign [.Subscript (.Subscript (.Name y py) i p1) j p2] e2 pos2) (tAsg (eB X e2) (gSub (tOp (rIxL X.K) (tVar v) (eB X i)) (eB X j) rSetL)) := fun g1 g2 => ps_asg pe_B pgs g1 g2
    cases e2 with
    | ListComp a b c d => exact absurd rfl (hnl _ _ _ _)
    | SetComp _ _ _ _ => cases n <;> simp [cE] at h2
    | DictComp _ _ _ _ _ => cases n <;> simp [cE] at h2
    | _ => exact fin rfl rfl
  simp only [evS] at hr
  split at hr
  · rename_i st its h1
    simp only [Option.bind_eq_some_iff] at hr
    obtain ⟨rows, h3, h4⟩ := hr
    split at h4
    · rename_i hz
      split at h4
      · rename_i m2 d2 m3 n1 m4 n2 e1 e3 e4
        split at h4
        · rename_i hi2
          simp only [Option.bind_eq_some_iff, Option.map_eq_some_iff] at h4
          obtain ⟨k1, f1, row, f2, k2, f3, rfl⟩ := h4
          exact runs_B (pss_cons ps1 (pss_cons ps2 pss_B)) (run_setN2 ((so.C k cl hc).1 tg (fun z => z) ρ st its h1) (gp_of _ _) (fun i hi => hi) (lcNGo_ok so k cl he h3) hz.1 (so.E k cl h2 _ _ e1) hi2 (so.E k cl hi _ _ e3) (so.E k cl hj _ _ e4) f1 f2 f3 hz.2 (hu _ rfl))
        · cases h4
      · cases h4
    · cases h4
  · cases hr
theorem setN_sound (k : Ok X S W) (cl : Calls X S O) {ss r : List Stmt} {c : CS} (h : cN S n ss = some (c, r)) {o1 o : Out} (hr : evS O c ρ = some o1) (hu : ∀ ρ1, o1 = .nx ρ1 → Run X.K W (ssB X r) ρ1 o) : Run X.K W (ssB X ss) ρ o := by
  unfold cN at h
  split at h
  · split at h
    · cases h
    · rename_i hnl
      split at h
      · rename_i hloc
        split at h
        · rename_i hx hp hc he hi hj h2
          split at h
          · rename_i hb
            cases h
            exact setN_core k cl (fun a b c d z => hnl a b c d z) hloc.1 hloc.2 hx hp hc he hi hj h2 hb hr hu
          · cases h
        · cases h
      · cases h
  · cases h
theorem setN_nx {ss r : List Stmt} {S : Sc} {c : CS} (h : cN S n ss = some (c, r)) {o1 : Out} (hr : evS O c ρ = some o1) : ∃ ρ1, o1 = .nx ρ1 := by
  unfold cN at h
  split at h
  · split at h
    · cases h
    · split at h
      · split at h
        · split at h
          · cases h
            simp only [evS] at hr
            split at hr
            · simp only [Option.bind_eq_some_iff] at hr
              obtain ⟨rows, h3, h4⟩ := hr
              split at h4
              · split at h4
                · split at h4
                  · simp only [Option.bind_eq_some_iff, Option.map_eq_some_iff] at h4
                    obtain ⟨k1, f1, row, f2, k2, f3, rfl⟩ := h4
                    exact ⟨_, rfl⟩
                  · cases h4
                · cases h4
              · cases h4
            · cases hr
          · cases h
        · cases h
      · cases h
  · cases h
end
end QL

end
section
set_option maxRecDepth 100000
set_option maxHeartbeats 8000000
namespace QL
open PySem PySem.Spec PyProof.Rows L2 Evl
theorem zero_soundS (O : Orc) : SoundS O 0 := by
  refine ⟨fun k po cl h => by simp [cS] at h, fun {X S W st c} k po cl h ρ o hr => ?_⟩
  cases st with
  | nil =>
    simp only [cSs, Option.some.injEq] at h; subst h
    simp only [evSs, Option.some.injEq] at hr; subst hr
    exact runs_B pss_nil run_next
  | cons s r => simp [cSs] at h
theorem soundS (O : Orc) : ∀ n, SoundS O n
  | 0 => zero_soundS O
  | n + 1 => by
    have s := soundS O n
    refine ⟨fun k po cl h ρ o hr => stmt_step s k po cl h hr, fun {X S W st c} k po cl h ρ o hr => ?_⟩
    cases st with
    | nil =>
      simp only [cSs, Option.some.injEq] at h; subst h
      simp only [evSs, Option.some.injEq] at hr; subst hr
      exact runs_B pss_nil run_next
    | cons st r =>
      simp only [cSs] at h
      split at h
      · rename_i c1 r1 h1
        simp only [Option.map_eq_some_iff] at h
        obtain ⟨c2, h2, rfl⟩ := h
        simp only [evSs, Option.bind_eq_some_iff] at hr
        obtain ⟨o1, h3, h4⟩ := hr
        obtain ⟨ρ1, rfl⟩ := setN_nx h1 h3
        exact setN_sound k cl h1 h3 fun ρ2 z => by
          cases z
          exact s.SS k po cl h2 ρ1 o h4
      split at h
      · rename_i c1 c2 h1 h2
        cases h
        simp only [evSs, Option.bind_eq_some_iff] at hr
        obtain ⟨o1, h3, h4⟩ := hr
        have r1 := s.S k po cl h1 ρ o1 h3
        split at h4
        · rename_i ρ1
          exact runs_B (pss_cons ps_B pss_B) (run_seq r1 (s.SS k po cl h2 ρ1 o h4))
        · rename_i hn
          simp only [Option.some.injEq] at h4
          subst h4
          refine runs_B (pss_cons ps_B pss_B) (run_stop ?_ r1)
          cases o1 with
          | nx ρ1 => exact absurd rfl (hn ρ1)
          | _ => rfl
      · cases h
theorem mkErr_ok {E : ErrT} {k : Nat} {g : Str} {ds : List D} {x : Er} {C : Addr} {f : Str} (hl : E.lookup g = some (C, f)) (h : mkErr E k g ds = some x) : 2 ≤ k ∧ ∃ d, ds = [d] ∧ saidD d = true ∧ x = ⟨C, [f], [d]⟩ := by
  unfold mkErr at h
  split at h
  · rename_i hk
    refine ⟨hk, ?_⟩
    rw [hl] at h
    split at h
    · rename_i C' f' d heq
      cases heq
      split at h
      · rename_i hs
        cases h
        exact ⟨d, rfl, hs, rfl⟩
      · cases h
    · cases h
  · cases h
theorem look_of {E : ErrT} {g : Str} (h : g ∈ E.map (·.1)) : ∃ C f, E.lookup g = some (C, f) := by
  induction E with
  | nil => cases h
  | cons e E ih =>
    obtain ⟨n, C, f⟩ := e
    simp only [List.lookup]
    cases hb : g == n with
    | true => exact ⟨C, f, rfl⟩
    | false =>
      refine ih ?_
      simp only [List.map_cons, List.mem_cons] at h
      rcases h with h | h
      · subst h; simp at hb
      · exact h
/-- the names that a text may call -/
def Txt.names (T : Txt) : List Str := T.defs.map (·.1) ++ T.clss.map (·.1)
section
variable (P : Program) (w : World) (K : PySem.W.Frag) (mg : Str → Option Value) (base : Heap)
/-- what Calls asks, k deep -/
structure CallsAt (defs errs : List Str) (fl : Fl) (O : Orc) (k : Nat) : Prop where
  fn : ∀ g ∈ defs, (∃ ps, HasX fl.rp P w K mg base g k ps (SpE K (O.call g))) ∨
    ∃ j C ps, j + 1 ≤ k ∧ HasC P w K mg base g C j ps (SpC K C (O.call g)) ∧ ∀ ds m d, O.call g ds = some (.ok m d) → m = .f ∧ ∃ ns es, d = .obj C ns es
  er : ∀ g ∈ errs, (g == ("__debug__" : Str)) = false ∧ ∃ C f, (2 ≤ k → ErrOk P w K mg base g f C) ∧ ∀ ds x, O.mkE g ds = some x → 2 ≤ k ∧ ∃ d, ds = [d] ∧ saidD d = true ∧ x = ⟨C, [f], [d]⟩
  me : ∀ C m, O.mok C m = true → ∃ ps, HasM P w K mg base C m k ps (SpE K (O.meth C m))
  fl : ∀ C f, O.fok C f = true → Cls K C ∧ NoAttr K C f
end
section
variable {P : Program} {w : World} {K : PySem.W.Frag} {mg : Str → Option Value} {base : Heap} {x qual : Str} {st : Stmt} {f C : Addr} {fd : FuncData} {N ps : List Str} {k : Nat} {defs errs : List Str} {n : Nat} {c : CSs} {O : Orc} {fl : Fl}
/-- a def that is compiled keeps its promise -/
theorem fn_ok (F : Fun K x qual st f fd) (S : FnScope N ps (defScope st)) (hc : cSs ⟨N, defScope st, defScope st, defs, errs, fl⟩ n (defBody st) = some c) (hb : ∀ y ∈ bNames, y ∉ defs → mg y = none) (hd : ("__debug__" : Str) ∉ defs)
    (hgc : fl.gcd = true → mg "gcd" = some (.builtin "math.gcd")) (hh : CallsAt P w K mg base defs errs fl O k) : FnR fl.rp P w K mg base (k + 1) f fd ps (SpE K (evD O ⟨N.length, ps.length, c⟩)) := by
  have hlen : ∀ {ds : List D} {r : Res}, evD O ⟨N.length, ps.length, c⟩ ds = some r → ds.length = ps.length := fun {ds r} h => by
    unfold evD at h
    split at h
    · assumption
    · cases h
  refine okR F S (fun vs H Q E h => ?_) (fun cdv A outer s H vs Q E hr hgd h => ?_)
  · obtain ⟨Fi, ds, x, h1, h2⟩ := h
    rw [h1.len]
    rcases h2 with ⟨m, d, h3, _⟩ | ⟨x, h3, _⟩ <;> exact hlen h3
  · obtain ⟨Fi, ds, xF, h1, h2⟩ := h
    refine ⟨_, pss_B, ?_⟩
    let X := cxOf (L2.CX P w) P w K mg base N qual (defScope st) f cdv A outer s H E
    have ok : Ok X ⟨N, defScope st, defScope st, defs, errs, fl⟩ (fun cls d _ H => E cls d H) := ⟨rfl, S.nd, rfl, rfl, fun _ _ => rfl, hb, by have := hr.un; show X.A.units + 70 < cLine; have e : X.A.units + 16 * k + 200 < cLine := hr.un; omega, hgd, hgc, takes_of rfl rfl rfl rfl, hd⟩
    have cl : Calls X ⟨N, defScope st, defScope st, defs, errs, fl⟩ O := ⟨⟨k, hr, hh.fn, hh.er, hh.me, hh.fl⟩⟩
    have run := (soundS O n).SS ok (passes_of rfl) cl hc (slots N.length ds)
    rcases h2 with ⟨m, d, h3, hm, q⟩ | ⟨x, h3, q⟩
    · unfold evD at h3
      split at h3
      · simp only [Option.bind_eq_some_iff] at h3
        obtain ⟨o, h4, h5⟩ := h3
        exact fin_ok xF h1 (run o h4) h5 q
      · cases h3
    · unfold evD at h3
      split at h3
      · simp only [Option.bind_eq_some_iff] at h3
        obtain ⟨o, h4, h5⟩ := h3
        cases o with
        | nx _ => cases h5
        | bk _ => cases h5
        | ct _ => cases h5
        | rt m d =>
          simp only [fin] at h5
          split at h5 <;> cases h5
        | xs x' ρ' =>
          cases h5
          exact fin_X xF h1 (run _ h4) q
      · cases h3
/-- an __init__ that is compiled keeps its promise -/
theorem init_ok (hfl : fl.rp = false) (hgc : fl.gcd = true → mg "gcd" = some (.builtin "math.gcd")) (F : Fun K x qual st f fd) (S : FnScope N ps (defScope st)) (hc : cSs ⟨N, defScope st, defScope st, defs, errs, fl⟩ n (defBody st) = some c) (hb : ∀ y ∈ bNames, y ∉ defs → mg y = none) (hd : ("__debug__" : Str) ∉ defs) (hN : 0 < N.length)
    (hh : CallsAt P w K mg base defs errs fl O k) : FnOk P w K mg base (L2.CX P w) (k + 1) f fd ps (SpC K C (evI O C ⟨N.length, ps.length, c⟩)) := by
  have hlen : ∀ {ds : List D} {r : Res}, evI O C ⟨N.length, ps.length, c⟩ ds = some r → ds.length + 1 = ps.length ∧ ∀ a dx, (evSs O c (slotsI N.length a dx C ds)).bind (finI a dx C) = some r := fun {ds r} h => by
    unfold evI at h
    split at h
    · rename_i hl; exact ⟨hl, mkI_all h⟩
    · cases h
  refine F.okX S (fun vs H Q E h => ?_) (fun cdv A outer s H vs Q E hr h => ?_)
  · obtain ⟨a, dx, ws, H1, Fi, ds, rfl, _, _, _, _, _, h1, h2⟩ := h
    rw [List.length_cons, h1.len]
    rcases h2 with ⟨ns, es, h3, _⟩ | ⟨x, h3, _⟩ <;> exact (hlen h3).1
  · obtain ⟨a, dx, ws, H1, Fi, ds, rfl, ha, hdx, hne, rfl, xF, h1, h2⟩ := h
    refine ⟨_, pss_B, ?_⟩
    let X := cxOf (L2.CX P w) P w K mg base N qual (defScope st) f cdv A outer s (upd (upd H1 dx (.own a)) a (.ins C dx [])) E
    have ok : Ok X ⟨N, defScope st, defScope st, defs, errs, fl⟩ (fun cls d _ H => E cls d H) := ⟨rfl, S.nd, rfl, rfl, fun _ _ => rfl, hb, by have e : X.A.units + 16 * k + 200 < cLine := hr.un; omega, (fun z => by rw [hfl] at z; cases z), hgc, takes_of rfl rfl rfl rfl, hd⟩
    have cl : Calls X ⟨N, defScope st, defScope st, defs, errs, fl⟩ O := ⟨⟨k, hr, hh.fn, hh.er, hh.me, hh.fl⟩⟩
    have run := (soundS O n).SS ok (passes_of rfl) cl hc (slotsI N.length a dx C ds)
    rcases h2 with ⟨ns, es, h3, q⟩ | ⟨x, h3, q⟩
    · have h4 := (hlen h3).2 a dx
      simp only [Option.bind_eq_some_iff] at h4
      obtain ⟨o, h4, h5⟩ := h4
      exact fin_I (E := E) ha hdx hne xF h1 hN (run o h4) h5 q
    · have h4 := (hlen h3).2 a dx
      simp only [Option.bind_eq_some_iff] at h4
      obtain ⟨o, h4, h5⟩ := h4
      cases o with
      | nx ρ' =>
        unfold finI at h5
        dsimp only at h5
        split at h5
        · split at h5 <;> cases h5
        · cases h5
      | bk _ => cases h5
      | ct _ => cases h5
      | rt m d => cases h5
      | xs x' ρ' =>
        cases h5
        exact fin_IX ha hdx hne xF h1 hN (run _ h4) q
theorem fn_none {f : Addr} {fd : FuncData} {ps : List Str} {CX : CXT} {R : List D → Option Res} (hR : ∀ ds, R ds = none) : FnOk P w K mg base CX k f fd ps (SpE K R) := by
  have key : ∀ {vs : List V} {H : Hp} {Q : VK} {E : XK}, ¬ SpE K R vs H Q E := by
    intro vs H Q E h
    obtain ⟨Fi, ds, x, h1, h2⟩ := h
    rcases h2 with ⟨m, d, h3, _⟩ | ⟨x, h3, _⟩
    · rw [hR] at h3; cases h3
    · rw [hR] at h3; cases h3
  exact ⟨fun vs H Q E h => (key h).elim, fun A outer s H args us vs Q E _ _ _ _ h => (key h).elim⟩
theorem init_none {f : Addr} {fd : FuncData} {ps : List Str} {CX : CXT} {R : List D → Option Res} (hR : ∀ ds, R ds = none) : FnOk P w K mg base CX k f fd ps (SpC K C R) := by
  have key : ∀ {vs : List V} {H : Hp} {Q : VK} {E : XK}, ¬ SpC K C R vs H Q E := by
    intro vs H Q E h
    obtain ⟨a, dx, ws, H1, Fi, ds, rfl, _, _, _, _, _, h1, h2⟩ := h
    rcases h2 with ⟨m, d, h3, _⟩ | ⟨x, h3, _⟩
    · rw [hR] at h3; cases h3
    · rw [hR] at h3; cases h3
  exact ⟨fun vs H Q E h => (key h).elim, fun A outer s H args us vs Q E _ _ _ _ h => (key h).elim⟩
/-- a def of the text, as it stands in the heap -/
structure DefAt (K : PySem.W.Frag) (mg : Str → Option Value) (T : Txt) (x : Str) (ps : List Str) : Prop where
  ex : ∃ (st : Stmt) (f : Addr) (fd : FuncData) (N : List Str) (n : Nat) (c : CSs), Fun K x x st f fd ∧ FnScope N ps (defScope st) ∧ mg x = some (.ref f) ∧ PySem.W.keepIn K (.ref f) = true ∧ Binds K fd ps [] ∧
    cSs ⟨N, defScope st, defScope st, T.names, T.errs.map (·.1), T.fl⟩ n (defBody st) = some c ∧ T.defs.lookup x = some ⟨N.length, ps.length, c⟩
/-- a class -/
structure ClsAt (K : PySem.W.Frag) (mg : Str → Option Value) (T : Txt) (x : Str) (C : Addr) (cd : CDef) (ps : List Str) : Prop where
  ex : ∃ (qual : Str) (st : Stmt) (f : Addr) (fd : FuncData) (N : List Str) (n : Nat) (c : CSs), Fun K "__init__" qual st f fd ∧ FnScope N ps (defScope st) ∧ Mk K C f ∧ mg x = some (.ref C) ∧ Binds K fd ps [] ∧ 0 < N.length ∧
    cSs ⟨N, defScope st, defScope st, T.names, T.errs.map (·.1), T.fl⟩ n (defBody st) = some c ∧ cd = ⟨N.length, ps.length, c⟩
/-- a method -/
structure MetAt (K : PySem.W.Frag) (T : Txt) (C : Addr) (m : Str) (cd : CDef) (ps : List Str) : Prop where
  ex : ∃ (qual : Str) (st : Stmt) (f : Addr) (fd : FuncData) (N : List Str) (n : Nat) (c : CSs), Fun K m qual st f fd ∧ FnScope N ps (defScope st) ∧ Cls K C ∧ Meth K C m f ∧ Binds K fd ps [] ∧
    cSs ⟨N, defScope st, defScope st, T.names, T.errs.map (·.1), T.fl⟩ n (defBody st) = some c ∧ cd = ⟨N.length, ps.length, c⟩
structure TxtAt (P : Program) (w : World) (K : PySem.W.Frag) (mg : Str → Option Value) (base : Heap) (T : Txt) : Prop where
  fn : ∀ g ∈ T.defs.map (·.1), ∃ ps, DefAt K mg T g ps
  cl : ∀ g ∈ T.clss.map (·.1), T.defs.lookup g = none ∧ ∃ C c ps, T.clss.lookup g = some (C, c) ∧ ClsAt K mg T g C c ps
  me : ∀ C m c, T.mets.lookup (C, m) = some c → ∃ ps, MetAt K T C m c ps
  er : ∀ g C f, T.errs.lookup g = some (C, f) → ErrOk P w K mg base g f C
  fl : ∀ C f, T.flds.contains (C, f) = true → Cls K C ∧ NoAttr K C f
  hb : ∀ y ∈ bNames, y ∉ T.names → mg y = none
  hd : ("__debug__" : Str) ∉ T.names
  he : ∀ g ∈ T.errs.map (·.1), (g == ("__debug__" : Str)) = false
  gc : T.fl.gcd = true → mg "gcd" = some (.builtin "math.gcd")
  rp : T.fl.rp = true → T.clss = [] ∧ T.mets = []
theorem evI_obj {O : Orc} {c : CDef} {ds : List D} {m : Md} {d : D} (h : evI O C c ds = some (.ok m d)) : m = .f ∧ ∃ ns es, d = .obj C ns es := by
  unfold evI at h
  split at h
  · have h4 := mkI_all h 0 0
    simp only [Option.bind_eq_some_iff] at h4
    obtain ⟨o, h4, h5⟩ := h4
    cases o with
    | nx ρ' =>
      unfold finI at h5
      dsimp only at h5
      split at h5
      · split at h5
        · cases h5; exact ⟨rfl, _, _, rfl⟩
        · cases h5
      · cases h5
    | bk _ => cases h5
    | ct _ => cases h5
    | rt _ _ => cases h5
    | xs _ _ => cases h5
  · cases h
theorem errs_at {T : Txt} (h : TxtAt P w K mg base T) (k : Nat) : ∀ g ∈ T.errs.map (·.1), (g == ("__debug__" : Str)) = false ∧ ∃ C f, (2 ≤ k → ErrOk P w K mg base g f C) ∧ ∀ ds x, mkErr T.errs k g ds = some x → 2 ≤ k ∧ ∃ d, ds = [d] ∧ saidD d = true ∧ x = ⟨C, [f], [d]⟩ := fun g hg => by
  obtain ⟨C, f, hl⟩ := look_of hg
  exact ⟨h.he g hg, C, f, fun _ => h.er g C f hl, fun ds x hx => mkErr_ok hl hx⟩
/-- all the defs keep their promises -/
theorem calls_ok {T : Txt} (h : TxtAt P w K mg base T) : ∀ k, CallsAt P w K mg base T.names (T.errs.map (·.1)) T.fl (orc T k) (k + 1) ∧ ∀ g ∈ T.clss.map (·.1), ∃ C ps, HasC P w K mg base g C (k + 1) ps (SpC K C ((orc T k).ini g)) ∧ ∀ ds m d, (orc T k).ini g ds = some (.ok m d) → m = .f ∧ ∃ ns es, d = .obj C ns es
  | 0 => by
    refine ⟨⟨fun g hg => ?_, errs_at h 1, fun C m hm => ?_, h.fl⟩, fun g hg => ?_⟩
    · unfold Txt.names at hg
      rcases List.mem_append.mp hg with hg | hg
      · obtain ⟨ps, st, f, fd, N, n, c, F, S, h1, h2, h3, h4, h5⟩ := h.fn g hg
        exact .inl ⟨ps, f, fd, .of (fn_none fun ds => rfl), h1, h2, h3⟩
      · obtain ⟨_, C, cd, ps, _, qual, st, f, fd, N, n, c, F, S, h1, h2, h3, _⟩ := h.cl g hg
        exact .inr ⟨0, C, ps, Nat.le_refl _, ⟨f, fd, h1, init_none fun ds => rfl, h2, h3⟩, fun ds m d z => by cases z⟩
    · obtain ⟨c, hc⟩ := Option.isSome_iff_exists.mp hm
      obtain ⟨ps, qual, st, f, fd, N, n, c, F, S, h1, h2, h3, _⟩ := h.me C m c hc
      exact ⟨ps, f, fd, h1, h2, fn_none fun ds => rfl, h3⟩
    · obtain ⟨_, C, cd, ps, _, qual, st, f, fd, N, n, c, F, S, h1, h2, h3, _⟩ := h.cl g hg
      exact ⟨C, ps, ⟨f, fd, h1, init_none fun ds => rfl, h2, h3⟩, fun ds m d z => by cases z⟩
  | k + 1 => by
    obtain ⟨ih, ic⟩ := calls_ok h k
    refine ⟨⟨fun g hg => ?_, errs_at h (k + 2), fun C m hm => ?_, h.fl⟩, fun g hg => ?_⟩
    · unfold Txt.names at hg
      rcases List.mem_append.mp hg with hg | hg
      · obtain ⟨ps, st, f, fd, N, n, c, F, S, h1, h2, h3, h4, h5⟩ := h.fn g hg
        refine .inl ⟨ps, f, fd, ?_, h1, h2, h3⟩
        have e : (orc T (k + 1)).call g = evD (orc T k) ⟨N.length, ps.length, c⟩ := by
          funext ds
          simp only [orc, h5]
        rw [e]
        exact fn_ok F S h4 h.hb h.hd h.gc ih
      · obtain ⟨hn, C0, cd, ps0, hl, _⟩ := h.cl g hg
        obtain ⟨C, ps, hC, hO⟩ := ic g hg
        have e : (orc T (k + 1)).call g = (orc T k).ini g := by
          funext ds
          simp only [orc, hn]
        refine .inr ⟨k + 1, C, ps, Nat.le_refl _, ?_, ?_⟩
        · rw [e]; exact hC
        · rw [e]; exact hO
    · obtain ⟨c0, hc⟩ := Option.isSome_iff_exists.mp hm
      obtain ⟨ps, qual, st, f, fd, N, n, c, F, S, h1, h2, h3, h4, rfl⟩ := h.me C m c0 hc
      have e : (orc T (k + 1)).meth C m = evD (orc T k) ⟨N.length, ps.length, c⟩ := by
        funext ds
        simp only [orc, hc]
      refine ⟨ps, f, fd, h1, h2, ?_, h3⟩
      rw [e]
      have nr : T.fl.rp = false := by
        cases hb : T.fl.rp with
        | false => rfl
        | true => rw [(h.rp hb).2] at hc; cases hc
      have F0 := fn_ok F S h4 h.hb h.hd h.gc ih
      rw [nr] at F0
      exact F0.ok
    · obtain ⟨_, C, cd, ps, hl, qual, st, f, fd, N, n, c, F, S, h1, h2, h3, hN, h4, rfl⟩ := h.cl g hg
      have e : (orc T (k + 1)).ini g = evI (orc T k) C ⟨N.length, ps.length, c⟩ := by
        funext ds
        simp only [orc, hl]
      refine ⟨C, ps, ⟨f, fd, h1, ?_, h2, h3⟩, ?_⟩
      · rw [e]
        have nr : T.fl.rp = false := by
          cases hb : T.fl.rp with
          | false => rfl
          | true => rw [(h.rp hb).1] at hl; cases hl
        exact init_ok nr h.gc F S h4 h.hb h.hd hN ih
      · rw [e]
        exact fun ds m d z => evI_obj z
/-- the law's own def -/
theorem law_ok {T : Txt} (h : TxtAt P w K mg base T) {k : Nat} {x : Str} {ps : List Str} {st : Stmt} {f : Addr} {fd : FuncData} {N : List Str} {n : Nat} {c : CSs}
    (F : Fun K x x st f fd) (S : FnScope N ps (defScope st)) (h4 : cSs ⟨N, defScope st, defScope st, T.names, T.errs.map (·.1), T.fl⟩ n (defBody st) = some c) (h5 : T.defs.lookup x = some ⟨N.length, ps.length, c⟩) : FnR T.fl.rp P w K mg base (k + 2) f fd ps (SpE K (evF T (k + 1) x)) := by
  have e : evF T (k + 1) x = evD (orc T k) ⟨N.length, ps.length, c⟩ := by
    funext ds
    simp only [evF, orc, h5]
  rw [e]
  exact fn_ok F S h4 h.hb h.hd h.gc (calls_ok h k).1
theorem law_sp {R : List D → Option Res} {H : Hp} {a : Addr} {ns : List Int} {Q : VK} {E : XK} (hS : SqL K H a (ns.map V.int)) (h : R [.scr ns] = some (.ok .f (.bl true))) (q : ∀ v H', v = .bl true → Q v H') : SpE K R [.ref a] H Q E :=
  ⟨H, [.scr ns], Ex.refl _, .cons (.fz (.scr hS)) .nil, .inl ⟨.f, .bl true, h, .inl rfl, fun v F' H' _ dv => q v H' (Dt.bl_inv dv)⟩⟩
end
end QL

end
section
set_option maxRecDepth 100000
set_option maxHeartbeats 4000000
namespace QL
open PySem PySem.Spec PyProof.Rows L2 Evl
/-! ### the evaluator, step by step, for rewriting -/
def varS : Option Sl → Option Rv
  | some (.dat d) => some (.v .f d)
  | some (.bor d) => some (.v (nrm .b d) d)
  | some (.own ds) => some (.v .o (.lst ds))
  | some (.ownD ks ds) => some (.v .o (.dic ks ds))
  | some (.ownT ks ds) => some (.v .o (.dit ks ds))
  | _ => none
def op2 (f : Md → D → Md → D → Option Rv) (a b : Option Rv) : Option Rv := bv a fun m1 d1 => bv b fun m2 d2 => f m1 d1 m2 d2
def cmpV (o : CO) (_ : Md) (d1 : D) (_ : Md) (d2 : D) : Option Rv := (cmpD o d1 d2).bind fun b => fv (.bl b)
def ixV (m : Md) (d : D) (_ : Md) (e : D) : Option Rv := match e with | .int i => ixD m d i | .tup es => dgD m d es | _ => none
def b2V (f : B2) (_ : Md) (d : D) (_ : Md) (e : D) : Option Rv := b2D f d e
def negV (_ : Md) (d : D) : Option Rv := match d with | .int i => fv (.int (-i)) | _ => none
def notV (_ : Md) (d : D) : Option Rv := match d with | .bl b => fv (.bl (!b)) | _ => none
def isiV (T : String) (_ : Md) (d : D) : Option Rv := isiD d T
def blV (_ : Md) (e : D) : Option Rv := match e with | .bl y => fv (.bl y) | _ => none
def andR (O : Orc) (b : CE) (ρ : List Sl) : Option Rv → Option Rv := fun r => bv r fun _ d => match d with
    | .bl true => bv (evE O b ρ) fun _ e => match e with | .bl y => fv (.bl y) | _ => none
    | .bl false => fv (.bl false)
    | _ => none
def orR (O : Orc) (b : CE) (ρ : List Sl) : Option Rv → Option Rv := fun r => bv r fun _ d => match d with
    | .bl false => bv (evE O b ρ) fun _ e => match e with | .bl y => fv (.bl y) | _ => none
    | .bl true => fv (.bl true)
    | _ => none
def ifE (O : Orc) (a b : CE) (ρ : List Sl) : Option Bool → Option Rv := fun r => r.bind fun c => if c = true then evE O a ρ else evE O b ρ
def tupR : Option Ra → Option Rv := fun r => r.bind fun r => match r with
    | .v ms => if ms.length ≤ 100000 then (if allCf ms = true then fv (.tup (ms.map (·.2))) else if immA (ms.map (·.2)) = false then some (.v .h (.tup (ms.map (·.2)))) else none) else none
    | .x e => some (.x e)
def lstR : Option Ra → Option Rv := fun r => r.bind fun r => match r with
    | .v ms => if ms.length ≤ 100000 then (if allCf ms = true then some (.v .n (.lst (ms.map (·.2)))) else some (.v .h (.lst (ms.map (·.2))))) else none
    | .x e => some (.x e)
def callQ : Option Res → Option Rv
  | some (.ok m d) => if m = .f ∨ m = .n then some (.v m d) else none
  | some (.er e) => some (.x e)
  | none => none
def callR (F : List D → Option Res) : Option Ra → Option Rv := fun r => r.bind fun r => match r with
    | .v ms => callQ (F (ms.map (·.2)))
    | .x e => some (.x e)
def chainR (o o' : CO) : Option Rv → Option Rv → Option Rv → Option Rv
  | some (.v _ (.int i)), some (.v _ (.int j)), some (.v _ (.int k)) => (cmpI o i j).bind fun x => (cmpI o' j k).bind fun y => if (o = .eq ∨ o = .ne ∨ o' = .eq ∨ o' = .ne) then none else fv (.bl (x && y))
  | _, _, _ => none
def elt1 : Option Rv → Option (List (Md × D))
  | some (.v m d) => some [(m, d)]
  | _ => none
def ifL (O : Orc) (e : CE) (ρ : List Sl) : Option Bool → Option (List (Md × D)) := fun r => r.bind fun c => if c = true then elt1 (evE O e ρ) else some []
def lcB (O : Orc) (t : CT) (e : CE) : Option (List Sl) → Option (List (Md × D)) := fun r => r.bind fun ρ1 => ifL O e ρ1 (evT O t ρ1)
def lcBody (O : Orc) (pt : Pat) (t : CT) (e : CE) (ρ0 : List Sl) (it : Item) : Option (List (Md × D)) := lcB O t e (bindP pt ρ0 it)
def lcR (O : Orc) (pt : Pat) (t : CT) (e : CE) (ρ0 : List Sl) : Option Rs → Option Rv := fun r => r.bind fun r => match r with
    | .v _ its => (lcGo (lcBody O pt t e ρ0) its).bind lcD
def lc2I (O : Orc) (pt1 : Pat) (t1 : CT) (e : CE) (ρ0 : List Sl) : Option Rs → Option (List (Md × D)) := fun r => r.bind fun r1 => match r1 with
          | .v true its1 => lcGo (lcBody O pt1 t1 e ρ0) its1
          | _ => none
def ifL2 (O : Orc) (pt1 : Pat) (src1 : CSrc) (t1 : CT) (vs1 : List Nat) (e : CE) (ρ : List Sl) : Option Bool → Option (List (Md × D)) := fun r => r.bind fun c => if c = true then lc2I O pt1 t1 e (wipeR ρ vs1) (evSrc O src1 ρ) else some []
def lcB2 (O : Orc) (t : CT) (pt1 : Pat) (src1 : CSrc) (t1 : CT) (vs1 : List Nat) (e : CE) : Option (List Sl) → Option (List (Md × D)) := fun r => r.bind fun ρ1 => ifL2 O pt1 src1 t1 vs1 e ρ1 (evT O t ρ1)
def lcBody2 (O : Orc) (pt : Pat) (t : CT) (pt1 : Pat) (src1 : CSrc) (t1 : CT) (vs1 : List Nat) (e : CE) (ρ0 : List Sl) (it : Item) : Option (List (Md × D)) := lcB2 O t pt1 src1 t1 vs1 e (bindP pt ρ0 it)
def lcR2 (O : Orc) (pt : Pat) (t : CT) (pt1 : Pat) (src1 : CSrc) (t1 : CT) (vs1 : List Nat) (e : CE) (ρ0 : List Sl) : Option Rs → Option Rv := fun r => r.bind fun r => match r with
    | .v _ its => (lcGo (lcBody2 O pt t pt1 src1 t1 vs1 e ρ0) its).bind lcD
def consR : Option Rv → Option Ra → Option Ra
  | some (.v m d), r => r.bind fun x => match x with
      | .v ms => some (.v ((m, d) :: ms))
      | .x e => some (.x e)
  | some (.x e), _ => some (.x e)
  | none, _ => none
def r1R : Option Rv → Option Rs
  | some (.v _ (.int n)) => if -100000 ≤ n ∧ n ≤ 100000 then some (.v true (rngIt 0 n.toNat)) else none
  | _ => none
def r2R : Option Rv → Option Rv → Option Rs
  | some (.v _ (.int lo)), some (.v _ (.int n)) => if -100000 ≤ n ∧ n ≤ 100000 ∧ -100000 ≤ lo ∧ lo ≤ 100000 then some (.v true (rngIt lo (n - lo).toNat)) else none
  | _, _ => none
def seqR : Option Rv → Option Rs
  | some (.v m d) => srcD m d
  | _ => none
def tstR : Option Rv → Option Bool
  | some (.v _ d) => truthD d
  | _ => none
def andT (O : Orc) (b : CT) (ρ : List Sl) : Option Bool → Option Bool := fun r => r.bind fun c => if c = true then evT O b ρ else some false
def orT (O : Orc) (b : CT) (ρ : List Sl) : Option Bool → Option Bool := fun r => r.bind fun c => if c = true then some true else evT O b ρ
def thenS (O : Orc) (r : CSs) : Option Out → Option Out := fun o => o.bind fun o => match o with
    | .nx ρ1 => evSs O r ρ1
    | o => some o
def setQ (i : Nat) (ρ : List Sl) : Option Sl → Option Out := fun s => s.map fun s => .nx (ρ.set i s)
def setR (i : Nat) (ρ : List Sl) : Option Rv → Option Out
  | some (.v m d) => setQ i ρ (slotV m d)
  | some (.x e) => some (.xs e ρ)
  | none => none
def patR (p : Pat) (ρ : List Sl) : Option Rv → Option Out
  | some (.v m d) => if m = .n then none else (bindP p ρ (.one m d)).map .nx
  | some (.x e) => some (.xs e ρ)
  | none => none
def setiR (i : Nat) (ρ : List Sl) : Option Rv → Option Rv → Option Sl → Option Out
  | some (.v m d), some (.v _ (.int n)), some (.own ds) => if cf m d = true then (ixN ds.length n).map fun k => .nx (ρ.set i (.own (ds.set k d))) else none
  | some (.v m d), some (.v _ (.tup es)), some (.ownT ks ds) => if cf m d = true ∧ ks.length < 100000 then (keysOf es).bind fun k => if (ks.any fun z => decide (z = k)) = true then none else some (.nx (ρ.set i (.ownT (ks ++ [k]) (ds ++ [d])))) else none
  | _, _, _ => none
def appR (i : Nat) (ρ : List Sl) : Option Rv → Option Sl → Option Out
  | some (.v m d), some (.own ds) => if cf m d = true ∧ ds.length < 100000 then some (.nx (ρ.set i (.own (ds ++ [d])))) else none
  | _, _ => none
def insR (i : Nat) (ρ : List Sl) : Option Rv → Option Rv → Option Sl → Option Out
  | some (.v _ (.int n)), some (.v m d), some (.own ds) => if cf m d = true ∧ ds.length < 100000 ∧ 0 ≤ n ∧ n < 2 ^ 63 then some (.nx (ρ.set i (.own (ds.take n.toNat ++ [d] ++ ds.drop n.toNat)))) else none
  | _, _, _ => none
def ifS (O : Orc) (a b : CSs) (ρ : List Sl) : Option Bool → Option Out := fun r => r.bind fun c => if c = true then evSs O a ρ else evSs O b ρ
def forR (O : Orc) (p : Pat) (body : CSs) (ρ : List Sl) : Option Rs → Option Out
  | some (.v true its) => forGo p (evSs O body) its ρ
  | _ => none
def retV : Option Sl → Option Out
    | some (.own ds) => some (.rt .n (.lst ds))
    | some (.ownD ks ds) => some (.rt .n (.dic ks ds))
    | some (.ownT ks ds) => some (.rt .n (.dit ks ds))
    | some (.dat d) => some (.rt .f d)
    | some (.bor d) => some (.rt (nrm .b d) d)
    | _ => none
def retR (ρ : List Sl) : Option Rv → Option Out
  | some (.v m d) => some (.rt m d)
  | some (.x e) => some (.xs e ρ)
  | none => none
def exprR (ρ : List Sl) : Option Rv → Option Out
  | some (.v _ _) => some (.nx ρ)
  | some (.x e) => some (.xs e ρ)
  | none => none
section
variable {O : Orc} {ρ : List Sl} {i : Nat} {a b c e t k : CE} {es : CEs} {o o' : CO} {m m1 m2 : Md} {d d1 d2 : D} {x : Er}
theorem ev_var : evE O (.var i) ρ = varS ρ[i]? := by
  simp only [evE, varD]; cases ρ[i]? with
  | none => rfl
  | some s => cases s <;> rfl
theorem ev_int {n : Int} : evE O (.int n) ρ = some (.v .f (.int n)) := rfl
theorem ev_bl {n : Bool} : evE O (.bl n) ρ = some (.v .f (.bl n)) := rfl
theorem ev_str {n : Str} : evE O (.str n) ρ = some (.v .f (.str n)) := rfl
theorem ev_non : evE O .non ρ = some (.v .f .non) := rfl
theorem ev_bin {q : BO} : evE O (.bin q a b) ρ = op2 (binD q) (evE O a ρ) (evE O b ρ) := rfl
theorem ev_cmp : evE O (.cmp o a b) ρ = op2 (cmpV o) (evE O a ρ) (evE O b ρ) := rfl
theorem ev_chain : evE O (.chain o o' a b c) ρ = chainR o o' (evE O a ρ) (evE O b ρ) (evE O c ρ) := rfl
theorem ev_neg : evE O (.neg a) ρ = bv (evE O a ρ) negV := rfl
theorem ev_not : evE O (.not a) ρ = bv (evE O a ρ) notV := rfl
theorem ev_and : evE O (.and a b) ρ = andR O b ρ (evE O a ρ) := rfl
theorem ev_or : evE O (.or a b) ρ = orR O b ρ (evE O a ρ) := rfl
theorem ev_ife {t : CT} : evE O (.ife t a b) ρ = ifE O a b ρ (evT O t ρ) := rfl
theorem ev_ix : evE O (.ix a b) ρ = op2 ixV (evE O a ρ) (evE O b ρ) := rfl
theorem ev_tup : evE O (.tup es) ρ = tupR (evEs O es ρ) := rfl
theorem ev_lst : evE O (.lst es) ρ = lstR (evEs O es ρ) := rfl
theorem ev_call {g : Str} : evE O (.call g es) ρ = callR (O.call g) (evEs O es ρ) := by
  simp only [evE, callR]
  rcases evEs O es ρ with _ | r
  · rfl
  · cases r with
    | x e => rfl
    | v ms =>
      simp only [Option.bind_some]
      rcases O.call g (ms.map (·.2)) with _ | r
      · rfl
      · cases r <;> rfl
theorem ev_b1 {f : B1} : evE O (.b1 f a) ρ = bv (evE O a ρ) (b1D f) := rfl
theorem ev_b2 {f : B2} : evE O (.b2 f a b) ρ = op2 (b2V f) (evE O a ρ) (evE O b ρ) := rfl
theorem ev_isi {T : String} : evE O (.isi a T) ρ = bv (evE O a ρ) (isiV T) := rfl
theorem lcB_eq {pt : Pat} {t : CT} {ρ0 : List Sl} : (fun it => (bindP pt ρ0 it).bind fun ρ1 => (evT O t ρ1).bind fun c => if c = true then (match evE O e ρ1 with | some (.v m d) => some [(m, d)] | _ => none) else some []) = lcBody O pt t e ρ0 := by
  funext it
  simp only [lcBody, lcB, ifL]
  rcases bindP pt ρ0 it with _ | ρ1
  · rfl
  · simp only [Option.bind_some]
    rcases evT O t ρ1 with _ | c
    · rfl
    · cases c with
      | true =>
        simp only [Option.bind_some, if_true]
        rcases evE O e ρ1 with _ | r
        · rfl
        · cases r <;> rfl
      | false => rfl
theorem ev_lc {pt : Pat} {src : CSrc} {t : CT} {vs : List Nat} : evE O (.lc pt src t e vs) ρ = lcR O pt t e (wipeR ρ vs) (evSrc O src ρ) := by
  simp only [evE, lcB_eq]; rfl
theorem ev_lc2 {pt pt1 : Pat} {src src1 : CSrc} {t t1 : CT} {vs vs1 : List Nat} : evE O (.lc2 pt src t pt1 src1 t1 vs1 e vs) ρ = lcR2 O pt t pt1 src1 t1 vs1 e (wipeR ρ vs) (evSrc O src ρ) := by
  simp only [evE, lcB_eq]
  rfl
theorem evs_nil : evEs O .nil ρ = some (.v []) := rfl
theorem evs_cons {r : CEs} : evEs O (.cons e r) ρ = consR (evE O e ρ) (evEs O r ρ) := by
  simp only [evEs]
  rcases evE O e ρ with _ | r0
  · rfl
  · cases r0 <;> rfl
theorem src_r1' : evSrc O (.r1 a) ρ = r1R (evE O a ρ) := by
  simp only [evSrc]
  rcases evE O a ρ with _ | r0
  · rfl
  · cases r0 with
    | x => rfl
    | v m d => cases d <;> rfl
theorem src_r2' : evSrc O (.r2 a b) ρ = r2R (evE O a ρ) (evE O b ρ) := by
  simp only [evSrc]
  rcases evE O a ρ with _ | r0
  · rfl
  · cases r0 with
    | x => rfl
    | v m d =>
      cases d <;> try rfl
      rcases evE O b ρ with _ | r1
      · rfl
      · cases r1 with
        | x => rfl
        | v m d => cases d <;> rfl
theorem src_seq' : evSrc O (.seq a) ρ = seqR (evE O a ρ) := by
  simp only [evSrc]
  rcases evE O a ρ with _ | r0
  · rfl
  · cases r0 <;> rfl
theorem t_yes' : evT O .yes ρ = some true := rfl
theorem t_not' {t : CT} : evT O (.not t) ρ = (evT O t ρ).map not := rfl
theorem t_and' {t u : CT} : evT O (.and t u) ρ = andT O u ρ (evT O t ρ) := rfl
theorem t_or' {t u : CT} : evT O (.or t u) ρ = orT O u ρ (evT O t ρ) := rfl
theorem t_val' : evT O (.val a) ρ = tstR (evE O a ρ) := by
  simp only [evT]
  rcases evE O a ρ with _ | r0
  · rfl
  · cases r0 <;> rfl
/-! statements -/
theorem ss_nil : evSs O .nil ρ = some (.nx ρ) := rfl
theorem ss_cons {s : CS} {r : CSs} : evSs O (.cons s r) ρ = thenS O r (evS O s ρ) := by
  show (evS O s ρ).bind _ = (evS O s ρ).bind _
  refine congrArg (Option.bind (evS O s ρ)) (funext fun o => ?_)
  cases o <;> rfl
theorem s_set : evS O (.set i e) ρ = setR i (frzA ρ (esc e)) (evE O e (frzA ρ (esc e))) := by
  simp only [evS]
  rcases evE O e (frzA ρ (esc e)) with _ | r0
  · rfl
  · cases r0 <;> rfl
theorem s_pat {p : Pat} : evS O (.pat p e) ρ = patR p (frzA ρ (esc e)) (evE O e (frzA ρ (esc e))) := by
  simp only [evS]
  rcases evE O e (frzA ρ (esc e)) with _ | r0
  · rfl
  · cases r0 <;> rfl
theorem s_seti : evS O (.seti i k e) ρ = setiR i (frzA ρ (esc e)) (evE O e (frzA ρ (esc e))) (evE O k (frzA ρ (esc e))) (frzA ρ (esc e))[i]? := by
  simp only [evS]
  rcases evE O e (frzA ρ (esc e)) with _ | r0
  · rfl
  · cases r0 with
    | x => rfl
    | v m d =>
      rcases evE O k (frzA ρ (esc e)) with _ | r1
      · rfl
      · cases r1 with
        | x => rfl
        | v m1 d1 =>
          rcases (frzA ρ (esc e))[i]? with _ | s
          · cases d1 <;> rfl
          · cases s <;> cases d1 <;> rfl
theorem s_app : evS O (.app i e) ρ = appR i (frzA ρ (esc e)) (evE O e (frzA ρ (esc e))) (frzA ρ (esc e))[i]? := by
  simp only [evS]
  rcases evE O e (frzA ρ (esc e)) with _ | r0
  · rfl
  · cases r0 with
    | x => rfl
    | v m d =>
      rcases (frzA ρ (esc e))[i]? with _ | s
      · rfl
      · cases s <;> rfl
theorem s_ins : evS O (.ins i k e) ρ = insR i (frzA ρ (esc e)) (evE O k (frzA ρ (esc e))) (evE O e (frzA ρ (esc e))) (frzA ρ (esc e))[i]? := by
  simp only [evS]
  rcases evE O k (frzA ρ (esc e)) with _ | r0
  · rfl
  · cases r0 with
    | x => rfl
    | v m d =>
      rcases evE O e (frzA ρ (esc e)) with _ | r1
      · cases d <;> rfl
      · cases r1 with
        | x => cases d <;> rfl
        | v m1 d1 =>
          rcases (frzA ρ (esc e))[i]? with _ | s
          · cases d <;> rfl
          · cases s <;> cases d <;> rfl
theorem s_ife {t : CT} {a b : CSs} : evS O (.ife t a b) ρ = ifS O a b ρ (evT O t ρ) := rfl
theorem s_for {p : Pat} {src : CSrc} {body : CSs} : evS O (.for p src body) ρ = forR O p body (frzA ρ (srcEsc src)) (evSrc O src (frzA ρ (srcEsc src))) := by
  simp only [evS]
  rcases evSrc O src (frzA ρ (srcEsc src)) with _ | r0
  · rfl
  · cases r0 with | v st its => cases st <;> rfl
theorem s_retv : evS O (.ret (.var i)) ρ = retV ρ[i]? := by
  simp only [evS]
  rcases ρ[i]? with _ | s
  · rfl
  · cases s <;> rfl
theorem s_ret (h : ∀ i, e ≠ .var i) : evS O (.ret e) ρ = retR (frzA ρ (esc e)) (evE O e (frzA ρ (esc e))) := by
  cases e with
  | var i => exact absurd rfl (h i)
  | _ =>
    simp only [evS]
    split <;> simp only [retR, *]
theorem s_expr : evS O (.expr e) ρ = exprR ρ (evE O e ρ) := by
  simp only [evS]
  rcases evE O e ρ with _ | r0
  · rfl
  · cases r0 <;> rfl
theorem s_pass : evS O .pass ρ = some (.nx ρ) := rfl
theorem s_brk : evS O .brk ρ = some (.bk ρ) := rfl
theorem s_cont : evS O .cont ρ = some (.ct ρ) := rfl
end
end QL

end
section
set_option maxRecDepth 100000
set_option maxHeartbeats 4000000
namespace QL
open PySem PySem.Spec PyProof.Rows L2 Evl
section
variable {O : Orc} {ρ ρ1 : List Sl} {i : Nat} {a b c e t k : CE} {es : CEs} {o : CO} {m m1 m2 : Md} {d d1 d2 : D} {ds : List D} {x y : Bool} {n n' : Int} {x' : Er}
theorem varS_dat : varS (some (.dat d)) = some (.v .f d) := rfl
theorem varS_bor : varS (some (.bor d)) = some (.v (nrm .b d) d) := rfl
theorem varS_own : varS (some (.own ds)) = some (.v .o (.lst ds)) := rfl
theorem varS_ownD {ks : List Key} : varS (some (.ownD ks ds)) = some (.v .o (.dic ks ds)) := rfl
theorem nrm_int : nrm m (.int n) = .f := rfl
theorem nrm_bl : nrm m (.bl x) = .f := rfl
theorem nrm_str {s : Str} : nrm m (.str s) = .f := rfl
theorem nrm_non : nrm m .non = .f := rfl
theorem nrm_scr {ns : List Int} : nrm m (.scr ns) = .f := rfl
theorem nrm_obj {C : Addr} {fs : List Str} : nrm m (.obj C fs ds) = .f := rfl
theorem nrm_lst : nrm m (.lst ds) = m := rfl
theorem nrm_dic {ks : List Key} : nrm m (.dic ks ds) = m := rfl
theorem nrm_f : nrm .f d = .f := by unfold nrm; split <;> rfl
theorem nrm_tup : nrm m (.tup ds) = if immA ds = true then .f else m := rfl
theorem imm_int : imm (.int n) = true := rfl
theorem imm_bl : imm (.bl x) = true := rfl
theorem imm_str {s : Str} : imm (.str s) = true := rfl
theorem imm_non : imm .non = true := rfl
theorem imm_scr {ns : List Int} : imm (.scr ns) = true := rfl
theorem imm_lst : imm (.lst ds) = false := rfl
theorem imm_tup : imm (.tup ds) = immA ds := rfl
theorem imm_dic {ks : List Key} : imm (.dic ks ds) = false := rfl
theorem imm_obj {C : Addr} {fs : List Str} : imm (.obj C fs ds) = true := rfl
theorem immA_nil : immA [] = true := rfl
theorem immA_cons : immA (d :: ds) = (imm d && immA ds) := rfl
theorem op2_vv {f : Md → D → Md → D → Option Rv} : op2 f (some (.v m1 d1)) (some (.v m2 d2)) = f m1 d1 m2 d2 := rfl
theorem bin_add : binD .add m1 (.int n) m2 (.int n') = some (.v .f (.int (n + n'))) := rfl
theorem bin_sub : binD .sub m1 (.int n) m2 (.int n') = some (.v .f (.int (n - n'))) := rfl
theorem cmp_lt : cmpV .lt m1 (.int n) m2 (.int n') = some (.v .f (.bl (decide (n < n')))) := rfl
theorem cmp_le : cmpV .le m1 (.int n) m2 (.int n') = some (.v .f (.bl (decide (n ≤ n')))) := rfl
theorem cmp_gt : cmpV .gt m1 (.int n) m2 (.int n') = some (.v .f (.bl (decide (n' < n)))) := rfl
theorem cmp_ge : cmpV .ge m1 (.int n) m2 (.int n') = some (.v .f (.bl (decide (n' ≤ n)))) := rfl
theorem cmp_eq : cmpV .eq m1 (.int n) m2 (.int n') = some (.v .f (.bl (decide (n = n')))) := rfl
theorem cmp_ne : cmpV .ne m1 (.int n) m2 (.int n') = some (.v .f (.bl (!decide (n = n')))) := rfl
theorem cmp_eqb : cmpV .eq m1 (.bl x) m2 (.bl y) = some (.v .f (.bl (decide (x = y)))) := rfl
theorem cmp_neb : cmpV .ne m1 (.bl x) m2 (.bl y) = some (.v .f (.bl (!decide (x = y)))) := rfl
theorem cmp_isb : cmpV .is m1 (.bl x) m2 (.bl y) = some (.v .f (.bl (decide (x = y)))) := rfl
theorem cmp_isnb : cmpV .isnot m1 (.bl x) m2 (.bl y) = some (.v .f (.bl (!decide (x = y)))) := rfl
theorem cmp_eqs {s s' : Str} : cmpV .eq m1 (.str s) m2 (.str s') = some (.v .f (.bl (decide (s = s')))) := rfl
theorem cmp_nes {s s' : Str} : cmpV .ne m1 (.str s) m2 (.str s') = some (.v .f (.bl (!decide (s = s')))) := rfl
def isNon : D → Bool | .non => true | _ => false
theorem isNon_non : isNon (.non) = true := rfl
theorem isNon_int : isNon (.int n) = false := rfl
theorem isNon_bl : isNon (.bl x) = false := rfl
theorem isNon_lst : isNon (.lst ds) = false := rfl
theorem isNon_tup : isNon (.tup ds) = false := rfl
theorem isNon_str {s : Str} : isNon (.str s) = false := rfl
theorem isNon_obj {C : Addr} {fs : List Str} : isNon (.obj C fs ds) = false := rfl
theorem isNon_dic {ks : List Key} : isNon (.dic ks ds) = false := rfl
theorem cmp_is : cmpV .is m1 d m2 .non = some (.v .f (.bl (isNon d))) := by cases d <;> rfl
theorem cmp_isn : cmpV .isnot m1 d m2 .non = some (.v .f (.bl (!isNon d))) := by cases d <;> rfl
def ixQ (m : Md) : Option D → Option Rv | some e => some (.v (nrm (ixm m) e) e) | none => none
theorem ixQ_some : ixQ m (some d) = some (.v (nrm (ixm m) d) d) := rfl
theorem ix_lst : ixV m1 (.lst ds) m2 (.int n) = ixQ m1 (atI ds n) := by simp only [ixV, ixD]; cases atI ds n <;> rfl
theorem ix_tup : ixV m1 (.tup ds) m2 (.int n) = ixQ m1 (atI ds n) := by simp only [ixV, ixD]; cases atI ds n <;> rfl
theorem ix_scr {ns : List Int} : ixV m1 (.scr ns) m2 (.int n) = (atI ns n).map fun n => .v .f (.int n) := rfl
theorem ixm_f : ixm .f = .f := rfl
theorem ixm_n : ixm .n = .f := rfl
theorem ixm_o : ixm .o = .f := rfl
theorem ixm_b : ixm .b = .b := rfl
theorem ixm_h : ixm .h = .h := rfl
theorem len_lst : b1D .len m (.lst ds) = some (.v .f (.int ds.length)) := rfl
theorem len_tup : b1D .len m (.tup ds) = some (.v .f (.int ds.length)) := rfl
theorem len_scr {ns : List Int} : b1D .len m (.scr ns) = some (.v .f (.int ns.length)) := rfl
theorem int_int : b1D .int m (.int n) = some (.v .f (.int n)) := rfl
theorem max_ii : b2V .max m1 (.int n) m2 (.int n') = some (.v .f (.int (max n n'))) := rfl
theorem min_ii : b2V .min m1 (.int n) m2 (.int n') = some (.v .f (.int (min n n'))) := rfl
theorem neg_i : negV m (.int n) = some (.v .f (.int (-n))) := rfl
theorem not_b : notV m (.bl x) = some (.v .f (.bl (!x))) := rfl
theorem bv_v1 {f : Md → D → Option Rv} : bv (some (.v m d)) f = f m d := rfl
theorem list_lst : b1D .list m (.lst ds) = if itF m ds = true then some (.v .n (.lst ds)) else some (.v .h (.lst ds)) := rfl
theorem list_tup : b1D .list m (.tup ds) = if itF m ds = true then some (.v .n (.lst ds)) else some (.v .h (.lst ds)) := rfl
theorem tuple_lst : b1D .tuple m (.lst ds) = if itF m ds = true then some (.v .f (.tup ds)) else none := rfl
theorem tuple_tup : b1D .tuple m (.tup ds) = some (.v (nrm m (.tup ds)) (.tup ds)) := rfl
theorem itF_f : itF .f ds = true := by simp [itF]
theorem itF_n : itF .n ds = true := by simp [itF]
theorem itF_o : itF .o ds = true := by simp [itF]
theorem itF_b : itF .b ds = immA ds := by simp [itF]
theorem itF_h : itF .h ds = immA ds := by simp [itF]
theorem cf_f : cf .f d = true := by simp [cf]
theorem cf_n : cf .n d = true := by simp [cf]
theorem cf_b : cf .b d = imm d := by simp [cf]
theorem cf_h : cf .h d = imm d := by simp [cf]
theorem cf_o : cf .o d = imm d := by simp [cf]
theorem allCf_nil : allCf [] = true := rfl
theorem allCf_cons {l : List (Md × D)} : allCf ((m, d) :: l) = (cf m d && allCf l) := rfl
theorem tst_v : tstR (some (.v m d)) = truthD d := rfl
theorem truth_bl : truthD (.bl x) = some x := rfl
theorem truth_lst : truthD (.lst ds) = some (!ds.isEmpty) := rfl
theorem andT_t {u : CT} : andT O u ρ (some true) = evT O u ρ := rfl
theorem andT_f {u : CT} : andT O u ρ (some false) = some false := rfl
theorem orT_t {u : CT} : orT O u ρ (some true) = some true := rfl
theorem orT_f {u : CT} : orT O u ρ (some false) = evT O u ρ := rfl
theorem andR_t : andR O b ρ (some (.v m (.bl true))) = bv (evE O b ρ) blV := rfl
theorem andR_f : andR O b ρ (some (.v m (.bl false))) = some (.v .f (.bl false)) := rfl
theorem orR_f : orR O b ρ (some (.v m (.bl false))) = bv (evE O b ρ) blV := rfl
theorem orR_t : orR O b ρ (some (.v m (.bl true))) = some (.v .f (.bl true)) := rfl
theorem blV_b : blV m (.bl x) = some (.v .f (.bl x)) := rfl
theorem ifE_t : ifE O a b ρ (some true) = evE O a ρ := rfl
theorem ifE_f : ifE O a b ρ (some false) = evE O b ρ := rfl
theorem ifS_t {p q : CSs} : ifS O p q ρ (some true) = evSs O p ρ := rfl
theorem ifS_f {p q : CSs} : ifS O p q ρ (some false) = evSs O q ρ := rfl
theorem ifL_t : ifL O e ρ (some true) = elt1 (evE O e ρ) := rfl
theorem ifL_f : ifL O e ρ (some false) = some [] := rfl
theorem elt1_v : elt1 (some (.v m d)) = some [(m, d)] := rfl
theorem lcB_s {u : CT} : lcB O u e (some ρ1) = ifL O e ρ1 (evT O u ρ1) := rfl
theorem lcR_v {pt : Pat} {u : CT} {st : Bool} {its : List Item} : lcR O pt u e ρ (some (.v st its)) = (lcGo (lcBody O pt u e ρ) its).bind lcD := rfl
theorem lcR2_v {pt pt1 : Pat} {u u1 : CT} {src1 : CSrc} {vs1 : List Nat} {st : Bool} {its : List Item} : lcR2 O pt u pt1 src1 u1 vs1 e ρ (some (.v st its)) = (lcGo (lcBody2 O pt u pt1 src1 u1 vs1 e ρ) its).bind lcD := rfl
theorem thenS_nx {r : CSs} : thenS O r (some (.nx ρ)) = evSs O r ρ := rfl
theorem thenS_rt {r : CSs} : thenS O r (some (.rt m d)) = some (.rt m d) := rfl
theorem thenS_bk {r : CSs} : thenS O r (some (.bk ρ)) = some (.bk ρ) := rfl
theorem thenS_ct {r : CSs} : thenS O r (some (.ct ρ)) = some (.ct ρ) := rfl
theorem setR_v : setR i ρ (some (.v m d)) = setQ i ρ (slotV m d) := rfl
theorem setQ_s {s : Sl} : setQ i ρ (some s) = some (.nx (ρ.set i s)) := rfl
theorem slotV_f : slotV .f d = some (.dat d) := by unfold slotV; split <;> rfl
theorem slotV_n : slotV .n (.lst ds) = some (.own ds) := rfl
theorem slotV_nd {ks : List Key} : slotV .n (.dic ks ds) = some (.ownD ks ds) := rfl
theorem slotV_bl : slotV .b (.lst ds) = some (.bor (.lst ds)) := rfl
theorem slotV_bt (h : immA ds = false) : slotV .b (.tup ds) = some (.bor (.tup ds)) := by simp [slotV, imm, h]
theorem patR_v {p : Pat} : patR p ρ (some (.v m d)) = if m = .n then none else (bindP p ρ (.one m d)).map .nx := rfl
theorem setiR_v : setiR i ρ (some (.v m d)) (some (.v m1 (.int n))) (some (.own ds)) = if cf m d = true then (ixN ds.length n).map fun k => .nx (ρ.set i (.own (ds.set k d))) else none := rfl
theorem appR_v (hc : cf m d = true) (hl : ds.length < 100000) : appR i ρ (some (.v m d)) (some (.own ds)) = some (.nx (ρ.set i (.own (ds ++ [d])))) := if_pos ⟨hc, hl⟩
theorem insR_v (hc : cf m d = true) (hl : ds.length < 100000) (h0 : 0 ≤ n) (h1 : n < 2 ^ 63) : insR i ρ (some (.v m1 (.int n))) (some (.v m d)) (some (.own ds)) = some (.nx (ρ.set i (.own (ds.take n.toNat ++ [d] ++ ds.drop n.toNat)))) := if_pos ⟨hc, hl, h0, h1⟩
theorem forR_v {p : Pat} {body : CSs} {its : List Item} : forR O p body ρ (some (.v true its)) = forGo p (evSs O body) its ρ := rfl
theorem retV_own : retV (some (.own ds)) = some (.rt .n (.lst ds)) := rfl
theorem retV_dat : retV (some (.dat d)) = some (.rt .f d) := rfl
theorem retV_bor : retV (some (.bor d)) = some (.rt (nrm .b d) d) := rfl
theorem retV_ownD {ks : List Key} : retV (some (.ownD ks ds)) = some (.rt .n (.dic ks ds)) := rfl
theorem retR_v : retR ρ (some (.v m d)) = some (.rt m d) := rfl
theorem retR_x : retR ρ (some (.x x')) = some (.xs x' ρ) := rfl
theorem setR_x : setR i ρ (some (.x x')) = some (.xs x' ρ) := rfl
theorem patR_x {p : Pat} : patR p ρ (some (.x x')) = some (.xs x' ρ) := rfl
theorem exprR_x : exprR ρ (some (.x x')) = some (.xs x' ρ) := rfl
theorem thenS_xs {r : CSs} : thenS O r (some (.xs x' ρ)) = some (.xs x' ρ) := rfl
theorem fin_xs : fin (.xs x' ρ) = some (.er x') := rfl
theorem exprR_v : exprR ρ (some (.v m d)) = some (.nx ρ) := rfl
theorem ret_tup  : evS O (.ret (.tup es)) ρ = retR (frzA ρ (esc (.tup es))) (evE O (.tup es) (frzA ρ (esc (.tup es)))) := s_ret fun i z => by cases z
theorem esc_tup  : esc (.tup es) = escs es := rfl
theorem ret_lst  : evS O (.ret (.lst es)) ρ = retR (frzA ρ (esc (.lst es))) (evE O (.lst es) (frzA ρ (esc (.lst es)))) := s_ret fun i z => by cases z
theorem esc_lst  : esc (.lst es) = escs es := rfl
theorem ret_bin {q : BO} : evS O (.ret (.bin q a b)) ρ = retR (frzA ρ (esc (.bin q a b))) (evE O (.bin q a b) (frzA ρ (esc (.bin q a b)))) := s_ret fun i z => by cases z
theorem esc_bin {q : BO} : esc (.bin q a b) = [] := rfl
theorem ret_cmp  : evS O (.ret (.cmp o a b)) ρ = retR (frzA ρ (esc (.cmp o a b))) (evE O (.cmp o a b) (frzA ρ (esc (.cmp o a b)))) := s_ret fun i z => by cases z
theorem esc_cmp  : esc (.cmp o a b) = [] := rfl
theorem ret_neg  : evS O (.ret (.neg a)) ρ = retR (frzA ρ (esc (.neg a))) (evE O (.neg a) (frzA ρ (esc (.neg a)))) := s_ret fun i z => by cases z
theorem esc_neg  : esc (.neg a) = [] := rfl
theorem ret_not  : evS O (.ret (.not a)) ρ = retR (frzA ρ (esc (.not a))) (evE O (.not a) (frzA ρ (esc (.not a)))) := s_ret fun i z => by cases z
theorem esc_not  : esc (.not a) = [] := rfl
theorem ret_and  : evS O (.ret (.and a b)) ρ = retR (frzA ρ (esc (.and a b))) (evE O (.and a b) (frzA ρ (esc (.and a b)))) := s_ret fun i z => by cases z
theorem esc_and  : esc (.and a b) = [] := rfl
theorem ret_or  : evS O (.ret (.or a b)) ρ = retR (frzA ρ (esc (.or a b))) (evE O (.or a b) (frzA ρ (esc (.or a b)))) := s_ret fun i z => by cases z
theorem esc_or  : esc (.or a b) = [] := rfl
theorem ret_ix  : evS O (.ret (.ix a b)) ρ = retR (frzA ρ (esc (.ix a b))) (evE O (.ix a b) (frzA ρ (esc (.ix a b)))) := s_ret fun i z => by cases z
theorem esc_ix  : esc (.ix a b) = [] := rfl
theorem ret_b1 {f1 : B1} : evS O (.ret (.b1 f1 a)) ρ = retR (frzA ρ (esc (.b1 f1 a))) (evE O (.b1 f1 a) (frzA ρ (esc (.b1 f1 a)))) := s_ret fun i z => by cases z
theorem esc_b1 {f1 : B1} : esc (.b1 f1 a) = [] := rfl
theorem ret_b2 {f2 : B2} : evS O (.ret (.b2 f2 a b)) ρ = retR (frzA ρ (esc (.b2 f2 a b))) (evE O (.b2 f2 a b) (frzA ρ (esc (.b2 f2 a b)))) := s_ret fun i z => by cases z
theorem esc_b2 {f2 : B2} : esc (.b2 f2 a b) = [] := rfl
theorem ret_isi {z : String} : evS O (.ret (.isi a z)) ρ = retR (frzA ρ (esc (.isi a z))) (evE O (.isi a z) (frzA ρ (esc (.isi a z)))) := s_ret fun i z => by cases z
theorem esc_isi {z : String} : esc (.isi a z) = [] := rfl
theorem ret_call {g : Str} : evS O (.ret (.call g es)) ρ = retR (frzA ρ (esc (.call g es))) (evE O (.call g es) (frzA ρ (esc (.call g es)))) := s_ret fun i z => by cases z
theorem esc_call {g : Str} : esc (.call g es) = [] := rfl
theorem ret_int  : evS O (.ret (.int n)) ρ = retR (frzA ρ (esc (.int n))) (evE O (.int n) (frzA ρ (esc (.int n)))) := s_ret fun i z => by cases z
theorem esc_int  : esc (.int n) = [] := rfl
theorem ret_bl  : evS O (.ret (.bl x)) ρ = retR (frzA ρ (esc (.bl x))) (evE O (.bl x) (frzA ρ (esc (.bl x)))) := s_ret fun i z => by cases z
theorem esc_bl  : esc (.bl x) = [] := rfl
theorem ret_ife {u : CT} : evS O (.ret (.ife u a b)) ρ = retR (frzA ρ (esc (.ife u a b))) (evE O (.ife u a b) (frzA ρ (esc (.ife u a b)))) := s_ret fun i z => by cases z
theorem esc_ife {u : CT} : esc (.ife u a b) = esc a ++ esc b := rfl
theorem ret_str {s : Str} : evS O (.ret (.str s )) ρ = retR (frzA ρ (esc (.str s ))) (evE O (.str s ) (frzA ρ (esc (.str s )))) := s_ret fun i z => by cases z
theorem esc_str {s : Str} : esc (.str s ) = [] := rfl
theorem ret_chain {o2 : CO} : evS O (.ret (.chain o o2 a b c)) ρ = retR (frzA ρ (esc (.chain o o2 a b c))) (evE O (.chain o o2 a b c) (frzA ρ (esc (.chain o o2 a b c)))) := s_ret fun i z => by cases z
theorem esc_chain {o2 : CO} : esc (.chain o o2 a b c) = [] := rfl
theorem ret_non : evS O (.ret .non) ρ = retR (frzA ρ (esc .non)) (evE O .non (frzA ρ (esc .non))) := s_ret fun i z => by cases z
theorem esc_non : esc .non = [] := rfl
theorem ret_lc {pt : Pat} {src : CSrc} {u : CT} {vs : List Nat} : evS O (.ret (.lc pt src u e vs)) ρ = retR (frzA ρ (esc (.lc pt src u e vs))) (evE O (.lc pt src u e vs) (frzA ρ (esc (.lc pt src u e vs)))) := s_ret fun i z => by cases z
theorem esc_lc {pt : Pat} {src : CSrc} {u : CT} {vs : List Nat} : esc (.lc pt src u e vs) = [] := rfl
theorem ret_lc2 {pt pt1 : Pat} {src src1 : CSrc} {u u1 : CT} {vs vs1 : List Nat} : evS O (.ret (.lc2 pt src u pt1 src1 u1 vs1 e vs)) ρ = retR (frzA ρ (esc (.lc2 pt src u pt1 src1 u1 vs1 e vs))) (evE O (.lc2 pt src u pt1 src1 u1 vs1 e vs) (frzA ρ (esc (.lc2 pt src u pt1 src1 u1 vs1 e vs)))) := s_ret fun i z => by cases z
theorem esc_lc2 {pt pt1 : Pat} {src src1 : CSrc} {u u1 : CT} {vs vs1 : List Nat} : esc (.lc2 pt src u pt1 src1 u1 vs1 e vs) = [] := rfl
theorem esc_var : esc (.var i) = [i] := rfl
theorem escs_nil : escs .nil = [] := rfl
theorem escs_cons {r : CEs} : escs (.cons e r) = esc e ++ escs r := rfl
theorem frzA_nil : frzA ρ [] = ρ := rfl
theorem frzA_cons {l : List Nat} : frzA ρ (i :: l) = frzA (ρ.set i (frzS (ρ.getD i .un))) l := rfl
theorem frz_dat : frzS (.dat d) = .dat d := rfl
theorem frz_bor : frzS (.bor d) = .bor d := rfl
theorem frz_own : frzS (.own ds) = .dat (.lst ds) := rfl
theorem frz_ownD {ks : List Key} : frzS (.ownD ks ds) = .dat (.dic ks ds) := rfl
theorem frz_un : frzS .un = .un := rfl
theorem srcEsc_r1 : srcEsc (.r1 a) = [] := rfl
theorem srcEsc_r2 : srcEsc (.r2 a b) = [] := rfl
theorem srcEsc_var : srcEsc (.seq (.var i)) = [i] := rfl
theorem srcEsc_call {g : Str} : srcEsc (.seq (.call g es)) = [] := rfl
theorem srcEsc_lst  : srcEsc (.seq (.lst es)) = [] := rfl
theorem srcEsc_tup  : srcEsc (.seq (.tup es)) = [] := rfl
theorem srcEsc_ix  : srcEsc (.seq (.ix a b)) = [] := rfl
theorem srcEsc_b1 {f1 : B1} : srcEsc (.seq (.b1 f1 a)) = [] := rfl
theorem srcEsc_bin {q : BO} : srcEsc (.seq (.bin q a b)) = [] := rfl
theorem callR_v {F : List D → Option Res} {ms : List (Md × D)} : callR F (some (.v ms)) = callQ (F (ms.map (·.2))) := rfl
theorem callQ_f : callQ (some (.ok .f d)) = some (.v .f d) := by simp [callQ]
theorem callQ_n : callQ (some (.ok .n d)) = some (.v .n d) := by simp [callQ]
theorem callQ_x {x : Er} : callQ (some (.er x)) = some (.x x) := rfl
theorem consR_vv {ms : List (Md × D)} : consR (some (.v m d)) (some (.v ms)) = some (.v ((m, d) :: ms)) := rfl
theorem tupR_v {ms : List (Md × D)} (h : ms.length ≤ 100000) (hc : allCf ms = true) : tupR (some (.v ms)) = some (.v .f (.tup (ms.map (·.2)))) := by simp only [tupR, Option.bind_some, if_pos h, if_pos hc, fv]
theorem lstR_v {ms : List (Md × D)} (h : ms.length ≤ 100000) (hc : allCf ms = true) : lstR (some (.v ms)) = some (.v .n (.lst (ms.map (·.2)))) := by simp only [lstR, Option.bind_some, if_pos h, if_pos hc]
theorem lstR_h {ms : List (Md × D)} (h : ms.length ≤ 100000) (hc : allCf ms = false) : lstR (some (.v ms)) = some (.v .h (.lst (ms.map (·.2)))) := by simp only [lstR, Option.bind_some, if_pos h, hc]; rfl
theorem r1R_i : r1R (some (.v m (.int n))) = if -100000 ≤ n ∧ n ≤ 100000 then some (.v true (rngIt 0 n.toNat)) else none := rfl
theorem r2R_i : r2R (some (.v m (.int n))) (some (.v m1 (.int n'))) = if -100000 ≤ n' ∧ n' ≤ 100000 ∧ -100000 ≤ n ∧ n ≤ 100000 then some (.v true (rngIt n (n' - n).toNat)) else none := rfl
theorem seqR_v : seqR (some (.v m d)) = srcD m d := rfl
theorem srcD_scr {ns : List Int} : srcD m (.scr ns) = some (.v true (seqIt .f (ns.map .int))) := rfl
theorem srcD_lf : srcD .f (.lst ds) = some (.v true (seqIt .f ds)) := rfl
theorem srcD_tf : srcD .f (.tup ds) = some (.v true (seqIt .f ds)) := rfl
theorem srcD_lb : srcD .b (.lst ds) = some (.v true (seqIt .b ds)) := rfl
theorem srcD_tb : srcD .b (.tup ds) = some (.v true (seqIt .b ds)) := rfl
theorem srcD_lo : srcD .o (.lst ds) = some (.v false (seqIt .o ds)) := rfl
theorem srcD_to : srcD .o (.tup ds) = some (.v false (seqIt .o ds)) := rfl
theorem srcD_lh : srcD .h (.lst ds) = some (.v false (seqIt .h ds)) := rfl
theorem srcD_th : srcD .h (.tup ds) = some (.v false (seqIt .h ds)) := rfl
theorem srcD_ln : srcD .n (.lst ds) = some (.v true (seqIt .f ds)) := rfl
theorem fin_f : fin (.rt .f d) = some (.ok .f d) := by simp [fin, cf]
theorem fin_n : fin (.rt .n d) = some (.ok .n d) := by simp [fin, cf]
theorem fin_nx : fin (.nx ρ) = some (.ok .f .non) := rfl
theorem slot0_int : slot0 (.int n) = .dat (.int n) := rfl
theorem slot0_bl : slot0 (.bl x) = .dat (.bl x) := rfl
theorem slot0_str {s : Str} : slot0 (.str s) = .dat (.str s) := rfl
theorem slot0_non : slot0 .non = .dat .non := rfl
theorem slot0_scr {ns : List Int} : slot0 (.scr ns) = .dat (.scr ns) := rfl
theorem slot0_lst : slot0 (.lst ds) = .bor (.lst ds) := rfl
theorem slot0_tup : slot0 (.tup ds) = if immA ds = true then .dat (.tup ds) else .bor (.tup ds) := rfl
theorem slot0_obj {C : Addr} {fs : List Str} : slot0 (.obj C fs ds) = .dat (.obj C fs ds) := rfl
theorem slot0_dic {ks : List Key} : slot0 (.dic ks ds) = .bor (.dic ks ds) := rfl
theorem bind_nm : bindP (.nm i) ρ (.one m d) = (slotOf m d).map fun s => ρ.set i s := rfl
theorem slotOf_f : slotOf .f d = some (.dat d) := by unfold slotOf; split <;> rfl
theorem slotOf_int : slotOf m (.int n) = some (.dat (.int n)) := rfl
theorem slotOf_bl : slotOf .b (.lst ds) = some (.bor (.lst ds)) := rfl
theorem bind_tp {ps : List Pat} : bindP (.tp ps) ρ (.one m (.tup ds)) = if ds.length = ps.length then bindPs ps ρ (ds.map fun d => (ixm m, d)) else none := by simp only [bindP]
theorem binds_nil : bindPs [] ρ [] = some ρ := rfl
theorem binds_cons {p : Pat} {ps : List Pat} {ms : List (Md × D)} : bindPs (p :: ps) ρ ((m, d) :: ms) = (bindP p ρ (.one m d)).bind fun ρ1 => bindPs ps ρ1 ms := rfl
theorem isi_eq {T : String} : isiV T m d = if tyName d = "" then none else (kitB (tyName d) T).bind fun b => fv (.bl b) := rfl
theorem wipe_nil : wipeR ρ [] = ρ := rfl
theorem wipe_cons {v : Nat} {vs : List Nat} : wipeR ρ (v :: vs) = (wipeR ρ vs).set v .un := rfl
theorem isiV_of {T : String} {t : String} (h : tyName d = t) (hk : kitB t T = some x) (hn : t ≠ "" := by decide) : isiV T m d = some (.v .f (.bl x)) := by
  unfold isiV isiD
  rw [h, if_neg hn, hk]; rfl
theorem isi_int_int : isiV "int" m (.int n) = some (.v .f (.bl true)) := isiV_of (t := "int") rfl (show kitB "int" "int" = some true by decide +kernel)
theorem isi_int_bool : isiV "bool" m (.int n) = some (.v .f (.bl false)) := isiV_of (t := "int") rfl (show kitB "int" "bool" = some false by decide +kernel)
theorem isi_int_str : isiV "str" m (.int n) = some (.v .f (.bl false)) := isiV_of (t := "int") rfl (show kitB "int" "str" = some false by decide +kernel)
theorem isi_int_list : isiV "list" m (.int n) = some (.v .f (.bl false)) := isiV_of (t := "int") rfl (show kitB "int" "list" = some false by decide +kernel)
theorem isi_int_tuple : isiV "tuple" m (.int n) = some (.v .f (.bl false)) := isiV_of (t := "int") rfl (show kitB "int" "tuple" = some false by decide +kernel)
theorem isi_int_dict : isiV "dict" m (.int n) = some (.v .f (.bl false)) := isiV_of (t := "int") rfl (show kitB "int" "dict" = some false by decide +kernel)
theorem isi_bool_int : isiV "int" m (.bl x) = some (.v .f (.bl true)) := isiV_of (t := "bool") rfl (show kitB "bool" "int" = some true by decide +kernel)
theorem isi_bool_bool : isiV "bool" m (.bl x) = some (.v .f (.bl true)) := isiV_of (t := "bool") rfl (show kitB "bool" "bool" = some true by decide +kernel)
theorem isi_bool_str : isiV "str" m (.bl x) = some (.v .f (.bl false)) := isiV_of (t := "bool") rfl (show kitB "bool" "str" = some false by decide +kernel)
theorem isi_bool_list : isiV "list" m (.bl x) = some (.v .f (.bl false)) := isiV_of (t := "bool") rfl (show kitB "bool" "list" = some false by decide +kernel)
theorem isi_bool_tuple : isiV "tuple" m (.bl x) = some (.v .f (.bl false)) := isiV_of (t := "bool") rfl (show kitB "bool" "tuple" = some false by decide +kernel)
theorem isi_bool_dict : isiV "dict" m (.bl x) = some (.v .f (.bl false)) := isiV_of (t := "bool") rfl (show kitB "bool" "dict" = some false by decide +kernel)
theorem isi_list_int : isiV "int" m (.lst ds) = some (.v .f (.bl false)) := isiV_of (t := "list") rfl (show kitB "list" "int" = some false by decide +kernel)
theorem isi_list_bool : isiV "bool" m (.lst ds) = some (.v .f (.bl false)) := isiV_of (t := "list") rfl (show kitB "list" "bool" = some false by decide +kernel)
theorem isi_list_str : isiV "str" m (.lst ds) = some (.v .f (.bl false)) := isiV_of (t := "list") rfl (show kitB "list" "str" = some false by decide +kernel)
theorem isi_list_list : isiV "list" m (.lst ds) = some (.v .f (.bl true)) := isiV_of (t := "list") rfl (show kitB "list" "list" = some true by decide +kernel)
theorem isi_list_tuple : isiV "tuple" m (.lst ds) = some (.v .f (.bl false)) := isiV_of (t := "list") rfl (show kitB "list" "tuple" = some false by decide +kernel)
theorem isi_list_dict : isiV "dict" m (.lst ds) = some (.v .f (.bl false)) := isiV_of (t := "list") rfl (show kitB "list" "dict" = some false by decide +kernel)
theorem isi_tuple_int : isiV "int" m (.tup ds) = some (.v .f (.bl false)) := isiV_of (t := "tuple") rfl (show kitB "tuple" "int" = some false by decide +kernel)
theorem isi_tuple_bool : isiV "bool" m (.tup ds) = some (.v .f (.bl false)) := isiV_of (t := "tuple") rfl (show kitB "tuple" "bool" = some false by decide +kernel)
theorem isi_tuple_str : isiV "str" m (.tup ds) = some (.v .f (.bl false)) := isiV_of (t := "tuple") rfl (show kitB "tuple" "str" = some false by decide +kernel)
theorem isi_tuple_list : isiV "list" m (.tup ds) = some (.v .f (.bl false)) := isiV_of (t := "tuple") rfl (show kitB "tuple" "list" = some false by decide +kernel)
theorem isi_tuple_tuple : isiV "tuple" m (.tup ds) = some (.v .f (.bl true)) := isiV_of (t := "tuple") rfl (show kitB "tuple" "tuple" = some true by decide +kernel)
theorem isi_tuple_dict : isiV "dict" m (.tup ds) = some (.v .f (.bl false)) := isiV_of (t := "tuple") rfl (show kitB "tuple" "dict" = some false by decide +kernel)
theorem isi_NoneType_int : isiV "int" m .non = some (.v .f (.bl false)) := isiV_of (t := "NoneType") rfl (show kitB "NoneType" "int" = some false by decide +kernel)
theorem isi_NoneType_bool : isiV "bool" m .non = some (.v .f (.bl false)) := isiV_of (t := "NoneType") rfl (show kitB "NoneType" "bool" = some false by decide +kernel)
theorem isi_NoneType_str : isiV "str" m .non = some (.v .f (.bl false)) := isiV_of (t := "NoneType") rfl (show kitB "NoneType" "str" = some false by decide +kernel)
theorem isi_NoneType_list : isiV "list" m .non = some (.v .f (.bl false)) := isiV_of (t := "NoneType") rfl (show kitB "NoneType" "list" = some false by decide +kernel)
theorem isi_NoneType_tuple : isiV "tuple" m .non = some (.v .f (.bl false)) := isiV_of (t := "NoneType") rfl (show kitB "NoneType" "tuple" = some false by decide +kernel)
theorem isi_NoneType_dict : isiV "dict" m .non = some (.v .f (.bl false)) := isiV_of (t := "NoneType") rfl (show kitB "NoneType" "dict" = some false by decide +kernel)
theorem isi_str_int {s : Str} : isiV "int" m (.str s) = some (.v .f (.bl false)) := isiV_of (t := "str") rfl (show kitB "str" "int" = some false by decide +kernel)
theorem isi_str_bool {s : Str} : isiV "bool" m (.str s) = some (.v .f (.bl false)) := isiV_of (t := "str") rfl (show kitB "str" "bool" = some false by decide +kernel)
theorem isi_str_str {s : Str} : isiV "str" m (.str s) = some (.v .f (.bl true)) := isiV_of (t := "str") rfl (show kitB "str" "str" = some true by decide +kernel)
theorem isi_str_list {s : Str} : isiV "list" m (.str s) = some (.v .f (.bl false)) := isiV_of (t := "str") rfl (show kitB "str" "list" = some false by decide +kernel)
theorem isi_str_tuple {s : Str} : isiV "tuple" m (.str s) = some (.v .f (.bl false)) := isiV_of (t := "str") rfl (show kitB "str" "tuple" = some false by decide +kernel)
theorem isi_str_dict {s : Str} : isiV "dict" m (.str s) = some (.v .f (.bl false)) := isiV_of (t := "str") rfl (show kitB "str" "dict" = some false by decide +kernel)
theorem isi_dict_int {ks : List Key} : isiV "int" m (.dic ks ds) = some (.v .f (.bl false)) := isiV_of (t := "dict") rfl (show kitB "dict" "int" = some false by decide +kernel)
theorem isi_dict_bool {ks : List Key} : isiV "bool" m (.dic ks ds) = some (.v .f (.bl false)) := isiV_of (t := "dict") rfl (show kitB "dict" "bool" = some false by decide +kernel)
theorem isi_dict_str {ks : List Key} : isiV "str" m (.dic ks ds) = some (.v .f (.bl false)) := isiV_of (t := "dict") rfl (show kitB "dict" "str" = some false by decide +kernel)
theorem isi_dict_list {ks : List Key} : isiV "list" m (.dic ks ds) = some (.v .f (.bl false)) := isiV_of (t := "dict") rfl (show kitB "dict" "list" = some false by decide +kernel)
theorem isi_dict_tuple {ks : List Key} : isiV "tuple" m (.dic ks ds) = some (.v .f (.bl false)) := isiV_of (t := "dict") rfl (show kitB "dict" "tuple" = some false by decide +kernel)
theorem isi_dict_dict {ks : List Key} : isiV "dict" m (.dic ks ds) = some (.v .f (.bl true)) := isiV_of (t := "dict") rfl (show kitB "dict" "dict" = some true by decide +kernel)
theorem nat_big {n : Int} (h1 : -1606938044258990275541962092341162602522202993782792835301376 < n) (h2 : n < 1606938044258990275541962092341162602522202993782792835301376) : n.natAbs < big200 := by
  have h : n.natAbs < 1606938044258990275541962092341162602522202993782792835301376 := by omega
  have e : (1606938044258990275541962092341162602522202993782792835301376 : Nat) = 2 ^ 200 := by decide
  rw [e] at h
  exact Nat.lt_of_lt_of_le h (Nat.pow_le_pow_right (by decide) (by decide))
theorem bin_mul (a1 : -1606938044258990275541962092341162602522202993782792835301376 < n) (a2 : n < 1606938044258990275541962092341162602522202993782792835301376) (b1 : -1606938044258990275541962092341162602522202993782792835301376 < n') (b2 : n' < 1606938044258990275541962092341162602522202993782792835301376) : binD .mul m1 (.int n) m2 (.int n') = some (.v .f (.int (n * n'))) := by
  simp only [binD, binI, if_pos (⟨nat_big a1 a2, nat_big b1 b2⟩ : n.natAbs < big200 ∧ n'.natAbs < big200), Option.bind_some, fv]
theorem bin_fdiv (h1 : 0 < n') (h2 : n' < 1606938044258990275541962092341162602522202993782792835301376) : binD .fdiv m1 (.int n) m2 (.int n') = some (.v .f (.int (n / n'))) := by
  simp only [binD, binI, if_pos (⟨h1, nat_big (by omega) h2⟩ : 0 < n' ∧ n'.natAbs < big200), Option.bind_some, fv]
theorem bin_mod (h1 : 0 < n') : binD .mod m1 (.int n) m2 (.int n') = some (.v .f (.int (n % n'))) := by
  simp only [binD, binI, if_pos h1, Option.bind_some, fv]
theorem bin_pow (h0 : 0 ≤ n') (h1 : n' ≤ 1000000) (h2 : -18446744073709551616 < n) (h3 : n < 18446744073709551616) : binD .pow m1 (.int n) m2 (.int n') = some (.v .f (.int (n ^ n'.toNat))) := by
  have h : n.natAbs < 2 ^ 64 := by omega
  simp only [binD, binI, if_pos (⟨h0, h1, h⟩ : 0 ≤ n' ∧ n' ≤ 1000000 ∧ n.natAbs < 2 ^ 64), Option.bind_some, fv]
theorem thenS_of {r : CSs} {x : Option Out} {q : Option Res} (h : x = some (.nx ρ1)) (h2 : (evSs O r ρ1).bind fin = q) : (thenS O r x).bind fin = q := by rw [h, thenS_nx, h2]
theorem thenS_of' {r : CSs} {x : Option Out} {q : Option Out} (h : x = some (.nx ρ1)) (h2 : evSs O r ρ1 = q) : thenS O r x = q := by rw [h, thenS_nx, h2]
theorem ifS_dec {p q : CSs} {P : Prop} [Decidable P] {z : Option Out} (h1 : P → evSs O p ρ = z) (h2 : ¬ P → evSs O q ρ = z) : ifS O p q ρ (some (decide P)) = z := by
  by_cases h : P
  · rw [decide_eq_true h, ifS_t]; exact h1 h
  · rw [decide_eq_false h, ifS_f]; exact h2 h
end
end QL

end
section
set_option maxRecDepth 100000
set_option maxHeartbeats 4000000
namespace QL
open PySem PySem.Spec PyProof.Rows L2 Evl
/-! ### loops, by what holds -/
theorem forGo_all {pt : Pat} {f : List Sl → Option Out} (I : Nat → List Sl → Prop) : ∀ {its : List Item} {j : Nat} {ρ : List Sl}, I j ρ →
    (∀ (k : Nat) it ρ, its[k]? = some it → I (j + k) ρ → ∃ ρ1 ρ2, bindP pt ρ it = some ρ1 ∧ (f ρ1 = some (.nx ρ2) ∨ f ρ1 = some (.ct ρ2)) ∧ I (j + k + 1) ρ2) → ∃ ρ', forGo pt f its ρ = some (.nx ρ') ∧ I (j + its.length) ρ'
  | [], j, ρ, h0, _ => ⟨ρ, rfl, h0⟩
  | it :: its, j, ρ, h0, hs => by
    obtain ⟨ρ1, ρ2, h1, h2, h3⟩ := hs 0 it ρ rfl h0
    obtain ⟨ρ', h4, h5⟩ := forGo_all I (its := its) (j := j + 1) (ρ := ρ2) h3 fun k it' ρ' hk hi => by
      have := hs (k + 1) it' ρ' (by simpa using hk) (by rw [show j + (k + 1) = j + 1 + k by omega]; exact hi)
      rw [show j + (k + 1) + 1 = j + 1 + k + 1 by omega] at this
      exact this
    refine ⟨ρ', ?_, by rw [List.length_cons, show j + (its.length + 1) = j + 1 + its.length by omega]; exact h5⟩
    simp only [forGo, h1, Option.bind_some]
    rcases h2 with h2 | h2 <;> rw [h2] <;> exact h4
/-- .. over a range -/
theorem for_rng {i : Nat} {f : List Sl → Option Out} {lo : Int} {n : Nat} {ρ : List Sl} (I : Nat → List Sl → Prop) (h0 : I 0 ρ)
    (hs : ∀ (k : Nat) ρ, k < n → I k ρ → ∃ ρ2, (f (ρ.set i (.dat (.int (lo + (k : Int))))) = some (.nx ρ2) ∨ f (ρ.set i (.dat (.int (lo + (k : Int))))) = some (.ct ρ2)) ∧ I (k + 1) ρ2) : ∃ ρ', forGo (.nm i) f (rngIt lo n) ρ = some (.nx ρ') ∧ I n ρ' := by
  obtain ⟨ρ', h1, h2⟩ := forGo_all (pt := .nm i) (f := f) I (its := rngIt lo n) (j := 0) (ρ := ρ) h0 fun k it ρ hk hi => by
    obtain ⟨hlt, rfl⟩ := rngIt_get hk
    rw [Nat.zero_add] at hi ⊢
    obtain ⟨ρ2, a, b⟩ := hs k ρ hlt hi
    exact ⟨_, ρ2, rfl, a, b⟩
  rw [rngIt_len, Nat.zero_add] at h2
  exact ⟨ρ', h1, h2⟩
/-- a loop that hands back at its first item with p, else goes on -/
theorem forGo_find {pt : Pat} {f : List Sl → Option Out} (I : List Sl → Prop) (p : Nat → Bool) (out : Nat → Out) (hout : ∀ k, ∃ m d, out k = .rt m d) : ∀ {its : List Item} {j : Nat} {ρ : List Sl}, I ρ →
    (∀ (k : Nat) it ρ, its[k]? = some it → I ρ → ∃ ρ1, bindP pt ρ it = some ρ1 ∧ (p (j + k) = true → f ρ1 = some (out (j + k))) ∧ (p (j + k) = false → ∃ ρ2, (f ρ1 = some (.nx ρ2) ∨ f ρ1 = some (.ct ρ2)) ∧ I ρ2)) →
    (∃ k, k < its.length ∧ p (j + k) = true ∧ (∀ i, i < k → p (j + i) = false) ∧ forGo pt f its ρ = some (out (j + k))) ∨ ((∀ k, k < its.length → p (j + k) = false) ∧ ∃ ρ', I ρ' ∧ forGo pt f its ρ = some (.nx ρ'))
  | [], j, ρ, h0, _ => .inr ⟨fun k hk => by simp at hk, ρ, h0, rfl⟩
  | it :: its, j, ρ, h0, hs => by
    obtain ⟨ρ1, h1, h2, h3⟩ := hs 0 it ρ rfl h0
    rw [Nat.add_zero] at h2 h3
    cases hp : p j with
    | true =>
      refine .inl ⟨0, by simp, by simpa using hp, fun i hi => by omega, ?_⟩
      obtain ⟨m, d, e⟩ := hout j
      simp only [forGo, h1, Option.bind_some, h2 hp, Nat.add_zero, e]
    | false =>
      obtain ⟨ρ2, h4, h5⟩ := h3 hp
      have e : forGo pt f (it :: its) ρ = forGo pt f its ρ2 := by
        simp only [forGo, h1, Option.bind_some]
        rcases h4 with h4 | h4 <;> rw [h4] <;> rfl
      rw [e]
      rcases forGo_find I p out hout (its := its) (j := j + 1) (ρ := ρ2) h5 (fun k it' ρ' hk hi => by
        have := hs (k + 1) it' ρ' (by simpa using hk) hi
        rw [show j + (k + 1) = j + 1 + k by omega] at this
        exact this) with ⟨k, a, b, c, d⟩ | ⟨a, b⟩
      · refine .inl ⟨k + 1, by simpa using a, by rw [show j + (k + 1) = j + 1 + k by omega]; exact b, fun i hi => ?_, by rw [show j + (k + 1) = j + 1 + k by omega]; exact d⟩
        cases i with
        | zero => simpa using hp
        | succ i => rw [show j + (i + 1) = j + 1 + i by omega]; exact c i (by omega)
      · refine .inr ⟨fun k hk => ?_, b⟩
        cases k with
        | zero => simpa using hp
        | succ k => rw [show j + (k + 1) = j + 1 + k by omega]; exact a k (by simpa using hk)
theorem find_rng {i : Nat} {f : List Sl → Option Out} {lo : Int} {n : Nat} {ρ : List Sl} (I : List Sl → Prop) (p : Nat → Bool) (out : Nat → Out) (hout : ∀ k, ∃ m d, out k = .rt m d) (h0 : I ρ)
    (hs : ∀ (k : Nat) ρ, k < n → I ρ → (p k = true → f (ρ.set i (.dat (.int (lo + (k : Int))))) = some (out k)) ∧ (p k = false → ∃ ρ2, (f (ρ.set i (.dat (.int (lo + (k : Int))))) = some (.nx ρ2) ∨ f (ρ.set i (.dat (.int (lo + (k : Int))))) = some (.ct ρ2)) ∧ I ρ2)) :
    (∃ k, k < n ∧ p k = true ∧ (∀ i, i < k → p i = false) ∧ forGo (.nm i) f (rngIt lo n) ρ = some (out k)) ∨ ((∀ k, k < n → p k = false) ∧ ∃ ρ', I ρ' ∧ forGo (.nm i) f (rngIt lo n) ρ = some (.nx ρ')) := by
  have := forGo_find (pt := .nm i) (f := f) I p out hout (its := rngIt lo n) (j := 0) (ρ := ρ) h0 fun k it ρ hk hi => by
    obtain ⟨hlt, rfl⟩ := rngIt_get hk
    rw [Nat.zero_add]
    exact ⟨_, rfl, hs k ρ hlt hi⟩
  simpa [rngIt_len] using this
/-! ### comprehensions -/
theorem lcGo_map {g : Item → Option (List (Md × D))} {v : Item → Md × D} : ∀ {its : List Item}, (∀ it ∈ its, g it = some [v it]) → lcGo g its = some (its.map v)
  | [], _ => rfl
  | it :: its, h => by
    simp only [lcGo, h it List.mem_cons_self, Option.bind_some, lcGo_map (its := its) fun x hx => h x (List.mem_cons_of_mem _ hx)]
    rfl
theorem lcGo_fil {g : Item → Option (List (Md × D))} {v : Item → Md × D} {p : Item → Bool} : ∀ {its : List Item}, (∀ it ∈ its, g it = some (if p it = true then [v it] else [])) → lcGo g its = some ((its.filter p).map v)
  | [], _ => rfl
  | it :: its, h => by
    simp only [lcGo, h it List.mem_cons_self, Option.bind_some, lcGo_fil (its := its) fun x hx => h x (List.mem_cons_of_mem _ hx)]
    cases hp : p it <;> simp [List.filter_cons, hp]
theorem lc_rng {g : Item → Option (List (Md × D))} {v : Nat → Md × D} {lo : Int} {n : Nat} (h : ∀ k, k < n → g (.one .f (.int (lo + (k : Int)))) = some [v k]) : lcGo g (rngIt lo n) = some ((List.range n).map v) := by
  unfold rngIt
  have key : ∀ l : List Nat, (∀ k ∈ l, k < n) → lcGo g (l.map fun (k : Nat) => Item.one .f (.int (lo + (k : Int)))) = some (l.map v) := by
    intro l
    induction l with
    | nil => intro _; rfl
    | cons a l ih =>
      intro hl
      simp only [List.map_cons, lcGo, h a (hl a List.mem_cons_self), Option.bind_some, ih fun k hk => hl k (List.mem_cons_of_mem _ hk)]
      rfl
  exact key _ fun k hk => List.mem_range.mp hk
theorem lc_seq {α : Type} {g : Item → Option (List (Md × D))} {v : α → Md × D} {m : Md} {e : α → D} : ∀ {xs : List α}, (∀ x ∈ xs, g (.one (ixm m) (e x)) = some [v x]) → lcGo g (seqIt m (xs.map e)) = some (xs.map v)
  | [], _ => rfl
  | x :: xs, h => by
    have ih := lc_seq (m := m) (xs := xs) fun y hy => h y (List.mem_cons_of_mem _ hy)
    unfold seqIt at ih ⊢
    simp only [List.map_cons, lcGo, h x List.mem_cons_self, Option.bind_some, ih]
    rfl
theorem lc_seqF {α : Type} {g : Item → Option (List (Md × D))} {v : α → Md × D} {m : Md} {e : α → D} {p : α → Bool} : ∀ {xs : List α}, (∀ x ∈ xs, g (.one (ixm m) (e x)) = some (if p x = true then [v x] else [])) → lcGo g (seqIt m (xs.map e)) = some ((xs.filter p).map v)
  | [], _ => rfl
  | x :: xs, h => by
    have ih := lc_seqF (m := m) (xs := xs) fun y hy => h y (List.mem_cons_of_mem _ hy)
    unfold seqIt at ih ⊢
    simp only [List.map_cons, lcGo, h x List.mem_cons_self, Option.bind_some, ih]
    cases hp : p x <;> simp [List.filter_cons, hp]
theorem allCf_map {α : Type} {v : α → Md × D} : ∀ {xs : List α}, (∀ x ∈ xs, cf (v x).1 (v x).2 = true) → allCf (xs.map v) = true
  | [], _ => rfl
  | x :: xs, h => by
    simp only [List.map_cons, allCf, Bool.and_eq_true]
    exact ⟨h x List.mem_cons_self, allCf_map fun y hy => h y (List.mem_cons_of_mem _ hy)⟩
theorem lcD_map {α : Type} {v : α → Md × D} {xs : List α} (hl : xs.length < 100000) (h : ∀ x ∈ xs, cf (v x).1 (v x).2 = true) : lcD (xs.map v) = some (.v .n (.lst (xs.map fun x => (v x).2))) := by
  unfold lcD
  rw [if_pos (by rw [List.length_map]; exact hl), if_pos (allCf_map h), List.map_map]
  rfl
/-! ### the draw of the laws -/
def cell0 (ns : List Int) (pl : Int) : Int := if 0 < ns.length then ns.getD (pl % (ns.length : Int)).toNat 0 + pl / (ns.length : Int) else pl
def cell1 (c : Int) : Int := if c < 0 then 0 - c else c
def leftN : Nat → Int → Int
  | 0, l => l
  | n + 1, l => if 0 < leftN n l then leftN n l / 1000 else leftN n l
def mix (c pl st : Int) : Int :=
  let m := (c + 7919 * st + 104729 * pl + 13) % 2147483647
  let m := (m * (m + 48271)) % 2147483629
  (m * (m + 69621) + 31 * st) % 2147483647
def draw (ns : List Int) (pl st sz : Int) : Int :=
  let c := cell1 (cell0 ns pl)
  let l := leftN st.toNat (c - 10 ^ (18 : Int).toNat)
  if 0 < l then (l % 1000) % sz else (mix c pl st / 9) % sz
theorem draw_lt {ns : List Int} {pl st sz : Int} (h : 0 < sz) : 0 ≤ draw ns pl st sz ∧ draw ns pl st sz < sz := by
  unfold draw
  dsimp only
  split
  · exact ⟨Int.emod_nonneg _ (by omega), Int.emod_lt_of_pos _ h⟩
  · exact ⟨Int.emod_nonneg _ (by omega), Int.emod_lt_of_pos _ h⟩
theorem atI_nat {α : Type} {xs : List α} {k : Nat} {x : α} (h : xs[k]? = some x) : atI xs (k : Int) = some x := by
  have hk := (List.getElem?_eq_some_iff.mp h).1
  unfold atI ixN
  rw [if_pos (by omega), if_pos (by omega)]
  simpa using h
theorem big_lt {n : Nat} (h : n < 2 ^ 200) : n < big200 := Nat.lt_of_lt_of_le h (Nat.pow_le_pow_right (by decide) (by decide))
theorem evD_run {O : Orc} {c : CDef} {ds : List D} (h : ds.length = c.ps) : evD O c ds = (evSs O c.body (slots c.n ds)).bind fin := if_pos h
def drawC : CSs := (.cons (.set 4 (.var 1))
    (.cons (.ife (.val (.cmp .gt (.b1 .len (.var 0)) (.int 0))) (.cons (.set 4 (.bin .add (.ix (.var 0) (.bin .mod (.b1 .int (.var 1)) (.b1 .len (.var 0)))) (.bin .fdiv (.var 1) (.b1 .len (.var 0)))))
    .nil) .nil)
    (.cons (.ife (.val (.cmp .lt (.var 4) (.int 0))) (.cons (.set 4 (.bin .sub (.int 0) (.var 4)))
    .nil) .nil)
    (.cons (.set 5 (.bin .sub (.var 4) (.bin .pow (.int 10) (.int 18))))
    (.cons (.for (.nm 6) (.r1 (.var 2)) (.cons (.ife (.val (.cmp .gt (.var 5) (.int 0))) (.cons (.set 5 (.bin .fdiv (.var 5) (.int 1000)))
    .nil) .nil)
    .nil))
    (.cons (.ife (.val (.cmp .gt (.var 5) (.int 0))) (.cons (.ret (.bin .mod (.b1 .int (.bin .mod (.b1 .int (.var 5)) (.int 1000))) (.var 3)))
    .nil) .nil)
    (.cons (.set 7 (.bin .mod (.b1 .int (.bin .add (.bin .add (.bin .add (.var 4) (.bin .mul (.int 7919) (.var 2))) (.bin .mul (.int 104729) (.var 1))) (.int 13))) (.int 2147483647)))
    (.cons (.set 7 (.bin .mod (.b1 .int (.bin .mul (.var 7) (.bin .add (.var 7) (.int 48271)))) (.int 2147483629)))
    (.cons (.set 7 (.bin .mod (.b1 .int (.bin .add (.bin .mul (.var 7) (.bin .add (.var 7) (.int 69621))) (.bin .mul (.int 31) (.var 2)))) (.int 2147483647)))
    (.cons (.ret (.bin .mod (.b1 .int (.bin .fdiv (.var 7) (.int 9))) (.var 3)))
    .nil))))))))))
theorem rngIt_zero {lo : Int} : rngIt lo 0 = [] := rfl
local macro_rules | `(tactic| walk_at "ev") => `(tactic| simp -implicitDefEqProofs only [ev_var, ev_int, ev_bl, ev_str, ev_non, ev_bin, ev_cmp, ev_chain, ev_neg, ev_not, ev_and, ev_or, ev_ife, ev_ix, ev_tup, ev_lst, ev_call, ev_b1, ev_b2, ev_isi, ev_lc, ev_lc2, evs_nil, evs_cons, src_r1', src_r2', src_seq', t_yes', t_not', t_and', t_or', t_val', ss_nil, ss_cons, s_set, s_pat, s_seti, s_app, s_ins, s_ife, s_for, s_retv, s_expr, s_pass, s_brk, s_cont, varS_dat, varS_bor, varS_own, varS_ownD, nrm_int, nrm_bl, nrm_str, nrm_non, nrm_scr, nrm_obj, nrm_lst, nrm_dic, nrm_f, nrm_tup, imm_int, imm_bl, imm_str, imm_non, imm_scr, imm_lst, imm_tup, imm_dic, imm_obj, immA_nil, immA_cons, op2_vv, bin_add, bin_sub, cmp_lt, cmp_le, cmp_gt, cmp_ge, cmp_eq, cmp_ne, cmp_eqb, cmp_neb, cmp_isb, cmp_isnb, cmp_eqs, cmp_nes, isNon_non, isNon_int, isNon_bl, isNon_lst, isNon_tup, isNon_str, isNon_obj, isNon_dic, cmp_is, cmp_isn, ixQ_some, ix_lst, ix_tup, ix_scr, ixm_f, ixm_n, ixm_o, ixm_b, ixm_h, len_lst, len_tup, len_scr, int_int, max_ii, min_ii, neg_i, not_b, bv_v1, list_lst, list_tup, tuple_lst, tuple_tup, itF_f, itF_n, itF_o, itF_b, itF_h, cf_f, cf_n, cf_b, cf_h, cf_o, allCf_nil, allCf_cons, tst_v, truth_bl, truth_lst, andT_t, andT_f, orT_t, orT_f, andR_t, andR_f, orR_f, orR_t, blV_b, ifE_t, ifE_f, ifS_t, ifS_f, ifL_t, ifL_f, elt1_v, lcB_s, lcR_v, lcR2_v, thenS_nx, thenS_rt, thenS_bk, thenS_ct, setR_v, setQ_s, slotV_f, slotV_n, slotV_nd, slotV_bl, slotV_bt, patR_v, setiR_v, appR_v, insR_v, forR_v, retV_own, retV_dat, retV_bor, retV_ownD, retR_v, exprR_v, ret_tup, esc_tup, ret_lst, esc_lst, ret_bin, esc_bin, ret_cmp, esc_cmp, ret_neg, esc_neg, ret_not, esc_not, ret_and, esc_and, ret_or, esc_or, ret_ix, esc_ix, ret_b1, esc_b1, ret_b2, esc_b2, ret_isi, esc_isi, ret_call, esc_call, ret_int, esc_int, ret_bl, esc_bl, ret_ife, esc_ife, ret_str, esc_str, ret_chain, esc_chain, ret_non, esc_non, ret_lc, esc_lc, ret_lc2, esc_lc2, esc_var, escs_nil, escs_cons, frzA_nil, frzA_cons, frz_dat, frz_bor, frz_own, frz_ownD, frz_un, srcEsc_r1, srcEsc_r2, srcEsc_var, srcEsc_call, srcEsc_lst, srcEsc_tup, srcEsc_ix, srcEsc_b1, srcEsc_bin, callR_v, callQ_f, callQ_n, callQ_x, consR_vv, tupR_v, lstR_v, lstR_h, r1R_i, r2R_i, seqR_v, srcD_scr, srcD_lf, srcD_tf, srcD_lb, srcD_tb, srcD_lo, srcD_to, srcD_lh, srcD_th, srcD_ln, fin_f, fin_n, fin_nx, slot0_int, slot0_bl, slot0_str, slot0_non, slot0_scr, slot0_lst, slot0_tup, slot0_obj, slot0_dic, bind_nm, slotOf_f, slotOf_int, slotOf_bl, bind_tp, binds_nil, binds_cons, wipe_nil, wipe_cons, isi_int_int, isi_int_bool, isi_int_str, isi_int_list, isi_int_tuple, isi_int_dict, isi_bool_int, isi_bool_bool, isi_bool_str, isi_bool_list, isi_bool_tuple, isi_bool_dict, isi_list_int, isi_list_bool, isi_list_str, isi_list_list, isi_list_tuple, isi_list_dict, isi_tuple_int, isi_tuple_bool, isi_tuple_str, isi_tuple_list, isi_tuple_tuple, isi_tuple_dict, isi_NoneType_int, isi_NoneType_bool, isi_NoneType_str, isi_NoneType_list, isi_NoneType_tuple, isi_NoneType_dict, isi_str_int, isi_str_bool, isi_str_str, isi_str_list, isi_str_tuple, isi_str_dict, isi_dict_int, isi_dict_bool, isi_dict_str, isi_dict_list, isi_dict_tuple, isi_dict_dict, Option.map_some, Option.map_none, Option.bind_some, Option.bind_none, List.getElem?_cons_zero, List.getElem?_cons_succ, List.set_cons_zero, List.set_cons_succ, List.getD_cons_zero, List.getD_cons_succ, List.map_cons, List.map_nil, List.length_cons, List.length_nil, List.nil_append, List.cons_append, List.append_nil, Bool.not_true, Bool.not_false, Bool.and_true, Bool.true_and, Bool.and_false, Bool.false_and, Bool.or_true, Bool.true_or, Bool.or_false, Bool.false_or, reduceIte, if_true, if_false, Bool.false_eq_true, decide_true, decide_false, reduceCtorEq, and_true, true_and, and_self, Nat.reduceAdd, Nat.reduceLeDiff, Nat.reduceLT, Nat.reduceSub, Nat.reduceEqDiff, List.isEmpty_cons, List.isEmpty_nil, not_true_eq_false, not_false_eq_true, bin_mul, bin_fdiv, bin_mod, bin_pow, Int.reduceLT, Int.reduceLE, Int.reduceNeg, Nat.reducePow, Int.reducePow, Int.reduceToNat])
local macro_rules | `(tactic| walk_at "evs") => `(tactic| simp -implicitDefEqProofs only [*, ev_var, ev_int, ev_bl, ev_str, ev_non, ev_bin, ev_cmp, ev_chain, ev_neg, ev_not, ev_and, ev_or, ev_ife, ev_ix, ev_tup, ev_lst, ev_call, ev_b1, ev_b2, ev_isi, ev_lc, ev_lc2, evs_nil, evs_cons, src_r1', src_r2', src_seq', t_yes', t_not', t_and', t_or', t_val', ss_nil, ss_cons, s_set, s_pat, s_seti, s_app, s_ins, s_ife, s_for, s_retv, s_expr, s_pass, s_brk, s_cont, varS_dat, varS_bor, varS_own, varS_ownD, nrm_int, nrm_bl, nrm_str, nrm_non, nrm_scr, nrm_obj, nrm_lst, nrm_dic, nrm_f, nrm_tup, imm_int, imm_bl, imm_str, imm_non, imm_scr, imm_lst, imm_tup, imm_dic, imm_obj, immA_nil, immA_cons, op2_vv, bin_add, bin_sub, cmp_lt, cmp_le, cmp_gt, cmp_ge, cmp_eq, cmp_ne, cmp_eqb, cmp_neb, cmp_isb, cmp_isnb, cmp_eqs, cmp_nes, isNon_non, isNon_int, isNon_bl, isNon_lst, isNon_tup, isNon_str, isNon_obj, isNon_dic, cmp_is, cmp_isn, ixQ_some, ix_lst, ix_tup, ix_scr, ixm_f, ixm_n, ixm_o, ixm_b, ixm_h, len_lst, len_tup, len_scr, int_int, max_ii, min_ii, neg_i, not_b, bv_v1, list_lst, list_tup, tuple_lst, tuple_tup, itF_f, itF_n, itF_o, itF_b, itF_h, cf_f, cf_n, cf_b, cf_h, cf_o, allCf_nil, allCf_cons, tst_v, truth_bl, truth_lst, andT_t, andT_f, orT_t, orT_f, andR_t, andR_f, orR_f, orR_t, blV_b, ifE_t, ifE_f, ifS_t, ifS_f, ifL_t, ifL_f, elt1_v, lcB_s, lcR_v, lcR2_v, thenS_nx, thenS_rt, thenS_bk, thenS_ct, setR_v, setQ_s, slotV_f, slotV_n, slotV_nd, slotV_bl, slotV_bt, patR_v, setiR_v, appR_v, insR_v, forR_v, retV_own, retV_dat, retV_bor, retV_ownD, retR_v, exprR_v, ret_tup, esc_tup, ret_lst, esc_lst, ret_bin, esc_bin, ret_cmp, esc_cmp, ret_neg, esc_neg, ret_not, esc_not, ret_and, esc_and, ret_or, esc_or, ret_ix, esc_ix, ret_b1, esc_b1, ret_b2, esc_b2, ret_isi, esc_isi, ret_call, esc_call, ret_int, esc_int, ret_bl, esc_bl, ret_ife, esc_ife, ret_str, esc_str, ret_chain, esc_chain, ret_non, esc_non, ret_lc, esc_lc, ret_lc2, esc_lc2, esc_var, escs_nil, escs_cons, frzA_nil, frzA_cons, frz_dat, frz_bor, frz_own, frz_ownD, frz_un, srcEsc_r1, srcEsc_r2, srcEsc_var, srcEsc_call, srcEsc_lst, srcEsc_tup, srcEsc_ix, srcEsc_b1, srcEsc_bin, callR_v, callQ_f, callQ_n, callQ_x, consR_vv, tupR_v, lstR_v, lstR_h, r1R_i, r2R_i, seqR_v, srcD_scr, srcD_lf, srcD_tf, srcD_lb, srcD_tb, srcD_lo, srcD_to, srcD_lh, srcD_th, srcD_ln, fin_f, fin_n, fin_nx, slot0_int, slot0_bl, slot0_str, slot0_non, slot0_scr, slot0_lst, slot0_tup, slot0_obj, slot0_dic, bind_nm, slotOf_f, slotOf_int, slotOf_bl, bind_tp, binds_nil, binds_cons, wipe_nil, wipe_cons, isi_int_int, isi_int_bool, isi_int_str, isi_int_list, isi_int_tuple, isi_int_dict, isi_bool_int, isi_bool_bool, isi_bool_str, isi_bool_list, isi_bool_tuple, isi_bool_dict, isi_list_int, isi_list_bool, isi_list_str, isi_list_list, isi_list_tuple, isi_list_dict, isi_tuple_int, isi_tuple_bool, isi_tuple_str, isi_tuple_list, isi_tuple_tuple, isi_tuple_dict, isi_NoneType_int, isi_NoneType_bool, isi_NoneType_str, isi_NoneType_list, isi_NoneType_tuple, isi_NoneType_dict, isi_str_int, isi_str_bool, isi_str_str, isi_str_list, isi_str_tuple, isi_str_dict, isi_dict_int, isi_dict_bool, isi_dict_str, isi_dict_list, isi_dict_tuple, isi_dict_dict, Option.map_some, Option.map_none, Option.bind_some, Option.bind_none, List.getElem?_cons_zero, List.getElem?_cons_succ, List.set_cons_zero, List.set_cons_succ, List.getD_cons_zero, List.getD_cons_succ, List.map_cons, List.map_nil, List.length_cons, List.length_nil, List.nil_append, List.cons_append, List.append_nil, Bool.not_true, Bool.not_false, Bool.and_true, Bool.true_and, Bool.and_false, Bool.false_and, Bool.or_true, Bool.true_or, Bool.or_false, Bool.false_or, reduceIte, if_true, if_false, Bool.false_eq_true, decide_true, decide_false, reduceCtorEq, and_true, true_and, and_self, Nat.reduceAdd, Nat.reduceLeDiff, Nat.reduceLT, Nat.reduceSub, Nat.reduceEqDiff, List.isEmpty_cons, List.isEmpty_nil, not_true_eq_false, not_false_eq_true, bin_mul, bin_fdiv, bin_mod, bin_pow, Int.reduceLT, Int.reduceLE, Int.reduceNeg, Nat.reducePow, Int.reducePow, Int.reduceToNat])
theorem draw_v {O : Orc} {ns : List Int} {pl st sz : Int} (hb : ns.length ≤ 63) (h1 : 0 ≤ pl) (h1' : pl ≤ 1000000) (h2 : 0 ≤ st) (h3 : st ≤ 10000) (h4 : 0 < sz) : evD O ⟨8, 4, drawC⟩ [.scr ns, .int pl, .int st, .int sz] = some (.ok .f (.int (draw ns pl st sz))) := by
  rw [evD_run (by rfl)]
  show (evSs O drawC [.dat (.scr ns), .dat (.int pl), .dat (.int st), .dat (.int sz), .un, .un, .un, .un]).bind fin = _
  unfold drawC
  walk_at "ev"
  refine thenS_of (ρ1 := [.dat (.scr ns), .dat (.int pl), .dat (.int st), .dat (.int sz), .dat (.int (cell0 ns pl)), .un, .un, .un]) (ifS_dec (fun h => ?_) (fun h => ?_)) ?_
  · have hn : (0 : Int) < ns.length := h
    have hk : (pl % (ns.length : Int)).toNat < ns.length := by
      have h1 := Int.emod_lt_of_pos pl hn
      have h2 := Int.emod_nonneg pl (show (ns.length : Int) ≠ 0 by omega)
      omega
    have hx : atI ns (pl % (ns.length : Int)) = some (ns.getD (pl % (ns.length : Int)).toNat 0) := by
      have h2 := Int.emod_nonneg pl (show (ns.length : Int) ≠ 0 by omega)
      have e : pl % (ns.length : Int) = (((pl % (ns.length : Int)).toNat : Nat) : Int) := by omega
      rw [e]
      exact atI_nat (by rw [Int.toNat_natCast, List.getD_eq_getElem?_getD, List.getElem?_eq_getElem hk]; rfl)
    walk_at "ev"
    rw [bin_mod hn, bin_fdiv hn (by omega)]
    walk_at "ev"
    rw [hx]
    walk_at "ev"
    have e : cell0 ns pl = ns.getD (pl % (ns.length : Int)).toNat 0 + pl / (ns.length : Int) := if_pos (by omega)
    rw [e]
  · walk_at "ev"
    have e : cell0 ns pl = pl := if_neg (by omega)
    rw [e]
  walk_at "ev"
  refine thenS_of (ρ1 := [.dat (.scr ns), .dat (.int pl), .dat (.int st), .dat (.int sz), .dat (.int (cell1 (cell0 ns pl))), .un, .un, .un]) (ifS_dec (fun h => ?_) (fun h => ?_)) ?_
  · walk_at "ev"
    have e : cell1 (cell0 ns pl) = 0 - cell0 ns pl := if_pos h
    rw [e]
  · walk_at "ev"
    have e : cell1 (cell0 ns pl) = cell0 ns pl := if_neg h
    rw [e]
  walk_at "ev"
  rw [if_pos (by omega)]
  rw [forR_v]
  have e0 : draw ns pl st sz = (if 0 < leftN st.toNat (cell1 (cell0 ns pl) - 10 ^ (18 : Int).toNat) then (leftN st.toNat (cell1 (cell0 ns pl) - 10 ^ (18 : Int).toNat) % 1000) % sz else (mix (cell1 (cell0 ns pl)) pl st / 9) % sz) := rfl
  rw [e0]
  have e18 : (10 : Int) ^ (18 : Int).toNat = 1000000000000000000 := by decide
  simp only [e18]
  generalize cell1 (cell0 ns pl) = c
  obtain ⟨ρ', e1, s0, rfl⟩ := for_rng (i := 6) (lo := 0) (n := st.toNat) (f := evSs O (.cons (.ife (.val (.cmp .gt (.var 5) (.int 0))) (.cons (.set 5 (.bin .fdiv (.var 5) (.int 1000))) .nil) .nil) .nil))
    (ρ := [.dat (.scr ns), .dat (.int pl), .dat (.int st), .dat (.int sz), .dat (.int c), .dat (.int (c - 1000000000000000000)), .un, .un])
    (fun k ρ => ∃ s, ρ = [.dat (.scr ns), .dat (.int pl), .dat (.int st), .dat (.int sz), .dat (.int c), .dat (.int (leftN k (c - 1000000000000000000))), s, .un]) ⟨.un, rfl⟩ (fun k ρ hk ⟨s, e⟩ => by
      subst e
      refine ⟨_, .inl ?_, .dat (.int (0 + (k : Int))), rfl⟩
      walk_at "ev"
      have e : leftN (k + 1) (c - 1000000000000000000) = if 0 < leftN k (c - 1000000000000000000) then leftN k (c - 1000000000000000000) / 1000 else leftN k (c - 1000000000000000000) := rfl
      rw [e]
      generalize leftN k _ = l
      refine thenS_of' (ifS_dec (fun h => ?_) (fun h => ?_)) ss_nil
      · rw [if_pos h]; walk_at "ev"
      · rw [if_neg h]; walk_at "ev")
  refine thenS_of e1 ?_
  generalize leftN st.toNat _ = l
  walk_at "ev"
  by_cases hl : 0 < l
  · rw [if_pos hl, decide_eq_true hl]
    walk_at "ev"
    rw [bin_mod h4]
    walk_at "ev"
  · rw [if_neg hl, decide_eq_false hl]
    walk_at "ev"
    rw [bin_mul (by omega) (by omega) (by omega) (by omega), bin_mul (by omega) (by omega) (by omega) (by omega)]
    walk_at "ev"
    have m1 : mix c pl st = ((((c + 7919 * st + 104729 * pl + 13) % 2147483647 * ((c + 7919 * st + 104729 * pl + 13) % 2147483647 + 48271)) % 2147483629) * (((c + 7919 * st + 104729 * pl + 13) % 2147483647 * ((c + 7919 * st + 104729 * pl + 13) % 2147483647 + 48271)) % 2147483629 + 69621) + 31 * st) % 2147483647 := rfl
    rw [m1]
    have n1 := Int.emod_nonneg (c + 7919 * st + 104729 * pl + 13) (show (2147483647 : Int) ≠ 0 by decide)
    have n2 := Int.emod_lt_of_pos (c + 7919 * st + 104729 * pl + 13) (show (0 : Int) < 2147483647 by decide)
    generalize (c + 7919 * st + 104729 * pl + 13) % 2147483647 = a at n1 n2 ⊢
    rw [bin_mul (by omega) (by omega) (by omega) (by omega)]
    walk_at "ev"
    have n3 := Int.emod_nonneg (a * (a + 48271)) (show (2147483629 : Int) ≠ 0 by decide)
    have n4 := Int.emod_lt_of_pos (a * (a + 48271)) (show (0 : Int) < 2147483629 by decide)
    generalize a * (a + 48271) % 2147483629 = b at n3 n4 ⊢
    rw [bin_mul (by omega) (by omega) (by omega) (by omega), bin_mul (by omega) (by omega) (by omega) (by omega)]
    walk_at "ev"
    rw [bin_mod h4]
    walk_at "ev"
theorem orc_call {T : Txt} {k : Nat} {g : Str} {ds : List D} : (orc T k).call g ds = evF T k g ds := rfl
end QL

end
section
set_option maxRecDepth 100000
set_option maxHeartbeats 4000000
namespace QL
open PySem PySem.Spec PyProof.Rows L2 Evl
/-! ### computing: slices, attributes, methods, errors, enumerate -/
section
variable {O : Orc} {ρ : List Sl} {a b c e lo hi : CE} {es : CEs} {m : Md} {d : D} {ds : List D} {i : Nat} {f g mn : Str} {C : Addr} {ns : List Str} {x : Er} {l u : Option Int}
def slR (m : Md) (d : D) (l u : Option (Option Int)) : Option Rv := l.bind fun l => u.bind fun u => slD m d l u
theorem ev_slc : evE O (.slc a lo hi) ρ = bv (evE O a ρ) fun m d => slR m d (partD lo (evE O lo ρ)) (partD hi (evE O hi ρ)) := rfl
theorem partD_non {r : Option Rv} : partD .non r = some none := rfl
theorem partD_int {i j : Int} : partD (.int i) (some (.v m (.int j))) = some (some j) := rfl
theorem partD_var {j : Int} : partD (.var i) (some (.v m (.int j))) = some (some j) := rfl
theorem partD_bin {o : BO} {j : Int} : partD (.bin o a b) (some (.v m (.int j))) = some (some j) := rfl
theorem partD_neg {j : Int} : partD (.neg a) (some (.v m (.int j))) = some (some j) := rfl
theorem partD_b1 {h : B1} {j : Int} : partD (.b1 h a) (some (.v m (.int j))) = some (some j) := rfl
theorem slR_l (c : itF m ds = true) : slR m (.lst ds) (some l) (some u) = some (.v .n (.lst (cutD ds l u))) := if_pos c
theorem slR_t (c : cf m (.tup ds) = true) : slR m (.tup ds) (some l) (some u) = some (.v .f (.tup (cutD ds l u))) := if_pos c
def fldR (O : Orc) (f : Str) : Option (Addr × List Str × List D) → Option Rv → Option Rv
  | some (C, ns, ds), _ => fldD O C ns ds f
  | none, r => bv r fun _ d => match d with
      | .obj C ns ds => fldD O C ns ds f
      | _ => none
theorem ev_fld : evE O (.fld a f) ρ = fldR O f (selfAt a ρ) (evE O a ρ) := by
  rw [evE]; cases selfAt a ρ with
  | none => rfl
  | some p => rfl
theorem fldR_obj : fldR O f none (some (.v m (.obj C ns ds))) = fldD O C ns ds f := rfl
theorem fldR_slf {r : Option Rv} : fldR O f (some (C, ns, ds)) r = fldD O C ns ds f := rfl
theorem fldD_v (h : O.fok C f = true) (hl : (ns.zip ds).lookup f = some d) : fldD O C ns ds f = some (.v .f d) := by
  unfold fldD; rw [if_pos h, hl]; rfl
theorem selfAt_var : selfAt (.var i) ρ = match ρ[i]? with
    | some (.slf _ _ C ns ds) => some (C, ns, ds)
    | _ => none := rfl
def methR (O : Orc) (mn : Str) (ra : Option Ra) (d : D) : Option Rv := match d with
    | .obj C ns ds => if O.mok C mn = false ∨ mn ∈ ns then none else callR (fun es => O.meth C mn (.obj C ns ds :: es)) ra
    | _ => none
theorem ev_meth : evE O (.meth a mn es) ρ = bv (evE O a ρ) fun _ d => methR O mn (evEs O es ρ) d := by
  rw [evE]
  congr 1
theorem methR_v {ra : Option Ra} (h : O.mok C mn = true) (hn : mn ∉ ns) : methR O mn ra (.obj C ns ds) = callR (fun es => O.meth C mn (.obj C ns ds :: es)) ra := if_neg (by rw [h]; simpa using hn)
def enR : Option Rv → Option Rs
  | some (.v m d) => enD m d
  | _ => none
theorem src_en : evSrc O (.enum a) ρ = enR (evE O a ρ) := by
  rw [evSrc]; rcases evE O a ρ with _ | r0
  · rfl
  · cases r0 <;> rfl
theorem enR_l (h : m ≠ .n) : enR (some (.v m (.lst ds))) = some (.v (stab m) (enIt m ds)) := if_neg h
theorem enR_t (h : m ≠ .n) : enR (some (.v m (.tup ds))) = some (.v (stab m) (enIt m ds)) := if_neg h
def raiseR (O : Orc) (g : Str) (ρ : List Sl) : Option Ra → Option Out := fun r => r.bind fun r => match r with
    | .v ms => (O.mkE g (ms.map (·.2))).map fun x => .xs x ρ
    | .x e => (O.mkE g [.int 0]).map fun _ => .xs e ρ
theorem s_raise : evS O (.raise g es) ρ = raiseR O g ρ (evEs O es ρ) := rfl
theorem raiseR_v {ms : List (Md × D)} (h : O.mkE g (ms.map (·.2)) = some x) : raiseR O g ρ (some (.v ms)) = some (.xs x ρ) := by
  show (O.mkE g (ms.map (·.2))).map _ = _
  rw [h]; rfl
def setfR (O : Orc) (i : Nat) (f : Str) (ρ : List Sl) : Option Rv → Option Out
  | some (.v m d) => match ρ[i]? with
      | some (.slf a dx C ns ds) => if cf m d = true ∧ O.fok C f = true ∧ f ∉ ns ∧ ns.length < 1000 then some (.nx (ρ.set i (.slf a dx C (ns ++ [f]) (ds ++ [d])))) else none
      | _ => none
  | some (.x e) => some (.xs e ρ)
  | none => none
theorem s_setf : evS O (.setf i f e) ρ = setfR O i f (frzA ρ (esc e)) (evE O e (frzA ρ (esc e))) := by
  rw [evS]; rcases evE O e (frzA ρ (esc e)) with _ | r0
  · rfl
  · cases r0 <;> rfl
theorem setfR_v {a dx : Addr} (h : ρ[i]? = some (.slf a dx C ns ds)) (hc : cf m d = true) (hf : O.fok C f = true) (hn : f ∉ ns) (hl : ns.length < 1000) : setfR O i f ρ (some (.v m d)) = some (.nx (ρ.set i (.slf a dx C (ns ++ [f]) (ds ++ [d])))) := by
  unfold setfR; rw [h]; exact if_pos ⟨hc, hf, hn, hl⟩
theorem ret_fld : evS O (.ret (.fld a f)) ρ = retR (frzA ρ (esc (.fld a f))) (evE O (.fld a f) (frzA ρ (esc (.fld a f)))) := s_ret fun i z => by cases z
theorem ret_meth : evS O (.ret (.meth a f es)) ρ = retR (frzA ρ (esc (.meth a f es))) (evE O (.meth a f es) (frzA ρ (esc (.meth a f es)))) := s_ret fun i z => by cases z
theorem ret_slc : evS O (.ret (.slc a lo hi)) ρ = retR (frzA ρ (esc (.slc a lo hi))) (evE O (.slc a lo hi) (frzA ρ (esc (.slc a lo hi)))) := s_ret fun i z => by cases z
/-! the tables of a text -/
variable {T : Txt} {k : Nat}
theorem orc_fok : (orc T k).fok C f = T.flds.contains (C, f) := by cases k <;> rfl
theorem orc_mok : (orc T k).mok C mn = (T.mets.lookup (C, mn)).isSome := by cases k <;> rfl
theorem orc_meth {cd : CDef} (h : T.mets.lookup (C, mn) = some cd) : (orc T (k + 1)).meth C mn ds = evD (orc T k) cd ds := by
  show (match T.mets.lookup (C, mn) with | some c => evD (orc T k) c ds | none => none) = _
  rw [h]
theorem orc_mkE {fl : Str} (h : T.errs.lookup g = some (C, fl)) (hs : saidD d = true) : (orc T (k + 1)).mkE g [d] = some ⟨C, [fl], [d]⟩ := by
  show mkErr T.errs (k + 2) g [d] = _
  unfold mkErr
  rw [if_pos (by omega), h]
  exact if_pos hs
theorem orc_cls {cd : CDef} (h0 : T.defs.lookup g = none) (h : T.clss.lookup g = some (C, cd)) : evF T (k + 2) g ds = evI (orc T k) C cd ds := by
  show (match T.defs.lookup g with | some c => evD (orc T (k + 1)) c ds | none => (orc T (k + 1)).ini g ds) = _
  rw [h0]
  show (match T.clss.lookup g with | some (C, c) => evI (orc T k) C c ds | none => none) = _
  rw [h]
theorem evI_run {cd : CDef} {r : Res} (hl : ds.length + 1 = cd.ps) (h : ∀ a dx, (evSs O cd.body (slotsI cd.n a dx C ds)).bind (finI a dx C) = some r) : evI O C cd ds = some r := by
  unfold evI
  rw [if_pos hl]
  exact mkI_eq h
theorem finI_v {a dx : Addr} : finI a dx C (.nx (.slf a dx C ns ds :: ρ)) = some (.ok .f (.obj C ns ds)) := if_pos ⟨rfl, rfl, rfl⟩
end
end QL

end
section
set_option maxRecDepth 100000
set_option maxHeartbeats 4000000
namespace QL
open PySem PySem.Spec PyProof.Rows L2 Evl
/-! ### computing: while, dicts with tuple keys, in, repr, gcd, abs, great numbers -/
section
variable {O : Orc} {ρ ρ1 : List Sl} {a b c e t k : CE} {es : CEs} {m m1 m2 : Md} {d d1 d2 : D} {ds : List D} {i j : Nat} {n n' : Int} {x : Er} {ks : List (List Key)}
theorem varS_ownT : varS (some (.ownT ks ds)) = some (.v .o (.dit ks ds)) := rfl
theorem retV_ownT : retV (some (.ownT ks ds)) = some (.rt .n (.dit ks ds)) := rfl
theorem nrm_dit : nrm m (.dit ks ds) = m := rfl
theorem imm_dit : imm (.dit ks ds) = false := rfl
theorem slotV_nt : slotV .n (.dit ks ds) = some (.ownT ks ds) := rfl
theorem frz_ownT : frzS (.ownT ks ds) = .dat (.dit ks ds) := rfl
theorem slot0_dit : slot0 (.dit ks ds) = .bor (.dit ks ds) := rfl
theorem isNon_dit : isNon (.dit ks ds) = false := rfl
theorem ev_dnT : evE O .dnT ρ = some (.v .n (.dit [] [])) := rfl
theorem abs_int : b1D .abs m (.int n) = some (.v .f (.int (if n < 0 then -n else n))) := rfl
theorem gcd_ii : b2V .gcd m1 (.int n) m2 (.int n') = some (.v .f (.int ((Nat.gcd n.natAbs n'.natAbs : Nat) : Int))) := rfl
theorem repr_v (h1 : isSeq d = true) (h2 : SeqAt.shaped (toPy d) = true) (h3 : (toPy d).showable = true) (h4 : (toPy d).hasDict = false) (h5 : (toPy d).shown.length ≤ 16000000) : b1D .repr m d = some (.v .f (.str (toPy d).shown)) := if_pos ⟨h1, h2, h3, h4, h5⟩
theorem s_whl {t : CT} {body : CSs} : evS O (.whl t body) ρ = whlGo (evT O t) (evSs O body) 100000 ρ := rfl
def asg2R (i j : Nat) (ρ : List Sl) : Option Rv → Option Out
  | some (.v _ d) => if imm d = true then some (.nx ((ρ.set i (.dat d)).set j (.dat d))) else none
  | some (.x e) => some (.xs e ρ)
  | none => none
theorem s_asg2 : evS O (.asg2 i j e) ρ = asg2R i j ρ (evE O e ρ) := by
  simp only [evS]
  rcases evE O e ρ with _ | r0
  · rfl
  · cases r0 <;> rfl
def parR (i j : Nat) (ρ : List Sl) : Option Rv → Option Rv → Option Out
  | some (.v m1 d1), some (.v m2 d2) => if cf m1 d1 = true ∧ cf m2 d2 = true then some (.nx ((ρ.set i (.dat d1)).set j (.dat d2))) else none
  | _, _ => none
theorem s_par : evS O (.par i j a b) ρ = parR i j (frzA (frzA ρ (esc a)) (esc b)) (evE O a (frzA (frzA ρ (esc a)) (esc b))) (evE O b (frzA (frzA ρ (esc a)) (esc b))) := by
  simp only [evS]
  rcases evE O a (frzA (frzA ρ (esc a)) (esc b)) with _ | r0
  · rfl
  · cases r0 with
    | x => rfl
    | v m d =>
      rcases evE O b (frzA (frzA ρ (esc a)) (esc b)) with _ | r1
      · rfl
      · cases r1 <;> rfl
theorem parR_v (h1 : cf m1 d1 = true) (h2 : cf m2 d2 = true) : parR i j ρ (some (.v m1 d1)) (some (.v m2 d2)) = some (.nx ((ρ.set i (.dat d1)).set j (.dat d2))) := if_pos ⟨h1, h2⟩
theorem listrange_v (h0 : 0 ≤ n) (h1 : n ≤ 100000) : b1D .listrange m (.int n) = some (.v .n (.lst ((List.range n.toNat).map fun (i : Nat) => .int (i : Int)))) := if_pos ⟨h0, h1⟩
theorem asg2R_i : asg2R i j ρ (some (.v m (.int n))) = some (.nx ((ρ.set i (.dat (.int n))).set j (.dat (.int n)))) := rfl
theorem ix_dit {es : List D} {k : List Key} (h1 : keysOf es = some k) (h2 : dgt ks ds k = some d) : ixV m1 (.dit ks ds) m2 (.tup es) = some (.v (nrm (ixm m1) d) d) := by
  show dgD m1 (.dit ks ds) es = _
  unfold dgD
  simp only [h1, Option.bind_some, h2, Option.map_some]
theorem setiR_T {es : List D} {k : List Key} (hc : cf m d = true) (hz : ks.length < 100000) (h1 : keysOf es = some k) (hn : k ∉ ks) : setiR i ρ (some (.v m d)) (some (.v m1 (.tup es))) (some (.ownT ks ds)) = some (.nx (ρ.set i (.ownT (ks ++ [k]) (ds ++ [d])))) := by
  show (if cf m d = true ∧ ks.length < 100000 then _ else none) = _
  rw [if_pos ⟨hc, hz⟩, h1, Option.bind_some, if_neg]
  intro z
  obtain ⟨y, h2, h3⟩ := List.any_eq_true.mp z
  exact hn (by rw [← of_decide_eq_true h3]; exact h2)
theorem cmp_eqT {vs ws : List Int} : cmpV .eq m1 (.dit ks (vs.map .int)) m2 (.dit ks (ws.map .int)) = some (.v .f (.bl (decide (vs = ws)))) := by
  have e : ∀ l : List Int, intsOf (l.map D.int) = some l := by
    intro l
    induction l with
    | nil => rfl
    | cons a r ih => simp only [List.map_cons, intsOf, ih, Option.map_some]
  simp only [cmpV, cmpD, if_true, e, Option.bind_some, Option.map_some, fv]
theorem ret_non2 : evS O (.ret .dnT) ρ = retR (frzA ρ (esc .dnT)) (evE O .dnT (frzA ρ (esc .dnT))) := s_ret fun i z => by cases z
theorem esc_slc : esc (.slc a b c) = [] := rfl
theorem esc_dnT : esc .dnT = [] := rfl
theorem srcEsc_slc : srcEsc (.seq (.slc a b c)) = [] := rfl
theorem srcEsc_env : srcEsc (.enum (.var i)) = [i] := rfl
theorem enR_lf : enR (some (.v .f (.lst ds))) = some (.v true (enIt .f ds)) := rfl
theorem enR_lb : enR (some (.v .b (.lst ds))) = some (.v true (enIt .b ds)) := rfl
theorem enR_tf : enR (some (.v .f (.tup ds))) = some (.v true (enIt .f ds)) := rfl
theorem enR_tb : enR (some (.v .b (.tup ds))) = some (.v true (enIt .b ds)) := rfl
theorem partD_ix {n : Int} : partD (.ix a b) (some (.v m (.int n))) = some (some n) := rfl
theorem slR_lf {l u : Option Int} : slR .f (.lst ds) (some l) (some u) = some (.v .n (.lst (cutD ds l u))) := slR_l (by simp [itF])
theorem slR_lo {l u : Option Int} : slR .o (.lst ds) (some l) (some u) = some (.v .n (.lst (cutD ds l u))) := slR_l (by simp [itF])
theorem slR_tf {l u : Option Int} : slR .f (.tup ds) (some l) (some u) = some (.v .f (.tup (cutD ds l u))) := slR_t (by simp [cf])
/-! great numbers -/
theorem big_nat {n : Int} (h1 : -(10 : Int) ^ 300 < n) (h2 : n < (10 : Int) ^ 300) : n.natAbs < big200 := by
  have h : n.natAbs < 10 ^ 300 := by
    have e : ((10 ^ 300 : Nat) : Int) = (10 : Int) ^ 300 := by norm_cast
    omega
  refine Nat.lt_trans h ?_
  show (10 : Nat) ^ 300 < 2 ^ 2000
  decide +kernel
theorem bin_mulW (h1 : n.natAbs < big200) (h2 : n'.natAbs < big200) : binD .mul m1 (.int n) m2 (.int n') = some (.v .f (.int (n * n'))) := by
  simp only [binD, binI, if_pos (⟨h1, h2⟩ : n.natAbs < big200 ∧ n'.natAbs < big200), Option.bind_some, fv]
theorem bin_fdivW (h1 : 0 < n') (h2 : n'.natAbs < big200) : binD .fdiv m1 (.int n) m2 (.int n') = some (.v .f (.int (n / n'))) := by
  simp only [binD, binI, if_pos (⟨h1, h2⟩ : 0 < n' ∧ n'.natAbs < big200), Option.bind_some, fv]
/-! shapes -/
theorem lay_all {N : Nat} : ∀ {ds : List D}, (∀ d ∈ ds, PyData.canLay0 (toPy d) = true ∧ (toPy d).depth ≤ N) → PyData.canLayAll0 (toPyA ds) = true ∧ PyData.depthAll (toPyA ds) ≤ N
  | [], _ => ⟨rfl, Nat.zero_le _⟩
  | d :: ds, h => by
    obtain ⟨a, b⟩ := h d List.mem_cons_self
    obtain ⟨a2, b2⟩ := lay_all fun x hx => h x (List.mem_cons_of_mem _ hx)
    simp only [toPyA, PyData.canLayAll0, PyData.depthAll, a, a2, Bool.and_self, true_and]
    omega
theorem lay_int : PyData.canLay0 (toPy (.int n)) = true ∧ (toPy (.int n)).depth ≤ 0 := ⟨rfl, Nat.le_refl _⟩
theorem lay_lst {N : Nat} (h : ∀ d ∈ ds, PyData.canLay0 (toPy d) = true ∧ (toPy d).depth ≤ N) : PyData.canLay0 (toPy (.lst ds)) = true ∧ (toPy (.lst ds)).depth ≤ N + 1 := by
  obtain ⟨a, b⟩ := lay_all h
  exact ⟨by simp only [toPy, PyData.canLay0, a], by simp only [toPy, PyData.depth]; omega⟩
theorem lay_tup {N : Nat} (h : ∀ d ∈ ds, PyData.canLay0 (toPy d) = true ∧ (toPy d).depth ≤ N) : PyData.canLay0 (toPy (.tup ds)) = true ∧ (toPy (.tup ds)).depth ≤ N + 1 := by
  obtain ⟨a, b⟩ := lay_all h
  exact ⟨by simp only [toPy, PyData.canLay0, a], by simp only [toPy, PyData.depth]; omega⟩
theorem shaped_of {N : Nat} (h : PyData.canLay0 (toPy d) = true ∧ (toPy d).depth ≤ N) (hN : N ≤ 64) : SeqAt.shaped (toPy d) = true := by
  unfold SeqAt.shaped
  rw [h.1, decide_eq_true (Nat.le_trans h.2 hN)]; rfl
/-- a thing is not unlike itself -/
theorem cmp_ne_self (h : SeqAt.shaped (toPy (.lst ds)) = true) : cmpV .ne m1 (.lst ds) m2 (.lst ds) = some (.v .f (.bl false)) := by
  have e : cmpD .ne (.lst ds) (.lst ds) = some (!PyData.eqv (toPy (.lst ds)) (toPy (.lst ds))) := if_pos ⟨h, h⟩
  unfold cmpV
  rw [e, SeqAt.eqv_refl _ (SeqAt.canLay_of_shaped h)]; rfl
/-- n in xs -/
theorem shaped_ints {xs : List Int} : SeqAt.shaped (toPy (.lst (xs.map .int))) = true := shaped_of (N := 1) (lay_lst (N := 0) fun d hd => by
  obtain ⟨y, _, rfl⟩ := List.mem_map.mp hd
  exact lay_int) (by decide)
theorem cmp_in {xs : List Int} : cmpV .isin m1 (.int n) m2 (.lst (xs.map .int)) = some (.v .f (.bl (decide (n ∈ xs)))) := by
  have e : cmpD .isin (.int n) (.lst (xs.map .int)) = some ((toPyA (xs.map .int)).any fun z => PyData.eqv z (toPy (.int n))) := if_pos ⟨rfl, shaped_ints⟩
  have e2 : ∀ xs : List Int, ((toPyA (xs.map .int)).any fun z => PyData.eqv z (toPy (.int n))) = decide (n ∈ xs) := by
    intro xs
    induction xs with
    | nil => rfl
    | cons y r ih =>
      have ih2 : ((toPyA (r.map .int)).any fun z => PyData.eqv z (.int n)) = decide (n ∈ r) := ih
      show (PyData.eqv (.int y) (.int n) || (toPyA (r.map .int)).any fun z => PyData.eqv z (.int n)) = _
      rw [ih2]
      show ((y == n) || decide (n ∈ r)) = decide (n ∈ y :: r)
      by_cases h : y = n
      · subst h; simp
      · have h2 : ¬ n = y := fun z => h z.symm
        simp [h, h2]
  unfold cmpV
  rw [e, e2]; rfl
/-! while by what holds -/
theorem whl_inv {t : List Sl → Option Bool} {f : List Sl → Option Out} (I : Nat → List Sl → Prop) : ∀ (q n : Nat) (ρ : List Sl), q < n → I q ρ →
    (∀ (r : Nat) ρ, I (r + 1) ρ → r < q → t ρ = some true ∧ ∃ ρ2, (f ρ = some (.nx ρ2) ∨ f ρ = some (.ct ρ2)) ∧ ∃ r2, r2 ≤ r ∧ I r2 ρ2) → (∀ ρ, I 0 ρ → t ρ = some false) → ∃ ρ', whlGo t f n ρ = some (.nx ρ') ∧ I 0 ρ'
  | q, 0, _, h, _, _, _ => absurd h (Nat.not_lt_zero _)
  | 0, n + 1, ρ, _, h0, _, hz => ⟨ρ, by simp only [whlGo, hz ρ h0, Option.bind_some, Bool.false_eq_true, if_false], h0⟩
  | q + 1, n + 1, ρ, hq, h0, hs, hz => by
    obtain ⟨h1, ρ2, h2, r2, h3, h4⟩ := hs q ρ h0 (Nat.lt_succ_self _)
    obtain ⟨ρ', h5, h6⟩ := whl_inv I r2 n ρ2 (by omega) h4 (fun r ρ' hr hlt => hs r ρ' hr (by omega)) hz
    refine ⟨ρ', ?_, h6⟩
    simp only [whlGo, h1, Option.bind_some, if_true]
    rcases h2 with h2 | h2 <;> rw [h2] <;> exact h5
end
end QL

end
section
set_option maxRecDepth 100000
set_option maxHeartbeats 4000000
namespace QL
open PySem PySem.Spec PyProof.Rows L2 Evl
local macro_rules | `(tactic| walk_at "ev") => `(tactic| simp -implicitDefEqProofs only [varS_ownT, retV_ownT, nrm_dit, imm_dit, slotV_nt, frz_ownT, slot0_dit, isNon_dit, ev_dnT, abs_int, gcd_ii, s_whl, s_asg2, asg2R_i, s_par, parR_v, esc_slc, esc_dnT, srcEsc_slc, srcEsc_env, enR_lf, enR_lb, enR_tf, enR_tb, partD_non, partD_int, partD_var, partD_bin, partD_ix, partD_neg, partD_b1, slR_lf, slR_lo, slR_tf, ev_var, ev_int, ev_bl, ev_str, ev_non, ev_bin, ev_cmp, ev_chain, ev_neg, ev_not, ev_and, ev_or, ev_ife, ev_ix, ev_tup, ev_lst, ev_call, orc_call, ev_slc, ev_fld, ev_meth, src_en, s_raise, s_setf, ret_fld, ret_meth, ret_slc, ev_b1, ev_b2, ev_isi, ev_lc, ev_lc2, evs_nil, evs_cons, src_r1', src_r2', src_seq', t_yes', t_not', t_and', t_or', t_val', ss_nil, ss_cons, s_set, s_pat, s_seti, s_app, s_ins, s_ife, s_for, s_retv, s_expr, s_pass, s_brk, s_cont, varS_dat, varS_bor, varS_own, varS_ownD, nrm_int, nrm_bl, nrm_str, nrm_non, nrm_scr, nrm_obj, nrm_lst, nrm_dic, nrm_f, nrm_tup, imm_int, imm_bl, imm_str, imm_non, imm_scr, imm_lst, imm_tup, imm_dic, imm_obj, immA_nil, immA_cons, op2_vv, bin_add, bin_sub, cmp_lt, cmp_le, cmp_gt, cmp_ge, cmp_eq, cmp_ne, cmp_eqb, cmp_neb, cmp_isb, cmp_isnb, cmp_eqs, cmp_nes, isNon_non, isNon_int, isNon_bl, isNon_lst, isNon_tup, isNon_str, isNon_obj, isNon_dic, cmp_is, cmp_isn, ixQ_some, ix_lst, ix_tup, ix_scr, ixm_f, ixm_n, ixm_o, ixm_b, ixm_h, len_lst, len_tup, len_scr, int_int, max_ii, min_ii, neg_i, not_b, bv_v1, list_lst, list_tup, tuple_lst, tuple_tup, itF_f, itF_n, itF_o, itF_b, itF_h, cf_f, cf_n, cf_b, cf_h, cf_o, allCf_nil, allCf_cons, tst_v, truth_bl, truth_lst, andT_t, andT_f, orT_t, orT_f, andR_t, andR_f, orR_f, orR_t, blV_b, ifE_t, ifE_f, ifS_t, ifS_f, ifL_t, ifL_f, elt1_v, lcB_s, lcR_v, lcR2_v, thenS_nx, thenS_rt, thenS_bk, thenS_ct, setR_v, setQ_s, slotV_f, slotV_n, slotV_nd, slotV_bl, slotV_bt, patR_v, setiR_v, appR_v, insR_v, forR_v, retV_own, retV_dat, retV_bor, retV_ownD, retR_v, retR_x, setR_x, patR_x, exprR_x, thenS_xs, fin_xs, exprR_v, ret_tup, esc_tup, ret_lst, esc_lst, ret_bin, esc_bin, ret_cmp, esc_cmp, ret_neg, esc_neg, ret_not, esc_not, ret_and, esc_and, ret_or, esc_or, ret_ix, esc_ix, ret_b1, esc_b1, ret_b2, esc_b2, ret_isi, esc_isi, ret_call, esc_call, ret_int, esc_int, ret_bl, esc_bl, ret_ife, esc_ife, ret_str, esc_str, ret_chain, esc_chain, ret_non, esc_non, ret_lc, esc_lc, ret_lc2, esc_lc2, esc_var, escs_nil, escs_cons, frzA_nil, frzA_cons, frz_dat, frz_bor, frz_own, frz_ownD, frz_un, srcEsc_r1, srcEsc_r2, srcEsc_var, srcEsc_call, srcEsc_lst, srcEsc_tup, srcEsc_ix, srcEsc_b1, srcEsc_bin, callR_v, callQ_f, callQ_n, callQ_x, consR_vv, tupR_v, lstR_v, lstR_h, r1R_i, r2R_i, seqR_v, srcD_scr, srcD_lf, srcD_tf, srcD_lb, srcD_tb, srcD_lo, srcD_to, srcD_lh, srcD_th, srcD_ln, fin_f, fin_n, fin_nx, slot0_int, slot0_bl, slot0_str, slot0_non, slot0_scr, slot0_lst, slot0_tup, slot0_obj, slot0_dic, bind_nm, slotOf_f, slotOf_int, slotOf_bl, bind_tp, binds_nil, binds_cons, wipe_nil, wipe_cons, isi_int_int, isi_int_bool, isi_int_str, isi_int_list, isi_int_tuple, isi_int_dict, isi_bool_int, isi_bool_bool, isi_bool_str, isi_bool_list, isi_bool_tuple, isi_bool_dict, isi_list_int, isi_list_bool, isi_list_str, isi_list_list, isi_list_tuple, isi_list_dict, isi_tuple_int, isi_tuple_bool, isi_tuple_str, isi_tuple_list, isi_tuple_tuple, isi_tuple_dict, isi_NoneType_int, isi_NoneType_bool, isi_NoneType_str, isi_NoneType_list, isi_NoneType_tuple, isi_NoneType_dict, isi_str_int, isi_str_bool, isi_str_str, isi_str_list, isi_str_tuple, isi_str_dict, isi_dict_int, isi_dict_bool, isi_dict_str, isi_dict_list, isi_dict_tuple, isi_dict_dict, Option.map_some, Option.map_none, Option.bind_some, Option.bind_none, List.getElem?_cons_zero, List.getElem?_cons_succ, List.set_cons_zero, List.set_cons_succ, List.getD_cons_zero, List.getD_cons_succ, List.map_cons, List.map_nil, List.length_cons, List.length_nil, List.nil_append, List.cons_append, List.append_nil, Bool.not_true, Bool.not_false, Bool.and_true, Bool.true_and, Bool.and_false, Bool.false_and, Bool.or_true, Bool.true_or, Bool.or_false, Bool.false_or, reduceIte, if_true, if_false, Bool.false_eq_true, decide_true, decide_false, reduceCtorEq, and_true, true_and, and_self, Nat.reduceAdd, Nat.reduceLeDiff, Nat.reduceLT, Nat.reduceSub, Nat.reduceEqDiff, List.isEmpty_cons, List.isEmpty_nil, not_true_eq_false, not_false_eq_true, bin_mul, bin_fdiv, bin_mod, bin_pow, Int.reduceLT, Int.reduceLE, Int.reduceNeg, Nat.reducePow, Int.reducePow, Int.reduceToNat])
local macro_rules | `(tactic| walk_at "evs") => `(tactic| simp -implicitDefEqProofs only [*, varS_ownT, retV_ownT, nrm_dit, imm_dit, slotV_nt, frz_ownT, slot0_dit, isNon_dit, ev_dnT, abs_int, gcd_ii, s_whl, s_asg2, asg2R_i, s_par, parR_v, esc_slc, esc_dnT, srcEsc_slc, srcEsc_env, enR_lf, enR_lb, enR_tf, enR_tb, partD_non, partD_int, partD_var, partD_bin, partD_ix, partD_neg, partD_b1, slR_lf, slR_lo, slR_tf, ev_var, ev_int, ev_bl, ev_str, ev_non, ev_bin, ev_cmp, ev_chain, ev_neg, ev_not, ev_and, ev_or, ev_ife, ev_ix, ev_tup, ev_lst, ev_call, orc_call, ev_slc, ev_fld, ev_meth, src_en, s_raise, s_setf, ret_fld, ret_meth, ret_slc, ev_b1, ev_b2, ev_isi, ev_lc, ev_lc2, evs_nil, evs_cons, src_r1', src_r2', src_seq', t_yes', t_not', t_and', t_or', t_val', ss_nil, ss_cons, s_set, s_pat, s_seti, s_app, s_ins, s_ife, s_for, s_retv, s_expr, s_pass, s_brk, s_cont, varS_dat, varS_bor, varS_own, varS_ownD, nrm_int, nrm_bl, nrm_str, nrm_non, nrm_scr, nrm_obj, nrm_lst, nrm_dic, nrm_f, nrm_tup, imm_int, imm_bl, imm_str, imm_non, imm_scr, imm_lst, imm_tup, imm_dic, imm_obj, immA_nil, immA_cons, op2_vv, bin_add, bin_sub, cmp_lt, cmp_le, cmp_gt, cmp_ge, cmp_eq, cmp_ne, cmp_eqb, cmp_neb, cmp_isb, cmp_isnb, cmp_eqs, cmp_nes, isNon_non, isNon_int, isNon_bl, isNon_lst, isNon_tup, isNon_str, isNon_obj, isNon_dic, cmp_is, cmp_isn, ixQ_some, ix_lst, ix_tup, ix_scr, ixm_f, ixm_n, ixm_o, ixm_b, ixm_h, len_lst, len_tup, len_scr, int_int, max_ii, min_ii, neg_i, not_b, bv_v1, list_lst, list_tup, tuple_lst, tuple_tup, itF_f, itF_n, itF_o, itF_b, itF_h, cf_f, cf_n, cf_b, cf_h, cf_o, allCf_nil, allCf_cons, tst_v, truth_bl, truth_lst, andT_t, andT_f, orT_t, orT_f, andR_t, andR_f, orR_f, orR_t, blV_b, ifE_t, ifE_f, ifS_t, ifS_f, ifL_t, ifL_f, elt1_v, lcB_s, lcR_v, lcR2_v, thenS_nx, thenS_rt, thenS_bk, thenS_ct, setR_v, setQ_s, slotV_f, slotV_n, slotV_nd, slotV_bl, slotV_bt, patR_v, setiR_v, appR_v, insR_v, forR_v, retV_own, retV_dat, retV_bor, retV_ownD, retR_v, retR_x, setR_x, patR_x, exprR_x, thenS_xs, fin_xs, exprR_v, ret_tup, esc_tup, ret_lst, esc_lst, ret_bin, esc_bin, ret_cmp, esc_cmp, ret_neg, esc_neg, ret_not, esc_not, ret_and, esc_and, ret_or, esc_or, ret_ix, esc_ix, ret_b1, esc_b1, ret_b2, esc_b2, ret_isi, esc_isi, ret_call, esc_call, ret_int, esc_int, ret_bl, esc_bl, ret_ife, esc_ife, ret_str, esc_str, ret_chain, esc_chain, ret_non, esc_non, ret_lc, esc_lc, ret_lc2, esc_lc2, esc_var, escs_nil, escs_cons, frzA_nil, frzA_cons, frz_dat, frz_bor, frz_own, frz_ownD, frz_un, srcEsc_r1, srcEsc_r2, srcEsc_var, srcEsc_call, srcEsc_lst, srcEsc_tup, srcEsc_ix, srcEsc_b1, srcEsc_bin, callR_v, callQ_f, callQ_n, callQ_x, consR_vv, tupR_v, lstR_v, lstR_h, r1R_i, r2R_i, seqR_v, srcD_scr, srcD_lf, srcD_tf, srcD_lb, srcD_tb, srcD_lo, srcD_to, srcD_lh, srcD_th, srcD_ln, fin_f, fin_n, fin_nx, slot0_int, slot0_bl, slot0_str, slot0_non, slot0_scr, slot0_lst, slot0_tup, slot0_obj, slot0_dic, bind_nm, slotOf_f, slotOf_int, slotOf_bl, bind_tp, binds_nil, binds_cons, wipe_nil, wipe_cons, isi_int_int, isi_int_bool, isi_int_str, isi_int_list, isi_int_tuple, isi_int_dict, isi_bool_int, isi_bool_bool, isi_bool_str, isi_bool_list, isi_bool_tuple, isi_bool_dict, isi_list_int, isi_list_bool, isi_list_str, isi_list_list, isi_list_tuple, isi_list_dict, isi_tuple_int, isi_tuple_bool, isi_tuple_str, isi_tuple_list, isi_tuple_tuple, isi_tuple_dict, isi_NoneType_int, isi_NoneType_bool, isi_NoneType_str, isi_NoneType_list, isi_NoneType_tuple, isi_NoneType_dict, isi_str_int, isi_str_bool, isi_str_str, isi_str_list, isi_str_tuple, isi_str_dict, isi_dict_int, isi_dict_bool, isi_dict_str, isi_dict_list, isi_dict_tuple, isi_dict_dict, Option.map_some, Option.map_none, Option.bind_some, Option.bind_none, List.getElem?_cons_zero, List.getElem?_cons_succ, List.set_cons_zero, List.set_cons_succ, List.getD_cons_zero, List.getD_cons_succ, List.map_cons, List.map_nil, List.length_cons, List.length_nil, List.nil_append, List.cons_append, List.append_nil, Bool.not_true, Bool.not_false, Bool.and_true, Bool.true_and, Bool.and_false, Bool.false_and, Bool.or_true, Bool.true_or, Bool.or_false, Bool.false_or, reduceIte, if_true, if_false, Bool.false_eq_true, decide_true, decide_false, reduceCtorEq, and_true, true_and, and_self, Nat.reduceAdd, Nat.reduceLeDiff, Nat.reduceLT, Nat.reduceSub, Nat.reduceEqDiff, List.isEmpty_cons, List.isEmpty_nil, not_true_eq_false, not_false_eq_true, bin_mul, bin_fdiv, bin_mod, bin_pow, Int.reduceLT, Int.reduceLE, Int.reduceNeg, Nat.reducePow, Int.reducePow, Int.reduceToNat])
/-! ### loops with a state, results that hand back -/
section
variable {O : Orc} {ρ : List Sl} {i : Nat} {m : Md} {lo : Int} {f : List Sl → Option Out} {r : CSs}
theorem forGo_cons {pt : Pat} {it : Item} {its : List Item} {ρ1 : List Sl} (h : bindP pt ρ it = some ρ1) : forGo pt f (it :: its) ρ = (f ρ1).bind fun o => match o with
    | .nx ρ2 => forGo pt f its ρ2
    | .ct ρ2 => forGo pt f its ρ2
    | .bk ρ2 => some (.nx ρ2)
    | o => some o := by
  simp only [forGo, h, Option.bind_some]
  rcases f ρ1 with _ | o
  · rfl
  · cases o <;> rfl
/-- .. over a sequence, by what its part so far gives -/
theorem for_seq {α : Type} {e : α → D} {s : α → Sl} (xs : List α) (I : List α → List Sl → Prop) (h0 : I [] ρ) (hb : ∀ x ∈ xs, slotOf (ixm m) (e x) = some (s x))
    (hs : ∀ (l : List α) x ρ, x ∈ xs → (∃ l', xs = l ++ x :: l') → I l ρ → ∃ ρ2, (f (ρ.set i (s x)) = some (.nx ρ2) ∨ f (ρ.set i (s x)) = some (.ct ρ2)) ∧ I (l ++ [x]) ρ2) :
    ∃ ρ', forGo (.nm i) f (seqIt m (xs.map e)) ρ = some (.nx ρ') ∧ I xs ρ' := by
  have key : ∀ (b a : List α) (ρ : List Sl), xs = a ++ b → I a ρ → ∃ ρ', forGo (.nm i) f (seqIt m (b.map e)) ρ = some (.nx ρ') ∧ I xs ρ' := by
    intro b
    induction b with
    | nil =>
      intro a ρ h1 h2
      rw [List.append_nil] at h1
      exact ⟨ρ, rfl, by rw [h1]; exact h2⟩
    | cons x b ih =>
      intro a ρ h1 h2
      have hx : x ∈ xs := by rw [h1]; simp
      obtain ⟨ρ2, h3, h4⟩ := hs a x ρ hx ⟨b, h1⟩ h2
      obtain ⟨ρ', h5, h6⟩ := ih (a ++ [x]) ρ2 (by rw [h1]; simp) h4
      refine ⟨ρ', ?_, h6⟩
      have eb : bindP (.nm i) ρ (.one (ixm m) (e x)) = some (ρ.set i (s x)) := by rw [bind_nm, hb x hx]; rfl
      show forGo (.nm i) f (.one (ixm m) (e x) :: seqIt m (b.map e)) ρ = _
      rw [forGo_cons eb]
      rcases h3 with h3 | h3 <;> rw [h3] <;> exact h5
  exact key xs [] ρ rfl h0
theorem for_fin {x : Option Out} {q : Option Res} {J : List Sl → Prop} (h : ∃ ρ', x = some (.nx ρ') ∧ J ρ') (h2 : ∀ ρ', J ρ' → (evSs O r ρ').bind fin = q) : (thenS O r x).bind fin = q := by
  obtain ⟨ρ', e, j⟩ := h
  rw [e, thenS_nx, h2 _ j]
theorem for_fin' {x q : Option Out} {J : List Sl → Prop} (h : ∃ ρ', x = some (.nx ρ') ∧ J ρ') (h2 : ∀ ρ', J ρ' → evSs O r ρ' = q) : thenS O r x = q := by
  obtain ⟨ρ', e, j⟩ := h
  rw [e, thenS_nx, h2 _ j]
theorem for_finE {α : Type} {g : α → Option Res} {P : α → Prop} {x : Option Out} {J : List Sl → Prop} (h : ∃ ρ', x = some (.nx ρ') ∧ J ρ') (h2 : ∀ ρ', J ρ' → ∃ v, (evSs O r ρ').bind fin = g v ∧ P v) : ∃ v, (thenS O r x).bind fin = g v ∧ P v := by
  obtain ⟨ρ', e, j⟩ := h
  rw [e, thenS_nx]; exact h2 _ j
theorem rngIt_cons {n : Nat} : rngIt lo (n + 1) = .one .f (.int lo) :: rngIt (lo + 1) n := by
  unfold rngIt
  rw [List.range_succ_eq_map, List.map_cons, List.map_map]
  congr 1
  · simp
  · apply List.map_congr_left
    intro k _
    simp only [Function.comp, Item.one.injEq, D.int.injEq, true_and]
    omega
end
/-! ### numbers in lists -/
theorem intsOf_map : ∀ l : List Int, intsOf (l.map D.int) = some l
  | [] => rfl
  | a :: r => by simp only [List.map_cons, intsOf, intsOf_map r, Option.map_some]
theorem blsOf_map {α : Type} {p : α → Bool} : ∀ l : List α, blsOf (l.map fun x => D.bl (p x)) = some (l.map p)
  | [] => rfl
  | a :: r => by simp only [List.map_cons, blsOf, blsOf_map r, Option.map_some]
theorem sumI_v {l : List Int} {m : Md} : b1D .sum m (.lst (l.map .int)) = some (.v .f (.int l.sum)) := by
  simp only [b1D, intsOf_map, Option.bind_some, fv]
theorem allB_v {α : Type} {p : α → Bool} {l : List α} {m : Md} : b1D .all m (.lst (l.map fun x => D.bl (p x))) = some (.v .f (.bl (l.all p))) := by
  simp only [b1D, blsOf_map, Option.bind_some, fv, List.all_map]
  rfl
theorem atI_int {a : List Int} {k : Nat} (h : k < a.length) : atI (a.map D.int) (k : Int) = some (.int (a.getD k 0)) := by
  apply atI_nat
  rw [List.getElem?_map, List.getElem?_eq_getElem h, List.getD_eq_getElem?_getD, List.getElem?_eq_getElem h]; rfl
theorem atI_last {A : List Int} (h : 0 < A.length) : atI (A.map D.int) (-1) = some (.int (A.getD (A.length - 1) 0)) := by
  unfold atI ixN
  rw [List.length_map, if_neg (by omega), if_pos (by omega)]
  have e : (-1 + (A.length : Int)).toNat = A.length - 1 := by omega
  simp only [Option.bind_some, e, List.getElem?_map]
  rw [List.getElem?_eq_getElem (show A.length - 1 < A.length by omega), List.getD_eq_getElem?_getD, List.getElem?_eq_getElem (show A.length - 1 < A.length by omega)]; rfl
theorem ixN_nat {n k : Nat} (h : k < n) : ixN n (k : Int) = some k := by
  unfold ixN
  rw [if_pos (by omega), if_pos (by omega)]
  simp
/-! ### dicts with tuple keys -/
def kyI (l : List Int) : List Key := l.map .inl
theorem kyI_inj {a b : List Int} (h : kyI a = kyI b) : a = b := by
  unfold kyI at h
  exact (List.map_inj_right (f := (Sum.inl : Int → Key)) (fun x y e => by injection e)).mp h
theorem keysOf_ints : ∀ l : List Int, keysOf (l.map D.int) = some (kyI l)
  | [] => rfl
  | a :: r => by simp only [List.map_cons, keysOf, keysOf_ints r, Option.map_some]; rfl
theorem dgt_map {α : Type} {ky : α → List Key} {v : α → D} (hi : ∀ x y, ky x = ky y → x = y) : ∀ {l : List α} {x : α}, x ∈ l → dgt (l.map ky) (l.map v) (ky x) = some (v x)
  | a :: r, x, h => by
    simp only [List.map_cons, dgt]
    by_cases e : ky a = ky x
    · rw [if_pos e, hi _ _ e]
    · rw [if_neg e]
      rcases List.mem_cons.mp h with h | h
      · exact absurd (by rw [h]) e
      · exact dgt_map hi h
theorem lcN_seq {α : Type} {g : Item → Option (List D)} {v : α → List D} {m : Md} {e : α → D} : ∀ {xs : List α}, (∀ x ∈ xs, g (.one (ixm m) (e x)) = some (v x)) → lcNGo g (seqIt m (xs.map e)) = some (xs.map v)
  | [], _ => rfl
  | x :: xs, h => by
    have ih := lcN_seq (m := m) (xs := xs) fun y hy => h y (List.mem_cons_of_mem _ hy)
    unfold seqIt at ih ⊢
    simp only [List.map_cons, lcNGo, h x List.mem_cons_self, Option.bind_some, ih, Option.map_some]
section
variable {O : Orc} {ρ : List Sl} {i : Nat} {pt : Pat} {src : CSrc} {e ki kj e2 : CE} {vs : List Nat} {st : Bool} {its : List Item} {rows : List (List D)} {row : List D} {m m1 m2 : Md} {d : D} {k1 k2 : Nat}
def rowOf : Option Rv → Option (List D)
  | some (.v .n (.lst row)) => some row
  | _ => none
theorem setN_v (h1 : evSrc O src ρ = some (.v st its)) (h2 : lcNGo (fun it => (bindP pt (wipeR ρ vs) it).bind fun ρ1 => rowOf (evE O e ρ1)) its = some rows) (hl : rows.length < 100000) (hi : i < ρ.length)
    (h3 : evE O e2 (ρ.set i (.bor (.lst (rows.map .lst)))) = some (.v m d)) (h4 : evE O ki (ρ.set i (.bor (.lst (rows.map .lst)))) = some (.v m1 (.int (k1 : Int)))) (h5 : evE O kj (ρ.set i (.bor (.lst (rows.map .lst)))) = some (.v m2 (.int (k2 : Int)))) (hd : imm d = true)
    (hr : rows[k1]? = some row) (hk : k2 < row.length) : evS O (.setN i pt src e vs ki kj e2) ρ = some (.nx (ρ.set i (.own ((rows.set k1 (row.set k2 d)).map .lst)))) := by
  have hk1 := (List.getElem?_eq_some_iff.mp hr).1
  simp only [evS, h1]
  refine Option.bind_eq_some_iff.mpr ⟨rows, h2, ?_⟩
  simp only [Option.bind_some, hl, hi, and_self, if_true, h3, h4, h5, hd, ixN_nat hk1, hr, ixN_nat hk, Option.map_some]
end
/-! ### the same, with what goes on computed -/
def Goes (J : List Sl → Prop) : Option Out → Prop
  | some (.nx ρ) => J ρ
  | some (.ct ρ) => J ρ
  | _ => False
theorem goes_nx {J : List Sl → Prop} {ρ : List Sl} : Goes J (some (.nx ρ)) = J ρ := rfl
theorem goes_ct {J : List Sl → Prop} {ρ : List Sl} : Goes J (some (.ct ρ)) = J ρ := rfl
theorem goes_of {J : List Sl → Prop} {o : Option Out} (h : Goes J o) : ∃ ρ2, (o = some (.nx ρ2) ∨ o = some (.ct ρ2)) ∧ J ρ2 := by
  match o, h with
  | some (.nx ρ), h => exact ⟨ρ, .inl rfl, h⟩
  | some (.ct ρ), h => exact ⟨ρ, .inr rfl, h⟩
section
variable {O : Orc} {ρ : List Sl} {i : Nat} {m : Md} {lo : Int} {n : Nat} {f : List Sl → Option Out} {r : CSs} {q : Option Res} {J : List Sl → Prop}
theorem seq_go {α : Type} {e : α → D} {s : α → Sl} {xs : List α} (I : List α → List Sl → Prop) (h0 : I [] ρ) (hb : ∀ x ∈ xs, slotOf (ixm m) (e x) = some (s x))
    (hs : ∀ (l : List α) x ρ, x ∈ xs → (∃ l', xs = l ++ x :: l') → I l ρ → Goes (I (l ++ [x])) (f (ρ.set i (s x)))) : ∃ ρ', forGo (.nm i) f (seqIt m (xs.map e)) ρ = some (.nx ρ') ∧ I xs ρ' :=
  for_seq xs I h0 hb fun l x ρ hx hl hi => goes_of (hs l x ρ hx hl hi)
theorem rng_go (I : Nat → List Sl → Prop) (h0 : I 0 ρ) (hs : ∀ (k : Nat) ρ, k < n → I k ρ → Goes (I (k + 1)) (f (ρ.set i (.dat (.int (lo + (k : Int))))))) : ∃ ρ', forGo (.nm i) f (rngIt lo n) ρ = some (.nx ρ') ∧ I n ρ' :=
  for_rng I h0 fun k ρ hk hi => goes_of (hs k ρ hk hi)
/-- .. with what comes behind the loop -/
theorem seq_fin {α : Type} {e : α → D} {s : α → Sl} {xs : List α} (I : List α → List Sl → Prop) (h0 : I [] ρ) (hb : ∀ x ∈ xs, slotOf (ixm m) (e x) = some (s x))
    (hs : ∀ (l : List α) x ρ, x ∈ xs → (∃ l', xs = l ++ x :: l') → I l ρ → Goes (I (l ++ [x])) (f (ρ.set i (s x)))) (h2 : ∀ ρ', I xs ρ' → (evSs O r ρ').bind fin = q) : (thenS O r (forGo (.nm i) f (seqIt m (xs.map e)) ρ)).bind fin = q :=
  for_fin (seq_go I h0 hb hs) h2
theorem rng_fin (I : Nat → List Sl → Prop) (h0 : I 0 ρ) (hs : ∀ (k : Nat) ρ, k < n → I k ρ → Goes (I (k + 1)) (f (ρ.set i (.dat (.int (lo + (k : Int))))))) (h2 : ∀ ρ', I n ρ' → (evSs O r ρ').bind fin = q) : (thenS O r (forGo (.nm i) f (rngIt lo n) ρ)).bind fin = q :=
  for_fin (rng_go I h0 hs) h2
theorem seq_in {α : Type} {e : α → D} {s : α → Sl} {xs : List α} (I : List α → List Sl → Prop) (h0 : I [] ρ) (hb : ∀ x ∈ xs, slotOf (ixm m) (e x) = some (s x))
    (hs : ∀ (l : List α) x ρ, x ∈ xs → (∃ l', xs = l ++ x :: l') → I l ρ → Goes (I (l ++ [x])) (f (ρ.set i (s x)))) (h2 : ∀ ρ', I xs ρ' → Goes J (evSs O r ρ')) : Goes J (thenS O r (forGo (.nm i) f (seqIt m (xs.map e)) ρ)) := by
  obtain ⟨ρ', a, b⟩ := seq_go I h0 hb hs
  rw [a, thenS_nx]; exact h2 _ b
theorem rng_in (I : Nat → List Sl → Prop) (h0 : I 0 ρ) (hs : ∀ (k : Nat) ρ, k < n → I k ρ → Goes (I (k + 1)) (f (ρ.set i (.dat (.int (lo + (k : Int))))))) (h2 : ∀ ρ', I n ρ' → Goes J (evSs O r ρ')) : Goes J (thenS O r (forGo (.nm i) f (rngIt lo n) ρ)) := by
  obtain ⟨ρ', a, b⟩ := rng_go I h0 hs
  rw [a, thenS_nx]; exact h2 _ b
theorem seq_out {α : Type} {e : α → D} {s : α → Sl} {xs : List α} {q : Option Out} (I : List α → List Sl → Prop) (h0 : I [] ρ) (hb : ∀ x ∈ xs, slotOf (ixm m) (e x) = some (s x))
    (hs : ∀ (l : List α) x ρ, x ∈ xs → (∃ l', xs = l ++ x :: l') → I l ρ → Goes (I (l ++ [x])) (f (ρ.set i (s x)))) (h2 : ∀ ρ', I xs ρ' → evSs O r ρ' = q) : thenS O r (forGo (.nm i) f (seqIt m (xs.map e)) ρ) = q := by
  obtain ⟨ρ', a, b⟩ := seq_go I h0 hb hs
  rw [a, thenS_nx]; exact h2 _ b
theorem rng_out {q : Option Out} (I : Nat → List Sl → Prop) (h0 : I 0 ρ) (hs : ∀ (k : Nat) ρ, k < n → I k ρ → Goes (I (k + 1)) (f (ρ.set i (.dat (.int (lo + (k : Int))))))) (h2 : ∀ ρ', I n ρ' → evSs O r ρ' = q) : thenS O r (forGo (.nm i) f (rngIt lo n) ρ) = q := by
  obtain ⟨ρ', a, b⟩ := rng_go I h0 hs
  rw [a, thenS_nx]; exact h2 _ b
end
/-! ### loops that may hand back -/
def GoesR (J : List Sl → Prop) (q : Option Res) : Option Out → Prop
  | some (.nx ρ) => J ρ
  | some (.ct ρ) => J ρ
  | some (.rt m d) => fin (.rt m d) = q
  | _ => False
theorem goesR_nx {J : List Sl → Prop} {q : Option Res} {ρ : List Sl} : GoesR J q (some (.nx ρ)) = J ρ := rfl
theorem goesR_ct {J : List Sl → Prop} {q : Option Res} {ρ : List Sl} : GoesR J q (some (.ct ρ)) = J ρ := rfl
theorem goesR_rt {J : List Sl → Prop} {q : Option Res} {m : Md} {d : D} : GoesR J q (some (.rt m d)) = (fin (.rt m d) = q) := rfl
section
variable {O : Orc} {ρ : List Sl} {i : Nat} {m : Md} {lo : Int} {n : Nat} {f : List Sl → Option Out} {r : CSs} {q : Option Res} {J : List Sl → Prop}
theorem rng_to (I : Nat → List Sl → Prop) (h0 : I 0 ρ) (hs : ∀ (k : Nat) ρ, k < n → I k ρ → GoesR (I (k + 1)) q (f (ρ.set i (.dat (.int (lo + (k : Int))))))) (h2 : ∀ ρ', I n ρ' → (evSs O r ρ').bind fin = q) : (thenS O r (forGo (.nm i) f (rngIt lo n) ρ)).bind fin = q := by
  have key : ∀ (t k : Nat) (ρ : List Sl), k + t = n → I k ρ → (thenS O r (forGo (.nm i) f (rngIt (lo + (k : Int)) t) ρ)).bind fin = q := by
    intro t
    induction t with
    | zero =>
      intro k ρ hk hi
      rw [Nat.add_zero] at hk
      subst hk
      exact h2 _ hi
    | succ t ih =>
      intro k ρ hk hi
      have h := hs k ρ (by omega) hi
      rw [rngIt_cons, forGo_cons (ρ1 := ρ.set i (.dat (.int (lo + (k : Int))))) rfl]
      have e : lo + (k : Int) + 1 = lo + ((k + 1 : Nat) : Int) := by omega
      revert h
      rcases f (ρ.set i (.dat (.int (lo + (k : Int))))) with _ | o
      · exact fun h => h.elim
      · cases o with
        | nx ρ2 => intro h; rw [e]; exact ih (k + 1) ρ2 (by omega) h
        | ct ρ2 => intro h; rw [e]; exact ih (k + 1) ρ2 (by omega) h
        | rt m d => exact fun h => h
        | bk _ => exact fun h => h.elim
        | xs _ _ => exact fun h => h.elim
  have := key n 0 ρ (by omega) h0
  rwa [show lo + ((0 : Nat) : Int) = lo from Int.add_zero lo] at this
theorem seq_to {α : Type} {e : α → D} {s : α → Sl} {xs : List α} (I : List α → List Sl → Prop) (h0 : I [] ρ) (hb : ∀ x ∈ xs, slotOf (ixm m) (e x) = some (s x))
    (hs : ∀ (l : List α) x ρ, x ∈ xs → (∃ l', xs = l ++ x :: l') → I l ρ → GoesR (I (l ++ [x])) q (f (ρ.set i (s x)))) (h2 : ∀ ρ', I xs ρ' → (evSs O r ρ').bind fin = q) : (thenS O r (forGo (.nm i) f (seqIt m (xs.map e)) ρ)).bind fin = q := by
  have key : ∀ (b a : List α) (ρ : List Sl), xs = a ++ b → I a ρ → (thenS O r (forGo (.nm i) f (seqIt m (b.map e)) ρ)).bind fin = q := by
    intro b
    induction b with
    | nil =>
      intro a ρ h1 hi
      rw [List.append_nil] at h1
      exact h2 _ (by rw [h1]; exact hi)
    | cons x b ih =>
      intro a ρ h1 hi
      have hx : x ∈ xs := by rw [h1]; simp
      have h := hs a x ρ hx ⟨b, h1⟩ hi
      have eb : bindP (.nm i) ρ (.one (ixm m) (e x)) = some (ρ.set i (s x)) := by rw [bind_nm, hb x hx]; rfl
      show (thenS O r (forGo (.nm i) f (.one (ixm m) (e x) :: seqIt m (b.map e)) ρ)).bind fin = q
      rw [forGo_cons eb]
      revert h
      rcases f (ρ.set i (s x)) with _ | o
      · exact fun h => h.elim
      · cases o with
        | nx ρ2 => exact fun h => ih (a ++ [x]) ρ2 (by rw [h1]; simp) h
        | ct ρ2 => exact fun h => ih (a ++ [x]) ρ2 (by rw [h1]; simp) h
        | rt m d => exact fun h => h
        | bk _ => exact fun h => h.elim
        | xs _ _ => exact fun h => h.elim
  exact key xs [] ρ rfl h0
theorem seq_inR {α : Type} {e : α → D} {s : α → Sl} {xs : List α} (I : List α → List Sl → Prop) (h0 : I [] ρ) (hb : ∀ x ∈ xs, slotOf (ixm m) (e x) = some (s x))
    (hs : ∀ (l : List α) x ρ, x ∈ xs → (∃ l', xs = l ++ x :: l') → I l ρ → Goes (I (l ++ [x])) (f (ρ.set i (s x)))) (h2 : ∀ ρ', I xs ρ' → GoesR J q (evSs O r ρ')) : GoesR J q (thenS O r (forGo (.nm i) f (seqIt m (xs.map e)) ρ)) := by
  obtain ⟨ρ', a, b⟩ := seq_go I h0 hb hs
  rw [a, thenS_nx]; exact h2 _ b
theorem rng_inR (I : Nat → List Sl → Prop) (h0 : I 0 ρ) (hs : ∀ (k : Nat) ρ, k < n → I k ρ → Goes (I (k + 1)) (f (ρ.set i (.dat (.int (lo + (k : Int))))))) (h2 : ∀ ρ', I n ρ' → GoesR J q (evSs O r ρ')) : GoesR J q (thenS O r (forGo (.nm i) f (rngIt lo n) ρ)) := by
  obtain ⟨ρ', a, b⟩ := rng_go I h0 hs
  rw [a, thenS_nx]; exact h2 _ b
end
theorem bin_addl {m1 m2 : Md} {ds es : List D} (h1 : itF m1 ds = true) (h2 : itF m2 es = true) (h3 : ds.length + es.length ≤ 100000) : binD .add m1 (.lst ds) m2 (.lst es) = some (.v .n (.lst (ds ++ es))) := if_pos ⟨rfl, h1, h2, h3⟩
theorem lc_rngF {g : Item → Option (List (Md × D))} {v : Nat → Md × D} {p : Nat → Bool} {lo : Int} {n : Nat} (h : ∀ k, k < n → g (.one .f (.int (lo + (k : Int)))) = some (if p k = true then [v k] else [])) : lcGo g (rngIt lo n) = some (((List.range n).filter p).map v) := by
  unfold rngIt
  have key : ∀ l : List Nat, (∀ k ∈ l, k < n) → lcGo g (l.map fun (k : Nat) => Item.one .f (.int (lo + (k : Int)))) = some ((l.filter p).map v) := by
    intro l
    induction l with
    | nil => intro _; rfl
    | cons a l ih =>
      intro hl
      simp only [List.map_cons, lcGo, h a (hl a List.mem_cons_self), Option.bind_some, ih fun k hk => hl k (List.mem_cons_of_mem _ hk)]
      cases hp : p a <;> simp [List.filter_cons, hp]
  exact key _ fun k hk => List.mem_range.mp hk

end QL

end
section
set_option maxRecDepth 100000
set_option maxHeartbeats 4000000
namespace QL
open PySem PySem.Spec PyProof.Rows L2 Evl
local macro_rules | `(tactic| walk_at "ev") => `(tactic| simp -implicitDefEqProofs only [varS_ownT, retV_ownT, nrm_dit, imm_dit, slotV_nt, frz_ownT, slot0_dit, isNon_dit, ev_dnT, abs_int, gcd_ii, s_whl, s_asg2, asg2R_i, s_par, parR_v, esc_slc, esc_dnT, srcEsc_slc, srcEsc_env, enR_lf, enR_lb, enR_tf, enR_tb, partD_non, partD_int, partD_var, partD_bin, partD_ix, partD_neg, partD_b1, slR_lf, slR_lo, slR_tf, ev_var, ev_int, ev_bl, ev_str, ev_non, ev_bin, ev_cmp, ev_chain, ev_neg, ev_not, ev_and, ev_or, ev_ife, ev_ix, ev_tup, ev_lst, ev_call, orc_call, ev_slc, ev_fld, ev_meth, src_en, s_raise, s_setf, ret_fld, ret_meth, ret_slc, ev_b1, ev_b2, ev_isi, ev_lc, ev_lc2, evs_nil, evs_cons, src_r1', src_r2', src_seq', t_yes', t_not', t_and', t_or', t_val', ss_nil, ss_cons, s_set, s_pat, s_seti, s_app, s_ins, s_ife, s_for, s_retv, s_expr, s_pass, s_brk, s_cont, varS_dat, varS_bor, varS_own, varS_ownD, nrm_int, nrm_bl, nrm_str, nrm_non, nrm_scr, nrm_obj, nrm_lst, nrm_dic, nrm_f, nrm_tup, imm_int, imm_bl, imm_str, imm_non, imm_scr, imm_lst, imm_tup, imm_dic, imm_obj, immA_nil, immA_cons, op2_vv, bin_add, bin_sub, cmp_lt, cmp_le, cmp_gt, cmp_ge, cmp_eq, cmp_ne, cmp_eqb, cmp_neb, cmp_isb, cmp_isnb, cmp_eqs, cmp_nes, isNon_non, isNon_int, isNon_bl, isNon_lst, isNon_tup, isNon_str, isNon_obj, isNon_dic, cmp_is, cmp_isn, ixQ_some, ix_lst, ix_tup, ix_scr, ixm_f, ixm_n, ixm_o, ixm_b, ixm_h, len_lst, len_tup, len_scr, int_int, max_ii, min_ii, neg_i, not_b, bv_v1, list_lst, list_tup, tuple_lst, tuple_tup, itF_f, itF_n, itF_o, itF_b, itF_h, cf_f, cf_n, cf_b, cf_h, cf_o, allCf_nil, allCf_cons, tst_v, truth_bl, truth_lst, andT_t, andT_f, orT_t, orT_f, andR_t, andR_f, orR_f, orR_t, blV_b, ifE_t, ifE_f, ifS_t, ifS_f, ifL_t, ifL_f, elt1_v, lcB_s, lcR_v, lcR2_v, thenS_nx, thenS_rt, thenS_bk, thenS_ct, setR_v, setQ_s, slotV_f, slotV_n, slotV_nd, slotV_bl, slotV_bt, patR_v, setiR_v, appR_v, insR_v, forR_v, retV_own, retV_dat, retV_bor, retV_ownD, retR_v, retR_x, setR_x, patR_x, exprR_x, thenS_xs, fin_xs, exprR_v, ret_tup, esc_tup, ret_lst, esc_lst, ret_bin, esc_bin, ret_cmp, esc_cmp, ret_neg, esc_neg, ret_not, esc_not, ret_and, esc_and, ret_or, esc_or, ret_ix, esc_ix, ret_b1, esc_b1, ret_b2, esc_b2, ret_isi, esc_isi, ret_call, esc_call, ret_int, esc_int, ret_bl, esc_bl, ret_ife, esc_ife, ret_str, esc_str, ret_chain, esc_chain, ret_non, esc_non, ret_lc, esc_lc, ret_lc2, esc_lc2, esc_var, escs_nil, escs_cons, frzA_nil, frzA_cons, frz_dat, frz_bor, frz_own, frz_ownD, frz_un, srcEsc_r1, srcEsc_r2, srcEsc_var, srcEsc_call, srcEsc_lst, srcEsc_tup, srcEsc_ix, srcEsc_b1, srcEsc_bin, callR_v, callQ_f, callQ_n, callQ_x, consR_vv, tupR_v, lstR_v, lstR_h, r1R_i, r2R_i, seqR_v, srcD_scr, srcD_lf, srcD_tf, srcD_lb, srcD_tb, srcD_lo, srcD_to, srcD_lh, srcD_th, srcD_ln, fin_f, fin_n, fin_nx, slot0_int, slot0_bl, slot0_str, slot0_non, slot0_scr, slot0_lst, slot0_tup, slot0_obj, slot0_dic, bind_nm, slotOf_f, slotOf_int, slotOf_bl, bind_tp, binds_nil, binds_cons, wipe_nil, wipe_cons, isi_int_int, isi_int_bool, isi_int_str, isi_int_list, isi_int_tuple, isi_int_dict, isi_bool_int, isi_bool_bool, isi_bool_str, isi_bool_list, isi_bool_tuple, isi_bool_dict, isi_list_int, isi_list_bool, isi_list_str, isi_list_list, isi_list_tuple, isi_list_dict, isi_tuple_int, isi_tuple_bool, isi_tuple_str, isi_tuple_list, isi_tuple_tuple, isi_tuple_dict, isi_NoneType_int, isi_NoneType_bool, isi_NoneType_str, isi_NoneType_list, isi_NoneType_tuple, isi_NoneType_dict, isi_str_int, isi_str_bool, isi_str_str, isi_str_list, isi_str_tuple, isi_str_dict, isi_dict_int, isi_dict_bool, isi_dict_str, isi_dict_list, isi_dict_tuple, isi_dict_dict, Option.map_some, Option.map_none, Option.bind_some, Option.bind_none, List.getElem?_cons_zero, List.getElem?_cons_succ, List.set_cons_zero, List.set_cons_succ, List.getD_cons_zero, List.getD_cons_succ, List.map_cons, List.map_nil, List.length_cons, List.length_nil, List.nil_append, List.cons_append, List.append_nil, Bool.not_true, Bool.not_false, Bool.and_true, Bool.true_and, Bool.and_false, Bool.false_and, Bool.or_true, Bool.true_or, Bool.or_false, Bool.false_or, reduceIte, if_true, if_false, Bool.false_eq_true, decide_true, decide_false, reduceCtorEq, and_true, true_and, and_self, Nat.reduceAdd, Nat.reduceLeDiff, Nat.reduceLT, Nat.reduceSub, Nat.reduceEqDiff, List.isEmpty_cons, List.isEmpty_nil, not_true_eq_false, not_false_eq_true, bin_mul, bin_fdiv, bin_mod, bin_pow, Int.reduceLT, Int.reduceLE, Int.reduceNeg, Nat.reducePow, Int.reducePow, Int.reduceToNat])
local macro_rules | `(tactic| walk_at "evs") => `(tactic| simp -implicitDefEqProofs only [*, varS_ownT, retV_ownT, nrm_dit, imm_dit, slotV_nt, frz_ownT, slot0_dit, isNon_dit, ev_dnT, abs_int, gcd_ii, s_whl, s_asg2, asg2R_i, s_par, parR_v, esc_slc, esc_dnT, srcEsc_slc, srcEsc_env, enR_lf, enR_lb, enR_tf, enR_tb, partD_non, partD_int, partD_var, partD_bin, partD_ix, partD_neg, partD_b1, slR_lf, slR_lo, slR_tf, ev_var, ev_int, ev_bl, ev_str, ev_non, ev_bin, ev_cmp, ev_chain, ev_neg, ev_not, ev_and, ev_or, ev_ife, ev_ix, ev_tup, ev_lst, ev_call, orc_call, ev_slc, ev_fld, ev_meth, src_en, s_raise, s_setf, ret_fld, ret_meth, ret_slc, ev_b1, ev_b2, ev_isi, ev_lc, ev_lc2, evs_nil, evs_cons, src_r1', src_r2', src_seq', t_yes', t_not', t_and', t_or', t_val', ss_nil, ss_cons, s_set, s_pat, s_seti, s_app, s_ins, s_ife, s_for, s_retv, s_expr, s_pass, s_brk, s_cont, varS_dat, varS_bor, varS_own, varS_ownD, nrm_int, nrm_bl, nrm_str, nrm_non, nrm_scr, nrm_obj, nrm_lst, nrm_dic, nrm_f, nrm_tup, imm_int, imm_bl, imm_str, imm_non, imm_scr, imm_lst, imm_tup, imm_dic, imm_obj, immA_nil, immA_cons, op2_vv, bin_add, bin_sub, cmp_lt, cmp_le, cmp_gt, cmp_ge, cmp_eq, cmp_ne, cmp_eqb, cmp_neb, cmp_isb, cmp_isnb, cmp_eqs, cmp_nes, isNon_non, isNon_int, isNon_bl, isNon_lst, isNon_tup, isNon_str, isNon_obj, isNon_dic, cmp_is, cmp_isn, ixQ_some, ix_lst, ix_tup, ix_scr, ixm_f, ixm_n, ixm_o, ixm_b, ixm_h, len_lst, len_tup, len_scr, int_int, max_ii, min_ii, neg_i, not_b, bv_v1, list_lst, list_tup, tuple_lst, tuple_tup, itF_f, itF_n, itF_o, itF_b, itF_h, cf_f, cf_n, cf_b, cf_h, cf_o, allCf_nil, allCf_cons, tst_v, truth_bl, truth_lst, andT_t, andT_f, orT_t, orT_f, andR_t, andR_f, orR_f, orR_t, blV_b, ifE_t, ifE_f, ifS_t, ifS_f, ifL_t, ifL_f, elt1_v, lcB_s, lcR_v, lcR2_v, thenS_nx, thenS_rt, thenS_bk, thenS_ct, setR_v, setQ_s, slotV_f, slotV_n, slotV_nd, slotV_bl, slotV_bt, patR_v, setiR_v, appR_v, insR_v, forR_v, retV_own, retV_dat, retV_bor, retV_ownD, retR_v, retR_x, setR_x, patR_x, exprR_x, thenS_xs, fin_xs, exprR_v, ret_tup, esc_tup, ret_lst, esc_lst, ret_bin, esc_bin, ret_cmp, esc_cmp, ret_neg, esc_neg, ret_not, esc_not, ret_and, esc_and, ret_or, esc_or, ret_ix, esc_ix, ret_b1, esc_b1, ret_b2, esc_b2, ret_isi, esc_isi, ret_call, esc_call, ret_int, esc_int, ret_bl, esc_bl, ret_ife, esc_ife, ret_str, esc_str, ret_chain, esc_chain, ret_non, esc_non, ret_lc, esc_lc, ret_lc2, esc_lc2, esc_var, escs_nil, escs_cons, frzA_nil, frzA_cons, frz_dat, frz_bor, frz_own, frz_ownD, frz_un, srcEsc_r1, srcEsc_r2, srcEsc_var, srcEsc_call, srcEsc_lst, srcEsc_tup, srcEsc_ix, srcEsc_b1, srcEsc_bin, callR_v, callQ_f, callQ_n, callQ_x, consR_vv, tupR_v, lstR_v, lstR_h, r1R_i, r2R_i, seqR_v, srcD_scr, srcD_lf, srcD_tf, srcD_lb, srcD_tb, srcD_lo, srcD_to, srcD_lh, srcD_th, srcD_ln, fin_f, fin_n, fin_nx, slot0_int, slot0_bl, slot0_str, slot0_non, slot0_scr, slot0_lst, slot0_tup, slot0_obj, slot0_dic, bind_nm, slotOf_f, slotOf_int, slotOf_bl, bind_tp, binds_nil, binds_cons, wipe_nil, wipe_cons, isi_int_int, isi_int_bool, isi_int_str, isi_int_list, isi_int_tuple, isi_int_dict, isi_bool_int, isi_bool_bool, isi_bool_str, isi_bool_list, isi_bool_tuple, isi_bool_dict, isi_list_int, isi_list_bool, isi_list_str, isi_list_list, isi_list_tuple, isi_list_dict, isi_tuple_int, isi_tuple_bool, isi_tuple_str, isi_tuple_list, isi_tuple_tuple, isi_tuple_dict, isi_NoneType_int, isi_NoneType_bool, isi_NoneType_str, isi_NoneType_list, isi_NoneType_tuple, isi_NoneType_dict, isi_str_int, isi_str_bool, isi_str_str, isi_str_list, isi_str_tuple, isi_str_dict, isi_dict_int, isi_dict_bool, isi_dict_str, isi_dict_list, isi_dict_tuple, isi_dict_dict, Option.map_some, Option.map_none, Option.bind_some, Option.bind_none, List.getElem?_cons_zero, List.getElem?_cons_succ, List.set_cons_zero, List.set_cons_succ, List.getD_cons_zero, List.getD_cons_succ, List.map_cons, List.map_nil, List.length_cons, List.length_nil, List.nil_append, List.cons_append, List.append_nil, Bool.not_true, Bool.not_false, Bool.and_true, Bool.true_and, Bool.and_false, Bool.false_and, Bool.or_true, Bool.true_or, Bool.or_false, Bool.false_or, reduceIte, if_true, if_false, Bool.false_eq_true, decide_true, decide_false, reduceCtorEq, and_true, true_and, and_self, Nat.reduceAdd, Nat.reduceLeDiff, Nat.reduceLT, Nat.reduceSub, Nat.reduceEqDiff, List.isEmpty_cons, List.isEmpty_nil, not_true_eq_false, not_false_eq_true, bin_mul, bin_fdiv, bin_mod, bin_pow, Int.reduceLT, Int.reduceLE, Int.reduceNeg, Nat.reducePow, Int.reducePow, Int.reduceToNat])
/-! ### loops over enumerate -/
section
variable {O : Orc} {ρ : List Sl} {i : Nat} {m : Md} {f : List Sl → Option Out} {r : CSs} {q : Option Res} {J : List Sl → Prop} {d : D} {ds : List D}
theorem en_go {α : Type} {e : α → D} {pt : Pat} {xs : List α} (I : List α → List Sl → Prop) (b : Nat → α → List Sl → List Sl) (h0 : I [] ρ) (hb : ∀ k x ρ, x ∈ xs → bindP pt ρ (.many [(.f, .int (k : Nat)), (ixm m, e x)]) = some (b k x ρ))
    (hs : ∀ (l : List α) x ρ, x ∈ xs → (∃ l', xs = l ++ x :: l') → I l ρ → Goes (I (l ++ [x])) (f (b l.length x ρ))) : ∃ ρ', forGo pt f (enIt m (xs.map e)) ρ = some (.nx ρ') ∧ I xs ρ' := by
  have key : ∀ (c a : List α) (ρ : List Sl), xs = a ++ c → I a ρ → ∃ ρ', forGo pt f (((c.map e).zipIdx a.length).map fun x => Item.many [(.f, .int (x.2 : Int)), (ixm m, x.1)]) ρ = some (.nx ρ') ∧ I xs ρ' := by
    intro c
    induction c with
    | nil =>
      intro a ρ h1 h2
      rw [List.append_nil] at h1
      exact ⟨ρ, rfl, by rw [h1]; exact h2⟩
    | cons x c ih =>
      intro a ρ h1 h2
      have hx : x ∈ xs := by rw [h1]; simp
      obtain ⟨ρ2, h3, h4⟩ := goes_of (hs a x ρ hx ⟨c, h1⟩ h2)
      obtain ⟨ρ', h5, h6⟩ := ih (a ++ [x]) ρ2 (by rw [h1]; simp) h4
      refine ⟨ρ', ?_, h6⟩
      rw [List.length_append, List.length_singleton] at h5
      rw [List.map_cons, List.zipIdx_cons, List.map_cons, forGo_cons (hb a.length x ρ hx)]
      rcases h3 with h3 | h3 <;> rw [h3] <;> exact h5
  exact key xs [] ρ rfl h0
theorem bind_many {ps : List Pat} {ms : List (Md × D)} : bindP (.tp ps) ρ (.many ms) = if ms.length = ps.length then bindPs ps ρ ms else none := by simp only [bindP]
theorem slotOf_imm (h : imm d = true) : slotOf m d = some (.dat d) := if_pos h
theorem slR_lb {l u : Option Int} (h : immA ds = true) : slR .b (.lst ds) (some l) (some u) = some (.v .n (.lst (cutD ds l u))) := slR_l (by simp [itF, h])
theorem cut_drop {k : Nat} (h : k ≤ ds.length) : cutD ds (some (k : Int)) none = ds.drop k := by
  unfold cutD
  rw [HT.sIx_nat, HT.sIx_none, Nat.min_eq_left h]
  exact List.take_of_length_le (by rw [List.length_drop]; exact Nat.le_refl _)
theorem cut_one : cutD (d :: ds) (some 1) none = ds := by
  have h := cut_drop (ds := d :: ds) (k := 1) (by simp)
  exact h
theorem atI_map {α : Type} {e : α → D} {xs : List α} {k : Nat} {x : α} (h : xs[k]? = some x) : atI (xs.map e) (k : Int) = some (e x) := by
  apply atI_nat
  rw [List.getElem?_map, h]; rfl
/-- small enough for products -/
theorem mulS {a b : Int} {m1 m2 : Md} (h1 : -1000000000000000000000000000000000000000000000000000000000000000000000 ≤ a) (h2 : a ≤ 1000000000000000000000000000000000000000000000000000000000000000000000)
    (h3 : -1000000000000000000000000000000000000000000000000000000000000000000000 ≤ b) (h4 : b ≤ 1000000000000000000000000000000000000000000000000000000000000000000000) : binD .mul m1 (.int a) m2 (.int b) = some (.v .f (.int (a * b))) := by
  have e : (1000000000000000000000000000000000000000000000000000000000000000000000 : Int) < 10 ^ 300 := by decide +kernel
  exact bin_mulW (big_nat (by omega) (by omega)) (big_nat (by omega) (by omega))
theorem fdivS {a b : Int} {m1 m2 : Md} (h3 : 0 < b) (h4 : b ≤ 1000000000000000000000000000000000000000000000000000000000000000000000) : binD .fdiv m1 (.int a) m2 (.int b) = some (.v .f (.int (a / b))) := by
  have e : (1000000000000000000000000000000000000000000000000000000000000000000000 : Int) < 10 ^ 300 := by decide +kernel
  exact bin_fdivW h3 (big_nat (by omega) (by omega))
/-! ### repr of rows of integers -/
theorem log_of {a : Int} (h : a.natAbs < 2 ^ 1000) : a.natAbs.log2 < 1000 := by
  by_cases h0 : a.natAbs = 0
  · rw [h0]; decide
  · exact (Nat.log2_lt h0).mpr h
def rowI (x : List Int) : D := .tup (x.map .int)
theorem rep_ints : ∀ (x : List Int), (∀ a ∈ x, a.natAbs < 2 ^ 1000) → PyData.showableAll (toPyA (x.map .int)) = true ∧ PyData.hasDictAll (toPyA (x.map .int)) = false ∧ PyData.leavesShortAll 1001 (toPyA (x.map .int)) = true ∧ PyData.bulkAll (toPyA (x.map .int)) = x.length
  | [], _ => ⟨rfl, rfl, rfl, rfl⟩
  | a :: x, h => by
    obtain ⟨q1, q2, q3, q4⟩ := rep_ints x fun b hb => h b (List.mem_cons_of_mem _ hb)
    have hl := log_of (h a List.mem_cons_self)
    have e1 : PyData.showable (toPy (.int a)) = true := decide_eq_true (by omega)
    have e3 : PyData.leavesShort 1001 (toPy (.int a)) = true := decide_eq_true (by
      show (PySem.Str.ofString (toString a)).length ≤ 1001
      rw [PySem.ofString_length]
      exact PySem.int_text_length_le (k := 1000) (by decide) hl)
    have e2 : PyData.hasDict (toPy (.int a)) = false := rfl
    have e4 : PyData.bulk (toPy (.int a)) = 0 := rfl
    simp only [List.map_cons, toPyA, PyData.showableAll, PyData.hasDictAll, PyData.leavesShortAll, PyData.bulkAll, e1, e2, e3, e4, q1, q2, q3, q4, Bool.and_self, Bool.or_self, List.length_cons, true_and]
    omega
theorem rep_rows : ∀ (L : List (List Int)), (∀ x ∈ L, x.length ≤ 10 ∧ ∀ a ∈ x, a.natAbs < 2 ^ 1000) → PyData.showableAll (toPyA (L.map rowI)) = true ∧ PyData.hasDictAll (toPyA (L.map rowI)) = false ∧ PyData.leavesShortAll 1001 (toPyA (L.map rowI)) = true ∧ PyData.bulkAll (toPyA (L.map rowI)) ≤ 11 * L.length
  | [], _ => ⟨rfl, rfl, rfl, Nat.le_refl _⟩
  | x :: L, h => by
    obtain ⟨q1, q2, q3, q4⟩ := rep_rows L fun b hb => h b (List.mem_cons_of_mem _ hb)
    obtain ⟨r0, r⟩ := h x List.mem_cons_self
    obtain ⟨p1, p2, p3, p4⟩ := rep_ints x r
    have e1 : PyData.showable (toPy (rowI x)) = true := by simpa only [rowI, toPy, PyData.showable] using p1
    have e2 : PyData.hasDict (toPy (rowI x)) = false := by simpa only [rowI, toPy, PyData.hasDict] using p2
    have e3 : PyData.leavesShort 1001 (toPy (rowI x)) = true := by simpa only [rowI, toPy, PyData.leavesShort] using p3
    have e4 : PyData.bulk (toPy (rowI x)) = x.length := by simpa only [rowI, toPy, PyData.bulk] using p4
    simp only [List.map_cons, toPyA, PyData.showableAll, PyData.hasDictAll, PyData.leavesShortAll, PyData.bulkAll, e1, e2, e3, e4, q1, q2, q3, Bool.and_self, Bool.or_self, List.length_cons, true_and]
    omega
theorem shp_rowI {L : List (List Int)} : SeqAt.shaped (toPy (.lst (L.map rowI))) = true := shaped_of (N := 2) (lay_lst (N := 1) fun d hd => by
  obtain ⟨y, _, rfl⟩ := List.mem_map.mp hd
  exact lay_tup (N := 0) fun d hd => by
    obtain ⟨y, _, rfl⟩ := List.mem_map.mp hd
    exact lay_int) (by decide)
theorem repr_rows {L : List (List Int)} {m : Md} (h : ∀ x ∈ L, x.length ≤ 10 ∧ ∀ a ∈ x, a.natAbs < 2 ^ 1000) (hl : L.length ≤ 1000) : b1D .repr m (.lst (L.map rowI)) = some (.v .f (.str (toPy (.lst (L.map rowI))).shown)) := by
  obtain ⟨q1, q2, q3, q4⟩ := rep_rows L h
  refine repr_v rfl shp_rowI ?_ ?_ ?_
  · simpa only [toPy, PyData.showable] using q1
  · simpa only [toPy, PyData.hasDict] using q2
  · have e3 : PyData.leavesShort 1001 (toPy (.lst (L.map rowI))) = true := by simpa only [toPy, PyData.leavesShort] using q3
    have e4 : PyData.bulk (toPy (.lst (L.map rowI))) ≤ 11 * L.length := by simpa only [toPy, PyData.bulk] using q4
    have := PyData.shown_le_bulk 1001 (by decide) _ e3
    omega
theorem immA_rowI : ∀ L : List (List Int), immA (L.map rowI) = true
  | [] => rfl
  | x :: L => by
    have h := immA_ints x
    have e : imm (rowI x) = true := h
    rw [List.map_cons, immA_cons, e, immA_rowI L]; rfl
end
theorem at20 {a b : D} : atI [a, b] 0 = some a := rfl
theorem at21 {a b : D} : atI [a, b] 1 = some b := rfl
theorem at40 {a b c d : D} : atI [a, b, c, d] 0 = some a := rfl
theorem at41 {a b c d : D} : atI [a, b, c, d] 1 = some b := rfl
theorem at42 {a b c d : D} : atI [a, b, c, d] 2 = some c := rfl
theorem at43 {a b c d : D} : atI [a, b, c, d] 3 = some d := rfl
theorem n22 : ((2 : Nat) : Int) = 2 := rfl
theorem n44 : ((4 : Nat) : Int) = 4 := rfl

end QL

end
section
set_option maxRecDepth 100000
set_option maxHeartbeats 4000000
namespace QL
open PySem PySem.Spec PyProof.Rows L2 Evl
def topS (i : Nat) : Stmt := PySem.Challenge.pw_everyfuture_k25_sections.main.body.getD i (.Pass ⟨0, 0, 0, 0⟩)
abbrev s_make_ratio : Stmt := topS 2
abbrev N_make_ratio : List Str := ["numerator", "denominator", "shared"]
abbrev p_make_ratio : List Str := ["numerator", "denominator"]
theorem sc_make_ratio : FnScope N_make_ratio p_make_ratio (defScope s_make_ratio) := ⟨rfl, rfl, rfl, by decide +kernel, rfl, by decide +kernel, by decide +kernel⟩
def c_make_ratio : CSs := (.cons (.set 2 (.b2 .gcd (.var 0) (.var 1)))
    (.cons (.ret (.tup (.cons (.bin .fdiv (.var 0) (.var 2)) (.cons (.bin .fdiv (.var 1) (.var 2)) .nil))))
    .nil))
abbrev s_is_less : Stmt := topS 3
abbrev N_is_less : List Str := ["first", "second"]
abbrev p_is_less : List Str := ["first", "second"]
theorem sc_is_less : FnScope N_is_less p_is_less (defScope s_is_less) := ⟨rfl, rfl, rfl, by decide +kernel, rfl, by decide +kernel, by decide +kernel⟩
def c_is_less : CSs := (.cons (.ret (.cmp .lt (.bin .mul (.ix (.var 0) (.int 0)) (.ix (.var 1) (.int 1))) (.bin .mul (.ix (.var 1) (.int 0)) (.ix (.var 0) (.int 1)))))
    .nil)
abbrev s_first_section : Stmt := topS 4
abbrev N_first_section : List Str := ["steps", "many", "best", "worth", "hours", "at", "step_hours", "step_worth"]
abbrev p_first_section : List Str := ["steps"]
theorem sc_first_section : FnScope N_first_section p_first_section (defScope s_first_section) := ⟨rfl, rfl, rfl, by decide +kernel, rfl, by decide +kernel, by decide +kernel⟩
def c_first_section : CSs := (.cons (.par 1 2 (.int 0) (.tup (.cons (.int 0) (.cons (.int 1) .nil))))
    (.cons (.asg2 3 4 (.int 0))
    (.cons (.for (.tp [(.nm 5), (.tp [(.nm 6), (.nm 7)])]) (.enum (.var 0)) (.cons (.set 3 (.bin .add (.var 3) (.var 7)))
    (.cons (.set 4 (.bin .add (.var 4) (.var 6)))
    (.cons (.ife (.not (.val (.call "is_less" (.cons (.tup (.cons (.var 3) (.cons (.var 4) .nil))) (.cons (.var 2) .nil))))) (.cons (.par 1 2 (.bin .add (.var 5) (.int 1)) (.tup (.cons (.var 3) (.cons (.var 4) .nil))))
    .nil) .nil)
    .nil))))
    (.cons (.ret (.tup (.cons (.var 1) (.cons (.ix (.var 2) (.int 0)) (.cons (.ix (.var 2) (.int 1)) .nil)))))
    .nil))))
abbrev s_sections : Stmt := topS 5
abbrev N_sections : List Str := ["steps", "found", "start", "many", "worth", "hours"]
abbrev p_sections : List Str := ["steps"]
theorem sc_sections : FnScope N_sections p_sections (defScope s_sections) := ⟨rfl, rfl, rfl, by decide +kernel, rfl, by decide +kernel, by decide +kernel⟩
def c_sections : CSs := (.cons (.set 1 (.lst .nil))
    (.cons (.set 2 (.int 0))
    (.cons (.whl (.val (.cmp .lt (.var 2) (.b1 .len (.var 0)))) (.cons (.pat (.tp [(.nm 3), (.nm 4), (.nm 5)]) (.call "first_section" (.cons (.slc (.var 0) (.var 2) .non) .nil)))
    (.cons (.app 1 (.tup (.cons (.var 2) (.cons (.bin .add (.var 2) (.var 3)) (.cons (.var 4) (.cons (.var 5) .nil))))))
    (.cons (.set 2 (.bin .add (.var 2) (.var 3)))
    .nil))))
    (.cons (.ret (.var 1))
    .nil))))
abbrev s__law_draw : Stmt := topS 7
abbrev N__law_draw : List Str := ["_law_script", "_law_place", "_law_step_here", "_law_size", "_law_cell", "_law_left", "_law_turn", "_law_mixed"]
abbrev p__law_draw : List Str := ["_law_script", "_law_place", "_law_step_here", "_law_size"]
theorem sc__law_draw : FnScope N__law_draw p__law_draw (defScope s__law_draw) := ⟨rfl, rfl, rfl, by decide +kernel, rfl, by decide +kernel, by decide +kernel⟩
def c__law_draw : CSs := (.cons (.set 4 (.var 1))
    (.cons (.ife (.val (.cmp .gt (.b1 .len (.var 0)) (.int 0))) (.cons (.set 4 (.bin .add (.ix (.var 0) (.bin .mod (.b1 .int (.var 1)) (.b1 .len (.var 0)))) (.bin .fdiv (.var 1) (.b1 .len (.var 0)))))
    .nil) .nil)
    (.cons (.ife (.val (.cmp .lt (.var 4) (.int 0))) (.cons (.set 4 (.bin .sub (.int 0) (.var 4)))
    .nil) .nil)
    (.cons (.set 5 (.bin .sub (.var 4) (.bin .pow (.int 10) (.int 18))))
    (.cons (.for (.nm 6) (.r1 (.var 2)) (.cons (.ife (.val (.cmp .gt (.var 5) (.int 0))) (.cons (.set 5 (.bin .fdiv (.var 5) (.int 1000)))
    .nil) .nil)
    .nil))
    (.cons (.ife (.val (.cmp .gt (.var 5) (.int 0))) (.cons (.ret (.bin .mod (.b1 .int (.bin .mod (.b1 .int (.var 5)) (.int 1000))) (.var 3)))
    .nil) .nil)
    (.cons (.set 7 (.bin .mod (.b1 .int (.bin .add (.bin .add (.bin .add (.var 4) (.bin .mul (.int 7919) (.var 2))) (.bin .mul (.int 104729) (.var 1))) (.int 13))) (.int 2147483647)))
    (.cons (.set 7 (.bin .mod (.b1 .int (.bin .mul (.var 7) (.bin .add (.var 7) (.int 48271)))) (.int 2147483629)))
    (.cons (.set 7 (.bin .mod (.b1 .int (.bin .add (.bin .mul (.var 7) (.bin .add (.var 7) (.int 69621))) (.bin .mul (.int 31) (.var 2)))) (.int 2147483647)))
    (.cons (.ret (.bin .mod (.b1 .int (.bin .fdiv (.var 7) (.int 9))) (.var 3)))
    .nil))))))))))
abbrev s__law_big : Stmt := topS 8
abbrev N__law_big : List Str := ["_law_script", "_law_place", "_law_step_here", "_law_size", "_law_number_here", "_law_turn"]
abbrev p__law_big : List Str := ["_law_script", "_law_place", "_law_step_here", "_law_size"]
theorem sc__law_big : FnScope N__law_big p__law_big (defScope s__law_big) := ⟨rfl, rfl, rfl, by decide +kernel, rfl, by decide +kernel, by decide +kernel⟩
def c__law_big : CSs := (.cons (.set 4 (.int 0))
    (.cons (.for (.nm 5) (.r1 (.int 7)) (.cons (.set 4 (.bin .add (.bin .mul (.var 4) (.int 1000)) (.call "_law_draw" (.cons (.var 0) (.cons (.var 1) (.cons (.bin .add (.var 2) (.var 5)) (.cons (.int 1000) .nil)))))))
    .nil))
    (.cons (.ret (.bin .mod (.b1 .int (.var 4)) (.var 3)))
    .nil)))
abbrev s__law_number : Stmt := topS 9
abbrev N__law_number : List Str := ["_law_script", "_law_place", "_law_step_here", "_law_shape"]
abbrev p__law_number : List Str := ["_law_script", "_law_place", "_law_step_here"]
theorem sc__law_number : FnScope N__law_number p__law_number (defScope s__law_number) := ⟨rfl, rfl, rfl, by decide +kernel, rfl, by decide +kernel, by decide +kernel⟩
def c__law_number : CSs := (.cons (.set 3 (.call "_law_draw" (.cons (.var 0) (.cons (.var 1) (.cons (.var 2) (.cons (.int 8) .nil))))))
    (.cons (.ife (.val (.cmp .eq (.var 3) (.int 0))) (.cons (.ret (.call "_law_big" (.cons (.var 0) (.cons (.var 1) (.cons (.bin .add (.var 2) (.int 1)) (.cons (.bin .add (.bin .pow (.int 10) (.int 18)) (.int 1)) .nil))))))
    .nil) .nil)
    (.cons (.ife (.val (.cmp .eq (.var 3) (.int 1))) (.cons (.ret (.bin .sub (.bin .pow (.int 10) (.int 18)) (.call "_law_draw" (.cons (.var 0) (.cons (.var 1) (.cons (.bin .add (.var 2) (.int 1)) (.cons (.int 4) .nil)))))))
    .nil) .nil)
    (.cons (.ret (.call "_law_draw" (.cons (.var 0) (.cons (.var 1) (.cons (.bin .add (.var 2) (.int 1)) (.cons (.int 10) .nil))))))
    .nil))))
abbrev s__law_is_int : Stmt := topS 10
abbrev N__law_is_int : List Str := ["_law_x"]
abbrev p__law_is_int : List Str := ["_law_x"]
theorem sc__law_is_int : FnScope N__law_is_int p__law_is_int (defScope s__law_is_int) := ⟨rfl, rfl, rfl, by decide +kernel, rfl, by decide +kernel, by decide +kernel⟩
def c__law_is_int : CSs := (.cons (.ret (.and (.isi (.var 0) "int") (.not (.isi (.var 0) "bool"))))
    .nil)
abbrev s__law_step : Stmt := topS 11
abbrev N__law_step : List Str := ["_law_script", "_law_place", "_law_mode", "_law_hours"]
abbrev p__law_step : List Str := ["_law_script", "_law_place", "_law_mode"]
theorem sc__law_step : FnScope N__law_step p__law_step (defScope s__law_step) := ⟨rfl, rfl, rfl, by decide +kernel, rfl, by decide +kernel, by decide +kernel⟩
def c__law_step : CSs := (.cons (.ife (.val (.cmp .eq (.var 2) (.int 5))) (.cons (.ret (.tup (.cons (.bin .sub (.bin .sub (.bin .pow (.int 10) (.int 60)) (.int 1)) (.call "_law_draw" (.cons (.var 0) (.cons (.var 1) (.cons (.int 0) (.cons (.int 4) .nil)))))) (.cons (.bin .sub (.bin .sub (.bin .pow (.int 10) (.int 60)) (.int 1)) (.call "_law_draw" (.cons (.var 0) (.cons (.var 1) (.cons (.int 1) (.cons (.int 4) .nil)))))) .nil))))
    .nil) .nil)
    (.cons (.ife (.val (.cmp .eq (.var 2) (.int 4))) (.cons (.ret (.tup (.cons (.b2 .max (.int 1) (.call "_law_number" (.cons (.var 0) (.cons (.var 1) (.cons (.int 0) .nil))))) (.cons (.call "_law_number" (.cons (.var 0) (.cons (.var 1) (.cons (.int 8) .nil)))) .nil))))
    .nil) .nil)
    (.cons (.ife (.val (.cmp .eq (.var 2) (.int 3))) (.cons (.ret (.tup (.cons (.bin .sub (.bin .pow (.int 10) (.int 18)) (.call "_law_draw" (.cons (.var 0) (.cons (.var 1) (.cons (.int 0) (.cons (.int 4) .nil)))))) (.cons (.bin .sub (.bin .pow (.int 10) (.int 18)) (.call "_law_draw" (.cons (.var 0) (.cons (.var 1) (.cons (.int 1) (.cons (.int 4) .nil)))))) .nil))))
    .nil) .nil)
    (.cons (.set 3 (.bin .add (.int 1) (.call "_law_draw" (.cons (.var 0) (.cons (.var 1) (.cons (.int 0) (.cons (.int 4) .nil)))))))
    (.cons (.ife (.val (.cmp .eq (.var 2) (.int 2))) (.cons (.ret (.tup (.cons (.var 3) (.cons (.bin .mul (.var 3) (.call "_law_draw" (.cons (.var 0) (.cons (.var 1) (.cons (.int 1) (.cons (.int 3) .nil)))))) .nil))))
    .nil) .nil)
    (.cons (.ret (.tup (.cons (.var 3) (.cons (.call "_law_draw" (.cons (.var 0) (.cons (.var 1) (.cons (.int 1) (.cons (.int 7) .nil))))) .nil))))
    .nil))))))
abbrev s__law_beginnings : Stmt := topS 12
abbrev N__law_beginnings : List Str := ["_law_steps", "_law_start", "_law_rows", "_law_worth", "_law_hours", "_law_k"]
abbrev p__law_beginnings : List Str := ["_law_steps", "_law_start"]
theorem sc__law_beginnings : FnScope N__law_beginnings p__law_beginnings (defScope s__law_beginnings) := ⟨rfl, rfl, rfl, by decide +kernel, rfl, by decide +kernel, by decide +kernel⟩
def c__law_beginnings : CSs := (.cons (.set 2 (.lst .nil))
    (.cons (.set 3 (.int 0))
    (.cons (.set 4 (.int 0))
    (.cons (.for (.nm 5) (.r2 (.var 1) (.b1 .len (.var 0))) (.cons (.set 4 (.bin .add (.var 4) (.ix (.ix (.var 0) (.var 5)) (.int 0))))
    (.cons (.set 3 (.bin .add (.var 3) (.ix (.ix (.var 0) (.var 5)) (.int 1))))
    (.cons (.app 2 (.tup (.cons (.var 1) (.cons (.bin .add (.var 5) (.int 1)) (.cons (.var 3) (.cons (.var 4) .nil))))))
    .nil))))
    (.cons (.ret (.var 2))
    .nil)))))
abbrev s__law_longest_best : Stmt := topS 13
abbrev N__law_longest_best : List Str := ["_law_rows", "_law_best", "_law_row", "_law_better", "_law_other"]
abbrev p__law_longest_best : List Str := ["_law_rows"]
theorem sc__law_longest_best : FnScope N__law_longest_best p__law_longest_best (defScope s__law_longest_best) := ⟨rfl, rfl, rfl, by decide +kernel, rfl, by decide +kernel, by decide +kernel⟩
def c__law_longest_best : CSs := (.cons (.set 1 (.ix (.var 0) (.int 0)))
    (.cons (.for (.nm 2) (.seq (.var 0)) (.cons (.set 3 (.lc (.nm 4) (.seq (.var 0)) (.val (.cmp .gt (.bin .mul (.ix (.var 4) (.int 2)) (.ix (.var 2) (.int 3))) (.bin .mul (.ix (.var 2) (.int 2)) (.ix (.var 4) (.int 3))))) (.var 4) [4]))
    (.cons (.ife (.val (.cmp .eq (.b1 .len (.var 3)) (.int 0))) (.cons (.set 1 (.var 2))
    .nil) .nil)
    .nil)))
    (.cons (.ret (.var 1))
    .nil)))
abbrev s__law_sections : Stmt := topS 14
abbrev N__law_sections : List Str := ["_law_steps", "_law_found", "_law_start", "_law_turn"]
abbrev p__law_sections : List Str := ["_law_steps"]
theorem sc__law_sections : FnScope N__law_sections p__law_sections (defScope s__law_sections) := ⟨rfl, rfl, rfl, by decide +kernel, rfl, by decide +kernel, by decide +kernel⟩
def c__law_sections : CSs := (.cons (.set 1 (.lst .nil))
    (.cons (.set 2 (.int 0))
    (.cons (.for (.nm 3) (.r1 (.b1 .len (.var 0))) (.cons (.ife (.val (.cmp .lt (.var 2) (.b1 .len (.var 0)))) (.cons (.app 1 (.call "_law_longest_best" (.cons (.call "_law_beginnings" (.cons (.var 0) (.cons (.var 2) .nil))) .nil)))
    (.cons (.set 2 (.ix (.ix (.var 1) (.neg (.int 1))) (.int 1)))
    .nil)) .nil)
    .nil))
    (.cons (.ret (.var 1))
    .nil))))
abbrev s__law_right : Stmt := topS 15
abbrev N__law_right : List Str := ["_law_actual", "_law_expected", "_law_k", "_law_row", "_law_j"]
abbrev p__law_right : List Str := ["_law_actual", "_law_expected"]
theorem sc__law_right : FnScope N__law_right p__law_right (defScope s__law_right) := ⟨rfl, rfl, rfl, by decide +kernel, rfl, by decide +kernel, by decide +kernel⟩
def c__law_right : CSs := (.cons (.ife (.or (.not (.val (.isi (.var 0) "list"))) (.val (.cmp .ne (.b1 .len (.var 0)) (.b1 .len (.var 1))))) (.cons (.ret (.bl false))
    .nil) .nil)
    (.cons (.for (.nm 2) (.r1 (.b1 .len (.var 1))) (.cons (.set 3 (.ix (.var 0) (.var 2)))
    (.cons (.ife (.or (.not (.val (.isi (.var 3) "tuple"))) (.val (.cmp .ne (.b1 .len (.var 3)) (.int 4)))) (.cons (.ret (.bl false))
    .nil) .nil)
    (.cons (.for (.nm 4) (.r1 (.int 4)) (.cons (.ife (.or (.not (.val (.call "_law_is_int" (.cons (.ix (.var 3) (.var 4)) .nil)))) (.val (.cmp .ne (.ix (.var 3) (.var 4)) (.ix (.ix (.var 1) (.var 2)) (.var 4))))) (.cons (.ret (.bl false))
    .nil) .nil)
    .nil))
    .nil))))
    (.cons (.ret (.bl true))
    .nil)))
abbrev s__law_falls : Stmt := topS 16
abbrev N__law_falls : List Str := ["_law_rows", "_law_k"]
abbrev p__law_falls : List Str := ["_law_rows"]
theorem sc__law_falls : FnScope N__law_falls p__law_falls (defScope s__law_falls) := ⟨rfl, rfl, rfl, by decide +kernel, rfl, by decide +kernel, by decide +kernel⟩
def c__law_falls : CSs := (.cons (.for (.nm 1) (.r1 (.bin .sub (.b1 .len (.var 0)) (.int 1))) (.cons (.ife (.val (.cmp .le (.bin .mul (.ix (.ix (.var 0) (.var 1)) (.int 2)) (.ix (.ix (.var 0) (.bin .add (.var 1) (.int 1))) (.int 3))) (.bin .mul (.ix (.ix (.var 0) (.bin .add (.var 1) (.int 1))) (.int 2)) (.ix (.ix (.var 0) (.var 1)) (.int 3))))) (.cons (.ret (.bl false))
    .nil) .nil)
    .nil))
    (.cons (.ret (.bl true))
    .nil))
abbrev s__law_pair : Stmt := topS 17
abbrev N__law_pair : List Str := ["_law_script", "_law_place", "_law_factor", "_law_top", "_law_bottom"]
abbrev p__law_pair : List Str := ["_law_script", "_law_place"]
theorem sc__law_pair : FnScope N__law_pair p__law_pair (defScope s__law_pair) := ⟨rfl, rfl, rfl, by decide +kernel, rfl, by decide +kernel, by decide +kernel⟩
def c__law_pair : CSs := (.cons (.set 2 (.bin .add (.int 1) (.call "_law_draw" (.cons (.var 0) (.cons (.var 1) (.cons (.int 0) (.cons (.int 12) .nil)))))))
    (.cons (.set 3 (.bin .mul (.var 2) (.call "_law_number" (.cons (.var 0) (.cons (.var 1) (.cons (.int 1) .nil))))))
    (.cons (.set 4 (.bin .mul (.var 2) (.b2 .max (.int 1) (.call "_law_number" (.cons (.var 0) (.cons (.var 1) (.cons (.int 9) .nil)))))))
    (.cons (.ife (.val (.cmp .eq (.call "_law_draw" (.cons (.var 0) (.cons (.var 1) (.cons (.int 17) (.cons (.int 3) .nil))))) (.int 0))) (.cons (.set 3 (.bin .sub (.int 0) (.var 3)))
    .nil) .nil)
    (.cons (.ret (.tup (.cons (.var 3) (.cons (.var 4) .nil))))
    .nil)))))
abbrev s__law_divisor : Stmt := topS 18
abbrev N__law_divisor : List Str := ["_law_first", "_law_second", "_law_turn", "_law_rest"]
abbrev p__law_divisor : List Str := ["_law_first", "_law_second"]
theorem sc__law_divisor : FnScope N__law_divisor p__law_divisor (defScope s__law_divisor) := ⟨rfl, rfl, rfl, by decide +kernel, rfl, by decide +kernel, by decide +kernel⟩
def c__law_divisor : CSs := (.cons (.for (.nm 2) (.r1 (.int 400)) (.cons (.ife (.val (.cmp .eq (.var 1) (.int 0))) (.cons (.ret (.var 0))
    .nil) .nil)
    (.cons (.set 3 (.bin .mod (.b1 .int (.var 0)) (.var 1)))
    (.cons (.set 0 (.var 1))
    (.cons (.set 1 (.var 3))
    .nil)))))
    (.cons (.ret (.int 0))
    .nil))
abbrev s__law_lowest : Stmt := topS 19
abbrev N__law_lowest : List Str := ["_law_actual", "_law_top", "_law_bottom"]
abbrev p__law_lowest : List Str := ["_law_actual", "_law_top", "_law_bottom"]
theorem sc__law_lowest : FnScope N__law_lowest p__law_lowest (defScope s__law_lowest) := ⟨rfl, rfl, rfl, by decide +kernel, rfl, by decide +kernel, by decide +kernel⟩
def c__law_lowest : CSs := (.cons (.ife (.or (.not (.val (.isi (.var 0) "tuple"))) (.val (.cmp .ne (.b1 .len (.var 0)) (.int 2)))) (.cons (.ret (.bl false))
    .nil) .nil)
    (.cons (.ife (.or (.not (.val (.call "_law_is_int" (.cons (.ix (.var 0) (.int 0)) .nil)))) (.or (.not (.val (.call "_law_is_int" (.cons (.ix (.var 0) (.int 1)) .nil)))) (.val (.cmp .lt (.ix (.var 0) (.int 1)) (.int 1))))) (.cons (.ret (.bl false))
    .nil) .nil)
    (.cons (.ife (.val (.cmp .ne (.bin .mul (.ix (.var 0) (.int 0)) (.var 2)) (.bin .mul (.var 1) (.ix (.var 0) (.int 1))))) (.cons (.ret (.bl false))
    .nil) .nil)
    (.cons (.ret (.cmp .eq (.call "_law_divisor" (.cons (.b1 .abs (.ix (.var 0) (.int 0))) (.cons (.ix (.var 0) (.int 1)) .nil))) (.int 1)))
    .nil))))
abbrev s__law_shifted : Stmt := topS 20
abbrev N__law_shifted : List Str := ["_law_rows", "_law_by", "_law_row"]
abbrev p__law_shifted : List Str := ["_law_rows", "_law_by"]
theorem sc__law_shifted : FnScope N__law_shifted p__law_shifted (defScope s__law_shifted) := ⟨rfl, rfl, rfl, by decide +kernel, rfl, by decide +kernel, by decide +kernel⟩
def c__law_shifted : CSs := (.cons (.ret (.lc (.nm 2) (.seq (.var 0)) .yes (.tup (.cons (.bin .sub (.ix (.var 2) (.int 0)) (.var 1)) (.cons (.bin .sub (.ix (.var 2) (.int 1)) (.var 1)) (.cons (.ix (.var 2) (.int 2)) (.cons (.ix (.var 2) (.int 3)) .nil))))) [2]))
    .nil)
abbrev s_law : Stmt := topS 21
abbrev N_law : List Str := ["_law_script", "_law_count", "_law_mode", "_law_k", "_law_steps", "_law_expected", "_law_passed", "_law_actual", "_law_told", "_law_again", "_law_behind", "_law_pairs", "_law_pair_here", "_law_row"]
abbrev p_law : List Str := ["_law_script"]
theorem sc_law : FnScope N_law p_law (defScope s_law) := ⟨rfl, rfl, rfl, by decide +kernel, rfl, by decide +kernel, by decide +kernel⟩
def c_law : CSs := (.cons (.set 1 (.call "_law_draw" (.cons (.var 0) (.cons (.int 0) (.cons (.int 3) (.cons (.int 9) .nil))))))
    (.cons (.ife (.val (.cmp .eq (.call "_law_draw" (.cons (.var 0) (.cons (.int 0) (.cons (.int 1) (.cons (.int 8) .nil))))) (.int 0))) (.cons (.set 1 (.call "_law_draw" (.cons (.var 0) (.cons (.int 0) (.cons (.int 4) (.cons (.int 25) .nil))))))
    .nil) .nil)
    (.cons (.set 2 (.call "_law_draw" (.cons (.var 0) (.cons (.int 0) (.cons (.int 2) (.cons (.int 6) .nil))))))
    (.cons (.set 4 (.lc (.nm 3) (.r1 (.var 1)) .yes (.call "_law_step" (.cons (.var 0) (.cons (.bin .add (.int 1) (.var 3)) (.cons (.var 2) .nil)))) [3]))
    (.cons (.set 5 (.call "_law_sections" (.cons (.var 4) .nil)))
    (.cons (.set 6 (.b1 .list (.var 4)))
    (.cons (.set 7 (.call "sections" (.cons (.var 6) .nil)))
    (.cons (.ife (.or (.val (.cmp .ne (.var 6) (.var 4))) (.or (.not (.val (.call "_law_right" (.cons (.var 7) (.cons (.var 5) .nil))))) (.not (.val (.call "_law_falls" (.cons (.var 7) .nil)))))) (.cons (.ret (.bl false))
    .nil) .nil)
    (.cons (.set 8 (.b1 .repr (.var 7)))
    (.cons (.app 7 (.tup (.cons (.int 0) (.cons (.int 1) (.cons (.int 0) (.cons (.int 1) .nil))))))
    (.cons (.app 6 (.tup (.cons (.int 1) (.cons (.int 9) .nil))))
    (.cons (.set 9 (.call "sections" (.cons (.b1 .tuple (.var 4)) .nil)))
    (.cons (.ife (.or (.not (.val (.call "_law_right" (.cons (.var 9) (.cons (.var 5) .nil))))) (.val (.cmp .ne (.b1 .repr (.var 9)) (.var 8)))) (.cons (.ret (.bl false))
    .nil) .nil)
    (.cons (.ife (.val (.cmp .gt (.b1 .len (.var 5)) (.int 0))) (.cons (.set 10 (.call "sections" (.cons (.slc (.var 4) (.ix (.ix (.var 5) (.int 0)) (.int 1)) .non) .nil)))
    (.cons (.ife (.not (.val (.call "_law_right" (.cons (.var 10) (.cons (.call "_law_shifted" (.cons (.slc (.var 5) (.int 1) .non) (.cons (.ix (.ix (.var 5) (.int 0)) (.int 1)) .nil))) .nil))))) (.cons (.ret (.bl false))
    .nil) .nil)
    .nil)) .nil)
    (.cons (.set 11 (.lc (.nm 13) (.seq (.var 5)) .yes (.tup (.cons (.ix (.var 13) (.int 2)) (.cons (.ix (.var 13) (.int 3)) .nil))) [13]))
    (.cons (.for (.nm 3) (.r1 (.int 4)) (.cons (.app 11 (.call "_law_pair" (.cons (.var 0) (.cons (.bin .add (.int 26) (.var 3)) .nil))))
    .nil))
    (.cons (.for (.nm 12) (.seq (.var 11)) (.cons (.ife (.not (.val (.call "_law_lowest" (.cons (.call "make_ratio" (.cons (.ix (.var 12) (.int 0)) (.cons (.ix (.var 12) (.int 1)) .nil))) (.cons (.ix (.var 12) (.int 0)) (.cons (.ix (.var 12) (.int 1)) .nil)))))) (.cons (.ret (.bl false))
    .nil) .nil)
    .nil))
    (.cons (.ret (.bl true))
    .nil))))))))))))))))))
def T : Txt := ⟨[("make_ratio", ⟨3, 2, c_make_ratio⟩), ("is_less", ⟨2, 2, c_is_less⟩), ("first_section", ⟨8, 1, c_first_section⟩), ("sections", ⟨6, 1, c_sections⟩), ("_law_draw", ⟨8, 4, c__law_draw⟩), ("_law_big", ⟨6, 4, c__law_big⟩), ("_law_number", ⟨4, 3, c__law_number⟩), ("_law_is_int", ⟨1, 1, c__law_is_int⟩), ("_law_step", ⟨4, 3, c__law_step⟩), ("_law_beginnings", ⟨6, 2, c__law_beginnings⟩), ("_law_longest_best", ⟨5, 1, c__law_longest_best⟩), ("_law_sections", ⟨4, 1, c__law_sections⟩), ("_law_right", ⟨5, 2, c__law_right⟩), ("_law_falls", ⟨2, 1, c__law_falls⟩), ("_law_pair", ⟨5, 2, c__law_pair⟩), ("_law_divisor", ⟨4, 2, c__law_divisor⟩), ("_law_lowest", ⟨3, 3, c__law_lowest⟩), ("_law_shifted", ⟨3, 2, c__law_shifted⟩), ("law", ⟨14, 1, c_law⟩)], [], [], [], [], ⟨true, true⟩⟩
theorem t_make_ratio : cSs ⟨N_make_ratio, defScope s_make_ratio, defScope s_make_ratio, T.names, T.errs.map (·.1), T.fl⟩ 100 (defBody s_make_ratio) = some c_make_ratio := by rfl
theorem v_make_ratio {k : Nat} {ds : List D} : evF T (k + 1) "make_ratio" ds = evD (orc T k) ⟨3, 2, c_make_ratio⟩ ds := rfl
theorem t_is_less : cSs ⟨N_is_less, defScope s_is_less, defScope s_is_less, T.names, T.errs.map (·.1), T.fl⟩ 100 (defBody s_is_less) = some c_is_less := by rfl
theorem v_is_less {k : Nat} {ds : List D} : evF T (k + 1) "is_less" ds = evD (orc T k) ⟨2, 2, c_is_less⟩ ds := rfl
theorem t_first_section : cSs ⟨N_first_section, defScope s_first_section, defScope s_first_section, T.names, T.errs.map (·.1), T.fl⟩ 100 (defBody s_first_section) = some c_first_section := by rfl
theorem v_first_section {k : Nat} {ds : List D} : evF T (k + 1) "first_section" ds = evD (orc T k) ⟨8, 1, c_first_section⟩ ds := rfl
theorem t_sections : cSs ⟨N_sections, defScope s_sections, defScope s_sections, T.names, T.errs.map (·.1), T.fl⟩ 100 (defBody s_sections) = some c_sections := by rfl
theorem v_sections {k : Nat} {ds : List D} : evF T (k + 1) "sections" ds = evD (orc T k) ⟨6, 1, c_sections⟩ ds := rfl
theorem t__law_draw : cSs ⟨N__law_draw, defScope s__law_draw, defScope s__law_draw, T.names, T.errs.map (·.1), T.fl⟩ 100 (defBody s__law_draw) = some c__law_draw := by rfl
theorem v__law_draw {k : Nat} {ds : List D} : evF T (k + 1) "_law_draw" ds = evD (orc T k) ⟨8, 4, c__law_draw⟩ ds := rfl
theorem t__law_big : cSs ⟨N__law_big, defScope s__law_big, defScope s__law_big, T.names, T.errs.map (·.1), T.fl⟩ 100 (defBody s__law_big) = some c__law_big := by rfl
theorem v__law_big {k : Nat} {ds : List D} : evF T (k + 1) "_law_big" ds = evD (orc T k) ⟨6, 4, c__law_big⟩ ds := rfl
theorem t__law_number : cSs ⟨N__law_number, defScope s__law_number, defScope s__law_number, T.names, T.errs.map (·.1), T.fl⟩ 100 (defBody s__law_number) = some c__law_number := by rfl
theorem v__law_number {k : Nat} {ds : List D} : evF T (k + 1) "_law_number" ds = evD (orc T k) ⟨4, 3, c__law_number⟩ ds := rfl
theorem t__law_is_int : cSs ⟨N__law_is_int, defScope s__law_is_int, defScope s__law_is_int, T.names, T.errs.map (·.1), T.fl⟩ 100 (defBody s__law_is_int) = some c__law_is_int := by rfl
theorem v__law_is_int {k : Nat} {ds : List D} : evF T (k + 1) "_law_is_int" ds = evD (orc T k) ⟨1, 1, c__law_is_int⟩ ds := rfl
theorem t__law_step : cSs ⟨N__law_step, defScope s__law_step, defScope s__law_step, T.names, T.errs.map (·.1), T.fl⟩ 100 (defBody s__law_step) = some c__law_step := by rfl
theorem v__law_step {k : Nat} {ds : List D} : evF T (k + 1) "_law_step" ds = evD (orc T k) ⟨4, 3, c__law_step⟩ ds := rfl
theorem t__law_beginnings : cSs ⟨N__law_beginnings, defScope s__law_beginnings, defScope s__law_beginnings, T.names, T.errs.map (·.1), T.fl⟩ 100 (defBody s__law_beginnings) = some c__law_beginnings := by rfl
theorem v__law_beginnings {k : Nat} {ds : List D} : evF T (k + 1) "_law_beginnings" ds = evD (orc T k) ⟨6, 2, c__law_beginnings⟩ ds := rfl
theorem t__law_longest_best : cSs ⟨N__law_longest_best, defScope s__law_longest_best, defScope s__law_longest_best, T.names, T.errs.map (·.1), T.fl⟩ 100 (defBody s__law_longest_best) = some c__law_longest_best := by rfl
theorem v__law_longest_best {k : Nat} {ds : List D} : evF T (k + 1) "_law_longest_best" ds = evD (orc T k) ⟨5, 1, c__law_longest_best⟩ ds := rfl
theorem t__law_sections : cSs ⟨N__law_sections, defScope s__law_sections, defScope s__law_sections, T.names, T.errs.map (·.1), T.fl⟩ 100 (defBody s__law_sections) = some c__law_sections := by rfl
theorem v__law_sections {k : Nat} {ds : List D} : evF T (k + 1) "_law_sections" ds = evD (orc T k) ⟨4, 1, c__law_sections⟩ ds := rfl
theorem t__law_right : cSs ⟨N__law_right, defScope s__law_right, defScope s__law_right, T.names, T.errs.map (·.1), T.fl⟩ 100 (defBody s__law_right) = some c__law_right := by rfl
theorem v__law_right {k : Nat} {ds : List D} : evF T (k + 1) "_law_right" ds = evD (orc T k) ⟨5, 2, c__law_right⟩ ds := rfl
theorem t__law_falls : cSs ⟨N__law_falls, defScope s__law_falls, defScope s__law_falls, T.names, T.errs.map (·.1), T.fl⟩ 100 (defBody s__law_falls) = some c__law_falls := by rfl
theorem v__law_falls {k : Nat} {ds : List D} : evF T (k + 1) "_law_falls" ds = evD (orc T k) ⟨2, 1, c__law_falls⟩ ds := rfl
theorem t__law_pair : cSs ⟨N__law_pair, defScope s__law_pair, defScope s__law_pair, T.names, T.errs.map (·.1), T.fl⟩ 100 (defBody s__law_pair) = some c__law_pair := by rfl
theorem v__law_pair {k : Nat} {ds : List D} : evF T (k + 1) "_law_pair" ds = evD (orc T k) ⟨5, 2, c__law_pair⟩ ds := rfl
theorem t__law_divisor : cSs ⟨N__law_divisor, defScope s__law_divisor, defScope s__law_divisor, T.names, T.errs.map (·.1), T.fl⟩ 100 (defBody s__law_divisor) = some c__law_divisor := by rfl
theorem v__law_divisor {k : Nat} {ds : List D} : evF T (k + 1) "_law_divisor" ds = evD (orc T k) ⟨4, 2, c__law_divisor⟩ ds := rfl
theorem t__law_lowest : cSs ⟨N__law_lowest, defScope s__law_lowest, defScope s__law_lowest, T.names, T.errs.map (·.1), T.fl⟩ 100 (defBody s__law_lowest) = some c__law_lowest := by rfl
theorem v__law_lowest {k : Nat} {ds : List D} : evF T (k + 1) "_law_lowest" ds = evD (orc T k) ⟨3, 3, c__law_lowest⟩ ds := rfl
theorem t__law_shifted : cSs ⟨N__law_shifted, defScope s__law_shifted, defScope s__law_shifted, T.names, T.errs.map (·.1), T.fl⟩ 100 (defBody s__law_shifted) = some c__law_shifted := by rfl
theorem v__law_shifted {k : Nat} {ds : List D} : evF T (k + 1) "_law_shifted" ds = evD (orc T k) ⟨3, 2, c__law_shifted⟩ ds := rfl
theorem t_law : cSs ⟨N_law, defScope s_law, defScope s_law, T.names, T.errs.map (·.1), T.fl⟩ 100 (defBody s_law) = some c_law := by rfl
theorem v_law {k : Nat} {ds : List D} : evF T (k + 1) "law" ds = evD (orc T k) ⟨14, 1, c_law⟩ ds := rfl
end QL

end
section
namespace QL
structure Row where
  s : Nat
  e : Nat
  W : Int
  H : Int
/-- the beginnings of the rest, as rows -/
def bg (s : Nat) : Nat → Int → Int → List (Int × Int) → List Row
  | _, _, _, [] => []
  | k, W, H, x :: r => ⟨s, k + 1, W + x.2, H + x.1⟩ :: bg s (k + 1) (W + x.2) (H + x.1) r
def fsS (b x : Row) : Row := if x.W * b.H < b.W * x.H then b else x
def fsB : Row → List Row → Row
  | b, [] => b
  | b, x :: r => fsB (fsS b x) r
def Mx (P : List Row) (x : Row) : Prop := ∀ y ∈ P, y.W * x.H ≤ x.W * y.H
def lbS (P : List Row) (b x : Row) : Row := if (P.filter fun y => decide (x.W * y.H < y.W * x.H)).length = 0 then x else b
def lbB (P : List Row) : Row → List Row → Row
  | b, [] => b
  | b, x :: r => lbB P (lbS P b x) r
def Lst (P : List Row) (x : Row) : Prop := ∃ A C, P = A ++ x :: C ∧ Mx P x ∧ ∀ y ∈ C, ¬ Mx P y
theorem cross {a b c : Row} (ha : 0 < a.H) (hb : 0 < b.H) (hc : 0 < c.H) (h1 : a.W * b.H ≤ b.W * a.H) (h2 : b.W * c.H ≤ c.W * b.H) : a.W * c.H ≤ c.W * a.H := by
  have p1 := Int.mul_le_mul_of_nonneg_right h1 (Int.le_of_lt hc)
  have p2 := Int.mul_le_mul_of_nonneg_right h2 (Int.le_of_lt ha)
  have e : a.W * c.H * b.H ≤ c.W * a.H * b.H := by grind
  exact Int.le_of_mul_le_mul_right e hb
theorem lst_step {A : List Row} {b x : Row} (hA : ∀ y ∈ A, 0 < y.H) (hx : 0 < x.H) (h : Lst A b) : Lst (A ++ [x]) (fsS b x) := by
  obtain ⟨A1, C, e, m, n⟩ := h
  have hbA : b ∈ A := by rw [e]; simp
  have hb := hA b hbA
  unfold fsS
  by_cases c : x.W * b.H < b.W * x.H
  · rw [if_pos c]
    refine ⟨A1, C ++ [x], by rw [e]; simp, fun y hy => ?_, fun y hy hm => ?_⟩
    · rcases List.mem_append.mp hy with hy | hy
      · exact m y hy
      · rw [List.mem_singleton.mp hy]; omega
    · rcases List.mem_append.mp hy with hy | hy
      · exact n y hy fun z hz => hm z (List.mem_append_left _ hz)
      · rw [List.mem_singleton.mp hy] at hm
        have := hm b (List.mem_append_left _ hbA)
        omega
  · rw [if_neg c]
    refine ⟨A, [], by simp, fun y hy => ?_, fun y hy => by simp at hy⟩
    rcases List.mem_append.mp hy with hy | hy
    · exact cross (hA y hy) hb hx (m y hy) (by omega)
    · rw [List.mem_singleton.mp hy]; omega
theorem lst_fs : ∀ (C A : List Row) (b : Row), (∀ y ∈ A, 0 < y.H) → (∀ y ∈ C, 0 < y.H) → Lst A b → Lst (A ++ C) (fsB b C)
  | [], A, b, _, _, h => by rw [List.append_nil]; exact h
  | x :: C, A, b, hA, hC, h => by
    have hx := hC x List.mem_cons_self
    have := lst_fs C (A ++ [x]) (fsS b x) (fun y hy => by
      rcases List.mem_append.mp hy with hy | hy
      · exact hA y hy
      · rw [List.mem_singleton.mp hy]; exact hx) (fun y hy => hC y (List.mem_cons_of_mem _ hy)) (lst_step hA hx h)
    rwa [List.append_assoc] at this
theorem fs_last {P : List Row} {b : Row} (hb : b.W = 0 ∧ b.H = 1) (hP : ∀ y ∈ P, 0 < y.H ∧ 0 ≤ y.W) (hn : P ≠ []) : Lst P (fsB b P) := by
  cases P with
  | nil => exact absurd rfl hn
  | cons x r =>
    have h0 := hP x List.mem_cons_self
    have e : fsS b x = x := by
      unfold fsS
      rw [hb.1, hb.2, if_neg]; omega
    show Lst (x :: r) (fsB (fsS b x) r)
    rw [e]
    exact lst_fs r [x] x (fun y hy => by rw [List.mem_singleton.mp hy]; exact h0.1) (fun y hy => (hP y (List.mem_cons_of_mem _ hy)).1) ⟨[], [], rfl, fun y hy => by rw [List.mem_singleton.mp hy]; omega, fun y hy => by simp at hy⟩
theorem lbS_max {P : List Row} {b x : Row} (h : Mx P x) : lbS P b x = x := by
  unfold lbS
  rw [if_pos]
  rw [List.length_eq_zero_iff, List.filter_eq_nil_iff]
  intro y hy c
  have := h y hy
  have := of_decide_eq_true c
  omega
theorem lbS_not {P : List Row} {b x : Row} (h : ¬ Mx P x) : lbS P b x = b := by
  unfold lbS
  rw [if_neg]
  intro e
  rw [List.length_eq_zero_iff, List.filter_eq_nil_iff] at e
  refine h fun y hy => ?_
  have := e y hy
  rw [decide_eq_true_eq] at this
  omega
theorem lb_stay {P : List Row} : ∀ (C : List Row) (b : Row), (∀ y ∈ C, ¬ Mx P y) → lbB P b C = b
  | [], _, _ => rfl
  | x :: C, b, h => by
    show lbB P (lbS P b x) C = b
    rw [lbS_not (h x List.mem_cons_self)]
    exact lb_stay C b fun y hy => h y (List.mem_cons_of_mem _ hy)
theorem lb_app {P : List Row} : ∀ (A C : List Row) (b : Row), lbB P b (A ++ C) = lbB P (lbB P b A) C
  | [], _, _ => rfl
  | x :: A, C, b => lb_app A C _
theorem lb_last {P : List Row} {x b : Row} (h : Lst P x) : lbB P b P = x := by
  obtain ⟨A, C, e, m, n⟩ := h
  have : lbB P b (A ++ x :: C) = x := by
    rw [lb_app]
    show lbB P (lbS P (lbB P b A) x) C = x
    rw [lbS_max m]
    exact lb_stay C x n
  rw [← e] at this
  exact this
/-! ### beginnings -/
def Okk (M : Int) (l : List (Int × Int)) : Prop := ∀ x ∈ l, 1 ≤ x.1 ∧ x.1 ≤ M ∧ 0 ≤ x.2 ∧ x.2 ≤ M
theorem bg_mem {s : Nat} {M : Int} (hM : 0 ≤ M) : ∀ (l : List (Int × Int)) (k : Nat) (W H : Int), Okk M l → 0 ≤ W → 0 ≤ H → ∀ y ∈ bg s k W H l, y.s = s ∧ k < y.e ∧ y.e ≤ k + l.length ∧ H < y.H ∧ y.H ≤ H + l.length * M ∧ W ≤ y.W ∧ y.W ≤ W + l.length * M
  | [], _, _, _, _, _, _, y, hy => by simp [bg] at hy
  | x :: l, k, W, H, h, hW, hH, y, hy => by
    obtain ⟨a, b, c, d⟩ := h x List.mem_cons_self
    have e : ((l.length + 1 : Nat) : Int) * M = l.length * M + M := by push_cast; grind
    have nn : 0 ≤ (l.length : Int) * M := Int.mul_nonneg (Int.natCast_nonneg _) hM
    simp only [List.length_cons]
    rw [e]
    rcases List.mem_cons.mp hy with hy | hy
    · subst hy
      refine ⟨rfl, Nat.lt_succ_self _, by show k + 1 ≤ _; omega, ?_, ?_, ?_, ?_⟩ <;> dsimp only <;> omega
    · obtain ⟨q1, q2, q3, q4, q5, q6, q7⟩ := bg_mem hM l (k + 1) (W + x.2) (H + x.1) (fun z hz => h z (List.mem_cons_of_mem _ hz)) (by omega) (by omega) y hy
      refine ⟨q1, by omega, by omega, by omega, by omega, by omega, by omega⟩
theorem bg_ne {s k : Nat} {W H : Int} {l : List (Int × Int)} (h : l ≠ []) : bg s k W H l ≠ [] := by
  cases l with
  | nil => exact absurd rfl h
  | cons x r => simp [bg]
theorem fsB_mem : ∀ (P : List Row) (b : Row), fsB b P = b ∨ fsB b P ∈ P
  | [], b => .inl rfl
  | x :: P, b => by
    show fsB (fsS b x) P = b ∨ fsB (fsS b x) P ∈ x :: P
    rcases fsB_mem P (fsS b x) with h | h
    · rw [h]
      unfold fsS
      split
      · exact .inl rfl
      · exact .inr List.mem_cons_self
    · exact .inr (List.mem_cons_of_mem _ h)
theorem bg_len {s : Nat} : ∀ (l : List (Int × Int)) (k : Nat) (W H : Int), (bg s k W H l).length = l.length
  | [], _, _, _ => rfl
  | _ :: l, _, _, _ => by simp only [bg, List.length_cons, bg_len l]
theorem bg_split {s : Nat} {x : Row} {C : List Row} : ∀ (A : List Row) (l : List (Int × Int)) (k : Nat) (W H : Int), bg s k W H l = A ++ x :: C → C = bg s x.e x.W x.H (l.drop (x.e - k)) ∧ k < x.e
  | [], [], _, _, _, h => by simp [bg] at h
  | [], y :: l, k, W, H, h => by
    simp only [bg, List.nil_append, List.cons.injEq] at h
    obtain ⟨h1, h2⟩ := h
    subst h1
    refine ⟨?_, Nat.lt_succ_self _⟩
    dsimp only
    rw [show k + 1 - k = 1 by omega]
    exact h2.symm
  | a :: A, [], _, _, _, h => by simp [bg] at h
  | a :: A, y :: l, k, W, H, h => by
    simp only [bg, List.cons_append, List.cons.injEq] at h
    obtain ⟨c1, c2⟩ := bg_split A l (k + 1) _ _ h.2
    refine ⟨?_, by omega⟩
    rw [show x.e - k = (x.e - (k + 1)) + 1 by omega, List.drop_succ_cons]
    exact c1
theorem bg_plus {s s' : Nat} {W H : Int} : ∀ (l : List (Int × Int)) (k : Nat) (W' H' : Int), bg s k (W + W') (H + H') l = (bg s' k W' H' l).map fun z => ⟨s, z.e, W + z.W, H + z.H⟩
  | [], _, _, _ => rfl
  | x :: l, k, W', H' => by
    simp only [bg, List.map_cons, Int.add_assoc]
    rw [bg_plus l]
def shR (d : Nat) (x : Row) : Row := ⟨x.s + d, x.e + d, x.W, x.H⟩
theorem bg_sh {s d : Nat} : ∀ (l : List (Int × Int)) (k : Nat) (W H : Int), bg (s + d) (k + d) W H l = (bg s k W H l).map (shR d)
  | [], _, _, _ => rfl
  | x :: l, k, W, H => by
    simp only [bg, List.map_cons]
    rw [show k + d + 1 = k + 1 + d by omega, bg_sh l]
    rfl
theorem fsB_sh {d : Nat} : ∀ (P : List Row) (b : Row), fsB (shR d b) (P.map (shR d)) = shR d (fsB b P)
  | [], _ => rfl
  | x :: P, b => by
    show fsB (fsS (shR d b) (shR d x)) (P.map (shR d)) = shR d (fsB (fsS b x) P)
    have e : fsS (shR d b) (shR d x) = shR d (fsS b x) := by
      unfold fsS
      show (if x.W * b.H < b.W * x.H then _ else _) = _
      split <;> rfl
    rw [e, fsB_sh P]
/-! ### sections -/
def bst (l : List (Int × Int)) (s : Nat) : Row := fsB ⟨s, s, 0, 1⟩ (bg s s 0 0 (l.drop s))
def secs (l : List (Int × Int)) : Nat → Nat → List Row
  | 0, _ => []
  | f + 1, s => if s < l.length then bst l s :: secs l f (bst l s).e else []
theorem drop_ne {α : Type} {l : List α} {s : Nat} (h : s < l.length) : l.drop s ≠ [] := by
  intro e
  have := congrArg List.length e
  rw [List.length_drop, List.length_nil] at this
  omega
theorem okk_drop {M : Int} {l : List (Int × Int)} (h : Okk M l) (s : Nat) : Okk M (l.drop s) := fun x hx => h x (List.mem_of_mem_drop hx)
theorem bst_last {M : Int} (hM : 0 ≤ M) {l : List (Int × Int)} {s : Nat} (h : Okk M l) (hs : s < l.length) : Lst (bg s s 0 0 (l.drop s)) (bst l s) :=
  fs_last ⟨rfl, rfl⟩ (fun y hy => by have := bg_mem hM _ _ _ _ (okk_drop h s) (by omega) (by omega) y hy; omega) (bg_ne (drop_ne hs))
theorem bst_in {M : Int} (hM : 0 ≤ M) {l : List (Int × Int)} {s : Nat} (h : Okk M l) (hs : s < l.length) : bst l s ∈ bg s s 0 0 (l.drop s) := by
  obtain ⟨A, C, e, _⟩ := bst_last hM h hs
  rw [e]; simp
theorem bst_ok {M : Int} (hM : 0 ≤ M) {l : List (Int × Int)} {s : Nat} (h : Okk M l) (hs : s < l.length) : (bst l s).s = s ∧ s < (bst l s).e ∧ (bst l s).e ≤ l.length ∧ 1 ≤ (bst l s).H ∧ (bst l s).H ≤ l.length * M ∧ 0 ≤ (bst l s).W ∧ (bst l s).W ≤ l.length * M := by
  obtain ⟨a, b, c, d, e, f, g⟩ := bg_mem hM _ _ _ _ (okk_drop h s) (by omega) (by omega) _ (bst_in hM h hs)
  rw [List.length_drop] at c e g
  have : ((l.length - s : Nat) : Int) * M ≤ l.length * M := Int.mul_le_mul_of_nonneg_right (by omega) hM
  exact ⟨a, b, by omega, by omega, by omega, f, by omega⟩
theorem secs_fuel {M : Int} (hM : 0 ≤ M) {l : List (Int × Int)} (h : Okk M l) : ∀ (f f' s : Nat), l.length - s ≤ f → l.length - s ≤ f' → secs l f s = secs l f' s
  | 0, 0, _, _, _ => rfl
  | 0, f' + 1, s, h1, _ => by
    show [] = if s < l.length then _ else _
    rw [if_neg (by omega)]
  | f + 1, 0, s, _, h2 => by
    show (if s < l.length then _ else _) = []
    rw [if_neg (by omega)]
  | f + 1, f' + 1, s, h1, h2 => by
    show (if s < l.length then _ else _) = if s < l.length then _ else _
    by_cases hs : s < l.length
    · rw [if_pos hs, if_pos hs]
      obtain ⟨_, b, _⟩ := bst_ok hM h hs
      rw [secs_fuel hM h f f' (bst l s).e (by omega) (by omega)]
    · rw [if_neg hs, if_neg hs]
theorem bst_sh {l : List (Int × Int)} {d s : Nat} : bst l (s + d) = shR d (bst (l.drop d) s) := by
  unfold bst
  rw [List.drop_drop, Nat.add_comm s d, Nat.add_comm d s, ← fsB_sh, ← bg_sh]
  rfl
theorem secs_sh {l : List (Int × Int)} {d : Nat} : ∀ (f s : Nat), secs l f (s + d) = (secs (l.drop d) f s).map (shR d)
  | 0, _ => rfl
  | f + 1, s => by
    show (if s + d < l.length then _ else _) = ((if s < (l.drop d).length then _ else _) : List Row).map (shR d)
    rw [List.length_drop]
    by_cases h : s + d < l.length
    · rw [if_pos h, if_pos (by omega), List.map_cons, bst_sh, ← secs_sh f]
      rfl
    · rw [if_neg h, if_neg (by omega)]; rfl
theorem secs_ok {M : Int} (hM : 0 ≤ M) {l : List (Int × Int)} (h : Okk M l) : ∀ (f s : Nat), ∀ x ∈ secs l f s, 1 ≤ x.H ∧ x.H ≤ l.length * M ∧ 0 ≤ x.W ∧ x.W ≤ l.length * M ∧ s ≤ x.s ∧ x.s < x.e ∧ x.e ≤ l.length
  | 0, _, x, hx => by simp [secs] at hx
  | f + 1, s, x, hx => by
    simp only [secs] at hx
    by_cases hs : s < l.length
    · rw [if_pos hs] at hx
      obtain ⟨a, b, c, d⟩ := bst_ok hM h hs
      rcases List.mem_cons.mp hx with hx | hx
      · subst hx; exact ⟨d.1, d.2.1, d.2.2.1, d.2.2.2, by omega, by omega, c⟩
      · have := secs_ok hM h f _ x hx
        omega
    · rw [if_neg hs] at hx; simp at hx
theorem secs_len {M : Int} (hM : 0 ≤ M) {l : List (Int × Int)} (h : Okk M l) : ∀ (f s : Nat), (secs l f s).length ≤ l.length - s
  | 0, _ => by simp [secs]
  | f + 1, s => by
    simp only [secs]
    by_cases hs : s < l.length
    · rw [if_pos hs]
      obtain ⟨a, b, c, d⟩ := bst_ok hM h hs
      have := secs_len hM h f (bst l s).e
      rw [List.length_cons]; omega
    · rw [if_neg hs]; simp
/-- the ratios fall -/
theorem bst_falls {M : Int} (hM : 0 ≤ M) {l : List (Int × Int)} (h : Okk M l) {s : Nat} (hs : s < l.length) (he : (bst l s).e < l.length) : (bst l (bst l s).e).W * (bst l s).H < (bst l s).W * (bst l (bst l s).e).H := by
  obtain ⟨A, C, e, m, n⟩ := bst_last hM h hs
  have hy := bst_in hM h he
  have hx := bst_ok hM h hs
  have hyo := bst_ok hM h he
  have hP : ∀ y ∈ bg s s 0 0 (l.drop s), 0 < y.H := fun y hy => (bg_mem hM _ _ _ _ (okk_drop h s) (Int.le_refl 0) (Int.le_refl 0) y hy).2.2.2.1
  generalize bst l s = x at *
  obtain ⟨c1, c2⟩ := bg_split A _ _ _ _ e
  rw [List.drop_drop, show s + (x.e - s) = x.e by omega] at c1
  have c3 := bg_plus (s := s) (s' := x.e) (W := x.W) (H := x.H) (l.drop x.e) x.e 0 0
  rw [Int.add_zero, Int.add_zero, ← c1] at c3
  generalize bst l x.e = y at *
  have hz : (⟨s, y.e, x.W + y.W, x.H + y.H⟩ : Row) ∈ C := by
    rw [c3]; exact List.mem_map.mpr ⟨y, hy, rfl⟩
  have hzP : (⟨s, y.e, x.W + y.W, x.H + y.H⟩ : Row) ∈ bg s s 0 0 (l.drop s) := by rw [e]; simp [hz]
  have h1 := m _ hzP
  dsimp only at h1
  have h2 : y.W * x.H ≤ x.W * y.H := by grind
  refine Int.lt_iff_le_and_ne.mpr ⟨h2, fun eq => n _ hz fun p hp => ?_⟩
  dsimp only
  have h3 := m p hp
  have h4 := hP p hp
  refine cross (a := p) (b := x) (c := ⟨s, y.e, x.W + y.W, x.H + y.H⟩) (by omega) (by omega) (by dsimp only; omega) h3 ?_
  dsimp only
  grind
def Flg : List Row → Prop
  | [] => True
  | [_] => True
  | x :: y :: r => y.W * x.H < x.W * y.H ∧ Flg (y :: r)
theorem secs_fl {M : Int} (hM : 0 ≤ M) {l : List (Int × Int)} (h : Okk M l) : ∀ (f s : Nat), Flg (secs l f s)
  | 0, _ => trivial
  | f + 1, s => by
    simp only [secs]
    by_cases hs : s < l.length
    · rw [if_pos hs]
      have ih := secs_fl hM h f (bst l s).e
      cases f with
      | zero => exact trivial
      | succ f =>
        simp only [secs] at ih ⊢
        by_cases he : (bst l s).e < l.length
        · rw [if_pos he] at ih ⊢
          exact ⟨bst_falls hM h hs he, ih⟩
        · rw [if_neg he]; exact trivial
    · rw [if_neg hs]; exact trivial
theorem fl_get : ∀ {L : List Row} {k : Nat} {x y : Row}, Flg L → L[k]? = some x → L[k + 1]? = some y → y.W * x.H < x.W * y.H
  | [], _, _, _, _, h, _ => by simp at h
  | [_], 0, _, _, _, _, h => by simp at h
  | [_], k + 1, _, _, _, h, _ => by simp at h
  | a :: b :: r, 0, x, y, h, h1, h2 => by
    simp only [List.getElem?_cons_zero, List.getElem?_cons_succ, Option.some.injEq] at h1 h2
    subst h1 h2
    exact h.1
  | a :: b :: r, k + 1, x, y, h, h1, h2 => fl_get (L := b :: r) (k := k) h.2 (by simpa using h1) (by simpa using h2)
/-! ### the divisor -/
def dn : Nat → Nat → Nat → Prop
  | 0, _, b => b = 0
  | n + 1, a, b => b = 0 ∨ dn n b (a % b)
def G2 : Nat → Nat × Nat
  | 0 => (1, 2)
  | n + 1 => ((G2 n).2, (G2 n).1 + (G2 n).2)
theorem dn_of : ∀ (n a b : Nat), b < (G2 n).1 → dn n a b
  | 0, a, b, h => by
    have : b < 1 := h
    show b = 0; omega
  | 1, a, b, h => by
    have : b < 2 := h
    by_cases h0 : b = 0
    · exact .inl h0
    · have : b = 1 := by omega
      subst this
      exact .inr (Nat.mod_one a)
  | n + 2, a, b, h => by
    by_cases h0 : b = 0
    · exact .inl h0
    · refine .inr ?_
      by_cases h1 : a % b < (G2 (n + 1)).1
      · exact dn_of (n + 1) b (a % b) h1
      · by_cases h2 : a % b = 0
        · exact .inl h2
        · refine .inr (dn_of n (a % b) _ ?_)
          have e : (G2 (n + 2)).1 = (G2 n).1 + (G2 n).2 := rfl
          have e1 : (G2 (n + 1)).1 = (G2 n).2 := rfl
          have l1 := Nat.mod_lt a (show 0 < b by omega)
          have l2 : b % (a % b) ≤ b - a % b := by
            rw [Nat.mod_eq_sub_mod (Nat.le_of_lt l1)]
            exact Nat.mod_le _ _
          omega
theorem G_big : 100000000000000000000000000000000000000000000000000000000000000 < (G2 399).1 := by decide +kernel
/-! ### lowest terms -/
theorem lowest {n d : Int} (hd : 1 ≤ d) : let g : Int := ((Nat.gcd n.natAbs d.natAbs : Nat) : Int)
    0 < g ∧ 1 ≤ d / g ∧ d / g ≤ d ∧ (n / g) * d = n * (d / g) ∧ Nat.gcd (n / g).natAbs (d / g).natAbs = 1 ∧ (n / g).natAbs ≤ n.natAbs := by
  intro g
  have hg : 0 < Nat.gcd n.natAbs d.natAbs := Nat.gcd_pos_of_pos_right _ (by omega)
  obtain ⟨a, ha⟩ : (g : Int) ∣ n := Int.ofNat_dvd_left.mpr (Nat.gcd_dvd_left _ _)
  obtain ⟨b, hb⟩ : (g : Int) ∣ d := Int.ofNat_dvd_left.mpr (Nat.gcd_dvd_right _ _)
  have hg2 : 0 < g := Int.natCast_pos.mpr hg
  have e1 : n / g = a := by rw [ha]; exact Int.mul_ediv_cancel_left _ (by omega)
  have e2 : d / g = b := by rw [hb]; exact Int.mul_ediv_cancel_left _ (by omega)
  rw [e1, e2]
  have hgn : g.natAbs = Nat.gcd n.natAbs d.natAbs := rfl
  have n1 : n.natAbs = Nat.gcd n.natAbs d.natAbs * a.natAbs := by rw [← hgn, ← Int.natAbs_mul, ← ha]
  have n2 : d.natAbs = Nat.gcd n.natAbs d.natAbs * b.natAbs := by rw [← hgn, ← Int.natAbs_mul, ← hb]
  have hb1 : 1 ≤ b := by
    rcases Int.lt_or_le 0 b with h | h
    · omega
    · exfalso
      have := Int.mul_nonneg (Int.le_of_lt hg2) (show 0 ≤ -b by omega)
      have : g * b ≤ 0 := by grind
      omega
  have key : Nat.gcd a.natAbs b.natAbs = 1 := by
    have h := Nat.gcd_mul_left (Nat.gcd n.natAbs d.natAbs) a.natAbs b.natAbs
    rw [← n1, ← n2] at h
    have h2 : Nat.gcd n.natAbs d.natAbs * 1 = Nat.gcd n.natAbs d.natAbs * Nat.gcd a.natAbs b.natAbs := by omega
    exact (Nat.eq_of_mul_eq_mul_left hg h2).symm
  refine ⟨hg2, hb1, ?_, ?_, key, ?_⟩
  · have := Int.mul_le_mul_of_nonneg_right (show 1 ≤ g by omega) (show 0 ≤ b by omega)
    omega
  · generalize g = q at *
    rw [ha, hb]; grind
  · rw [n1]; exact Nat.le_mul_of_pos_left _ hg
end QL

end
section
set_option maxRecDepth 100000
set_option maxHeartbeats 4000000
namespace QL
open PySem PySem.Spec PyProof.Rows L2 Evl
local macro_rules | `(tactic| walk_at "ev") => `(tactic| simp -implicitDefEqProofs only [varS_ownT, retV_ownT, nrm_dit, imm_dit, slotV_nt, frz_ownT, slot0_dit, isNon_dit, ev_dnT, abs_int, gcd_ii, s_whl, s_asg2, asg2R_i, s_par, parR_v, esc_slc, esc_dnT, srcEsc_slc, srcEsc_env, enR_lf, enR_lb, enR_tf, enR_tb, partD_non, partD_int, partD_var, partD_bin, partD_ix, partD_neg, partD_b1, slR_lf, slR_lo, slR_tf, ev_var, ev_int, ev_bl, ev_str, ev_non, ev_bin, ev_cmp, ev_chain, ev_neg, ev_not, ev_and, ev_or, ev_ife, ev_ix, ev_tup, ev_lst, ev_call, orc_call, ev_slc, ev_fld, ev_meth, src_en, s_raise, s_setf, ret_fld, ret_meth, ret_slc, ev_b1, ev_b2, ev_isi, ev_lc, ev_lc2, evs_nil, evs_cons, src_r1', src_r2', src_seq', t_yes', t_not', t_and', t_or', t_val', ss_nil, ss_cons, s_set, s_pat, s_seti, s_app, s_ins, s_ife, s_for, s_retv, s_expr, s_pass, s_brk, s_cont, varS_dat, varS_bor, varS_own, varS_ownD, nrm_int, nrm_bl, nrm_str, nrm_non, nrm_scr, nrm_obj, nrm_lst, nrm_dic, nrm_f, nrm_tup, imm_int, imm_bl, imm_str, imm_non, imm_scr, imm_lst, imm_tup, imm_dic, imm_obj, immA_nil, immA_cons, op2_vv, bin_add, bin_sub, cmp_lt, cmp_le, cmp_gt, cmp_ge, cmp_eq, cmp_ne, cmp_eqb, cmp_neb, cmp_isb, cmp_isnb, cmp_eqs, cmp_nes, isNon_non, isNon_int, isNon_bl, isNon_lst, isNon_tup, isNon_str, isNon_obj, isNon_dic, cmp_is, cmp_isn, ixQ_some, ix_lst, ix_tup, ix_scr, ixm_f, ixm_n, ixm_o, ixm_b, ixm_h, len_lst, len_tup, len_scr, int_int, max_ii, min_ii, neg_i, not_b, bv_v1, list_lst, list_tup, tuple_lst, tuple_tup, itF_f, itF_n, itF_o, itF_b, itF_h, cf_f, cf_n, cf_b, cf_h, cf_o, allCf_nil, allCf_cons, tst_v, truth_bl, truth_lst, andT_t, andT_f, orT_t, orT_f, andR_t, andR_f, orR_f, orR_t, blV_b, ifE_t, ifE_f, ifS_t, ifS_f, ifL_t, ifL_f, elt1_v, lcB_s, lcR_v, lcR2_v, thenS_nx, thenS_rt, thenS_bk, thenS_ct, setR_v, setQ_s, slotV_f, slotV_n, slotV_nd, slotV_bl, slotV_bt, patR_v, setiR_v, appR_v, insR_v, forR_v, retV_own, retV_dat, retV_bor, retV_ownD, retR_v, retR_x, setR_x, patR_x, exprR_x, thenS_xs, fin_xs, exprR_v, ret_tup, esc_tup, ret_lst, esc_lst, ret_bin, esc_bin, ret_cmp, esc_cmp, ret_neg, esc_neg, ret_not, esc_not, ret_and, esc_and, ret_or, esc_or, ret_ix, esc_ix, ret_b1, esc_b1, ret_b2, esc_b2, ret_isi, esc_isi, ret_call, esc_call, ret_int, esc_int, ret_bl, esc_bl, ret_ife, esc_ife, ret_str, esc_str, ret_chain, esc_chain, ret_non, esc_non, ret_lc, esc_lc, ret_lc2, esc_lc2, esc_var, escs_nil, escs_cons, frzA_nil, frzA_cons, frz_dat, frz_bor, frz_own, frz_ownD, frz_un, srcEsc_r1, srcEsc_r2, srcEsc_var, srcEsc_call, srcEsc_lst, srcEsc_tup, srcEsc_ix, srcEsc_b1, srcEsc_bin, callR_v, callQ_f, callQ_n, callQ_x, consR_vv, tupR_v, lstR_v, lstR_h, r1R_i, r2R_i, seqR_v, srcD_scr, srcD_lf, srcD_tf, srcD_lb, srcD_tb, srcD_lo, srcD_to, srcD_lh, srcD_th, srcD_ln, fin_f, fin_n, fin_nx, slot0_int, slot0_bl, slot0_str, slot0_non, slot0_scr, slot0_lst, slot0_tup, slot0_obj, slot0_dic, bind_nm, slotOf_f, slotOf_int, slotOf_bl, bind_tp, binds_nil, binds_cons, wipe_nil, wipe_cons, isi_int_int, isi_int_bool, isi_int_str, isi_int_list, isi_int_tuple, isi_int_dict, isi_bool_int, isi_bool_bool, isi_bool_str, isi_bool_list, isi_bool_tuple, isi_bool_dict, isi_list_int, isi_list_bool, isi_list_str, isi_list_list, isi_list_tuple, isi_list_dict, isi_tuple_int, isi_tuple_bool, isi_tuple_str, isi_tuple_list, isi_tuple_tuple, isi_tuple_dict, isi_NoneType_int, isi_NoneType_bool, isi_NoneType_str, isi_NoneType_list, isi_NoneType_tuple, isi_NoneType_dict, isi_str_int, isi_str_bool, isi_str_str, isi_str_list, isi_str_tuple, isi_str_dict, isi_dict_int, isi_dict_bool, isi_dict_str, isi_dict_list, isi_dict_tuple, isi_dict_dict, Option.map_some, Option.map_none, Option.bind_some, Option.bind_none, List.getElem?_cons_zero, List.getElem?_cons_succ, List.set_cons_zero, List.set_cons_succ, List.getD_cons_zero, List.getD_cons_succ, List.map_cons, List.map_nil, List.length_cons, List.length_nil, List.nil_append, List.cons_append, List.append_nil, Bool.not_true, Bool.not_false, Bool.and_true, Bool.true_and, Bool.and_false, Bool.false_and, Bool.or_true, Bool.true_or, Bool.or_false, Bool.false_or, reduceIte, if_true, if_false, Bool.false_eq_true, decide_true, decide_false, reduceCtorEq, and_true, true_and, and_self, Nat.reduceAdd, Nat.reduceLeDiff, Nat.reduceLT, Nat.reduceSub, Nat.reduceEqDiff, List.isEmpty_cons, List.isEmpty_nil, not_true_eq_false, not_false_eq_true, bin_mul, bin_fdiv, bin_mod, bin_pow, Int.reduceLT, Int.reduceLE, Int.reduceNeg, Nat.reducePow, Int.reducePow, Int.reduceToNat])
local macro_rules | `(tactic| walk_at "evs") => `(tactic| simp -implicitDefEqProofs only [*, varS_ownT, retV_ownT, nrm_dit, imm_dit, slotV_nt, frz_ownT, slot0_dit, isNon_dit, ev_dnT, abs_int, gcd_ii, s_whl, s_asg2, asg2R_i, s_par, parR_v, esc_slc, esc_dnT, srcEsc_slc, srcEsc_env, enR_lf, enR_lb, enR_tf, enR_tb, partD_non, partD_int, partD_var, partD_bin, partD_ix, partD_neg, partD_b1, slR_lf, slR_lo, slR_tf, ev_var, ev_int, ev_bl, ev_str, ev_non, ev_bin, ev_cmp, ev_chain, ev_neg, ev_not, ev_and, ev_or, ev_ife, ev_ix, ev_tup, ev_lst, ev_call, orc_call, ev_slc, ev_fld, ev_meth, src_en, s_raise, s_setf, ret_fld, ret_meth, ret_slc, ev_b1, ev_b2, ev_isi, ev_lc, ev_lc2, evs_nil, evs_cons, src_r1', src_r2', src_seq', t_yes', t_not', t_and', t_or', t_val', ss_nil, ss_cons, s_set, s_pat, s_seti, s_app, s_ins, s_ife, s_for, s_retv, s_expr, s_pass, s_brk, s_cont, varS_dat, varS_bor, varS_own, varS_ownD, nrm_int, nrm_bl, nrm_str, nrm_non, nrm_scr, nrm_obj, nrm_lst, nrm_dic, nrm_f, nrm_tup, imm_int, imm_bl, imm_str, imm_non, imm_scr, imm_lst, imm_tup, imm_dic, imm_obj, immA_nil, immA_cons, op2_vv, bin_add, bin_sub, cmp_lt, cmp_le, cmp_gt, cmp_ge, cmp_eq, cmp_ne, cmp_eqb, cmp_neb, cmp_isb, cmp_isnb, cmp_eqs, cmp_nes, isNon_non, isNon_int, isNon_bl, isNon_lst, isNon_tup, isNon_str, isNon_obj, isNon_dic, cmp_is, cmp_isn, ixQ_some, ix_lst, ix_tup, ix_scr, ixm_f, ixm_n, ixm_o, ixm_b, ixm_h, len_lst, len_tup, len_scr, int_int, max_ii, min_ii, neg_i, not_b, bv_v1, list_lst, list_tup, tuple_lst, tuple_tup, itF_f, itF_n, itF_o, itF_b, itF_h, cf_f, cf_n, cf_b, cf_h, cf_o, allCf_nil, allCf_cons, tst_v, truth_bl, truth_lst, andT_t, andT_f, orT_t, orT_f, andR_t, andR_f, orR_f, orR_t, blV_b, ifE_t, ifE_f, ifS_t, ifS_f, ifL_t, ifL_f, elt1_v, lcB_s, lcR_v, lcR2_v, thenS_nx, thenS_rt, thenS_bk, thenS_ct, setR_v, setQ_s, slotV_f, slotV_n, slotV_nd, slotV_bl, slotV_bt, patR_v, setiR_v, appR_v, insR_v, forR_v, retV_own, retV_dat, retV_bor, retV_ownD, retR_v, retR_x, setR_x, patR_x, exprR_x, thenS_xs, fin_xs, exprR_v, ret_tup, esc_tup, ret_lst, esc_lst, ret_bin, esc_bin, ret_cmp, esc_cmp, ret_neg, esc_neg, ret_not, esc_not, ret_and, esc_and, ret_or, esc_or, ret_ix, esc_ix, ret_b1, esc_b1, ret_b2, esc_b2, ret_isi, esc_isi, ret_call, esc_call, ret_int, esc_int, ret_bl, esc_bl, ret_ife, esc_ife, ret_str, esc_str, ret_chain, esc_chain, ret_non, esc_non, ret_lc, esc_lc, ret_lc2, esc_lc2, esc_var, escs_nil, escs_cons, frzA_nil, frzA_cons, frz_dat, frz_bor, frz_own, frz_ownD, frz_un, srcEsc_r1, srcEsc_r2, srcEsc_var, srcEsc_call, srcEsc_lst, srcEsc_tup, srcEsc_ix, srcEsc_b1, srcEsc_bin, callR_v, callQ_f, callQ_n, callQ_x, consR_vv, tupR_v, lstR_v, lstR_h, r1R_i, r2R_i, seqR_v, srcD_scr, srcD_lf, srcD_tf, srcD_lb, srcD_tb, srcD_lo, srcD_to, srcD_lh, srcD_th, srcD_ln, fin_f, fin_n, fin_nx, slot0_int, slot0_bl, slot0_str, slot0_non, slot0_scr, slot0_lst, slot0_tup, slot0_obj, slot0_dic, bind_nm, slotOf_f, slotOf_int, slotOf_bl, bind_tp, binds_nil, binds_cons, wipe_nil, wipe_cons, isi_int_int, isi_int_bool, isi_int_str, isi_int_list, isi_int_tuple, isi_int_dict, isi_bool_int, isi_bool_bool, isi_bool_str, isi_bool_list, isi_bool_tuple, isi_bool_dict, isi_list_int, isi_list_bool, isi_list_str, isi_list_list, isi_list_tuple, isi_list_dict, isi_tuple_int, isi_tuple_bool, isi_tuple_str, isi_tuple_list, isi_tuple_tuple, isi_tuple_dict, isi_NoneType_int, isi_NoneType_bool, isi_NoneType_str, isi_NoneType_list, isi_NoneType_tuple, isi_NoneType_dict, isi_str_int, isi_str_bool, isi_str_str, isi_str_list, isi_str_tuple, isi_str_dict, isi_dict_int, isi_dict_bool, isi_dict_str, isi_dict_list, isi_dict_tuple, isi_dict_dict, Option.map_some, Option.map_none, Option.bind_some, Option.bind_none, List.getElem?_cons_zero, List.getElem?_cons_succ, List.set_cons_zero, List.set_cons_succ, List.getD_cons_zero, List.getD_cons_succ, List.map_cons, List.map_nil, List.length_cons, List.length_nil, List.nil_append, List.cons_append, List.append_nil, Bool.not_true, Bool.not_false, Bool.and_true, Bool.true_and, Bool.and_false, Bool.false_and, Bool.or_true, Bool.true_or, Bool.or_false, Bool.false_or, reduceIte, if_true, if_false, Bool.false_eq_true, decide_true, decide_false, reduceCtorEq, and_true, true_and, and_self, Nat.reduceAdd, Nat.reduceLeDiff, Nat.reduceLT, Nat.reduceSub, Nat.reduceEqDiff, List.isEmpty_cons, List.isEmpty_nil, not_true_eq_false, not_false_eq_true, bin_mul, bin_fdiv, bin_mod, bin_pow, Int.reduceLT, Int.reduceLE, Int.reduceNeg, Nat.reducePow, Int.reducePow, Int.reduceToNat])
theorem drawF {k : Nat} {ns : List Int} {pl st sz : Int} (hb : ns.length ≤ 63) (h1 : 0 ≤ pl) (h1' : pl ≤ 1000000) (h2 : 0 ≤ st) (h3 : st ≤ 10000) (h4 : 0 < sz) : evF T (k + 1) "_law_draw" [.scr ns, .int pl, .int st, .int sz] = some (.ok .f (.int (draw ns pl st sz))) := by
  rw [v__law_draw]
  exact draw_v hb h1 h1' h2 h3 h4
theorem bigF {k : Nat} {ns : List Int} {pl st sz : Int} (hb : ns.length ≤ 63) (h1 : 0 ≤ pl) (h1' : pl ≤ 1000000) (h2 : 0 ≤ st) (h3 : st ≤ 1000) (h4 : 0 < sz) : ∃ v, evF T (k + 2) "_law_big" [.scr ns, .int pl, .int st, .int sz] = some (.ok .f (.int v)) ∧ 0 ≤ v ∧ v < sz := by
  rw [v__law_big, evD_run (by rfl)]
  have main : ∃ v, (evSs (orc T ((k + 1))) c__law_big [.dat (.scr ns), .dat (.int pl), .dat (.int st), .dat (.int sz), .un, .un]).bind fin = some (.ok .f (.int v)) ∧ 0 ≤ v ∧ v < sz := by
    unfold c__law_big
    walk_at "ev"
    obtain ⟨ρ', e1, v, s, rfl, v0, v1⟩ := for_rng (i := 5) (lo := 0) (n := 7) (f := evSs (orc T ((k + 1))) (.cons (.set 4 (.bin .add (.bin .mul (.var 4) (.int 1000)) (.call "_law_draw" (.cons (.var 0) (.cons (.var 1) (.cons (.bin .add (.var 2) (.var 5)) (.cons (.int 1000) .nil))))))) .nil))
      (ρ := [.dat (.scr ns), .dat (.int pl), .dat (.int st), .dat (.int sz), .dat (.int 0), .un])
      (fun j ρ => ∃ v s, ρ = [.dat (.scr ns), .dat (.int pl), .dat (.int st), .dat (.int sz), .dat (.int v), s] ∧ 0 ≤ v ∧ v < 1000 ^ j) ⟨0, _, rfl, by decide, by decide⟩ (fun j ρ hj ⟨v, s, e, v0, v1⟩ => by
        subst e
        have z : (0 : Int) + (j : Int) = (j : Int) := Int.zero_add _
        have hv : v < 1000 ^ 7 := Int.lt_of_lt_of_le v1 (by exact_mod_cast Nat.pow_le_pow_right (by decide) (by omega))
        have e7 : (1000 : Int) ^ 7 = 1000000000000000000000 := by decide
        rw [e7] at hv
        have d1 := drawF (k := k) (ns := ns) (pl := pl) (st := st + (j : Int)) (sz := 1000) hb h1 h1' (by omega) (by omega) (by omega)
        have d2 := draw_lt (ns := ns) (pl := pl) (st := st + (j : Int)) (sz := 1000) (by decide)
        refine ⟨[.dat (.scr ns), .dat (.int pl), .dat (.int st), .dat (.int sz), .dat (.int (v * 1000 + draw ns pl (st + (j : Int)) 1000)), .dat (.int (0 + (j : Int)))], .inl ?_, _, _, rfl, by omega, ?_⟩
        · have m1 := bin_mul (m1 := .f) (m2 := .f) (n := v) (n' := 1000) (by omega) (by omega) (by omega) (by omega)
          walk_at "evs"
        · rw [Int.pow_succ]; omega)
    simp only [e1]
    walk_at "ev"
    rw [bin_mod h4]
    walk_at "ev"
    exact ⟨v % sz, rfl, Int.emod_nonneg _ (by omega), Int.emod_lt_of_pos _ h4⟩
  exact main

theorem numberF {k : Nat} {ns : List Int} {pl st : Int} (hb : ns.length ≤ 63) (h1 : 0 ≤ pl) (h1' : pl ≤ 1000) (h2 : 0 ≤ st) (h3 : st ≤ 900) : ∃ v, evF T (k + 3) "_law_number" [.scr ns, .int pl, .int st] = some (.ok .f (.int v)) ∧ 0 ≤ v ∧ v ≤ 1000000000000000000 := by
  rw [v__law_number, evD_run (by rfl)]
  have main : ∃ v, (evSs (orc T (k + 2)) c__law_number [.dat (.scr ns), .dat (.int pl), .dat (.int st), .un]).bind fin = some (.ok .f (.int v)) ∧ 0 ≤ v ∧ v ≤ 1000000000000000000 := by
    unfold c__law_number
    have dr : ∀ a sz : Int, 0 ≤ a → a ≤ 1000 → 0 < sz → evF T (k + 2) "_law_draw" [.scr ns, .int pl, .int a, .int sz] = some (.ok .f (.int (draw ns pl a sz))) := fun st sz a b c => drawF hb h1 (by omega) a (by omega) c
    have d0 := dr st 8 (by omega) (by omega) (by omega)
    have d1 := dr (st + 1) 4 (by omega) (by omega) (by omega)
    have d2 := dr (st + 1) 10 (by omega) (by omega) (by omega)
    have l1 := draw_lt (ns := ns) (pl := pl) (st := st + 1) (sz := 4) (by omega)
    have l2 := draw_lt (ns := ns) (pl := pl) (st := st + 1) (sz := 10) (by omega)
    obtain ⟨bg, b1, b2, b3⟩ := bigF (k := k) (ns := ns) (pl := pl) (st := st + 1) (sz := 1000000000000000001) hb h1 (by omega) (by omega) (by omega) (by decide)
    have e18 : (10 : Int) ^ (18 : Int).toNat = 1000000000000000000 := by decide
    have m2 : (1000000000000000000 : Int) + 1 = 1000000000000000001 := by decide
    clear dr
    generalize draw ns pl st 8 = sh at d0
    by_cases h0 : sh = 0
    · have q := decide_eq_true h0
      refine ⟨bg, ?_, b2, by omega⟩
      repeat (first | simp -implicitDefEqProofs only [d0, q, b1, e18, m2] | walk_at "ev")
    · have q := decide_eq_false h0
      by_cases h0 : sh = 1
      · have q2 := decide_eq_true h0
        refine ⟨1000000000000000000 - draw ns pl (st + 1) 4, ?_, by omega, by omega⟩
        repeat (first | simp -implicitDefEqProofs only [d0, q, q2, d1, e18] | walk_at "ev")
      · have q2 := decide_eq_false h0
        refine ⟨draw ns pl (st + 1) 10, ?_, by omega, by omega⟩
        repeat (first | simp -implicitDefEqProofs only [d0, q, q2, d2] | walk_at "ev")
  exact main

theorem isintF {k : Nat} {n : Int} : evF T (k + 1) "_law_is_int" [.int n] = some (.ok .f (.bl true)) := by
  rw [v__law_is_int, evD_run (by rfl)]
  show (evSs (orc T k) c__law_is_int [.dat (.int n)]).bind fin = _
  unfold c__law_is_int
  walk_at "ev"
def sD (x : Int × Int) : D := rowI [x.1, x.2]
def rwD (x : Row) : D := rowI [(x.s : Int), (x.e : Int), x.W, x.H]
theorem sD_eq {x : Int × Int} : sD x = .tup [.int x.1, .int x.2] := rfl
theorem rwD_eq {x : Row} : rwD x = .tup [.int x.s, .int x.e, .int x.W, .int x.H] := rfl
theorem powS {m1 m2 : Md} : binD .pow m1 (.int 10) m2 (.int 60) = some (.v .f (.int 1000000000000000000000000000000000000000000000000000000000000)) := by
  rw [bin_pow (by decide) (by decide) (by decide) (by decide)]
  have e : (10 : Int) ^ (60 : Int).toNat = 1000000000000000000000000000000000000000000000000000000000000 := by decide
  rw [e]
theorem stepF {k : Nat} {ns : List Int} {pl md : Int} (hb : ns.length ≤ 63) (h1 : 0 ≤ pl) (h1' : pl ≤ 1000) : ∃ x : Int × Int, evF T (k + 4) "_law_step" [.scr ns, .int pl, .int md] = some (.ok .f (sD x)) ∧ 1 ≤ x.1 ∧ x.1 ≤ 1000000000000000000000000000000000000000000000000000000000000 ∧ 0 ≤ x.2 ∧ x.2 ≤ 1000000000000000000000000000000000000000000000000000000000000 := by
  rw [v__law_step, evD_run (by rfl)]
  have main : ∃ x : Int × Int, (evSs (orc T (k + 3)) c__law_step [.dat (.scr ns), .dat (.int pl), .dat (.int md), .un]).bind fin = some (.ok .f (sD x)) ∧ 1 ≤ x.1 ∧ x.1 ≤ 1000000000000000000000000000000000000000000000000000000000000 ∧ 0 ≤ x.2 ∧ x.2 ≤ 1000000000000000000000000000000000000000000000000000000000000 := by
    unfold c__law_step
    have dr : ∀ a sz : Int, 0 ≤ a → a ≤ 1000 → 0 < sz → evF T (k + 3) "_law_draw" [.scr ns, .int pl, .int a, .int sz] = some (.ok .f (.int (draw ns pl a sz))) := fun st sz a b c => drawF hb h1 (by omega) a (by omega) c
    have d04 := dr 0 4 (by omega) (by omega) (by omega)
    have d14 := dr 1 4 (by omega) (by omega) (by omega)
    have d13 := dr 1 3 (by omega) (by omega) (by omega)
    have d17 := dr 1 7 (by omega) (by omega) (by omega)
    have l04 := draw_lt (ns := ns) (pl := pl) (st := 0) (sz := 4) (by omega)
    have l14 := draw_lt (ns := ns) (pl := pl) (st := 1) (sz := 4) (by omega)
    have l13 := draw_lt (ns := ns) (pl := pl) (st := 1) (sz := 3) (by omega)
    have l17 := draw_lt (ns := ns) (pl := pl) (st := 1) (sz := 7) (by omega)
    obtain ⟨b0, b1, b2, b3⟩ := numberF (k := k) (ns := ns) (pl := pl) (st := 0) hb h1 h1' (by omega) (by omega)
    obtain ⟨c0, c1, c2, c3⟩ := numberF (k := k) (ns := ns) (pl := pl) (st := 8) hb h1 h1' (by omega) (by omega)
    have e18 : (10 : Int) ^ (18 : Int).toNat = 1000000000000000000 := by decide
    have mm := mulS (m1 := .f) (m2 := .f) (a := 1 + draw ns pl 0 4) (b := draw ns pl 1 3) (by omega) (by omega) (by omega) (by omega)
    have mb1 : (1 + draw ns pl 0 4) * draw ns pl 1 3 ≤ 4 * 2 := Int.mul_le_mul (by omega) (by omega) (by omega) (by omega)
    have mb0 : 0 ≤ (1 + draw ns pl 0 4) * draw ns pl 1 3 := Int.mul_nonneg (by omega) (by omega)
    clear dr
    have e60 := @powS
    generalize draw ns pl 0 4 = x04 at *
    generalize draw ns pl 1 4 = x14 at *
    generalize draw ns pl 1 3 = x13 at *
    generalize draw ns pl 1 7 = x17 at *
    generalize hmm : (1 + x04) * x13 = pr at *
    by_cases q5 : md = 5
    · have q := decide_eq_true q5
      refine ⟨(1000000000000000000000000000000000000000000000000000000000000 - 1 - x04, 1000000000000000000000000000000000000000000000000000000000000 - 1 - x14), ?_, ?_, ?_, ?_, ?_⟩
      · repeat (first | simp -implicitDefEqProofs only [q, d04, d14, e60] | walk_at "ev")
        rfl
      all_goals dsimp only; omega
    · have q := decide_eq_false q5
      by_cases q4 : md = 4
      · have q' := decide_eq_true q4
        refine ⟨(max 1 b0, c0), ?_, ?_, ?_, ?_, ?_⟩
        · repeat (first | simp -implicitDefEqProofs only [q, q', b1, c1] | walk_at "ev")
          rfl
        all_goals dsimp only; omega
      · have q' := decide_eq_false q4
        by_cases q3 : md = 3
        · have q'' := decide_eq_true q3
          refine ⟨(1000000000000000000 - x04, 1000000000000000000 - x14), ?_, ?_, ?_, ?_, ?_⟩
          · repeat (first | simp -implicitDefEqProofs only [q, q', q'', d04, d14, e18] | walk_at "ev")
            rfl
          all_goals dsimp only; omega
        · have q'' := decide_eq_false q3
          by_cases q2 : md = 2
          · have q2' := decide_eq_true q2
            refine ⟨(1 + x04, pr), ?_, ?_, ?_, ?_, ?_⟩
            · repeat (first | simp -implicitDefEqProofs only [q, q', q'', q2', d04, d13, mm] | walk_at "ev")
              rfl
            all_goals dsimp only; omega
          · have q2' := decide_eq_false q2
            refine ⟨(1 + x04, x17), ?_, ?_, ?_, ?_, ?_⟩
            · repeat (first | simp -implicitDefEqProofs only [q, q', q'', q2', d04, d17] | walk_at "ev")
              rfl
            all_goals dsimp only; omega
  exact main
theorem pairF {k : Nat} {ns : List Int} {pl : Int} (hb : ns.length ≤ 63) (h1 : 0 ≤ pl) (h1' : pl ≤ 1000) : ∃ x : Int × Int, evF T (k + 4) "_law_pair" [.scr ns, .int pl] = some (.ok .f (sD x)) ∧ -12000000000000000000 ≤ x.1 ∧ x.1 ≤ 12000000000000000000 ∧ 1 ≤ x.2 ∧ x.2 ≤ 12000000000000000000 := by
  rw [v__law_pair, evD_run (by rfl)]
  have main : ∃ x : Int × Int, (evSs (orc T (k + 3)) c__law_pair [.dat (.scr ns), .dat (.int pl), .un, .un, .un]).bind fin = some (.ok .f (sD x)) ∧ -12000000000000000000 ≤ x.1 ∧ x.1 ≤ 12000000000000000000 ∧ 1 ≤ x.2 ∧ x.2 ≤ 12000000000000000000 := by
    unfold c__law_pair
    have dr : ∀ a sz : Int, 0 ≤ a → a ≤ 1000 → 0 < sz → evF T (k + 3) "_law_draw" [.scr ns, .int pl, .int a, .int sz] = some (.ok .f (.int (draw ns pl a sz))) := fun st sz a b c => drawF hb h1 (by omega) a (by omega) c
    have d0 := dr 0 12 (by omega) (by omega) (by omega)
    have d3 := dr 17 3 (by omega) (by omega) (by omega)
    have l0 := draw_lt (ns := ns) (pl := pl) (st := 0) (sz := 12) (by omega)
    obtain ⟨b0, b1, b2, b3⟩ := numberF (k := k) (ns := ns) (pl := pl) (st := 1) hb h1 h1' (by omega) (by omega)
    obtain ⟨c0, c1, c2, c3⟩ := numberF (k := k) (ns := ns) (pl := pl) (st := 9) hb h1 h1' (by omega) (by omega)
    clear dr
    generalize draw ns pl 0 12 = f at *
    generalize draw ns pl 17 3 = s at *
    have m1 := mulS (m1 := .f) (m2 := .f) (a := 1 + f) (b := b0) (by omega) (by omega) (by omega) (by omega)
    have m2 := mulS (m1 := .f) (m2 := .f) (a := 1 + f) (b := max 1 c0) (by omega) (by omega) (by omega) (by omega)
    have x1 : (1 + f) * b0 ≤ 12 * 1000000000000000000 := Int.mul_le_mul (by omega) (by omega) (by omega) (by omega)
    have x0 : 0 ≤ (1 + f) * b0 := Int.mul_nonneg (by omega) (by omega)
    have y1 : (1 + f) * max 1 c0 ≤ 12 * 1000000000000000000 := Int.mul_le_mul (by omega) (by omega) (by omega) (by omega)
    have y0 : 0 < (1 + f) * max 1 c0 := Int.mul_pos (by omega) (by omega)
    generalize (1 + f) * b0 = u at *
    generalize (1 + f) * max 1 c0 = v at *
    by_cases q : s = 0
    · have q' := decide_eq_true q
      refine ⟨(0 - u, v), ?_, ?_, ?_, ?_, ?_⟩
      · repeat (first | simp -implicitDefEqProofs only [q', d0, d3, b1, c1, m1, m2] | walk_at "ev")
        rfl
      all_goals dsimp only; omega
    · have q' := decide_eq_false q
      refine ⟨(u, v), ?_, ?_, ?_, ?_, ?_⟩
      · repeat (first | simp -implicitDefEqProofs only [q', d0, d3, b1, c1, m1, m2] | walk_at "ev")
        rfl
      all_goals dsimp only; omega
  exact main
theorem divisorF {k a b : Nat} (h : b < (G2 399).1) : evF T (k + 1) "_law_divisor" [.int (a : Int), .int (b : Int)] = some (.ok .f (.int ((Nat.gcd a b : Nat) : Int))) := by
  rw [v__law_divisor, evD_run (by rfl)]
  show (evSs (orc T k) c__law_divisor [.dat (.int (a : Int)), .dat (.int (b : Int)), .un, .un]).bind fin = _
  unfold c__law_divisor
  have l4 : (-100000 : Int) ≤ 400 ∧ (400 : Int) ≤ 100000 := by omega
  have t4 : (400 : Int).toNat = 400 := rfl
  repeat (first | simp -implicitDefEqProofs only [l4, t4] | walk_at "ev")
  refine rng_to (fun j ρ => ∃ (A B : Nat) (s2 s3 : Sl), ρ = [.dat (.int (A : Int)), .dat (.int (B : Int)), s2, s3] ∧ Nat.gcd A B = Nat.gcd a b ∧ j ≤ 399 ∧ dn (399 - j) A B) ⟨a, b, _, _, rfl, rfl, by omega, dn_of _ _ _ h⟩ (fun j ρ hj ⟨A, B, s2, s3, e, hg, hj2, hd⟩ => ?_) (fun ρ ⟨A, B, s2, s3, e, hg, hj2, hd⟩ => absurd hj2 (by omega))
  subst e
  by_cases h0 : B = 0
  · have q : decide ((B : Int) = 0) = true := decide_eq_true (by omega)
    repeat (first | simp -implicitDefEqProofs only [q] | walk_at "ev")
    rw [goesR_rt, ← hg, h0, Nat.gcd_zero_right]
    walk_at "ev"
  · have q : decide ((B : Int) = 0) = false := decide_eq_false (by omega)
    have md := bin_mod (m1 := .f) (m2 := .f) (n := (A : Int)) (n' := (B : Int)) (by omega)
    have me : (A : Int) % (B : Int) = ((A % B : Nat) : Int) := (Int.natCast_emod A B).symm
    rw [me] at md
    repeat (first | simp -implicitDefEqProofs only [q, md] | walk_at "ev")
    rw [goesR_nx]
    have hj3 : j ≠ 399 := fun z => by
      subst z
      exact h0 hd
    obtain ⟨w, hw⟩ : ∃ w, 399 - j = w + 1 := ⟨399 - j - 1, by omega⟩
    rw [hw] at hd
    refine ⟨B, A % B, _, _, rfl, ?_, by omega, ?_⟩
    · rw [← hg, Nat.gcd_comm A B, Nat.gcd_rec B A, Nat.gcd_comm]
    · rw [show 399 - (j + 1) = w by omega]
      exact hd.resolve_left h0

end QL

end
section
set_option maxRecDepth 100000
set_option maxHeartbeats 4000000
namespace QL
open PySem PySem.Spec PyProof.Rows L2 Evl
local macro_rules | `(tactic| walk_at "ev") => `(tactic| simp -implicitDefEqProofs only [varS_ownT, retV_ownT, nrm_dit, imm_dit, slotV_nt, frz_ownT, slot0_dit, isNon_dit, ev_dnT, abs_int, gcd_ii, s_whl, s_asg2, asg2R_i, s_par, parR_v, esc_slc, esc_dnT, srcEsc_slc, srcEsc_env, enR_lf, enR_lb, enR_tf, enR_tb, partD_non, partD_int, partD_var, partD_bin, partD_ix, partD_neg, partD_b1, slR_lf, slR_lo, slR_tf, ev_var, ev_int, ev_bl, ev_str, ev_non, ev_bin, ev_cmp, ev_chain, ev_neg, ev_not, ev_and, ev_or, ev_ife, ev_ix, ev_tup, ev_lst, ev_call, orc_call, ev_slc, ev_fld, ev_meth, src_en, s_raise, s_setf, ret_fld, ret_meth, ret_slc, ev_b1, ev_b2, ev_isi, ev_lc, ev_lc2, evs_nil, evs_cons, src_r1', src_r2', src_seq', t_yes', t_not', t_and', t_or', t_val', ss_nil, ss_cons, s_set, s_pat, s_seti, s_app, s_ins, s_ife, s_for, s_retv, s_expr, s_pass, s_brk, s_cont, varS_dat, varS_bor, varS_own, varS_ownD, nrm_int, nrm_bl, nrm_str, nrm_non, nrm_scr, nrm_obj, nrm_lst, nrm_dic, nrm_f, nrm_tup, imm_int, imm_bl, imm_str, imm_non, imm_scr, imm_lst, imm_tup, imm_dic, imm_obj, immA_nil, immA_cons, op2_vv, bin_add, bin_sub, cmp_lt, cmp_le, cmp_gt, cmp_ge, cmp_eq, cmp_ne, cmp_eqb, cmp_neb, cmp_isb, cmp_isnb, cmp_eqs, cmp_nes, isNon_non, isNon_int, isNon_bl, isNon_lst, isNon_tup, isNon_str, isNon_obj, isNon_dic, cmp_is, cmp_isn, ixQ_some, ix_lst, ix_tup, ix_scr, ixm_f, ixm_n, ixm_o, ixm_b, ixm_h, len_lst, len_tup, len_scr, int_int, max_ii, min_ii, neg_i, not_b, bv_v1, list_lst, list_tup, tuple_lst, tuple_tup, itF_f, itF_n, itF_o, itF_b, itF_h, cf_f, cf_n, cf_b, cf_h, cf_o, allCf_nil, allCf_cons, tst_v, truth_bl, truth_lst, andT_t, andT_f, orT_t, orT_f, andR_t, andR_f, orR_f, orR_t, blV_b, ifE_t, ifE_f, ifS_t, ifS_f, ifL_t, ifL_f, elt1_v, lcB_s, lcR_v, lcR2_v, thenS_nx, thenS_rt, thenS_bk, thenS_ct, setR_v, setQ_s, slotV_f, slotV_n, slotV_nd, slotV_bl, slotV_bt, patR_v, setiR_v, appR_v, insR_v, forR_v, retV_own, retV_dat, retV_bor, retV_ownD, retR_v, retR_x, setR_x, patR_x, exprR_x, thenS_xs, fin_xs, exprR_v, ret_tup, esc_tup, ret_lst, esc_lst, ret_bin, esc_bin, ret_cmp, esc_cmp, ret_neg, esc_neg, ret_not, esc_not, ret_and, esc_and, ret_or, esc_or, ret_ix, esc_ix, ret_b1, esc_b1, ret_b2, esc_b2, ret_isi, esc_isi, ret_call, esc_call, ret_int, esc_int, ret_bl, esc_bl, ret_ife, esc_ife, ret_str, esc_str, ret_chain, esc_chain, ret_non, esc_non, ret_lc, esc_lc, ret_lc2, esc_lc2, esc_var, escs_nil, escs_cons, frzA_nil, frzA_cons, frz_dat, frz_bor, frz_own, frz_ownD, frz_un, srcEsc_r1, srcEsc_r2, srcEsc_var, srcEsc_call, srcEsc_lst, srcEsc_tup, srcEsc_ix, srcEsc_b1, srcEsc_bin, callR_v, callQ_f, callQ_n, callQ_x, consR_vv, tupR_v, lstR_v, lstR_h, r1R_i, r2R_i, seqR_v, srcD_scr, srcD_lf, srcD_tf, srcD_lb, srcD_tb, srcD_lo, srcD_to, srcD_lh, srcD_th, srcD_ln, fin_f, fin_n, fin_nx, slot0_int, slot0_bl, slot0_str, slot0_non, slot0_scr, slot0_lst, slot0_tup, slot0_obj, slot0_dic, bind_nm, slotOf_f, slotOf_int, slotOf_bl, bind_tp, binds_nil, binds_cons, wipe_nil, wipe_cons, isi_int_int, isi_int_bool, isi_int_str, isi_int_list, isi_int_tuple, isi_int_dict, isi_bool_int, isi_bool_bool, isi_bool_str, isi_bool_list, isi_bool_tuple, isi_bool_dict, isi_list_int, isi_list_bool, isi_list_str, isi_list_list, isi_list_tuple, isi_list_dict, isi_tuple_int, isi_tuple_bool, isi_tuple_str, isi_tuple_list, isi_tuple_tuple, isi_tuple_dict, isi_NoneType_int, isi_NoneType_bool, isi_NoneType_str, isi_NoneType_list, isi_NoneType_tuple, isi_NoneType_dict, isi_str_int, isi_str_bool, isi_str_str, isi_str_list, isi_str_tuple, isi_str_dict, isi_dict_int, isi_dict_bool, isi_dict_str, isi_dict_list, isi_dict_tuple, isi_dict_dict, Option.map_some, Option.map_none, Option.bind_some, Option.bind_none, List.getElem?_cons_zero, List.getElem?_cons_succ, List.set_cons_zero, List.set_cons_succ, List.getD_cons_zero, List.getD_cons_succ, List.map_cons, List.map_nil, List.length_cons, List.length_nil, List.nil_append, List.cons_append, List.append_nil, Bool.not_true, Bool.not_false, Bool.and_true, Bool.true_and, Bool.and_false, Bool.false_and, Bool.or_true, Bool.true_or, Bool.or_false, Bool.false_or, reduceIte, if_true, if_false, Bool.false_eq_true, decide_true, decide_false, reduceCtorEq, and_true, true_and, and_self, Nat.reduceAdd, Nat.reduceLeDiff, Nat.reduceLT, Nat.reduceSub, Nat.reduceEqDiff, List.isEmpty_cons, List.isEmpty_nil, not_true_eq_false, not_false_eq_true, bin_mul, bin_fdiv, bin_mod, bin_pow, Int.reduceLT, Int.reduceLE, Int.reduceNeg, Nat.reducePow, Int.reducePow, Int.reduceToNat])
local macro_rules | `(tactic| walk_at "evs") => `(tactic| simp -implicitDefEqProofs only [*, varS_ownT, retV_ownT, nrm_dit, imm_dit, slotV_nt, frz_ownT, slot0_dit, isNon_dit, ev_dnT, abs_int, gcd_ii, s_whl, s_asg2, asg2R_i, s_par, parR_v, esc_slc, esc_dnT, srcEsc_slc, srcEsc_env, enR_lf, enR_lb, enR_tf, enR_tb, partD_non, partD_int, partD_var, partD_bin, partD_ix, partD_neg, partD_b1, slR_lf, slR_lo, slR_tf, ev_var, ev_int, ev_bl, ev_str, ev_non, ev_bin, ev_cmp, ev_chain, ev_neg, ev_not, ev_and, ev_or, ev_ife, ev_ix, ev_tup, ev_lst, ev_call, orc_call, ev_slc, ev_fld, ev_meth, src_en, s_raise, s_setf, ret_fld, ret_meth, ret_slc, ev_b1, ev_b2, ev_isi, ev_lc, ev_lc2, evs_nil, evs_cons, src_r1', src_r2', src_seq', t_yes', t_not', t_and', t_or', t_val', ss_nil, ss_cons, s_set, s_pat, s_seti, s_app, s_ins, s_ife, s_for, s_retv, s_expr, s_pass, s_brk, s_cont, varS_dat, varS_bor, varS_own, varS_ownD, nrm_int, nrm_bl, nrm_str, nrm_non, nrm_scr, nrm_obj, nrm_lst, nrm_dic, nrm_f, nrm_tup, imm_int, imm_bl, imm_str, imm_non, imm_scr, imm_lst, imm_tup, imm_dic, imm_obj, immA_nil, immA_cons, op2_vv, bin_add, bin_sub, cmp_lt, cmp_le, cmp_gt, cmp_ge, cmp_eq, cmp_ne, cmp_eqb, cmp_neb, cmp_isb, cmp_isnb, cmp_eqs, cmp_nes, isNon_non, isNon_int, isNon_bl, isNon_lst, isNon_tup, isNon_str, isNon_obj, isNon_dic, cmp_is, cmp_isn, ixQ_some, ix_lst, ix_tup, ix_scr, ixm_f, ixm_n, ixm_o, ixm_b, ixm_h, len_lst, len_tup, len_scr, int_int, max_ii, min_ii, neg_i, not_b, bv_v1, list_lst, list_tup, tuple_lst, tuple_tup, itF_f, itF_n, itF_o, itF_b, itF_h, cf_f, cf_n, cf_b, cf_h, cf_o, allCf_nil, allCf_cons, tst_v, truth_bl, truth_lst, andT_t, andT_f, orT_t, orT_f, andR_t, andR_f, orR_f, orR_t, blV_b, ifE_t, ifE_f, ifS_t, ifS_f, ifL_t, ifL_f, elt1_v, lcB_s, lcR_v, lcR2_v, thenS_nx, thenS_rt, thenS_bk, thenS_ct, setR_v, setQ_s, slotV_f, slotV_n, slotV_nd, slotV_bl, slotV_bt, patR_v, setiR_v, appR_v, insR_v, forR_v, retV_own, retV_dat, retV_bor, retV_ownD, retR_v, retR_x, setR_x, patR_x, exprR_x, thenS_xs, fin_xs, exprR_v, ret_tup, esc_tup, ret_lst, esc_lst, ret_bin, esc_bin, ret_cmp, esc_cmp, ret_neg, esc_neg, ret_not, esc_not, ret_and, esc_and, ret_or, esc_or, ret_ix, esc_ix, ret_b1, esc_b1, ret_b2, esc_b2, ret_isi, esc_isi, ret_call, esc_call, ret_int, esc_int, ret_bl, esc_bl, ret_ife, esc_ife, ret_str, esc_str, ret_chain, esc_chain, ret_non, esc_non, ret_lc, esc_lc, ret_lc2, esc_lc2, esc_var, escs_nil, escs_cons, frzA_nil, frzA_cons, frz_dat, frz_bor, frz_own, frz_ownD, frz_un, srcEsc_r1, srcEsc_r2, srcEsc_var, srcEsc_call, srcEsc_lst, srcEsc_tup, srcEsc_ix, srcEsc_b1, srcEsc_bin, callR_v, callQ_f, callQ_n, callQ_x, consR_vv, tupR_v, lstR_v, lstR_h, r1R_i, r2R_i, seqR_v, srcD_scr, srcD_lf, srcD_tf, srcD_lb, srcD_tb, srcD_lo, srcD_to, srcD_lh, srcD_th, srcD_ln, fin_f, fin_n, fin_nx, slot0_int, slot0_bl, slot0_str, slot0_non, slot0_scr, slot0_lst, slot0_tup, slot0_obj, slot0_dic, bind_nm, slotOf_f, slotOf_int, slotOf_bl, bind_tp, binds_nil, binds_cons, wipe_nil, wipe_cons, isi_int_int, isi_int_bool, isi_int_str, isi_int_list, isi_int_tuple, isi_int_dict, isi_bool_int, isi_bool_bool, isi_bool_str, isi_bool_list, isi_bool_tuple, isi_bool_dict, isi_list_int, isi_list_bool, isi_list_str, isi_list_list, isi_list_tuple, isi_list_dict, isi_tuple_int, isi_tuple_bool, isi_tuple_str, isi_tuple_list, isi_tuple_tuple, isi_tuple_dict, isi_NoneType_int, isi_NoneType_bool, isi_NoneType_str, isi_NoneType_list, isi_NoneType_tuple, isi_NoneType_dict, isi_str_int, isi_str_bool, isi_str_str, isi_str_list, isi_str_tuple, isi_str_dict, isi_dict_int, isi_dict_bool, isi_dict_str, isi_dict_list, isi_dict_tuple, isi_dict_dict, Option.map_some, Option.map_none, Option.bind_some, Option.bind_none, List.getElem?_cons_zero, List.getElem?_cons_succ, List.set_cons_zero, List.set_cons_succ, List.getD_cons_zero, List.getD_cons_succ, List.map_cons, List.map_nil, List.length_cons, List.length_nil, List.nil_append, List.cons_append, List.append_nil, Bool.not_true, Bool.not_false, Bool.and_true, Bool.true_and, Bool.and_false, Bool.false_and, Bool.or_true, Bool.true_or, Bool.or_false, Bool.false_or, reduceIte, if_true, if_false, Bool.false_eq_true, decide_true, decide_false, reduceCtorEq, and_true, true_and, and_self, Nat.reduceAdd, Nat.reduceLeDiff, Nat.reduceLT, Nat.reduceSub, Nat.reduceEqDiff, List.isEmpty_cons, List.isEmpty_nil, not_true_eq_false, not_false_eq_true, bin_mul, bin_fdiv, bin_mod, bin_pow, Int.reduceLT, Int.reduceLE, Int.reduceNeg, Nat.reducePow, Int.reducePow, Int.reduceToNat])
theorem ratioF {k : Nat} {n d : Int} (hd : 1 ≤ d) (hd2 : d ≤ 100000000000000000000000000000000000000000000000000000000000000) : evF T (k + 1) "make_ratio" [.int n, .int d] = some (.ok .f (sD (n / ((Nat.gcd n.natAbs d.natAbs : Nat) : Int), d / ((Nat.gcd n.natAbs d.natAbs : Nat) : Int)))) := by
  rw [v_make_ratio, evD_run (by rfl)]
  show (evSs (orc T k) c_make_ratio [.dat (.int n), .dat (.int d), .un]).bind fin = _
  unfold c_make_ratio
  have hg : Nat.gcd n.natAbs d.natAbs ≤ d.natAbs := Nat.gcd_le_right _ (by omega)
  have hg0 := (lowest (n := n) hd).1
  have f1 : ∀ a : Int, binD .fdiv .f (.int a) .f (.int ((Nat.gcd n.natAbs d.natAbs : Nat) : Int)) = some (.v .f (.int (a / ((Nat.gcd n.natAbs d.natAbs : Nat) : Int)))) := fun a => fdivS hg0 (by omega)
  repeat (first | simp -implicitDefEqProofs only [f1] | walk_at "ev")
  rfl
theorem lowestF {k : Nat} {n d : Int} (hd : 1 ≤ d) (hd2 : d ≤ 100000000000000000000000000000000000000000000000000000000000000) (hn : -100000000000000000000000000000000000000000000000000000000000000 ≤ n) (hn2 : n ≤ 100000000000000000000000000000000000000000000000000000000000000) :
    evF T (k + 2) "_law_lowest" [sD (n / ((Nat.gcd n.natAbs d.natAbs : Nat) : Int), d / ((Nat.gcd n.natAbs d.natAbs : Nat) : Int)), .int n, .int d] = some (.ok .f (.bl true)) := by
  obtain ⟨g1, g2, g3, g4, g5, g6⟩ := lowest (n := n) hd
  generalize n / ((Nat.gcd n.natAbs d.natAbs : Nat) : Int) = a at *
  generalize d / ((Nat.gcd n.natAbs d.natAbs : Nat) : Int) = b at *
  rw [v__law_lowest, evD_run (by rfl)]
  show (evSs (orc T (k + 1)) c__law_lowest [.dat (.tup [.int a, .int b]), .dat (.int n), .dat (.int d)]).bind fin = _
  unfold c__law_lowest
  have i1 := fun n => isintF (k := k) (n := n)
  have m1 := mulS (m1 := .f) (m2 := .f) (a := a) (b := d) (by omega) (by omega) (by omega) (by omega)
  have m2 := mulS (m1 := .f) (m2 := .f) (a := n) (b := b) (by omega) (by omega) (by omega) (by omega)
  have q1 : decide (b < 1) = false := decide_eq_false (by omega)
  have q2 : decide (a * d = n * b) = true := decide_eq_true g4
  have ea : (if a < 0 then -a else a) = ((a.natAbs : Nat) : Int) := by split <;> omega
  have eb : b = ((b.natAbs : Nat) : Int) := by omega
  have dv := divisorF (k := k) (a := a.natAbs) (b := b.natAbs) (by have := G_big; omega)
  rw [g5, ← eb] at dv
  have q3 : decide (((1 : Nat) : Int) = 1) = true := by decide
  have q4 : decide ((2 : Int) = 2) = true := by decide
  repeat (first | simp -implicitDefEqProofs only [i1, m1, m2, q1, q2, q3, q4, ea, dv, at20, at21, n22] | walk_at "ev")
theorem lessF {k : Nat} {a b c d : Int} (h1 : 0 ≤ a) (h2 : a ≤ 100000000000000000000000000000000000000000000000000000000000000) (h3 : 0 ≤ b) (h4 : b ≤ 100000000000000000000000000000000000000000000000000000000000000)
    (h5 : 0 ≤ c) (h6 : c ≤ 100000000000000000000000000000000000000000000000000000000000000) (h7 : 0 ≤ d) (h8 : d ≤ 100000000000000000000000000000000000000000000000000000000000000) : evF T (k + 1) "is_less" [.tup [.int a, .int b], .tup [.int c, .int d]] = some (.ok .f (.bl (decide (a * d < c * b)))) := by
  rw [v_is_less, evD_run (by rfl)]
  show (evSs (orc T k) c_is_less [.dat (.tup [.int a, .int b]), .dat (.tup [.int c, .int d])]).bind fin = _
  unfold c_is_less
  have m1 := mulS (m1 := .f) (m2 := .f) (a := a) (b := d) (by omega) (by omega) (by omega) (by omega)
  have m2 := mulS (m1 := .f) (m2 := .f) (a := c) (b := b) (by omega) (by omega) (by omega) (by omega)
  repeat (first | simp -implicitDefEqProofs only [m1, m2, at20, at21] | walk_at "ev")
def sW (l : List (Int × Int)) : Int := (l.map (·.2)).sum
def sH (l : List (Int × Int)) : Int := (l.map (·.1)).sum
theorem sWH_ub {M : Int} : ∀ {l : List (Int × Int)}, Okk M l → 0 ≤ sW l ∧ sW l ≤ l.length * M ∧ 0 ≤ sH l ∧ sH l ≤ l.length * M
  | [], _ => by simp [sW, sH]
  | x :: l, h => by
    have ih := sWH_ub (l := l) fun y hy => h y (List.mem_cons_of_mem _ hy)
    have hx := h x List.mem_cons_self
    have e : ((l.length + 1 : Nat) : Int) * M = l.length * M + M := by push_cast; grind
    unfold sW sH at *
    simp only [List.map_cons, List.sum_cons, List.length_cons]
    rw [e]; omega
theorem bg_app {s : Nat} {x : Int × Int} : ∀ (p : List (Int × Int)) (k : Nat) (W H : Int), bg s k W H (p ++ [x]) = bg s k W H p ++ [⟨s, k + p.length + 1, W + sW p + x.2, H + sH p + x.1⟩]
  | [], k, W, H => by simp [bg, sW, sH]
  | y :: p, k, W, H => by
    simp only [List.cons_append, bg, bg_app p, List.length_cons, sW, sH, List.map_cons, List.sum_cons]
    rw [show k + 1 + p.length + 1 = k + (p.length + 1) + 1 by omega, Int.add_assoc W, Int.add_assoc H]
theorem fsB_app {y : Row} : ∀ (P : List Row) (b : Row), fsB b (P ++ [y]) = fsS (fsB b P) y
  | [], _ => rfl
  | x :: P, b => fsB_app P _
def M60 : Int := 1000000000000000000000000000000000000000000000000000000000000
def b0 (p : List (Int × Int)) : Row := fsB ⟨0, 0, 0, 1⟩ (bg 0 0 0 0 p)
theorem b0_ok {p : List (Int × Int)} (h : Okk M60 p) : 1 ≤ (b0 p).H ∧ (b0 p).H ≤ p.length * M60 + 1 ∧ 0 ≤ (b0 p).W ∧ (b0 p).W ≤ p.length * M60 + 1 := by
  have hM : 0 ≤ M60 := by decide
  have nn : 0 ≤ (p.length : Int) * M60 := Int.mul_nonneg (Int.natCast_nonneg _) hM
  unfold b0
  rcases fsB_mem (bg 0 0 0 0 p) ⟨0, 0, 0, 1⟩ with e | e
  · rw [e]; dsimp only; omega
  · have := bg_mem hM p 0 0 0 h (Int.le_refl 0) (Int.le_refl 0) _ e
    omega
theorem len_M {p : List (Int × Int)} (h : p.length ≤ 24) : (p.length : Int) * M60 ≤ 24000000000000000000000000000000000000000000000000000000000000 := by
  have e : (24000000000000000000000000000000000000000000000000000000000000 : Int) = 24 * M60 := by decide
  rw [e]
  exact Int.mul_le_mul_of_nonneg_right (by omega) (by decide)
theorem b0_app {p : List (Int × Int)} {x : Int × Int} : b0 (p ++ [x]) = fsS (b0 p) ⟨0, p.length + 1, sW p + x.2, sH p + x.1⟩ := by
  unfold b0
  rw [bg_app, fsB_app, Nat.zero_add, Int.zero_add, Int.zero_add]
def fsBody : CSs := match c_first_section with | .cons _ (.cons _ (.cons (.for _ _ b) _)) => b | _ => .nil
theorem first_loop {k : Nat} {m : Md} {s0 : Sl} {l : List (Int × Int)} (h : Okk M60 l) (hl : l.length ≤ 24) : ∃ ρ', forGo (.tp [(.nm 5), (.tp [(.nm 6), (.nm 7)])]) (evSs (orc T (k + 1)) fsBody) (enIt m (l.map sD)) [s0, .dat (.int 0), .dat (.tup [.int 0, .int 1]), .dat (.int 0), .dat (.int 0), .un, .un, .un] = some (.nx ρ') ∧
    ∃ s5 s6 s7, ρ' = [s0, .dat (.int (b0 l).e), .dat (.tup [.int (b0 l).W, .int (b0 l).H]), .dat (.int (sW l)), .dat (.int (sH l)), s5, s6, s7] := by
  have hbind : ∀ (k : Nat) (x : Int × Int) (ρ : List Sl), x ∈ l → bindP (.tp [(.nm 5), (.tp [(.nm 6), (.nm 7)])]) ρ (.many [(.f, .int (k : Nat)), (ixm m, sD x)]) = some (((ρ.set 5 (.dat (.int (k : Int)))).set 6 (.dat (.int x.1))).set 7 (.dat (.int x.2))) := fun k x ρ _ => by
    simp only [bind_many, sD_eq, List.length_cons, List.length_nil, if_true, binds_cons, binds_nil, bind_nm, slotOf_f, slotOf_int, Option.map_some, Option.bind_some, bind_tp, List.map_cons, List.map_nil]
  refine en_go (fun p ρ => ∃ s5 s6 s7, ρ = [s0, .dat (.int (b0 p).e), .dat (.tup [.int (b0 p).W, .int (b0 p).H]), .dat (.int (sW p)), .dat (.int (sH p)), s5, s6, s7]) _ ⟨_, _, _, rfl⟩ hbind (fun p x ρ hx ⟨l', e0⟩ ⟨s5, s6, s7, e⟩ => ?_)
  subst e
  have hp : Okk M60 p := fun y hy => h y (by rw [e0]; simp [hy])
  have hpl : p.length + 1 ≤ 24 := by
    have := congrArg List.length e0
    rw [List.length_append, List.length_cons] at this
    omega
  obtain ⟨c1, c2, c3, c4⟩ := b0_ok hp
  obtain ⟨t1, t2, t3, t4⟩ := sWH_ub hp
  have hx2 := h x hx
  have hM : M60 = 1000000000000000000000000000000000000000000000000000000000000 := rfl
  have lm := len_M (p := p) (by omega)
  generalize (p.length : Int) * M60 = K at *
  rw [hM] at hx2
  have lf := lessF (k := k) (a := sW p + x.2) (b := sH p + x.1) (c := (b0 p).W) (d := (b0 p).H) (by omega) (by omega) (by omega) (by omega) (by omega) (by omega) (by omega) (by omega)
  have ea := b0_app (p := p) (x := x)
  have es1 : sW (p ++ [x]) = sW p + x.2 := by simp [sW]
  have es2 : sH (p ++ [x]) = sH p + x.1 := by simp [sH]
  rw [ea, es1, es2]
  unfold fsBody c_first_section
  unfold fsS
  dsimp only
  generalize b0 p = b at *
  by_cases hq : (sW p + x.2) * b.H < b.W * (sH p + x.1)
  · have q := decide_eq_true hq
    rw [if_pos hq]
    repeat (first | simp -implicitDefEqProofs only [lf, q, at20, at21] | walk_at "ev")
    rw [goes_nx]
    exact ⟨_, _, _, rfl⟩
  · have q := decide_eq_false hq
    rw [if_neg hq]
    repeat (first | simp -implicitDefEqProofs only [lf, q, at20, at21] | walk_at "ev")
    rw [goes_nx]
    exact ⟨_, _, _, rfl⟩

end QL

end
section
set_option maxRecDepth 100000
set_option maxHeartbeats 4000000
namespace QL
open PySem PySem.Spec PyProof.Rows L2 Evl
local macro_rules | `(tactic| walk_at "ev") => `(tactic| simp -implicitDefEqProofs only [varS_ownT, retV_ownT, nrm_dit, imm_dit, slotV_nt, frz_ownT, slot0_dit, isNon_dit, ev_dnT, abs_int, gcd_ii, s_whl, s_asg2, asg2R_i, s_par, parR_v, esc_slc, esc_dnT, srcEsc_slc, srcEsc_env, enR_lf, enR_lb, enR_tf, enR_tb, partD_non, partD_int, partD_var, partD_bin, partD_ix, partD_neg, partD_b1, slR_lf, slR_lo, slR_tf, ev_var, ev_int, ev_bl, ev_str, ev_non, ev_bin, ev_cmp, ev_chain, ev_neg, ev_not, ev_and, ev_or, ev_ife, ev_ix, ev_tup, ev_lst, ev_call, orc_call, ev_slc, ev_fld, ev_meth, src_en, s_raise, s_setf, ret_fld, ret_meth, ret_slc, ev_b1, ev_b2, ev_isi, ev_lc, ev_lc2, evs_nil, evs_cons, src_r1', src_r2', src_seq', t_yes', t_not', t_and', t_or', t_val', ss_nil, ss_cons, s_set, s_pat, s_seti, s_app, s_ins, s_ife, s_for, s_retv, s_expr, s_pass, s_brk, s_cont, varS_dat, varS_bor, varS_own, varS_ownD, nrm_int, nrm_bl, nrm_str, nrm_non, nrm_scr, nrm_obj, nrm_lst, nrm_dic, nrm_f, nrm_tup, imm_int, imm_bl, imm_str, imm_non, imm_scr, imm_lst, imm_tup, imm_dic, imm_obj, immA_nil, immA_cons, op2_vv, bin_add, bin_sub, cmp_lt, cmp_le, cmp_gt, cmp_ge, cmp_eq, cmp_ne, cmp_eqb, cmp_neb, cmp_isb, cmp_isnb, cmp_eqs, cmp_nes, isNon_non, isNon_int, isNon_bl, isNon_lst, isNon_tup, isNon_str, isNon_obj, isNon_dic, cmp_is, cmp_isn, ixQ_some, ix_lst, ix_tup, ix_scr, ixm_f, ixm_n, ixm_o, ixm_b, ixm_h, len_lst, len_tup, len_scr, int_int, max_ii, min_ii, neg_i, not_b, bv_v1, list_lst, list_tup, tuple_lst, tuple_tup, itF_f, itF_n, itF_o, itF_b, itF_h, cf_f, cf_n, cf_b, cf_h, cf_o, allCf_nil, allCf_cons, tst_v, truth_bl, truth_lst, andT_t, andT_f, orT_t, orT_f, andR_t, andR_f, orR_f, orR_t, blV_b, ifE_t, ifE_f, ifS_t, ifS_f, ifL_t, ifL_f, elt1_v, lcB_s, lcR_v, lcR2_v, thenS_nx, thenS_rt, thenS_bk, thenS_ct, setR_v, setQ_s, slotV_f, slotV_n, slotV_nd, slotV_bl, slotV_bt, patR_v, setiR_v, appR_v, insR_v, forR_v, retV_own, retV_dat, retV_bor, retV_ownD, retR_v, retR_x, setR_x, patR_x, exprR_x, thenS_xs, fin_xs, exprR_v, ret_tup, esc_tup, ret_lst, esc_lst, ret_bin, esc_bin, ret_cmp, esc_cmp, ret_neg, esc_neg, ret_not, esc_not, ret_and, esc_and, ret_or, esc_or, ret_ix, esc_ix, ret_b1, esc_b1, ret_b2, esc_b2, ret_isi, esc_isi, ret_call, esc_call, ret_int, esc_int, ret_bl, esc_bl, ret_ife, esc_ife, ret_str, esc_str, ret_chain, esc_chain, ret_non, esc_non, ret_lc, esc_lc, ret_lc2, esc_lc2, esc_var, escs_nil, escs_cons, frzA_nil, frzA_cons, frz_dat, frz_bor, frz_own, frz_ownD, frz_un, srcEsc_r1, srcEsc_r2, srcEsc_var, srcEsc_call, srcEsc_lst, srcEsc_tup, srcEsc_ix, srcEsc_b1, srcEsc_bin, callR_v, callQ_f, callQ_n, callQ_x, consR_vv, tupR_v, lstR_v, lstR_h, r1R_i, r2R_i, seqR_v, srcD_scr, srcD_lf, srcD_tf, srcD_lb, srcD_tb, srcD_lo, srcD_to, srcD_lh, srcD_th, srcD_ln, fin_f, fin_n, fin_nx, slot0_int, slot0_bl, slot0_str, slot0_non, slot0_scr, slot0_lst, slot0_tup, slot0_obj, slot0_dic, bind_nm, slotOf_f, slotOf_int, slotOf_bl, bind_tp, binds_nil, binds_cons, wipe_nil, wipe_cons, isi_int_int, isi_int_bool, isi_int_str, isi_int_list, isi_int_tuple, isi_int_dict, isi_bool_int, isi_bool_bool, isi_bool_str, isi_bool_list, isi_bool_tuple, isi_bool_dict, isi_list_int, isi_list_bool, isi_list_str, isi_list_list, isi_list_tuple, isi_list_dict, isi_tuple_int, isi_tuple_bool, isi_tuple_str, isi_tuple_list, isi_tuple_tuple, isi_tuple_dict, isi_NoneType_int, isi_NoneType_bool, isi_NoneType_str, isi_NoneType_list, isi_NoneType_tuple, isi_NoneType_dict, isi_str_int, isi_str_bool, isi_str_str, isi_str_list, isi_str_tuple, isi_str_dict, isi_dict_int, isi_dict_bool, isi_dict_str, isi_dict_list, isi_dict_tuple, isi_dict_dict, Option.map_some, Option.map_none, Option.bind_some, Option.bind_none, List.getElem?_cons_zero, List.getElem?_cons_succ, List.set_cons_zero, List.set_cons_succ, List.getD_cons_zero, List.getD_cons_succ, List.map_cons, List.map_nil, List.length_cons, List.length_nil, List.nil_append, List.cons_append, List.append_nil, Bool.not_true, Bool.not_false, Bool.and_true, Bool.true_and, Bool.and_false, Bool.false_and, Bool.or_true, Bool.true_or, Bool.or_false, Bool.false_or, reduceIte, if_true, if_false, Bool.false_eq_true, decide_true, decide_false, reduceCtorEq, and_true, true_and, and_self, Nat.reduceAdd, Nat.reduceLeDiff, Nat.reduceLT, Nat.reduceSub, Nat.reduceEqDiff, List.isEmpty_cons, List.isEmpty_nil, not_true_eq_false, not_false_eq_true, bin_mul, bin_fdiv, bin_mod, bin_pow, Int.reduceLT, Int.reduceLE, Int.reduceNeg, Nat.reducePow, Int.reducePow, Int.reduceToNat])
local macro_rules | `(tactic| walk_at "evs") => `(tactic| simp -implicitDefEqProofs only [*, varS_ownT, retV_ownT, nrm_dit, imm_dit, slotV_nt, frz_ownT, slot0_dit, isNon_dit, ev_dnT, abs_int, gcd_ii, s_whl, s_asg2, asg2R_i, s_par, parR_v, esc_slc, esc_dnT, srcEsc_slc, srcEsc_env, enR_lf, enR_lb, enR_tf, enR_tb, partD_non, partD_int, partD_var, partD_bin, partD_ix, partD_neg, partD_b1, slR_lf, slR_lo, slR_tf, ev_var, ev_int, ev_bl, ev_str, ev_non, ev_bin, ev_cmp, ev_chain, ev_neg, ev_not, ev_and, ev_or, ev_ife, ev_ix, ev_tup, ev_lst, ev_call, orc_call, ev_slc, ev_fld, ev_meth, src_en, s_raise, s_setf, ret_fld, ret_meth, ret_slc, ev_b1, ev_b2, ev_isi, ev_lc, ev_lc2, evs_nil, evs_cons, src_r1', src_r2', src_seq', t_yes', t_not', t_and', t_or', t_val', ss_nil, ss_cons, s_set, s_pat, s_seti, s_app, s_ins, s_ife, s_for, s_retv, s_expr, s_pass, s_brk, s_cont, varS_dat, varS_bor, varS_own, varS_ownD, nrm_int, nrm_bl, nrm_str, nrm_non, nrm_scr, nrm_obj, nrm_lst, nrm_dic, nrm_f, nrm_tup, imm_int, imm_bl, imm_str, imm_non, imm_scr, imm_lst, imm_tup, imm_dic, imm_obj, immA_nil, immA_cons, op2_vv, bin_add, bin_sub, cmp_lt, cmp_le, cmp_gt, cmp_ge, cmp_eq, cmp_ne, cmp_eqb, cmp_neb, cmp_isb, cmp_isnb, cmp_eqs, cmp_nes, isNon_non, isNon_int, isNon_bl, isNon_lst, isNon_tup, isNon_str, isNon_obj, isNon_dic, cmp_is, cmp_isn, ixQ_some, ix_lst, ix_tup, ix_scr, ixm_f, ixm_n, ixm_o, ixm_b, ixm_h, len_lst, len_tup, len_scr, int_int, max_ii, min_ii, neg_i, not_b, bv_v1, list_lst, list_tup, tuple_lst, tuple_tup, itF_f, itF_n, itF_o, itF_b, itF_h, cf_f, cf_n, cf_b, cf_h, cf_o, allCf_nil, allCf_cons, tst_v, truth_bl, truth_lst, andT_t, andT_f, orT_t, orT_f, andR_t, andR_f, orR_f, orR_t, blV_b, ifE_t, ifE_f, ifS_t, ifS_f, ifL_t, ifL_f, elt1_v, lcB_s, lcR_v, lcR2_v, thenS_nx, thenS_rt, thenS_bk, thenS_ct, setR_v, setQ_s, slotV_f, slotV_n, slotV_nd, slotV_bl, slotV_bt, patR_v, setiR_v, appR_v, insR_v, forR_v, retV_own, retV_dat, retV_bor, retV_ownD, retR_v, retR_x, setR_x, patR_x, exprR_x, thenS_xs, fin_xs, exprR_v, ret_tup, esc_tup, ret_lst, esc_lst, ret_bin, esc_bin, ret_cmp, esc_cmp, ret_neg, esc_neg, ret_not, esc_not, ret_and, esc_and, ret_or, esc_or, ret_ix, esc_ix, ret_b1, esc_b1, ret_b2, esc_b2, ret_isi, esc_isi, ret_call, esc_call, ret_int, esc_int, ret_bl, esc_bl, ret_ife, esc_ife, ret_str, esc_str, ret_chain, esc_chain, ret_non, esc_non, ret_lc, esc_lc, ret_lc2, esc_lc2, esc_var, escs_nil, escs_cons, frzA_nil, frzA_cons, frz_dat, frz_bor, frz_own, frz_ownD, frz_un, srcEsc_r1, srcEsc_r2, srcEsc_var, srcEsc_call, srcEsc_lst, srcEsc_tup, srcEsc_ix, srcEsc_b1, srcEsc_bin, callR_v, callQ_f, callQ_n, callQ_x, consR_vv, tupR_v, lstR_v, lstR_h, r1R_i, r2R_i, seqR_v, srcD_scr, srcD_lf, srcD_tf, srcD_lb, srcD_tb, srcD_lo, srcD_to, srcD_lh, srcD_th, srcD_ln, fin_f, fin_n, fin_nx, slot0_int, slot0_bl, slot0_str, slot0_non, slot0_scr, slot0_lst, slot0_tup, slot0_obj, slot0_dic, bind_nm, slotOf_f, slotOf_int, slotOf_bl, bind_tp, binds_nil, binds_cons, wipe_nil, wipe_cons, isi_int_int, isi_int_bool, isi_int_str, isi_int_list, isi_int_tuple, isi_int_dict, isi_bool_int, isi_bool_bool, isi_bool_str, isi_bool_list, isi_bool_tuple, isi_bool_dict, isi_list_int, isi_list_bool, isi_list_str, isi_list_list, isi_list_tuple, isi_list_dict, isi_tuple_int, isi_tuple_bool, isi_tuple_str, isi_tuple_list, isi_tuple_tuple, isi_tuple_dict, isi_NoneType_int, isi_NoneType_bool, isi_NoneType_str, isi_NoneType_list, isi_NoneType_tuple, isi_NoneType_dict, isi_str_int, isi_str_bool, isi_str_str, isi_str_list, isi_str_tuple, isi_str_dict, isi_dict_int, isi_dict_bool, isi_dict_str, isi_dict_list, isi_dict_tuple, isi_dict_dict, Option.map_some, Option.map_none, Option.bind_some, Option.bind_none, List.getElem?_cons_zero, List.getElem?_cons_succ, List.set_cons_zero, List.set_cons_succ, List.getD_cons_zero, List.getD_cons_succ, List.map_cons, List.map_nil, List.length_cons, List.length_nil, List.nil_append, List.cons_append, List.append_nil, Bool.not_true, Bool.not_false, Bool.and_true, Bool.true_and, Bool.and_false, Bool.false_and, Bool.or_true, Bool.true_or, Bool.or_false, Bool.false_or, reduceIte, if_true, if_false, Bool.false_eq_true, decide_true, decide_false, reduceCtorEq, and_true, true_and, and_self, Nat.reduceAdd, Nat.reduceLeDiff, Nat.reduceLT, Nat.reduceSub, Nat.reduceEqDiff, List.isEmpty_cons, List.isEmpty_nil, not_true_eq_false, not_false_eq_true, bin_mul, bin_fdiv, bin_mod, bin_pow, Int.reduceLT, Int.reduceLE, Int.reduceNeg, Nat.reducePow, Int.reducePow, Int.reduceToNat])
def sqS (t : Bool) (l : List (Int × Int)) : D := if t = true then .tup (l.map sD) else .lst (l.map sD)
theorem map_sD {l : List (Int × Int)} : l.map sD = (l.map fun x => [x.1, x.2]).map rowI := by rw [List.map_map]; rfl
theorem map_rwD {l : List Row} : l.map rwD = (l.map fun x => [(x.s : Int), (x.e : Int), x.W, x.H]).map rowI := by rw [List.map_map]; rfl
theorem immA_s {l : List (Int × Int)} : immA (l.map sD) = true := by rw [map_sD]; exact immA_rowI _
theorem immA_r {l : List Row} : immA (l.map rwD) = true := by rw [map_rwD]; exact immA_rowI _
theorem imm_r {x : Row} : imm (rwD x) = true := rfl
theorem firstF {k : Nat} {t : Bool} {l : List (Int × Int)} (h : Okk M60 l) (hl : l.length ≤ 24) : evF T (k + 2) "first_section" [sqS t l] = some (.ok .f (.tup [.int (b0 l).e, .int (b0 l).W, .int (b0 l).H])) := by
  rw [v_first_section, evD_run (by rfl)]
  cases t
  · show (evSs (orc T (k + 1)) c_first_section [.bor (.lst (l.map sD)), .un, .un, .un, .un, .un, .un, .un]).bind fin = _
    unfold c_first_section
    walk_at "ev"
    refine for_fin (first_loop (k := k) (m := .b) (s0 := .bor (.lst (l.map sD))) h hl) (fun ρ ⟨s5, s6, s7, e⟩ => ?_)
    subst e
    repeat (first | simp -implicitDefEqProofs only [at20, at21] | walk_at "ev")
  · have e0 : slot0 (.tup (l.map sD)) = .dat (.tup (l.map sD)) := by rw [slot0_tup, if_pos immA_s]
    show (evSs (orc T (k + 1)) c_first_section [slot0 (.tup (l.map sD)), .un, .un, .un, .un, .un, .un, .un]).bind fin = _
    rw [e0]
    unfold c_first_section
    walk_at "ev"
    refine for_fin (first_loop (k := k) (m := .f) (s0 := .dat (.tup (l.map sD))) h hl) (fun ρ ⟨s5, s6, s7, e⟩ => ?_)
    subst e
    repeat (first | simp -implicitDefEqProofs only [at20, at21] | walk_at "ev")
theorem bst_b0 {l : List (Int × Int)} {s : Nat} : bst l s = shR s (b0 (l.drop s)) := by
  have := bst_sh (l := l) (d := s) (s := 0)
  rw [Nat.zero_add] at this
  rw [this]
  unfold bst b0
  rw [List.drop_zero]
def seBody : CSs := match c_sections with | .cons _ (.cons _ (.cons (.whl _ b) _)) => b | _ => .nil
def seTest : CT := match c_sections with | .cons _ (.cons _ (.cons (.whl t _) _)) => t | _ => .yes
theorem M60_nn : 0 ≤ M60 := by decide
theorem b0_e {l : List (Int × Int)} {st : Nat} (h : Okk M60 l) (hs : st < l.length) : (b0 (l.drop st)).s = 0 ∧ 0 < (b0 (l.drop st)).e ∧ st + (b0 (l.drop st)).e ≤ l.length := by
  obtain ⟨q1, q2, q3, _⟩ := bst_ok M60_nn h hs
  rw [bst_b0] at q1 q2 q3
  have a1 : (b0 (l.drop st)).s + st = st := q1
  have a2 : st < (b0 (l.drop st)).e + st := q2
  have a3 : (b0 (l.drop st)).e + st ≤ l.length := q3
  omega
theorem sect_row {l : List (Int × Int)} {st : Nat} (h : Okk M60 l) (hs : st < l.length) : rwD (bst l st) = .tup [.int (st : Int), .int ((st : Int) + ((b0 (l.drop st)).e : Int)), .int (b0 (l.drop st)).W, .int (b0 (l.drop st)).H] ∧ ((bst l st).e : Int) = (st : Int) + ((b0 (l.drop st)).e : Int) := by
  obtain ⟨q1, q2, q3⟩ := b0_e h hs
  have e1 : ((bst l st).e : Int) = (st : Int) + ((b0 (l.drop st)).e : Int) := by
    rw [bst_b0]
    show (((b0 (l.drop st)).e + st : Nat) : Int) = _
    omega
  have e2 : ((bst l st).s : Int) = (st : Int) := by
    rw [bst_b0]
    show (((b0 (l.drop st)).s + st : Nat) : Int) = _
    omega
  refine ⟨?_, e1⟩
  rw [rwD_eq, e1, e2, bst_b0]
  rfl
theorem sect_loop {k : Nat} {m : Md} {s0 : Sl} {t : Bool} {l : List (Int × Int)} (h : Okk M60 l) (hl : l.length ≤ 24) (hv : varS (some s0) = some (.v (if t = true then .f else .b) (sqS t l))) : ∃ ρ', whlGo (evT (orc T (k + 2)) seTest) (evSs (orc T (k + 2)) seBody) 100000 [s0, .own [], .dat (.int 0), .un, .un, .un] = some (.nx ρ') ∧
    ∃ s2 s3 s4 s5, ρ' = [s0, .own ((secs l l.length 0).map rwD), s2, s3, s4, s5] := by
  have key := whl_inv (t := evT (orc T (k + 2)) seTest) (f := evSs (orc T (k + 2)) seBody) (fun r ρ => ∃ (f st : Nat) (found : List Row) (s3 s4 s5 : Sl), ρ = [s0, .own (found.map rwD), .dat (.int (st : Int)), s3, s4, s5] ∧ found ++ secs l f st = secs l l.length 0 ∧ l.length - st ≤ f ∧ r = l.length - st ∧ found.length ≤ st) l.length 100000 [s0, .own [], .dat (.int 0), .un, .un, .un] (by omega) ⟨l.length, 0, [], _, _, _, rfl, rfl, by omega, by omega, by simp⟩ (fun r ρ ⟨f, st, found, s3, s4, s5, e, ht, hf, hr, hfl⟩ hrq => ?_) (fun ρ ⟨f, st, found, s3, s4, s5, e, ht, hf, hr, hfl⟩ => ?_)
  · obtain ⟨ρ', e1, f, st, found, s3, s4, s5, e, ht, hf, hr, hfl⟩ := key
    refine ⟨ρ', e1, .dat (.int (st : Int)), s3, s4, s5, ?_⟩
    have e2 : secs l f st = [] := by
      cases f with
      | zero => rfl
      | succ f => show (if st < l.length then _ else _) = _; rw [if_neg (by omega)]
    rw [e2, List.append_nil] at ht
    rw [e, ht]
  · subst e
    have hs : st < l.length := by omega
    have hlen : ∀ (m : Md), b1D .len m (sqS t l) = some (.v .f (.int (l.length : Int))) := fun m => by
      cases t
      · show some (Rv.v .f (.int ((l.map sD).length : Int))) = _
        rw [List.length_map]
      · show some (Rv.v .f (.int ((l.map sD).length : Int))) = _
        rw [List.length_map]
    have q : decide ((st : Int) < (l.length : Int)) = true := decide_eq_true (by omega)
    refine ⟨?_, ?_⟩
    · unfold seTest c_sections
      dsimp only
      repeat (first | simp -implicitDefEqProofs only [hv, hlen, q] | walk_at "ev")
    · have hsl : ∃ m, slR (if t = true then .f else .b) (sqS t l) (some (some (st : Int))) (some none) = some (.v m (sqS t (l.drop st))) := by
        have ec : cutD (l.map sD) (some (st : Int)) none = (l.drop st).map sD := by
          rw [cut_drop (by rw [List.length_map]; omega), List.map_drop]
        cases t
        · refine ⟨.n, ?_⟩
          show slR .b (.lst (l.map sD)) (some (some (st : Int))) (some none) = some (.v .n (.lst ((l.drop st).map sD)))
          rw [slR_lb immA_s, ec]
        · refine ⟨.f, ?_⟩
          show slR .f (.tup (l.map sD)) (some (some (st : Int))) (some none) = some (.v .f (.tup ((l.drop st).map sD)))
          rw [slR_tf, ec]
      obtain ⟨ms, hsl⟩ := hsl
      obtain ⟨f', rfl⟩ : ∃ f', f = f' + 1 := ⟨f - 1, by omega⟩
      have hsec : secs l (f' + 1) st = bst l st :: secs l f' (bst l st).e := if_pos hs
      obtain ⟨r1, r2⟩ := sect_row h hs
      obtain ⟨w1, w2, w3⟩ := b0_e h hs
      have f1 := firstF (k := k) (t := t) (okk_drop h st) (by rw [List.length_drop]; omega)
      have hap : (found.map rwD).length < 100000 := by rw [List.length_map]; omega
      have hcast : (st : Int) + ((b0 (l.drop st)).e : Int) = (((bst l st).e : Nat) : Int) := r2.symm
      refine ⟨[s0, .own ((found ++ [bst l st]).map rwD), .dat (.int (((bst l st).e : Nat) : Int)), .dat (.int ((b0 (l.drop st)).e : Int)), .dat (.int (b0 (l.drop st)).W), .dat (.int (b0 (l.drop st)).H)], .inl ?_, l.length - (bst l st).e, by omega, f', (bst l st).e, found ++ [bst l st], _, _, _, rfl, ?_, by omega, rfl, ?_⟩
      · rw [List.map_append, List.map_singleton, r1, ← hcast]
        clear r1 r2 hcast hsec ht
        generalize b0 (l.drop st) = b at *
        unfold seBody c_sections
        dsimp only
        repeat (first | simp -implicitDefEqProofs only [hv, hsl, f1, appR_v cf_f hap] | walk_at "ev")
      · rw [← ht, hsec, List.append_assoc]; rfl
      · rw [List.length_append, List.length_singleton]; omega
  · subst e
    have hlen : ∀ (m : Md), b1D .len m (sqS t l) = some (.v .f (.int (l.length : Int))) := fun m => by
      cases t
      · show some (Rv.v .f (.int ((l.map sD).length : Int))) = _
        rw [List.length_map]
      · show some (Rv.v .f (.int ((l.map sD).length : Int))) = _
        rw [List.length_map]
    have q : decide ((st : Int) < (l.length : Int)) = false := decide_eq_false (by omega)
    unfold seTest c_sections
    dsimp only
    repeat (first | simp -implicitDefEqProofs only [hv, hlen, q] | walk_at "ev")
theorem sectF {k : Nat} {t : Bool} {l : List (Int × Int)} (h : Okk M60 l) (hl : l.length ≤ 24) : evF T (k + 3) "sections" [sqS t l] = some (.ok .n (.lst ((secs l l.length 0).map rwD))) := by
  rw [v_sections, evD_run (by rfl)]
  cases t
  · show (evSs (orc T (k + 2)) c_sections [.bor (.lst (l.map sD)), .un, .un, .un, .un, .un]).bind fin = _
    unfold c_sections
    walk_at "ev"
    refine for_fin (sect_loop (k := k) (m := .b) (t := false) (s0 := .bor (.lst (l.map sD))) h hl rfl) (fun ρ ⟨s2, s3, s4, s5, e⟩ => ?_)
    subst e
    walk_at "ev"
  · have e0 : slot0 (.tup (l.map sD)) = .dat (.tup (l.map sD)) := by rw [slot0_tup, if_pos immA_s]
    show (evSs (orc T (k + 2)) c_sections [slot0 (.tup (l.map sD)), .un, .un, .un, .un, .un]).bind fin = _
    rw [e0]
    unfold c_sections
    walk_at "ev"
    refine for_fin (sect_loop (k := k) (m := .f) (t := true) (s0 := .dat (.tup (l.map sD))) h hl rfl) (fun ρ ⟨s2, s3, s4, s5, e⟩ => ?_)
    subst e
    walk_at "ev"

end QL

end
section
set_option maxRecDepth 100000
set_option maxHeartbeats 4000000
namespace QL
open PySem PySem.Spec PyProof.Rows L2 Evl
local macro_rules | `(tactic| walk_at "ev") => `(tactic| simp -implicitDefEqProofs only [varS_ownT, retV_ownT, nrm_dit, imm_dit, slotV_nt, frz_ownT, slot0_dit, isNon_dit, ev_dnT, abs_int, gcd_ii, s_whl, s_asg2, asg2R_i, s_par, parR_v, esc_slc, esc_dnT, srcEsc_slc, srcEsc_env, enR_lf, enR_lb, enR_tf, enR_tb, partD_non, partD_int, partD_var, partD_bin, partD_ix, partD_neg, partD_b1, slR_lf, slR_lo, slR_tf, ev_var, ev_int, ev_bl, ev_str, ev_non, ev_bin, ev_cmp, ev_chain, ev_neg, ev_not, ev_and, ev_or, ev_ife, ev_ix, ev_tup, ev_lst, ev_call, orc_call, ev_slc, ev_fld, ev_meth, src_en, s_raise, s_setf, ret_fld, ret_meth, ret_slc, ev_b1, ev_b2, ev_isi, ev_lc, ev_lc2, evs_nil, evs_cons, src_r1', src_r2', src_seq', t_yes', t_not', t_and', t_or', t_val', ss_nil, ss_cons, s_set, s_pat, s_seti, s_app, s_ins, s_ife, s_for, s_retv, s_expr, s_pass, s_brk, s_cont, varS_dat, varS_bor, varS_own, varS_ownD, nrm_int, nrm_bl, nrm_str, nrm_non, nrm_scr, nrm_obj, nrm_lst, nrm_dic, nrm_f, nrm_tup, imm_int, imm_bl, imm_str, imm_non, imm_scr, imm_lst, imm_tup, imm_dic, imm_obj, immA_nil, immA_cons, op2_vv, bin_add, bin_sub, cmp_lt, cmp_le, cmp_gt, cmp_ge, cmp_eq, cmp_ne, cmp_eqb, cmp_neb, cmp_isb, cmp_isnb, cmp_eqs, cmp_nes, isNon_non, isNon_int, isNon_bl, isNon_lst, isNon_tup, isNon_str, isNon_obj, isNon_dic, cmp_is, cmp_isn, ixQ_some, ix_lst, ix_tup, ix_scr, ixm_f, ixm_n, ixm_o, ixm_b, ixm_h, len_lst, len_tup, len_scr, int_int, max_ii, min_ii, neg_i, not_b, bv_v1, list_lst, list_tup, tuple_lst, tuple_tup, itF_f, itF_n, itF_o, itF_b, itF_h, cf_f, cf_n, cf_b, cf_h, cf_o, allCf_nil, allCf_cons, tst_v, truth_bl, truth_lst, andT_t, andT_f, orT_t, orT_f, andR_t, andR_f, orR_f, orR_t, blV_b, ifE_t, ifE_f, ifS_t, ifS_f, ifL_t, ifL_f, elt1_v, lcB_s, lcR_v, lcR2_v, thenS_nx, thenS_rt, thenS_bk, thenS_ct, setR_v, setQ_s, slotV_f, slotV_n, slotV_nd, slotV_bl, slotV_bt, patR_v, setiR_v, appR_v, insR_v, forR_v, retV_own, retV_dat, retV_bor, retV_ownD, retR_v, retR_x, setR_x, patR_x, exprR_x, thenS_xs, fin_xs, exprR_v, ret_tup, esc_tup, ret_lst, esc_lst, ret_bin, esc_bin, ret_cmp, esc_cmp, ret_neg, esc_neg, ret_not, esc_not, ret_and, esc_and, ret_or, esc_or, ret_ix, esc_ix, ret_b1, esc_b1, ret_b2, esc_b2, ret_isi, esc_isi, ret_call, esc_call, ret_int, esc_int, ret_bl, esc_bl, ret_ife, esc_ife, ret_str, esc_str, ret_chain, esc_chain, ret_non, esc_non, ret_lc, esc_lc, ret_lc2, esc_lc2, esc_var, escs_nil, escs_cons, frzA_nil, frzA_cons, frz_dat, frz_bor, frz_own, frz_ownD, frz_un, srcEsc_r1, srcEsc_r2, srcEsc_var, srcEsc_call, srcEsc_lst, srcEsc_tup, srcEsc_ix, srcEsc_b1, srcEsc_bin, callR_v, callQ_f, callQ_n, callQ_x, consR_vv, tupR_v, lstR_v, lstR_h, r1R_i, r2R_i, seqR_v, srcD_scr, srcD_lf, srcD_tf, srcD_lb, srcD_tb, srcD_lo, srcD_to, srcD_lh, srcD_th, srcD_ln, fin_f, fin_n, fin_nx, slot0_int, slot0_bl, slot0_str, slot0_non, slot0_scr, slot0_lst, slot0_tup, slot0_obj, slot0_dic, bind_nm, slotOf_f, slotOf_int, slotOf_bl, bind_tp, binds_nil, binds_cons, wipe_nil, wipe_cons, isi_int_int, isi_int_bool, isi_int_str, isi_int_list, isi_int_tuple, isi_int_dict, isi_bool_int, isi_bool_bool, isi_bool_str, isi_bool_list, isi_bool_tuple, isi_bool_dict, isi_list_int, isi_list_bool, isi_list_str, isi_list_list, isi_list_tuple, isi_list_dict, isi_tuple_int, isi_tuple_bool, isi_tuple_str, isi_tuple_list, isi_tuple_tuple, isi_tuple_dict, isi_NoneType_int, isi_NoneType_bool, isi_NoneType_str, isi_NoneType_list, isi_NoneType_tuple, isi_NoneType_dict, isi_str_int, isi_str_bool, isi_str_str, isi_str_list, isi_str_tuple, isi_str_dict, isi_dict_int, isi_dict_bool, isi_dict_str, isi_dict_list, isi_dict_tuple, isi_dict_dict, Option.map_some, Option.map_none, Option.bind_some, Option.bind_none, List.getElem?_cons_zero, List.getElem?_cons_succ, List.set_cons_zero, List.set_cons_succ, List.getD_cons_zero, List.getD_cons_succ, List.map_cons, List.map_nil, List.length_cons, List.length_nil, List.nil_append, List.cons_append, List.append_nil, Bool.not_true, Bool.not_false, Bool.and_true, Bool.true_and, Bool.and_false, Bool.false_and, Bool.or_true, Bool.true_or, Bool.or_false, Bool.false_or, reduceIte, if_true, if_false, Bool.false_eq_true, decide_true, decide_false, reduceCtorEq, and_true, true_and, and_self, Nat.reduceAdd, Nat.reduceLeDiff, Nat.reduceLT, Nat.reduceSub, Nat.reduceEqDiff, List.isEmpty_cons, List.isEmpty_nil, not_true_eq_false, not_false_eq_true, bin_mul, bin_fdiv, bin_mod, bin_pow, Int.reduceLT, Int.reduceLE, Int.reduceNeg, Nat.reducePow, Int.reducePow, Int.reduceToNat])
local macro_rules | `(tactic| walk_at "evs") => `(tactic| simp -implicitDefEqProofs only [*, varS_ownT, retV_ownT, nrm_dit, imm_dit, slotV_nt, frz_ownT, slot0_dit, isNon_dit, ev_dnT, abs_int, gcd_ii, s_whl, s_asg2, asg2R_i, s_par, parR_v, esc_slc, esc_dnT, srcEsc_slc, srcEsc_env, enR_lf, enR_lb, enR_tf, enR_tb, partD_non, partD_int, partD_var, partD_bin, partD_ix, partD_neg, partD_b1, slR_lf, slR_lo, slR_tf, ev_var, ev_int, ev_bl, ev_str, ev_non, ev_bin, ev_cmp, ev_chain, ev_neg, ev_not, ev_and, ev_or, ev_ife, ev_ix, ev_tup, ev_lst, ev_call, orc_call, ev_slc, ev_fld, ev_meth, src_en, s_raise, s_setf, ret_fld, ret_meth, ret_slc, ev_b1, ev_b2, ev_isi, ev_lc, ev_lc2, evs_nil, evs_cons, src_r1', src_r2', src_seq', t_yes', t_not', t_and', t_or', t_val', ss_nil, ss_cons, s_set, s_pat, s_seti, s_app, s_ins, s_ife, s_for, s_retv, s_expr, s_pass, s_brk, s_cont, varS_dat, varS_bor, varS_own, varS_ownD, nrm_int, nrm_bl, nrm_str, nrm_non, nrm_scr, nrm_obj, nrm_lst, nrm_dic, nrm_f, nrm_tup, imm_int, imm_bl, imm_str, imm_non, imm_scr, imm_lst, imm_tup, imm_dic, imm_obj, immA_nil, immA_cons, op2_vv, bin_add, bin_sub, cmp_lt, cmp_le, cmp_gt, cmp_ge, cmp_eq, cmp_ne, cmp_eqb, cmp_neb, cmp_isb, cmp_isnb, cmp_eqs, cmp_nes, isNon_non, isNon_int, isNon_bl, isNon_lst, isNon_tup, isNon_str, isNon_obj, isNon_dic, cmp_is, cmp_isn, ixQ_some, ix_lst, ix_tup, ix_scr, ixm_f, ixm_n, ixm_o, ixm_b, ixm_h, len_lst, len_tup, len_scr, int_int, max_ii, min_ii, neg_i, not_b, bv_v1, list_lst, list_tup, tuple_lst, tuple_tup, itF_f, itF_n, itF_o, itF_b, itF_h, cf_f, cf_n, cf_b, cf_h, cf_o, allCf_nil, allCf_cons, tst_v, truth_bl, truth_lst, andT_t, andT_f, orT_t, orT_f, andR_t, andR_f, orR_f, orR_t, blV_b, ifE_t, ifE_f, ifS_t, ifS_f, ifL_t, ifL_f, elt1_v, lcB_s, lcR_v, lcR2_v, thenS_nx, thenS_rt, thenS_bk, thenS_ct, setR_v, setQ_s, slotV_f, slotV_n, slotV_nd, slotV_bl, slotV_bt, patR_v, setiR_v, appR_v, insR_v, forR_v, retV_own, retV_dat, retV_bor, retV_ownD, retR_v, retR_x, setR_x, patR_x, exprR_x, thenS_xs, fin_xs, exprR_v, ret_tup, esc_tup, ret_lst, esc_lst, ret_bin, esc_bin, ret_cmp, esc_cmp, ret_neg, esc_neg, ret_not, esc_not, ret_and, esc_and, ret_or, esc_or, ret_ix, esc_ix, ret_b1, esc_b1, ret_b2, esc_b2, ret_isi, esc_isi, ret_call, esc_call, ret_int, esc_int, ret_bl, esc_bl, ret_ife, esc_ife, ret_str, esc_str, ret_chain, esc_chain, ret_non, esc_non, ret_lc, esc_lc, ret_lc2, esc_lc2, esc_var, escs_nil, escs_cons, frzA_nil, frzA_cons, frz_dat, frz_bor, frz_own, frz_ownD, frz_un, srcEsc_r1, srcEsc_r2, srcEsc_var, srcEsc_call, srcEsc_lst, srcEsc_tup, srcEsc_ix, srcEsc_b1, srcEsc_bin, callR_v, callQ_f, callQ_n, callQ_x, consR_vv, tupR_v, lstR_v, lstR_h, r1R_i, r2R_i, seqR_v, srcD_scr, srcD_lf, srcD_tf, srcD_lb, srcD_tb, srcD_lo, srcD_to, srcD_lh, srcD_th, srcD_ln, fin_f, fin_n, fin_nx, slot0_int, slot0_bl, slot0_str, slot0_non, slot0_scr, slot0_lst, slot0_tup, slot0_obj, slot0_dic, bind_nm, slotOf_f, slotOf_int, slotOf_bl, bind_tp, binds_nil, binds_cons, wipe_nil, wipe_cons, isi_int_int, isi_int_bool, isi_int_str, isi_int_list, isi_int_tuple, isi_int_dict, isi_bool_int, isi_bool_bool, isi_bool_str, isi_bool_list, isi_bool_tuple, isi_bool_dict, isi_list_int, isi_list_bool, isi_list_str, isi_list_list, isi_list_tuple, isi_list_dict, isi_tuple_int, isi_tuple_bool, isi_tuple_str, isi_tuple_list, isi_tuple_tuple, isi_tuple_dict, isi_NoneType_int, isi_NoneType_bool, isi_NoneType_str, isi_NoneType_list, isi_NoneType_tuple, isi_NoneType_dict, isi_str_int, isi_str_bool, isi_str_str, isi_str_list, isi_str_tuple, isi_str_dict, isi_dict_int, isi_dict_bool, isi_dict_str, isi_dict_list, isi_dict_tuple, isi_dict_dict, Option.map_some, Option.map_none, Option.bind_some, Option.bind_none, List.getElem?_cons_zero, List.getElem?_cons_succ, List.set_cons_zero, List.set_cons_succ, List.getD_cons_zero, List.getD_cons_succ, List.map_cons, List.map_nil, List.length_cons, List.length_nil, List.nil_append, List.cons_append, List.append_nil, Bool.not_true, Bool.not_false, Bool.and_true, Bool.true_and, Bool.and_false, Bool.false_and, Bool.or_true, Bool.true_or, Bool.or_false, Bool.false_or, reduceIte, if_true, if_false, Bool.false_eq_true, decide_true, decide_false, reduceCtorEq, and_true, true_and, and_self, Nat.reduceAdd, Nat.reduceLeDiff, Nat.reduceLT, Nat.reduceSub, Nat.reduceEqDiff, List.isEmpty_cons, List.isEmpty_nil, not_true_eq_false, not_false_eq_true, bin_mul, bin_fdiv, bin_mod, bin_pow, Int.reduceLT, Int.reduceLE, Int.reduceNeg, Nat.reducePow, Int.reducePow, Int.reduceToNat])
theorem okk_take {M : Int} {l : List (Int × Int)} (h : Okk M l) (n : Nat) : Okk M (l.take n) := fun x hx => h x (List.mem_of_mem_take hx)
theorem beginF {k s : Nat} {l : List (Int × Int)} (hl : l.length ≤ 24) (hs : s ≤ l.length) : evF T (k + 1) "_law_beginnings" [.lst (l.map sD), .int (s : Int)] = some (.ok .n (.lst ((bg s s 0 0 (l.drop s)).map rwD))) := by
  rw [v__law_beginnings, evD_run (by rfl)]
  show (evSs (orc T k) c__law_beginnings [.bor (.lst (l.map sD)), .dat (.int (s : Int)), .un, .un, .un, .un]).bind fin = _
  unfold c__law_beginnings
  have ll : (l.map sD).length = l.length := List.length_map _
  have lim : (-100000 : Int) ≤ (l.length : Int) ∧ (l.length : Int) ≤ 100000 ∧ (-100000 : Int) ≤ (s : Int) ∧ (s : Int) ≤ 100000 := by omega
  have tn : ((l.length : Int) - (s : Int)).toNat = l.length - s := by omega
  repeat (first | simp -implicitDefEqProofs only [ll, lim, tn] | walk_at "ev")
  refine rng_fin (fun j ρ => ∃ s5, ρ = [.bor (.lst (l.map sD)), .dat (.int (s : Int)), .own ((bg s s 0 0 ((l.drop s).take j)).map rwD), .dat (.int (sW ((l.drop s).take j))), .dat (.int (sH ((l.drop s).take j))), s5]) ⟨_, rfl⟩ (fun j ρ hj ⟨s5, e⟩ => ?_) (fun ρ ⟨s5, e⟩ => ?_)
  · subst e
    have hx : s + j < l.length := by omega
    have ea : (s : Int) + (j : Int) = ((s + j : Nat) : Int) := by omega
    have ga : atI (l.map sD) ((s + j : Nat) : Int) = some (sD l[s + j]) := atI_map (List.getElem?_eq_getElem hx)
    have et : (l.drop s).take (j + 1) = (l.drop s).take j ++ [l[s + j]] := by
      rw [List.take_succ, List.getElem?_drop, List.getElem?_eq_getElem hx]; rfl
    have elen : ((l.drop s).take j).length = j := by rw [List.length_take, List.length_drop]; omega
    have hap : ((bg s s 0 0 ((l.drop s).take j)).map rwD).length < 100000 := by rw [List.length_map, bg_len, elen]; omega
    have e1 : sW ((l.drop s).take (j + 1)) = sW ((l.drop s).take j) + l[s + j].2 := by rw [et]; simp [sW]
    have e2 : sH ((l.drop s).take (j + 1)) = sH ((l.drop s).take j) + l[s + j].1 := by rw [et]; simp [sH]
    have e3 : (bg s s 0 0 ((l.drop s).take (j + 1))).map rwD = (bg s s 0 0 ((l.drop s).take j)).map rwD ++ [.tup [.int (s : Int), .int (((s + j : Nat) : Int) + 1), .int (sW ((l.drop s).take j) + l[s + j].2), .int (sH ((l.drop s).take j) + l[s + j].1)]] := by
      rw [et, bg_app, List.map_append, List.map_singleton, elen, Int.zero_add, Int.zero_add]
      rfl
    rw [e1, e2, e3]
    have hd : sD l[s + j] = .tup [.int l[s + j].1, .int l[s + j].2] := rfl
    generalize l[s + j] = x at *
    repeat (first | simp -implicitDefEqProofs only [ea, ga, hd, at20, at21, appR_v cf_f hap] | walk_at "ev")
    rw [goes_nx]
    exact ⟨_, rfl⟩
  · subst e
    rw [List.take_of_length_le (by rw [List.length_drop]; exact Nat.le_refl _)]
    walk_at "ev"
theorem head0 : ∀ {P : List Row} (h : P ≠ []), P[0]? = some (P.head h)
  | [], h => absurd rfl h
  | _ :: _, _ => rfl
theorem bestF {k s : Nat} {l : List (Int × Int)} (h : Okk M60 l) (hl : l.length ≤ 24) (hs : s < l.length) : evF T (k + 1) "_law_longest_best" [.lst ((bg s s 0 0 (l.drop s)).map rwD)] = some (.ok .f (rwD (bst l s))) := by
  have hlast := bst_last M60_nn h hs
  have hne := bg_ne (s := s) (k := s) (W := 0) (H := 0) (drop_ne hs)
  have hlen : (bg s s 0 0 (l.drop s)).length ≤ 24 := by rw [bg_len, List.length_drop]; omega
  have hbd : ∀ y ∈ bg s s 0 0 (l.drop s), 0 ≤ y.W ∧ y.W ≤ 100000000000000000000000000000000000000000000000000000000000000 ∧ 0 ≤ y.H ∧ y.H ≤ 100000000000000000000000000000000000000000000000000000000000000 := fun y hy => by
    have := bg_mem M60_nn _ _ _ _ (okk_drop h s) (Int.le_refl 0) (Int.le_refl 0) y hy
    have := len_M (p := l.drop s) (by rw [List.length_drop]; omega)
    omega
  generalize bg s s 0 0 (l.drop s) = P at *
  rw [← lb_last hlast (b := P.head hne)]
  rw [v__law_longest_best, evD_run (by rfl)]
  show (evSs (orc T k) c__law_longest_best [.bor (.lst (P.map rwD)), .un, .un, .un, .un]).bind fin = _
  unfold c__law_longest_best
  have g0 : atI (P.map rwD) 0 = some (rwD (P.head hne)) := by
    have := atI_map (e := rwD) (xs := P) (k := 0) (x := P.head hne) (head0 hne)
    exact this
  have im : ∀ (m : Md) (x : Row), nrm m (rwD x) = .f := fun m x => rfl
  generalize P.head hne = p0 at *
  repeat (first | simp -implicitDefEqProofs only [g0, im] | walk_at "ev")
  refine seq_fin (s := fun x => .dat (rwD x)) (fun p ρ => ∃ s2 s3 s4, ρ = [.bor (.lst (P.map rwD)), .dat (rwD (lbB P p0 p)), s2, s3, s4]) ⟨_, _, _, rfl⟩ (fun x _ => slotOf_imm imm_r) (fun p x ρ hx hp ⟨s2, s3, s4, e⟩ => ?_) (fun ρ ⟨s2, s3, s4, e⟩ => ?_)
  · subst e
    have hx2 := hbd x hx
    walk_at "ev"
    rw [lc_seqF (v := fun y => (Md.f, rwD y)) (p := fun y => decide (x.W * y.H < y.W * x.H)) (fun y hy => by
      have hy2 := hbd y hy
      have m1 := mulS (m1 := .f) (m2 := .f) (a := y.W) (b := x.H) (by omega) (by omega) (by omega) (by omega)
      have m2 := mulS (m1 := .f) (m2 := .f) (a := x.W) (b := y.H) (by omega) (by omega) (by omega) (by omega)
      have bn : ∀ (m : Md) (ρ : List Sl), bindP (.nm 4) ρ (.one m (rwD y)) = some (ρ.set 4 (.dat (rwD y))) := fun m ρ => by rw [bind_nm, slotOf_imm imm_r]; rfl
      have er : ∀ x, rwD x = .tup [.int x.s, .int x.e, .int x.W, .int x.H] := fun _ => rfl
      have tt : ∀ (f : B1) (m m2 : Md) (i : Int) (z : Row), ixV m (rwD z) m2 (.int i) = ixQ m (atI [.int z.s, .int z.e, .int z.W, .int z.H] i) := fun f m m2 i z => ix_tup
      unfold lcBody
      rw [bn]
      repeat (first | simp -implicitDefEqProofs only [ix_tup, er, at42, at43, m1, m2] | walk_at "ev")
      cases hq : decide (x.W * y.H < y.W * x.H) <;> repeat (first | simp -implicitDefEqProofs only [ix_tup, er, at42, at43, m1, m2] | walk_at "ev"))]
    have hf : (P.filter fun y => decide (x.W * y.H < y.W * x.H)).length ≤ P.length := List.length_filter_le _ _
    rw [Option.bind_some, lcD_map (by omega) (fun x _ => cf_f)]
    have lb : lbB P p0 (p ++ [x]) = lbS P (lbB P p0 p) x := by rw [lb_app]; rfl
    rw [lb]
    unfold lbS
    have lm : ((P.filter fun y => decide (x.W * y.H < y.W * x.H)).map fun y => rwD y).length = (P.filter fun y => decide (x.W * y.H < y.W * x.H)).length := List.length_map _
    generalize hF : P.filter (fun y => decide (x.W * y.H < y.W * x.H)) = F at *
    by_cases hz : F.length = 0
    · have q : decide (((F.length : Nat) : Int) = 0) = true := decide_eq_true (by omega)
      rw [if_pos hz]
      repeat (first | simp -implicitDefEqProofs only [lm, q] | walk_at "ev")
      rw [goes_nx]
      exact ⟨_, _, _, rfl⟩
    · have q : decide (((F.length : Nat) : Int) = 0) = false := decide_eq_false (by omega)
      rw [if_neg hz]
      repeat (first | simp -implicitDefEqProofs only [lm, q] | walk_at "ev")
      rw [goes_nx]
      exact ⟨_, _, _, rfl⟩
  · subst e
    walk_at "ev"
theorem lsectF {k : Nat} {l : List (Int × Int)} (h : Okk M60 l) (hl : l.length ≤ 24) : evF T (k + 2) "_law_sections" [.lst (l.map sD)] = some (.ok .n (.lst ((secs l l.length 0).map rwD))) := by
  rw [v__law_sections, evD_run (by rfl)]
  show (evSs (orc T (k + 1)) c__law_sections [.bor (.lst (l.map sD)), .un, .un, .un]).bind fin = _
  unfold c__law_sections
  have ll : (l.map sD).length = l.length := List.length_map _
  have lim : (-100000 : Int) ≤ (l.length : Int) ∧ (l.length : Int) ≤ 100000 := by omega
  have tn : ((l.length : Nat) : Int).toNat = l.length := Int.toNat_natCast _
  repeat (first | simp -implicitDefEqProofs only [ll, lim, tn] | walk_at "ev")
  refine rng_fin (fun j ρ => ∃ (f st : Nat) (found : List Row) (s3 : Sl), ρ = [.bor (.lst (l.map sD)), .own (found.map rwD), .dat (.int (st : Int)), s3] ∧ found ++ secs l f st = secs l l.length 0 ∧ l.length - st ≤ f ∧ l.length - st ≤ l.length - j ∧ found.length ≤ j) ⟨l.length, 0, [], _, rfl, rfl, by omega, by omega, by simp⟩ (fun j ρ hj ⟨f, st, found, s3, e, ht, hf, hr, hfl⟩ => ?_) (fun ρ ⟨f, st, found, s3, e, ht, hf, hr, hfl⟩ => ?_)
  · subst e
    by_cases hs : st < l.length
    · have q : decide ((st : Int) < (l.length : Int)) = true := decide_eq_true (by omega)
      obtain ⟨f', rfl⟩ : ∃ f', f = f' + 1 := ⟨f - 1, by omega⟩
      have hsec : secs l (f' + 1) st = bst l st :: secs l f' (bst l st).e := if_pos hs
      obtain ⟨_, b2, b3, _⟩ := bst_ok M60_nn h hs
      have f1 := beginF (k := k) (s := st) hl (by omega)
      have f2 := bestF (k := k) h hl hs
      have hap : (found.map rwD).length < 100000 := by rw [List.length_map]; omega
      have gl : atI (found.map rwD ++ [rwD (bst l st)]) (-1) = some (rwD (bst l st)) := by
        unfold atI ixN
        have e0 : (found.map rwD ++ [rwD (bst l st)]).length = found.length + 1 := by simp
        rw [e0, if_neg (by omega), if_pos (by omega)]
        have e : (-1 + ((found.length + 1 : Nat) : Int)).toNat = found.length := by omega
        simp only [Option.bind_some, e]
        rw [List.getElem?_append_right (by simp)]
        simp
      have er : rwD (bst l st) = .tup [.int (bst l st).s, .int (bst l st).e, .int (bst l st).W, .int (bst l st).H] := rfl
      have im : ∀ (m : Md), nrm m (rwD (bst l st)) = .f := fun m => rfl
      have tx : ∀ m m2, ixV m (rwD (bst l st)) m2 (.int 1) = some (.v .f (.int (((bst l st).e : Nat) : Int))) := fun m m2 => by rw [er, ix_tup, at41]; rfl
      have ht2 : (found ++ [bst l st]) ++ secs l f' (bst l st).e = secs l l.length 0 := by rw [← ht, hsec, List.append_assoc]; rfl
      have em : found.map rwD ++ [rwD (bst l st)] = (found ++ [bst l st]).map rwD := by simp
      clear er
      generalize bst l st = b at *
      repeat (first | simp -implicitDefEqProofs only [ll, q, f1, f2, appR_v cf_f hap, gl, im, tx] | walk_at "ev")
      rw [goes_nx, em]
      exact ⟨f', b.e, found ++ [b], _, rfl, ht2, by omega, by omega, by rw [List.length_append, List.length_singleton]; omega⟩
    · have q : decide ((st : Int) < (l.length : Int)) = false := decide_eq_false (by omega)
      repeat (first | simp -implicitDefEqProofs only [ll, q] | walk_at "ev")
      rw [goes_nx]
      exact ⟨f, st, found, _, rfl, ht, by omega, by omega, by omega⟩
  · subst e
    have e2 : secs l f st = [] := by
      cases f with
      | zero => rfl
      | succ f => show (if st < l.length then _ else _) = _; rw [if_neg (by omega)]
    rw [e2, List.append_nil] at ht
    rw [ht]
    walk_at "ev"

end QL

end
section
set_option maxRecDepth 100000
set_option maxHeartbeats 4000000
namespace QL
open PySem PySem.Spec PyProof.Rows L2 Evl
local macro_rules | `(tactic| walk_at "ev") => `(tactic| simp -implicitDefEqProofs only [varS_ownT, retV_ownT, nrm_dit, imm_dit, slotV_nt, frz_ownT, slot0_dit, isNon_dit, ev_dnT, abs_int, gcd_ii, s_whl, s_asg2, asg2R_i, s_par, parR_v, esc_slc, esc_dnT, srcEsc_slc, srcEsc_env, enR_lf, enR_lb, enR_tf, enR_tb, partD_non, partD_int, partD_var, partD_bin, partD_ix, partD_neg, partD_b1, slR_lf, slR_lo, slR_tf, ev_var, ev_int, ev_bl, ev_str, ev_non, ev_bin, ev_cmp, ev_chain, ev_neg, ev_not, ev_and, ev_or, ev_ife, ev_ix, ev_tup, ev_lst, ev_call, orc_call, ev_slc, ev_fld, ev_meth, src_en, s_raise, s_setf, ret_fld, ret_meth, ret_slc, ev_b1, ev_b2, ev_isi, ev_lc, ev_lc2, evs_nil, evs_cons, src_r1', src_r2', src_seq', t_yes', t_not', t_and', t_or', t_val', ss_nil, ss_cons, s_set, s_pat, s_seti, s_app, s_ins, s_ife, s_for, s_retv, s_expr, s_pass, s_brk, s_cont, varS_dat, varS_bor, varS_own, varS_ownD, nrm_int, nrm_bl, nrm_str, nrm_non, nrm_scr, nrm_obj, nrm_lst, nrm_dic, nrm_f, nrm_tup, imm_int, imm_bl, imm_str, imm_non, imm_scr, imm_lst, imm_tup, imm_dic, imm_obj, immA_nil, immA_cons, op2_vv, bin_add, bin_sub, cmp_lt, cmp_le, cmp_gt, cmp_ge, cmp_eq, cmp_ne, cmp_eqb, cmp_neb, cmp_isb, cmp_isnb, cmp_eqs, cmp_nes, isNon_non, isNon_int, isNon_bl, isNon_lst, isNon_tup, isNon_str, isNon_obj, isNon_dic, cmp_is, cmp_isn, ixQ_some, ix_lst, ix_tup, ix_scr, ixm_f, ixm_n, ixm_o, ixm_b, ixm_h, len_lst, len_tup, len_scr, int_int, max_ii, min_ii, neg_i, not_b, bv_v1, list_lst, list_tup, tuple_lst, tuple_tup, itF_f, itF_n, itF_o, itF_b, itF_h, cf_f, cf_n, cf_b, cf_h, cf_o, allCf_nil, allCf_cons, tst_v, truth_bl, truth_lst, andT_t, andT_f, orT_t, orT_f, andR_t, andR_f, orR_f, orR_t, blV_b, ifE_t, ifE_f, ifS_t, ifS_f, ifL_t, ifL_f, elt1_v, lcB_s, lcR_v, lcR2_v, thenS_nx, thenS_rt, thenS_bk, thenS_ct, setR_v, setQ_s, slotV_f, slotV_n, slotV_nd, slotV_bl, slotV_bt, patR_v, setiR_v, appR_v, insR_v, forR_v, retV_own, retV_dat, retV_bor, retV_ownD, retR_v, retR_x, setR_x, patR_x, exprR_x, thenS_xs, fin_xs, exprR_v, ret_tup, esc_tup, ret_lst, esc_lst, ret_bin, esc_bin, ret_cmp, esc_cmp, ret_neg, esc_neg, ret_not, esc_not, ret_and, esc_and, ret_or, esc_or, ret_ix, esc_ix, ret_b1, esc_b1, ret_b2, esc_b2, ret_isi, esc_isi, ret_call, esc_call, ret_int, esc_int, ret_bl, esc_bl, ret_ife, esc_ife, ret_str, esc_str, ret_chain, esc_chain, ret_non, esc_non, ret_lc, esc_lc, ret_lc2, esc_lc2, esc_var, escs_nil, escs_cons, frzA_nil, frzA_cons, frz_dat, frz_bor, frz_own, frz_ownD, frz_un, srcEsc_r1, srcEsc_r2, srcEsc_var, srcEsc_call, srcEsc_lst, srcEsc_tup, srcEsc_ix, srcEsc_b1, srcEsc_bin, callR_v, callQ_f, callQ_n, callQ_x, consR_vv, tupR_v, lstR_v, lstR_h, r1R_i, r2R_i, seqR_v, srcD_scr, srcD_lf, srcD_tf, srcD_lb, srcD_tb, srcD_lo, srcD_to, srcD_lh, srcD_th, srcD_ln, fin_f, fin_n, fin_nx, slot0_int, slot0_bl, slot0_str, slot0_non, slot0_scr, slot0_lst, slot0_tup, slot0_obj, slot0_dic, bind_nm, slotOf_f, slotOf_int, slotOf_bl, bind_tp, binds_nil, binds_cons, wipe_nil, wipe_cons, isi_int_int, isi_int_bool, isi_int_str, isi_int_list, isi_int_tuple, isi_int_dict, isi_bool_int, isi_bool_bool, isi_bool_str, isi_bool_list, isi_bool_tuple, isi_bool_dict, isi_list_int, isi_list_bool, isi_list_str, isi_list_list, isi_list_tuple, isi_list_dict, isi_tuple_int, isi_tuple_bool, isi_tuple_str, isi_tuple_list, isi_tuple_tuple, isi_tuple_dict, isi_NoneType_int, isi_NoneType_bool, isi_NoneType_str, isi_NoneType_list, isi_NoneType_tuple, isi_NoneType_dict, isi_str_int, isi_str_bool, isi_str_str, isi_str_list, isi_str_tuple, isi_str_dict, isi_dict_int, isi_dict_bool, isi_dict_str, isi_dict_list, isi_dict_tuple, isi_dict_dict, Option.map_some, Option.map_none, Option.bind_some, Option.bind_none, List.getElem?_cons_zero, List.getElem?_cons_succ, List.set_cons_zero, List.set_cons_succ, List.getD_cons_zero, List.getD_cons_succ, List.map_cons, List.map_nil, List.length_cons, List.length_nil, List.nil_append, List.cons_append, List.append_nil, Bool.not_true, Bool.not_false, Bool.and_true, Bool.true_and, Bool.and_false, Bool.false_and, Bool.or_true, Bool.true_or, Bool.or_false, Bool.false_or, reduceIte, if_true, if_false, Bool.false_eq_true, decide_true, decide_false, reduceCtorEq, and_true, true_and, and_self, Nat.reduceAdd, Nat.reduceLeDiff, Nat.reduceLT, Nat.reduceSub, Nat.reduceEqDiff, List.isEmpty_cons, List.isEmpty_nil, not_true_eq_false, not_false_eq_true, bin_mul, bin_fdiv, bin_mod, bin_pow, Int.reduceLT, Int.reduceLE, Int.reduceNeg, Nat.reducePow, Int.reducePow, Int.reduceToNat])
local macro_rules | `(tactic| walk_at "evs") => `(tactic| simp -implicitDefEqProofs only [*, varS_ownT, retV_ownT, nrm_dit, imm_dit, slotV_nt, frz_ownT, slot0_dit, isNon_dit, ev_dnT, abs_int, gcd_ii, s_whl, s_asg2, asg2R_i, s_par, parR_v, esc_slc, esc_dnT, srcEsc_slc, srcEsc_env, enR_lf, enR_lb, enR_tf, enR_tb, partD_non, partD_int, partD_var, partD_bin, partD_ix, partD_neg, partD_b1, slR_lf, slR_lo, slR_tf, ev_var, ev_int, ev_bl, ev_str, ev_non, ev_bin, ev_cmp, ev_chain, ev_neg, ev_not, ev_and, ev_or, ev_ife, ev_ix, ev_tup, ev_lst, ev_call, orc_call, ev_slc, ev_fld, ev_meth, src_en, s_raise, s_setf, ret_fld, ret_meth, ret_slc, ev_b1, ev_b2, ev_isi, ev_lc, ev_lc2, evs_nil, evs_cons, src_r1', src_r2', src_seq', t_yes', t_not', t_and', t_or', t_val', ss_nil, ss_cons, s_set, s_pat, s_seti, s_app, s_ins, s_ife, s_for, s_retv, s_expr, s_pass, s_brk, s_cont, varS_dat, varS_bor, varS_own, varS_ownD, nrm_int, nrm_bl, nrm_str, nrm_non, nrm_scr, nrm_obj, nrm_lst, nrm_dic, nrm_f, nrm_tup, imm_int, imm_bl, imm_str, imm_non, imm_scr, imm_lst, imm_tup, imm_dic, imm_obj, immA_nil, immA_cons, op2_vv, bin_add, bin_sub, cmp_lt, cmp_le, cmp_gt, cmp_ge, cmp_eq, cmp_ne, cmp_eqb, cmp_neb, cmp_isb, cmp_isnb, cmp_eqs, cmp_nes, isNon_non, isNon_int, isNon_bl, isNon_lst, isNon_tup, isNon_str, isNon_obj, isNon_dic, cmp_is, cmp_isn, ixQ_some, ix_lst, ix_tup, ix_scr, ixm_f, ixm_n, ixm_o, ixm_b, ixm_h, len_lst, len_tup, len_scr, int_int, max_ii, min_ii, neg_i, not_b, bv_v1, list_lst, list_tup, tuple_lst, tuple_tup, itF_f, itF_n, itF_o, itF_b, itF_h, cf_f, cf_n, cf_b, cf_h, cf_o, allCf_nil, allCf_cons, tst_v, truth_bl, truth_lst, andT_t, andT_f, orT_t, orT_f, andR_t, andR_f, orR_f, orR_t, blV_b, ifE_t, ifE_f, ifS_t, ifS_f, ifL_t, ifL_f, elt1_v, lcB_s, lcR_v, lcR2_v, thenS_nx, thenS_rt, thenS_bk, thenS_ct, setR_v, setQ_s, slotV_f, slotV_n, slotV_nd, slotV_bl, slotV_bt, patR_v, setiR_v, appR_v, insR_v, forR_v, retV_own, retV_dat, retV_bor, retV_ownD, retR_v, retR_x, setR_x, patR_x, exprR_x, thenS_xs, fin_xs, exprR_v, ret_tup, esc_tup, ret_lst, esc_lst, ret_bin, esc_bin, ret_cmp, esc_cmp, ret_neg, esc_neg, ret_not, esc_not, ret_and, esc_and, ret_or, esc_or, ret_ix, esc_ix, ret_b1, esc_b1, ret_b2, esc_b2, ret_isi, esc_isi, ret_call, esc_call, ret_int, esc_int, ret_bl, esc_bl, ret_ife, esc_ife, ret_str, esc_str, ret_chain, esc_chain, ret_non, esc_non, ret_lc, esc_lc, ret_lc2, esc_lc2, esc_var, escs_nil, escs_cons, frzA_nil, frzA_cons, frz_dat, frz_bor, frz_own, frz_ownD, frz_un, srcEsc_r1, srcEsc_r2, srcEsc_var, srcEsc_call, srcEsc_lst, srcEsc_tup, srcEsc_ix, srcEsc_b1, srcEsc_bin, callR_v, callQ_f, callQ_n, callQ_x, consR_vv, tupR_v, lstR_v, lstR_h, r1R_i, r2R_i, seqR_v, srcD_scr, srcD_lf, srcD_tf, srcD_lb, srcD_tb, srcD_lo, srcD_to, srcD_lh, srcD_th, srcD_ln, fin_f, fin_n, fin_nx, slot0_int, slot0_bl, slot0_str, slot0_non, slot0_scr, slot0_lst, slot0_tup, slot0_obj, slot0_dic, bind_nm, slotOf_f, slotOf_int, slotOf_bl, bind_tp, binds_nil, binds_cons, wipe_nil, wipe_cons, isi_int_int, isi_int_bool, isi_int_str, isi_int_list, isi_int_tuple, isi_int_dict, isi_bool_int, isi_bool_bool, isi_bool_str, isi_bool_list, isi_bool_tuple, isi_bool_dict, isi_list_int, isi_list_bool, isi_list_str, isi_list_list, isi_list_tuple, isi_list_dict, isi_tuple_int, isi_tuple_bool, isi_tuple_str, isi_tuple_list, isi_tuple_tuple, isi_tuple_dict, isi_NoneType_int, isi_NoneType_bool, isi_NoneType_str, isi_NoneType_list, isi_NoneType_tuple, isi_NoneType_dict, isi_str_int, isi_str_bool, isi_str_str, isi_str_list, isi_str_tuple, isi_str_dict, isi_dict_int, isi_dict_bool, isi_dict_str, isi_dict_list, isi_dict_tuple, isi_dict_dict, Option.map_some, Option.map_none, Option.bind_some, Option.bind_none, List.getElem?_cons_zero, List.getElem?_cons_succ, List.set_cons_zero, List.set_cons_succ, List.getD_cons_zero, List.getD_cons_succ, List.map_cons, List.map_nil, List.length_cons, List.length_nil, List.nil_append, List.cons_append, List.append_nil, Bool.not_true, Bool.not_false, Bool.and_true, Bool.true_and, Bool.and_false, Bool.false_and, Bool.or_true, Bool.true_or, Bool.or_false, Bool.false_or, reduceIte, if_true, if_false, Bool.false_eq_true, decide_true, decide_false, reduceCtorEq, and_true, true_and, and_self, Nat.reduceAdd, Nat.reduceLeDiff, Nat.reduceLT, Nat.reduceSub, Nat.reduceEqDiff, List.isEmpty_cons, List.isEmpty_nil, not_true_eq_false, not_false_eq_true, bin_mul, bin_fdiv, bin_mod, bin_pow, Int.reduceLT, Int.reduceLE, Int.reduceNeg, Nat.reducePow, Int.reducePow, Int.reduceToNat])
theorem rightF {k : Nat} {L : List Row} (hl : L.length ≤ 1000) : evF T (k + 2) "_law_right" [.lst (L.map rwD), .lst (L.map rwD)] = some (.ok .f (.bl true)) := by
  rw [v__law_right, evD_run (by rfl)]
  show (evSs (orc T (k + 1)) c__law_right [.bor (.lst (L.map rwD)), .bor (.lst (L.map rwD)), .un, .un, .un]).bind fin = _
  unfold c__law_right
  have ll : (L.map rwD).length = L.length := List.length_map _
  have q : decide (((L.length : Nat) : Int) = ((L.length : Nat) : Int)) = true := decide_eq_true rfl
  have lim : (-100000 : Int) ≤ (L.length : Int) ∧ (L.length : Int) ≤ 100000 := by omega
  have tn : ((L.length : Nat) : Int).toNat = L.length := Int.toNat_natCast _
  repeat (first | simp -implicitDefEqProofs only [ll, q, lim, tn] | walk_at "ev")
  refine rng_to (fun j ρ => ∃ s2 s3 s4, ρ = [.bor (.lst (L.map rwD)), .bor (.lst (L.map rwD)), s2, s3, s4]) ⟨_, _, _, rfl⟩ (fun j ρ hj ⟨s2, s3, s4, e⟩ => ?_) (fun ρ ⟨s2, s3, s4, e⟩ => ?_)
  · subst e
    have z : ∀ j : Nat, (0 : Int) + (j : Int) = (j : Int) := fun _ => Int.zero_add _
    have ga : atI (L.map rwD) (j : Int) = some (rwD L[j]) := atI_map (List.getElem?_eq_getElem hj)
    generalize L[j] = x at *
    have im : ∀ (m : Md), nrm m (rwD x) = .f := fun m => rfl
    have ip : ∀ m, isiV "tuple" m (rwD x) = some (.v .f (.bl true)) := fun m => isi_tuple_tuple
    have le : ∀ m, b1D .len m (rwD x) = some (.v .f (.int 4)) := fun m => rfl
    have q4 : decide ((4 : Int) = 4) = true := by decide
    have key : ∃ ρ', forGo (.nm 4) (evSs (orc T (k + 1)) (match c__law_right with | .cons _ (.cons (.for _ _ (.cons _ (.cons _ (.cons (.for _ _ b) _)))) _) => b | _ => .nil)) (rngIt 0 4) [.bor (.lst (L.map rwD)), .bor (.lst (L.map rwD)), .dat (.int (j : Int)), .dat (rwD x), s4] = some (.nx ρ') ∧ ∃ s4, ρ' = [.bor (.lst (L.map rwD)), .bor (.lst (L.map rwD)), .dat (.int (j : Int)), .dat (rwD x), s4] := by
      refine rng_go (fun i ρ => ∃ s4, ρ = [.bor (.lst (L.map rwD)), .bor (.lst (L.map rwD)), .dat (.int (j : Int)), .dat (rwD x), s4]) ⟨_, rfl⟩ (fun i ρ hi ⟨s4, e⟩ => ?_)
      subst e
      simp only [c__law_right]
      have i1 := fun n => isintF (k := k) (n := n)
      obtain ⟨v, hv⟩ : ∃ v : Int, ∀ m m2, ixV m (rwD x) m2 (.int (i : Int)) = some (.v .f (.int v)) := by
        have er : rwD x = .tup [.int x.s, .int x.e, .int x.W, .int x.H] := rfl
        rw [er]
        obtain rfl | rfl | rfl | rfl : i = 0 ∨ i = 1 ∨ i = 2 ∨ i = 3 := by omega
        · exact ⟨x.s, fun m m2 => by rw [ix_tup]; rfl⟩
        · exact ⟨x.e, fun m m2 => by rw [ix_tup]; rfl⟩
        · exact ⟨x.W, fun m m2 => by rw [ix_tup]; rfl⟩
        · exact ⟨x.H, fun m m2 => by rw [ix_tup]; rfl⟩
      have qv : decide (v = v) = true := decide_eq_true rfl
      repeat (first | simp -implicitDefEqProofs only [z, ga, im, hv, i1, qv] | walk_at "ev")
      rw [goes_nx]
      exact ⟨_, rfl⟩
    obtain ⟨ρ', e1, s4', rfl⟩ := key
    simp only [c__law_right] at e1
    have l4 : (-100000 : Int) ≤ 4 ∧ (4 : Int) ≤ 100000 := by omega
    have t4 : (4 : Int).toNat = 4 := rfl
    repeat (first | simp -implicitDefEqProofs only [z, ga, im, ip, le, q4, l4, t4, e1] | walk_at "ev")
    rw [goesR_nx]
    exact ⟨_, _, _, rfl⟩
  · subst e
    walk_at "ev"
theorem fallsF {k : Nat} {L : List Row} (hl : L.length ≤ 1000) (hf : Flg L) (hb : ∀ y ∈ L, 0 ≤ y.W ∧ y.W ≤ 100000000000000000000000000000000000000000000000000000000000000 ∧ 0 ≤ y.H ∧ y.H ≤ 100000000000000000000000000000000000000000000000000000000000000) : evF T (k + 1) "_law_falls" [.lst (L.map rwD)] = some (.ok .f (.bl true)) := by
  rw [v__law_falls, evD_run (by rfl)]
  show (evSs (orc T k) c__law_falls [.bor (.lst (L.map rwD)), .un]).bind fin = _
  unfold c__law_falls
  have ll : (L.map rwD).length = L.length := List.length_map _
  have lim : (-100000 : Int) ≤ (L.length : Int) - 1 ∧ (L.length : Int) - 1 ≤ 100000 := by omega
  have tn : (((L.length : Nat) : Int) - 1).toNat = L.length - 1 := by omega
  repeat (first | simp -implicitDefEqProofs only [ll, lim, tn] | walk_at "ev")
  refine rng_to (fun j ρ => ∃ s1, ρ = [.bor (.lst (L.map rwD)), s1]) ⟨_, rfl⟩ (fun j ρ hj ⟨s1, e⟩ => ?_) (fun ρ ⟨s1, e⟩ => ?_)
  · subst e
    have z : ∀ j : Nat, (0 : Int) + (j : Int) = (j : Int) := fun _ => Int.zero_add _
    have z1 : (j : Int) + 1 = ((j + 1 : Nat) : Int) := by omega
    have h1 : j < L.length := by omega
    have h2 : j + 1 < L.length := by omega
    have ga : atI (L.map rwD) (j : Int) = some (rwD L[j]) := atI_map (List.getElem?_eq_getElem h1)
    have gb : atI (L.map rwD) ((j + 1 : Nat) : Int) = some (rwD L[j + 1]) := atI_map (List.getElem?_eq_getElem h2)
    have hfl := fl_get hf (List.getElem?_eq_getElem h1) (List.getElem?_eq_getElem h2)
    have b1 := hb _ (List.getElem_mem h1)
    have b2 := hb _ (List.getElem_mem h2)
    generalize L[j] = x at *
    generalize L[j + 1] = y at *
    have im : ∀ (m : Md) (x : Row), nrm m (rwD x) = .f := fun m _ => rfl
    have t2 : ∀ m m2 x, ixV m (rwD x) m2 (.int 2) = some (.v .f (.int x.W)) := fun m m2 x => by
      show ixV m (.tup [.int x.s, .int x.e, .int x.W, .int x.H]) m2 (.int 2) = _
      rw [ix_tup]; rfl
    have t3 : ∀ m m2 x, ixV m (rwD x) m2 (.int 3) = some (.v .f (.int x.H)) := fun m m2 x => by
      show ixV m (.tup [.int x.s, .int x.e, .int x.W, .int x.H]) m2 (.int 3) = _
      rw [ix_tup]; rfl
    have m1 := mulS (m1 := .f) (m2 := .f) (a := x.W) (b := y.H) (by omega) (by omega) (by omega) (by omega)
    have m2 := mulS (m1 := .f) (m2 := .f) (a := y.W) (b := x.H) (by omega) (by omega) (by omega) (by omega)
    have q : decide (x.W * y.H ≤ y.W * x.H) = false := decide_eq_false (by omega)
    repeat (first | simp -implicitDefEqProofs only [z, z1, ga, gb, im, t2, t3, m1, m2, q] | walk_at "ev")
    rw [goesR_nx]
    exact ⟨_, rfl⟩
  · subst e
    walk_at "ev"
theorem shiftF {k d : Nat} {L : List Row} (hl : L.length ≤ 1000) : evF T (k + 1) "_law_shifted" [.lst ((L.map (shR d)).map rwD), .int (d : Int)] = some (.ok .n (.lst (L.map rwD))) := by
  rw [v__law_shifted, evD_run (by rfl)]
  show (evSs (orc T k) c__law_shifted [.bor (.lst ((L.map (shR d)).map rwD)), .dat (.int (d : Int)), .un]).bind fin = _
  unfold c__law_shifted
  rw [List.map_map]
  walk_at "ev"
  rw [lc_seq (v := fun x => (Md.f, rwD x)) (fun x hx => by
    have bn : ∀ (m : Md) (ρ : List Sl), bindP (.nm 2) ρ (.one m (rwD (shR d x))) = some (ρ.set 2 (.dat (rwD (shR d x)))) := fun m ρ => by rw [bind_nm, slotOf_imm imm_r]; rfl
    have er : rwD (shR d x) = .tup [.int ((x.s : Int) + (d : Int)), .int ((x.e : Int) + (d : Int)), .int x.W, .int x.H] := by
      rw [rwD_eq]
      show D.tup [.int ((x.s + d : Nat) : Int), .int ((x.e + d : Nat) : Int), .int x.W, .int x.H] = _
      rw [Int.natCast_add, Int.natCast_add]
    have s1 : (x.s : Int) + (d : Int) - (d : Int) = x.s := by omega
    have s2 : (x.e : Int) + (d : Int) - (d : Int) = x.e := by omega
    unfold lcBody
    show lcB _ _ _ (bindP (.nm 2) _ (.one _ (rwD (shR d x)))) = _
    rw [bn, er]
    repeat (first | simp -implicitDefEqProofs only [at40, at41, at42, at43, s1, s2] | walk_at "ev")
    rfl)]
  rw [Option.bind_some, lcD_map (by omega) (fun x _ => cf_f)]
  walk_at "ev"

end QL

end
section
set_option maxRecDepth 100000
set_option maxHeartbeats 4000000
namespace QL
open PySem PySem.Spec PyProof.Rows L2 Evl
local macro_rules | `(tactic| walk_at "ev") => `(tactic| simp -implicitDefEqProofs only [varS_ownT, retV_ownT, nrm_dit, imm_dit, slotV_nt, frz_ownT, slot0_dit, isNon_dit, ev_dnT, abs_int, gcd_ii, s_whl, s_asg2, asg2R_i, s_par, parR_v, esc_slc, esc_dnT, srcEsc_slc, srcEsc_env, enR_lf, enR_lb, enR_tf, enR_tb, partD_non, partD_int, partD_var, partD_bin, partD_ix, partD_neg, partD_b1, slR_lf, slR_lo, slR_tf, ev_var, ev_int, ev_bl, ev_str, ev_non, ev_bin, ev_cmp, ev_chain, ev_neg, ev_not, ev_and, ev_or, ev_ife, ev_ix, ev_tup, ev_lst, ev_call, orc_call, ev_slc, ev_fld, ev_meth, src_en, s_raise, s_setf, ret_fld, ret_meth, ret_slc, ev_b1, ev_b2, ev_isi, ev_lc, ev_lc2, evs_nil, evs_cons, src_r1', src_r2', src_seq', t_yes', t_not', t_and', t_or', t_val', ss_nil, ss_cons, s_set, s_pat, s_seti, s_app, s_ins, s_ife, s_for, s_retv, s_expr, s_pass, s_brk, s_cont, varS_dat, varS_bor, varS_own, varS_ownD, nrm_int, nrm_bl, nrm_str, nrm_non, nrm_scr, nrm_obj, nrm_lst, nrm_dic, nrm_f, nrm_tup, imm_int, imm_bl, imm_str, imm_non, imm_scr, imm_lst, imm_tup, imm_dic, imm_obj, immA_nil, immA_cons, op2_vv, bin_add, bin_sub, cmp_lt, cmp_le, cmp_gt, cmp_ge, cmp_eq, cmp_ne, cmp_eqb, cmp_neb, cmp_isb, cmp_isnb, cmp_eqs, cmp_nes, isNon_non, isNon_int, isNon_bl, isNon_lst, isNon_tup, isNon_str, isNon_obj, isNon_dic, cmp_is, cmp_isn, ixQ_some, ix_lst, ix_tup, ix_scr, ixm_f, ixm_n, ixm_o, ixm_b, ixm_h, len_lst, len_tup, len_scr, int_int, max_ii, min_ii, neg_i, not_b, bv_v1, list_lst, list_tup, tuple_lst, tuple_tup, itF_f, itF_n, itF_o, itF_b, itF_h, cf_f, cf_n, cf_b, cf_h, cf_o, allCf_nil, allCf_cons, tst_v, truth_bl, truth_lst, andT_t, andT_f, orT_t, orT_f, andR_t, andR_f, orR_f, orR_t, blV_b, ifE_t, ifE_f, ifS_t, ifS_f, ifL_t, ifL_f, elt1_v, lcB_s, lcR_v, lcR2_v, thenS_nx, thenS_rt, thenS_bk, thenS_ct, setR_v, setQ_s, slotV_f, slotV_n, slotV_nd, slotV_bl, slotV_bt, patR_v, setiR_v, appR_v, insR_v, forR_v, retV_own, retV_dat, retV_bor, retV_ownD, retR_v, retR_x, setR_x, patR_x, exprR_x, thenS_xs, fin_xs, exprR_v, ret_tup, esc_tup, ret_lst, esc_lst, ret_bin, esc_bin, ret_cmp, esc_cmp, ret_neg, esc_neg, ret_not, esc_not, ret_and, esc_and, ret_or, esc_or, ret_ix, esc_ix, ret_b1, esc_b1, ret_b2, esc_b2, ret_isi, esc_isi, ret_call, esc_call, ret_int, esc_int, ret_bl, esc_bl, ret_ife, esc_ife, ret_str, esc_str, ret_chain, esc_chain, ret_non, esc_non, ret_lc, esc_lc, ret_lc2, esc_lc2, esc_var, escs_nil, escs_cons, frzA_nil, frzA_cons, frz_dat, frz_bor, frz_own, frz_ownD, frz_un, srcEsc_r1, srcEsc_r2, srcEsc_var, srcEsc_call, srcEsc_lst, srcEsc_tup, srcEsc_ix, srcEsc_b1, srcEsc_bin, callR_v, callQ_f, callQ_n, callQ_x, consR_vv, tupR_v, lstR_v, lstR_h, r1R_i, r2R_i, seqR_v, srcD_scr, srcD_lf, srcD_tf, srcD_lb, srcD_tb, srcD_lo, srcD_to, srcD_lh, srcD_th, srcD_ln, fin_f, fin_n, fin_nx, slot0_int, slot0_bl, slot0_str, slot0_non, slot0_scr, slot0_lst, slot0_tup, slot0_obj, slot0_dic, bind_nm, slotOf_f, slotOf_int, slotOf_bl, bind_tp, binds_nil, binds_cons, wipe_nil, wipe_cons, isi_int_int, isi_int_bool, isi_int_str, isi_int_list, isi_int_tuple, isi_int_dict, isi_bool_int, isi_bool_bool, isi_bool_str, isi_bool_list, isi_bool_tuple, isi_bool_dict, isi_list_int, isi_list_bool, isi_list_str, isi_list_list, isi_list_tuple, isi_list_dict, isi_tuple_int, isi_tuple_bool, isi_tuple_str, isi_tuple_list, isi_tuple_tuple, isi_tuple_dict, isi_NoneType_int, isi_NoneType_bool, isi_NoneType_str, isi_NoneType_list, isi_NoneType_tuple, isi_NoneType_dict, isi_str_int, isi_str_bool, isi_str_str, isi_str_list, isi_str_tuple, isi_str_dict, isi_dict_int, isi_dict_bool, isi_dict_str, isi_dict_list, isi_dict_tuple, isi_dict_dict, Option.map_some, Option.map_none, Option.bind_some, Option.bind_none, List.getElem?_cons_zero, List.getElem?_cons_succ, List.set_cons_zero, List.set_cons_succ, List.getD_cons_zero, List.getD_cons_succ, List.map_cons, List.map_nil, List.length_cons, List.length_nil, List.nil_append, List.cons_append, List.append_nil, Bool.not_true, Bool.not_false, Bool.and_true, Bool.true_and, Bool.and_false, Bool.false_and, Bool.or_true, Bool.true_or, Bool.or_false, Bool.false_or, reduceIte, if_true, if_false, Bool.false_eq_true, decide_true, decide_false, reduceCtorEq, and_true, true_and, and_self, Nat.reduceAdd, Nat.reduceLeDiff, Nat.reduceLT, Nat.reduceSub, Nat.reduceEqDiff, List.isEmpty_cons, List.isEmpty_nil, not_true_eq_false, not_false_eq_true, bin_mul, bin_fdiv, bin_mod, bin_pow, Int.reduceLT, Int.reduceLE, Int.reduceNeg, Nat.reducePow, Int.reducePow, Int.reduceToNat])
local macro_rules | `(tactic| walk_at "evs") => `(tactic| simp -implicitDefEqProofs only [*, varS_ownT, retV_ownT, nrm_dit, imm_dit, slotV_nt, frz_ownT, slot0_dit, isNon_dit, ev_dnT, abs_int, gcd_ii, s_whl, s_asg2, asg2R_i, s_par, parR_v, esc_slc, esc_dnT, srcEsc_slc, srcEsc_env, enR_lf, enR_lb, enR_tf, enR_tb, partD_non, partD_int, partD_var, partD_bin, partD_ix, partD_neg, partD_b1, slR_lf, slR_lo, slR_tf, ev_var, ev_int, ev_bl, ev_str, ev_non, ev_bin, ev_cmp, ev_chain, ev_neg, ev_not, ev_and, ev_or, ev_ife, ev_ix, ev_tup, ev_lst, ev_call, orc_call, ev_slc, ev_fld, ev_meth, src_en, s_raise, s_setf, ret_fld, ret_meth, ret_slc, ev_b1, ev_b2, ev_isi, ev_lc, ev_lc2, evs_nil, evs_cons, src_r1', src_r2', src_seq', t_yes', t_not', t_and', t_or', t_val', ss_nil, ss_cons, s_set, s_pat, s_seti, s_app, s_ins, s_ife, s_for, s_retv, s_expr, s_pass, s_brk, s_cont, varS_dat, varS_bor, varS_own, varS_ownD, nrm_int, nrm_bl, nrm_str, nrm_non, nrm_scr, nrm_obj, nrm_lst, nrm_dic, nrm_f, nrm_tup, imm_int, imm_bl, imm_str, imm_non, imm_scr, imm_lst, imm_tup, imm_dic, imm_obj, immA_nil, immA_cons, op2_vv, bin_add, bin_sub, cmp_lt, cmp_le, cmp_gt, cmp_ge, cmp_eq, cmp_ne, cmp_eqb, cmp_neb, cmp_isb, cmp_isnb, cmp_eqs, cmp_nes, isNon_non, isNon_int, isNon_bl, isNon_lst, isNon_tup, isNon_str, isNon_obj, isNon_dic, cmp_is, cmp_isn, ixQ_some, ix_lst, ix_tup, ix_scr, ixm_f, ixm_n, ixm_o, ixm_b, ixm_h, len_lst, len_tup, len_scr, int_int, max_ii, min_ii, neg_i, not_b, bv_v1, list_lst, list_tup, tuple_lst, tuple_tup, itF_f, itF_n, itF_o, itF_b, itF_h, cf_f, cf_n, cf_b, cf_h, cf_o, allCf_nil, allCf_cons, tst_v, truth_bl, truth_lst, andT_t, andT_f, orT_t, orT_f, andR_t, andR_f, orR_f, orR_t, blV_b, ifE_t, ifE_f, ifS_t, ifS_f, ifL_t, ifL_f, elt1_v, lcB_s, lcR_v, lcR2_v, thenS_nx, thenS_rt, thenS_bk, thenS_ct, setR_v, setQ_s, slotV_f, slotV_n, slotV_nd, slotV_bl, slotV_bt, patR_v, setiR_v, appR_v, insR_v, forR_v, retV_own, retV_dat, retV_bor, retV_ownD, retR_v, retR_x, setR_x, patR_x, exprR_x, thenS_xs, fin_xs, exprR_v, ret_tup, esc_tup, ret_lst, esc_lst, ret_bin, esc_bin, ret_cmp, esc_cmp, ret_neg, esc_neg, ret_not, esc_not, ret_and, esc_and, ret_or, esc_or, ret_ix, esc_ix, ret_b1, esc_b1, ret_b2, esc_b2, ret_isi, esc_isi, ret_call, esc_call, ret_int, esc_int, ret_bl, esc_bl, ret_ife, esc_ife, ret_str, esc_str, ret_chain, esc_chain, ret_non, esc_non, ret_lc, esc_lc, ret_lc2, esc_lc2, esc_var, escs_nil, escs_cons, frzA_nil, frzA_cons, frz_dat, frz_bor, frz_own, frz_ownD, frz_un, srcEsc_r1, srcEsc_r2, srcEsc_var, srcEsc_call, srcEsc_lst, srcEsc_tup, srcEsc_ix, srcEsc_b1, srcEsc_bin, callR_v, callQ_f, callQ_n, callQ_x, consR_vv, tupR_v, lstR_v, lstR_h, r1R_i, r2R_i, seqR_v, srcD_scr, srcD_lf, srcD_tf, srcD_lb, srcD_tb, srcD_lo, srcD_to, srcD_lh, srcD_th, srcD_ln, fin_f, fin_n, fin_nx, slot0_int, slot0_bl, slot0_str, slot0_non, slot0_scr, slot0_lst, slot0_tup, slot0_obj, slot0_dic, bind_nm, slotOf_f, slotOf_int, slotOf_bl, bind_tp, binds_nil, binds_cons, wipe_nil, wipe_cons, isi_int_int, isi_int_bool, isi_int_str, isi_int_list, isi_int_tuple, isi_int_dict, isi_bool_int, isi_bool_bool, isi_bool_str, isi_bool_list, isi_bool_tuple, isi_bool_dict, isi_list_int, isi_list_bool, isi_list_str, isi_list_list, isi_list_tuple, isi_list_dict, isi_tuple_int, isi_tuple_bool, isi_tuple_str, isi_tuple_list, isi_tuple_tuple, isi_tuple_dict, isi_NoneType_int, isi_NoneType_bool, isi_NoneType_str, isi_NoneType_list, isi_NoneType_tuple, isi_NoneType_dict, isi_str_int, isi_str_bool, isi_str_str, isi_str_list, isi_str_tuple, isi_str_dict, isi_dict_int, isi_dict_bool, isi_dict_str, isi_dict_list, isi_dict_tuple, isi_dict_dict, Option.map_some, Option.map_none, Option.bind_some, Option.bind_none, List.getElem?_cons_zero, List.getElem?_cons_succ, List.set_cons_zero, List.set_cons_succ, List.getD_cons_zero, List.getD_cons_succ, List.map_cons, List.map_nil, List.length_cons, List.length_nil, List.nil_append, List.cons_append, List.append_nil, Bool.not_true, Bool.not_false, Bool.and_true, Bool.true_and, Bool.and_false, Bool.false_and, Bool.or_true, Bool.true_or, Bool.or_false, Bool.false_or, reduceIte, if_true, if_false, Bool.false_eq_true, decide_true, decide_false, reduceCtorEq, and_true, true_and, and_self, Nat.reduceAdd, Nat.reduceLeDiff, Nat.reduceLT, Nat.reduceSub, Nat.reduceEqDiff, List.isEmpty_cons, List.isEmpty_nil, not_true_eq_false, not_false_eq_true, bin_mul, bin_fdiv, bin_mod, bin_pow, Int.reduceLT, Int.reduceLE, Int.reduceNeg, Nat.reducePow, Int.reducePow, Int.reduceToNat])
theorem law_true : ∀ ns : List Int, ns.length ≤ 63 → evF T 8 "law" [.scr ns] = some (.ok .f (.bl true)) := by
  intro ns hb
  rw [v_law, evD_run (by rfl)]
  show (evSs (orc T 7) c_law [.dat (.scr ns), .un, .un, .un, .un, .un, .un, .un, .un, .un, .un, .un, .un, .un]).bind fin = _
  unfold c_law
  have dr : ∀ a sz : Int, 0 ≤ a → a ≤ 1000 → 0 < sz → evF T 7 "_law_draw" [.scr ns, .int 0, .int a, .int sz] = some (.ok .f (.int (draw ns 0 a sz))) := fun st sz a b c => drawF hb (by decide) (by omega) a (by omega) c
  have d3 := dr 3 9 (by omega) (by omega) (by omega)
  have d1 := dr 1 8 (by omega) (by omega) (by omega)
  have d4 := dr 4 25 (by omega) (by omega) (by omega)
  have d2 := dr 2 6 (by omega) (by omega) (by omega)
  have l3 := draw_lt (ns := ns) (pl := 0) (st := 3) (sz := 9) (by omega)
  have l4 := draw_lt (ns := ns) (pl := 0) (st := 4) (sz := 25) (by omega)
  clear dr
  generalize draw ns 0 3 9 = a3 at *
  generalize draw ns 0 1 8 = a1 at *
  generalize draw ns 0 4 25 = a4 at *
  generalize draw ns 0 2 6 = md at *
  repeat (first | simp -implicitDefEqProofs only [d3, d1] | walk_at "ev")
  obtain ⟨n, hn, hn24⟩ : ∃ n : Nat, ifS (orc T 7) (.cons (.set 1 (.call "_law_draw" (.cons (.var 0) (.cons (.int 0) (.cons (.int 4) (.cons (.int 25) .nil)))))) .nil) .nil
      [.dat (.scr ns), .dat (.int a3), .un, .un, .un, .un, .un, .un, .un, .un, .un, .un, .un, .un] (some (decide (a1 = 0))) = some (.nx [.dat (.scr ns), .dat (.int (n : Int)), .un, .un, .un, .un, .un, .un, .un, .un, .un, .un, .un, .un]) ∧ n ≤ 24 := by
    by_cases h : a1 = 0
    · have q := decide_eq_true h
      refine ⟨a4.toNat, ?_, by omega⟩
      have e : ((a4.toNat : Nat) : Int) = a4 := by omega
      repeat (first | simp -implicitDefEqProofs only [q, d4, e] | walk_at "ev")
    · have q := decide_eq_false h
      refine ⟨a3.toNat, ?_, by omega⟩
      have e : ((a3.toNat : Nat) : Int) = a3 := by omega
      repeat (first | simp -implicitDefEqProofs only [q, e] | walk_at "ev")
  rw [hn]
  have hst : ∀ j : Nat, j < n → ∃ x : Int × Int, evF T 7 "_law_step" [.scr ns, .int (1 + (j : Int)), .int md] = some (.ok .f (sD x)) ∧ 1 ≤ x.1 ∧ x.1 ≤ M60 ∧ 0 ≤ x.2 ∧ x.2 ≤ M60 := fun j hj => stepF (k := 3) hb (by omega) (by omega)
  obtain ⟨X, hX⟩ : ∃ X : Nat → Int × Int, ∀ j, j < n → evF T 7 "_law_step" [.scr ns, .int (1 + (j : Int)), .int md] = some (.ok .f (sD (X j))) ∧ 1 ≤ (X j).1 ∧ (X j).1 ≤ M60 ∧ 0 ≤ (X j).2 ∧ (X j).2 ≤ M60 :=
    ⟨fun j => if h : j < n then (hst j h).choose else (0, 0), fun j h => by simp only [dif_pos h]; exact (hst j h).choose_spec⟩
  have z : ∀ c : Nat, (0 : Int) + (c : Int) = (c : Int) := fun _ => Int.zero_add _
  have tn : ∀ c : Nat, ((c : Nat) : Int).toNat = c := fun _ => Int.toNat_natCast _
  have lim : (-100000 : Int) ≤ (n : Int) ∧ (n : Int) ≤ 100000 := by omega
  repeat (first | simp -implicitDefEqProofs only [d2, tn, lim] | walk_at "ev")
  rw [lc_rng (v := fun s => (Md.f, sD (X s))) (fun s hs => by
    unfold lcBody
    repeat (first | simp -implicitDefEqProofs only [z, (hX s hs).1] | walk_at "ev"))]
  rw [Option.bind_some, lcD_map (by rw [List.length_range]; omega) (fun x _ => cf_f)]
  obtain ⟨l, hl⟩ : ∃ l, l = (List.range n).map X := ⟨_, rfl⟩
  have e1 : ((List.range n).map fun s => sD (X s)) = l.map sD := by rw [hl, List.map_map]; rfl
  have hlen : l.length ≤ 24 := by rw [hl, List.length_map, List.length_range]; exact hn24
  have hok : Okk M60 l := fun x hx => by
    rw [hl] at hx
    obtain ⟨s, hs, rfl⟩ := List.mem_map.mp hx
    exact (hX s (List.mem_range.mp hs)).2
  clear hX hst hl hn
  simp only [e1]
  clear e1 X
  have f1 := lsectF (k := 5) hok hlen
  have f2 : evF T 7 "sections" [.lst (l.map sD)] = some (.ok .n (.lst ((secs l l.length 0).map rwD))) := sectF (k := 4) (t := false) hok hlen
  have f3 : evF T 7 "sections" [.tup (l.map sD)] = some (.ok .n (.lst ((secs l l.length 0).map rwD))) := sectF (k := 4) (t := true) hok hlen
  have hsl := secs_len M60_nn hok l.length 0
  have hso := secs_ok M60_nn hok l.length 0
  have hM := len_M hlen
  have hfl := secs_fl M60_nn hok l.length 0
  have hbeh : ∀ b rest, secs l l.length 0 = b :: rest → ∃ L2 : List Row, evF T 7 "sections" [.lst (cutD (l.map sD) (some ((b.e : Nat) : Int)) none)] = some (.ok .n (.lst (L2.map rwD))) ∧ rest = L2.map (shR b.e) ∧ L2.length ≤ 24 := by
    intro b rest e
    have he := hso b (by rw [e]; exact List.mem_cons_self)
    have e2 : secs l l.length 0 = bst l 0 :: secs l (l.length - 1) (bst l 0).e := by
      obtain ⟨m, hm⟩ : ∃ m, l.length = m + 1 := ⟨l.length - 1, by omega⟩
      rw [hm]
      show (if 0 < l.length then _ else _) = _
      rw [if_pos (by omega)]
      rfl
    rw [e2] at e
    injection e with e3 e4
    subst e3
    refine ⟨secs (l.drop (bst l 0).e) (l.drop (bst l 0).e).length 0, ?_, ?_, ?_⟩
    · rw [cut_drop (by rw [List.length_map]; omega), ← List.map_drop]
      exact sectF (k := 4) (t := false) (okk_drop hok _) (by rw [List.length_drop]; omega)
    · rw [← e4, ← secs_sh, Nat.zero_add]
      exact secs_fuel M60_nn hok _ _ _ (by omega) (by rw [List.length_drop]; omega)
    · have := secs_len M60_nn (okk_drop hok (bst l 0).e) (l.drop (bst l 0).e).length 0
      rw [List.length_drop] at this ⊢
      omega
  have hbig : ∀ y ∈ secs l l.length 0, 1 ≤ y.H ∧ y.H ≤ 100000000000000000000000000000000000000000000000000000000000000 ∧ 0 ≤ y.W ∧ y.W ≤ 100000000000000000000000000000000000000000000000000000000000000 := fun y hy => by
    have := hso y hy; omega
  have hcell : ∀ y ∈ secs l l.length 0, y.s < 30 ∧ y.e < 30 := fun y hy => by
    have := hso y hy; omega
  generalize secs l l.length 0 = L at *
  have f4 := rightF (k := 5) (L := L) (by omega)
  have f5 := fallsF (k := 6) (by omega) hfl (fun y hy => by have := hbig y hy; omega)
  have rp := fun m => repr_rows (L := L.map fun x => [(x.s : Int), (x.e : Int), x.W, x.H]) (m := m) (fun x hx => by
    obtain ⟨y, hy, rfl⟩ := List.mem_map.mp hx
    have h1 := hbig y hy
    have h2 := hcell y hy
    have big : (100000000000000000000000000000000000000000000000000000000000000 : Nat) < 2 ^ 1000 := by decide +kernel
    refine ⟨by simp, fun a ha => ?_⟩
    simp only [List.mem_cons, List.not_mem_nil, or_false] at ha
    rcases ha with rfl | rfl | rfl | rfl <;> (refine Nat.lt_of_le_of_lt ?_ big; omega)) (by rw [List.length_map]; omega)
  rw [← map_rwD] at rp
  generalize (toPy (.lst (L.map rwD))).shown = S at rp
  have c1 : ∀ m1 m2, cmpV .ne m1 (.lst (l.map sD)) m2 (.lst (l.map sD)) = some (.v .f (.bl false)) := fun _ _ => cmp_ne_self (by rw [map_sD]; exact shp_rowI)
  have a1 : (L.map rwD).length < 100000 := by rw [List.length_map]; omega
  have a2 : (l.map sD).length < 100000 := by rw [List.length_map]; omega
  have ll : (L.map rwD).length = L.length := List.length_map _
  have qs : decide (S = S) = true := decide_eq_true rfl
  repeat (first | simp -implicitDefEqProofs only [f1, f2, f3, f4, f5, rp, c1, appR_v cf_f a1, appR_v cf_f a2, ll, qs] | walk_at "ev")
  have rows2 : ∀ m m2 (x : Row), ixV m (rwD x) m2 (.int 2) = some (.v .f (.int x.W)) := fun m m2 x => by
    show ixV m (.tup [.int x.s, .int x.e, .int x.W, .int x.H]) m2 (.int 2) = _
    rw [ix_tup]; rfl
  have rows3 : ∀ m m2 (x : Row), ixV m (rwD x) m2 (.int 3) = some (.v .f (.int x.H)) := fun m m2 x => by
    show ixV m (.tup [.int x.s, .int x.e, .int x.W, .int x.H]) m2 (.int 3) = _
    rw [ix_tup]; rfl
  have rows1 : ∀ m m2 (x : Row), ixV m (rwD x) m2 (.int 1) = some (.v .f (.int ((x.e : Nat) : Int))) := fun m m2 x => by
    show ixV m (.tup [.int x.s, .int x.e, .int x.W, .int x.H]) m2 (.int 1) = _
    rw [ix_tup]; rfl
  have im : ∀ (m : Md) (x : Row), nrm m (rwD x) = .f := fun m _ => rfl
  refine for_fin (J := fun ρ => ∃ s10, ρ = [.dat (.scr ns), .dat (.int (n : Int)), .dat (.int md), .un, .own (l.map sD), .own (L.map rwD), .own (l.map sD ++ [.tup [.int 1, .int 9]]), .own (L.map rwD ++ [.tup [.int 0, .int 1, .int 0, .int 1]]), .dat (.str S), .own (L.map rwD), s10, .un, .un, .un]) ?_ (fun ρ ⟨s10, e⟩ => ?_)
  · cases L with
    | nil => exact ⟨_, rfl, _, rfl⟩
    | cons b rest =>
      obtain ⟨L2, g1, g2, g3⟩ := hbeh b rest rfl
      have q : decide ((0 : Int) < (((b :: rest).length : Nat) : Int)) = true := decide_eq_true (by simp only [List.length_cons]; omega)
      have g4 := shiftF (k := 6) (d := b.e) (L := L2) (by omega)
      rw [← g2] at g4
      have g5 := rightF (k := 5) (L := L2) (by omega)
      have h0 : atI ((b :: rest).map rwD) 0 = some (rwD b) := atI_map (k := 0) (e := rwD) (xs := b :: rest) (x := b) rfl
      have hc : cutD ((b :: rest).map rwD) (some 1) none = rest.map rwD := cut_one
      rw [q]
      refine ⟨_, ?_, .own (L2.map rwD), rfl⟩
      generalize (b :: rest).map rwD = z at *
      repeat (first | simp -implicitDefEqProofs only [h0, hc, im, rows1, g1, g4, g5] | walk_at "ev")
  · subst e
    walk_at "ev"
    rw [lc_seq (v := fun x => (Md.f, sD (x.W, x.H))) (fun x hx => by
      have bn : ∀ (m : Md) (ρ : List Sl), bindP (.nm 13) ρ (.one m (rwD x)) = some (ρ.set 13 (.dat (rwD x))) := fun m ρ => by rw [bind_nm, slotOf_imm imm_r]; rfl
      unfold lcBody
      rw [bn]
      repeat (first | simp -implicitDefEqProofs only [rows2, rows3] | walk_at "ev")
      rfl)]
    rw [Option.bind_some, lcD_map (by omega) (fun x _ => cf_f)]
    have ep : (L.map fun x => sD (x.W, x.H)) = (L.map fun x => (x.W, x.H)).map sD := by rw [List.map_map]; rfl
    have hpr : ∀ x ∈ L.map (fun x => (x.W, x.H)), 1 ≤ x.2 ∧ x.2 ≤ 100000000000000000000000000000000000000000000000000000000000000 ∧ -100000000000000000000000000000000000000000000000000000000000000 ≤ x.1 ∧ x.1 ≤ 100000000000000000000000000000000000000000000000000000000000000 := fun x hx => by
      obtain ⟨y, hy, rfl⟩ := List.mem_map.mp hx
      have := hbig y hy
      dsimp only; omega
    have hpl : (L.map fun x => (x.W, x.H)).length ≤ 24 := by rw [List.length_map]; omega
    simp only [ep]
    generalize L.map (fun x => (x.W, x.H)) = prs at *
    have l4 : (-100000 : Int) ≤ 4 ∧ (4 : Int) ≤ 100000 := by omega
    have t4 : (4 : Int).toNat = 4 := rfl
    repeat (first | simp -implicitDefEqProofs only [l4, t4] | walk_at "ev")
    refine rng_fin (fun j ρ => ∃ (prs : List (Int × Int)) (s3 s12 s13 : Sl), ρ = [.dat (.scr ns), .dat (.int (n : Int)), .dat (.int md), s3, .own (l.map sD), .own (L.map rwD), .own (l.map sD ++ [.tup [.int 1, .int 9]]), .own (L.map rwD ++ [.tup [.int 0, .int 1, .int 0, .int 1]]), .dat (.str S), .own (L.map rwD), s10, .own (prs.map sD), s12, s13] ∧ prs.length ≤ 24 + j ∧ ∀ x ∈ prs, 1 ≤ x.2 ∧ x.2 ≤ 100000000000000000000000000000000000000000000000000000000000000 ∧ -100000000000000000000000000000000000000000000000000000000000000 ≤ x.1 ∧ x.1 ≤ 100000000000000000000000000000000000000000000000000000000000000) ⟨prs, _, _, _, rfl, hpl, hpr⟩ (fun j ρ hj ⟨prs, s3, s12, s13, e, hpl, hpr⟩ => ?_) (fun ρ ⟨prs, s3, s12, s13, e, hpl, hpr⟩ => ?_)
    · subst e
      obtain ⟨x, x1, x2, x3, x4, x5⟩ := pairF (k := 3) (ns := ns) (pl := 26 + (j : Int)) hb (by omega) (by omega)
      have hap : (prs.map sD).length < 100000 := by rw [List.length_map]; omega
      have em : prs.map sD ++ [sD x] = (prs ++ [x]).map sD := by simp
      repeat (first | simp -implicitDefEqProofs only [z, x1, appR_v cf_f hap] | walk_at "ev")
      rw [goes_nx, em]
      refine ⟨prs ++ [x], _, _, _, rfl, by rw [List.length_append, List.length_singleton]; omega, fun y hy => ?_⟩
      rcases List.mem_append.mp hy with hy | hy
      · exact hpr y hy
      · rw [List.mem_singleton.mp hy]; omega
    · subst e
      walk_at "ev"
      refine seq_to (s := fun x => .dat (sD x)) (fun p ρ => ∃ (s3 s12 s13 : Sl), ρ = [.dat (.scr ns), .dat (.int (n : Int)), .dat (.int md), s3, .own (l.map sD), .own (L.map rwD), .own (l.map sD ++ [.tup [.int 1, .int 9]]), .own (L.map rwD ++ [.tup [.int 0, .int 1, .int 0, .int 1]]), .dat (.str S), .own (L.map rwD), s10, .dat (.lst (prs.map sD)), s12, s13]) ⟨_, _, _, rfl⟩ (fun x _ => slotOf_f) (fun p x ρ hx hp ⟨s3, s12, s13, e⟩ => ?_) (fun ρ ⟨s3, s12, s13, e⟩ => ?_)
      · subst e
        obtain ⟨p1, p2, p3, p4⟩ := hpr x hx
        have r1 := ratioF (k := 6) (n := x.1) (d := x.2) p1 p2
        have r2 := lowestF (k := 5) (n := x.1) (d := x.2) p1 p2 p3 p4
        have t0 : ∀ m m2, ixV m (sD x) m2 (.int 0) = some (.v .f (.int x.1)) := fun m m2 => by
          show ixV m (.tup [.int x.1, .int x.2]) m2 (.int 0) = _
          rw [ix_tup]; rfl
        have t1 : ∀ m m2, ixV m (sD x) m2 (.int 1) = some (.v .f (.int x.2)) := fun m m2 => by
          show ixV m (.tup [.int x.1, .int x.2]) m2 (.int 1) = _
          rw [ix_tup]; rfl
        repeat (first | simp -implicitDefEqProofs only [r1, r2, t0, t1] | walk_at "ev")
        rw [goesR_nx]
        exact ⟨_, _, _, rfl⟩
      · subst e
        walk_at "ev"

end QL

end
set_option maxRecDepth 100000
set_option maxHeartbeats 4000000
namespace QL
open PySem PySem.Spec PyProof.Rows L2 Evl
theorem all_mk {l : PySem.W.OpenLaw} {w : World} {K : PySem.W.Frag} {h : Heap} {mg : Str → Option Value} {fa f0 f1 f2 f3 f4 f5 f6 f7 f8 f9 f10 f11 f12 f13 f14 f15 f16 f17 f18 : Addr} (X : K.In h) (G : h.Ns mainGlobals mg) (hfa : mg "law" = some (.ref fa))
    {od0 an0 od1 an1 od2 an2 od3 an3 od4 an4 od5 an5 od6 an6 od7 an7 od8 an8 od9 an9 od10 an10 od11 an11 od12 an12 od13 an13 od14 an14 od15 an15 od16 an16 od17 an17 od18 an18 : Option Addr} {sl0 sl1 sl2 sl3 sl4 sl5 sl6 sl7 sl8 sl9 sl10 sl11 sl12 sl13 sl14 sl15 sl16 sl17 sl18 : Array (Option Value)} {oc0 kV0 dc0 pm0 cd0 ct0 oc1 kV1 dc1 pm1 cd1 ct1 oc2 kV2 dc2 pm2 cd2 ct2 oc3 kV3 dc3 pm3 cd3 ct3 oc4 kV4 dc4 pm4 cd4 ct4 oc5 kV5 dc5 pm5 cd5 ct5 oc6 kV6 dc6 pm6 cd6 ct6 oc7 kV7 dc7 pm7 cd7 ct7 oc8 kV8 dc8 pm8 cd8 ct8 oc9 kV9 dc9 pm9 cd9 ct9 oc10 kV10 dc10 pm10 cd10 ct10 oc11 kV11 dc11 pm11 cd11 ct11 oc12 kV12 dc12 pm12 cd12 ct12 oc13 kV13 dc13 pm13 cd13 ct13 oc14 kV14 dc14 pm14 cd14 ct14 oc15 kV15 dc15 pm15 cd15 ct15 oc16 kV16 dc16 pm16 cd16 ct16 oc17 kV17 dc17 pm17 cd17 ct17 oc18 kV18 dc18 pm18 cd18 ct18 : Value}
    (a0 : PySem.W.nsIn K mainGlobals "make_ratio" = some (some (.ref f0))) (l0 : K.lookup f0 = some ⟨oc0, od0, .func (PySem.W.fnOf "make_ratio" "make_ratio" (defArgs s_make_ratio) (defBody s_make_ratio) (defScope s_make_ratio) .none kV0 dc0 pm0 an0 cd0 ct0), sl0⟩) (c0 : PySem.W.codeIn K cd0 "make_ratio" = true) (k0 : PySem.W.keepIn K (.ref f0) = true)
    (a1 : PySem.W.nsIn K mainGlobals "is_less" = some (some (.ref f1))) (l1 : K.lookup f1 = some ⟨oc1, od1, .func (PySem.W.fnOf "is_less" "is_less" (defArgs s_is_less) (defBody s_is_less) (defScope s_is_less) .none kV1 dc1 pm1 an1 cd1 ct1), sl1⟩) (c1 : PySem.W.codeIn K cd1 "is_less" = true) (k1 : PySem.W.keepIn K (.ref f1) = true)
    (a2 : PySem.W.nsIn K mainGlobals "first_section" = some (some (.ref f2))) (l2 : K.lookup f2 = some ⟨oc2, od2, .func (PySem.W.fnOf "first_section" "first_section" (defArgs s_first_section) (defBody s_first_section) (defScope s_first_section) .none kV2 dc2 pm2 an2 cd2 ct2), sl2⟩) (c2 : PySem.W.codeIn K cd2 "first_section" = true) (k2 : PySem.W.keepIn K (.ref f2) = true)
    (a3 : PySem.W.nsIn K mainGlobals "sections" = some (some (.ref f3))) (l3 : K.lookup f3 = some ⟨oc3, od3, .func (PySem.W.fnOf "sections" "sections" (defArgs s_sections) (defBody s_sections) (defScope s_sections) .none kV3 dc3 pm3 an3 cd3 ct3), sl3⟩) (c3 : PySem.W.codeIn K cd3 "sections" = true) (k3 : PySem.W.keepIn K (.ref f3) = true)
    (a4 : PySem.W.nsIn K mainGlobals "_law_draw" = some (some (.ref f4))) (l4 : K.lookup f4 = some ⟨oc4, od4, .func (PySem.W.fnOf "_law_draw" "_law_draw" (defArgs s__law_draw) (defBody s__law_draw) (defScope s__law_draw) .none kV4 dc4 pm4 an4 cd4 ct4), sl4⟩) (c4 : PySem.W.codeIn K cd4 "_law_draw" = true) (k4 : PySem.W.keepIn K (.ref f4) = true)
    (a5 : PySem.W.nsIn K mainGlobals "_law_big" = some (some (.ref f5))) (l5 : K.lookup f5 = some ⟨oc5, od5, .func (PySem.W.fnOf "_law_big" "_law_big" (defArgs s__law_big) (defBody s__law_big) (defScope s__law_big) .none kV5 dc5 pm5 an5 cd5 ct5), sl5⟩) (c5 : PySem.W.codeIn K cd5 "_law_big" = true) (k5 : PySem.W.keepIn K (.ref f5) = true)
    (a6 : PySem.W.nsIn K mainGlobals "_law_number" = some (some (.ref f6))) (l6 : K.lookup f6 = some ⟨oc6, od6, .func (PySem.W.fnOf "_law_number" "_law_number" (defArgs s__law_number) (defBody s__law_number) (defScope s__law_number) .none kV6 dc6 pm6 an6 cd6 ct6), sl6⟩) (c6 : PySem.W.codeIn K cd6 "_law_number" = true) (k6 : PySem.W.keepIn K (.ref f6) = true)
    (a7 : PySem.W.nsIn K mainGlobals "_law_is_int" = some (some (.ref f7))) (l7 : K.lookup f7 = some ⟨oc7, od7, .func (PySem.W.fnOf "_law_is_int" "_law_is_int" (defArgs s__law_is_int) (defBody s__law_is_int) (defScope s__law_is_int) .none kV7 dc7 pm7 an7 cd7 ct7), sl7⟩) (c7 : PySem.W.codeIn K cd7 "_law_is_int" = true) (k7 : PySem.W.keepIn K (.ref f7) = true)
    (a8 : PySem.W.nsIn K mainGlobals "_law_step" = some (some (.ref f8))) (l8 : K.lookup f8 = some ⟨oc8, od8, .func (PySem.W.fnOf "_law_step" "_law_step" (defArgs s__law_step) (defBody s__law_step) (defScope s__law_step) .none kV8 dc8 pm8 an8 cd8 ct8), sl8⟩) (c8 : PySem.W.codeIn K cd8 "_law_step" = true) (k8 : PySem.W.keepIn K (.ref f8) = true)
    (a9 : PySem.W.nsIn K mainGlobals "_law_beginnings" = some (some (.ref f9))) (l9 : K.lookup f9 = some ⟨oc9, od9, .func (PySem.W.fnOf "_law_beginnings" "_law_beginnings" (defArgs s__law_beginnings) (defBody s__law_beginnings) (defScope s__law_beginnings) .none kV9 dc9 pm9 an9 cd9 ct9), sl9⟩) (c9 : PySem.W.codeIn K cd9 "_law_beginnings" = true) (k9 : PySem.W.keepIn K (.ref f9) = true)
    (a10 : PySem.W.nsIn K mainGlobals "_law_longest_best" = some (some (.ref f10))) (l10 : K.lookup f10 = some ⟨oc10, od10, .func (PySem.W.fnOf "_law_longest_best" "_law_longest_best" (defArgs s__law_longest_best) (defBody s__law_longest_best) (defScope s__law_longest_best) .none kV10 dc10 pm10 an10 cd10 ct10), sl10⟩) (c10 : PySem.W.codeIn K cd10 "_law_longest_best" = true) (k10 : PySem.W.keepIn K (.ref f10) = true)
    (a11 : PySem.W.nsIn K mainGlobals "_law_sections" = some (some (.ref f11))) (l11 : K.lookup f11 = some ⟨oc11, od11, .func (PySem.W.fnOf "_law_sections" "_law_sections" (defArgs s__law_sections) (defBody s__law_sections) (defScope s__law_sections) .none kV11 dc11 pm11 an11 cd11 ct11), sl11⟩) (c11 : PySem.W.codeIn K cd11 "_law_sections" = true) (k11 : PySem.W.keepIn K (.ref f11) = true)
    (a12 : PySem.W.nsIn K mainGlobals "_law_right" = some (some (.ref f12))) (l12 : K.lookup f12 = some ⟨oc12, od12, .func (PySem.W.fnOf "_law_right" "_law_right" (defArgs s__law_right) (defBody s__law_right) (defScope s__law_right) .none kV12 dc12 pm12 an12 cd12 ct12), sl12⟩) (c12 : PySem.W.codeIn K cd12 "_law_right" = true) (k12 : PySem.W.keepIn K (.ref f12) = true)
    (a13 : PySem.W.nsIn K mainGlobals "_law_falls" = some (some (.ref f13))) (l13 : K.lookup f13 = some ⟨oc13, od13, .func (PySem.W.fnOf "_law_falls" "_law_falls" (defArgs s__law_falls) (defBody s__law_falls) (defScope s__law_falls) .none kV13 dc13 pm13 an13 cd13 ct13), sl13⟩) (c13 : PySem.W.codeIn K cd13 "_law_falls" = true) (k13 : PySem.W.keepIn K (.ref f13) = true)
    (a14 : PySem.W.nsIn K mainGlobals "_law_pair" = some (some (.ref f14))) (l14 : K.lookup f14 = some ⟨oc14, od14, .func (PySem.W.fnOf "_law_pair" "_law_pair" (defArgs s__law_pair) (defBody s__law_pair) (defScope s__law_pair) .none kV14 dc14 pm14 an14 cd14 ct14), sl14⟩) (c14 : PySem.W.codeIn K cd14 "_law_pair" = true) (k14 : PySem.W.keepIn K (.ref f14) = true)
    (a15 : PySem.W.nsIn K mainGlobals "_law_divisor" = some (some (.ref f15))) (l15 : K.lookup f15 = some ⟨oc15, od15, .func (PySem.W.fnOf "_law_divisor" "_law_divisor" (defArgs s__law_divisor) (defBody s__law_divisor) (defScope s__law_divisor) .none kV15 dc15 pm15 an15 cd15 ct15), sl15⟩) (c15 : PySem.W.codeIn K cd15 "_law_divisor" = true) (k15 : PySem.W.keepIn K (.ref f15) = true)
    (a16 : PySem.W.nsIn K mainGlobals "_law_lowest" = some (some (.ref f16))) (l16 : K.lookup f16 = some ⟨oc16, od16, .func (PySem.W.fnOf "_law_lowest" "_law_lowest" (defArgs s__law_lowest) (defBody s__law_lowest) (defScope s__law_lowest) .none kV16 dc16 pm16 an16 cd16 ct16), sl16⟩) (c16 : PySem.W.codeIn K cd16 "_law_lowest" = true) (k16 : PySem.W.keepIn K (.ref f16) = true)
    (a17 : PySem.W.nsIn K mainGlobals "_law_shifted" = some (some (.ref f17))) (l17 : K.lookup f17 = some ⟨oc17, od17, .func (PySem.W.fnOf "_law_shifted" "_law_shifted" (defArgs s__law_shifted) (defBody s__law_shifted) (defScope s__law_shifted) .none kV17 dc17 pm17 an17 cd17 ct17), sl17⟩) (c17 : PySem.W.codeIn K cd17 "_law_shifted" = true) (k17 : PySem.W.keepIn K (.ref f17) = true)
    (a18 : PySem.W.nsIn K mainGlobals "law" = some (some (.ref f18))) (l18 : K.lookup f18 = some ⟨oc18, od18, .func (PySem.W.fnOf "law" "law" (defArgs s_law) (defBody s_law) (defScope s_law) .none kV18 dc18 pm18 an18 cd18 ct18), sl18⟩) (c18 : PySem.W.codeIn K cd18 "law" = true) (k18 : PySem.W.keepIn K (.ref f18) = true)
    (z_gcd : PySem.W.nsIn K mainGlobals "gcd" = some (some (.builtin "math.gcd")))
    (z_len : PySem.W.nsIn K mainGlobals "len" = some none)
    (z_int : PySem.W.nsIn K mainGlobals "int" = some none)
    (z_sum : PySem.W.nsIn K mainGlobals "sum" = some none)
    (z_any : PySem.W.nsIn K mainGlobals "any" = some none)
    (z_all : PySem.W.nsIn K mainGlobals "all" = some none)
    (z_list : PySem.W.nsIn K mainGlobals "list" = some none)
    (z_tuple : PySem.W.nsIn K mainGlobals "tuple" = some none)
    (z_max : PySem.W.nsIn K mainGlobals "max" = some none)
    (z_min : PySem.W.nsIn K mainGlobals "min" = some none)
    (z_isinstance : PySem.W.nsIn K mainGlobals "isinstance" = some none)
    (z_bool : PySem.W.nsIn K mainGlobals "bool" = some none)
    (z_str : PySem.W.nsIn K mainGlobals "str" = some none)
    (z_dict : PySem.W.nsIn K mainGlobals "dict" = some none)
    (z_range : PySem.W.nsIn K mainGlobals "range" = some none)
    (z_sorted : PySem.W.nsIn K mainGlobals "sorted" = some none)
    (z_enumerate : PySem.W.nsIn K mainGlobals "enumerate" = some none)
    (z_abs : PySem.W.nsIn K mainGlobals "abs" = some none)
    (z_repr : PySem.W.nsIn K mainGlobals "repr" = some none)
    : ∃ fd : FuncData, (∀ (s : Shared) (v : Value), BindsTo s fd ⟨[v], []⟩ [("_law_script", v)]) ∧ ∀ base : Heap, K.In base → base.Ns mainGlobals mg → FnR true l.prog w K mg base 9 fa fd p_law (SpE K (evF T 8 "law")) := by
  have e := hfa.symm.trans (PySem.W.mg_of X G a18)
  cases e
  have F0 := fun_mk (st := s_make_ratio) l0 c0 k0
  have F1 := fun_mk (st := s_is_less) l1 c1 k1
  have F2 := fun_mk (st := s_first_section) l2 c2 k2
  have F3 := fun_mk (st := s_sections) l3 c3 k3
  have F4 := fun_mk (st := s__law_draw) l4 c4 k4
  have F5 := fun_mk (st := s__law_big) l5 c5 k5
  have F6 := fun_mk (st := s__law_number) l6 c6 k6
  have F7 := fun_mk (st := s__law_is_int) l7 c7 k7
  have F8 := fun_mk (st := s__law_step) l8 c8 k8
  have F9 := fun_mk (st := s__law_beginnings) l9 c9 k9
  have F10 := fun_mk (st := s__law_longest_best) l10 c10 k10
  have F11 := fun_mk (st := s__law_sections) l11 c11 k11
  have F12 := fun_mk (st := s__law_right) l12 c12 k12
  have F13 := fun_mk (st := s__law_falls) l13 c13 k13
  have F14 := fun_mk (st := s__law_pair) l14 c14 k14
  have F15 := fun_mk (st := s__law_divisor) l15 c15 k15
  have F16 := fun_mk (st := s__law_lowest) l16 c16 k16
  have F17 := fun_mk (st := s__law_shifted) l17 c17 k17
  have F18 := fun_mk (st := s_law) l18 c18 k18
  have hb : ∀ y ∈ bNames, y ∉ T.names → mg y = none := by
    intro y hy _
    simp only [bNames, List.mem_cons, List.not_mem_nil, or_false] at hy
    rcases hy with rfl | rfl | rfl | rfl | rfl | rfl | rfl | rfl | rfl | rfl | rfl | rfl | rfl | rfl | rfl | rfl | rfl | rfl
    · exact PySem.W.mg_none_of X G z_len
    · exact PySem.W.mg_none_of X G z_int
    · exact PySem.W.mg_none_of X G z_sum
    · exact PySem.W.mg_none_of X G z_any
    · exact PySem.W.mg_none_of X G z_all
    · exact PySem.W.mg_none_of X G z_list
    · exact PySem.W.mg_none_of X G z_tuple
    · exact PySem.W.mg_none_of X G z_max
    · exact PySem.W.mg_none_of X G z_min
    · exact PySem.W.mg_none_of X G z_isinstance
    · exact PySem.W.mg_none_of X G z_bool
    · exact PySem.W.mg_none_of X G z_str
    · exact PySem.W.mg_none_of X G z_dict
    · exact PySem.W.mg_none_of X G z_range
    · exact PySem.W.mg_none_of X G z_sorted
    · exact PySem.W.mg_none_of X G z_enumerate
    · exact PySem.W.mg_none_of X G z_abs
    · exact PySem.W.mg_none_of X G z_repr
  have hT : ∀ g ∈ T.defs.map (·.1), ∃ ps, DefAt K mg T g ps := by
    intro g hg
    simp only [T, List.map_cons, List.map_nil, List.mem_cons, List.not_mem_nil, or_false] at hg
    rcases hg with rfl | rfl | rfl | rfl | rfl | rfl | rfl | rfl | rfl | rfl | rfl | rfl | rfl | rfl | rfl | rfl | rfl | rfl | rfl
    · exact ⟨p_make_ratio, s_make_ratio, f0, _, N_make_ratio, 100, c_make_ratio, F0, sc_make_ratio, PySem.W.mg_of X G a0, k0, F0.binds (ps := p_make_ratio) (fun _ _ _ _ _ _ us hl => match us, hl with | [_, _], _ => rfl), t_make_ratio, rfl⟩
    · exact ⟨p_is_less, s_is_less, f1, _, N_is_less, 100, c_is_less, F1, sc_is_less, PySem.W.mg_of X G a1, k1, F1.binds (ps := p_is_less) (fun _ _ _ _ _ _ us hl => match us, hl with | [_, _], _ => rfl), t_is_less, rfl⟩
    · exact ⟨p_first_section, s_first_section, f2, _, N_first_section, 100, c_first_section, F2, sc_first_section, PySem.W.mg_of X G a2, k2, F2.binds (ps := p_first_section) (fun _ _ _ _ _ _ us hl => match us, hl with | [_], _ => rfl), t_first_section, rfl⟩
    · exact ⟨p_sections, s_sections, f3, _, N_sections, 100, c_sections, F3, sc_sections, PySem.W.mg_of X G a3, k3, F3.binds (ps := p_sections) (fun _ _ _ _ _ _ us hl => match us, hl with | [_], _ => rfl), t_sections, rfl⟩
    · exact ⟨p__law_draw, s__law_draw, f4, _, N__law_draw, 100, c__law_draw, F4, sc__law_draw, PySem.W.mg_of X G a4, k4, F4.binds (ps := p__law_draw) (fun _ _ _ _ _ _ us hl => match us, hl with | [_, _, _, _], _ => rfl), t__law_draw, rfl⟩
    · exact ⟨p__law_big, s__law_big, f5, _, N__law_big, 100, c__law_big, F5, sc__law_big, PySem.W.mg_of X G a5, k5, F5.binds (ps := p__law_big) (fun _ _ _ _ _ _ us hl => match us, hl with | [_, _, _, _], _ => rfl), t__law_big, rfl⟩
    · exact ⟨p__law_number, s__law_number, f6, _, N__law_number, 100, c__law_number, F6, sc__law_number, PySem.W.mg_of X G a6, k6, F6.binds (ps := p__law_number) (fun _ _ _ _ _ _ us hl => match us, hl with | [_, _, _], _ => rfl), t__law_number, rfl⟩
    · exact ⟨p__law_is_int, s__law_is_int, f7, _, N__law_is_int, 100, c__law_is_int, F7, sc__law_is_int, PySem.W.mg_of X G a7, k7, F7.binds (ps := p__law_is_int) (fun _ _ _ _ _ _ us hl => match us, hl with | [_], _ => rfl), t__law_is_int, rfl⟩
    · exact ⟨p__law_step, s__law_step, f8, _, N__law_step, 100, c__law_step, F8, sc__law_step, PySem.W.mg_of X G a8, k8, F8.binds (ps := p__law_step) (fun _ _ _ _ _ _ us hl => match us, hl with | [_, _, _], _ => rfl), t__law_step, rfl⟩
    · exact ⟨p__law_beginnings, s__law_beginnings, f9, _, N__law_beginnings, 100, c__law_beginnings, F9, sc__law_beginnings, PySem.W.mg_of X G a9, k9, F9.binds (ps := p__law_beginnings) (fun _ _ _ _ _ _ us hl => match us, hl with | [_, _], _ => rfl), t__law_beginnings, rfl⟩
    · exact ⟨p__law_longest_best, s__law_longest_best, f10, _, N__law_longest_best, 100, c__law_longest_best, F10, sc__law_longest_best, PySem.W.mg_of X G a10, k10, F10.binds (ps := p__law_longest_best) (fun _ _ _ _ _ _ us hl => match us, hl with | [_], _ => rfl), t__law_longest_best, rfl⟩
    · exact ⟨p__law_sections, s__law_sections, f11, _, N__law_sections, 100, c__law_sections, F11, sc__law_sections, PySem.W.mg_of X G a11, k11, F11.binds (ps := p__law_sections) (fun _ _ _ _ _ _ us hl => match us, hl with | [_], _ => rfl), t__law_sections, rfl⟩
    · exact ⟨p__law_right, s__law_right, f12, _, N__law_right, 100, c__law_right, F12, sc__law_right, PySem.W.mg_of X G a12, k12, F12.binds (ps := p__law_right) (fun _ _ _ _ _ _ us hl => match us, hl with | [_, _], _ => rfl), t__law_right, rfl⟩
    · exact ⟨p__law_falls, s__law_falls, f13, _, N__law_falls, 100, c__law_falls, F13, sc__law_falls, PySem.W.mg_of X G a13, k13, F13.binds (ps := p__law_falls) (fun _ _ _ _ _ _ us hl => match us, hl with | [_], _ => rfl), t__law_falls, rfl⟩
    · exact ⟨p__law_pair, s__law_pair, f14, _, N__law_pair, 100, c__law_pair, F14, sc__law_pair, PySem.W.mg_of X G a14, k14, F14.binds (ps := p__law_pair) (fun _ _ _ _ _ _ us hl => match us, hl with | [_, _], _ => rfl), t__law_pair, rfl⟩
    · exact ⟨p__law_divisor, s__law_divisor, f15, _, N__law_divisor, 100, c__law_divisor, F15, sc__law_divisor, PySem.W.mg_of X G a15, k15, F15.binds (ps := p__law_divisor) (fun _ _ _ _ _ _ us hl => match us, hl with | [_, _], _ => rfl), t__law_divisor, rfl⟩
    · exact ⟨p__law_lowest, s__law_lowest, f16, _, N__law_lowest, 100, c__law_lowest, F16, sc__law_lowest, PySem.W.mg_of X G a16, k16, F16.binds (ps := p__law_lowest) (fun _ _ _ _ _ _ us hl => match us, hl with | [_, _, _], _ => rfl), t__law_lowest, rfl⟩
    · exact ⟨p__law_shifted, s__law_shifted, f17, _, N__law_shifted, 100, c__law_shifted, F17, sc__law_shifted, PySem.W.mg_of X G a17, k17, F17.binds (ps := p__law_shifted) (fun _ _ _ _ _ _ us hl => match us, hl with | [_, _], _ => rfl), t__law_shifted, rfl⟩
    · exact ⟨p_law, s_law, fa, _, N_law, 100, c_law, F18, sc_law, PySem.W.mg_of X G a18, k18, F18.binds (ps := p_law) (fun _ _ _ _ _ _ us hl => match us, hl with | [_], _ => rfl), t_law, rfl⟩
  refine ⟨PySem.W.fnOf "law" "law" (defArgs s_law) (defBody s_law) (defScope s_law) .none kV18 dc18 pm18 an18 cd18 ct18, fun s v => .of_eq rfl, fun base _ _ => ?_⟩
  exact (law_ok (k := 7) ⟨hT, fun g hg => by simp [T] at hg, fun C m c hc => by simp [T] at hc, fun g C f hc => by simp [T] at hc, fun C f hc => by simp [T] at hc, hb, by decide, fun g hg => by simp [T] at hg, fun _ => PySem.W.mg_of X G z_gcd, fun _ => ⟨rfl, rfl⟩⟩ F18 sc_law t_law rfl)
end QL
open PySem PySem.W PyProof.Rows
set_option maxHeartbeats 0 in
theorem PySem.Challenge.cw_everyfuture_k25_sections_holds : PySem.Challenge.rw_everyfuture_k25_sections.Holds := by
  w_on; o_law; k_head; (case hw => w_witness2)
  k_fill
  refine QL.walkR (l := PySem.Challenge.rw_everyfuture_k25_sections) (n := 63) (k := 9) (x := "_law_script")  (sp := fun w => QL.SpE _ (QL.evF QL.T 8 "law")) rfl (by decide) rfl ⟨rfl, by decide, by decide⟩ (fun w h Y => PySem.W.kIn_of Y) ?F (fun w H a ns hl _ hS => QL.law_sp hS (QL.law_true ns hl) fun v H' e => e) (fun _ _ _ _ _ h => by obtain ⟨_, _, _, _, _, _, _, _, _, _, _, _, z⟩ := h; exact z)
  case F =>
    intro w mg fa h KX G hmg
    refine' QL.all_mk KX G hmg ?a0 ?l0 ?c0 ?k0 ?a1 ?l1 ?c1 ?k1 ?a2 ?l2 ?c2 ?k2 ?a3 ?l3 ?c3 ?k3 ?a4 ?l4 ?c4 ?k4 ?a5 ?l5 ?c5 ?k5 ?a6 ?l6 ?c6 ?k6 ?a7 ?l7 ?c7 ?k7 ?a8 ?l8 ?c8 ?k8 ?a9 ?l9 ?c9 ?k9 ?a10 ?l10 ?c10 ?k10 ?a11 ?l11 ?c11 ?k11 ?a12 ?l12 ?c12 ?k12 ?a13 ?l13 ?c13 ?k13 ?a14 ?l14 ?c14 ?k14 ?a15 ?l15 ?c15 ?k15 ?a16 ?l16 ?c16 ?k16 ?a17 ?l17 ?c17 ?k17 ?a18 ?l18 ?c18 ?k18 ?z_gcd ?z_len ?z_int ?z_sum ?z_any ?z_all ?z_list ?z_tuple ?z_max ?z_min ?z_isinstance ?z_bool ?z_str ?z_dict ?z_range ?z_sorted ?z_enumerate ?z_abs ?z_repr
    (case a0 => k_is); (case l0 => k_is); (case c0 => k_is); (case k0 => k_is); (case a1 => k_is); (case l1 => k_is); (case c1 => k_is); (case k1 => k_is); (case a2 => k_is); (case l2 => k_is); (case c2 => k_is); (case k2 => k_is); (case a3 => k_is); (case l3 => k_is); (case c3 => k_is); (case k3 => k_is); (case a4 => k_is); (case l4 => k_is); (case c4 => k_is); (case k4 => k_is); (case a5 => k_is); (case l5 => k_is); (case c5 => k_is); (case k5 => k_is); (case a6 => k_is); (case l6 => k_is); (case c6 => k_is); (case k6 => k_is); (case a7 => k_is); (case l7 => k_is); (case c7 => k_is); (case k7 => k_is); (case a8 => k_is); (case l8 => k_is); (case c8 => k_is); (case k8 => k_is); (case a9 => k_is); (case l9 => k_is); (case c9 => k_is); (case k9 => k_is); (case a10 => k_is); (case l10 => k_is); (case c10 => k_is); (case k10 => k_is); (case a11 => k_is); (case l11 => k_is); (case c11 => k_is); (case k11 => k_is); (case a12 => k_is); (case l12 => k_is); (case c12 => k_is); (case k12 => k_is); (case a13 => k_is); (case l13 => k_is); (case c13 => k_is); (case k13 => k_is); (case a14 => k_is); (case l14 => k_is); (case c14 => k_is); (case k14 => k_is); (case a15 => k_is); (case l15 => k_is); (case c15 => k_is); (case k15 => k_is); (case a16 => k_is); (case l16 => k_is); (case c16 => k_is); (case k16 => k_is); (case a17 => k_is); (case l17 => k_is); (case c17 => k_is); (case k17 => k_is); (case a18 => k_is); (case l18 => k_is); (case c18 => k_is); (case k18 => k_is); (case z_gcd => k_is); (case z_len => k_is); (case z_int => k_is); (case z_sum => k_is); (case z_any => k_is); (case z_all => k_is); (case z_list => k_is); (case z_tuple => k_is); (case z_max => k_is); (case z_min => k_is); (case z_isinstance => k_is); (case z_bool => k_is); (case z_str => k_is); (case z_dict => k_is); (case z_range => k_is); (case z_sorted => k_is); (case z_enumerate => k_is); (case z_abs => k_is); (case z_repr => k_is)
